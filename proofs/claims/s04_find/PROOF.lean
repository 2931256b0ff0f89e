import PyProof.Rows.All
import Wide.All
import OpenK.AllK
import Wide.FinOn
import PyProof.EqAt
import PyProof.EqKinds
import PyProof.TupleCall
import KE.BitLaws
import Open.SpecLaws
import KE.OsHead
import KE.OsGo
import KE.KLam
import PySem.Challenge.RW_flagbooks_s04_find
set_option linter.all false
open Array renaming mk→Hb,length_toList→JV,toList→MU,getElem?_eq_none→Tc
open Bool renaming false_ne_true→Af,and_eq_true→BI,false_and→Ce,true_and→Cq,eq_iff_iff→C3,noConfusion→C4,false_eq_true→Dt,and_false→GP,eq_false_iff→GQ,false_or→GR,and_eq_true_iff→JW,or_eq_true→MV,true_or→MW
open Except renaming error→CM
open False renaming elim→BL
open FlagCNeutral renaming text?→JX,nats?→MX,callOf→Td
open Flags renaming Kind→AM,Locker→Ag,Bytes→Aj,Entry→Ax,ascii→Az,cutAt→Br,wordName→Bt,kindIn→Cf,kindOf→C6,isName→DY,judge→DZ,digitOf→Ei,partAt→Ej,wrongBehind→Ek,Role→FJ,rowBefore→FL,LONG→GS,entryIn→GU,lookIn→GV,shapeOf→GW,Book→Hc,hexValue→Hd,isMeaning→He,LOOKED→JY,SIGNS→Mb,judgeLines→Mc,nameIn→Md,noTwoBlanks→Tf
open Flags.Kind renaming isSign→C5,role→Te
open Flags.Locker renaming rowIn→FI,entryRow→MY,find→MZ,points→Ma
open Flags.Role renaming sign→FK
open FlagsC3 renaming answer→JZ
open ForInStep renaming yield→Ja
open Int renaming toNat_natCast→FN,toNat_of_nonneg→Tg
open Int.ofNat renaming inj→Jb
open List renaming length_map→AG,mem_cons→AS,mem_cons_self→AU,getElem?_map→Ah,mem_cons_of_mem→Ao,map_cons→Au,mem_singleton→A4,getElem?_eq_getElem→BD,length_append→BO,mem_map→BP,getElem?_eq_some_iff→Bf,size_toArray→Bg,length_cons→Bu,mem_of_getElem?→CN,map_append→CV,range→CW,all_eq_true→Cg,mem_filter→Ci,append_nil→C7,length_singleton→C8,mem_append→C9,nodup_cons→DA,any_cons→DL,map_congr_left→DM,any_eq_false→Dc,lookup_cons→Dd,not_mem_nil→De,find?_cons→Du,sum_cons→Dv,length_take→EG,mem_append_right→EH,pairwise_cons→EI,all_map→El,filter_cons→En,getD_eq_getElem?_getD→Eo,lookup→Ep,cons_append→FO,mapM_cons→FP,map_nil→FQ,mem_iff_getElem?→FR,all_cons→GX,any_map→GY,length→GZ,any_eq_true→Hf,drop_eq_getElem_cons→Hg,drop_of_length_le→Hi,getElem?_append_right→Hj,mapM→Hk,mem_append_left→Hl,mem_eraseDups→Hm,of_mem_zip→Hn,dropLast_concat_getLast→Jd,filter_cons_of_neg→Je,filter_cons_of_pos→Jg,filter_sublist→Jh,getElem?_append_left→Ji,getElem?_cons_succ→Jj,length_drop→Jk,length_eq_zero_iff→Jn,length_filter_le→Jo,map_map→Jq,nodup_nil→Jr,range_succ_eq_map→Jt,take_length→Ju,count_cons_of_ne→Mf,filterMap_cons→Mg,filter_congr→Mh,filter_eq_nil_iff→Mi,findIdx?_eq_some_iff_getElem→Mj,forall_mem_cons→Ml,getElem?_cons_zero→Mm,getElem?_set_ne→Mn,getElem?_set_self→Mo,getElem_mem→Mp,getLast?_eq_none_iff→Mq,length_range→Mr,mem_range→Ms,pairwise_append→Mt,pairwise_lt_range→Mu,take_sublist→Mv,Pairwise→Th,count_append→Ti,drop_length→Tj,filter_append→Tn,filter_eq_self→To,filter_map→Tq,find?_eq_none→Tr,find?_some→Ts,foldr_cons→Tt,getElem?_eq_none→Tu,getElem?_take_of_lt→Tv,getElem_inj→Tw,idxOf_lt_length_iff→Tx,mem_filterMap→Tz,mem_of_find?_eq_some→T1,nil_append→T2,pairwise_iff_getElem→T3,pairwise_singleton→T4,take_of_length_le→T5
open List.Pairwise renaming filter→Me
open List.cons renaming inj→Em
open Nat renaming le_refl→AV,zero_le→A5,ne_of_lt→BM,lt_of_lt_of_le→BV,le_trans→Bb,lt_irrefl→Cr,zero_add→EJ,le_of_eq→Ho,le_of_lt→Hq,not_lt_zero→Hr,zero_min→Hs,le_of_succ_le→Jv,lt_succ_iff_lt_or_eq→Jw,lt_succ_of_lt→Jx,ne_of_gt→Jy,sub_self→Jz,succ→J1,zero_sub→J2,add_le_add_left→Mw,le_add_right→Mx,lt_succ_self→Mz,min_eq_left→M0,min_le_left→M3,le_antisymm→T6,pos_of_ne_zero→T7,succ_ne_self→T8
open Ne renaming symm→Ap
open Option renaming map_some→FT,map_eq_some_iff→Ga,none→J3,getD_none→M4,isSome_iff_exists→T9,isSome_map→UA,isSome_some→UB
open Option.some renaming inj→Ae,injEq→UC
open Or renaming inl→AZ,inr→Df
open PyProof.Rows renaming int_at→Dx,boot_ord→Gb,boot_all→Ht,callWith_type1→Hu,take_snoc→Hv,Subscript_→M5,all_range→M6,any_range→M7,intsAre_of→M8,gt_int→UD
open PySem renaming wpAny_bind→AF,wpAny_pure→AQ,boot_len→BW,mem_of_lookup→Bi,wpAny_loadPart'→Bw,wpAny_mono→Cu,wpAny_truthy_bool→EM,codeAny_mono→FZ,wpAny_Call_Name_kw→Fc,wpAny_call_entry→Fd,wpAny_field→Fe,wpAny_callSpecial?_slot→Gk,wpAny_newObj_type→Gm,call_meetsIn→Hx,tupleKind_room_in1→Hy,wpAny_passesOwn→Hz,Within→KH,call_meets→KI,pushCells_keeps→KJ,sizeLine_eq→KL,wpAny_dictEntries→KN,wpAny_pyIter_enum→KP,wpAny_seqItems→KQ,wpAny_setField→KR,wpAny_typeNameOfWhole_keyiter→KS,wpAny_typeNameOf_keyiter→KU,call→NW,wpAny_Name→NX,wpAny_call→NY,wpAny_dictEpoch→NZ,wpAny_execs_nil→Na,wpAny_holding→Nb,wpAny_listPart→Nc,wpAny_of_eq→Nd,wpAny_pyIter_tuple→Nf,codeAny_builtin→Ut,richCompare_meets_room→Uu,slot_list_getitem→Uv,slot_list_setitem→Uw,wpAny_Call_method→Ux,wpAny_Dict_empty→Uy,wpAny_execs_cons→Uz,wpAny_isOneOf_keyiter→U0,wpAny_isTrue_Compare1→U1,wpAny_letOwnedTupleGo_enum→U2,wpAny_pyIter_list→U3,wpAny_pyIter_revIter→U4,wpAny_pyIter_slot→U5,wpAny_specialOf→U6
open PySem.Around renaming under→M9,frames_deeper→UE,under_plainId→UG
open PySem.Builtin.Dict renaming showsAll→UH
open PySem.Builtin.Dict_items renaming ownsTuple→UI
open PySem.Builtin.List renaming listTooLong→NA,listAllItems→UJ,listSameRef→UK,listSubscript?→UL
open PySem.Builtin.SmallTypes renaming nextOf→J4
open PySem.Calls renaming spliced_cons→J5,callWith_builtin→NB,evalArgs_plain→NC,spliced_nil→ND,Name_function_global→UM
open PySem.Challenge renaming rw_flagbooks_s04_find→Aa,pw_flagbooks_s04_find→Dy
open PySem.Code renaming isFrame→NF
open PySem.F renaming plainAttrs_list→Er,slot_dict_get→Ge,slot_dict_keyiterator_next→Gf,slot_list_append→Gg,type_list_append→Gh,entry_dict_get→J6,slot_tuple_iterator_next→J7,args_dict_get_2→UN,args_dict_get_3→UO,args_dict_keyiterator_next_1→UP,args_tuple_iterator_next_1→UQ,entry_dict_keyiterator_next→UR,entry_tuple_iterator_next→US,plainAttrs_dict→UT,slot_dict_iter→UU,slot_dict_keyiterator_iter→UW,slot_dict_len→UX,slot_list_count→UY,slot_list_index→UZ,type_dict_get→Ua
open PySem.Heap renaming lt_size→Aq,get?_push_of_some→BE,get?_push_size→BQ,size_push→Cs,SameBut→Gi,get?_update_self→Ub
open PySem.Heap.SameBut renaming update→J8
open PySem.IsL renaming isList→Uc
open PySem.MeetsSeq3 renaming plain_eq_loop→J9,entry_eq_loop→Ud
open PySem.NameKind renaming free→EK,cell→NG
open PySem.Obj renaming data_mapFields→KA,mapSeq→NH,cls_mapFields→Ue,isFreed_of_fields→Ug
open PySem.Paired renaming length→FU
open PySem.PassesOwn renaming never→FV
open PySem.PyData renaming int→Ct,eqv→Es,canLayAll0→NI,depthAll→NJ
open PySem.SeqAt renaming EqAt→Bv,shaped→Hw,canLay_of_shaped→KC,eqAt_reads→Uk,room_of_shaped→Ul
open PySem.SeqAt.EqAt renaming int_int→Uh,int_str→Ui,str_int→Uj
open PySem.Str renaming ofString→Dz,empty→NK
open PySem.Value renaming ref→A0,none→DB,bool→DN,type→D0,int→KD,str→KG
open PySem.W renaming Frag→AA,emptyDict→EL,instObj→Et,findIn→FW,keepIn→FX,mg_of→FY,fnOf→Gj,callWith_K→NM,codeIn→NN,hasDictIn→NP,lookIn→NQ,methodObj→NR,plainGet→NS,tabIn→NT,tab_of→NU,takerIn→NV,WRecords→Um,cellsFrom_some→Uo,handedIn→Up,length_le_weightAllW→Uq,makesIn→Ur,plainOver→Us
open PySem.W.KFB renaming if_not→NL
open Sum renaming inl→As,inr→Eu
open Sum.inl renaming inj→IA
open True renaming intro→Gn
open UInt8 renaming ofNat→DO
set_option Elab.async false
section
set_option maxRecDepth 100000
set_option maxHeartbeats 4000000
namespace Fb
open PySem PySem.W PySem.Calls PyProof.Rows
noncomputable def JE (tb:String→Option Builtin) (p:Program) (w:World) (n₀:Nat) (ann:Option Value) (n:Nat):SharedT→Thread→Option SharedT :=
 @Nat.rec (fun _=>SharedT→Thread→Option SharedT) (fun _ _=>none)
  (fun _ ih s t=>match through t with
   | true=>some s
   | false=>match stepOk n₀ ann t with
    | false=>none
    | true=>match stepT (denote tb) p w s t with
     | some (s',t')=>ih s' t'
     | none=>none) n
theorem Qi {tb:String→Option Builtin}{p:Program}{w:World}{n₀:Nat}{ann:Option Value}:∀(n:Nat) (s r:SharedT) (t:Thread),JE tb p w n₀ ann n s t=some r→topRun tb p w n₀ ann n s.abs t=some r.abs
 | 0,_,_,_,h=>nomatch (show none=some _ from h)
 | n+1,s,r,t,h=>by
  have h:(match through t with
   | true=>some s
   | false=>match stepOk n₀ ann t with
    | false=>none
    | true=>match stepT (denote tb) p w s t with
     | some (s',t')=>JE tb p w n₀ ann n s' t'
     | none=>none)=some r:=h
  unfold topRun
  cases ht:through t with
  | true=>rw[ht] at h;cases h;rfl
  | false =>
   rw[ht] at h
   cases hk:stepOk n₀ ann t with
   | false=>rw[hk] at h;cases h
   | true =>
    rw[hk] at h
    cases hs:stepT (denote tb) p w s t with
    | none=>rw[hs] at h;cases h
    | some r' =>
     obtain⟨s₂,t₂⟩:=r'
     rw[hs] at h
     rw[stepT_spec hs]
     exact Qi n _ _ _ h
noncomputable def Zf (l:List Obj):Nat→BT→BT:=@List.rec Obj (fun _=>Nat→BT→BT) (fun _ t=>t) (fun o _ ih n t=>ih (J1 n) (t.ins n o)) l
noncomputable def N3 (P:Params):BT:=Zf (boot_heap P).objs.toList 0 .nil
noncomputable def IG (w:World) (os:OsState):SharedT:=⟨N3 w.params,(boot_heap w.params).objs.size,(boot_heap w.params).life,Hb [],boot_drawn,boot_toks,os⟩
theorem VR (P:Params):absHeap (N3 P) (boot_heap P).objs.size (boot_heap P).life=boot_heap P:=by kernel_rfl
noncomputable def runA (p:Program) (N n₀:Nat) (ann:Option Value) (w:World) (os:OsState) {α:Type} (f:Shared→α):Option α:=(JE treeTable p w n₀ ann N (IG w os) (topStub p)).map fun s=>f s.abs
theorem runA_rfl:@runA=@runA:=rfl
noncomputable def look1 (p:Program) (w:World) (s:Shared):Bool:=staticsOk (importedModules p.main.body) (boot_heap w.params) s.heap&&namesBound p s.heap&&gensDone s&&laidKept (boot_heap w.params) s.heap
theorem look1_rfl:@look1=@look1:=rfl
noncomputable def look2 (q:Program) (s:Shared):=seen ((recsOf q).map (·.name)) (ownsOf q) [] { s with gens:=#[] }
theorem look2_rfl:@look2=@look2:=rfl
noncomputable def look3 (q:Program) (loose mods:List Str) (Xt:Shared→Bool) (s:Shared):=(s.heap.bltView,s.heap.keysOk (looseW q loose) ((recsOf q).map (·.name)) ((litsOf q).map (·.1)) ((clssOf q (looseW q loose)).map (·.name))&&s.heap.accountedOkI mods&&s.heap.isNs mainGlobals&&s.heap.isNs builtinsNs&&tablesOk q s.heap&&Xt s&&(s.gens.size==0),tabsOk q s)
theorem look3_rfl:@look3=@look3:=rfl
noncomputable def look4 (q:Program) (loose:List Str) (s:Shared):=(pinSeenD q (drecsOf q) s,plainSeenE q (looseW q loose) s,plainSeenD q loose s,wideSeen q s,clsSeenW q loose s)
theorem look4_rfl:@look4=@look4:=rfl
theorem JD {p:Program}{N n₀:Nat}{ann:Option Value}{w:World}{os:OsState}{α:Type}{f:Shared→α}{a:α}{s:SharedT} (hr:JE treeTable p w n₀ ann N (IG w os) (topStub p)=some s) (h:runA p N n₀ ann w os f=some a):f s.abs=a:=by
 unfold runA at h
 rw[hr] at h
 exact Ae h
theorem Wx {p q:Program}{loose:List Str}{Xt:Shared→Bool}{α:Type}{Yf:Shared→α}{Ya:World→α}{N n₀:Nat}{ann:Option Value}
  (e:opening p=plainProg p.main.scope.names) (hN:Nat.ble 600 N=true) (f:∀s,fenceModules? p s=some s)
  (size:∀P:Params,((boot_heap P).isNs mainGlobals,(boot_heap P).objs.size,(boot_heap P).nsMap mainGlobals "__annotations__")=(true,n₀,ann))
  (h1:∀w os,runA p N n₀ ann w os (look1 p w)=some true) (h2:∀w os,runA p N n₀ ann w os (look2 q)=some (expectedOf q))
  (h3:∀w os,runA p N n₀ ann w os (look3 q loose (importedModules p.main.body) Xt)=some (bltViewBooted,true,true))
  (h4:∀w os,runA p N n₀ ann w os (look4 q loose)=some (pinGoodD (drecsOf q),plainGoodE q (looseW q loose),plainGoodD q loose,wideGood q,clsGoodW q loose))
  (h5:∀w os,runA p N n₀ ann w os Yf=some (Ya w)):LeftO p q loose Xt Yf Ya N:=fun w=>by
 obtain⟨⟨hp,gs,d,k,os⟩,e1,e2⟩:=Ga.mp (boot_open e hN f w)
 obtain⟨rfl,rfl,rfl,rfl⟩:hp=boot_heap w.params∧gs=Hb []∧d=boot_drawn∧k=boot_toks:=by simpa using e2
 obtain⟨z1,z2,z3⟩:_∧_∧_:=by simpa only [Prod.mk.injEq] using size w.params
 obtain⟨s,hr,l1⟩:=Ga.mp (h1 w os)
 have l2:=JD hr (h2 w os)
 have l3:=JD hr (h3 w os)
 have l4:=JD hr (h4 w os)
 have l5:=JD hr (h5 w os)
 have r:=Qi _ _ _ _ hr
 have ea:(IG w os).abs=⟨boot_heap w.params,Hb [],boot_drawn,boot_toks,os⟩:=by
  unfold IG SharedT.abs
  dsimp only
  rw[VR]
 rw[ea] at r
 have t:topFrom treeTable p w N ⟨boot_heap w.params,Hb [],boot_drawn,boot_toks,os⟩=some s.abs:=by
  unfold topFrom
  dsimp only
  rw[z1,z2,z3,r]
  show(match look1 p w s.abs with | true=>_ | false=>_)=_
  rw[l1]
 unfold openEnds
 rw[e1]
 show(topFrom treeTable p w N ⟨boot_heap w.params,Hb [],boot_drawn,boot_toks,os⟩).map _=_
 rw[t]
 show some ((look2 q s.abs,(look3 q loose (importedModules p.main.body) Xt s.abs).1,(look3 q loose (importedModules p.main.body) Xt s.abs).2.1,(look3 q loose (importedModules p.main.body) Xt s.abs).2.2,look4 q loose s.abs),Yf s.abs)=_
 rw[l2,l3,l4,l5]
 rfl
end Fb
name_quick runAQ for Fb.runA by Fb.runA_rfl
name_quick look1Q for Fb.look1 by Fb.look1_rfl
name_quick look2Q for Fb.look2 by Fb.look2_rfl
name_quick look3Q for Fb.look3 by Fb.look3_rfl
name_quick look4Q for Fb.look4 by Fb.look4_rfl
end
section
set_option maxRecDepth 100000
set_option maxHeartbeats 4000000
namespace Fb
open PySem PySem.W PySem.Calls PyProof.Rows
def looseN:List Str:=["take_line_books","take_line_lockers"]
def lvN:List (Str×WData):=[]
def viewN:Program:=view Dy [1,2,3,4,6,7,8,9,10,11,12,13,14,15,16,17,19,20,21,22,23,24,25,26,27,28,29,30,31,32,33,34,35,36,37,38,39,40,41,42,44,45,46,48,49,51,52,53,54,55,56,57,58,59,60,61,62,63,64,65,66,67,68,69,70,71,72,73,74,75,76,77,79,80,81,82,83,84,85,86,87,88,89]
def stepsN:Nat:=5768
def xtN (s:Shared):Bool:=xlAt viewN lvN s&&recOk [] s
theorem YA (w:World) (os:OsState):PySem.W.Fast.runAQ Dy 5768 11 (some (.ref 6)) w os (PySem.W.Fast.look1Q Dy w)=some true:=by kernel_rfl
theorem YB (w:World) (os:OsState):PySem.W.Fast.runAQ Dy 5768 11 (some (.ref 6)) w os (PySem.W.Fast.look2Q viewN)=some (expectedOf viewN):=by kernel_rfl
theorem YC (w:World) (os:OsState):PySem.W.Fast.runAQ Dy 5768 11 (some (.ref 6)) w os (PySem.W.Fast.look3Q viewN looseN (importedModules Dy.main.body) xtN)=some (bltViewBooted,true,true):=by kernel_rfl
theorem YD (w:World) (os:OsState):PySem.W.Fast.runAQ Dy 5768 11 (some (.ref 6)) w os (PySem.W.Fast.look4Q viewN looseN)=some (pinGoodD (drecsOf viewN),plainGoodE viewN (looseW viewN looseN),plainGoodD viewN looseN,wideGood viewN,clsGoodW viewN looseN):=by kernel_rfl
end Fb
end
section
set_option maxRecDepth 100000
namespace L2
open PySem PySem.Spec PyProof.Rows
abbrev Key:=Sum Int Str
def EW:Key→Value→Bool
 | .inl k,v=>Value.isInt k v
 | .inr x,v=>Value.isStrOf x v
def Wh (w:World):Key→Int
 | .inl k=>hashInt k
 | .inr x=>hashStr w x
theorem Dk:∀{k:Key}{v:Value},EW k v=true→(∃i t,k=As i∧v=KD i t)∨(∃x t,k=Eu x∧v=KG x t)
 | .inl i,v,h=>by
  obtain⟨t,e⟩:=Value.isInt_shape (k:=i) (v:=v) h
  exact .inl ⟨i,t,rfl,e⟩
 | .inr x,v,h=>by
  obtain⟨t,e⟩:=Value.isStrOf_shape (x:=x) (v:=v) h
  exact .inr ⟨x,t,rfl,e⟩
theorem Wi (i:Int) (t:Tok):EW (.inl i) (.int i t)=true:=by simp[EW,Value.isInt]
theorem Wj (x:Str) (t:Tok):EW (.inr x) (.str x t)=true:=by simp[EW,Value.isStrOf]
theorem Wk (a b:Int):decide ((As a:Key)=As b)=(a==b):=by
 by_cases e:a=b
 ·subst e;simp
 ·have h:¬(As a:Key)=As b:=fun q=>e (IA q)
  rw[decide_eq_false h]
  exact(beq_eq_false_iff_ne.mpr e).symm
theorem Wn (a b:Str):decide ((Eu a:Key)=Eu b)=decide (a=b):=by
 by_cases e:a=b
 ·subst e;simp
 ·have h:¬(Eu a:Key)=Eu b:=fun q=>e (Eu.inj q)
  rw[decide_eq_false h,decide_eq_false e]
theorem Wl (a:Int) (b:Str):decide ((As a:Key)=Eu b)=false:=decide_eq_false (fun q=>nomatch q)
theorem Wm (a:Str) (b:Int):decide ((Eu a:Key)=As b)=false:=decide_eq_false (fun q=>nomatch q)
def CD (prog:Program) (w:World):PySem.KeyKind prog w Key where
 is:=EW
 hash:=Wh w
 inj:=fun v a b ha hb=>by
  rcases Dk ha with ⟨i,t,rfl,rfl⟩ | ⟨x,t,rfl,rfl⟩
  ·rcases Dk hb with ⟨j,u,rfl,e⟩ | ⟨y,u,rfl,e⟩
   ·injection e with e1 _;rw[e1]
   ·exact nomatch e
  ·rcases Dk hb with ⟨j,u,rfl,e⟩ | ⟨y,u,rfl,e⟩
   ·exact nomatch e
   ·injection e with e1 _;rw[e1]
 byValue:=fun k v h=>by
  rcases Dk h with ⟨i,t,rfl,rfl⟩ | ⟨x,t,rfl,rfl⟩ <;> rfl
 pyHash:=fun hv h=>by
  rcases Dk hv with ⟨i,t,rfl,rfl⟩ | ⟨x,t,rfl,rfl⟩
  ·exact wpAny_pyHash_int h
  ·exact wpAny_pyHash_str h
 eqBool:=fun hu hv h=>by
  rcases Dk hu with ⟨i,t,rfl,rfl⟩ | ⟨x,t,rfl,rfl⟩
  ·rcases Dk hv with ⟨j,u,rfl,rfl⟩ | ⟨y,u,rfl,rfl⟩
   ·rw[Wk] at h;exact wpAny_eqBool_int h
   ·rw[Wl] at h;exact Ui i t y u _ _ _ _ h
  ·rcases Dk hv with ⟨j,u,rfl,rfl⟩ | ⟨y,u,rfl,rfl⟩
   ·rw[Wm] at h;exact Uj x t j u _ _ _ _ h
   ·rw[Wn] at h;exact wpAny_eqBool_str h
 «strs»:=fun k x t v h=>by
  rcases Dk h with ⟨i,u,rfl,e⟩ | ⟨y,u,rfl,e⟩
  ·exact nomatch e
  ·injection e with e1 _
   subst e1
   cases v <;> rfl
theorem XB (prog:Program) (w:World) (i:Int) (t:Tok):(CD prog w).is (.inl i) (.int i t)=true:=Wi i t
theorem XC (prog:Program) (w:World) (x:Str) (t:Tok):(CD prog w).is (.inr x) (.str x t)=true:=Wj x t
end L2
namespace L2
open PySem PySem.Spec PyProof.Rows
inductive V where
 | non | bl (b:Bool) | int (i:Int) | str (x:Str) | byt (b:Array UInt8) | flt (b:UInt64) | ref (a:Addr) | ty (n:String)
 deriving DecidableEq
def RelV:V→Value→Prop
 | .non,u=>u=DB
 | .bl b,u=>u=DN b
 | .int i,u=>∃t,u=KD i t
 | .str x,u=>∃t,u=KG x t
 | .byt b,u=>∃t,u=Value.bytes b t
 | .flt b,u=>∃t,u=Value.float b t
 | .ref a,u=>u=A0 a
 | .ty n,u=>u=D0 n
abbrev Vals:List V→List Value→Prop:=Paired RelV
theorem Vals.length {xs:List V}{us:List Value} (r:Vals xs us):xs.length=us.length:=FU r
theorem Vals.get:∀{xs:List V}{us:List Value}{i:Nat}{x:V},Vals xs us→xs[i]?=some x→∃u,us[i]?=some u∧RelV x u
 | _,_,_,_,.nil,e=>by simp at e
 | _,_,0,_,.cons r _,e=>by simp at e;subst e;exact⟨_,rfl,r⟩
 | _,_,i+1,x,.cons _ t,e=>by
  obtain⟨u,h1,h2⟩:=Vals.get (i:=i) (x:=x) t (by simpa using e)
  exact⟨u,by simpa using h1,h2⟩
theorem Vals.append:∀{xs ys:List V}{us ws:List Value},Vals xs us→Vals ys ws→Vals (xs++ys) (us++ws)
 | _,_,_,_,.nil,s=>s
 | _,_,_,_,.cons r t,s=>.cons r (Vals.append t s)
theorem Vals.take:∀{xs:List V}{us:List Value} (n:Nat),Vals xs us→Vals (xs.take n) (us.take n)
 | _,_,0,_=>.nil
 | _,_,_+1,.nil=>.nil
 | _,_,n+1,.cons r t=>.cons r (Vals.take n t)
theorem Vals.drop:∀{xs:List V}{us:List Value} (n:Nat),Vals xs us→Vals (xs.drop n) (us.drop n)
 | _,_,0,r=>r
 | _,_,_+1,.nil=>.nil
 | _,_,n+1,.cons _ t=>Vals.drop n t
def RelO:Option V→Option Value→Prop
 | some v,some u=>RelV v u
 | none,none=>True
 | _,_=>False
def KV {κ:Type}:List (κ×V)→List (κ×Value)→Prop:=Paired fun (p:κ×V) (q:κ×Value)=>p.1=q.1∧RelV p.2 q.2
def kV:Key→V
 | .inl i=>.int i
 | .inr x=>.str x
inductive HO where
 | lst (xs:List V)
 | tup (xs:List V)
 | dK (kvs:List (Key×V)) | dT (kvs:List (List Key×V))
 | set (S:Int→Bool) (n:Nat)
 | ins (C dx:Addr) (fs:List (Str×V))
 | own (x:Addr)
 | xd (fs:List (Str×V))
 | met (f x:Addr)
 | rng (lo hi:Int)
 | frz (o:Obj) (u:HO)
 | tbl (ps:Array Value)
 | ext (φ:Heap→Prop)
abbrev Hp:=Addr→Option HO
def upd (H:Hp) (a:Addr) (o:HO):Hp:=fun b=>if b=a then some o else H b
theorem AI {H:Hp}{a:Addr}{o:HO}:upd H a o a=some o:=by unfold upd;rw[if_pos rfl]
theorem AE {H:Hp}{a b:Addr}{o:HO} (h:b≠a):upd H a o b=H b:=by unfold upd;rw[if_neg h]
theorem FG {H:Hp}{a:Addr}{o u:HO}:upd (upd H a o) a u=upd H a u:=by
 funext b;unfold upd;split <;> rfl
theorem Bc {H:Hp}{a b:Addr}{o u:HO} (h:H a=some o) (h':H b=some u) (d:o≠u):a≠b:=by
 intro e;subst e;rw[h] at h';exact d (Ae h')
theorem Am {H:Hp}{a b:Addr}{o:HO} (h:H a=some o) (h':H b=none):a≠b:=by
 intro e;subst e;rw[h] at h';cases h'
section
variable (P:Program) (w:World)
def ObjOk (H:Hp) (h:Heap) (a:Addr):HO→Prop
 | .lst xs=>xs.length≤sizeLine∧∃(its:List Value) (n:Nat),Vals xs its∧h.get? a=some { cls:=.type "list",data:=.seq its.toArray n }
 | .tup xs=>xs.length≤sizeLine∧∃its:List Value,Vals xs its∧IsTup h a its.toArray
 | .dK kvs=>kvs.length≤sizeLine∧(a==sysModules)=false∧∃vs,KV kvs vs∧h.DictOf (CD P w) a vs
 | .dT kvs=>kvs.length≤sizeLine∧(a==sysModules)=false∧∃xs:List (List Key×Addr×Value),
  Paired (fun (p:List Key×V) (q:List Key×Addr×Value)=>p.1=q.1∧H q.2.1=some (.tup (p.1.map kV))∧RelV p.2 q.2.2) kvs xs∧
  ∃o es ep,h.get? a=some o∧o.ExactDict∧o.data=.dict es ep∧es.toList=xs.map (entryOfKey (tupleKind (CD P w)))∧(xs.map (·.1)).Nodup
 | .set S n=>h.SetOf (intKind P w) a S n
 | .ins C dx fs=>H dx=some (.own a)∧fs.length≤1000∧dx≠a∧h.get? a=some (Et C dx)∧
  ∃mA,h.Ns1 dx mA∧(∀f,RelO (fs.lookup f) (mA f))∧KH mA (fs.map (·.1))
 | .own _=>∃o,h.get? a=some o
 | .xd fs=>∃mA,h.Ns1 a mA∧∀f,RelO (fs.lookup f) (mA f)
 | .rng lo hi=>∃t u v,h.get? a=some { cls:=.type "range",data:=.fields #[.int lo t,.int hi u,.int 1 v] }
 | .frz o u=>h.get? a=some o∧ObjOk H h a u
 | .tbl ps=>h.get? a=some { cls:=.none,data:=.fields ps }
 | .met f x=>h.get? a=some (NR (.ref f) (.ref x))
 | .ext φ=>φ h∧(∃o,h.get? a=some o)∧∀h1 h2:Heap,φ h1→(∀o,h1.get? a=some o→h2.get? a=some o)→φ h2
def HOk (H:Hp) (h:Heap):Prop:=∀a o,H a=some o→ObjOk P w H h a o
end
section
variable {P:Program}{w:World}{H H':Hp}{h h':Heap}{a:Addr}{o:HO}
theorem ObjOk.lt (x:ObjOk P w H h a o):a < h.objs.size:=by
 cases o with
 | lst xs=>obtain⟨_,_,_,_,e⟩:=x;exact Aq e
 | tup xs=>obtain⟨_,_,_,p⟩:=x;exact p.lt
 | dK kvs=>obtain⟨_,_,_,_,o,_,_,e,_⟩:=x;exact Aq e
 | dT kvs=>obtain⟨_,_,_,_,o,_,_,e,_⟩:=x;exact Aq e
 | set S n=>obtain⟨o,_,_,_,e,_⟩:=x;exact Aq e
 | ins C dx fs=>obtain⟨_,_,_,e,_⟩:=x;exact Aq e
 | own y=>obtain⟨_,e⟩:=x;exact Aq e
 | xd fs=>obtain⟨_,⟨_,_,_,e,_⟩,_⟩:=x;exact Aq e
 | rng lo hi=>obtain⟨_,_,_,e⟩:=x;exact Aq e
 | frz ob u=>obtain⟨e,_⟩:=x;exact Aq e
 | tbl ps=>exact Aq (show h.get? a=some _ from x)
 | met f y=>exact Aq (show h.get? a=some _ from x)
 | ext φ=>obtain⟨_,⟨_,e⟩,_⟩:=x;exact Aq e
theorem Paired.mapP {α β:Type}{F G:α→β→Prop}:∀{l₁:List α}{l₂:List β},Paired F l₁ l₂→(∀a b,F a b→G a b)→Paired G l₁ l₂
 | _,_,.nil,_=>.nil
 | _,_,.cons r t,f=>.cons (f _ _ r) (Paired.mapP t f)
theorem ObjOk.stay (x:ObjOk P w H h a o) (k:∀b u,(b=a∨H b=some (.own a))→h.get? b=some u→h'.get? b=some u)
  (ho:∀b,H b=some (.own a)→H' b=some (.own a)) (ht:∀b xs,H b=some (.tup xs)→H' b=some (.tup xs)):ObjOk P w H' h' a o:=by
 induction o with
 | lst xs=>obtain⟨z,its,n,r,e⟩:=x;exact⟨z,its,n,r,k _ _ (.inl rfl) e⟩
 | tup xs=>obtain⟨z,its,r,ob,e,c⟩:=x;exact⟨z,its,r,ob,k _ _ (.inl rfl) e,c⟩
 | dK kvs=>obtain⟨z,y,vs,r,ob,es,ep,e,c⟩:=x;exact⟨z,y,vs,r,ob,es,ep,k _ _ (.inl rfl) e,c⟩
 | dT kvs =>
  obtain⟨z,y,xs,r,ob,es,ep,e,c⟩:=x
  exact⟨z,y,xs,Paired.mapP r fun p q z=>⟨z.1,ht _ _ z.2.1,z.2.2⟩,ob,es,ep,k _ _ (.inl rfl) e,c⟩
 | set S n=>obtain⟨ob,es,ep,t,e,c⟩:=x;exact⟨ob,es,ep,t,k _ _ (.inl rfl) e,c⟩
 | ins C dx fs =>
  obtain⟨d,z,ne,e,mA,⟨od,es,ep,e2,c⟩,r⟩:=x
  exact⟨ho _ d,z,ne,k _ _ (.inl rfl) e,mA,⟨od,es,ep,k _ _ (.inr d) e2,c⟩,r⟩
 | own y=>obtain⟨ob,e⟩:=x;exact⟨ob,k _ _ (.inl rfl) e⟩
 | xd fs=>obtain⟨mA,⟨od,es,ep,e,c⟩,r⟩:=x;exact⟨mA,⟨od,es,ep,k _ _ (.inl rfl) e,c⟩,r⟩
 | rng lo hi=>obtain⟨t,u,v,e⟩:=x;exact⟨t,u,v,k _ _ (.inl rfl) e⟩
 | frz ob u ih=>obtain⟨e,q⟩:=x;exact⟨k _ _ (.inl rfl) e,ih q⟩
 | tbl ps =>
  have e:h.get? a=some { cls:=.none,data:=.fields ps }:=x
  show h'.get? a=some { cls:=.none,data:=.fields ps }
  exact k a _ (.inl rfl) e
 | met f y =>
  have e:h.get? a=some (NR (.ref f) (.ref y)):=x
  show h'.get? a=some (NR (.ref f) (.ref y))
  exact k a _ (.inl rfl) e
 | ext φ=>obtain⟨p,⟨o,e⟩,st⟩:=x;exact⟨st _ _ p fun o q=>k _ _ (.inl rfl) q,⟨o,k _ _ (.inl rfl) e⟩,st⟩
theorem HOk.lt (x:HOk P w H h) (e:H a=some o):a < h.objs.size:=(x a o e).lt
theorem HOk.fresh (x:HOk P w H h) (e:h.objs.size≤a):H a=none:=by
 cases q:H a with
 | none=>rfl
 | some u=>exact absurd (BV (x.lt q) e) (Cr _)
theorem HOk.kept (x:HOk P w H h) (k:∀b u,h.get? b=some u→h'.get? b=some u):HOk P w H h':=fun a o e =>
 (x a o e).stay (fun b u _ q=>k b u q) (fun _ q=>q) fun _ _ q=>q
theorem HOk.laid (x:HOk P w H h) (k:∀b u,h.get? b=some u→h'.get? b=some u) (hp:h.objs.size≤a) (new:ObjOk P w (upd H a o) h' a o):HOk P w (upd H a o) h':=fun b u e=>by
 have hn:=x.fresh hp
 by_cases hb:b=a
 ·subst hb;rw[AI] at e;cases e;exact new
 ·rw[AE hb] at e
  exact(x b u e).stay (fun c v _ q=>k c v q) (fun c q=>by rw[AE (Am q hn)];exact q) fun c xs q=>by rw[AE (Am q hn)];exact q
end
def Rd (H:Hp) (a:Addr) (u:HO):Prop:=H a=some u∨∃o,H a=some (.frz o u)
theorem Rd.of {H:Hp}{a:Addr}{u:HO} (h:H a=some u):Rd H a u:=.inl h
theorem Rd.ok {P:Program}{w:World}{H:Hp}{h:Heap}{a:Addr}{u:HO} (r:Rd H a u) (x:HOk P w H h):ObjOk P w H h a u:=by
 rcases r with r | ⟨o,r⟩
 ·exact x a u r
 ·obtain⟨_,q⟩:=x a _ r
  exact q
def Mut:Option HO→Prop
 | some (.lst _)=>True
 | some (.dK _)=>True
 | some (.dT _)=>True
 | some (.set _ _)=>True
 | some (.ins _ _ _)=>True
 | some (.ext _)=>True
 | _=>False
section
variable {P:Program}{w:World}{H:Hp}{h h':Heap}{x e:Addr}{o':HO}
theorem HOk.write (ok:HOk P w H h) (mu:Mut (H x)) (he:e=x∨H e=some (.own x)) (k:∀b u,b≠e→h.get? b=some u→h'.get? b=some u) (heo:∃u,h'.get? e=some u)
  (new:ObjOk P w (upd H x o') h' x o'):HOk P w (upd H x o') h':=fun b u q=>by
 have nown:∀c y,H c=some (.own y)→c≠x:=fun c y r z=>by subst z;rw[r] at mu;exact mu
 have ntup:∀c xs,H c=some (.tup xs)→c≠x:=fun c xs r z=>by subst z;rw[r] at mu;exact mu
 by_cases hb:b=x
 ·subst hb;rw[AI] at q;cases q;exact new
 ·rw[AE hb] at q
  by_cases hbe:b=e
  ·have q':H b=some (.own x):=by
    rcases he with z | z
    ·exact absurd (hbe.trans z) hb
    ·rw[hbe];exact z
   rw[q] at q';cases q'
   obtain⟨v,hv⟩:=heo
   exact⟨v,by rw[hbe];exact hv⟩
  ·refine(ok b u q).stay (fun c v hc r=>k c v ?_ r) (fun c r=>by rw[AE (nown c b r)];exact r) fun c xs r=>by rw[AE (ntup c xs r)];exact r
   rcases hc with rfl | hc
   ·exact hbe
   ·rintro rfl
    rcases he with z | z
    ·exact nown c b hc z
    ·rw[hc] at z;cases z;exact hb rfl
end
structure Un (fs ex:List Addr) (H H':Hp) (h h':Heap):Prop where
 keep:∀b o,h.get? b=some o→H b=none→b∉fs→b∉ex→h'.get? b=some o
 slot:∀b o,h.get? b=some o→H b=none→b∈fs→b∉ex→∃sl,h'.get? b=some { o with slots:=sl }
 free:∀b o,h.get? b=some o→H b=none→b∉ex→H' b=none
 there:∀b o,h.get? b=some o→b∉ex→∃o',h'.get? b=some o'
 tups:∀b xs,H b=some (.tup xs)→H' b=some (.tup xs)
 frzs:∀b o u,H b=some (.frz o u)→H' b=some (.frz o u)
 tbls:∀b ps,H b=some (.tbl ps)→∃more,H' b=some (.tbl (ps++more))
section
variable {fs fs' ex ex':List Addr}{H H1 H2:Hp}{h h1 h2 h':Heap}{a x e:Addr}{o:HO}
theorem Un.any (u:Un fs ex H H1 h h1) {b:Addr}{ob:Obj} (q:h.get? b=some ob) (n:H b=none) (hx:b∉ex):∃sl,h1.get? b=some { ob with slots:=sl }:=by
 by_cases hb:b∈fs
 ·exact u.slot b ob q n hb hx
 ·exact⟨ob.slots,u.keep b ob q n hb hx⟩
theorem Un.kept (k:∀b u,h.get? b=some u→h'.get? b=some u):Un fs ex H H h h' :=
 ⟨fun b ob q _ _ _=>k b ob q,fun b ob q _ _ _=>⟨ob.slots,k b ob q⟩,fun _ _ _ n _=>n,fun b ob q _=>⟨ob,k b ob q⟩,fun _ _ q=>q,fun _ _ _ q=>q,fun _ ps q=>⟨#[],by rw[q];simp⟩⟩
theorem Un.refl:Un fs ex H H h h:=Un.kept fun _ _ q=>q
theorem Un.laid (k:∀b u,h.get? b=some u→h'.get? b=some u) (hp:h.objs.size≤a) (hn:H a=none):Un fs ex H (upd H a o) h h' where
 keep:=fun b u q _ _ _=>k b u q
 slot:=fun b u q _ _ _=>⟨u.slots,k b u q⟩
 free:=fun b u q n _=>by rw[AE (BM (BV (Aq q) hp))];exact n
 there:=fun b u q _=>⟨u,k b u q⟩
 tups:=fun b xs q=>by rw[AE (Am q hn)];exact q
 frzs:=fun b u xs q=>by rw[AE (Am q hn)];exact q
 tbls:=fun b ps q=>⟨#[],by rw[AE (Am q hn),q];simp⟩
theorem Un.write (mu:Mut (H x)) (he:e=x∨H e=some (.own x)) (k:∀b u,b≠e→h.get? b=some u→h'.get? b=some u) (heo:∃u,h'.get? e=some u):Un fs ex H (upd H x o) h h':=by
 have hx:∀b,H b=none→b≠x:=fun b n z=>by subst z;rw[n] at mu;exact mu
 have hb:∀b,H b=none→b≠e:=fun b n z=>by
  subst z
  rcases he with r | r
  ·exact hx b n r
  ·rw[n] at r;cases r
 have hm:∀b u,H b=some u→¬Mut (some u)→b≠x:=fun b u q nm z=>by subst z;rw[q] at mu;exact nm mu
 refine⟨fun b u q n _ _=>k b u (hb b n) q,fun b u q n _ _=>⟨u.slots,k b u (hb b n) q⟩,fun b u q n _=>by rw[AE (hx b n)];exact n,fun b u q _=>?_,
  fun b xs q=>by rw[AE (hm b _ q fun z=>z)];exact q,fun b u xs q=>by rw[AE (hm b _ q fun z=>z)];exact q,fun b ps q=>⟨#[],by rw[AE (hm b _ q fun z=>z),q];simp⟩⟩
 by_cases hbe:b=e
 ·subst hbe;exact heo
 ·exact⟨u,k b u hbe q⟩
end
def trk (h:Heap) (H:Hp):List Addr:=(CW h.objs.size).filter fun a=>(H a).isSome
def CH (h:Heap) (H:Hp):Heap:=PySem.W.hideAll h (trk h H)
theorem O5 (h:Heap) (H:Hp):(CH h H).objs.size=h.objs.size:=PySem.W.hideAll_size _ _
theorem O4 {h:Heap}{H:Hp}{b:Addr}{o:Obj} (e:h.get? b=some o) (n:H b=none):(CH h H).get? b=some o :=
 PySem.W.hideAll_get _ e fun hm=>by
  have q:(H b).isSome=true:=(Ci.mp hm).2
  rw[n] at q;simp at q
theorem P8 {h:Heap}{H:Hp}{b:Addr}{o:Obj} (e:(CH h H).get? b=some o):h.get? b=some o∧H b=none:=by
 have e':h.get? b=some o:=PySem.W.of_hideAll (trk h H) e
 refine⟨e',?_⟩
 cases q:H b with
 | none=>rfl
 | some x =>
  have hm:b∈trk h H:=Ci.mpr ⟨Ms.mpr (Aq e'),by simp[q]⟩
  have z:(CH h H).get? b=none:=PySem.W.hideAll_none (trk h H) hm
  rw[z] at e;cases e
def VC (g h:Heap) (L:Addr):List (Addr×Obj):=(CW h.objs.size).filterMap fun a=>if a=L∨(g.get? a).isSome=true then none else (h.get? a).map fun o=>(a,o)
def rest (g h:Heap) (L d:Addr):List (Addr×Obj):=(VC g h L).filter fun p=>decide (p.1≠d)
end L2
namespace L2
open PySem PySem.Spec PyProof.Rows
structure Mod (K:AA) (mg:Str→Option Value) (base:Heap):Prop where
 kin:K.In base
 glob:base.Ns mainGlobals mg
 blt:∃mb,base.Ns builtinsNs mb∧∀x:Str,x≠"__name__"→mb x=bootBuiltins x
 nolimit:base.NoLimit
structure Cx where
 prog:Program
 w:World
 K:AA
 mg:Str→Option Value
 base:Heap
 A:Around
 N:List Str
 s_0:Shared
 H_0:Hp
 env:Env
 outer:List Env
 stack:List Env
 ex:List Addr
 fn:Str→Bool
 calm:Bool
 pn:List (Addr×Obj)
 xe:Value→Shared→Prop
def frs (l:List Env):List Addr:=l.filterMap (·.frame)
abbrev Cx.fs (X:Cx):List Addr:=frs X.outer
def Vis (sc:Scope) (x:Str):Prop:=sc.names.lookup x=some .local∨sc.names.lookup x=some .cell∨sc.names.lookup x=some .free
def Loc (sc:Scope) (x:Str):Prop:=sc.names.lookup x=some .local∨sc.names.lookup x=some .cell
def U7 (env:Env) (h:Heap) (m:Str→Option Value) (x:Str) (u:Value):Prop :=
 (env.kindOf x=some .local∧m x=some u)∨((env.kindOf x=some .cell∨env.kindOf x=some .free)∧∃c,env.cells.lookup x=some c∧h.IsCell c (some u))
structure Cx.Ok (X:Cx):Prop where
 mod:Mod X.K X.mg X.base
 kind:X.env.scope.kind=.function
 glob:X.env.globals=mainGlobals
 blt:X.env.builtins=builtinsNs
 above:X.s_0.heap.objs.size≤X.env.locals
 inj:∀x y c,X.env.cells.lookup x=some c→X.env.cells.lookup y=some c→x=y
 has:∀x,(X.env.kindOf x=some .cell∨X.env.kindOf x=some .free)→∃c,X.env.cells.lookup x=some c
 cab:∀x c,X.fn x=true→X.env.cells.lookup x=some c→X.s_0.heap.objs.size≤c
 hd:X.calm=true→X.A.handled=none
 frames:X.A.frames=some X.stack
 stk:X.stack=X.outer∨(X.stack=X.env::X.outer∧X.env.frame=some X.env.locals)
 exf:∀b∈X.ex,b≠X.env.locals∧∀x c,X.env.cells.lookup x=some c→c≠b
 bs:∀b o,X.base.get? b=some o→X.s_0.heap.get? b=some o∧X.H_0 b=none
 bsz:X.base.objs.size≤X.s_0.heap.objs.size
 noex:∀b o,X.base.get? b=some o→b∉X.ex
 exfs:∀b∈X.ex,b∉X.fs
 funs:X.s_0.heap.FunFrames X.base X.outer
 frf:∀b∈X.fs,X.H_0 b=none
structure Inv (X:Cx) (pins:List (Addr×Obj)) (σ:List (Option V)) (H:Hp) (s:Shared):Prop where
 ok:X.Ok
 os:s.os=X.s_0.os
 bare:AllBare s.gens
 base:Un X.fs X.ex X.H_0 H X.s_0.heap s.heap
 loc:∃m,s.heap.Ns X.env.locals m∧∀(i:Nat) (x:Str) (v:V),X.N[i]?=some x→σ[i]?=some (some v)→Vis X.env.scope x→∃u,RelV v u∧U7 X.env s.heap m x u
 cell:∀x c,X.env.cells.lookup x=some c→∃v,s.heap.IsCell c v
 free:H X.env.locals=none
 freeC:∀x c,X.env.cells.lookup x=some c→H c=none
 pin:∀p∈X.pn++pins,s.heap.get? p.1=some p.2∧H p.1=none∧p.1≠X.env.locals∧p.1∉X.fs∧∀v,p.2.data≠.cell v
 hok:HOk X.prog X.w H s.heap
 len:σ.length=X.N.length
section
variable {X:Cx}{pins:List (Addr×Obj)}{σ:List (Option V)}{H H':Hp}{s:Shared}{h':Heap}
theorem Cx.Ok.nofr (ok:X.Ok) {b:Addr}{o:Obj} (e:X.base.get? b=some o):b∉X.fs:=fun hb=>by
 have:=(ok.funs.mem hb).1
 rw[e] at this;cases this
theorem Inv.bs (I:Inv X pins σ H s):∀b o,X.base.get? b=some o→s.heap.get? b=some o∧H b=none:=fun b o e =>
 ⟨I.base.keep b o (I.ok.bs b o e).1 (I.ok.bs b o e).2 (I.ok.nofr e) (I.ok.noex b o e),I.base.free b o (I.ok.bs b o e).1 (I.ok.bs b o e).2 (I.ok.noex b o e)⟩
theorem Inv.bk (I:Inv X pins σ H s):∀b o,X.base.get? b=some o→s.heap.get? b=some o:=fun b o e=>(I.bs b o e).1
theorem Inv.mod (I:Inv X pins σ H s):Mod X.K X.mg X.base:=I.ok.mod
theorem Inv.kIn (I:Inv X pins σ H s):X.K.In s.heap:=I.ok.mod.kin.keeps I.bk
theorem Inv.fr (I:Inv X pins σ H s):∃m,Fr X.base X.env.locals s.heap m :=
 let ⟨m,hn,_⟩:=I.loc
 ⟨m,hn,I.bk,Bb I.ok.bsz I.ok.above⟩
theorem Inv.lt (I:Inv X pins σ H s):X.env.locals < s.heap.objs.size:=let ⟨_,hn,_⟩:=I.loc;hn.lt
theorem Inv.sz (I:Inv X pins σ H s):X.s_0.heap.objs.size≤s.heap.objs.size:=Bb I.ok.above (Hq I.lt)
theorem Inv.nofs (I:Inv X pins σ H s) {a:Addr} (h:s.heap.objs.size≤a):a∉X.fs:=fun hb=>by
 obtain⟨_,o,ho,_⟩:=I.ok.funs.mem hb
 exact absurd (BV (Aq ho) (Bb I.sz h)) (Cr _)
theorem Inv.cne (I:Inv X pins σ H s):∀x c,X.env.cells.lookup x=some c→c≠X.env.locals:=fun x c e z=>by
 obtain⟨v,o,ho,hd⟩:=I.cell x c e
 obtain⟨m,⟨o',es,ep,ho',hd',_⟩,_⟩:=I.loc
 rw[z,ho'] at ho;cases ho;rw[hd'] at hd;cases hd
theorem Inv.funs (I:Inv X pins σ H s):s.heap.FunFrames X.base X.outer:=by
 have all:∀(l:List Env),(∀b∈frs l,b∈X.fs)→X.s_0.heap.FunFrames X.base l→s.heap.FunFrames X.base l:=by
  intro l
  induction l with
  | nil=>intro _ _;trivial
  | cons env r ih =>
   intro hs hl
   obtain⟨hk,⟨L,o,hf,hn,ho,hd⟩,hr⟩:=hl
   have hL:L∈X.fs:=hs L (by unfold frs;rw[Mg,hf];exact AU)
   obtain⟨sl,e⟩:=I.base.slot L o ho (I.ok.frf L hL) hL fun z=>I.ok.exfs L z hL
   exact⟨hk,⟨L,_,hf,hn,e,hd⟩,ih (fun b hb=>hs b (by unfold frs;rw[Mg,hf];exact Ao _ hb)) hr⟩
 exact all X.outer (fun _ hb=>hb) I.ok.funs
theorem Inv.stack (I:Inv X pins σ H s):s.heap.FunFrames X.base X.stack:=by
 rcases I.ok.stk with e | ⟨e,hf⟩
 ·rw[e];exact I.funs
 ·rw[e]
  obtain⟨m,hn,_⟩:=I.loc
  refine .cons (by rw[I.ok.kind];decide) hf hn ?_ I.funs
  exact Heap.get?_none_of_le (Bb I.ok.bsz I.ok.above)
theorem Inv.stkSub (I:Inv X pins σ H s):∀b∈frs X.stack,b∈X.env.locals::X.fs:=fun b hb=>by
 rcases I.ok.stk with e | ⟨e,hf⟩
 ·rw[e] at hb;exact Ao _ hb
 ·rw[e] at hb
  unfold frs at hb
  rw[Mg,hf] at hb
  exact hb
theorem Inv.stkFree (I:Inv X pins σ H s):∀b∈frs X.stack,H b=none:=fun b hb=>by
 rcases AS.mp (I.stkSub b hb) with e | hb
 ·rw[e];exact I.free
 ·obtain⟨_,o,ho,_⟩:=I.ok.funs.mem hb
  exact I.base.free b o ho (I.ok.frf b hb) fun z=>I.ok.exfs b z hb
theorem Inv.step {g':Array GenState}{t':Nat}{d':Drawn}{ch:List Addr} (I:Inv X pins σ H s)
  (hch:∀b∈ch,(b∈X.ex∨X.s_0.heap.objs.size≤b)∧b≠X.env.locals∧(∀x c,X.env.cells.lookup x=some c→c≠b)∧∀p∈X.pn++pins,p.1≠b)
  (keep:∀b o,b≠X.env.locals→b∉X.fs→b∉ch→s.heap.get? b=some o→H b=none→h'.get? b=some o)
  (slot:∀b o,b≠X.env.locals→b∈X.fs→b∉ch→s.heap.get? b=some o→H b=none→∃sl,h'.get? b=some { o with slots:=sl }) (free:∀b o,b∉ch→s.heap.get? b=some o→H b=none→H' b=none)
  (there:∀b o,b∉ch→s.heap.get? b=some o→∃o',h'.get? b=some o')
  (tups:∀b xs,H b=some (.tup xs)→H' b=some (.tup xs)) (frzs:∀b o u,H b=some (.frz o u)→H' b=some (.frz o u)) (tbls:∀b ps,H b=some (.tbl ps)→∃more,H' b=some (.tbl (ps++more)))
  (ns:∀m,s.heap.Ns X.env.locals m→h'.Ns X.env.locals m) (hok:HOk X.prog X.w H' h') (hg:AllBare g'):
  Inv X pins σ H' { s with heap:=h',gens:=g',drawn:=d',toks:=t' }:=by
 have neL:∀b o,X.s_0.heap.get? b=some o→b≠X.env.locals:=fun b o e=>BM (BV (Aq e) I.ok.above)
 have neC:∀b o,X.s_0.heap.get? b=some o→b∉X.ex→b∉ch:=fun b o e hx hb=>by
  rcases(hch b hb).1 with z | z
  ·exact hx z
  ·exact absurd (BV (Aq e) z) (Cr _)
 have cellK:∀x c,X.env.cells.lookup x=some c→∀v,s.heap.IsCell c v→h'.IsCell c v:=fun x c e v ⟨o,ho,hd⟩=>by
  have nch:c∉ch:=fun z=>(hch c z).2.2.1 x c e rfl
  by_cases hc:c∈X.fs
  ·obtain⟨sl,q⟩:=slot c o (I.cne x c e) hc nch ho (I.freeC x c e)
   exact⟨_,q,hd⟩
  ·exact⟨o,keep c o (I.cne x c e) hc nch ho (I.freeC x c e),hd⟩
 refine⟨I.ok,I.os,hg,⟨fun b o e n hb hx=>?_,fun b o e n hb hx=>?_,fun b o e n hx=>?_,fun b o e hx=>?_,fun b xs e=>tups b xs (I.base.tups b xs e),fun b o xs e=>frzs b o xs (I.base.frzs b o xs e),fun b ps e=>?_⟩,?_,fun x c e=>?_,?_,fun x c e=>?_,fun p hp=>?_,hok,I.len⟩
 ·exact keep b o (neL b o e) hb (neC b o e hx) (I.base.keep b o e n hb hx) (I.base.free b o e n hx)
 ·obtain⟨sl,e1⟩:=I.base.slot b o e n hb hx
  obtain⟨sl',e2⟩:=slot b _ (neL b o e) hb (neC b o e hx) e1 (I.base.free b o e n hx)
  exact⟨sl',e2⟩
 ·obtain⟨o',e1⟩:=I.base.there b o e hx
  exact free b o' (neC b o e hx) e1 (I.base.free b o e n hx)
 ·obtain⟨o',e1⟩:=I.base.there b o e hx
  exact there b o' (neC b o e hx) e1
 ·obtain⟨m1,e1⟩:=I.base.tbls b ps e
  obtain⟨m2,e2⟩:=tbls b _ e1
  exact⟨m1++m2,by rw[e2,Array.append_assoc]⟩
 ·obtain⟨m,hn,hl⟩:=I.loc
  refine⟨m,ns m hn,fun i x v e1 e2 e3=>?_⟩
  obtain⟨u,r,l⟩:=hl i x v e1 e2 e3
  refine⟨u,r,?_⟩
  rcases l with l | ⟨k,c,e,z⟩
  ·exact .inl l
  ·exact .inr ⟨k,c,e,cellK x c e _ z⟩
 ·obtain⟨v,z⟩:=I.cell x c e
  exact⟨v,cellK x c e v z⟩
 ·obtain⟨m,⟨o,_,_,ho,_⟩,_⟩:=I.loc
  exact free _ o (fun z=>(hch _ z).2.1 rfl) ho I.free
 ·obtain⟨v,o,ho,hd⟩:=I.cell x c e
  exact free c o (fun z=>(hch c z).2.2.1 x c e rfl) ho (I.freeC x c e)
 ·obtain⟨e,n,ne,nf,d⟩:=I.pin p hp
  have nch:p.1∉ch:=fun z=>(hch p.1 z).2.2.2 p hp rfl
  exact⟨keep p.1 p.2 ne nf nch e n,free p.1 p.2 nch e n,ne,nf,d⟩
theorem Inv.un {t':Nat} (I:Inv X pins σ H s) (u:Un X.fs [] H H' s.heap h') (hok:HOk X.prog X.w H' h'):Inv X pins σ H' { s with heap:=h',toks:=t' }:=by
 obtain⟨m,⟨o,es,ep,ho,r⟩,_⟩:=id I.loc
 obtain⟨sl,hL⟩:=u.any ho I.free (by simp)
 exact I.step (g':=s.gens) (d':=s.drawn) (ch:=[]) (fun _ z=>nomatch z) (fun b o _ hb _ e n=>u.keep b o e n hb (by simp)) (fun b o _ hb _ e n=>u.slot b o e n hb (by simp)) (fun b o _ e n=>u.free b o e n (by simp)) (fun b o _ e=>u.there b o e (by simp)) u.tups u.frzs u.tbls (fun m' hm=>by
  obtain⟨o',es',ep',ho',r'⟩:=hm
  rw[ho] at ho';cases ho'
  exact⟨_,es',ep',hL,r'⟩) hok I.bare
theorem Inv.call {g':Array GenState}{t':Nat}{d':Drawn}{ch:List Addr} (I:Inv X pins σ H s) (u:Un (frs X.stack) ch H H' s.heap h') (hok:HOk X.prog X.w H' h') (hg:AllBare g')
  (hch:∀b∈ch,(b∈X.ex∨X.s_0.heap.objs.size≤b)∧b≠X.env.locals∧(∀x c,X.env.cells.lookup x=some c→c≠b)∧∀p∈X.pn++pins,p.1≠b):
  Inv X pins σ H' { s with heap:=h',gens:=g',drawn:=d',toks:=t' }:=by
 obtain⟨m,⟨o,es,ep,ho,r⟩,_⟩:=id I.loc
 obtain⟨sl,hL⟩:=u.any ho I.free fun z=>(hch _ z).2.1 rfl
 exact I.step (ch:=ch) hch (fun b o hL hb hc e n=>u.keep b o e n (fun z=>(AS.mp (I.stkSub b z)).elim hL hb) hc) (fun b o _ _ hc e n=>u.any e n hc) (fun b o hc e n=>u.free b o e n hc) (fun b o hc e=>u.there b o e hc) u.tups u.frzs u.tbls (fun m' hm=>by
  obtain⟨o',es',ep',ho',r'⟩:=hm
  rw[ho] at ho';cases ho'
  exact⟨_,es',ep',hL,r'⟩) hok hg
theorem Inv.turned {t':Nat}{it:Addr} (I:Inv X pins σ H s) (k:∀b o,b≠it→s.heap.get? b=some o→h'.get? b=some o) (hn:H it=none) (hL:it≠X.env.locals)
  (h1:it∈X.ex∨X.s_0.heap.objs.size≤it) (h2:∀x c,X.env.cells.lookup x=some c→c≠it) (h3:∀p∈X.pn++pins,p.1≠it):Inv X pins σ H { s with heap:=h',toks:=t' }:=by
 have nit:∀b u,H b=some u→b≠it:=fun b u e z=>by rw[z,hn] at e;cases e
 refine I.step (g':=s.gens) (d':=s.drawn) (ch:=[it]) (fun b hb=>?_) (fun b o _ _ hc e _=>k b o (fun z=>hc (by simp[z])) e) (fun b o _ _ hc e _=>⟨o.slots,k b o (fun z=>hc (by simp[z])) e⟩) (fun _ _ _ _ n=>n)
  (fun b o hc e=>⟨o,k b o (fun z=>hc (by simp[z])) e⟩) (fun _ _ e=>e) (fun _ _ _ e=>e) (fun b ps e=>⟨#[],by rw[e];simp⟩) (fun m hm=>?_) (fun b u e=>?_) I.bare
 ·have e:b=it:=by simpa using hb
  subst e
  exact⟨h1,hL,h2,h3⟩
 ·obtain⟨o,es,ep,ho,r⟩:=hm
  exact⟨o,es,ep,k _ o (Ap hL) ho,r⟩
 ·refine(I.hok b u e).stay (fun c v hc q=>k c v ?_ q) (fun _ q=>q) fun _ _ q=>q
  rcases hc with z | z
  ·rw[z];exact nit b u e
  ·exact nit c _ z
theorem Inv.tok (I:Inv X pins σ H s) (t:Nat):Inv X pins σ H { s with toks:=t }:=I.un (h':=s.heap) (t':=t) Un.refl I.hok
theorem Inv.kept {t':Nat} (I:Inv X pins σ H s) (k:∀b u,s.heap.get? b=some u→h'.get? b=some u):Inv X pins σ H { s with heap:=h',toks:=t' }:=I.un (Un.kept k) (I.hok.kept k)
theorem Inv.laid {a:Addr}{o:HO}{t':Nat} (I:Inv X pins σ H s) (k:∀b u,s.heap.get? b=some u→h'.get? b=some u) (hp:s.heap.objs.size≤a) (new:ObjOk X.prog X.w (upd H a o) h' a o):
 Inv X pins σ (upd H a o) { s with heap:=h',toks:=t' }:=I.un (Un.laid k hp (I.hok.fresh hp)) (I.hok.laid k hp new)
theorem Inv.write {x e:Addr}{o:HO}{t':Nat} (I:Inv X pins σ H s) (mu:Mut (H x)) (he:e=x∨H e=some (.own x)) (k:∀b u,b≠e→s.heap.get? b=some u→h'.get? b=some u) (heo:∃u,h'.get? e=some u)
 (new:ObjOk X.prog X.w (upd H x o) h' x o):Inv X pins σ (upd H x o) { s with heap:=h',toks:=t' }:=I.un (Un.write mu he k heo) (I.hok.write mu he k heo new)
theorem Inv.weak {σ':List (Option V)} (I:Inv X pins σ H s) (hl:σ'.length=σ.length) (w:∀(i:Nat) v,σ'[i]?=some (some v)→σ[i]?=some (some v)):Inv X pins σ' H s :=
 ⟨I.ok,I.os,I.bare,I.base,let ⟨m,hn,hl'⟩:=I.loc;⟨m,hn,fun i x v e1 e2 e3=>hl' i x v e1 (w i v e2) e3⟩,I.cell,I.free,I.freeC,I.pin,I.hok,hl.trans I.len⟩
theorem Inv.pins_of {pins':List (Addr×Obj)} (I:Inv X pins σ H s) (h:∀p∈pins',s.heap.get? p.1=some p.2∧H p.1=none∧p.1≠X.env.locals∧p.1∉X.fs∧∀v,p.2.data≠.cell v):Inv X pins' σ H s :=
 ⟨I.ok,I.os,I.bare,I.base,I.loc,I.cell,I.free,I.freeC,fun p hp=>(C9.mp hp).elim (fun z=>I.pin p (Hl _ z)) (h p),I.hok,I.len⟩
theorem LU {N:List Str} (hN:N.Nodup) {i j:Nat}{x:Str} (a:N[i]?=some x) (b:N[j]?=some x):i=j:=by
 obtain⟨h1,e1⟩:=Bf.mp a
 obtain⟨h2,e2⟩:=Bf.mp b
 exact(Tw hN).mp (e1.trans e2.symm)
theorem ZD {M:Model}{A:Around}{E:Value→Shared→Prop}{i:Nat}{x:Str}{v:V}{u:Value}{Q:Unit→Shared→Prop} (I:Inv X pins σ H s) (hN:X.N.Nodup) (hi:X.N[i]?=some x) (hx:Loc X.env.scope x) (r:RelV v u)
  (h:∀s',Inv X pins (σ.set i (some v)) H s'→(∃a,Gi a s.heap s'.heap∧(a=X.env.locals∨X.env.cells.lookup x=some a))→Q () s') (hf:X.fn x=true∨X.env.scope.names.lookup x=some .local:=by first | exact .inl rfl | exact .inr rfl | assumption):wpAny M A (storeName X.env x u) Q E s:=by
 obtain⟨m,hn,hl⟩:=id I.loc
 have hcls:(X.env.scope.kind==.class || (X.env.scope.kind==.module&&X.env.locals != X.env.globals))=false:=by rw[I.ok.kind];rfl
 have hiσ:i < σ.length:=by rw[I.len];exact(Bf.mp hi).1
 have cne:=I.cne
 have tracked:∀{a:Addr} {h':Heap},(∃o,s.heap.get? a=some o∧H a=none)→Gi a s.heap h'→HOk X.prog X.w H h':=fun {a h'} ha hs b ob e=>by
  obtain⟨_,_,hfree⟩:=ha
  refine(I.hok b ob e).stay (fun c w' hc q=>(hs.2 c ?_).trans q) (fun _ q=>q) fun _ _ q=>q
  rintro rfl
  rcases hc with rfl | hc
  ·rw[hfree] at e;cases e
  ·rw[hfree] at hc;cases hc
 rcases hx with hk | hk
 ·refine wpAny_storeName_local hk hn (fun h' hn' hs=>?_) hcls
  obtain⟨oL,_,_,hoL,_⟩:=id hn
  refine h _ ⟨I.ok,I.os,I.bare,⟨fun b o e n hb hx=>?_,fun b o e n hb hx=>?_,I.base.free,fun b o e hx=>?_,I.base.tups,I.base.frzs,I.base.tbls⟩,⟨_,hn',fun j y v' e1 e2 e3=>?_⟩,fun y c e=>?_,I.free,I.freeC,fun p hp=>?_,tracked ⟨oL,hoL,I.free⟩ hs,by simpa using I.len⟩ ⟨_,hs,.inl rfl⟩
  ·exact(hs.2 b (BM (BV (Aq e) I.ok.above))).trans (I.base.keep b o e n hb hx)
  ·obtain⟨sl,e1⟩:=I.base.slot b o e n hb hx
   exact⟨sl,(hs.2 b (BM (BV (Aq e) I.ok.above))).trans e1⟩
  ·obtain⟨o',e1⟩:=I.base.there b o e hx
   exact⟨o',(hs.2 b (BM (BV (Aq e) I.ok.above))).trans e1⟩
  ·by_cases hj:j=i
   ·subst hj
    rw[hi] at e1;cases e1
    rw[Mo hiσ] at e2
    cases e2
    exact⟨u,r,.inl ⟨hk,by simp⟩⟩
   ·rw[Mn (Ap hj)] at e2
    obtain⟨u',r',q⟩:=hl j y v' e1 e2 e3
    refine⟨u',r',?_⟩
    rcases q with ⟨k,e⟩ | ⟨k,c,e,z⟩
    ·refine .inl ⟨k,?_⟩
     have:y≠x:=fun e=>hj (LU hN e1 (e▸hi))
     simp[this,e]
    ·exact .inr ⟨k,c,e,z.sameBut hs (cne y c e)⟩
  ·obtain⟨w',z⟩:=I.cell y c e
   exact⟨w',z.sameBut hs (cne y c e)⟩
  ·obtain⟨e,n,ne,nf,d⟩:=I.pin p hp
   exact⟨(hs.2 p.1 ne).trans e,n,ne,nf,d⟩
 ·have hfn:X.fn x=true:=by
   rcases hf with z | z
   ·exact z
   ·rw[z] at hk;cases hk
  obtain⟨c,hc⟩:=I.ok.has x (.inl hk)
  obtain⟨w',z⟩:=I.cell x c hc
  refine wpAny_storeName_cell I.ok.kind hk hc z (fun h' hc' hs=>?_)
  obtain⟨oc,hoc,hocd⟩:=id z
  refine h { s with heap:=h' } ⟨I.ok,I.os,I.bare,⟨fun b o e n hb hx=>?_,fun b o e n hb hx=>?_,I.base.free,fun b o e hx=>?_,I.base.tups,I.base.frzs,I.base.tbls⟩,⟨m,hn.sameBut hs (Ap (cne x c hc)),fun j y v' e1 e2 e3=>?_⟩,fun y c' e=>?_,I.free,I.freeC,fun p hp=>?_,tracked ⟨oc,hoc,I.freeC x c hc⟩ hs,by simpa using I.len⟩ ⟨c,hs,.inr hc⟩
  ·exact(hs.2 b (BM (BV (Aq e) (I.ok.cab x c hfn hc)))).trans (I.base.keep b o e n hb hx)
  ·obtain⟨sl,e1⟩:=I.base.slot b o e n hb hx
   exact⟨sl,(hs.2 b (BM (BV (Aq e) (I.ok.cab x c hfn hc)))).trans e1⟩
  ·obtain⟨o',e1⟩:=I.base.there b o e hx
   exact⟨o',(hs.2 b (BM (BV (Aq e) (I.ok.cab x c hfn hc)))).trans e1⟩
  ·by_cases hj:j=i
   ·subst hj
    rw[hi] at e1;cases e1
    rw[Mo hiσ] at e2
    cases e2
    exact⟨u,r,.inr ⟨.inl hk,c,hc,hc'⟩⟩
   ·rw[Mn (Ap hj)] at e2
    obtain⟨u',r',q⟩:=hl j y v' e1 e2 e3
    refine⟨u',r',?_⟩
    rcases q with q | ⟨k,c',e,z'⟩
    ·exact .inl q
    ·refine .inr ⟨k,c',e,z'.sameBut hs ?_⟩
     rintro rfl
     exact hj (LU hN e1 (I.ok.inj _ _ _ e hc▸hi))
  ·by_cases hcc:c'=c
   ·subst hcc;exact⟨_,hc'⟩
   ·obtain⟨w2,z2⟩:=I.cell y c' e
    exact⟨w2,z2.sameBut hs hcc⟩
  ·obtain⟨e,n,ne,nf,d⟩:=I.pin p hp
   refine⟨(hs.2 p.1 ?_).trans e,n,ne,nf,d⟩
   intro q
   rw[q,hoc] at e
   have q':oc=p.2:=Ae e
   exact d w' (by rw[← q'];exact hocd)
theorem S2 {M:Model}{A:Around}{E:Value→Shared→Prop}{i:Nat}{x:Str}{v:V}{u:Value}{Q:Unit→Shared→Prop} (I:Inv X pins σ H s) (hN:X.N.Nodup) (hi:X.N[i]?=some x) (hx:Loc X.env.scope x) (r:RelV v u)
  (h:∀s',Inv X pins (σ.set i (some v)) H s'→Q () s') (hf:X.fn x=true∨X.env.scope.names.lookup x=some .local:=by first | exact .inl rfl | exact .inr rfl | assumption):wpAny M A (storeName X.env x u) Q E s :=
 ZD I hN hi hx r (fun s' I' _=>h s' I') hf
theorem Inv.call' {s':Shared}{ch:List Addr} (I:Inv X pins σ H s) (ho:s'.os=s.os) (u:Un (frs X.stack) ch H H' s.heap s'.heap) (hok:HOk X.prog X.w H' s'.heap) (hg:AllBare s'.gens)
  (hch:∀b∈ch,(b∈X.ex∨X.s_0.heap.objs.size≤b)∧b≠X.env.locals∧(∀x c,X.env.cells.lookup x=some c→c≠b)∧∀p∈X.pn++pins,p.1≠b):Inv X pins σ H' s':=by
 obtain⟨h',g',d',t',o'⟩:=s'
 have e:o'=s.os:=ho
 subst e
 exact I.call (g':=g') (t':=t') (d':=d') u hok hg hch
end
abbrev XK:=Value→Option Addr→Hp→Prop
abbrev St:=List (Option V)
abbrev VK:=V→Hp→Prop
abbrev TE:=St→Hp→VK→Prop
abbrev TT:=St→Hp→(Bool→Hp→Prop)→Prop
abbrev TA:=St→Hp→(List V→Hp→Prop)→Prop
structure Ex where
 nx:St→Hp→Prop
 rt:VK
 bk:St→Hp→Prop:=fun _ _=>False
 ct:St→Hp→Prop:=fun _ _=>False
abbrev TS:=Ex→St→Hp→Prop
def EP (X:Cx) (pins:List (Addr×Obj)) (σ:St) (Q:VK) (u:Value) (s':Shared):Prop:=∃v H',Inv X pins σ H' s'∧RelV v u∧Q v H'
def TP (X:Cx) (pins:List (Addr×Obj)) (σ:St) (Q:Bool→Hp→Prop) (b:Bool) (s':Shared):Prop:=∃H',Inv X pins σ H' s'∧Q b H'
def AP (X:Cx) (pins:List (Addr×Obj)) (σ:St) (Q:List V→Hp→Prop) (us:List Value) (s':Shared):Prop:=∃vs H',Inv X pins σ H' s'∧Vals vs us∧Q vs H'
def SP (X:Cx) (pins:List (Addr×Obj)) (D:Ex) (f:Flow) (s':Shared):Prop :=
 match f with
 | .next=>∃σ' H',Inv X pins σ' H' s'∧D.nx σ' H'
 | .brk=>∃σ' H',Inv X pins σ' H' s'∧D.bk σ' H'
 | .cont=>∃σ' H',Inv X pins σ' H' s'∧D.ct σ' H'
 | .ret u=>∃v σ' H',Inv X pins σ' H' s'∧RelV v u∧D.rt v H'
def PE (X:Cx) (e:Expr) (t:TE):Prop :=
 ∀(pins:List (Addr×Obj)) (s:Shared) (σ:St) (H:Hp) (Q:VK),Inv X pins σ H s→t σ H Q→wpAny (model X.prog X.w) X.A (eval e X.env) (EP X pins σ Q) X.xe s
def PT (X:Cx) (e:Expr) (t:TT):Prop :=
 ∀(pins:List (Addr×Obj)) (s:Shared) (σ:St) (H:Hp) (Q:Bool→Hp→Prop),Inv X pins σ H s→t σ H Q→wpAny (model X.prog X.w) X.A (isTrue e X.env (eval e X.env)) (TP X pins σ Q) X.xe s
def PW (X:Cx) (e:Expr) (t:TT):Prop :=
 ∀(whole:Sem Value) (pins:List (Addr×Obj)) (s:Shared) (σ:St) (H:Hp) (Q:Bool→Hp→Prop),Inv X pins σ H s→t σ H Q→wpAny (model X.prog X.w) X.A (isTrue e X.env whole) (TP X pins σ Q) X.xe s
theorem PW.pt {X:Cx}{e:Expr}{t:TT} (h:PW X e t):PT X e t:=h _
def PA (X:Cx) (es:List Expr) (t:TA):Prop :=
 ∀(pos:Pos) (pins:List (Addr×Obj)) (s:Shared) (σ:St) (H:Hp) (Q:List V→Hp→Prop),Inv X pins σ H s→t σ H Q→wpAny (model X.prog X.w) X.A (spliced (backTo pos (starEach es X.env))) (AP X pins σ Q) X.xe s
def PS (X:Cx) (st:Stmt) (t:TS):Prop :=
 ∀(pins:List (Addr×Obj)) (s:Shared) (σ:St) (H:Hp) (D:Ex),Inv X pins σ H s→t D σ H→wpAny (model X.prog X.w) X.A (exec st X.env) (SP X pins D) X.xe s
def PSs (X:Cx) (st:List Stmt) (t:TS):Prop :=
 ∀(pins:List (Addr×Obj)) (s:Shared) (σ:St) (H:Hp) (D:Ex),Inv X pins σ H s→t D σ H→wpAny (model X.prog X.w) X.A (execs st X.env) (SP X pins D) X.xe s
theorem thn {α:Type}{t:Sem α}{Q Q':α→Shared→Prop}{M:Model}{A:Around}{E:Value→Shared→Prop}{s:Shared} (h:wpAny M A t Q E s) (hQ:∀a s,Q a s→Q' a s):wpAny M A t Q' E s:=Cu h hQ fun _ _ x=>x
end L2
namespace L2
open PySem PySem.Spec PyProof.Rows
section
variable {X:Cx}
theorem bin {a b:Expr}{ta tb:TE} (ha:PE X a ta) (hb:PE X b tb) {pins:List (Addr×Obj)}{s:Shared}{σ:St}{H:Hp}{R:V→V→Hp→Prop} (I:Inv X pins σ H s) (h:ta σ H fun x H1=>tb σ H1 fun y H2=>R x y H2)
  {α:Type} {Q:α→Shared→Prop} {f:Value→Value→Sem α}
  (hf:∀v u s2 x y H2,Inv X pins σ H2 s2→RelV x v→RelV y u→R x y H2→wpAny (model X.prog X.w) X.A (f v u) Q X.xe s2):
  wpAny (model X.prog X.w) X.A (eval a X.env) (fun v s₁=>wpAny (model X.prog X.w) X.A (eval b X.env) (fun u s₂=>wpAny (model X.prog X.w) X.A (f v u) Q X.xe s₂) X.xe s₁) X.xe s:=by
 refine thn (ha pins s σ H _ I h) fun v s1 ⟨x,H1,I1,r1,q1⟩=>?_
 refine thn (hb pins s1 σ H1 _ I1 q1) fun u s2 ⟨y,H2,I2,r2,q2⟩=>?_
 exact hf v u s2 x y H2 I2 r1 r2 q2
def Eh (i:Nat):TE:=fun σ H Q=>∃v,σ[i]?=some (some v)∧Q v H
def tC (v:V):TE:=fun _ H Q=>Q v H
theorem QP {i:Nat}{x:Str}{pos:Pos} (hN:X.N[i]?=some x) (hv:Vis X.env.scope x) (hd:(x==("__debug__":Str))=false:=by decide) (hcd:(x==("__classdict__":Str))=false:=by decide):PE X (.Name x pos) (Eh i):=by
 intro pins s σ H Q I h
 obtain⟨v,e,h⟩:=h
 obtain⟨m,hn,hl⟩:=I.loc
 obtain⟨u,r,l⟩:=hl i x v hN e hv
 have fin:EP X pins σ Q u s:=⟨v,H,I,r,h⟩
 rcases l with ⟨hk,hm⟩ | ⟨hk,c,hc,hcell⟩
 ·exact NX (wpAny_loadName_local I.ok.kind hk hn hm fin) hd
 ·rcases hk with hk | hk
  ·exact NX (wpAny_loadName_cell I.ok.kind hk hc hcell fin) hd
  ·exact NX (wpAny_loadName_free I.ok.kind hk hc hcell fin hcd) hd
theorem AO {i j pos}:PE X (.Constant (.int i) j pos) (tC (.int i)):=fun _ _ _ H _ I h=>wpAny_Constant_int ⟨.int i,H,I.tok _,⟨_,rfl⟩,h⟩
theorem QH {b j pos}:PE X (.Constant (.bool b) j pos) (tC (.bl b)):=fun _ _ _ H _ I h=>Constant_bool ⟨.bl b,H,I,rfl,h⟩
theorem Ck {j pos}:PE X (.Constant .none j pos) (tC .non):=fun _ _ _ H _ I h=>Constant_none ⟨.non,H,I,rfl,h⟩
theorem DX {x j pos}:PE X (.Constant (.str x) j pos) (tC (.str x)):=fun _ _ _ H _ I h=>Calls.Constant_str ⟨.str x,H,I.tok _,⟨_,rfl⟩,h⟩
def Gl (X:Cx) (x:Str):Prop:=X.env.kindOf x=some .globalImplicit
theorem HA {E:Value→Shared→Prop}{pins:List (Addr×Obj)}{s:Shared}{σ:St}{H:Hp}{x:Str}{u:Value}{pos:Pos}{Q:Value→Shared→Prop} (I:Inv X pins σ H s) (hg:Gl X x) (hm:X.mg x=some u) (h:Q u s)
  (hd:(x==("__debug__":Str))=false:=by decide):wpAny (model X.prog X.w) X.A (eval (.Name x pos) X.env) Q E s :=
 UM I.ok.kind hg (Calls.loadGlobal_global (by rw[I.ok.glob];exact I.mod.glob.keeps I.bk) hm h) hd
theorem Fv {E:Value→Shared→Prop}{pins:List (Addr×Obj)}{s:Shared}{σ:St}{H:Hp}{x:Str}{u:Value}{pos:Pos}{Q:Value→Shared→Prop} (I:Inv X pins σ H s) (hg:Gl X x) (hm:X.mg x=none) (hv:bootBuiltins x=some u) (h:Q u s)
  (hn:x≠"__name__":=by decide) (hd:(x==("__debug__":Str))=false:=by decide):wpAny (model X.prog X.w) X.A (eval (.Name x pos) X.env) Q E s:=by
 obtain⟨mb,h1,h2⟩:=I.mod.blt
 exact UM I.ok.kind hg (Calls.loadGlobal_builtin (by rw[I.ok.glob];exact I.mod.glob.keeps I.bk) hm (by rw[I.ok.blt];exact h1.keeps I.bk) ((h2 x hn).trans hv) h) hd
theorem Xl {x:Str}{v:V}{u:Value}{pos:Pos} (hg:Gl X x) (hm:X.mg x=some u) (r:RelV v u) (hd:(x==("__debug__":Str))=false:=by decide):PE X (.Name x pos) (tC v) :=
 fun _ _ _ H _ I h=>HA I hg hm ⟨v,H,I,r,h⟩ hd
variable {a b:Expr}{ta tb:TE}{pos:Pos}
def PC (X:Cx) (op:CmpOp) (a b:Expr) (t:TE):Prop :=
 ∀(pins:List (Addr×Obj)) (s:Shared) (σ:St) (H:Hp) (Q:VK),Inv X pins σ H s→t σ H Q→
  wpAny (model X.prog X.w) X.A (eval a X.env) (fun v s₁=>wpAny (model X.prog X.w) X.A (eval b X.env) (fun u s₂=>wpAny (model X.prog X.w) X.A (compareOp op v u) (EP X pins σ Q) X.xe s₂) X.xe s₁) X.xe s
theorem P4 (b:Expr) {op:CmpOp} (h:op≠.In) (h2:op≠.NotIn):behindInMarks op b=false:=by
 have e1:(op==CmpOp.In)=false:=by cases op <;> first | rfl | exact absurd rfl h
 have e2:(op==CmpOp.NotIn)=false:=by cases op <;> first | rfl | exact absurd rfl h2
 cases b <;> simp[behindInMarks,e1,e2]
def tB (t:TE):TT:=fun σ H Q=>t σ H fun x H1=>∃c,x=.bl c∧Q c H1
theorem Xh {op:CmpOp}{t:TE} (h:PC X op a b t) (h1:behindInMarks op b=false:=by first | exact P4 _ (by decide) (by decide) | rfl):PE X (.Compare a [op] [b] pos) t:=fun pins s σ H Q I hw=>wpAny_Compare1 (h pins s σ H Q I hw) h1
theorem Zw {op:CmpOp}{t:TE} (h:PC X op a b t) (h1:behindInMarks op b=false:=by first | exact P4 _ (by decide) (by decide) | rfl):PT X (.Compare a [op] [b] pos) (tB t):=by
 intro pins s σ H Q I hw
 refine U1 (thn (h pins s σ H _ I hw) fun v s1 h1=>thn h1 fun u s2 h2=>thn h2 fun c s3 ⟨x,H1,I1,r1,q1⟩=>?_) h1
 obtain⟨d,rfl,q⟩:=q1
 cases r1
 exact EM ⟨H1,I1,q⟩
theorem Cm {e:Expr}{t:TE} (h:PE X e t) (he:∀whole,isTrue e X.env whole=(do let v ← whole;standAt e.pos;holding [v] (truthy v)):=by intro _;rfl):PT X e (tB t):=by
 intro pins s σ H Q I hw
 refine isTrue_plain (thn (h pins s σ H _ I hw) fun v s1 ⟨x,H1,I1,r1,q1⟩=>?_) (he _)
 obtain⟨d,rfl,q⟩:=q1
 cases r1
 exact EM ⟨H1,I1,q⟩
variable {tA tB':TT}{rest:List Expr}
def ZG (t u:TT):TT:=fun σ H Q=>t σ H fun c H1=>if c=true then u σ H1 Q else Q false H1
def tOr (t u:TT):TT:=fun σ H Q=>t σ H fun c H1=>if c=true then Q true H1 else u σ H1 Q
def ZY (t:TT):TT:=fun σ H Q=>t σ H fun c H1=>Q (!c) H1
theorem Ef (ha:PT X a tA):PW X (.BoolOp .And [a] pos) tA:=by
 intro wh pins s σ H Q I h
 refine isTrue_and (thn (ha pins s σ H Q I h) fun c s1 e=>?_)
 cases c with
 | true=>exact isTrue_and_nil e
 | false=>exact e
theorem HQ (ha:PT X a tA):PW X (.BoolOp .Or [a] pos) tA:=by
 intro wh pins s σ H Q I h
 refine isTrue_or (thn (ha pins s σ H Q I h) fun c s1 e=>?_)
 cases c with
 | false=>exact isTrue_or_nil e
 | true=>exact e
theorem Dr (ha:PT X a tA) (hb:PW X (.BoolOp .And (b::rest) pos) tB'):PW X (.BoolOp .And (a::b::rest) pos) (ZG tA tB'):=by
 intro wh pins s σ H Q I h
 refine isTrue_and (thn (ha pins s σ H _ I h) fun c s1 ⟨H1,I1,q1⟩=>?_)
 cases c with
 | true=>exact hb wh pins s1 σ H1 Q I1 q1
 | false=>exact⟨H1,I1,q1⟩
theorem GA (ha:PT X a tA) (hb:PW X (.BoolOp .Or (b::rest) pos) tB'):PW X (.BoolOp .Or (a::b::rest) pos) (tOr tA tB'):=by
 intro wh pins s σ H Q I h
 refine isTrue_or (thn (ha pins s σ H _ I h) fun c s1 ⟨H1,I1,q1⟩=>?_)
 cases c with
 | true=>exact⟨H1,I1,q1⟩
 | false=>exact hb wh pins s1 σ H1 Q I1 q1
theorem Dn (ha:PT X a tA):PT X (.UnaryOp .Not a pos) (ZY tA):=by
 intro pins s σ H Q I h
 exact isTrue_not (ha pins s σ H (fun c H1=>Q (!c) H1) I h)
def ZH (ta tb:TE):TE:=fun σ H Q=>ta σ H fun x H1=>∃c,x=.bl c∧if c=true then tb σ H1 Q else Q (.bl false) H1
def ZZ (ta tb:TE):TE:=fun σ H Q=>ta σ H fun x H1=>∃c,x=.bl c∧if c=true then Q (.bl true) H1 else tb σ H1 Q
theorem Ed {op}{t:TE} (h:PE X a t):PE X (.BoolOp op [a] pos) t:=fun pins s σ H Q I hw=>BoolOp_one (h pins s σ H Q I hw)
theorem Ea (ha:PE X a ta) (hb:PE X (.BoolOp .And (b::rest) pos) tb):PE X (.BoolOp .And (a::b::rest) pos) (ZH ta tb):=by
 intro pins s σ H Q I h
 refine BoolOp_and (thn (ha pins s σ H _ I h) fun v s1 ⟨x,H1,I1,r1,q1⟩=>?_)
 obtain⟨c,rfl,q1⟩:=q1
 cases r1
 refine EM ?_
 cases c with
 | true=>exact hb pins s1 σ H1 Q I1 q1
 | false=>exact⟨.bl false,H1,I1,rfl,q1⟩
theorem Xq (ha:PE X a ta) (hb:PE X (.BoolOp .Or (b::rest) pos) tb):PE X (.BoolOp .Or (a::b::rest) pos) (ZZ ta tb):=by
 intro pins s σ H Q I h
 refine BoolOp_or (thn (ha pins s σ H _ I h) fun v s1 ⟨x,H1,I1,r1,q1⟩=>?_)
 obtain⟨c,rfl,q1⟩:=q1
 cases r1
 refine EM ?_
 cases c with
 | false=>exact hb pins s1 σ H1 Q I1 q1
 | true=>exact⟨.bl true,H1,I1,rfl,q1⟩
def tIf (t:TT) (ta tb:TE):TE:=fun σ H Q=>t σ H fun c H1=>if c=true then ta σ H1 Q else tb σ H1 Q
theorem Lc {c:Expr} (hc:PT X c tA) (ha:PE X a ta) (hb:PE X b tb):PE X (.IfExp c a b pos) (tIf tA ta tb):=by
 intro pins s σ H Q I h
 refine wpAny_IfExp (thn (hc pins s σ H _ I h) fun d s1 ⟨H1,I1,q1⟩=>?_)
 cases d with
 | true=>exact ha pins s1 σ H1 Q I1 q1
 | false=>exact hb pins s1 σ H1 Q I1 q1
end
end L2
namespace L2
open PySem PySem.Spec PyProof.Rows
def SqL (K:AA) (H:Hp) (a:Addr) (xs:List V):Prop :=
 Rd H a (.lst xs)∨
  ∃(o:Obj) (its:Array Value) (n:Nat),K.lookup a=some o∧o.cls=.type "list"∧o.dict=none∧o.data=.seq its n∧its.size≤sizeLine∧Vals xs its.toList
def SqT (K:AA) (H:Hp) (a:Addr) (xs:List V):Prop :=
 Rd H a (.tup xs)∨
  ∃(o:Obj) (its:Array Value) (n:Nat),K.lookup a=some o∧o.cls=.type "tuple"∧o.data=.seq its n∧its.size≤sizeLine∧Vals xs its.toList
def VB:Value→Option V
 | .none=>some .non
 | .bool b=>some (.bl b)
 | .int i _=>some (.int i)
 | .str x _=>some (.str x)
 | .bytes b _=>some (.byt b)
 | .float b _=>some (.flt b)
 | .ref a=>some (.ref a)
 | .type n=>some (.ty n)
 | _=>none
theorem RelV.abs {x:V}{u:Value} (r:RelV x u):VB u=some x:=by
 cases x with
 | non=>cases r;rfl
 | bl _=>cases r;rfl
 | int _=>obtain⟨t,rfl⟩:=r;rfl
 | str _=>obtain⟨t,rfl⟩:=r;rfl
 | byt _=>obtain⟨t,rfl⟩:=r;rfl
 | flt _=>obtain⟨t,rfl⟩:=r;rfl
 | ref _=>cases r;rfl
 | ty _=>cases r;rfl
theorem RelV.inj {x y:V}{u:Value} (r:RelV x u) (q:RelV y u):x=y:=Ae (r.abs.symm.trans q.abs)
theorem Vals.inj:∀{xs ys:List V}{us:List Value},Vals xs us→Vals ys us→xs=ys
 | _,_,_,.nil,.nil=>rfl
 | _,_,_,.cons r t,.cons r' t'=>by rw[r.inj r',Vals.inj t t']
section
variable {X:Cx}{pins:List (Addr×Obj)}{σ:St}{H:Hp}{s:Shared}{a:Addr}{xs ys:List V}
theorem SqL.of {K:AA} (h:H a=some (.lst xs)):SqL K H a xs:=.inl (.inl h)
theorem SqT.of {K:AA} (h:H a=some (.tup xs)):SqT K H a xs:=.inl (.inl h)
theorem Inv.list (I:Inv X pins σ H s) (h:SqL X.K H a xs):∃its:List Value,Vals xs its∧PlainL s.heap a its.toArray∧xs.length≤sizeLine:=by
 rcases h with h | ⟨o,its,n,hk,hc,hd,hs,hz,r⟩
 ·obtain⟨z,its,n,r,e⟩:=h.ok I.hok
  exact⟨its,r,⟨_,n,e,rfl,rfl,rfl⟩,z⟩
 ·refine⟨its.toList,r,⟨o,n,I.kIn a o hk,hc,hd,by simpa using hs⟩,?_⟩
  have e:=r.length
  simp only[JV] at e
  omega
theorem Inv.tuple (I:Inv X pins σ H s) (h:SqT X.K H a xs):∃its:List Value,Vals xs its∧IsTup s.heap a its.toArray∧xs.length≤sizeLine:=by
 rcases h with h | ⟨o,its,n,hk,hc,hs,hz,r⟩
 ·obtain⟨z,its,r,p⟩:=h.ok I.hok
  exact⟨its,r,p,z⟩
 ·refine⟨its.toList,r,⟨o,I.kIn a o hk,hc,n,by simpa using hs⟩,?_⟩
  have e:=r.length
  simp only[JV] at e
  omega
theorem Inv.list_inj (I:Inv X pins σ H s) (h:SqL X.K H a xs) (h':SqL X.K H a ys):xs=ys:=by
 obtain⟨its,r,⟨o,n,e,_,_,d⟩,_⟩:=I.list h
 obtain⟨its',r',⟨o',n',e',_,_,d'⟩,_⟩:=I.list h'
 rw[e] at e';cases e'
 rw[d] at d'
 injection d' with d1 _
 have:its=its':=by simpa using congrArg MU d1
 subst this
 exact r.inj r'
theorem Inv.tuple_inj (I:Inv X pins σ H s) (h:SqT X.K H a xs) (h':SqT X.K H a ys):xs=ys:=by
 obtain⟨its,r,⟨o,e,_,n,d⟩,_⟩:=I.tuple h
 obtain⟨its',r',⟨o',e',_,n',d'⟩,_⟩:=I.tuple h'
 rw[e] at e';cases e'
 rw[d] at d'
 injection d' with d1 _
 have:its=its':=by simpa using congrArg MU d1
 subst this
 exact r.inj r'
end
abbrev Cx.wish (X:Cx) (E:Value→Shared→Prop):Cx:={ X with xe:=E }
abbrev Cx.nox (X:Cx):Cx:=X.wish fun _ _=>False
theorem Cx.Ok.wish {X:Cx} (ok:X.Ok) (E:Value→Shared→Prop):(X.wish E).Ok :=
 ⟨ok.mod,ok.kind,ok.glob,ok.blt,ok.above,ok.inj,ok.has,ok.cab,ok.hd,ok.frames,ok.stk,ok.exf,ok.bs,ok.bsz,ok.noex,ok.exfs,ok.funs,ok.frf⟩
theorem Cx.Ok.unwish {X:Cx}{E:Value→Shared→Prop} (ok:(X.wish E).Ok):X.Ok :=
 ⟨ok.mod,ok.kind,ok.glob,ok.blt,ok.above,ok.inj,ok.has,ok.cab,ok.hd,ok.frames,ok.stk,ok.exf,ok.bs,ok.bsz,ok.noex,ok.exfs,ok.funs,ok.frf⟩
section
variable {X:Cx}{pins:List (Addr×Obj)}{σ:St}{H:Hp}{s:Shared}{E:Value→Shared→Prop}
theorem Inv.wish (I:Inv X pins σ H s) (E:Value→Shared→Prop):Inv (X.wish E) pins σ H s:=⟨I.ok.wish E,I.os,I.bare,I.base,I.loc,I.cell,I.free,I.freeC,I.pin,I.hok,I.len⟩
theorem Inv.unwish (I:Inv (X.wish E) pins σ H s):Inv X pins σ H s:=⟨I.ok.unwish,I.os,I.bare,I.base,I.loc,I.cell,I.free,I.freeC,I.pin,I.hok,I.len⟩
theorem SP.unwish {D:Ex}{f:Flow}{s':Shared} (h:SP (X.wish E) pins D f s'):SP X pins D f s':=by
 cases f with
 | next=>obtain⟨σ',H',I,q⟩:=h;exact⟨σ',H',I.unwish,q⟩
 | brk=>obtain⟨σ',H',I,q⟩:=h;exact⟨σ',H',I.unwish,q⟩
 | cont=>obtain⟨σ',H',I,q⟩:=h;exact⟨σ',H',I.unwish,q⟩
 | ret u=>obtain⟨v,σ',H',I,r,q⟩:=h;exact⟨v,σ',H',I.unwish,r,q⟩
theorem PSs.nox {st:List Stmt}{t:TS} (h:PSs X.nox st t):PSs X st t:=fun pins s σ H D I hw =>
 Cu (h pins s σ H D (I.wish _) hw) (fun _ _ q=>q.unwish) fun _ _ z=>BL z
end
section
variable {X:Cx}{st:Stmt}{rest:List Stmt}{t u:TS}{e:Expr}{te:TE}{pos:Pos}
def MJ:TS:=fun D σ H=>D.nx σ H
def MK (t u:TS):TS:=fun D σ H=>t { D with nx:=u D } σ H
theorem An:PSs X [] MJ:=fun _ _ σ H _ I h=>Na ⟨σ,H,I,h⟩
theorem AJ (h1:PS X st t) (h2:PSs X rest u):PSs X (st::rest) (MK t u):=by
 intro pins s σ H D I h
 refine Uz (thn (h1 pins s σ H { D with nx:=u D } I h) fun f s1 q=>?_)
 cases f with
 | next =>
  obtain⟨σ',H',I',q⟩:=q
  exact h2 pins s1 σ' H' D I' q
 | ret v=>exact q
 | brk=>exact q
 | cont=>exact q
theorem AH (h1:PS X st t):PSs X [st] t:=by
 intro pins s σ H D I h
 refine Uz (thn (h1 pins s σ H D I h) fun f s1 q=>?_)
 cases f with
 | next=>exact Na q
 | ret v=>exact q
 | brk=>exact q
 | cont=>exact q
theorem Inv.quiet {pins:List (Addr×Obj)}{σ:St}{H:Hp}{s:Shared} (I:Inv X pins σ H s):interactive X.env=false:=by simp[interactive,I.ok.kind]
def ZS (te:TE):TS:=fun D σ H=>te σ H fun _ H1=>D.nx σ H1
theorem FA (he:PE X e te) (hs:swapsWith e none pos.line X.env=pure false:=by rfl):PS X (.Expr e pos) (ZS te):=by
 intro pins s σ H D I h
 exact wpAny_Expr_any (thn (he pins s σ H _ I h) fun v s1 ⟨x,H1,I1,r1,q1⟩=>⟨σ,H1,I1,q1⟩) I.quiet hs
def HX (te:TE):TS:=fun D σ H=>te σ H D.rt
theorem AL (he:PE X e te):PS X (.Return (some e) pos) (HX te):=by
 intro pins s σ H D I h
 exact wpAny_Return_some (thn (he pins s σ H _ I h) fun v s1 ⟨x,H1,I1,r1,q1⟩=>⟨x,σ,H1,I1,r1,q1⟩)
def MI (c:TT) (t u:TS):TS:=fun D σ H=>c σ H fun b H1=>if b=true then t D σ H1 else u D σ H1
theorem Al {c:Expr}{a b:List Stmt}{tc:TT} (hc:PT X c tc) (ha:PSs X a t) (hb:PSs X b u):PS X (.If c a b pos) (MI tc t u):=by
 intro pins s σ H D I h
 refine wpAny_If (thn (hc pins s σ H _ I h) fun d s1 ⟨H1,I1,q1⟩=>?_)
 cases d with
 | true=>exact ha pins s1 σ H1 D I1 q1
 | false=>exact hb pins s1 σ H1 D I1 q1
end
abbrev TG:=V→St→Hp→(St→Hp→Prop)→Prop
abbrev TGs:=List V→St→Hp→(St→Hp→Prop)→Prop
def PG (X:Cx) (target:Expr) (t:TG):Prop :=
 ∀(pins:List (Addr×Obj)) (s:Shared) (σ:St) (H:Hp) (v:V) (u:Value) (Q:St→Hp→Prop),Inv X pins σ H s→RelV v u→t v σ H Q→
  wpAny (model X.prog X.w) X.A (assign target X.env u) (fun _ s'=>∃σ' H',Inv X pins σ' H' s'∧Q σ' H') X.xe s
def PGs (X:Cx) (ts:List Expr) (t:TGs):Prop :=
 ∀(pins:List (Addr×Obj)) (s:Shared) (σ:St) (H:Hp) (vs:List V) (us:List Value) (Q:St→Hp→Prop),Inv X pins σ H s→Vals vs us→t vs σ H Q→
  wpAny (model X.prog X.w) X.A (assignInOrder ((assignEach ts X.env).map (·.2)) us) (fun _ s'=>∃σ' H',Inv X pins σ' H' s'∧Q σ' H') X.xe s
section
variable {X:Cx}{pos:Pos}
def Ow (i:Nat):TG:=fun v σ H Q=>Q (σ.set i (some v)) H
theorem Bq {i:Nat}{x:Str} (hN:X.N.Nodup) (hi:X.N[i]?=some x) (hx:Loc X.env.scope x) (hf:X.fn x=true∨X.env.scope.names.lookup x=some .local:=by first | exact .inl rfl | exact .inr rfl | assumption):PG X (.Name x pos) (Ow i):=by
 intro pins s σ H v u Q I r h
 exact wpAny_assign_Name (S2 I hN hi hx r (fun s' I'=>⟨_,H,I',h⟩) hf)
def WG:TGs:=fun vs σ H Q=>vs=[]∧Q σ H
def WE (t:TG) (u:TGs):TGs:=fun vs σ H Q=>∃v r,vs=v::r∧t v σ H fun σ' H'=>u r σ' H' Q
theorem Lf:PGs X [] WG:=by
 intro pins s σ H vs us Q I r h
 obtain⟨e,h⟩:=h
 subst e
 cases r
 exact assignInOrder_nil ⟨σ,H,I,h⟩
theorem F7 {e:Expr}{es:List Expr}{t:TG}{u:TGs} (h1:PG X e t) (h2:PGs X es u)
  (hs:(assignEach (e::es) X.env).map (·.2)=assign e X.env::(assignEach es X.env).map (·.2):=by rfl):PGs X (e::es) (WE t u):=by
 intro pins s σ H vs us Q I r h
 obtain⟨v,vr,e1,h⟩:=h
 subst e1
 cases r with
 | cons r rr =>
  rw[hs]
  refine assignInOrder_cons (thn (h1 pins s σ H _ _ _ I r h) fun _ s1 ⟨σ1,H1,I1,q1⟩=>?_)
  exact h2 pins s1 σ1 H1 _ _ Q I1 rr q1
def WI (K:AA) (n:Nat) (t:TGs):TG:=fun v σ H Q=>∃a xs,v=.ref a∧SqT K H a xs∧xs.length=n∧t xs σ H Q
theorem Le {es:List Expr}{k:Nat}{t:TGs}{n:Nat} (hc:X.calm=true) (h:PGs X es t)
  (hn:(assignEach es X.env).length=n:=by rfl) (hst:(assignEach es X.env).findIdx? (·.1)=none:=by rfl):PG X (.Tuple es k pos) (WI X.K n t):=by
 intro pins s σ H v u Q I r hw
 obtain⟨a,xs,e1,hq,hl,hw⟩:=hw
 subst e1
 cases r
 obtain⟨its,rv,ht,hz⟩:=I.tuple hq
 refine assign_Tuple_tuple (I.ok.hd hc) ht (by simp[hn,← hl,rv.length]) hst fun h' hx=>?_
 have I1:Inv X pins σ H { s with heap:=h' }:=I.kept (t':=s.toks) fun b o e=>hx b o (BM (Aq e)) e
 exact h pins _ σ H xs _ Q I1 (by simpa using rv) hw
def ZI (te:TE) (g:TG):TS:=fun D σ H=>te σ H fun x H1=>g x σ H1 D.nx
theorem BB {i:Nat}{x:Str}{e:Expr}{te:TE}{pos':Pos} (hN:X.N.Nodup) (hi:X.N[i]?=some x) (hx:Loc X.env.scope x) (he:PE X e te) (hs:swapsWith e (some (.Name x pos')) pos.line X.env=pure false:=by rfl) (hf:X.fn x=true∨X.env.scope.names.lookup x=some .local:=by first | exact .inl rfl | exact .inr rfl | assumption):
  PS X (.Assign [.Name x pos'] e pos) (ZI te (Ow i)):=by
 intro pins s σ H D I h
 refine wpAny_Assign_Name (thn (he pins s σ H _ I h) fun v s1 ⟨y,H1,I1,r1,q1⟩=>?_) hs
 exact S2 I1 hN hi hx r1 (fun s2 I2=>⟨_,H1,I2,q1⟩) hf
end
section
variable {X:Cx}{pos:Pos}
end
structure It where
 go:Nat→Hp→Prop
 yld:Nat→Hp→V→Hp→Prop
 stop:Nat→Hp→Prop
def DP (X:Cx) (pins:List (Addr×Obj)) (H:Hp) (b:Addr):Prop :=
 H b=none∧b≠X.env.locals∧b∉X.fs∧(b∈X.ex∨X.s_0.heap.objs.size≤b)∧(∀x c,X.env.cells.lookup x=some c→c≠b)∧∀p∈X.pn++pins,p.1≠b
theorem Inv.fpOk {X:Cx}{pins:List (Addr×Obj)}{σ:St}{H H':Hp}{s:Shared}{b:Addr} (I:Inv X pins σ H s) (hb:s.heap.objs.size≤b) (hn:H' b=none):DP X pins H' b:=by
 refine⟨hn,Jy (BV I.lt hb),I.nofs hb,.inr (Bb I.sz hb),fun x c e z=>?_,fun p hp z=>?_⟩
 ·obtain⟨v,q⟩:=I.cell x c e
  exact absurd (BV q.lt (by rw[z];exact hb)) (Cr _)
 ·exact absurd (BV (Aq (I.pin p hp).1) (by rw[z];exact hb)) (Cr _)
structure Dh (P:Program) (w:World) (K:AA) (tg:Expr) (J:It) (fp:List Addr) (it:Addr) (tn:Nat→Heap→Prop):Prop where
 mem:it∈fp
 obj:∀i h,tn i h→∀b∈fp,∃o,h.get? b=some o∧∀v,o.data≠.cell v
 keep:∀i h h',tn i h→(∀b∈fp,∀o,h.get? b=some o→h'.get? b=some o)→tn i h'
 item:∀(X:Cx),X.prog=P→X.w=w→X.K=K→X.calm=true→∀(i:Nat) (pins:List (Addr×Obj)) (s:Shared) (σ:St) (H:Hp) (E:Value→Shared→Prop),Inv X pins σ H s→(∀b∈fp,DP X pins H b)→tn i s.heap→J.go i H→
  wpAny (model P w) X.A (pyNext (.ref it)) (fun r s1=>∃u,r=some u∧
   wpAny (model P w) X.A (letOwnedTupleGo tg (.ref it) u) (fun _ s2=>∃x H',Inv X pins σ H' s2∧RelV x u∧J.yld i H x H'∧tn (i+1) s2.heap∧∀b∈fp,H' b=none) E s1) E s
 done:∀(X:Cx),X.prog=P→X.w=w→X.K=K→X.calm=true→∀(i:Nat) (pins:List (Addr×Obj)) (s:Shared) (σ:St) (H:Hp) (E:Value→Shared→Prop),Inv X pins σ H s→(∀b∈fp,DP X pins H b)→tn i s.heap→J.stop i H→
  wpAny (model P w) X.A (pyNext (.ref it)) (fun r s1=>r=none∧Inv X pins σ H s1) E s
 self:∀(A:Around) (i:Nat) (s:Shared) (Q:Value→Shared→Prop) (E:Value→Shared→Prop),tn i s.heap→Q (.ref it) s→wpAny (model P w) A (pyIter (.ref it)) Q E s
abbrev TI:=St→Hp→(It→Hp→Prop)→Prop
def PIE (X:Cx) (pins:List (Addr×Obj)) (σ:St) (tg:Expr) (R:It→Hp→Prop) (itv:Value) (s2:Shared):Prop :=
 ∃(it:Addr) (fp:List Addr) (tn:Nat→Heap→Prop) (J:It) (H':Hp),itv=.ref it∧Inv X pins σ H' s2∧Dh X.prog X.w X.K tg J fp it tn∧tn 0 s2.heap∧(∀b∈fp,DP X pins H' b)∧R J H'
def PI (X:Cx) (tg iter:Expr) (wi:TI):Prop :=
 ∀(pins:List (Addr×Obj)) (s:Shared) (σ:St) (H:Hp) (R:It→Hp→Prop),Inv X pins σ H s→wi σ H R→
  wpAny (model X.prog X.w) X.A (eval iter X.env) (fun v s1=>wpAny (model X.prog X.w) X.A (pyIter v) (PIE X pins σ tg R) X.xe s1) X.xe s
theorem Fo {M : Model} {A : Around} {E : Value → Shared → Prop} {s : Shared} {tg : Expr} {it : Addr} {u : Value} {o : Obj} {n : String} {vs : Array Value} {Q : Unit → Shared → Prop} (ho : s.heap.get? it = some o) (hc : o.cls = .type n) (hd : o.data = .fields vs)
    (hn : ["enumerate", "zip", "dict_itemiterator", "dict_reverseitemiterator", "odict_iterator", "itertools.zip_longest", "itertools.pairwise"].contains n = false) (hQ : Q () s) : wpAny M A (letOwnedTupleGo tg (.ref it) u) Q E s := by
  unfold letOwnedTupleGo
  cases tg <;> first
    | exact AQ hQ
    | (cases u <;> first
        | exact AQ hQ
        | (refine AF (wpAny_load ho ?_)
           rw [hc, hd]
           show wpAny M A (if (["enumerate", "zip", "dict_itemiterator", "dict_reverseitemiterator", "odict_iterator", "itertools.zip_longest", "itertools.pairwise"].contains n && vs[0]? == some (rawInt _)) = true then _ else _) Q E s
           rw [if_neg (by intro h; rw [hn, Ce] at h; cases h)]
           exact AQ hQ))
def Itl (K:AA) (a:Addr):It :=
 ⟨fun i H=>∃xs x,SqL K H a xs∧xs[i]?=some x,fun i H x H'=>H'=H∧∀xs,SqL K H a xs→xs[i]?=some x,fun i H=>∃xs,SqL K H a xs∧xs.length≤i⟩
def Itr (lo:Int) (n:Nat):It:=⟨fun i _=>i < n,fun i H x H'=>H'=H∧x=.int (lo+i),fun i _=>n≤i⟩
theorem Zl {P:Program}{w:World}{K:AA}{tg:Expr} (a it:Addr):Dh P w K tg (Itl K a) [it] it (fun i h=>h.IsListIter it a i) where
 mem:=by simp
 obj:=fun i h st b hb=>by
  have e:b=it:=by simpa using hb
  subst e
  obtain⟨o,e,c,d⟩:=st
  exact⟨o,e,fun v z=>by rw[d] at z;cases z⟩
 keep:=fun i h h' st k=>st.at fun o e=>k it (by simp) o e
 item:=by
  intro X hP hw hK hc i pins s σ H E I hf st hg
  subst hP hw hK
  obtain⟨xs,x,hq,hx⟩:=hg
  obtain⟨its,rv,p,hz⟩:=I.list hq
  obtain⟨u,hu,ru⟩:=rv.get hx
  obtain⟨f0,f1,f2,f3,f4,f5⟩:=hf it (by simp)
  refine wpAny_pyNext_list_item st p.isList (x:=u) (by simpa using hu) fun h' st' sb=>?_
  have I1:Inv X pins σ H { s with heap:=h' }:=I.turned (t':=s.toks) (fun b o hb e=>(sb.2 b hb).trans e) f0 f1 f3 f4 f5
  obtain⟨o,e,c,d⟩:=id st'
  exact⟨u,rfl,Fo (s:={ s with heap:=h' }) e c d (by decide) ⟨x,H,I1,ru,⟨rfl,fun ys hy=>by rw[I.list_inj hy hq];exact hx⟩,st',fun b hb=>(hf b hb).1⟩⟩
 done:=by
  intro X hP hw hK hc i pins s σ H E I hf st hg
  subst hP hw hK
  obtain⟨xs,hq,hx⟩:=hg
  obtain⟨its,rv,p,hz⟩:=I.list hq
  obtain⟨f0,f1,f2,f3,f4,f5⟩:=hf it (by simp)
  have hl:=rv.length
  exact wpAny_pyNext_list_end (I.ok.hd hc) st p.isList (by simp;omega) fun h' eb=>⟨rfl,I.turned (t':=s.toks) (fun b o hb e=>eb b o hb e) f0 f1 f3 f4 f5⟩
 self:=fun _ _ _ _ _ st h=>wpAny_pyIter_listiter st h
theorem Zm {P:Program}{w:World}{K:AA}{tg:Expr} (it:Addr) (lo:Int) (n:Nat):Dh P w K tg (Itr lo n) [it] it (fun i h=>IsRangeIter h it (lo+(i:Nat) * 1) ((n:Int) - (i:Nat)) 1) where
 mem:=by simp
 obj:=fun i h st b hb=>by
  have e:b=it:=by simpa using hb
  subst e
  exact⟨_,st,fun v z=>by
   have z':Data.fields _=Data.cell v:=z
   cases z'⟩
 keep:=fun i h h' st k=>k it (by simp) _ st
 item:=by
  intro X hP hw hK hc i pins s σ H E I hf st hg
  subst hP hw hK
  obtain⟨f0,f1,f2,f3,f4,f5⟩:=hf it (by simp)
  have W:=Walks.range (prog:=X.prog) (w:=X.w) (I.ok.hd hc) it lo 1 n
  refine W.item i s _ _ hg st fun v h' tk hv st' kk=>?_
  obtain⟨t,rfl⟩:=hv
  have I1:Inv X pins σ H { s with heap:=h',toks:=tk }:=I.turned (fun b o hb e=>kk b o (by simpa using hb) e) f0 f1 f3 f4 f5
  refine⟨_,rfl,Fo (s:={ s with heap:=h',toks:=tk }) (n:="range_iterator") st' rfl rfl (by decide) ⟨.int (lo+i),H,I1,⟨t,?_⟩,⟨rfl,rfl⟩,st',fun b hb=>(hf b hb).1⟩⟩
  rw[Int.mul_one]
 done:=by
  intro X hP hw hK hc i pins s σ H E I hf st hg
  subst hP hw hK
  obtain⟨f0,f1,f2,f3,f4,f5⟩:=hf it (by simp)
  exact wpAny_pyNext_range_end (I.ok.hd hc) st (by have:n≤i:=hg;omega) fun h' eb=>⟨rfl,I.turned (t':=s.toks) (fun b o hb e=>eb b o hb e) f0 f1 f3 f4 f5⟩
 self:=fun _ _ _ _ _ st h=>wpAny_pyIter_rangeiter st h
end L2
namespace L2
open PySem PySem.Spec PyProof.Rows
section
variable {X:Cx}{tg:Expr}
def WU (K:AA) (tl:TE):TI:=fun σ H R=>tl σ H fun x H1=>∃a,x=.ref a∧(∃xs,SqL K H1 a xs)∧R (Itl K a) H1
theorem Dm {l:Expr}{tl:TE} (hl:PE X l tl):PI X tg l (WU X.K tl):=by
 intro pins s σ H R I h
 refine thn (hl pins s σ H _ I h) fun v s1 ⟨x,H1,I1,r1,q1⟩=>?_
 obtain⟨a,e,⟨xs,hq⟩,q⟩:=q1
 subst e
 cases r1
 obtain⟨its,rv,p,hz⟩:=I1.list hq
 refine U3 p.isList ?_
 refine⟨s1.heap.objs.size,[s1.heap.objs.size],_,_,H1,rfl,I1.kept (t':=s1.toks) fun b o e=>BE _ e,Zl a _,⟨_,BQ _ rfl,rfl,rfl⟩,fun b hb=>?_,q⟩
 have e:b=s1.heap.objs.size:=by simpa using hb
 subst e
 exact I1.fpOk (AV _) (I1.hok.fresh (AV _))
theorem YF {pins:List (Addr×Obj)}{σ:St}{H:Hp}{s:Shared}{R:It→Hp→Prop}{E:Value→Shared→Prop}{lo hi:Int}{t u v:Tok}{tk:Nat} (I:Inv X pins σ H s) (h1:-(2 ^ 62)≤lo) (h2:lo < 2 ^ 62) (h3:-(2 ^ 62)≤hi) (h4:hi < 2 ^ 62)
  (q:R (Itr lo (hi - lo).toNat) H):wpAny (model X.prog X.w) X.A (pyIter (.ref s.heap.objs.size)) (PIE X pins σ tg R) E { s with heap:=s.heap.push { cls:=.type "range",data:=.fields #[.int lo t,.int hi u,.int 1 v] },toks:=tk }:=by
 refine wpAny_pyIter_range (IsRange.new ..) (small_one h1 h2 h3 h4) ?_
 have I1:Inv X pins σ H { s with heap:=s.heap.push { cls:=.type "range",data:=.fields #[.int lo t,.int hi u,.int 1 v] },toks:=tk }:=I.kept fun b o e=>BE _ e
 refine⟨(s.heap.push { cls:=.type "range",data:=.fields #[.int lo t,.int hi u,.int 1 v] }).objs.size,[(s.heap.push { cls:=.type "range",data:=.fields #[.int lo t,.int hi u,.int 1 v] }).objs.size],_,_,H,rfl,
  I1.kept (t':=tk) fun b o e=>BE _ e,Zm _ lo (hi - lo).toNat,?_,fun b hb=>?_,q⟩
 ·have e1:lo+((0:Nat):Int) * 1=lo:=by simp
  have e2:(((hi - lo).toNat:Nat):Int) - ((0:Nat):Int)=Builtin.Range.rangeSize lo hi 1:=by rw[rangeSize_one];split <;> omega
  show IsRangeIter _ _ (lo+((0:Nat):Int) * 1) ((((hi - lo).toNat:Nat):Int) - ((0:Nat):Int)) 1
  rw[e1,e2]
  exact BQ _ rfl
 ·have e:b=(s.heap.push { cls:=.type "range",data:=.fields #[.int lo t,.int hi u,.int 1 v] }).objs.size:=by simpa using hb
  subst e
  exact I1.fpOk (AV _) (I1.hok.fresh (AV _))
def WW (ta:TA):TI:=fun σ H R=>ta σ H fun vs H1=>∃j:Int,vs=[.int j]∧-(2 ^ 62)≤j∧j < 2 ^ 62∧R (Itr 0 j.toNat) H1
theorem Xu {a:Expr}{ta:TA}{p pos:Pos} (hg:Gl X "range") (hm:X.mg "range"=none) (ha:PA X [a] ta) (hs:starEach [a] X.env=[(false,eval a X.env)]:=by rfl):PI X tg (.Call (.Name "range" p) [a] [] pos) (WW ta):=by
 intro pins s σ H R I h
 refine Call_ (Fv I hg hm boot_range (Hu (thn (ha pos pins s σ H _ I h) fun us s1 ⟨vs,H1,I1,r1,q1⟩=>?_) hs rfl))
 obtain⟨j,e,q1,q2,q⟩:=q1
 subst e
 cases r1 with
 | cons r rr =>
  cases rr
  obtain⟨t,rfl⟩:=r
  exact call_range_1 (YF I1 (by omega) (by omega) q1 q2 (by simpa using q))
def ZT (wi:TI) (g:TG) (tb:TS):TS:=fun D σ H=>wi σ H fun J H1=>∃W:Nat→Nat→St→Hp→Prop,(∃m,W 0 m σ H1)∧∀i m σ H,W i m σ H→
 (J.stop i H∧D.nx σ H)∨(J.go i H∧∃N:St→Hp→Prop,(∀σ' H',N σ' H'→∃m',m' < m∧W (i+1) m' σ' H')∧∀x H',J.yld i H x H'→g x σ H' fun σ2 H2=>tb { D with nx:=N,ct:=N,bk:=D.nx } σ2 H2)
def HN (fp:List Addr) (h:Heap):List (Addr×Obj):=fp.filterMap fun b=>(h.get? b).map fun o=>(b,o)
theorem LJ {fp:List Addr}{h:Heap}{b:Addr}{o:Obj} (hb:b∈fp) (e:h.get? b=some o):(b,o)∈HN fp h:=Tz.mpr ⟨b,hb,by rw[e];rfl⟩
theorem XT {fp:List Addr}{h:Heap}{p:Addr×Obj} (hp:p∈HN fp h):p.1∈fp∧h.get? p.1=some p.2:=by
 obtain⟨b,hb,e⟩:=Tz.mp hp
 cases q:h.get? b with
 | none=>rw[q] at e;cases e
 | some o =>
  rw[q] at e
  have e':(b,o)=p:=Ae e
  subst e'
  exact⟨hb,q⟩
theorem Inv.pinned {pins:List (Addr×Obj)}{σ:St}{H:Hp}{s:Shared}{fp:List Addr} (I:Inv X pins σ H s) (hf:∀b∈fp,DP X pins H b) (ho:∀b∈fp,∃o,s.heap.get? b=some o∧∀v,o.data≠.cell v):Inv X (pins++HN fp s.heap) σ H s :=
 I.pins_of fun p hp=>(C9.mp hp).elim (fun z=>I.pin p (EH _ z)) fun z=>by
  obtain⟨hb,e⟩:=XT z
  obtain⟨f0,f1,f2,_⟩:=hf p.1 hb
  obtain⟨o,e',d⟩:=ho p.1 hb
  rw[e] at e';cases e'
  exact⟨e,f0,f1,f2,d⟩
theorem Inv.unpinned {pins pl:List (Addr×Obj)}{σ:St}{H:Hp}{s:Shared} (I:Inv X (pins++pl) σ H s):Inv X pins σ H s:=I.pins_of fun p hp=>I.pin p (EH _ (Hl _ hp))
theorem FC {iter:Expr}{body:List Stmt}{wi:TI}{g:TG}{tb:TS}{pos:Pos} (hp:PassesOwn (model X.prog X.w) X.A X.env X.xe) (hc:X.calm=true) (hi:PI X tg iter wi) (hg:PG X tg g) (hb:PSs X body tb)
  (hs:∀x,foldedSetIterable iter X.env x=pure x:=by intro _;rfl):PS X (.For tg iter body [] pos) (ZT wi g tb):=by
 intro pins s σ H D I h
 refine wpAny_For (thn (hi pins s σ H _ I h) fun v s1 h1=>thn h1 fun itv s2 h2=>?_) hs
 obtain⟨it,fp,tn,J,H2,e,I2,T,st2,f2,W,⟨m0,w0⟩,turn⟩:=h2
 subst e
 have stat:∀{H':Hp},(∀b∈fp,H' b=none)→∀b∈fp,DP X pins H' b:=fun hn b hb=>⟨hn b hb,(f2 b hb).2⟩
 refine codeAny_forLoop_any (fun n s'=>∃i σ' H',Inv X pins σ' H' s'∧tn i s'.heap∧(∀b∈fp,H' b=none)∧W i n σ' H') ?_ m0 ⟨0,σ,H2,I2,st2,fun b hb=>(f2 b hb).1,w0⟩
 rintro n s3 ⟨i,σ3,H3,I3,st3,fr3,w3⟩
 rcases turn i n σ3 H3 w3 with ⟨stop,qn⟩ | ⟨go,N,hN,step⟩
 ·refine Hz hp (thn (T.done X rfl rfl rfl hc i pins s3 σ3 H3 X.xe I3 (stat fr3) st3 stop) fun r s4 ⟨hr,I4⟩=>?_)
  subst hr
  exact Na ⟨σ3,H3,I4,qn⟩
 ·refine Hz hp (thn (T.item X rfl rfl rfl hc i pins s3 σ3 H3 X.xe I3 (stat fr3) st3 go) fun r s4 ⟨u,hr,h4⟩=>?_)
  subst hr
  refine Hz hp (thn h4 fun _ s5 ⟨x,H5,I5,r5,y5,st5,fr5⟩=>?_)
  have I5':=I5.pinned (stat fr5) (T.obj _ _ st5)
  refine Hz hp (thn (hg _ s5 σ3 H5 x u _ I5' r5 (step x H5 y5)) fun _ s6 ⟨σ6,H6,I6,q6⟩=>?_)
  refine Hz hp (thn (hb _ s6 σ6 H6 _ I6 q6) fun f s7 q7=>?_)
  have again:∀{σ7:St} {H7:Hp},Inv X (pins++HN fp s5.heap) σ7 H7 s7→N σ7 H7→∃m,m < n∧∃i σ' H',Inv X pins σ' H' s7∧tn i s7.heap∧(∀b∈fp,H' b=none)∧W i m σ' H':=fun {σ7 H7} I7 n7=>by
   obtain⟨m',hm,w7⟩:=hN σ7 H7 n7
   refine⟨m',hm,i+1,σ7,H7,I7.unpinned,T.keep _ _ _ st5 fun b hb o e=>(I7.pin (b,o) (EH _ (EH _ (LJ hb e)))).1,fun b hb=>?_,w7⟩
   obtain⟨o,e,d⟩:=T.obj _ _ st5 b hb
   exact(I7.pin (b,o) (EH _ (EH _ (LJ hb e)))).2.1
  cases f with
  | next=>obtain⟨σ7,H7,I7,n7⟩:=q7;exact again I7 n7
  | cont=>obtain⟨σ7,H7,I7,n7⟩:=q7;exact again I7 n7
  | brk=>obtain⟨σ7,H7,I7,q7⟩:=q7;exact⟨σ7,H7,I7.unpinned,q7⟩
  | ret v=>obtain⟨x7,σ7,H7,I7,r7,q7⟩:=q7;exact⟨x7,σ7,H7,I7.unpinned,r7,q7⟩
end
theorem Oi {K:AA}{a:Addr}{xs:List V}{g:TG}{tb:TS}{D:Ex}{σ:St}{H:Hp} (Pv:Nat→St→Hp→Prop) (h0:Pv 0 σ H) (hl:∀i σ H,i≤xs.length→Pv i σ H→SqL K H a xs)
  (hs:∀i x σ H,xs[i]?=some x→Pv i σ H→g x σ H fun σ2 H2=>tb { D with nx:=Pv (i+1),ct:=Pv (i+1),bk:=D.nx } σ2 H2) (hd:∀σ H,Pv xs.length σ H→D.nx σ H):
  ∃W:Nat→Nat→St→Hp→Prop,(∃m,W 0 m σ H)∧∀i m σ H,W i m σ H→
   ((Itl K a).stop i H∧D.nx σ H)∨((Itl K a).go i H∧∃N:St→Hp→Prop,(∀σ' H',N σ' H'→∃m',m' < m∧W (i+1) m' σ' H')∧∀x H',(Itl K a).yld i H x H'→g x σ H' fun σ2 H2=>tb { D with nx:=N,ct:=N,bk:=D.nx } σ2 H2):=by
 refine⟨fun i m σ H=>m=xs.length - i∧i≤xs.length∧Pv i σ H,⟨xs.length,by simp,A5 _,h0⟩,?_⟩
 rintro i m σ H ⟨rfl,hi,p⟩
 have q:=hl i σ H hi p
 by_cases hlt:i < xs.length
 ·refine .inr ⟨⟨xs,xs[i],q,by simp[hlt]⟩,Pv (i+1),fun σ' H' p'=>⟨xs.length - (i+1),by omega,rfl,hlt,p'⟩,fun x H' y=>?_⟩
  obtain⟨e,y⟩:=y
  subst e
  exact hs i x σ _ (y xs q) p
 ·have e:i=xs.length:=by omega
  subst e
  exact .inl ⟨⟨xs,q,AV _⟩,hd σ H p⟩
end L2
namespace L2
open PySem PySem.Spec PyProof.Rows
abbrev R2:=V→V→Hp→VK→Prop
def OpR (X:Cx) (f:Value→Value→Sem Value) (r:R2):Prop :=
 ∀(pins:List (Addr×Obj)) (s:Shared) (σ:St) (H:Hp) (x y:V) (v u:Value) (Q:VK),Inv X pins σ H s→RelV x v→RelV y u→r x y H Q→
  wpAny (model X.prog X.w) X.A (f v u) (EP X pins σ Q) X.xe s
def UnR (X:Cx) (f:Value→Sem Value) (r:V→Hp→VK→Prop):Prop :=
 ∀(pins:List (Addr×Obj)) (s:Shared) (σ:St) (H:Hp) (x:V) (v:Value) (Q:VK),Inv X pins σ H s→RelV x v→r x H Q→
  wpAny (model X.prog X.w) X.A (f v) (EP X pins σ Q) X.xe s
def D1 (X:Cx) (f:Value) (r:List V→Hp→VK→Prop):Prop :=
 ∀(pins:List (Addr×Obj)) (s:Shared) (σ:St) (H:Hp) (xs:List V) (us:List Value) (Q:VK),Inv X pins σ H s→Vals xs us→r xs H Q→
  wpAny (model X.prog X.w) X.A (call f us) (EP X pins σ Q) X.xe s
def tOp (r:R2) (ta tb:TE):TE:=fun σ H Q=>ta σ H fun x H1=>tb σ H1 fun y H2=>r x y H2 Q
def tUn (r:V→Hp→VK→Prop) (ta:TE):TE:=fun σ H Q=>ta σ H fun x H1=>r x H1 Q
def rI (C:Int→Int→Prop) (g:Int→Int→V):R2:=fun x y H Q=>∃i j,x=.int i∧y=.int j∧C i j∧Q (g i j) H
def rI0 (g:Int→Int→V):R2:=fun x y H Q=>∃i j,x=.int i∧y=.int j∧Q (g i j) H
def rU (g:Int→V):V→Hp→VK→Prop:=fun x H Q=>∃i,x=.int i∧Q (g i) H
section
variable {X:Cx}{a b c:Expr}{ta tb tc:TE}{pos:Pos}
theorem Ki (ha:PE X a ta) (hb:PE X b tb) {pins:List (Addr×Obj)}{s:Shared}{σ:St}{H:Hp}{R:V→V→Hp→Prop} (I:Inv X pins σ H s)
  (h:ta σ H fun x H1=>tb σ H1 fun y H2=>R x y H2) {Q:Value→Shared→Prop} {f:Value→Value→Sem Value}
  (hf:∀v u s2 x y H2,Inv X pins σ H2 s2→RelV x v→RelV y u→R x y H2→wpAny (model X.prog X.w) X.A (f v u) Q X.xe s2):
  wpAny (model X.prog X.w) X.A (eval a X.env) (fun v s₁=>wpAny (model X.prog X.w) X.A (eval b X.env) (fun u s₂=>wpAny (model X.prog X.w) X.A (f v u) Q X.xe s₂) X.xe s₁) X.xe s:=by
 refine thn (ha pins s σ H _ I h) fun v s1 ⟨x,H1,I1,r1,q1⟩=>?_
 refine thn (hb pins s1 σ H1 _ I1 q1) fun u s2 ⟨y,H2,I2,r2,q2⟩=>?_
 exact hf v u s2 x y H2 I2 r1 r2 q2
theorem EB {op:Operator}{r:R2} (ho:OpR X (binaryOp op) r) (ha:PE X a ta) (hb:PE X b tb):PE X (.BinOp a op b pos) (tOp r ta tb):=by
 intro pins s σ H Q I h
 exact wpAny_BinOp (Ki ha hb I h fun v u s2 x y H2 I2 rx ry q=>ho pins s2 σ H2 x y v u Q I2 rx ry q)
theorem F6 {op:UnaryOp}{r:V→Hp→VK→Prop} (ho:UnR X (unaryOp op) r) (ha:PE X a ta):PE X (.UnaryOp op a pos) (tUn r ta):=by
 intro pins s σ H Q I h
 exact UnaryOp_ (thn (ha pins s σ H _ I h) fun v s1 ⟨x,H1,I1,r1,q1⟩=>ho pins s1 σ H1 x v Q I1 r1 q1)
theorem opI {f:Value→Value→Sem Value}{C:Int→Int→Prop}{g:Int→Int→Int}
  (rule:∀(i j:Int) (t u:Tok) (s:Shared) (Q:Value→Shared→Prop) (E:Value→Shared→Prop),C i j→Q (.int (g i j) s.toks) { s with toks:=s.toks+1 }→wpAny (model X.prog X.w) X.A (f (.int i t) (.int j u)) Q E s):
  OpR X f (rI C fun i j=>.int (g i j)):=by
 intro pins s σ H x y v u Q I rx ry h
 obtain⟨i,j,rfl,rfl,hc,q⟩:=h
 obtain⟨t,rfl⟩:=rx
 obtain⟨t',rfl⟩:=ry
 exact rule i j t t' s _ _ hc ⟨.int (g i j),H,I.tok _,⟨_,rfl⟩,q⟩
theorem QC {f:Value→Value→Sem Value}{g:Int→Int→Int}
  (rule:∀(i j:Int) (t u:Tok) (s:Shared) (Q:Value→Shared→Prop) (E:Value→Shared→Prop),Q (.int (g i j) s.toks) { s with toks:=s.toks+1 }→wpAny (model X.prog X.w) X.A (f (.int i t) (.int j u)) Q E s):
  OpR X f (rI0 fun i j=>.int (g i j)):=by
 intro pins s σ H x y v u Q I rx ry h
 obtain⟨i,j,rfl,rfl,q⟩:=h
 obtain⟨t,rfl⟩:=rx
 obtain⟨t',rfl⟩:=ry
 exact rule i j t t' s _ _ ⟨.int (g i j),H,I.tok _,⟨_,rfl⟩,q⟩
theorem Iy {f:Value→Value→Sem Value}{g:Int→Int→Bool}
  (rule:∀(i j:Int) (t u:Tok) (s:Shared) (Q:Value→Shared→Prop) (E:Value→Shared→Prop),Q (.bool (g i j)) s→wpAny (model X.prog X.w) X.A (f (.int i t) (.int j u)) Q E s):
  OpR X f (rI0 fun i j=>.bl (g i j)):=by
 intro pins s σ H x y v u Q I rx ry h
 obtain⟨i,j,rfl,rfl,q⟩:=h
 obtain⟨t,rfl⟩:=rx
 obtain⟨t',rfl⟩:=ry
 exact rule i j t t' s _ _ ⟨.bl (g i j),H,I,rfl,q⟩
def CMul (i j:Int):Prop:=(-(2 ^ 64) < i∧i < 2 ^ 64)∨(-(2 ^ 64) < j∧j < 2 ^ 64)
theorem CMul.ok {i j:Int} (h:CMul i j):IntMulOk i j:=by
 rcases h with ⟨h1,h2⟩ | ⟨h1,h2⟩
 ·exact .of_left (intBits_le_64 h1 h2)
 ·exact .of_right (intBits_le_64 h1 h2)
theorem LW:OpR X (binaryOp .Add) (rI0 fun i j=>.int (i+j)):=QC fun _ _ _ _ _ _ _ q=>add_int q
theorem LY:OpR X (binaryOp .Sub) (rI0 fun i j=>.int (i - j)):=QC fun _ _ _ _ _ _ _ q=>sub_int q
theorem Xc:OpR X (binaryOp .Mult) (rI CMul fun i j=>.int (i * j)):=opI fun _ _ _ _ _ _ _ hc q=>mul_int q hc.ok
theorem unI {f:Value→Sem Value}{g:Int→Int}
  (rule:∀(i:Int) (t:Tok) (s:Shared) (Q:Value→Shared→Prop) (E:Value→Shared→Prop),Q (.int (g i) s.toks) { s with toks:=s.toks+1 }→wpAny (model X.prog X.w) X.A (f (.int i t)) Q E s):
  UnR X f (rU fun i=>.int (g i)):=by
 intro pins s σ H x v Q I rx h
 obtain⟨i,rfl,q⟩:=h
 obtain⟨t,rfl⟩:=rx
 exact rule i t s _ _ ⟨.int (g i),H,I.tok _,⟨_,rfl⟩,q⟩
theorem GL:UnR X (unaryOp .USub) (rU fun i=>.int (-i)):=unI fun _ _ _ _ _ q=>neg_int q
end
def RU:V→V→Bool
 | .non,.non=>true | .non,.int _=>true | .int _,.non=>true | .non,.bl _=>true | .bl _,.non=>true | .non,.str _=>true | .str _,.non=>true
 | .int _,.int _=>true | .bl _,.bl _=>true | .str _,.str _=>true | .byt _,.byt _=>true
 | .int _,.str _=>true | .str _,.int _=>true | .bl _,.str _=>true | .str _,.bl _=>true
 | _,_=>false
def rEq:R2:=fun x y H Q=>RU x y=true∧Q (.bl (decide (x=y))) H
def rNe:R2:=fun x y H Q=>RU x y=true∧Q (.bl (!decide (x=y))) H
theorem OJ {i j:Int}:decide (V.int i=V.int j)=(i==j):=by
 rw[C3]
 simp
theorem OH {i j:Bool}:decide (V.bl i=V.bl j)=(i==j):=by
 rw[C3]
 simp
theorem OK {i j:Str}:decide (V.str i=V.str j)=(i==j):=by
 rw[C3]
 simp
theorem OI {i j:Array UInt8}:decide (V.byt i=V.byt j)=(i.toList==j.toList):=by
 rw[C3]
 cases i
 cases j
 simp
section
variable {X:Cx}{a b c:Expr}{ta tb tc:TE}{pos:Pos}
theorem A8 {pins:List (Addr×Obj)}{σ:St}{H:Hp}{s:Shared}{Q:VK}{k k':Bool} (I:Inv X pins σ H s) (q:Q (.bl k) H) (e:k=k'):EP X pins σ Q (.bool k') s:=by
 subst e
 exact⟨.bl k,H,I,rfl,q⟩
theorem BZ:OpR X (compareOp .Eq) rEq:=by
 intro pins s σ H x y v u Q I rx ry h
 obtain⟨hs,q⟩:=h
 cases x with
 | non =>
  cases rx
  cases y with
  | non=>cases ry;exact PySem.EqNone.eq_none_none (A8 I q (by simp))
  | bl j=>cases ry;exact PySem.EqNone.eq_none_bool (A8 I q (by simp))
  | int j=>obtain⟨t',rfl⟩:=ry;exact PySem.EqNone.eq_none_int (A8 I q (by simp))
  | str j=>obtain⟨t',rfl⟩:=ry;exact PySem.EqNone.eq_none_str (A8 I q (by simp))
  | _=>exact absurd (show false=true from hs) Af
 | bl i =>
  cases rx
  cases y with
  | non=>cases ry;exact PySem.EqNone.eq_bool_none (A8 I q (by simp))
  | bl j=>cases ry;exact eq_bool (A8 I q OH)
  | str j=>obtain⟨t',rfl⟩:=ry;exact PySem.EqMixed.eq_bool_str (A8 I q (by simp))
  | _=>exact absurd (show false=true from hs) Af
 | int i =>
  obtain⟨t,rfl⟩:=rx
  cases y with
  | non=>cases ry;exact PySem.EqNone.eq_int_none (A8 I q (by simp))
  | int j=>obtain⟨t',rfl⟩:=ry;exact eq_int (A8 I q OJ)
  | str j=>obtain⟨t',rfl⟩:=ry;exact PySem.EqMixed.eq_int_str (A8 I q (by simp))
  | _=>exact absurd (show false=true from hs) Af
 | str i =>
  obtain⟨t,rfl⟩:=rx
  cases y with
  | non=>cases ry;exact PySem.EqNone.eq_str_none (A8 I q (by simp))
  | bl j=>cases ry;exact PySem.EqMixed.eq_str_bool (A8 I q (by simp))
  | int j=>obtain⟨t',rfl⟩:=ry;exact PySem.EqMixed.eq_str_int (A8 I q (by simp))
  | str j=>obtain⟨t',rfl⟩:=ry;exact eq_str (A8 I q OK)
  | _=>exact absurd (show false=true from hs) Af
 | byt i =>
  obtain⟨t,rfl⟩:=rx
  cases y with
  | byt j=>obtain⟨t',rfl⟩:=ry;exact PySem.W.eq_bytes (A8 I q OI)
  | _=>exact absurd (show false=true from hs) Af
 | _=>cases y <;> exact absurd (show false=true from hs) Af
theorem Iz:OpR X (compareOp .NotEq) rNe:=by
 intro pins s σ H x y v u Q I rx ry h
 obtain⟨hs,q⟩:=h
 cases x with
 | non =>
  cases rx
  cases y with
  | non=>cases ry;exact PySem.EqNone.ne_none_none (A8 I q (by simp))
  | bl j=>cases ry;exact PySem.EqNone.ne_none_bool (A8 I q (by simp))
  | int j=>obtain⟨t',rfl⟩:=ry;exact PySem.EqNone.ne_none_int (A8 I q (by simp))
  | str j=>obtain⟨t',rfl⟩:=ry;exact PySem.EqNone.ne_none_str (A8 I q (by simp))
  | _=>exact absurd (show false=true from hs) Af
 | bl i =>
  cases rx
  cases y with
  | non=>cases ry;exact PySem.EqNone.ne_bool_none (A8 I q (by simp))
  | bl j=>cases ry;exact ne_bool (A8 I q (congrArg not OH))
  | str j=>obtain⟨t',rfl⟩:=ry;exact PySem.EqMixed.ne_bool_str (A8 I q (by simp))
  | _=>exact absurd (show false=true from hs) Af
 | int i =>
  obtain⟨t,rfl⟩:=rx
  cases y with
  | non=>cases ry;exact PySem.EqNone.ne_int_none (A8 I q (by simp))
  | int j=>obtain⟨t',rfl⟩:=ry;exact ne_int (A8 I q (congrArg not OJ))
  | str j=>obtain⟨t',rfl⟩:=ry;exact PySem.EqMixed.ne_int_str (A8 I q (by simp))
  | _=>exact absurd (show false=true from hs) Af
 | str i =>
  obtain⟨t,rfl⟩:=rx
  cases y with
  | non=>cases ry;exact PySem.EqNone.ne_str_none (A8 I q (by simp))
  | bl j=>cases ry;exact PySem.EqMixed.ne_str_bool (A8 I q (by simp))
  | int j=>obtain⟨t',rfl⟩:=ry;exact PySem.EqMixed.ne_str_int (A8 I q (by simp))
  | str j=>obtain⟨t',rfl⟩:=ry;exact ne_str (A8 I q (congrArg not OK))
  | _=>exact absurd (show false=true from hs) Af
 | byt i =>
  obtain⟨t,rfl⟩:=rx
  cases y with
  | byt j=>obtain⟨t',rfl⟩:=ry;exact PySem.W.ne_bytes (A8 I q (congrArg not OI))
  | _=>exact absurd (show false=true from hs) Af
 | _=>cases y <;> exact absurd (show false=true from hs) Af
theorem HG:OpR X (compareOp .Lt) (rI0 fun i j=>.bl (decide (i < j))):=Iy fun _ _ _ _ _ _ _ q=>lt_int q
theorem CY:OpR X (compareOp .LtE) (rI0 fun i j=>.bl (decide (i≤j))):=Iy fun _ _ _ _ _ _ _ q=>le_int q
theorem F2:OpR X (compareOp .Gt) (rI0 fun i j=>.bl (decide (j < i))):=Iy fun _ _ _ _ _ _ _ q=>gt_int q
theorem XZ:OpR X (compareOp .GtE) (rI0 fun i j=>.bl (decide (j≤i))):=Iy fun _ _ _ _ _ _ _ q=>ge_int q
theorem LX:OpR X (compareOp .Is) (fun x y H Q=>y=.non∧Q (.bl (decide (x=.non))) H):=by
 intro pins s σ H x y v u Q I rx ry h
 obtain⟨rfl,q⟩:=h
 cases ry
 refine is_none_gen (A8 I q ?_)
 cases x <;> first
  | (cases rx;rfl)
  | (obtain⟨t,rfl⟩:=rx;rfl)
theorem AR (b:Expr) {op:CmpOp} (h:op≠.In:=by decide) (h2:op≠.NotIn:=by decide):behindInMarks op b=false:=by
 have e1:(op==CmpOp.In)=false:=by cases op <;> first | rfl | exact absurd rfl h
 have e2:(op==CmpOp.NotIn)=false:=by cases op <;> first | rfl | exact absurd rfl h2
 cases b <;> simp[behindInMarks,e1,e2]
theorem Cj {op:CmpOp}{r:R2} (ho:OpR X (compareOp op) r) (ha:PE X a ta) (hb:PE X b tb) (hm:behindInMarks op b=false):PE X (.Compare a [op] [b] pos) (tOp r ta tb):=by
 intro pins s σ H Q I h
 exact wpAny_Compare1 (Ki ha hb I h fun v u s2 x y H2 I2 rx ry q=>ho pins s2 σ H2 x y v u Q I2 rx ry q) hm
def ML (t:TE):TT:=fun σ H Q=>t σ H fun x H'=>∃k,x=.bl k∧Q k H'
theorem Ac {op:CmpOp}{r:R2} (ho:OpR X (compareOp op) r) (ha:PE X a ta) (hb:PE X b tb) (hm:behindInMarks op b=false):PT X (.Compare a [op] [b] pos) (ML (tOp r ta tb)):=by
 intro pins s σ H Q I h
 refine U1 (thn (ha pins s σ H _ I h) fun v s1 ⟨x,H1,I1,r1,q1⟩=>thn (hb pins s1 σ H1 _ I1 q1) fun u s2 ⟨y,H2,I2,r2,q2⟩ =>
  thn (ho pins s2 σ H2 x y v u _ I2 r1 r2 q2) fun c s3 ⟨z,H3,I3,r3,k,e,q3⟩=>?_) hm
 subst e
 cases r3
 exact EM ⟨H3,I3,q3⟩
def MG (r r':R2) (ta tb tc:TE):TE:=fun σ H Q=>ta σ H fun x H1=>tb σ H1 fun y H2=>r x y H2 fun z H3=>∃k,z=.bl k∧
 (if k=true then tc σ H3 fun w' H4=>r' y w' H4 Q else Q (.bl false) H3)
theorem HK {op op':CmpOp}{r r':R2} (ho:OpR X (compareOp op) r) (ho':OpR X (compareOp op') r') (ha:PE X a ta) (hb:PE X b tb) (hc:PE X c tc)
  (hm:lastMarks [op,op'] [b,c]=false:=by with_unfolding_all rfl):PE X (.Compare a [op,op'] [b,c] pos) (MG r r' ta tb tc):=by
 intro pins s σ H Q I h
 refine Compare_chain (thn (ha pins s σ H _ I h) fun v s1 ⟨x,H1,I1,r1,q1⟩=>chain_link (thn (hb pins s1 σ H1 _ I1 q1) fun u s2 ⟨y,H2,I2,r2,q2⟩ =>
  thn (ho pins s2 σ H2 x y v u _ I2 r1 r2 q2) fun d s3 ⟨z,H3,I3,r3,k,e,q3⟩=>?_)) hm
 subst e
 cases r3
 refine EM ?_
 cases k with
 | false=>exact ite_ff ⟨.bl false,H3,I3,rfl,q3⟩
 | true=>exact ite_tt (chain_last (thn (hc pins s3 σ H3 _ I3 q3) fun w' s4 ⟨z',H4,I4,r4,q4⟩=>ho' pins s4 σ H4 y z' u w' Q I4 r2 r4 q4))
theorem Xy {op op':CmpOp}{r r':R2} (ho:OpR X (compareOp op) r) (ho':OpR X (compareOp op') r') (ha:PE X a ta) (hb:PE X b tb) (hc:PE X c tc)
  (hm:lastMarks [op,op'] [b,c]=false:=by with_unfolding_all rfl):PT X (.Compare a [op,op'] [b,c] pos) (ML (MG r r' ta tb tc)):=by
 intro pins s σ H Q I h
 refine isTrue_chain (thn (ha pins s σ H _ I h) fun v s1 ⟨x,H1,I1,r1,q1⟩=>test_link (thn (hb pins s1 σ H1 _ I1 q1) fun u s2 ⟨y,H2,I2,r2,q2⟩ =>
  thn (ho pins s2 σ H2 x y v u _ I2 r1 r2 q2) fun d s3 ⟨z,H3,I3,r3,k,e,q3⟩=>?_)) hm
 subst e
 cases r3
 refine EM ?_
 cases k with
 | false =>
  obtain⟨k',e',q'⟩:=q3
  cases e'
  exact ite_ff ⟨H3,I3,q'⟩
 | true =>
  refine ite_tt (test_last (thn (hc pins s3 σ H3 _ I3 q3) fun w' s4 ⟨z',H4,I4,r4,q4⟩=>thn (ho' pins s4 σ H4 y z' u w' _ I4 r2 r4 q4) fun d' s5 ⟨z2,H5,I5,r5,k2,e2,q5⟩=>?_))
  subst e2
  cases r5
  exact EM ⟨H5,I5,q5⟩
theorem Pj:(sizeLine:Nat) < 2 ^ 63:=by rw[KL];decide
theorem HZ {x:V}{us:List Value} (r:Vals [x] us):∃u,us=[u]∧RelV x u:=by
 cases r with
 | cons r1 r2=>cases r2;exact⟨_,rfl,r1⟩
theorem Fi:D1 X (.builtin "ord") (fun xs H Q=>∃x,xs=[.str x]∧x.length=1∧Q (.int (x.cps.getD 0 0:Nat)) H):=by
 intro pins s σ H xs us Q I r h
 obtain⟨x,rfl,hz,q⟩:=h
 obtain⟨u,rfl,t,rfl⟩:=HZ r
 exact ord_of_one hz ⟨.int _,H,I.tok _,⟨_,rfl⟩,q⟩
end
end L2
namespace L2
open PySem PySem.Spec PyProof.Rows
structure ObjM (h:Heap) (x dx C:Addr) (mA:Str→Option Value):Prop where
 obj:h.get? x=some (Et C dx)
 ns:h.Ns1 dx mA
 ne:dx≠x
theorem W2 {h:Heap}{dx:Addr}{mA:Str→Option Value} (n:h.Ns1 dx mA):∃od,h.get? dx=some od∧∀name,NQ name od=some (mA name):=by
 obtain⟨o,es,ep,ho,hd,hk,_,hm⟩:=n
 refine⟨o,ho,fun name=>?_⟩
 have e:=hm name
 unfold nsFind findBy at e
 rw[← Array.find?_toList] at e
 unfold NQ
 rw[hd]
 dsimp only
 split
 ·rename_i y q
  rw[q] at e
  exact congrArg some e
 ·rename_i q
  rw[q] at e
  have a:es.toList.any (·.refKey)=false:=by
   rw[Dc]
   intro y hy
   obtain⟨z,t,hkey⟩:=hk y (Array.mem_toList_iff.mp hy)
   simp[DictEntry.refKey,hkey]
  have a':¬es.toList.any (·.refKey)=true:=by rw[a];exact Af
  rw[if_neg a']
  exact congrArg some e
theorem ObjM.look {h:Heap}{x dx C:Addr}{mA:Str→Option Value} (I:ObjM h x dx C mA):∃od,PySem.W.InstAt h x (Et C dx) C (some od)∧∀name,NQ name od=some (mA name) :=
 let ⟨od,ho,hl⟩:=W2 I.ns
 ⟨od,⟨I.obj,rfl,rfl,ho⟩,hl⟩
section
variable {prog:Program}{w:World}{A:Around}{E:Value→Shared→Prop}{s:Shared}{K:AA}{x dx C f:Addr}{mA:Str→Option Value}{name:Str}{v:Value}
theorem WJ {expr:Bool}{Q:Value→Shared→Prop} (X:K.In s.heap) (I:ObjM s.heap x dx C mA) (hg:NS K C name=true) (hh:NP K C=true)
  (ha:FW K (.ref C) name=some none) (hv:mA name=some v) (hv':Up v=true) (h:Q v { s with toks:=s.toks+1 }):
  wpAny (model prog w) A (getAttr (.ref x) name expr) Q E s:=by
 obtain⟨od,J,hl⟩:=I.look
 exact PySem.W.get_value X J (PySem.W.plainGet_of hg).1 (PySem.W.findObj_own hh ha rfl (by rw[hl,hv])) hv' h
theorem Ys {ns:List Str}{Q:Unit→Shared→Prop} (X:K.In s.heap) (I:ObjM s.heap x dx C mA)
  (hs:FW K (.ref C) "__setattr__"=some (some (.builtin "object.__setattr__"))) (hp:Us K C=true) (ht:NV K C name=some none) (hh:NP K C=true)
  (hw:KH mA ns) (hsz:ns.length≤sizeLine)
  (h:∀h',ObjM h' x dx C (fun y=>if y=name then some v else mA y)→Gi dx s.heap h'→Q () { s with heap:=h',toks:=s.toks+2 }):
  wpAny (model prog w) A (setAttr (.ref x) name v) Q E s:=by
 obtain⟨od,J,hl⟩:=I.look
 refine PySem.W.set_plain X J hs (PySem.W.osa_open (s:={ s with toks:=s.toks+1 }) (r:=none) X J hp ht fun b=>?_)
 obtain⟨cd,hc,hd'⟩:=PySem.W.any_some hh
 have hx:s.heap.get? x=some ⟨.ref C,some dx,.plain,#[]⟩:=I.obj
 refine AF (AQ (AF (AF (wpAny_loadPart hx (AF (PySem.W.Looks.here (s:={ s with toks:=s.toks+1 }) (PySem.W.looks_clsIn X hc) ?_))))))
 rw[hd']
 refine AQ (a:=some dx) (AF (AQ (AF ?_)))
 refine wpAny_nsSet1 (s:={ s with toks:=s.toks+1 }) I.ns fun h' hn2 hs2=>?_
 obtain⟨oD,esD,epD,hoD,hdD,hcD⟩:=hn2.count (KH.cons name v hw)
 refine AF (wpAny_lookBehind hoD (by rw[hdD];exact pastItsLine_dict (Bb hcD (by rw[Bu];omega))) ?_)
 exact AQ (h _ ⟨(hs2.2 _ (Ap I.ne)).trans I.obj,hn2,I.ne⟩ hs2)
theorem W8 {R:Result→Shared→Prop}{vs:List Value}{kw:List (Str×Value)} (X:K.In s.heap) (hm:Ur K C=true)
  (hi:FW K (.ref C) "__init__"=some (some (.ref f))) (hf:PySem.W.typeIn K (.ref f)=some (.type "function"))
  (h:codeAny (model prog w) (A.under (.builtin "type.__call__" ⟨.ref C::vs,kw⟩)) (.call (.ref f) ⟨.ref (s.heap.objs.size+1)::vs,kw⟩) (PySem.W.InitBack (s.heap.objs.size+1) R)
   { s with heap:=(s.heap.push EL).push (Et C s.heap.objs.size) }):
  codeAny (model prog w) A (.call (.ref C) ⟨vs,kw⟩) R s:=by
 obtain⟨hh,g,d,t,os⟩:=s
 exact PySem.W.make_core (PySem.W.makes_of X hm) (PySem.W.looks_findIn X hi) (fun self=>PySem.W.bind_fn X self hf) (.inl rfl) h
end
def A9 (f:Str) (v:V):List (Str×V)→List (Str×V)
 | []=>[(f,v)]
 | (g,x)::r=>if g=f then (g,v)::r else (g,x)::A9 f v r
theorem Pp (f g:Str) (v:V):∀fs:List (Str×V),(A9 f v fs).lookup g=if g=f then some v else fs.lookup g
 | []=>by
  show Ep g [(f,v)]=_
  by_cases h:g=f
  ·have hb:(g==f)=true:=beq_iff_eq.mpr h
   simp only[Ep,hb,if_pos h]
  ·have hb:(g==f)=false:=beq_eq_false_iff_ne.mpr h
   simp only[Ep,hb,if_neg h]
 | (k,x)::r=>by
  have ih:=Pp f g v r
  rw[show A9 f v ((k,x)::r)=(if k=f then (k,v)::r else (k,x)::A9 f v r) from rfl]
  by_cases hk:k=f
  ·rw[if_pos hk]
   by_cases h:g=k
   ·have hb:(g==k)=true:=beq_iff_eq.mpr h
    simp only[Ep,hb,if_pos (h.trans hk)]
   ·have hb:(g==k)=false:=beq_eq_false_iff_ne.mpr h
    simp only[Ep,hb,if_neg (fun e:g=f=>h (e.trans hk.symm))]
  ·rw[if_neg hk]
   by_cases h:g=k
   ·have hb:(g==k)=true:=beq_iff_eq.mpr h
    simp only[Ep,hb,if_neg (fun e:g=f=>hk (h.symm.trans e))]
   ·have hb:(g==k)=false:=beq_eq_false_iff_ne.mpr h
    simp only[Ep,hb]
    exact ih
theorem K8 (f:Str) (v:V):∀fs:List (Str×V),f∈(A9 f v fs).map (·.1)∧∀g,g∈fs.map (·.1)→g∈(A9 f v fs).map (·.1)
 | []=>⟨by simp[A9],fun g h=>by simp at h⟩
 | (k,x)::r=>by
  obtain⟨i1,i2⟩:=K8 f v r
  rw[show A9 f v ((k,x)::r)=(if k=f then (k,v)::r else (k,x)::A9 f v r) from rfl]
  by_cases hk:k=f
  ·rw[if_pos hk]
   subst hk
   exact⟨by simp,fun g h=>by simpa using h⟩
  ·rw[if_neg hk]
   refine⟨?_,fun g h=>?_⟩
   ·rw[Au]
    exact Ao _ i1
   ·rw[Au] at h ⊢
    rcases AS.mp h with e | e
    ·exact AS.mpr (.inl e)
    ·exact Ao _ (i2 g e)
theorem Pd (f:Str) (v:V):∀fs:List (Str×V),(A9 f v fs).length≤fs.length+1
 | []=>by simp[A9]
 | (k,x)::r=>by
  have ih:=Pd f v r
  rw[show A9 f v ((k,x)::r)=(if k=f then (k,v)::r else (k,x)::A9 f v r) from rfl]
  by_cases hk:k=f
  ·rw[if_pos hk,Bu,Bu];omega
  ·rw[if_neg hk,Bu,Bu];omega
theorem RelO.some_of {v:V}{o:Option Value} (r:RelO (some v) o):∃u,o=some u∧RelV v u:=by
 cases o with
 | none=>exact(show False from r).elim
 | some u=>exact⟨u,rfl,r⟩
theorem WN {v:V}{u:Value} (r:RelV v u):Up u=true:=by
 cases v with
 | non=>cases (show u=DB from r);rfl
 | bl b=>cases (show u=DN b from r);rfl
 | int i=>obtain⟨t,e⟩:=(show ∃t,u=KD i t from r);cases e;rfl
 | str x=>obtain⟨t,e⟩:=(show ∃t,u=KG x t from r);cases e;rfl
 | byt b=>obtain⟨t,e⟩:=(show ∃t,u=Value.bytes b t from r);cases e;rfl
 | flt b=>obtain⟨t,e⟩:=(show ∃t,u=Value.float b t from r);cases e;rfl
 | ref a=>cases (show u=A0 a from r);rfl
 | ty n=>cases (show u=D0 n from r);rfl
section
variable {P:Program}{w:World}{H H':Hp}{h h':Heap}{a C dx:Addr}{fs fs':List (Str×V)}
theorem PH (hok:HOk P w H h) (e:H a=some (.ins C dx fs)):∃mA,ObjM h a dx C mA∧(∀f,RelO (fs.lookup f) (mA f))∧KH mA (fs.map (·.1))∧fs.length≤1000∧H dx=some (.own a):=by
 obtain⟨d,z,ne,ob,mA,n,r,q⟩:=(show ObjOk P w H h a (.ins C dx fs) from hok a _ e)
 exact⟨mA,⟨ob,n,ne⟩,r,q,z,d⟩
end
structure Cls (K:AA) (C:Addr):Prop where
 pg:NS K C NK=true
 hd:NP K C=true
 po:Us K C=true
 sa:FW K (.ref C) "__setattr__"=some (some (.builtin "object.__setattr__"))
theorem Cls.get {K:AA}{C:Addr} (c:Cls K C) (f:Str):NS K C f=true:=c.pg
def NoAttr (K:AA) (C:Addr) (f:Str):Prop:=FW K (.ref C) f=some none
theorem NoAttr.taker {K:AA}{C:Addr}{f:Str} (n:NoAttr K C f):NV K C f=some none:=by
 unfold NV
 rw[show FW K (.ref C) f=some none from n]
 rfl
section
variable {X:Cx}{pins:List (Addr×Obj)}{σ:St}{H:Hp}{s:Shared}{a C dx:Addr}{fs:List (Str×V)}{f:Str}{v:V}{A:Around}{E:Value→Shared→Prop}
theorem WK {b:Bool}{Q:Value→Shared→Prop} (I:Inv X pins σ H s) (e:H a=some (.ins C dx fs)) (c:Cls X.K C) (n:NoAttr X.K C f) (l:fs.lookup f=some v)
  (h:∀u s',Inv X pins σ H s'→RelV v u→Q u s'):wpAny (model X.prog X.w) A (getAttr (.ref a) f b) Q E s:=by
 obtain⟨mA,O,r,_,_,_⟩:=PH I.hok e
 obtain⟨u,hu,ru⟩:=RelO.some_of (v:=v) (o:=mA f) (by rw[← l];exact r f)
 exact WJ I.kIn O (c.get f) c.hd n hu (WN ru) (h u _ (I.tok _) ru)
theorem Yu {y:V}{u:Value}{Q:Unit→Shared→Prop} (I:Inv X pins σ H s) (e:H a=some (.ins C dx fs)) (c:Cls X.K C) (n:NoAttr X.K C f) (hl:fs.length < 1000) (ry:RelV y u)
  (h:∀s',Inv X pins σ (upd H a (.ins C dx (A9 f y fs))) s'→Q () s'):wpAny (model X.prog X.w) A (setAttr (.ref a) f u) Q E s:=by
 obtain⟨mA,O,r,wi,_,ho⟩:=PH I.hok e
 have hz:(fs.map (·.1)).length≤sizeLine:=by rw[AG,KL];omega
 refine Ys I.kIn O c.sa c.po n.taker c.hd wi hz fun h' O' sb=>h _ ?_
 have hd:∃o,h'.get? dx=some o:=let ⟨o,_,_,e',_⟩:=O'.ns;⟨o,e'⟩
 refine I.write (x:=a) (e:=dx) (by rw[e];exact Gn) (.inr ho) (fun b q hb z=>(sb.2 b hb).trans z) hd ?_
 refine⟨by rw[AE O.ne];exact ho,?_,O.ne,O'.obj,_,O'.ns,fun g=>?_,fun g hg=>?_⟩
 ·have:=Pd f y fs;omega
 ·show RelO ((A9 f y fs).lookup g) (if g=f then some u else mA g)
  rw[Pp]
  by_cases q:g=f
  ·rw[if_pos q,if_pos q];exact ry
  ·rw[if_neg q,if_neg q];exact r g
 ·by_cases q:g=f
  ·rw[q];exact(K8 f y fs).1
  ·refine(K8 f y fs).2 g (wi g fun z=>hg ?_)
   show(if g=f then some u else mA g)=none
   rw[if_neg q];exact z
theorem Inv.made (I:Inv X pins σ H s):Inv X pins σ (upd (upd H s.heap.objs.size (.own (s.heap.objs.size+1))) (s.heap.objs.size+1) (.ins C s.heap.objs.size []))
  { s with heap:=(s.heap.push EL).push (Et C s.heap.objs.size) }:=by
 have e1:(s.heap.push EL).get? s.heap.objs.size=some EL:=BQ s.heap rfl
 have e2:((s.heap.push EL).push (Et C s.heap.objs.size)).get? (s.heap.objs.size+1)=some (Et C s.heap.objs.size):=by
  have:=BQ (s.heap.push EL) (o:=Et C s.heap.objs.size) rfl
  rwa [Cs] at this
 have e3:(s.heap.push EL).Ns s.heap.objs.size (fun _=>none):=⟨EL,#[],_,e1,rfl,(fun e he=>absurd he (by simp)),fun _=>rfl⟩
 have I1:=I.laid (a:=s.heap.objs.size) (o:=.own (s.heap.objs.size+1)) (h':=s.heap.push EL) (t':=s.toks) (fun b u q=>BE _ q) (AV _) ⟨_,e1⟩
 refine I1.laid (a:=s.heap.objs.size+1) (o:=.ins C s.heap.objs.size []) (t':=s.toks) (fun b u q=>BE _ q) (Ho (Cs _ _)) ?_
 have ne:s.heap.objs.size≠s.heap.objs.size+1:=BM (Mz _)
 refine⟨by rw[AE ne,AI],A5 _,ne,e2,fun _=>none,(Heap.Ns1.of_empty e3).at fun o q=>BE _ q,fun _=>Gn,fun y hy=>absurd rfl hy⟩
theorem VN {prog:Program}{w:World}{env:Env}{e:Expr}{f:Str}{pos:Pos}{s:Shared}{Q:Value→Shared→Prop} (hb:attributeBase e f env (eval e env)=eval e env)
  (h:wpAny (model prog w) A (eval e env) (fun o s₁=>wpAny (model prog w) A (getAttr o f true) Q E s₁) E s):wpAny (model prog w) A (eval (.Attribute e f pos) env) Q E s :=
 Attribute_any_ h (by rw[arm_eval_Attribute,hb])
end
def MH (K:AA) (ta:TE) (f:Str):TE:=fun σ H Q=>ta σ H fun x H1=>∃a C dx fs v,x=.ref a∧H1 a=some (.ins C dx fs)∧Cls K C∧NoAttr K C f∧fs.lookup f=some v∧Q v H1
def YN (K:AA) (ta tv:TE) (f:Str):TS:=fun D σ H=>tv σ H fun y H1=>ta σ H1 fun x H2=>∃a C dx fs,x=.ref a∧H2 a=some (.ins C dx fs)∧Cls K C∧NoAttr K C f∧fs.length < 1000∧
 D.nx σ (upd H2 a (.ins C dx (A9 f y fs)))
section
variable {X:Cx}{o e value:Expr}{f:Str}{pos pos' tpos:Pos}{ta tv:TE}
theorem Ak (he:PE X e ta) (hb:attributeBase e f X.env (eval e X.env)=eval e X.env):PE X (.Attribute e f pos) (MH X.K ta f):=by
 intro pins s σ H Q I h
 refine VN hb (thn (he pins s σ H _ I h) fun u s1 ⟨x,H1,I1,rx,a,C,dx,fs,v,ex,ea,c,n,l,q⟩=>?_)
 subst ex
 obtain rfl:u=A0 a:=rx
 exact WK I1 ea c n l fun u' s2 I2 ru=>⟨v,H1,I2,ru,q⟩
theorem BU (ha:PE X o ta) (hv:PE X value tv) (hs:swapsWith value (some (.Attribute o f pos')) pos.line X.env=pure false):PS X (.Assign [.Attribute o f pos'] value pos) (YN X.K ta tv f):=by
 intro pins s σ H D I h
 refine plainObj_wpAny_Assign_Attribute (thn (hv pins s σ H _ I h) fun u s1 ⟨y,H1,I1,ry,q⟩=>thn (ha pins s1 σ H1 _ I1 q) fun ov s2 ⟨x,H2,I2,rx,a,C,dx,fs,ex,ea,c,n,l,q2⟩=>?_) hs
 subst ex
 obtain rfl:ov=A0 a:=rx
 exact Yu I2 ea c n l ry fun s3 I3=>⟨σ,_,I3,q2⟩
end
section
variable {X:Cx}{pins:List (Addr×Obj)}{σ:St}{H:Hp}{s:Shared}{A:Around}{E:Value→Shared→Prop}{Q:Value→Shared→Prop}{c:Value}{b:Bool}
end
end L2
namespace L2
open PySem PySem.Spec PyProof.Rows
structure Room (k:Nat) (A:Around):Prop where
 hd:A.handled=none
 dp:A.depth+3 * k+5 < recursionLimit
 un:A.units+16 * k+200 < cLine
theorem Room.mono {j k:Nat}{A:Around} (r:Room k A) (h:j≤k):Room j A:=⟨r.hd,by have:=r.dp;omega,by have:=r.un;omega⟩
theorem Room.deeper {k:Nat}{A:Around} (r:Room (k+1) A) (env:Env):Room k (A.deeper env) :=
 ⟨r.hd,by have:=r.dp;show A.depth+1+3 * k+5 < _;omega,by have:=r.un;show A.units+3+16 * k+200 < _;omega⟩
theorem W7 {A:Around}{C:Addr}{us:List Value}{kw:List (Str×Value)}:(A.under (.builtin "type.__call__" ⟨.ref C::us,kw⟩)).depth=A.depth+1:=by
 first | rfl | simp[M9,Code.weight,Code.isCreation,Code.isGuard,Code.isCaller,Code.frames,NF,guardIds]
theorem W9 {A:Around}{C:Addr}{us:List Value}{kw:List (Str×Value)}:(A.under (.builtin "type.__call__" ⟨.ref C::us,kw⟩)).units=A.units+1:=by
 first | rfl | simp[M9,Code.cUnits,Code.frames,NF]
theorem Room.make {k:Nat}{A:Around} (r:Room (k+1) A) (C:Addr) (us:List Value) (kw:List (Str×Value)):Room k (A.under (.builtin "type.__call__" ⟨.ref C::us,kw⟩)) :=
 ⟨r.hd,by have:=r.dp;rw[W7];omega,by have:=r.un;rw[W9];omega⟩
theorem Room.depth {k:Nat}{A:Around} (r:Room k A):A.depth < recursionLimit:=by have:=r.dp;omega
theorem Room.units {k:Nat}{A:Around} (r:Room k A):A.units+64 < cLine:=by have:=r.un;omega
def FD:TA:=fun _ H Q=>Q [] H
def GJ (ta:TE) (tr:TA):TA:=fun σ H Q=>ta σ H fun x H1=>tr σ H1 fun xs H2=>Q (x::xs) H2
section
variable {X:Cx}{e:Expr}{es:List Expr}{te:TE}{t:TA}{pos:Pos}
theorem AD:PA X [] FD:=fun _ _ _ _ H Q I h=>ND ⟨[],H,I,.nil,h⟩
theorem AB (ha:PE X e te) (hr:PA X es t) (hs:starEach (e::es) X.env=(false,eval e X.env)::starEach es X.env:=by rfl):PA X (e::es) (GJ te t):=by
 intro pos pins s σ H Q I h
 rw[hs]
 show wpAny _ _ (spliced ((false,eval e X.env)::backTo pos (starEach es X.env))) _ _ s
 refine J5 (thn (ha pins s σ H _ I h) fun u s1 ⟨x,H1,I1,r1,q1⟩=>?_)
 exact thn (hr pos pins s1 σ H1 _ I1 q1) fun us s2 ⟨xs,H2,I2,r2,q2⟩=>⟨x::xs,H2,I2,.cons r1 r2,q2⟩
def Zb (t:TA):TE:=fun σ H Q=>t σ H fun xs H1=>xs.length≤sizeLine∧∀p,H1 p=none→Q (.ref p) (upd H1 p (.tup xs))
def ZW (t:TA):TE:=fun σ H Q=>t σ H fun xs H1=>xs.length≤sizeLine∧∀p,H1 p=none→Q (.ref p) (upd H1 p (.lst xs))
theorem Xr {x1} (h:PA X es t):PE X (.Tuple es x1 pos) (Zb t):=by
 intro pins s σ H Q I hq
 refine wpAny_Tuple_spliced (thn (h pos pins s σ H _ I hq) fun us s1 ⟨xs,H1,I1,r,z,q⟩=>⟨by rw[← r.length];exact z,?_⟩)
 have hf:H1 s1.heap.objs.size=none:=I1.hok.fresh (AV _)
 refine⟨.ref s1.heap.objs.size,upd H1 s1.heap.objs.size (.tup xs),I1.laid (t':=s1.toks) (fun b u e=>BE _ e) (AV _) ?_,rfl,q _ hf⟩
 exact⟨z,us,r,⟨_,BQ _ rfl,rfl,_,rfl⟩⟩
theorem A7 (h:PA X es t):PE X (.List es pos) (ZW t):=by
 intro pins s σ H Q I hq
 refine wpAny_List_spliced (thn (h pos pins s σ H _ I hq) fun us s1 ⟨xs,H1,I1,r,z,q⟩=>⟨by rw[← r.length];exact z,?_⟩)
 have hf:H1 s1.heap.objs.size=none:=I1.hok.fresh (AV _)
 refine⟨.ref s1.heap.objs.size,upd H1 s1.heap.objs.size (.lst xs),I1.laid (t':=s1.toks) (fun b u e=>BE _ e) (AV _) ?_,rfl,q _ hf⟩
 exact⟨z,us,0,r,BQ _ rfl⟩
end
abbrev Sp:=List V→Hp→VK→XK→Prop
abbrev CXT:=List Env→Hp→Shared→XK→Value→Shared→Prop
structure Env0 (P:Program) (w:World) (K:AA) (mg:Str→Option Value) (base:Heap) (A:Around) (outer:List Env) (s:Shared) (H:Hp):Prop where
 frames:A.frames=some outer
 mod:Mod K mg base
 bs:∀b o,base.get? b=some o→s.heap.get? b=some o∧H b=none
 bsz:base.objs.size≤s.heap.objs.size
 funs:s.heap.FunFrames base outer
 frf:∀b∈frs outer,H b=none
 hok:HOk P w H s.heap
 bare:AllBare s.gens
def CE (outer:List Env) (P:Program) (w:World) (H:Hp) (s:Shared) (Q:VK) (u:Value) (s':Shared):Prop :=
 ∃v H',s'.os=s.os∧AllBare s'.gens∧Un (frs outer) [] H H' s.heap s'.heap∧HOk P w H' s'.heap∧RelV v u∧Q v H'
def CR (CX:CXT) (outer:List Env) (P:Program) (w:World) (H:Hp) (s:Shared) (Q:VK) (E:XK) (r:Result) (s':Shared):Prop :=
 match r with
 | .ok (.ret u)=>CE outer P w H s Q u s'
 | .ok _=>False
 | .error e=>CX outer H s E e s'
structure FnOk (P:Program) (w:World) (K:AA) (mg:Str→Option Value) (base:Heap) (CX:CXT) (k:Nat) (f:Addr) (fd:FuncData) (ps:List Str) (sp:Sp):Prop where
 len:∀vs H Q E,sp vs H Q E→vs.length=ps.length
 run:∀(A:Around) (outer:List Env) (s:Shared) (H:Hp) (args:Args) (us:List Value) (vs:List V) (Q:VK) (E:XK),Room k A→Env0 P w K mg base A outer s H→BindsTo s fd args (ps.zip us)→Vals vs us→sp vs H Q E→
  codeAny (model P w) A (.call (.ref f) args) (CR CX outer P w H s Q E) s
theorem FnOk.mono {P:Program}{w:World}{K:AA}{mg:Str→Option Value}{base:Heap}{CX:CXT}{j k:Nat}{f:Addr}{fd:FuncData}{ps:List Str}{sp:Sp} (F:FnOk P w K mg base CX j f fd ps sp) (h:j≤k):
 FnOk P w K mg base CX k f fd ps sp:=⟨F.len,fun A outer s H args us vs Q E hr=>F.run A outer s H args us vs Q E (hr.mono h)⟩
theorem Env0.make {P:Program}{w:World}{K:AA}{mg:Str→Option Value}{base:Heap}{A:Around}{outer:List Env}{s:Shared}{H:Hp} (e:Env0 P w K mg base A outer s H) (C:Addr) (us:List Value) (kw:List (Str×Value)):
 Env0 P w K mg base (A.under (.builtin "type.__call__" ⟨.ref C::us,kw⟩)) outer s H:=⟨by first | exact e.frames | (simpa [M9,Code.envs,NF,pushEnvs] using e.frames),e.mod,e.bs,e.bsz,e.funs,e.frf,e.hok,e.bare⟩
section
variable {X:Cx}{pins:List (Addr×Obj)}{σ:St}{H:Hp}{s s':Shared}
theorem Inv.env0 (I:Inv X pins σ H s):Env0 X.prog X.w X.K X.mg X.base X.A X.stack s H :=
 ⟨I.ok.frames,I.ok.mod,I.bs,Bb I.ok.bsz I.sz,I.stack,I.stkFree,I.hok,I.bare⟩
theorem Inv.after {Q:VK}{u:Value} (I:Inv X pins σ H s) (h:CE X.stack X.prog X.w H s Q u s'):EP X pins σ Q u s':=by
 obtain⟨v,H',os,bare,un,hok,r,q⟩:=h
 obtain⟨hh,g,d,t,os'⟩:=s'
 obtain rfl:os'=s.os:=os
 exact⟨v,H',I.call (h':=hh) (g':=g) (d':=d) (t':=t) (ch:=[]) un hok bare (fun b z=>absurd z (by simp)),r,q⟩
end
def JQ (sp:Sp) (dvs:List V) (E:XK) (t:TA):TE:=fun σ H Q=>t σ H fun vs H1=>sp (vs++dvs) H1 Q E
def JR (C:Addr) (sp:Sp) (dvs:List V) (E:XK) (t:TA):TE:=fun σ H Q=>t σ H fun vs H1=>∀x dx,H1 x=none→H1 dx=none→dx≠x→
 sp (.ref x::(vs++dvs)) (upd (upd H1 dx (.own x)) x (.ins C dx [])) (fun v H2=>v=.non∧Q (.ref x) H2) E
def Binds (K:AA) (fd:FuncData) (ps:List Str) (ds:List Value):Prop :=
 ∀(s:Shared) (us:List Value),K.In s.heap→(us++ds).length=ps.length→BindsTo s fd ⟨us,[]⟩ (ps.zip (us++ds))
theorem Binds.all {K:AA}{fd:FuncData}{ps:List Str} (h:∀us:List Value,us.length=ps.length→bindArgs fd ⟨us,[]⟩=pure (ps.zip us)):Binds K fd ps []:=fun s us _ hl=>by
 rw[C7] at hl ⊢
 exact .of_eq (h us hl)
def Ey (CX:CXT) (X:Cx) (E:XK):Prop:=∀(pins:List (Addr×Obj)) (σ:St) (H:Hp) (s:Shared) (e:Value) (s':Shared),Inv X pins σ H s→CX X.stack H s E e s'→X.xe e s'
section
variable {X:Cx}{CX:CXT}{k:Nat}{f C:Addr}{fd:FuncData}{ps:List Str}{sp:Sp}{dvs:List V}{ds:List Value}{E:XK}{x m:Str}{p pos apos:Pos}{e o:Expr}{es:List Expr}{ta:TE}{t:TA}
theorem Qk {pins:List (Addr×Obj)}{σ:St}{H:Hp}{s:Shared}{Q:VK}{us:List Value}{vs:List V} (F:FnOk X.prog X.w X.K X.mg X.base CX k f fd ps sp) (hr:Room k X.A) (hb:Binds X.K fd ps ds) (hd:Vals dvs ds) (hx:Ey CX X E)
  (I:Inv X pins σ H s) (r:Vals vs us) (h:sp (vs++dvs) H Q E):wpAny (model X.prog X.w) X.A (call (.ref f) us) (EP X pins σ Q) X.xe s:=by
 have r2:Vals (vs++dvs) (us++ds):=r.append hd
 have hl:(us++ds).length=ps.length:=by rw[← r2.length];exact F.len _ _ _ _ h
 refine NY (FZ (F.run X.A X.stack s H ⟨us,[]⟩ (us++ds) (vs++dvs) Q E hr I.env0 (hb s us I.kIn hl) r2 h) fun r s' hq=>?_)
 cases r with
 | error e=>exact hx pins σ H s e s' I hq
 | ok fl =>
  cases fl with
  | ret u=>exact I.after hq
  | next=>exact BL hq
  | brk=>exact BL hq
  | cont=>exact BL hq
theorem QI (F:FnOk X.prog X.w X.K X.mg X.base CX k f fd ps sp) (hr:Room k X.A) (hg:Gl X x) (hm:X.mg x=some (.ref f)) (hk:FX X.K (.ref f)=true) (hb:Binds X.K fd ps ds) (hd:Vals dvs ds) (hx:Ey CX X E)
  (ha:PA X (e::es) t) (hdb:(x==("__debug__":Str))=false:=by decide) (he:starEach (e::es) X.env=(false,eval e X.env)::starEach es X.env:=by rfl) (hpl:(backTo pos (starEach es X.env)).any (·.1)=false:=by rfl):
  PE X (.Call (.Name x p) (e::es) [] pos) (JQ sp dvs E t):=by
 intro pins s σ H Q I h
 refine Fc (HA I hg hm ?_ hdb)
 refine NM (h₀:=X.base) I.ok.mod.kin hk (thn (ha pos pins s σ H _ I h) fun us s1 ⟨vs,H1,I1,r,q⟩=>⟨I1.kIn,?_⟩) he hpl
 exact Qk F hr hb hd hx I1 r q
structure Mk (K:AA) (C f:Addr):Prop where
 makes:Ur K C=true
 init:FW K (.ref C) "__init__"=some (some (.ref f))
 fn:PySem.W.isFn K (.ref f)=true
 kp:FX K (.ref C)=true
theorem Ql {pins:List (Addr×Obj)}{σ:St}{H:Hp}{s:Shared}{Q:VK}{us:List Value}{vs:List V} (M:Mk X.K C f) (F:FnOk X.prog X.w X.K X.mg X.base CX k f fd ps sp) (hr:Room (k+1) X.A) (hb:Binds X.K fd ps ds) (hd:Vals dvs ds)
  (hx:Ey CX X E) (I:Inv X pins σ H s) (r:Vals vs us)
  (h:∀x dx,H x=none→H dx=none→dx≠x→sp (.ref x::(vs++dvs)) (upd (upd H dx (.own x)) x (.ins C dx [])) (fun v H2=>v=.non∧Q (.ref x) H2) E):
  wpAny (model X.prog X.w) X.A (call (.ref C) us) (EP X pins σ Q) X.xe s:=by
 have hq:=h (s.heap.objs.size+1) s.heap.objs.size (I.hok.fresh (Nat.le_succ _)) (I.hok.fresh (AV _)) (BM (Mz _))
 have I2:=Inv.made (C:=C) I
 have r2:Vals (V.ref (s.heap.objs.size+1)::(vs++dvs)) (A0 (s.heap.objs.size+1)::(us++ds)):=.cons rfl (r.append hd)
 have hl:(A0 (s.heap.objs.size+1)::us++ds).length=ps.length:=by
  have e:=r2.length
  rw[F.len _ _ _ _ hq] at e
  exact e.symm
 refine NY (W8 (f:=f) I.kIn M.makes M.init (beq_iff_eq.mp M.fn) (FZ (F.run _ X.stack _ _ ⟨A0 (s.heap.objs.size+1)::us,[]⟩ (A0 (s.heap.objs.size+1)::(us++ds)) _ _ E (hr.make C us [])
  (I2.env0.make C us []) (hb _ (A0 (s.heap.objs.size+1)::us) I2.kIn hl) r2 hq) fun r s' hq'=>?_))
 cases r with
 | error e=>exact hx pins σ _ _ e s' I2 hq'
 | ok fl =>
  cases fl with
  | ret u =>
   obtain⟨v,H',I3,rv,ev,q3⟩:=I2.after hq'
   subst ev
   exact⟨rv,⟨V.ref (s.heap.objs.size+1),H',I3,rfl,q3⟩⟩
  | next=>exact BL hq'
  | brk=>exact BL hq'
  | cont=>exact BL hq'
theorem Xo (M:Mk X.K C f) (F:FnOk X.prog X.w X.K X.mg X.base CX k f fd ps sp) (hr:Room (k+1) X.A) (hg:Gl X x) (hm:X.mg x=some (.ref C)) (hb:Binds X.K fd ps ds) (hd:Vals dvs ds) (hx:Ey CX X E)
  (ha:PA X (e::es) t) (hdb:(x==("__debug__":Str))=false:=by decide) (he:starEach (e::es) X.env=(false,eval e X.env)::starEach es X.env:=by rfl) (hpl:(backTo pos (starEach es X.env)).any (·.1)=false:=by rfl):
  PE X (.Call (.Name x p) (e::es) [] pos) (JR C sp dvs E t):=by
 intro pins s σ H Q I h
 refine Fc (HA I hg hm ?_ hdb)
 refine NM (h₀:=X.base) I.ok.mod.kin M.kp (thn (ha pos pins s σ H _ I h) fun us s1 ⟨vs,H1,I1,r,q⟩=>⟨I1.kIn,?_⟩) he hpl
 exact Ql M F hr hb hd hx I1 r q
theorem Xp (M:Mk X.K C f) (F:FnOk X.prog X.w X.K X.mg X.base CX k f fd ps sp) (hr:Room (k+1) X.A) (hg:Gl X x) (hm:X.mg x=some (.ref C)) (hb:Binds X.K fd ps ds) (hd:Vals dvs ds) (hx:Ey CX X E)
  (hdb:(x==("__debug__":Str))=false:=by decide):PE X (.Call (.Name x p) [] [] pos) (JR C sp dvs E FD):=by
 intro pins s σ H Q I h
 refine Fc (HA I hg hm ?_ hdb)
 exact PySem.W.callWith_K0 I.kIn M.kp (Ql (us:=[]) M F hr hb hd hx I .nil h)
end
section
variable {X:Cx}{CX:CXT}{k:Nat}{f C:Addr}{fd:FuncData}{ps ks:List Str}{sp:Sp}{E:XK}{x m:Str}{p pos apos kpos:Pos}{e o:Expr}{es:List Expr}{kws:List Keyword}{te ta:TE}{t tk:TA}{nm:Option Str}
variable {g:List Value→List Value→List Value}{gV:List V→List V→List V}
end
structure AY (N P:List Str) (sc:Scope):Prop where
 kind:sc.kind=.function
 co:sc.isCoroutine=false
 gen:sc.isGenerator=false
 nd:N.Nodup
 pre:N.take P.length=P
 par:∀x∈P,sc.names.lookup x=some .local∨sc.names.lookup x=some .cell
 nofree:∀y∈sc.names,y.2≠.free
theorem N0 {kindOf:Str→Option NameKind}{x:Str}:∀{binds:List (Str×Value)}{m:Str→Option Value},(∀v,(x,v)∉binds)→bindL kindOf binds m x=m x
 | [],_,_=>rfl
 | (n,v)::r,m,h=>by
  unfold bindL
  rw[N0 fun w hw=>h w (Ao _ hw)]
  split
  ·have:x≠n:=by rintro rfl;exact h v AU
   simp[this]
  ·rfl
theorem Ny {kindOf:Str→Option NameKind}{x:Str}:∀{binds:List (Str×Value)}{m:Str→Option Value},(∀v,(x,v)∉binds)→bindC kindOf binds m x=m x
 | [],_,_=>rfl
 | (n,v)::r,m,h=>by
  unfold bindC
  rw[Ny fun w hw=>h w (Ao _ hw)]
  split
  ·rfl
  ·have:x≠n:=by rintro rfl;exact h v AU
   simp[this]
theorem Nz {kindOf:Str→Option NameKind}{x:Str}{v:Value}:∀{P:List Str}{vs:List Value}{i:Nat}{m:Str→Option Value},P.Nodup→P[i]?=some x→vs[i]?=some v→kindOf x=some .local→
  bindL kindOf (P.zip vs) m x=some v
 | [],_,_,_,_,h,_,_=>by simp at h
 | _::_,[],_,_,_,_,h,_=>by simp at h
 | p::P,w::vs,0,m,nd,h1,h2,hk=>by
  simp at h1 h2;subst h1;subst h2
  show bindL kindOf ((p,w)::P.zip vs) m p=_
  unfold bindL
  rw[N0 fun v hv=>(DA.mp nd).1 (Hn hv).1,if_pos hk]
  simp
 | p::P,w::vs,i+1,m,nd,h1,h2,hk=>by
  show bindL kindOf ((p,w)::P.zip vs) m x=_
  unfold bindL
  exact Nz (i:=i) (DA.mp nd).2 (by simpa using h1) (by simpa using h2) hk
theorem Nw {kindOf:Str→Option NameKind}{x:Str}{v:Value}:∀{P:List Str}{vs:List Value}{i:Nat}{m:Str→Option Value},P.Nodup→P[i]?=some x→vs[i]?=some v→kindOf x≠some .local→
  bindC kindOf (P.zip vs) m x=some v
 | [],_,_,_,_,h,_,_=>by simp at h
 | _::_,[],_,_,_,_,h,_=>by simp at h
 | p::P,w::vs,0,m,nd,h1,h2,hk=>by
  simp at h1 h2;subst h1;subst h2
  show bindC kindOf ((p,w)::P.zip vs) m p=_
  unfold bindC
  rw[Ny fun v hv=>(DA.mp nd).1 (Hn hv).1,if_neg hk]
  simp
 | p::P,w::vs,i+1,m,nd,h1,h2,hk=>by
  show bindC kindOf ((p,w)::P.zip vs) m x=_
  unfold bindC
  exact Nw (i:=i) (DA.mp nd).2 (by simpa using h1) (by simpa using h2) hk
def start (N:List Str) (vs:List V):St:=vs.map some++List.replicate (N.length - vs.length) none
def Di (CX:CXT) (P:Program) (w:World) (K:AA) (mg:Str→Option Value) (base:Heap) (N:List Str) (qual:Str) (scope:Scope) (f:Addr) (cd:Value) (A:Around) (outer:List Env) (s:Shared) (H:Hp) (E:XK):Cx where
 prog:=P
 w:=w
 K:=K
 mg:=mg
 base:=base
 A:=A.deeper (envOfC qual scope s.heap.objs.size f cd)
 N:=N
 s_0:=s
 H_0:=H
 env:=envOfC qual scope s.heap.objs.size f cd
 outer:=outer
 stack:=envOfC qual scope s.heap.objs.size f cd::outer
 ex:=[]
 calm:=true
 fn:=fun _=>true
 pn:=[]
 xe:=fun e s'=>wpAny (model P w) (A.deeper (envOfC qual scope s.heap.objs.size f cd)) (leaving (envOfC qual scope s.heap.objs.size f cd) e) (fun _ s''=>CX outer H s E e s'') (fun e' s''=>CX outer H s E e' s'') s'
theorem N8 {sc:Scope}{n:Nat}{x:Str} (h:sc.names.lookup x=some .cell):∃c,(cellsFrom n sc.names []).lookup x=some c:=by
 have q:=Uo sc.names n [] (.inl h)
 exact T9.mp q
theorem WZ {CX:CXT}{P:Program}{w:World}{K:AA}{mg:Str→Option Value}{base:Heap}{N ps:List Str}{qual:Str}{scope:Scope}{f:Addr}{cd:Value}{A:Around}{outer:List Env}{s s1:Shared}{H:Hp}{E:XK}{us:List Value}{vs:List V}
  (S:AY N ps scope) (hd:A.handled=none) (e0:Env0 P w K mg base A outer s H) (hl:vs.length=ps.length) (r:Vals vs us)
  (x:InCallC s s.heap.objs.size (bindL (envOfC qual scope s.heap.objs.size f cd).kindOf (ps.zip us) fun _=>none) (cellsFrom (s.heap.objs.size+1) scope.names []) (bindC (envOfC qual scope s.heap.objs.size f cd).kindOf (ps.zip us) fun _=>none) s1):
  Inv (Di CX P w K mg base N qual scope f cd A outer s H E) [] (start N vs) H s1:=by
 have hpl:ps.length≤N.length:=by have:=congrArg GZ S.pre;rw[EG] at this;omega
 obtain⟨h1,tk,rfl,hk⟩:=x.done
 have noA:∀b:Addr,b∉(Di CX P w K mg base N qual scope f cd A outer s H E).ex:=fun b z=>absurd (show b∈([]:List Addr) from z) (by simp)
 refine⟨⟨e0.mod,S.kind,rfl,rfl,AV _,fun y z c h1 h2=>?_,fun y hy=>?_,fun y c _ h=>?_,fun _=>hd,UE e0.frames,.inr ⟨rfl,rfl⟩,fun b z=>absurd z (noA b),e0.bs,e0.bsz,fun b _ _=>noA b,fun b z=>absurd z (noA b),e0.funs,e0.frf⟩,
  rfl,e0.bare,Un.kept hk,⟨_,x.toInCall.ns,fun i y v h1 h2 h3=>?_⟩,fun y c h=>⟨_,x.cell y c h⟩,e0.hok.fresh (AV _),fun y c h=>?_,fun p hp=>absurd (show p∈([]:List (Addr×Obj)) from hp) (by simp),e0.hok.kept hk,?_⟩
 ·exact name_of_addr x.apart (Bi h1) (Bi h2)
 ·have hy:scope.names.lookup y=some .cell∨scope.names.lookup y=some .free:=hy
  rcases hy with hy | hy
  ·exact N8 hy
  ·exact absurd rfl (S.nofree _ (Bi hy))
 ·exact Hq (x.above y c (Bi h))
 ·have hi:i < vs.length:=by
   unfold start at h2
   by_cases hi:i < vs.length
   ·exact hi
   ·rw[Hj (by simpa using hi)] at h2
    rw[List.getElem?_replicate] at h2
    split at h2 <;> cases h2
  have ha:vs[i]?=some v:=by
   unfold start at h2
   rw[Ji (by simpa using hi),Ah] at h2
   cases e:vs[i]? with
   | none=>rw[e] at h2;cases h2
   | some a=>rw[e] at h2;cases h2;rfl
  obtain⟨u,hu,rv⟩:=r.get ha
  have hp:ps[i]?=some y:=by
   rw[← S.pre,Tv (by omega)];exact h1
  have ndP:ps.Nodup:=by rw[← S.pre];exact S.nd.sublist (Mv _ _)
  refine⟨u,rv,?_⟩
  rcases S.par y (CN hp) with k | k
  ·exact .inl ⟨k,Nz ndP hp hu k⟩
  ·obtain⟨c,e⟩:=N8 (n:=s.heap.objs.size+1) k
   refine .inr ⟨.inl k,c,e,?_⟩
   have q:=x.cell y c e
   rw[Nw ndP hp hu (by show scope.names.lookup y≠_;rw[k];decide)] at q
   exact q
 ·exact e0.hok.fresh (Hq (x.above y c (Bi h)))
 ·unfold start
  show _=N.length
  rw[BO,AG,List.length_replicate]
  omega
theorem Oh {CX:CXT}{P:Program}{w:World}{K:AA}{mg:Str→Option Value}{base:Heap}{k:Nat}{f:Addr}{name qual:Str}{params:Arguments}{body:List Stmt}{scope:Scope}{dV kV doc pm cdv ct oc:Value}{an od:Option Addr}
  {osl:Array (Option Value)} {N ps:List Str} {sp:Sp} (lk:K.lookup f=some ⟨oc,od,.func (Gj name qual params body scope dV kV doc pm an cdv ct),osl⟩) (hcd:NN K cdv qual=true) (S:AY N ps scope)
  (len:∀vs H Q E,sp vs H Q E→vs.length=ps.length)
  (hbody:∀(A:Around) (outer:List Env) (s:Shared) (H:Hp) (vs:List V) (Q:VK) (E:XK),Room k (A.deeper (envOfC qual scope s.heap.objs.size f cdv))→sp vs H Q E→
   ∃t,PSs (Di CX P w K mg base N qual scope f cdv A outer s H E) body t∧t { nx:=fun _ H'=>Q .non H',rt:=Q } (start N vs) H):
  FnOk P w K mg base CX (k+1) f (Gj name qual params body scope dV kV doc pm an cdv ct) ps sp:=by
 refine⟨len,fun A outer s H args us vs Q E hr e0 hb r hsp=>?_⟩
 have hl:=len _ _ _ _ hsp
 have KX:K.In s.heap:=e0.mod.kin.keeps fun b o e=>(e0.bs b o e).1
 have lim:s.heap.NoLimit:=e0.mod.nolimit.keeps fun b o e=>(e0.bs b o e).1
 have hkind:∀y∈ps.zip us,scope.names.lookup y.1=some .local∨(scope.names.lookup y.1=some .cell∧((cellsFrom (s.heap.objs.size+1) scope.names []).lookup y.1).isSome=true):=fun ⟨n,v⟩ hy=>by
  rcases S.par n (Hn hy).1 with q | q
  ·exact .inl q
  ·exact .inr ⟨q,Uo _ _ _ (.inl q)⟩
 refine codeAny_call_function hr.depth (KX _ _ lk) rfl S.co S.gen rfl (PySem.W.codeRec_of KX hcd) (hb _ _ _ _ ?_)
 refine wpAny_newFunctionEnv_cells S.kind hkind fun env he s1 x=>?_
 subst he
 refine⟨lim.keeps x.toInCall.keep,codeAny_func ?_⟩
 obtain⟨t,ht,hq⟩:=hbody A outer s H vs Q E (hr.deeper _) hsp
 have I:Inv (Di CX P w K mg base N qual scope f cdv A outer s H E) [] (start N vs) H s1:=WZ S hr.hd e0 hl r x
 refine Cu (ht [] s1 (start N vs) H _ I hq) (fun fl s' hs=>?_) fun e s' hs=>hs
 have fin:∀{σ':St} {H':Hp} {v:V} {u:Value},Inv (Di CX P w K mg base N qual scope f cdv A outer s H E) [] σ' H' s'→RelV v u→Q v H'→CE outer P w H s Q u s' :=
  fun {σ' H' v u} J rv q=>⟨v,H',J.os,J.bare,J.base,J.hok,rv,q⟩
 cases fl with
 | ret u =>
  obtain⟨v,σ',H',J,rv,q⟩:=hs
  exact fin J rv q
 | next =>
  obtain⟨σ',H',J,q⟩:=hs
  exact fin (v:=V.non) (u:=DB) J rfl q
 | brk =>
  obtain⟨_,_,_,q⟩:=hs
  exact BL q
 | cont =>
  obtain⟨_,_,_,q⟩:=hs
  exact BL q
end L2
namespace L2
open PySem PySem.Spec PyProof.Rows
section
variable {X:Cx}{x:Str}{p pos:Pos}{e:Expr}{es:List Expr}{t:TA}{id T:String}{r:List V→Hp→VK→Prop}
def tCB (r:List V→Hp→VK→Prop) (t:TA):TE:=fun σ H Q=>t σ H fun vs H1=>r vs H1 Q
theorem Av (hc:D1 X (.builtin id) r) (hg:Gl X x) (hm:X.mg x=none) (hv:bootBuiltins x=some (.builtin id)) (ha:PA X (e::es) t) (hn:x≠"__name__":=by decide) (hdb:(x==("__debug__":Str))=false:=by decide)
  (he:starEach (e::es) X.env=(false,eval e X.env)::starEach es X.env:=by rfl) (hpl:(backTo pos (starEach es X.env)).any (·.1)=false:=by rfl):PE X (.Call (.Name x p) (e::es) [] pos) (tCB r t):=by
 intro pins s σ H Q I h
 refine Fc (Fv I hg hm hv ?_ hn hdb)
 exact PyProof.Rows.callWith_builtin1 (thn (ha pos pins s σ H _ I h) fun us s1 ⟨vs,H1,I1,r1,q1⟩=>hc pins s1 σ H1 vs us Q I1 r1 q1) he hpl
theorem QJ (hc:D1 X (.type T) r) (hg:Gl X x) (hm:X.mg x=none) (hv:bootBuiltins x=some (.type T)) (ha:PA X (e::es) t) (hn:x≠"__name__":=by decide) (hdb:(x==("__debug__":Str))=false:=by decide)
  (he:starEach (e::es) X.env=(false,eval e X.env)::starEach es X.env:=by rfl) (hpl:(backTo pos (starEach es X.env)).any (·.1)=false:=by rfl):PE X (.Call (.Name x p) (e::es) [] pos) (tCB r t):=by
 intro pins s σ H Q I h
 refine Fc (Fv I hg hm hv ?_ hn hdb)
 exact Hu (thn (ha pos pins s σ H _ I h) fun us s1 ⟨vs,H1,I1,r1,q1⟩=>hc pins s1 σ H1 vs us Q I1 r1 q1) he hpl
end
end L2
namespace HT
open PySem PyProof.Rows
def lexLt:List Int→List Int→Bool
 | [],[]=>false
 | [],_::_=>true
 | _::_,[]=>false
 | x::xs,y::ys=>if x=y then lexLt xs ys else decide (x < y)
theorem lexLt_cons (x y:Int) (xs ys:List Int):lexLt (x::xs) (y::ys)=if x=y then lexLt xs ys else decide (x < y):=rfl
theorem lexLt_nil_cons (y:Int) (ys:List Int):lexLt [] (y::ys)=true:=rfl
theorem eqAt_int (A:Around) (s:Shared) (a:Int) (t:Tok) (c:Int) (u:Tok):∃e,Bv A s (.int a t) (.int c u) e∧(e=true↔a=c) :=
 ⟨(a==c),Uh a t c u,by simp⟩
section
open PySem.SeqAt
open PySem.AutoSeq1 (wpAny_loadPart')
open PySem.MeetsSeq PySem.MeetsSeq2 PySem.MeetsSeq3
end
section
variable {prog:Program}{w:World}{A:Around}{E:Value→Shared→Prop}{s:Shared}
def sIx (n d:Nat):Option Int→Nat
 | none=>d
 | some v=>if v < 0 then (v+(n:Int)).toNat else min v.toNat n
end
end HT
namespace L2
open PySem PySem.Spec PyProof.Rows
abbrev TO:=St→Hp→(Option Int→Hp→Prop)→Prop
def PO (X:Cx) (e:Option Expr) (t:TO):Prop :=
 ∀(pins:List (Addr×Obj)) (s:Shared) (σ:St) (H:Hp) (Q:Option Int→Hp→Prop),Inv X pins σ H s→t σ H Q→
  wpAny (model X.prog X.w) X.A (evalPart e X.env) (fun u s'=>∃o H',Inv X pins σ H' s'∧IsPart u o∧Q o H') X.xe s
def ZX:TO:=fun _ H Q=>Q none H
def Za (t:TE):TO:=fun σ H Q=>t σ H fun x H1=>∃i,x=.int i∧Q (some i) H1
theorem PJ {ns:List Int}:∀{us:List Value},Vals (ns.map V.int) us→IntsAre us ns:=by
 induction ns with
 | nil=>intro us r;rw[FQ] at r;cases r;exact .nil
 | cons n ns ih =>
  intro us r
  rw[Au] at r
  cases r with
  | cons r1 r2 =>
   obtain⟨t,e⟩:=r1
   subst e
   exact .cons n t (ih r2)
section
variable {X:Cx}{e:Expr}{te:TE}{lo hi:Option Expr}{tl th:TO}{pos p2:Pos}
theorem F8:PO X none ZX:=by
 intro pins s σ H Q I h
 rw[evalPart_none]
 exact AQ ⟨none,H,I,.none,h⟩
theorem F9 (h:PE X e te):PO X (some e) (Za te):=by
 intro pins s σ H Q I hw
 rw[evalPart_some]
 refine thn (h pins s σ H _ I hw) fun u s1 ⟨x,H1,I1,r1,q1⟩=>?_
 obtain⟨i,rfl,q⟩:=q1
 obtain⟨t,rfl⟩:=r1
 exact⟨some i,H1,I1,.int i t,q⟩
def SlR (X:Cx) (r:V→Option Int→Option Int→Hp→VK→Prop):Prop :=
 ∀(pins:List (Addr×Obj)) (s:Shared) (σ:St) (H:Hp) (x:V) (v vl vu:Value) (lo hi:Option Int) (sl:Addr) (Q:VK),Inv X pins σ H s→RelV x v→s.heap.IsSliceOf sl vl vu .none→IsPart vl lo→IsPart vu hi→r x lo hi H Q→
  ∃T id,typeLookup (.type T) "__getitem__"=pure (some (.builtin id))∧s.TypeIs v T∧wpAny (model X.prog X.w) X.A (getItem v (.ref sl)) (EP X pins σ Q) X.xe s
def tSl (r:V→Option Int→Option Int→Hp→VK→Prop) (te:TE) (tl th:TO):TE:=fun σ H Q=>te σ H fun x H1=>tl σ H1 fun l H2=>th σ H2 fun u H3=>r x l u H3 Q
theorem F5 {r:V→Option Int→Option Int→Hp→VK→Prop} (hr:SlR X r) (he:PE X e te) (hl:PO X lo tl) (hu:PO X hi th):PE X (.Subscript e (.Slice lo hi none p2) pos) (tSl r te tl th):=by
 intro pins s σ H Q I h
 refine M5 (thn (he pins s σ H _ I h) fun v s1 ⟨x,H1,I1,r1,q1⟩=>?_)
 refine wpAny_Slice (thn (hl pins s1 σ H1 _ I1 q1) fun vl s2 ⟨l,H2,I2,pl,q2⟩=>thn (hu pins s2 σ H2 _ I2 q2) fun vu s3 ⟨u,H3,I3,pu,q3⟩=>?_)
 rw[evalPart_none]
 refine AQ ?_
 have I4:Inv X pins σ H3 { s3 with heap:=s3.heap.push { cls:=.type "slice",data:=.fields #[vl,vu,.none] } }:=I3.kept (t':=s3.toks) fun b ob q=>BE _ q
 obtain⟨T,id,hT,ht,hg⟩:=hr pins { s3 with heap:=s3.heap.push { cls:=.type "slice",data:=.fields #[vl,vu,.none] } } σ H3 x v vl vu l u s3.heap.objs.size Q I4 r1 (Heap.IsSliceOf.new ..) pl pu q3
 show wpAny (model X.prog X.w) X.A (subscriptTail e (.Slice lo hi none p2) v (.ref s3.heap.objs.size)) (EP X pins σ Q) X.xe { s3 with heap:=s3.heap.push { cls:=.type "slice",data:=.fields #[vl,vu,.none] } }
 exact tail_any (ops:=[.ref s3.heap.objs.size,v]) ht hT hg (by with_unfolding_all rfl)
def CP (xs:List V) (lo hi:Option Int):List V:=(xs.drop (HT.sIx xs.length 0 lo)).take (HT.sIx xs.length xs.length hi - HT.sIx xs.length 0 lo)
theorem Vk (xs:List V) (lo hi:Option Int):(CP xs lo hi).length≤xs.length:=by
 unfold CP
 rw[EG,Jk]
 omega
end
end L2
namespace L2
open PySem PySem.Spec PyProof.Rows
def ixN (n:Nat) (i:Int):Option Nat:=if 0≤i then (if i < n then some i.toNat else none) else if -(n:Int)≤i then some (i+n).toNat else none
def atI {α:Type} (xs:List α) (i:Int):Option α:=(ixN xs.length i).bind fun j=>xs[j]?
theorem Wd {n:Nat}{i:Int}{j:Nat} (h:ixN n i=some j):seqIndex? i n=some j∧j < n∧-(n:Int)≤i∧i < n:=by
 unfold ixN at h
 by_cases h0:0≤i
 ·rw[if_pos h0] at h
  by_cases h1:i < n
  ·rw[if_pos h1] at h
   have e:i.toNat=j:=Ae h
   exact⟨by rw[seqIndex_of h0 h1,e],by omega,by omega,h1⟩
  ·rw[if_neg h1] at h;cases h
 ·rw[if_neg h0] at h
  by_cases h1:-(n:Int)≤i
  ·rw[if_pos h1] at h
   have e:(i+n).toNat=j:=Ae h
   exact⟨by rw[seqIndex_neg (by omega) h1,e],by omega,h1,by omega⟩
  ·rw[if_neg h1] at h;cases h
theorem VL {α:Type}{xs:List α}{i:Int}{v:α} (h:atI xs i=some v):∃j,seqIndex? i xs.length=some j∧xs[j]?=some v∧j < xs.length∧-(xs.length:Int)≤i∧i < xs.length:=by
 unfold atI at h
 cases e:ixN xs.length i with
 | none=>rw[e] at h;cases h
 | some j =>
  rw[e] at h
  obtain⟨h1,h2,h3,h4⟩:=Wd e
  exact⟨j,h1,h,h2,h3,h4⟩
theorem Bx {α:Type}{xs:List α}{j:Nat}{v:α} (h:xs[j]?=some v):atI xs (j:Int)=some v:=by
 have hj:j < xs.length:=(Bf.mp h).1
 have e:ixN xs.length (j:Int)=some j:=by
  unfold ixN
  rw[if_pos (by omega),if_pos (by omega)];simp
 unfold atI;rw[e];exact h
theorem Kg {α:Type} (xs:List α) (v:α):atI (xs++[v]) (-1)=some v:=by
 have hl:(xs++[v]).length=xs.length+1:=by simp
 have e:ixN (xs++[v]).length (-1)=some xs.length:=by
  unfold ixN
  rw[hl,if_neg (by decide),if_pos (by omega)]
  congr 1
  omega
 unfold atI
 rw[e]
 show(xs++[v])[xs.length]?=some v
 simp
def Nn (b:Expr):Prop:=∀o i,subscripted b false o i=operate [o,i] (getItem o i)
def IxR (X:Cx) (r:R2):Prop :=
 ∀(value slice:Expr) (pins:List (Addr×Obj)) (s:Shared) (σ:St) (H:Hp) (x y:V) (v u:Value) (Q:VK),Inv X pins σ H s→RelV x v→RelV y u→r x y H Q→
  subscripted slice false v u=operate [v,u] (getItem v u)→wpAny (model X.prog X.w) X.A (subscriptTail value slice v u) (EP X pins σ Q) X.xe s
def MtR (X:Cx) (id:String) (r:V→List V→Hp→VK→Prop):Prop :=
 ∀(pins:List (Addr×Obj)) (s:Shared) (σ:St) (H:Hp) (x:V) (xs:List V) (v:Value) (us:List Value) (Q:VK),Inv X pins σ H s→RelV x v→Vals xs us→r x xs H Q→
  wpAny (model X.prog X.w) X.A (call (.builtin id) (v::us)) (EP X pins σ Q) X.xe s
section
variable {X:Cx}{a b:Expr}{ta tb:TE}{pos:Pos}
theorem Bp {r:R2} (hr:IxR X r) (ha:PE X a ta) (hb:PE X b tb) (hs:Nn b):PE X (.Subscript a b pos) (tOp r ta tb):=by
 intro pins s σ H Q I h
 exact M5 (Ki ha hb I h fun v u s2 x y H2 I2 rx ry q=>hr a b pins s2 σ H2 x y v u Q I2 rx ry q (hs _ _))
def QY (K:AA):R2:=fun x y H Q=>∃p xs i v,x=.ref p∧y=.int i∧SqL K H p xs∧atI xs i=some v∧Q v H
theorem Bn:IxR X (QY X.K):=by
 intro value slice pins s σ H x y v u Q I rx ry h hs
 obtain⟨p,xs,i,z,rfl,rfl,hq,he,q⟩:=h
 cases rx
 obtain⟨t,rfl⟩:=ry
 obtain⟨its,r,pl,hz⟩:=I.list hq
 obtain⟨j,h1,h2,h3,h4,h5⟩:=VL he
 obtain⟨w,ew,rw'⟩:=r.get h2
 have hl:=r.length
 have hn:=Pj
 have fin:EP X pins σ Q w s:=⟨z,H,I,rw',q⟩
 by_cases h0:0≤i
 ·have hj:i.toNat=j:=by
   rw[seqIndex_of h0 h5] at h1
   exact Ae h1
  exact item_listR pl.isList h0 (by omega) (by rw[hj];simpa using ew) fin hs
 ·have hj:(i+(its.toArray.size:Int)).toNat=j:=by
   rw[seqIndex_neg (by omega) h4] at h1
   rw[Bg,← hl]
   exact Ae h1
  exact subscriptTail_builtinR (x:=w) pl.isList.typeIs Uv.lookup
   (wpAny_getItem_list_neg (Q:=fun r s'=>r=w∧EP X pins σ Q r s') pl.isList (by omega) (by rw[Bg] <;> omega) (by omega) (by rw[hj];simpa using ew) ⟨rfl,fin⟩) hs
theorem Y1 (lo hi:Option Int) (n:Nat):(sliceBounds lo hi none n).1=((HT.sIx n 0 lo:Nat):Int)∧(sliceBounds lo hi none n).2.1=((HT.sIx n n hi:Nat):Int)∧(sliceBounds lo hi none n).2.2=1:=by
 refine⟨?_,?_,rfl⟩
 ·cases lo with
  | none=>simp[sliceBounds,HT.sIx]
  | some i =>
   simp only[sliceBounds,HT.sIx,M4,show(1:Int) > 0 by decide,if_true]
   by_cases h:i < 0
   ·simp only[h,if_true] <;> omega
   ·simp only[h,if_false] <;> omega
 ·cases hi with
  | none=>simp[sliceBounds,HT.sIx]
  | some i =>
   simp only[sliceBounds,HT.sIx,M4,show(1:Int) > 0 by decide,if_true]
   by_cases h:i < 0
   ·simp only[h,if_true] <;> omega
   ·simp only[h,if_false] <;> omega
theorem Y0 (its:List Value) (lo hi:Option Int):slicePick its.toArray lo hi none=((its.drop (HT.sIx its.length 0 lo)).take (HT.sIx its.length its.length hi - HT.sIx its.length 0 lo)).toArray:=by
 obtain⟨h1,h2,h3⟩:=Y1 lo hi its.toArray.size
 unfold slicePick
 rw[h1,h2,h3]
 simp only[sliceRange_one,pick_run,Bg] <;> rfl
def X9 (K:AA):V→Option Int→Option Int→Hp→VK→Prop:=fun x lo hi H Q=>∃a xs,x=.ref a∧SqL K H a xs∧∀p,H p=none→Q (.ref p) (upd H p (.lst (CP xs lo hi)))
theorem GG:SlR X (X9 X.K):=by
 intro pins s σ H x v vl vu lo hi sl Q I rx hs pl pu h
 obtain⟨a,xs,rfl,hx,q⟩:=h
 cases rx
 obtain⟨its,r,ht,hz⟩:=I.list hx
 have hlen:=r.length
 refine⟨"list",_,Uv.lookup,ht.isList.typeIs,?_⟩
 refine wpAny_getItem_list_slice ht.isList hs pl pu .none (by simp) ?_ (by rw[Bg] <;> omega)
 rw[Y0,← hlen]
 refine⟨.ref s.heap.objs.size,_,I.laid (t':=s.toks) (o:=.lst (CP xs lo hi)) (fun b ob q=>BE _ q) (AV _) ?_,rfl,q _ (I.hok.fresh (AV _))⟩
 exact⟨Bb (Vk xs lo hi) hz,_,0,(r.drop (HT.sIx xs.length 0 lo)).take (HT.sIx xs.length xs.length hi - HT.sIx xs.length 0 lo),BQ _ rfl⟩
def CT:V→Bool
 | .non=>true
 | .bl _=>true
 | .int _=>true
 | .str _=>true
 | _=>false
def eqV:V→V→Bool
 | .non,.non=>true
 | .bl a,.bl b=>a==b
 | .bl a,.int b=>(if a then 1 else 0)==b
 | .int a,.bl b=>a==(if b then 1 else 0)
 | .int a,.int b=>a==b
 | .str a,.str b=>a==b
 | _,_=>false
theorem V9 {A:Around}{s:Shared}{y x:V}{u v:Value} (ry:RelV y u) (rx:RelV x v) (fy:CT y=true) (fx:CT x=true):Bv A s u v (eqV y x):=by
 cases y with
 | non =>
  cases ry
  cases x with
  | non=>cases rx;exact Bv.same _
  | bl b=>cases rx;exact Bv.none_bool b
  | int b=>obtain⟨t,rfl⟩:=rx;exact Bv.none_int b t
  | str b=>obtain⟨t,rfl⟩:=rx;exact Bv.none_str b t
  | _=>exact absurd (show false=true from fx) Af
 | bl a =>
  cases ry
  cases x with
  | non=>cases rx;exact Bv.bool_none a
  | bl b=>cases rx;exact Bv.bool_bool a b
  | int b=>obtain⟨t,rfl⟩:=rx;exact Bv.bool_int a b t
  | str b=>obtain⟨t,rfl⟩:=rx;exact Bv.bool_str a b t
  | _=>exact absurd (show false=true from fx) Af
 | int a =>
  obtain⟨t',rfl⟩:=ry
  cases x with
  | non=>cases rx;exact Bv.int_none a t'
  | bl b=>cases rx;exact Bv.int_bool a t' b
  | int b=>obtain⟨t,rfl⟩:=rx;exact Uh a t' b t
  | str b=>obtain⟨t,rfl⟩:=rx;exact Ui a t' b t
  | _=>exact absurd (show false=true from fx) Af
 | str a =>
  obtain⟨t',rfl⟩:=ry
  cases x with
  | non=>cases rx;exact Bv.str_none a t'
  | bl b=>cases rx;exact Bv.str_bool a t' b
  | int b=>obtain⟨t,rfl⟩:=rx;exact Uj a t' b t
  | str b=>obtain⟨t,rfl⟩:=rx;exact Bv.str_str a t' b t
  | _=>exact absurd (show false=true from fx) Af
 | _=>exact absurd (show false=true from fy) Af
def eqU (x:V) (u:Value):Bool:=match u with
 | .none=>eqV .non x
 | .bool b=>eqV (.bl b) x
 | .int i _=>eqV (.int i) x
 | .str z _=>eqV (.str z) x
 | _=>false
theorem G0 {x y:V}{u:Value} (r:RelV y u) (f:CT y=true):eqU x u=eqV y x:=by
 cases y with
 | non=>cases r;rfl
 | bl b=>cases r;rfl
 | int i=>obtain⟨t,rfl⟩:=r;rfl
 | str z=>obtain⟨t,rfl⟩:=r;rfl
 | _=>exact absurd (show false=true from f) Af
theorem Kd {x:V}:∀{xs:List V}{us:List Value},Vals xs us→xs.all CT=true→us.any (eqU x)=xs.any fun y=>eqV y x
 | _,_,.nil,_=>rfl
 | y::xs,u::us,.cons r t,f=>by
  rw[GX,BI] at f
  rw[DL,DL,G0 r f.1,Kd t f.2]
theorem HD {A:Around}{s:Shared}{x:V}{v:Value} (rx:RelV x v) (fx:CT x=true):∀{xs:List V}{us:List Value},Vals xs us→xs.all CT=true→∀u∈us,Bv A s u v (eqU x u)
 | _,_,.nil,_=>fun u hu=>by cases hu
 | y::xs,u::us,.cons r t,f=>fun u' hu=>by
  rw[GX,BI] at f
  rcases AS.mp hu with rfl | hu
  ·rw[G0 r f.1];exact V9 r rx f.1 fx
  ·exact HD rx fx t f.2 u' hu
def inV (x:V) (xs:List V):Bool:=xs.any fun y=>eqV y x
def rIn (K:AA) (neg:Bool):R2:=fun x y H Q=>∃p xs,y=.ref p∧(SqL K H p xs∨SqT K H p xs)∧CT x=true∧xs.all CT=true∧Q (.bl (if neg then !inV x xs else inV x xs)) H
theorem QE:OpR X (compareOp .In) (rIn X.K false):=by
 intro pins s σ H x y v u Q I rx ry h
 obtain⟨p,xs,rfl,hq,fx,fs,q⟩:=h
 cases ry
 rcases hq with hq | hq
 ·obtain⟨its,r,pl,hz⟩:=I.list hq
  refine SeqAt.in_listAt (eqU x) pl.isList (fun w hw=>HD rx fx r fs w (by simpa using hw)) ⟨.bl _,H,I,rfl,?_⟩
  rw[show its.toArray.any (eqU x)=its.any (eqU x) by simp,Kd r fs]
  exact q
 ·obtain⟨its,r,pl,hz⟩:=I.tuple hq
  refine SeqAt.in_tupleAt (eqU x) pl (fun w hw=>HD rx fx r fs w (by simpa using hw)) ⟨.bl _,H,I,rfl,?_⟩
  rw[show its.toArray.any (eqU x)=its.any (eqU x) by simp,Kd r fs]
  exact q
theorem Bj:D1 X (.builtin "len") (fun xs H Q=>∃p ys,xs=[.ref p]∧(SqL X.K H p ys∨SqT X.K H p ys)∧Q (.int ys.length) H):=by
 intro pins s σ H xs us Q I r h
 obtain⟨p,ys,rfl,hq,q⟩:=h
 obtain⟨u,rfl,rx⟩:=HZ r
 cases rx
 have hn:=Pj
 rcases hq with hq | hq
 ·obtain⟨its,r',pl,hz⟩:=I.list hq
  have hlen:=r'.length
  exact Calls.call_len_list pl.isList (by simp only[Bg] <;> omega) ⟨.int ys.length,H,I.tok _,⟨s.toks+1,by rw[Bg,hlen]⟩,q⟩
 ·obtain⟨its,r',pl,hz⟩:=I.tuple hq
  have hlen:=r'.length
  exact len_tuple pl (by simp only[Bg] <;> omega) ⟨.int ys.length,H,I.tok _,⟨s.toks+1,by rw[Bg,hlen]⟩,q⟩
theorem N4:D1 X (.type "tuple") (fun xs H Q=>∃p ys,xs=[.ref p]∧((SqL X.K H p ys∧∀l,H l=none→Q (.ref l) (upd H l (.tup ys)))∨(SqT X.K H p ys∧Q (.ref p) H))):=by
 intro pins s σ H xs us Q I r h
 obtain⟨p,ys,rfl,h⟩:=h
 obtain⟨u,rfl,rx⟩:=HZ r
 cases rx
 rcases h with ⟨hq,q⟩ | ⟨hq,q⟩
 ·obtain⟨its,r',pl,hz⟩:=I.list hq
  have hlen:=r'.length
  refine call_tuple_list pl.isList (fun h' kp=>?_) (by simp only[Bg] <;> omega)
  have I1:Inv X pins σ H { s with heap:=h' }:=I.kept (t':=s.toks) kp
  have I2:Inv X pins σ (upd H h'.objs.size (.tup ys)) { s with heap:=h'.push { cls:=.type "tuple",data:=.seq its.toArray } } :=
   I1.laid (t':=s.toks) (fun b o e=>BE _ e) (AV _) (show ObjOk X.prog X.w _ _ _ (.tup ys) from⟨hz,its,r',IsTup.new _ _⟩)
  exact⟨.ref h'.objs.size,_,I2,rfl,q _ (I1.hok.fresh (AV _))⟩
 ·obtain⟨its,r',pl,hz⟩:=I.tuple hq
  exact call_tuple_same pl ⟨.ref p,H,I,rfl,q⟩
def tyV (K:AA) (T:String) (x:V) (H:Hp):Prop:=match x with
 | .str _=>T="str"
 | .int _=>T="int"
 | .ref p=>(T="list"∧∃xs,SqL K H p xs)∨(T="tuple"∧∃o,K.lookup p=some o∧o.cls=.type "tuple"∧o.dict=none)∨
  (T="dict"∧((∃kvs,H p=some (.dK kvs))∨∃kvs,H p=some (.dT kvs)))∨(T="set"∧∃S n,H p=some (.set S n))
 | _=>False
theorem Zo {pins:List (Addr×Obj)}{σ:St}{H:Hp}{s:Shared}{T:String}{x:V}{v:Value} (I:Inv X pins σ H s) (r:RelV x v) (ty:tyV X.K T x H):
  s.TypeIs v T∧∀a,v=.ref a→∃ob,s.heap.get? a=some ob∧ob.dict=none:=by
 cases x with
 | str z =>
  obtain⟨t,rfl⟩:=r
  cases (show T="str" from ty)
  exact⟨typeIs_str s z t,fun _ e=>nomatch e⟩
 | int i =>
  obtain⟨t,rfl⟩:=r
  cases (show T="int" from ty)
  exact⟨typeIs_int s i t,fun _ e=>nomatch e⟩
 | ref p =>
  cases r
  rcases ty with ⟨rfl,xs,hq⟩ | ⟨rfl,o,hk,hc,hd⟩ | ⟨rfl,hk⟩ | ⟨rfl,S,n,hk⟩
  ·obtain⟨its,_,pl,_⟩:=I.list hq
   refine⟨pl.isList.typeIs,fun a e=>?_⟩
   cases e
   obtain⟨o,n,e,c,hd,_⟩:=pl
   exact⟨o,e,hd⟩
  ·refine⟨⟨o,I.kIn p o hk,hc⟩,fun a e=>?_⟩
   cases e
   exact⟨o,I.kIn _ o hk,hd⟩
  ·have z:∃o,s.heap.get? p=some o∧o.ExactDict:=by
    rcases hk with ⟨kvs,hk⟩ | ⟨kvs,hk⟩
    ·obtain⟨_,_,_,_,o,_,_,e,ex,_⟩:=I.hok p _ hk
     exact⟨o,e,ex⟩
    ·obtain⟨_,_,_,_,o,_,_,e,ex,_⟩:=I.hok p _ hk
     exact⟨o,e,ex⟩
   obtain⟨o,e,ex⟩:=z
   refine⟨⟨o,e,ex.1⟩,fun a e2=>?_⟩
   cases e2
   exact⟨o,e,ex.2.1⟩
  ·obtain⟨o,_,_,_,e,ex,_⟩:=I.hok p _ hk
   refine⟨⟨o,e,ex.1⟩,fun a e2=>?_⟩
   cases e2
   exact⟨o,e,ex.2.1⟩
 | _=>exact BL ty
def tBM (K:AA) (T:String) (r:V→List V→Hp→VK→Prop) (to:TE) (t:TA):TE:=fun σ H Q=>to σ H fun x H1=>tyV K T x H1∧t σ H1 fun xs H2=>r x xs H2 Q
variable {o e:Expr}{es:List Expr}{to:TE}{t:TA}{name:Str}{apos cpos:Pos}{T id:String}{r:V→List V→Hp→VK→Prop}
theorem Eb (pa:PlainAttrs T) (slot:Slot T name id) (hty:typeOf (.builtin id)=pure (.type "method_descriptor")) (hm:MtR X id r) (ho:PE X o to) (ha:PA X (e::es) t)
  (hbase:attributeBase o name X.env (eval o X.env)=eval o X.env:=by rfl)
  (hfew:((backTo cpos (starEach (e::es) X.env)).all (fun x=>!x.1)&&(backToKw cpos (keywordEach [] X.env)).all (fun x=>x.1.isSome)
   && decide ((e::es).length+([]:List Keyword).length+(if ([]:List Keyword).isEmpty then 0 else 1) < 30))=true:=by rfl)
  (hline:(apos.endLine==cpos.line)=true:=by rfl) (hs:starEach (e::es) X.env=(false,eval e X.env)::starEach es X.env:=by rfl) (hplain:(backTo cpos (starEach es X.env)).any (·.1)=false:=by rfl):
  PE X (.Call (.Attribute o name apos) (e::es) [] cpos) (tBM X.K T r to t):=by
 intro pins s σ H Q I h
 refine wpAny_Call_method_late hbase hfew hline rfl (thn (ho pins s σ H _ I h) fun v s1 ⟨x,H1,I1,r1,ty,q1⟩=>?_)
 obtain⟨h1,h2⟩:=Zo I1 r1 ty
 refine⟨T,id,pa,slot,hty,h1,h2,?_⟩
 have hA:=ha cpos pins s1 σ H1 _ I1 q1
 rw[hs] at hA ⊢
 refine NB (by show(false || (backTo cpos (starEach es X.env)).any (·.1))=false;rw[hplain] <;> rfl) (NC ?_)
 exact thn hA fun us s2 ⟨vs,H2,I2,r2,q2⟩=>hm pins s2 σ H2 x vs v us Q I2 r1 r2 q2
/- xs.append(e),list.index on a module's tuple .. are MtR facts of 06m -/
end
end L2
namespace L2
open PySem PySem.Spec PyProof.Rows
def MtM (X:Cx) (id:String) (r:V→List V→Hp→VK→Prop):Prop :=
 ∀(pins:List (Addr×Obj)) (s:Shared) (σ:St) (H:Hp) (x:V) (xs:List V) (v:Value) (us:List Value) (Q:VK),Inv X pins σ H s→RelV x v→Vals xs us→r x xs H Q→
  wpAny (model X.prog X.w) X.A (call (.builtin id) (v::us)) (EP X pins σ Q) X.xe s
theorem Vals.one:∀{x:V}{us:List Value},Vals [x] us→∃u,us=[u]∧RelV x u
 | _,_,.cons r .nil=>⟨_,rfl,r⟩
section
variable {X:Cx}{pins:List (Addr×Obj)}{σ:St}{H:Hp}{s:Shared}{l b:Addr}{xs ys zs:List V}
theorem Inv.lset {its its':List Value}{n:Nat}{f:Array Value→Array Value}{t':Nat} (I:Inv X pins σ H s) (hH:H l=some (.lst xs))
  (e:s.heap.get? l=some { cls:=.type "list",data:=.seq its.toArray n }) (hf:f its.toArray=its'.toArray) (hv:Vals ys its') (hz:ys.length≤sizeLine):
  Inv X pins σ (upd H l (.lst ys)) { s with heap:=s.heap.update l (NH f),toks:=t' }:=by
 have q:=PySem.IsL.update e f
 rw[hf] at q
 refine I.write (x:=l) (e:=l) (by rw[hH];exact trivial) (.inl rfl) (fun b' u hb hu=>(Heap.get?_update_other s.heap (NH f) (Ap hb)).trans hu) ⟨_,q⟩ ?_
 exact⟨hz,its',_,hv,q⟩
theorem Inv.lnew {its:List Value}{t':Nat} (I:Inv X pins σ H s) (hv:Vals ys its) (hz:ys.length≤sizeLine):
  Inv X pins σ (upd H s.heap.objs.size (.lst ys)) { s with heap:=s.heap.push { cls:=.type "list",data:=.seq its.toArray },toks:=t' } :=
 I.laid (fun _ _ q=>BE _ q) (AV _) ⟨hz,its,0,hv,BQ _ rfl⟩
theorem Inv.fresh (I:Inv X pins σ H s):H s.heap.objs.size=none:=I.hok.fresh (AV _)
theorem Inv.lstM (I:Inv X pins σ H s) (hH:H l=some (.lst xs)):xs.length≤sizeLine∧∃(its:List Value) (n:Nat),Vals xs its∧xs.length=its.length∧s.heap.get? l=some { cls:=.type "list",data:=.seq its.toArray n }:=by
 obtain⟨z,its,n,r,e⟩:=I.hok l _ hH
 exact⟨z,its,n,r,r.length,e⟩
theorem LV {n:Nat} (h:n≤sizeLine):NA n=false:=by
 unfold NA
 exact decide_eq_false (by omega)
end
section
variable {X:Cx}
def X2:V→List V→Hp→VK→Prop:=fun x vs H Q=>∃l xs y,x=.ref l∧vs=[y]∧H l=some (.lst xs)∧xs.length < sizeLine∧Q .non (upd H l (.lst (xs++[y])))
theorem Fz:MtM X "list.append" X2:=by
 intro pins s σ H x vs v us Q I rx rv h
 obtain⟨l,xs,y,rfl,rfl,hH,hz,q⟩:=h
 cases rx
 obtain⟨u,rfl,ru⟩:=rv.one
 obtain⟨z,its,n,r,hl,e⟩:=I.lstM hH
 refine KI F.slot_list_append ⟨_,e,rfl⟩ F.entry_list_append (F.args_list_append_2 _ _) (PySem.list_append l its.toArray n u (by rw[Bg];omega)) ⟨e,?_⟩
 refine⟨.non,_,I.lset (its':=its++[u]) hH e (by simp) (r.append (.cons ru .nil)) ?_,rfl,q⟩
 rw[BO,C8]
 omega
def X5:V→List V→Hp→VK→Prop:=fun x vs H Q=>∃l b xs zs,x=.ref l∧vs=[.ref b]∧H l=some (.lst xs)∧H b=some (.lst zs)∧xs.length+zs.length≤sizeLine∧Q .non (upd H l (.lst (xs++zs)))
theorem Zv:MtM X "list.extend" X5:=by
 intro pins s σ H x vs v us Q I rx rv h
 obtain⟨l,b,xs,zs,rfl,rfl,hH,hB,hz,q⟩:=h
 cases rx
 obtain⟨u,rfl,ru⟩:=rv.one
 cases ru
 obtain⟨z,its,n,r,hl,e⟩:=I.lstM hH
 obtain⟨z2,its2,n2,r2,hl2,e2⟩:=I.lstM hB
 have hsz:its.toArray.size+its2.toArray.size≤sizeLine:=by rw[Bg,Bg];omega
 have hlong:¬(!its.toArray.isEmpty&&NA (its.toArray.size+its2.toArray.size))=true:=by
  rw[LV hsz,GP]
  exact Af
 refine KI F.slot_list_extend ⟨_,e,rfl⟩ F.entry_list_extend (F.args_list_extend_2 _ _)
  (AutoSeq1.list_extend_list_list_0 l its.toArray n b its2.toArray n2 hlong (by rw[Bg];omega) (by omega)) ⟨e,e2,?_⟩
 refine⟨.non,_,I.lset (its':=its++its2) hH e (by simp) (r.append r2) ?_,rfl,q⟩
 rw[BO]
 omega
def X3:R2:=fun x y H Q=>∃l b xs zs,x=.ref l∧y=.ref b∧H l=some (.lst xs)∧H b=some (.lst zs)∧xs.length+zs.length≤sizeLine∧∀p,H p=none→Q (.ref p) (upd H p (.lst (xs++zs)))
theorem QD:OpR X (binaryOp .Add) X3:=by
 intro pins s σ H x y v u Q I rx ry h
 obtain⟨l,b,xs,zs,rfl,rfl,hH,hB,hz,q⟩:=h
 cases rx
 cases ry
 obtain⟨z,its,n,r,hl,e⟩:=I.lstM hH
 obtain⟨z2,its2,n2,r2,hl2,e2⟩:=I.lstM hB
 refine PySem.P.add_list e e2 ?_ (by rw[Bg,Bg];omega)
 have ea:its.toArray++its2.toArray=(its++its2).toArray:=by simp
 rw[ea]
 exact⟨.ref _,_,I.lnew (t':=s.toks) (r.append r2) (by rw[BO];omega),rfl,q _ I.fresh⟩
end
section
variable {prog:Program}{w:World}{A:Around}{E:Value→Shared→Prop}{s:Shared}
theorem VU {a c n:Nat} (hac:a≤c) (hc:c≤n):sliceBounds (some (a:Int)) (some (c:Int)) none n=((a:Int),(c:Int),1):=by
 simp only[sliceBounds,M4]
 have h1:¬((a:Int) < 0):=by omega
 have h2:¬((c:Int) < 0):=by omega
 simp only[h1,h2,if_false,show(1:Int) > 0 by decide,if_true]
 congr 1
 ·omega
 ·congr 1;omega
set_option maxRecDepth 100000 in
theorem Zx {l b sl : Addr} {items new : Array Value} {n n2 : Nat} {vl vu : Value} {a c : Nat} {Q : Unit → Shared → Prop}
    (e : s.heap.get? l = some { cls := .type "list", data := .seq items n }) (e2 : s.heap.get? b = some { cls := .type "list", data := .seq new n2 }) (hne : l ≠ b)
    (hs : s.heap.IsSliceOf sl vl vu .none) (pl : IsPart vl (some (a : Int))) (pu : IsPart vu (some (c : Int))) (hac : a ≤ c) (hc : c ≤ items.size)
    (hsz : items.size + new.size ≤ sizeLine) (h : Q () { s with heap := s.heap.update l (NH fun xs => xs.extract 0 a ++ new ++ xs.extract c xs.size) }) :
    wpAny (model prog w) A (setItem (.ref l) (.ref sl) (.ref b)) Q E s := by
  have hl : s.heap.IsList l items := Uc e
  have hb : s.heap.IsList b new := Uc e2
  obtain ⟨os, hos, hcs, hds⟩ := id hs
  have hTs : s.TypeIs (.ref sl) "slice" := ⟨os, hos, hcs⟩
  have hstep : ¬ ((rawPart none == rawInt 0) = true) := Af
  have hsame : UK (.ref l) (.ref b) = false := by
    unfold UK
    exact beq_eq_false_iff_ne.mpr hne
  have hmax : (max (a : Int) (c : Int)).toNat = c := by omega
  have hz' : ((fun xs : Array Value => xs.extract 0 a ++ new ++ xs.extract c xs.size) items).size ≤ sizeLine + 1 := by
    simp only [Array.size_append, Array.size_extract]
    omega
  unfold setItem
  try with_reducible refine Nb ?_
  first | refine AF (AQ ?_) | skip
  refine AF (wpAny_sequenceKey hl.typeIs (by decide) ?_)
  refine AF (Gk (name := Dz "__setitem__") hl.typeIs Uw
    (Fd Uw hl.typeIs entry_list_setitem ?_ (args_list_setitem _ _ _)))
  show wpAny _ _ (UL (.ref sl) >>= _) _ _ s
  refine AF ?_
  unfold UL
  refine AF (U6 hTs slice_no_index ?_)
  simp only [Option.isNone_none, if_true]
  refine AQ ?_
  show wpAny _ _ (typeOf (.ref sl) >>= _) _ _ s
  refine AF (wpAny_typeOf hTs ?_)
  first
    | rw [if_neg (by decide)]
    | refine NL (by decide) ?_
  rw [listSliceParts_eq]
  refine AF (AF (Fe hos hds (x := .none) rfl (AF (Nc .none ?_))))
  rw [if_neg hstep]
  refine AF (Fe hos hds (x := vl) rfl (AF (Nc pl ?_)))
  refine AF (Fe hos hds (x := vu) rfl (AF (Nc pu (AQ ?_))))
  first
    | simp only [hsame, Dt, if_false]
    | refine NL hsame ?_
    | (dsimp only
       rw [if_neg (by rw [hsame]; exact Af)])
  refine AF (m := UJ (.ref b) "must assign iterable to extended slice") ?_
  unfold UJ
  refine AF (wpAny_typeOf hb.typeIs ?_)
  first
    | refine PySem.W.KFB.if_so (by decide) ?_
    | rw [if_pos (by decide)]
    | simp only [beq_self_eq_true, MW, if_true]
  unfold Builtin.List.listItems
  refine AF (KQ e2 rfl (AQ ?_))
  refine AF (AF (KQ e rfl (AQ ?_)))
  refine AF (Nd ((sliceIndices_raw (some (a : Int)) (some (c : Int)) none items.size (by simp)).trans (congrArg (pure : Int × Int × Int → Sem (Int × Int × Int)) (VU hac hc))) ?_)
  show wpAny _ _ (if ((1 : Int) == 1) = true then _ else _) _ _ s
  rw [if_pos (by decide)]
  refine AF (wpAny_rule ?_)
  first
    | simp only [LV hsz, Dt, if_false]
    | refine NL (LV hsz) ?_
  first | refine AF (AQ ?_) | skip
  show wpAny _ _ (updateSeq l (fun xs => xs.extract 0 ((a : Int)).toNat ++ new ++ xs.extract (max (a : Int) (c : Int)).toNat xs.size) >>= _) _ _ s
  rw [hmax, FN]
  refine AF (wpAny_updateSeq (hz := Bb (Mx _ _) hsz) (_hz' := hz') e rfl ?_)
  refine AF (wpAny_letGo ?_)
  first
    | exact AF (AQ (AQ ⟨.none, rfl, AQ h⟩))
    | exact AQ ⟨.none, rfl, AQ h⟩
end
section
variable {X:Cx}
end
end L2
namespace L2
open PySem PySem.Spec PyProof.Rows
theorem Vals.bls:∀{bs:List Bool}{us:List Value},Vals (bs.map V.bl) us→us=bs.map DN
 | [],us,h=>by
  rw[FQ] at h
  cases h
  rfl
 | b::bs,us,h=>by
  rw[Au] at h
  cases h with
  | cons r t =>
   cases r
   rw[Vals.bls t,Au]
theorem Vals.ref1 {a:Addr}{us:List Value} (r:Vals [V.ref a] us):us=[A0 a]:=by
 cases r with
 | cons r t =>
  cases t
  cases r
  rfl
section
variable {prog:Program}{w:World}{A:Around}{E:Value→Shared→Prop}{s:Shared}{l:Addr}{its:List Value}{ns:List Int}{Q:Value→Shared→Prop}
end
section
variable {X:Cx}
end
section
variable {X:Cx}
def QX (K:AA):V→List V→Hp→VK→Prop:=fun x xs H Q=>∃(a:Addr) (ys:List V) (y:V) (j:Nat) (z:V),x=V.ref a∧xs=[y]∧SqL K H a ys∧CT y=true∧ys.all CT=true∧ys[j]?=some z∧eqV z y=true∧
 (∀(m:Nat) (z':V),m < j→ys[m]?=some z'→eqV z' y=false)∧Q (.int (j:Nat)) H
theorem Og {ys:List V} (f:ys.all CT=true) {j:Nat}{z:V} (h:ys[j]?=some z):CT z=true:=Cg.mp f z (CN h)
theorem XE:MtR X "list.index" (QX X.K):=by
 intro pins s σ H x xs v us Q I rx rxs h
 obtain⟨a,ys,y,j,z,rfl,rfl,hs,fy,fys,hz,hzj,hno,q⟩:=h
 cases rx
 cases rxs with
 | cons ry rt =>
  rename_i uy ut
  cases rt
  obtain⟨its,rv,⟨⟨cls,dd,data,sl⟩,n,ho,hc,hdn,hd⟩,hlen⟩:=I.list hs
  simp only at hc hd
  subst hc hd
  obtain⟨u,hu,ru⟩:=rv.get hz
  obtain⟨hjl,hje⟩:=Bf.mp hu
  have hvl:=rv.length
  have hj:j < its.toArray.size:=by simpa using hjl
  have hsl:=KL
  refine KI UZ ⟨_,ho,rfl⟩ PySem.F.entry_list_index (PySem.F.args_list_index_2 _ _)
   (SeqAt.list_indexAt a its.toArray n dd sl uy (eqU y) j hj (by omega) ?_ ?_) ⟨ho,fun u' hu'=>HD ry fy rv fys u' (by simpa using hu'),?_⟩
  ·have e1:its.toArray[j]=u:=by simpa using hje
   rw[e1,G0 ru (Og fys hz)]
   exact hzj
  ·intro m hm hmj
   have hml:m < its.length:=by simpa using hm
   have hmy:m < ys.length:=by omega
   have hy':ys[m]?=some ys[m]:=BD hmy
   obtain⟨u2,hu2,ru2⟩:=rv.get hy'
   obtain⟨_,hme⟩:=Bf.mp hu2
   have e1:its.toArray[m]=u2:=by simpa using hme
   rw[e1,G0 ru2 (Og fys hy')]
   exact hno m _ hmj hy'
  ·exact⟨.int (j:Nat),H,I.tok _,⟨_,rfl⟩,q⟩
end
section
variable {X:Cx}
end
theorem PQ {prog:Program}{w:World}{A:Around}{E:Value→Shared→Prop}{s:Shared}{l:Addr}{items:Array Value}{Q:Value→Shared→Prop} (hl:s.heap.IsList l items)
  (h:∀s₂:Shared,s₂={ s with heap:=s.heap.push { cls:=.type "list_iterator",data:=.fields #[.ref l,.int 0 0] } }→
   (s₂.heap.IsListIter s.heap.objs.size l 0∧s₂.heap.IsList l items)→l≠s.heap.objs.size→Q (.ref s.heap.objs.size) s₂):wpAny (model prog w) A (pyIter (.ref l)) Q E s:=by
 have hlt:l < s.heap.objs.size:=by obtain⟨_,e,_⟩:=hl;exact Aq e
 exact U3 hl (h _ rfl ⟨⟨_,BQ _ rfl,rfl,rfl⟩,hl.push _⟩ (BM hlt))
theorem S7 {prog:Program}{w:World}{A:Around}{bs:List Bool}{its:List Value} (e:its=bs.map DN):
  TruthOf prog w A (fun i v=>its.toArray[i]?=some v) (fun i=>bs.getD i false):=fun i v s Q E hv hq=>by
 have hv':its[i]?=some v:=by simpa using hv
 rw[e,Ah] at hv'
 obtain⟨b,hb,rfl⟩:=Ga.mp hv'
 have hg:bs.getD i false=b:=by rw[Eo,hb] <;> rfl
 have hq':Q (bs.getD i false) s:=hq
 rw[hg] at hq'
 exact EM hq'
theorem Nv:∀bs:List Bool,(CW bs.length).any (fun i=>bs.getD i false)=bs.any id
 | []=>rfl
 | b::bs=>by
  rw[Bu,Jt,DL,GY,DL,← Nv bs]
  all_goals rfl
theorem Nr:∀bs:List Bool,(CW bs.length).all (fun i=>bs.getD i false)=bs.all id
 | []=>rfl
 | b::bs=>by
  rw[Bu,Jt,GX,El,GX,← Nr bs]
  all_goals rfl
section
variable {X:Cx}
def X1 (K:AA):List V→Hp→VK→Prop:=fun vs H Q=>∃(a:Addr) (bs:List Bool),vs=[V.ref a]∧SqL K H a (bs.map V.bl)∧Q (.bl (bs.any id)) H
def X0 (K:AA):List V→Hp→VK→Prop:=fun vs H Q=>∃(a:Addr) (bs:List Bool),vs=[V.ref a]∧SqL K H a (bs.map V.bl)∧Q (.bl (bs.all id)) H
theorem OD (hc:X.calm=true):D1 X (.builtin "any") (X1 X.K):=by
 intro pins s σ H vs us Q I r h
 obtain⟨a,bs,rfl,hs,q⟩:=h
 obtain⟨its,rv,hl,_⟩:=I.list hs
 rw[Vals.ref1 r]
 have hb:=rv.bls
 refine call_any_walk (PQ hl.isList fun s₂ e2 st hne=>?_)
 subst e2
 refine⟨_,_,_,_,_,_,_,rfl,Walks.list (A:=X.A.in1) (I.ok.hd hc) _ a hne its.toArray,st,S7 hb,fun h' tk hk=>?_⟩
 refine⟨.bl _,H,I.kept fun b o eo=>hk b o (fun hmem=>?_) (BE _ eo),?_,q⟩
 ·rcases AS.mp hmem with e1 | hmem
  ·exact absurd (e1▸Aq eo) (Cr _)
  ·cases hmem
 ·show DN _=DN _
  rw[← Nv,hb,Bg,AG]
theorem Gw (hc:X.calm=true):D1 X (.builtin "all") (X0 X.K):=by
 intro pins s σ H vs us Q I r h
 obtain⟨a,bs,rfl,hs,q⟩:=h
 obtain⟨its,rv,hl,_⟩:=I.list hs
 rw[Vals.ref1 r]
 have hb:=rv.bls
 refine call_all_walk (PQ hl.isList fun s₂ e2 st hne=>?_)
 subst e2
 refine⟨_,_,_,_,_,_,_,rfl,Walks.list (A:=X.A.in1) (I.ok.hd hc) _ a hne its.toArray,st,S7 hb,fun h' tk hk=>?_⟩
 refine⟨.bl _,H,I.kept fun b o eo=>hk b o (fun hmem=>?_) (BE _ eo),?_,q⟩
 ·rcases AS.mp hmem with e1 | hmem
  ·exact absurd (e1▸Aq eo) (Cr _)
  ·cases hmem
 ·show DN _=DN _
  rw[← Nr,hb,Bg,AG]
end
mutual
inductive Dp (K:AA) (H:Hp):V→PyData→Prop
 | non:Dp K H .non .none
 | bl (b:Bool):Dp K H (.bl b) (.bool b)
 | int (i:Int):Dp K H (.int i) (.int i)
 | str (x:Str):Dp K H (.str x) (.str x)
 | lst {a:Addr} {xs:List V} {ds:List PyData}:SqL K H a xs→Ff K H xs ds→Dp K H (.ref a) (.list ds)
 | tup {a:Addr} {xs:List V} {ds:List PyData}:SqT K H a xs→Ff K H xs ds→Dp K H (.ref a) (.tuple ds)
inductive Ff (K:AA) (H:Hp):List V→List PyData→Prop
 | nil:Ff K H [] []
 | cons {v:V} {vs:List V} {d:PyData} {ds:List PyData}:Dp K H v d→Ff K H vs ds→Ff K H (v::vs) (d::ds)
end
section
variable {X:Cx}{pins:List (Addr×Obj)}{σ:St}{H:Hp}{s:Shared}
mutual
theorem Dp.reads (I:Inv X pins σ H s):∀(d:PyData) (v:V) (u:Value),Dp X.K H v d→RelV v u→∃as,Reads s.heap u d as
 | .none,_,_,h,r=>by
  cases h
  cases r
  exact⟨_,Reads.none⟩
 | .bool b,_,_,h,r=>by
  cases h
  cases r
  exact⟨_,Reads.bool b⟩
 | .int i,_,_,h,r=>by
  cases h
  obtain⟨t,rfl⟩:=r
  exact⟨_,Reads.int i t⟩
 | .str x,_,_,h,r=>by
  cases h
  obtain⟨t,rfl⟩:=r
  exact⟨_,Reads.str x t⟩
 | .list ds,_,_,h,r=>by
  cases h with
  | lst hs ha =>
   cases r
   obtain⟨its,rv,⟨o,n,ho,hc,_,hd⟩,_⟩:=I.list hs
   obtain⟨as,hr⟩:=Dp.readsAll I ds _ its ha rv
   exact⟨_,Reads.list ho hc hd hr⟩
 | .tuple ds,_,_,h,r=>by
  cases h with
  | tup hs ha =>
   cases r
   obtain⟨its,rv,⟨o,ho,hc,n,hd⟩,_⟩:=I.tuple hs
   obtain⟨as,hr⟩:=Dp.readsAll I ds _ its ha rv
   exact⟨_,Reads.tuple ho hc hd hr⟩
 | .dict _,_,_,h,_=>by cases h
theorem Dp.readsAll (I:Inv X pins σ H s):∀(ds:List PyData) (vs:List V) (us:List Value),Ff X.K H vs ds→Vals vs us→∃as,ReadsAll s.heap us ds as
 | [],_,_,h,r=>by
  cases h
  cases r
  exact⟨_,ReadsAll.nil⟩
 | d::ds,_,_,h,r=>by
  cases h with
  | cons h1 h2 =>
   cases r with
   | cons r1 r2 =>
    obtain⟨as,q1⟩:=Dp.reads I d _ _ h1 r1
    obtain⟨bs,q2⟩:=Dp.readsAll I ds _ _ h2 r2
    exact⟨_,ReadsAll.cons q1 q2⟩
end
end
section
variable {X:Cx}
def X4 (K:AA):R2:=fun x y H Q=>∃d e,Dp K H x d∧Dp K H y e∧Hw d=true∧Hw e=true∧Q (.bl (Es d e)) H
def X7 (K:AA):R2:=fun x y H Q=>∃d e,Dp K H x d∧Dp K H y e∧Hw d=true∧Hw e=true∧Q (.bl (!Es d e)) H
theorem EZ (hu:X.A.units+64 < cLine):OpR X (compareOp .Eq) (X4 X.K):=by
 intro pins s σ H x y v u Q I rx ry h
 obtain⟨d,e,hd,he,sd,se,q⟩:=h
 obtain⟨as,r1⟩:=Dp.reads I d x v hd rx
 obtain⟨bs,r2⟩:=Dp.reads I e y u he ry
 exact SeqAt.compareEq_shaped r1 r2 sd se hu ⟨.bl _,H,I,rfl,q⟩
theorem HH (hu:X.A.units+64 < cLine):OpR X (compareOp .NotEq) (X7 X.K):=by
 intro pins s σ H x y v u Q I rx ry h
 obtain⟨d,e,hd,he,sd,se,q⟩:=h
 obtain⟨as,r1⟩:=Dp.reads I d x v hd rx
 obtain⟨bs,r2⟩:=Dp.reads I e y u he ry
 exact SeqAt.compareNe_shaped r1 r2 sd se hu ⟨.bl _,H,I,rfl,q⟩
end
end L2
namespace L2
open PySem PySem.Spec PyProof.Rows
abbrev Ng (h:Heap) (c:Addr) (v:Option Value):Prop:=h.IsCell c v
def YI (scope sc:Scope):Scope :=
 { scope with names:=scope.names.map fun (n,k)=>if (k==.free&&sc.kind==.function&&sc.names.lookup n==some .cell) then (n,.cell) else (n,k) }
def Bl (cells:List (Str×Addr)):List (Str×NameKind)→List (Str×Addr)→List (Str×Addr)
 | [],acc=>acc
 | (n,k)::r,acc=>if k==.free then Bl cells r ((n,(cells.lookup n).getD 0)::acc) else Bl cells r acc
theorem N9 (env:Env) (f:Str×NameKind→List (Str×Addr)→Sem (ForInStep (List (Str×Addr))))
  (hf:∀n k c,f (n,k) c=if k==.free then (do let a ← cellOf env n;pure (.yield ((n,a)::c))) else pure (.yield c)):
  ∀(names:List (Str×NameKind)) (acc:List (Str×Addr)),(∀y∈names,y.2=.free→∃c,env.cells.lookup y.1=some c)→forIn names acc f=pure (Bl env.cells names acc)
 | [],acc,_=>by rw[List.forIn_nil];rfl
 | (n,k)::r,acc,h=>by
  rw[List.forIn_cons,hf]
  have ih:=fun acc=>N9 env f hf r acc fun y hy=>h y (Ao _ hy)
  unfold Bl
  by_cases hk:(k==EK)=true
  ·rw[if_pos hk,if_pos hk]
   obtain⟨c,hc⟩:=h (n,k) AU (by simpa using hk)
   have e:cellOf env n=pure c:=by unfold cellOf;rw[hc]
   rw[e]
   have e2:(env.cells.lookup n).getD 0=c:=by rw[hc];rfl
   rw[e2]
   exact ih _
  ·rw[if_neg hk,if_neg hk]
   exact ih _
theorem VZ {scope:Scope}{env:Env} (h:∀y∈scope.names,y.2=.free→∃c,env.cells.lookup y.1=some c):closureFor scope env=pure (Bl env.cells scope.names []):=by
 simp only[closureFor]
 rw[N9 env _ (fun n k c=>rfl) scope.names [] h]
 rfl
theorem LI {α:Type}:∀{l:List (Str×α)}{n:Str}{c:α},(n,c)∈l→∃c',l.lookup n=some c'
 | (k,v)::r,n,c,h=>by
  rw[Dd]
  cases hb:n==k with
  | true=>exact⟨_,rfl⟩
  | false =>
   rcases AS.mp h with e | h
   ·cases e;simp at hb
   ·exact LI h
theorem II {cells:List (Str×Addr)}:∀{names:List (Str×NameKind)}{acc:List (Str×Addr)}{n:Str}{c:Addr},(n,c)∈Bl cells names acc→(n,c)∈acc∨((n,.free)∈names∧c=(cells.lookup n).getD 0)
 | [],_,_,_,h=>.inl h
 | (m,k)::r,acc,n,c,h=>by
  unfold Bl at h
  split at h
  ·rename_i hk
   have hk:k=.free:=by simpa using hk
   rcases II h with h | ⟨h1,h2⟩
   ·rcases AS.mp h with e | h
    ·cases e;exact .inr ⟨hk▸AU,rfl⟩
    ·exact .inl h
   ·exact .inr ⟨Ao _ h1,h2⟩
  ·rcases II h with h | ⟨h1,h2⟩
   ·exact .inl h
   ·exact .inr ⟨Ao _ h1,h2⟩
theorem Kp {cells:List (Str×Addr)}:∀{names:List (Str×NameKind)}{acc:List (Str×Addr)}{p:Str×Addr},p∈acc→p∈Bl cells names acc
 | [],_,_,h=>h
 | (m,k)::r,acc,p,h=>by
  unfold Bl
  split
  ·exact Kp (Ao _ h)
  ·exact Kp h
theorem Kq {cells:List (Str×Addr)}:∀{names:List (Str×NameKind)}{acc:List (Str×Addr)}{n:Str},(n,.free)∈names→(n,(cells.lookup n).getD 0)∈Bl cells names acc
 | (m,k)::r,acc,n,h=>by
  unfold Bl
  rcases AS.mp h with e | h
  ·cases e
   exact Kp AU
  ·split
   ·exact Kq h
   ·exact Kq h
theorem Gv:∀{names:List (Str×NameKind)}{h:Heap}{acc:List (Str×Addr)}{x:Str}{c:Addr},(x,c)∈cellsFrom h.objs.size names acc→
  (x,c)∈acc∨((x,.cell)∈names∧h.objs.size≤c∧Ng (pushCells h names) c none)
 | [],_,_,_,_,h=>.inl h
 | (n,k)::r,h,acc,x,c,hm=>by
  unfold cellsFrom at hm
  unfold pushCells
  split at hm
  ·rename_i hk
   rw[if_pos hk]
   have hk:k=.cell:=by simpa using hk
   rw[← Cs h { cls:=.type "cell",data:=.cell none }] at hm
   rcases Gv hm with hm | ⟨h1,h2,h3⟩
   ·rcases AS.mp hm with e | hm
    ·cases e
     exact .inr ⟨hk▸AU,AV _,_,KJ r _ _ _ (BQ _ rfl),rfl⟩
    ·exact .inl hm
   ·rw[Cs] at h2
    exact .inr ⟨Ao _ h1,Jv h2,h3⟩
  ·rename_i hk
   rw[if_neg hk]
   rcases Gv hm with hm | ⟨h1,h2,h3⟩
   ·exact .inl hm
   ·exact .inr ⟨Ao _ h1,h2,h3⟩
theorem IH:∀{names:List (Str×NameKind)}{n:Nat}{acc:List (Str×Addr)}{p:Str×Addr},p∈acc→p∈cellsFrom n names acc
 | [],_,_,_,h=>h
 | (m,k)::r,n,acc,p,h=>by
  unfold cellsFrom
  split
  ·exact IH (Ao _ h)
  ·exact IH h
theorem Kn:∀{names:List (Str×NameKind)}{n:Nat}{acc:List (Str×Addr)}{x:Str},(x,.cell)∈names→∃c,(x,c)∈cellsFrom n names acc
 | (m,k)::r,n,acc,x,h=>by
  unfold cellsFrom
  rcases AS.mp h with e | h
  ·cases e
   exact⟨n,IH AU⟩
  ·split
   ·exact Kn h
   ·exact Kn h
theorem Ko:∀{names:List (Str×NameKind)}{h:Heap}{acc:List (Str×Addr)}{x y:Str}{c:Addr},(∀p∈acc,p.2 < h.objs.size)→(∀x y c,(x,c)∈acc→(y,c)∈acc→x=y)→
  (x,c)∈cellsFrom h.objs.size names acc→(y,c)∈cellsFrom h.objs.size names acc→x=y
 | [],_,_,_,_,_,_,hi,h1,h2=>hi _ _ _ h1 h2
 | (n,k)::r,h,acc,x,y,c,hl,hi,h1,h2=>by
  unfold cellsFrom at h1 h2
  split at h1
  ·rename_i hk
   rw[if_pos hk] at h2
   rw[← Cs h { cls:=.type "cell",data:=.cell none }] at h1 h2
   refine Ko (h:=h.push _) (fun p hp=>?_) (fun x y c a b=>?_) h1 h2
   ·rw[Cs]
    rcases AS.mp hp with rfl | hp
    ·exact Mz _
    ·exact Jx (hl p hp)
   ·rcases AS.mp a with e | a <;> rcases AS.mp b with e' | b
    ·cases e;cases e';rfl
    ·cases e;exact absurd (hl _ b) (Cr _)
    ·cases e';exact absurd (hl _ a) (Cr _)
    ·exact hi _ _ _ a b
  ·rename_i hk
   rw[if_neg hk] at h2
   exact Ko hl hi h1 h2
theorem XI {M:Model}{A:Around}{E:Value→Shared→Prop}{s:Shared}{scope:Scope}{globals:Addr}{closure:List (Str×Addr)}{qual:Str}{func:Option Addr}{code:Value}{around:Env}{builtins:Addr}{Q:Env→Shared→Prop}
  (h:Q (newEnv scope s.heap.objs.size globals (cellsFrom (s.heap.objs.size+1) scope.names closure) qual func code (some around) builtins)
   { s with heap:=pushCells (s.heap.push { cls:=.type "dict",data:=.dict #[] }) scope.names }):
  wpAny M A (newFunctionEnv scope globals closure [] qual func code (some around) builtins) Q E s:=by
 simp only[newFunctionEnv,UB,if_true]
 refine AF (wpAny_alloc ?_)
 refine AF (wpAny_layCells _ (fun n k c=>rfl) scope.names closure _ _ ?_)
 rw[show({ s with heap:=s.heap.push { cls:=.type "dict",data:=.dict #[] } }:Shared).heap.objs.size=s.heap.objs.size+1 from Cs ..]
 rw[List.forIn_nil]
 exact AF (AQ (AQ h))
theorem LH {sc:Scope}:∀{names:List (Str×NameKind)}{x:Str}{k:NameKind},
  (names.map fun (n,k)=>if (k==EK&&sc.kind==.function&&sc.names.lookup n==some .cell) then (n,NG) else (n,k)).lookup x=some k→
  ∃k',names.lookup x=some k'∧(k=k'∨(k'=.free∧k=.cell))
 | [],_,_,h=>by simp at h
 | (n,k₀)::r,x,k,h=>by
  have ih:=@LH sc r x k
  have h':Ep x ((if (k₀==EK&&sc.kind==.function&&sc.names.lookup n==some .cell)=true then (n,NG) else (n,k₀))::(r.map _))=some k:=h
  cases hx:x==n with
  | true =>
   simp only[Dd,hx]
   by_cases hc:(k₀==EK&&sc.kind==.function&&sc.names.lookup n==some .cell)=true
   ·rw[if_pos hc] at h'
    simp only[Dd,hx] at h'
    cases h'
    simp only[BI,beq_iff_eq] at hc
    exact⟨k₀,rfl,.inr ⟨hc.1.1,rfl⟩⟩
   ·rw[if_neg hc] at h'
    simp only[Dd,hx] at h'
    cases h'
    exact⟨_,rfl,.inl rfl⟩
  | false =>
   simp only[Dd,hx]
   by_cases hc:(k₀==EK&&sc.kind==.function&&sc.names.lookup n==some .cell)=true
   ·rw[if_pos hc] at h'
    simp only[Dd,hx] at h'
    exact ih h'
   ·rw[if_neg hc] at h'
    simp only[Dd,hx] at h'
    exact ih h'
structure IB (N:List Str) (sc scope:Scope) (own:List (Str×Nat)):Prop where
 kind:scope.kind=.function
 uniq:∀y∈scope.names,scope.names.lookup y.1=some y.2
 ix:∀p∈own,N[p.2]?=some p.1
 free:∀y∈scope.names,y.2=.free→sc.names.lookup y.1=some .cell∨sc.names.lookup y.1=some .free
 own:∀y∈scope.names,y.2=.local∨y.2=.cell→y.1∈own.map (·.1)∨y.1∉N
def BC (σ:St):List Nat→St
 | []=>σ
 | v::vs=>(BC σ vs).set v none
theorem MQ (σ:St):∀vs:List Nat,(BC σ vs).length=σ.length
 | []=>rfl
 | v::vs=>by unfold BC;rw[List.length_set,MQ σ vs]
theorem MR {σ:St}{i:Nat}{x:V}:∀{vs:List Nat},(BC σ vs)[i]?=some (some x)→σ[i]?=some (some x)∧i∉vs
 | [],h=>⟨h,by simp⟩
 | v::vs,h=>by
  unfold BC at h
  by_cases hi:v=i
  ·subst hi
   by_cases hv:v < (BC σ vs).length
   ·rw[Mo hv] at h;cases h
   ·rw[Tu (by simpa using hv)] at h;cases h
  ·rw[Mn hi] at h
   obtain⟨h1,h2⟩:=MR h
   exact⟨h1,by simp only[AS,not_or];exact⟨fun e=>hi e.symm,h2⟩⟩
abbrev Cx.blk (X:Cx) (s:Shared) (H:Hp) (scope:Scope) (cenv:Env) (fp:List Addr):Cx:={ X with s_0:=s,H_0:=H,env:=cenv,outer:=X.stack,ex:=fp,fn:=fun x=>scope.names.lookup x==some .cell,pn:=[],xe:=fun _ _=>False }
section
variable {X:Cx}{pins:List (Addr×Obj)}{σ:St}{H:Hp}{s:Shared}
theorem VQ {scope:Scope}{own:List (Str×Nat)}{fp:List Addr} (I:Inv X pins σ H s) (ok:IB X.N X.env.scope scope own) (hN:X.N.Nodup) (hfp:∀b∈fp,DP X pins H b∧b < s.heap.objs.size):
  Inv (X.blk s H scope (compEnvC scope (cellsFrom (s.heap.objs.size+1) scope.names (Bl X.env.cells scope.names [])) s.heap.objs.size X.env) fp) [] (BC σ (own.map (·.2))) H { s with heap:=pushCells (s.heap.push { cls:=.type "dict",data:=.dict #[] }) scope.names }:=by
 have hfree:∀y∈scope.names,y.2=.free→∃c,X.env.cells.lookup y.1=some c:=fun y hy e=>by
  rcases ok.free y hy e with k | k
  ·exact I.ok.has _ (.inl k)
  ·exact I.ok.has _ (.inr k)
 generalize hcenv:compEnvC scope (cellsFrom (s.heap.objs.size+1) scope.names (Bl X.env.cells scope.names [])) s.heap.objs.size X.env=cenv
 have kp:∀b o,s.heap.get? b=some o→(pushCells (s.heap.push { cls:=.type "dict",data:=.dict #[] }) scope.names).get? b=some o:=fun b o e=>KJ _ _ _ _ (BE _ e)
 have hL:cenv.locals=s.heap.objs.size:=by rw[← hcenv];rfl
 have hcl:cenv.cells=cellsFrom (s.heap.objs.size+1) scope.names (Bl X.env.cells scope.names []):=by rw[← hcenv];rfl
 have hsc:cenv.scope=YI scope X.env.scope:=by rw[← hcenv];rfl
 rw[← Cs s.heap { cls:=.type "dict",data:=.dict #[] }] at hcl
 have cm:∀{y c},(y,c)∈Bl X.env.cells scope.names []→X.env.cells.lookup y=some c∧c < s.heap.objs.size:=fun {y c} hm=>by
  rcases II hm with hm | ⟨h1,rfl⟩
  ·cases hm
  ·obtain⟨c,hc⟩:=hfree _ h1 rfl
   rw[hc]
   obtain⟨w,z⟩:=I.cell _ _ hc
   exact⟨rfl,z.lt⟩
 have mem:∀{y c},cenv.cells.lookup y=some c→(X.env.cells.lookup y=some c∧c < s.heap.objs.size)∨(s.heap.objs.size+1≤c∧Ng (pushCells (s.heap.push { cls:=.type "dict",data:=.dict #[] }) scope.names) c none):=fun {y c} e=>by
  rw[hcl] at e
  rcases Gv (Bi e) with hm | ⟨_,h2,h3⟩
  ·exact .inl (cm hm)
  ·rw[Cs] at h2;exact .inr ⟨h2,h3⟩
 have look:∀{y},scope.names.lookup y=some .free→∃c,cenv.cells.lookup y=some c∧X.env.cells.lookup y=some c:=fun {y} hl=>by
  have hy:(y,EK)∈scope.names:=Bi hl
  obtain⟨c',e'⟩:=LI (IH (names:=scope.names) (n:=(s.heap.push { cls:=.type "dict",data:=.dict #[] }).objs.size) (Kq (cells:=X.env.cells) (acc:=[]) hy))
  rw[← hcl] at e'
  refine⟨c',e',?_⟩
  rw[hcl] at e'
  rcases Gv (Bi e') with hm | ⟨h1,_,_⟩
  ·exact(cm hm).1
  ·have:=ok.uniq _ h1
   rw[hl] at this;cases this
 have okB:(X.blk s H scope cenv fp).Ok:=by
  refine⟨I.ok.mod,by show cenv.scope.kind=_;rw[hsc];exact ok.kind,by show cenv.globals=_;rw[← hcenv];exact I.ok.glob,by show cenv.builtins=_;rw[← hcenv];exact I.ok.blt,by show s.heap.objs.size≤cenv.locals;rw[hL];exact AV _,
   fun y z c e1 e2=>?_,fun y hy=>?_,fun y c z e=>?_,I.ok.hd,I.ok.frames,.inl rfl,fun b hb=>⟨?_,fun y c e z=>?_⟩,I.bs,Bb I.ok.bsz I.sz,fun b o e hb=>?_,fun b hb z=>?_,I.stack,I.stkFree⟩
  ·have e1:cenv.cells.lookup y=some c:=e1
   have e2:cenv.cells.lookup z=some c:=e2
   rw[hcl] at e1 e2
   refine Ko (fun p hp=>?_) (fun y z c a b=>I.ok.inj y z c (cm a).1 (cm b).1) (Bi e1) (Bi e2)
   rw[Cs]
   exact Jx (cm (y:=p.1) (c:=p.2) hp).2
  ·show ∃c,cenv.cells.lookup y=some c
   have key:∀k,cenv.kindOf y=some k→(k=.cell∨k=.free)→∃c,cenv.cells.lookup y=some c:=fun k hk hk'=>by
    unfold Env.kindOf at hk
    rw[hsc] at hk
    obtain⟨k',e,r⟩:=LH hk
    have:k'=.cell∨k'=.free:=by
     rcases r with rfl | ⟨rfl,_⟩
     ·exact hk'
     ·exact .inr rfl
    rcases this with rfl | rfl
    ·obtain⟨c,hm⟩:=Kn (n:=(s.heap.push { cls:=.type "dict",data:=.dict #[] }).objs.size) (acc:=Bl X.env.cells scope.names []) (Bi e)
     obtain⟨c',e'⟩:=LI hm
     exact⟨c',by rw[hcl];exact e'⟩
    ·obtain⟨c,h1,_⟩:=look e
     exact⟨c,h1⟩
   rcases hy with hy | hy
   ·exact key _ hy (.inl rfl)
   ·exact key _ hy (.inr rfl)
  ·have z:(scope.names.lookup y==some NG)=true:=z
   have z:scope.names.lookup y=some .cell:=by simpa using z
   have e:cenv.cells.lookup y=some c:=e
   rw[hcl] at e
   rcases Gv (Bi e) with hm | ⟨_,h2,_⟩
   ·rcases II hm with hm | ⟨h1,_⟩
    ·cases hm
    ·have q:=ok.uniq _ h1
     rw[z] at q;cases q
   ·rw[Cs] at h2
    exact Jv h2
  ·show b≠cenv.locals
   rw[hL];exact BM (hfp b hb).2
  ·have e:cenv.cells.lookup y=some c:=e
   rcases mem e with ⟨h1,_⟩ | ⟨h1,_⟩
   ·exact(hfp b hb).1.2.2.2.2.1 y c h1 z
   ·have h2:s.heap.objs.size+1≤b:=by rw[← z];exact h1
    exact absurd (BV (hfp b hb).2 (Jv h2)) (Cr _)
  ·rcases(hfp b hb).1.2.2.2.1 with z | z
   ·exact I.ok.noex b o e z
   ·exact absurd (BV (Aq e) (Bb I.ok.bsz z)) (Cr _)
  ·rcases AS.mp (I.stkSub b z) with z | z
   ·exact(hfp b hb).1.2.1 z
   ·exact(hfp b hb).1.2.2.1 z
 refine⟨okB,rfl,I.bare,Un.kept kp,⟨fun _=>none,?_,fun i y av e1 e2 e3=>?_⟩,fun y c e=>?_,?_,fun y c e=>?_,fun p hp=>?_,I.hok.kept kp,by rw[MQ];exact I.len⟩
 ·show Heap.Ns _ cenv.locals _
  rw[hL]
  exact Heap.Ns.keeps (Heap.Ns.new ..) fun b o e=>KJ _ _ _ _ e
 ·obtain⟨e2,hne⟩:=MR e2
  have hfr:scope.names.lookup y=some .free∧(cenv.kindOf y=some .cell∨cenv.kindOf y=some .free):=by
   have key:∀k,cenv.scope.names.lookup y=some k→k=.local∨k=.cell∨k=.free→scope.names.lookup y=some .free∧(cenv.kindOf y=some .cell∨cenv.kindOf y=some .free):=fun k hk hk'=>by
    have hk0:=hk
    rw[hsc] at hk
    obtain⟨k',e,r⟩:=LH hk
    have no:¬(k'=.local∨k'=.cell):=fun hh=>by
     rcases ok.own _ (Bi e) hh with e' | e'
     ·obtain⟨p,hp,hpy⟩:=BP.mp e'
      have e3:=ok.ix p hp
      have:p.1=y:=hpy
      rw[this] at e3
      exact hne (BP.mpr ⟨p,hp,LU hN e3 e1⟩)
     ·exact e' (CN e1)
    rcases r with rfl | ⟨rfl,rfl⟩
    ·rcases hk' with rfl | rfl | rfl
     ·exact absurd (.inl rfl) no
     ·exact absurd (.inr rfl) no
     ·exact⟨e,.inr hk0⟩
    ·exact⟨e,.inl hk0⟩
   have e3:Vis cenv.scope y:=e3
   rcases e3 with e3 | e3 | e3
   ·exact key _ e3 (.inl rfl)
   ·exact key _ e3 (.inr (.inl rfl))
   ·exact key _ e3 (.inr (.inr rfl))
  obtain⟨m,hn,hl⟩:=I.loc
  have hvis:Vis X.env.scope y:=(ok.free _ (Bi hfr.1) rfl).elim (fun k=>.inr (.inl k)) (fun k=>.inr (.inr k))
  obtain⟨w,r,q⟩:=hl i y av e1 e2 hvis
  refine⟨w,r,.inr ⟨hfr.2,?_⟩⟩
  obtain⟨c,h1,h2⟩:=look hfr.1
  rcases q with ⟨k,_⟩ | ⟨_,c',e',z⟩
  ·have k:X.env.scope.names.lookup y=some .local:=k
   rcases ok.free _ (Bi hfr.1) rfl with k' | k' <;> rw[show X.env.scope.names.lookup y=_ from k'] at k <;> cases k
  ·rw[h2] at e';cases e'
   exact⟨c,h1,z.keeps kp⟩
 ·have e:cenv.cells.lookup y=some c:=e
  rcases mem e with ⟨h1,_⟩ | ⟨_,z⟩
  ·obtain⟨w,z⟩:=I.cell y c h1
   exact⟨w,z.keeps kp⟩
  ·exact⟨_,z⟩
 ·show H cenv.locals=none
  rw[hL];exact I.hok.fresh (AV _)
 ·have e:cenv.cells.lookup y=some c:=e
  rcases mem e with ⟨h1,_⟩ | ⟨h1,_⟩
  ·exact I.freeC y c h1
  ·exact I.hok.fresh (Jv h1)
 ·exact absurd (show p∈([]:List (Addr×Obj))++[] from hp) (by simp)
theorem VF {E:Value→Shared→Prop}{D:Addr}{xs:List V}{y:V}{v:Value}{Q:Value→Shared→Prop} (I:Inv X pins σ H s) (hD:H D=some (.lst xs)) (hz:xs.length < sizeLine) (r:RelV y v)
  (h:∀s',Inv X pins σ (upd H D (.lst (xs++[y]))) s'→Q .none s'):wpAny (model X.prog X.w) X.A (call (.builtin "list.append") [.ref D,v]) Q E s:=by
 obtain⟨hz',its,n,ri,e⟩:=I.hok D _ hD
 have hl:=ri.length
 refine append_at (hsz:=by rw[Bg];omega) e fun h' sb ho'=>?_
 refine h { s with heap:=h' } (I.write (t':=s.toks) (by rw[hD];trivial) (.inl rfl) (fun b u hb q=>(sb.2 b hb).trans q) ⟨_,ho'⟩ ⟨by rw[BO];exact hz,its++[v],n+1,ri.append (.cons r .nil),?_⟩)
 rw[ho']
 simp
def PTs (X:Cx) (ifs:List Expr) (t:TT):Prop :=
 ∀(pins:List (Addr×Obj)) (s:Shared) (σ:St) (H:Hp) (Q:Bool→Hp→Prop),Inv X pins σ H s→t σ H Q→
  wpAny (model X.prog X.w) X.A (forIn ifs true fun c r=>if r=true then do let ok ← isTrue c X.env (eval c X.env);pure (Ja ok) else pure (Ja r)) (TP X pins σ Q) X.xe s
def FE:TT:=fun _ H Q=>Q true H
theorem Dq:PTs X [] FE:=fun _ _ _ H _ I h=>wpAny_tests_nil ⟨H,I,h⟩
theorem Xz {c:Expr}{t:TT} (h:PT X c t):PTs X [c] t:=fun pins s σ H Q I hw=>wpAny_tests_one (h pins s σ H Q I hw)
end
theorem GK {α:Type}{t:Sem α}{Q Q':α→Shared→Prop}{M:Model}{A:Around}{E:Value→Shared→Prop}{s:Shared} (h:wpAny M A t Q (fun _ _=>False) s) (hQ:∀a s,Q a s→Q' a s):wpAny M A t Q' E s:=Cu h hQ fun _ _ z=>BL z
theorem Vb {prog:Program}{w:World}{A:Around}{R:Result→Shared→Prop}{s:Shared}{elt target iter:Expr}{ifs:List Expr}{scope:Scope}{pos:Pos}{it acc:Value}{env:Env} (I:Nat→Shared→Prop)
  (turn:∀n s,I n s→wpAny (model prog w) A (pyNext it) (fun r s₁=>match r with
   | none=>R (.ok .next) s₁
   | some v=>wpAny (model prog w) A (letOwnedTupleGo target it v) (fun _ s₁'=>wpAny (model prog w) A (assign target env v) (fun _ s₂ =>
    wpAny (model prog w) A (forIn ifs true fun c r=>if r=true then do let ok ← isTrue c env (eval c env);pure (Ja ok) else pure (Ja r)) (fun ok s₃ =>
     if ok=true then wpAny (model prog w) A (eval elt env) (fun x s₄ =>
      wpAny (model prog w) A (call (.builtin "list.append") [acc,x]) (fun _ s₅=>∃m,m < n∧I m s₅) (notedBy (model prog w) A env fun e s'=>R (.error e) s') s₄) (notedBy (model prog w) A env fun e s'=>R (.error e) s') s₃
     else ∃m,m < n∧I m s₃) (notedBy (model prog w) A env fun e s'=>R (.error e) s') s₂) (notedBy (model prog w) A env fun e s'=>R (.error e) s') s₁') (notedBy (model prog w) A env fun e s'=>R (.error e) s') s₁) (notedBy (model prog w) A env fun e s'=>R (.error e) s') s)
  (n:Nat) (h:I n s):
  codeAny (model prog w) A (.compLoop (.ListComp elt [⟨target,iter,ifs,0⟩] scope pos) 0 it acc env) R s:=by
 refine codeAny_loop rfl I (fun n s hI=>?_) n h
 show wpAny _ A ((compTurn (.ListComp elt [⟨target,iter,ifs,0⟩] scope pos) 0 it acc env).onRaise (fun x=>do noteFrame x env;theTreesLotGoes x)) _ _ s
 refine wpAny_noted ?_
 rw[compTurn_list]
 refine AF (wpAny_standAt (AF (Cu (turn n s hI) (fun r s₁ h₁=>?_) fun _ _ h'=>h')))
 cases r with
 | none=>exact AQ h₁
 | some v =>
  refine AF (Cu h₁ (fun _ s₁' h₁'=>?_) fun _ _ h'=>h')
  refine AF (Cu h₁' (fun _ s₂ h₂=>AF (Cu h₂ (fun ok s₃ h₃=>?_) fun _ _ h'=>h')) fun _ _ h'=>h')
  cases ok with
  | false=>exact AQ ⟨rfl,h₃⟩
  | true =>
   exact AF (AF (Cu h₃ (fun x s₄ h₄=>AF (Cu h₄ (fun _ s₅ h₅=>AQ (AQ ⟨rfl,h₅⟩)) fun _ _ h'=>h')) fun _ _ h'=>h'))
section
variable {X:Cx}
def tLc (wi:TI) (g:TG) (tt:TT) (te:TE) (vs:List Nat):TE:=fun σ H Q=>wi σ H fun J H1=>∀D,H1 D=none→∃W:Nat→Nat→Hp→Prop,(∃m,W 0 m (upd H1 D (.lst [])))∧∀i m H,W i m H→
 (J.stop i H∧Q (.ref D) H)∨(J.go i H∧∃Nx:Hp→Prop,(∀H',Nx H'→∃m',m' < m∧W (i+1) m' H')∧∀x H',J.yld i H x H'→g x (BC σ vs) H' fun σ2 H2=>BC σ2 vs=BC σ vs∧tt σ2 H2 fun b H3 =>
  if b=true then te σ2 H3 fun y H4=>∃acc,H4 D=some (.lst acc)∧acc.length < sizeLine∧Nx (upd H4 D (.lst (acc++[y]))) else Nx H3)
theorem Ww {pins:List (Addr×Obj)}{s:Shared}{σ:St}{H:Hp}{Q:VK}{elt tg iter:Expr}{ifs:List Expr}{scope:Scope}{own:List (Str×Nat)}{pos pos':Pos}{wi:TI}{g:TG}{tt:TT}{te:TE}{use:Option (Value→Sem Unit)}{Qf:Value→Shared→Prop}
  (hc:X.calm=true) (hN:X.N.Nodup) (I:Inv X pins σ H s) (hi:PI X tg iter wi) (ok:IB X.N X.env.scope scope own)
  (hg:∀(s:Shared) (H:Hp) (C:Addr) (cl:List (Str×Addr)) (fp:List Addr),PG (X.blk s H scope (compEnvC scope cl C X.env) fp) tg g) (ht:∀(s:Shared) (H:Hp) (C:Addr) (cl:List (Str×Addr)) (fp:List Addr),PTs (X.blk s H scope (compEnvC scope cl C X.env) fp) ifs tt)
  (he:∀(s:Shared) (H:Hp) (C:Addr) (cl:List (Str×Addr)) (fp:List Addr),PE (X.blk s H scope (compEnvC scope cl C X.env) fp) elt te) (hs:∀x,foldedSetIterable iter X.env x=pure x)
  (h:tLc wi g tt te (own.map (·.2)) σ H Q)
  (hRR:∀D C s' m H',Inv X pins σ H' s'→Q (.ref D) H'→s'.heap.Ns C m→DP X pins H' C→compPost (model X.prog X.w) X.A X.xe use Qf (.ref D) C (.ok .next) s'):
  wpAny (model X.prog X.w) X.A (comprehension (.ListComp elt [⟨tg,iter,ifs,0⟩] scope pos) scope X.env pos' (newList []) false (eval iter X.env) use) Qf X.xe s:=by
 have hfree:∀y∈scope.names,y.2=.free→∃c,X.env.cells.lookup y.1=some c:=fun y hy e=>by
  rcases ok.free y hy e with k | k
  ·exact I.ok.has _ (.inl k)
  ·exact I.ok.has _ (.inr k)
 refine wpAny_comprehension_free (use:=use) rfl hs (VZ hfree) ok.kind (fun y hy e=>by rw[ok.uniq y hy,e])
  (thn (hi pins s σ H _ I h) fun xv s1 hx=>thn hx fun itv s2 h2=>?_)
 obtain⟨it,fp,tn,J,H2,e,I2,T,st2,f2,q⟩:=h2
 subst e
 refine Gm (XI ?_) (by show 0≤sizeLine;decide)
 generalize hD:s2.heap.objs.size=D
 have hDn:H2 D=none:=I2.hok.fresh (Ho hD)
 obtain⟨W,⟨m0,w0⟩,turn⟩:=q D hDn
 generalize hs3:({ s2 with heap:=s2.heap.push { cls:=.type "list",data:=.seq ([]:List Value).toArray } }:Shared)=s3
 have I3:Inv X pins σ (upd H2 D (.lst [])) s3:=by
  rw[← hs3]
  refine I2.laid (t':=s2.toks) (fun b o e=>BE _ e) (Ho hD) ⟨A5 _,[],0,.nil,?_⟩
  rw[← hD]
  exact BQ _ rfl
 have h3:s3.heap=s2.heap.push { cls:=.type "list",data:=.seq ([]:List Value).toArray }:=by rw[← hs3]
 have sz:∀b∈fp,b < s2.heap.objs.size:=fun b hb=>by
  obtain⟨o,e,_⟩:=T.obj _ _ st2 b hb
  exact Aq e
 have f3:∀b∈fp,DP X pins (upd H2 D (.lst [])) b∧b < s3.heap.objs.size:=fun b hb=>by
  have hlt:=sz b hb
  refine⟨⟨?_,(f2 b hb).2⟩,by rw[h3,Cs];exact Jx hlt⟩
  rw[AE (by rw[← hD];exact BM hlt)]
  exact(f2 b hb).1
 have st3:tn 0 s3.heap:=T.keep _ _ _ st2 fun b _ o e=>by rw[h3];exact BE _ e
 have I4:=VQ I3 ok hN f3
 have pg:=hg s3 (upd H2 D (.lst [])) s3.heap.objs.size (cellsFrom (s3.heap.objs.size+1) scope.names (Bl X.env.cells scope.names [])) fp
 have pt:=ht s3 (upd H2 D (.lst [])) s3.heap.objs.size (cellsFrom (s3.heap.objs.size+1) scope.names (Bl X.env.cells scope.names [])) fp
 have pe:=he s3 (upd H2 D (.lst [])) s3.heap.objs.size (cellsFrom (s3.heap.objs.size+1) scope.names (Bl X.env.cells scope.names [])) fp
 show codeAny _ _ (.compStart (.ListComp elt [⟨tg,iter,ifs,0⟩] scope pos) 0 (.ref it) (.ref D) (compEnvC scope (cellsFrom (s3.heap.objs.size+1) scope.names (Bl X.env.cells scope.names [])) s3.heap.objs.size X.env)) (compPost (model X.prog X.w) X.A X.xe use Qf (.ref D) s3.heap.objs.size) { s3 with heap:=pushCells (s3.heap.push { cls:=.type "dict",data:=.dict #[] }) scope.names }
 have nfp:∀b∈fp,(upd H2 D (.lst [])) b=none:=fun b hb=>(f3 b hb).1.1
 generalize hce:compEnvC scope (cellsFrom (s3.heap.objs.size+1) scope.names (Bl X.env.cells scope.names [])) s3.heap.objs.size X.env=ce at I4 pg pt pe ⊢
 have cL:ce.locals=s3.heap.objs.size:=by subst hce;rfl
 generalize hH3:upd H2 D (.lst [])=H3 at I3 I4 pg pt pe w0 nfp f3
 generalize hs4:({ s3 with heap:=pushCells (s3.heap.push { cls:=.type "dict",data:=.dict #[] }) scope.names }:Shared)=s4 at I4 ⊢
 have st4:tn 0 s4.heap:=T.keep _ _ _ st3 fun b _ o e=>by rw[← hs4];exact KJ _ _ _ _ (BE _ e)
 have stat:∀{σ':St} {H':Hp} {s':Shared},Inv (X.blk s3 H3 scope ce fp) [] σ' H' s'→(∀b∈fp,H' b=none)→∀b∈fp,DP (X.blk s3 H3 scope ce fp) [] H' b:=fun {σ' H' s'} I' hn b hb =>
  ⟨hn b hb,(I'.ok.exf b hb).1,I'.ok.exfs b hb,.inl hb,fun x c e=>(I'.ok.exf b hb).2 x c e,fun p hp=>absurd (show p∈([]:List (Addr×Obj))++[] from hp) (by simp)⟩
 have loop:codeAny (model X.prog X.w) X.A (.compLoop (.ListComp elt [⟨tg,iter,ifs,0⟩] scope pos) 0 (.ref it) (.ref D) ce) (compPost (model X.prog X.w) X.A X.xe use Qf (.ref D) s3.heap.objs.size) s4:=by
  refine Vb (fun n s'=>∃i H',Inv (X.blk s3 H3 scope ce fp) [] (BC σ (own.map (·.2))) H' s'∧tn i s'.heap∧(∀b∈fp,H' b=none)∧W i n H') ?_ m0 ⟨0,H3,I4,st4,nfp,w0⟩
  rintro n s5 ⟨i,H5,I5,st5,n5,w5⟩
  rcases turn i n H5 w5 with ⟨stop,qq⟩ | ⟨go,Nx,hNx,step⟩
  ·have td:=T.done (X.blk s3 H3 scope ce fp) rfl rfl rfl hc i [] s5 _ H5 (fun _ _=>False) I5 (stat I5 n5) st5 stop
   refine GK td fun r s6 ⟨hr,I6⟩=>?_
   subst hr
   have I7:Inv X pins σ H5 s6:=I3.call' (ch:=fp) I6.os I6.base I6.hok I6.bare fun b hb=>⟨(f3 b hb).1.2.2.2.1,(f3 b hb).1.2.1,(f3 b hb).1.2.2.2.2.1,(f3 b hb).1.2.2.2.2.2⟩
   have nC:H5 s3.heap.objs.size=none:=by
    have z:H5 ce.locals=none:=I6.free
    rw[cL] at z
    exact z
   obtain⟨m,hn,_⟩:=I6.loc
   have hn:s6.heap.Ns ce.locals m:=hn
   rw[cL] at hn
   exact hRR D s3.heap.objs.size s6 m H5 I7 qq hn (I3.fpOk (AV _) nC)
  ·have ti:=T.item (X.blk s3 H3 scope ce fp) rfl rfl rfl hc i [] s5 _ H5 (fun _ _=>False) I5 (stat I5 n5) st5 go
   refine GK ti fun r s6 ⟨u,hr,h6⟩=>?_
   subst hr
   refine GK h6 fun _ s7 ⟨x,H7,I7,r7,y7,st7,n7⟩=>?_
   have I7':=I7.pinned (stat I7 n7) (T.obj _ _ st7)
   refine GK (pg _ s7 _ H7 x u _ I7' r7 (step x H7 y7)) fun _ s8 ⟨σ8,H8,I8,hw8,q8⟩=>?_
   refine GK (pt _ s8 σ8 H8 _ I8 q8) fun b s9 ⟨H9,I9,q9⟩=>?_
   have fin:∀{s':Shared} {H':Hp},Inv (X.blk s3 H3 scope ce fp) ([]++HN fp s7.heap) σ8 H' s'→Nx H'→∃m,m < n∧∃i H',Inv (X.blk s3 H3 scope ce fp) [] (BC σ (own.map (·.2))) H' s'∧tn i s'.heap∧(∀b∈fp,H' b=none)∧W i m H':=fun {s' H'} I' nx=>by
    obtain⟨m',hm,w'⟩:=hNx H' nx
    have pin':∀b∈fp,∀o,s7.heap.get? b=some o→s'.heap.get? b=some o∧H' b=none:=fun b hb o e =>
     let z:=I'.pin (b,o) (EH _ (EH _ (LJ hb e)))
     ⟨z.1,z.2.1⟩
    have hl:(BC σ (own.map (·.2))).length=σ8.length:=by rw[← hw8,MQ]
    refine⟨m',hm,i+1,H',(I'.unpinned (pins:=[])).weak hl (fun j v e=>?_),T.keep _ _ _ st7 fun b hb o e=>(pin' b hb o e).1,fun b hb=>?_,w'⟩
    ·rw[← hw8] at e
     exact(MR e).1
    ·obtain⟨o,e,_⟩:=T.obj _ _ st7 b hb
     exact(pin' b hb o e).2
   cases b with
   | false =>
    simp only[Dt,if_false] at q9 ⊢
    exact fin I9 q9
   | true =>
    simp only[if_true] at q9 ⊢
    refine GK (pe _ s9 σ8 H9 _ I9 q9) fun z s10 ⟨yv,H10,I10,r10,acc,hD10,hz10,nx⟩=>?_
    exact VF (X:=X.blk s3 H3 scope ce fp) I10 hD10 hz10 r10 fun s11 I11=>fin I11 nx
 exact codeAny_compStart_list loop (T.self X.A 0 _ _ _ st4 loop)
theorem DW {elt tg iter:Expr}{ifs:List Expr}{scope:Scope}{own:List (Str×Nat)}{pos:Pos}{wi:TI}{g:TG}{tt:TT}{te:TE} (hc:X.calm=true) (hN:X.N.Nodup) (hi:PI X tg iter wi) (ok:IB X.N X.env.scope scope own)
  (hg:∀(s:Shared) (H:Hp) (C:Addr) (cl:List (Str×Addr)) (fp:List Addr),PG (X.blk s H scope (compEnvC scope cl C X.env) fp) tg g) (ht:∀(s:Shared) (H:Hp) (C:Addr) (cl:List (Str×Addr)) (fp:List Addr),PTs (X.blk s H scope (compEnvC scope cl C X.env) fp) ifs tt)
  (he:∀(s:Shared) (H:Hp) (C:Addr) (cl:List (Str×Addr)) (fp:List Addr),PE (X.blk s H scope (compEnvC scope cl C X.env) fp) elt te) (hs:∀x,foldedSetIterable iter X.env x=pure x:=by intro _;rfl):
  PE X (.ListComp elt [⟨tg,iter,ifs,0⟩] scope pos) (tLc wi g tt te (own.map (·.2))):=by
 intro pins s σ H Q I h
 rw[eval_ListComp]
 refine Ww hc hN I hi ok hg ht he hs h fun D C s' m H' I' q hn f=>⟨m,hn,fun h'' sb=>?_⟩
 obtain⟨f0,f1,f2,f3,f4,f5⟩:=f
 exact⟨.ref D,H',I'.turned (t':=s'.toks) (fun b o hb e=>(sb.2 b hb).trans e) f0 f1 f3 f4 f5,rfl,q⟩
end
def N2 (N:List Str) (sc scope:Scope) (own:List (Str×Nat)):Bool :=
 (match scope.kind with | .function=>true | _=>false)&&(scope.names.all fun y=>decide (scope.names.lookup y.1=some y.2))&&(own.all fun p=>decide (N[p.2]?=some p.1)) &&
  (scope.names.all fun y=>match y.2 with
   | .free=>(match sc.names.lookup y.1 with | some .cell=>true | some .free=>true | _=>false)
   | .local=>decide (y.1∈own.map (·.1)) || decide (y.1∉N)
   | .cell=>decide (y.1∈own.map (·.1)) || decide (y.1∉N)
   | _=>true)
theorem DQ {N:List Str}{sc scope:Scope}{own:List (Str×Nat)} (h:N2 N sc scope own=true):IB N sc scope own:=by
 unfold N2 at h
 simp only[BI,Cg,decide_eq_true_eq] at h
 obtain⟨⟨⟨h1,h2⟩,h3⟩,h4⟩:=h
 refine⟨?_,h2,h3,fun y hy e=>?_,fun y hy e=>?_⟩
 ·split at h1
  ·assumption
  ·cases h1
 ·have q:=h4 y hy
  simp only[e] at q
  split at q <;> first | exact .inl (by assumption) | exact .inr (by assumption) | cases q
 ·have q:=h4 y hy
  rcases e with e | e <;> (simp only[e,MV,decide_eq_true_eq] at q;exact q)
end L2
namespace L2
open PySem PySem.Spec PyProof.Rows
section
variable {prog:Program}{w:World}{A:Around}{R:Result→Shared→Prop}{s:Shared}{elt t0 i0 t1 i1:Expr}{ifs0 ifs1:List Expr}{scope:Scope}{pos:Pos}{it acc:Value}{env:Env}
end
section
variable {X:Cx}
end
end L2
namespace L2
open PySem PySem.Spec PyProof.Rows
section
variable {κ:Type} [DecidableEq κ]
def Ar (kvs:List (κ×V)) (k:κ):Option V:=(kvs.find? fun kv=>decide (kv.1=k)).map (·.2)
def CF (kvs:List (κ×V)) (k:κ) (v:V):List (κ×V) :=
 if (kvs.any fun kv=>decide (kv.1=k))=true then kvs.map (fun kv=>if kv.1=k then (kv.1,v) else kv) else kvs++[(k,v)]
theorem Cd {p:κ×V}{r:List (κ×V)}{k:κ} (e:p.1=k):Ar (p::r) k=some p.2:=by simp[Ar,Du,e]
theorem Cc {p:κ×V}{r:List (κ×V)}{k:κ} (e:¬p.1=k):Ar (p::r) k=Ar r k:=by simp[Ar,Du,e]
theorem HY (k:κ):∀kvs:List (κ×V),(kvs.any fun kv=>decide (kv.1=k))=(Ar kvs k).isSome
 | []=>rfl
 | p::r=>by
  rw[DL]
  by_cases e:p.1=k
  ·simp only[Cd e,decide_eq_true e,MW,UB]
  ·rw[Cc e,decide_eq_false e,GR];exact HY k r
theorem TH (k j:κ) (y:V):∀kvs:List (κ×V),Ar (kvs.map fun kv=>if kv.1=k then (kv.1,y) else kv) j=(Ar kvs j).map fun x=>if j=k then y else x
 | []=>rfl
 | p::r=>by
  have ih:=TH k j y r
  rw[Au]
  by_cases h:p.1=k
  ·rw[if_pos h]
   by_cases e:p.1=j
   ·rw[Cd (p:=(p.1,y)) e,Cd e,FT,if_pos (e.symm.trans h)]
   ·rw[Cc (p:=(p.1,y)) e,Cc e,ih]
  ·rw[if_neg h]
   by_cases e:p.1=j
   ·rw[Cd (p:=p) e,Cd e,FT,if_neg (fun z=>h (e.trans z))]
   ·rw[Cc (p:=p) e,Cc e,ih]
theorem TJ (k j:κ) (y:V):∀kvs:List (κ×V),Ar kvs k=none→Ar (kvs++[(k,y)]) j=if j=k then some y else Ar kvs j
 | [],_=>by
  by_cases e:k=j
  ·rw[if_pos e.symm];exact Cd (p:=(k,y)) e
  ·rw[if_neg (fun z=>e z.symm)];exact Cc (p:=(k,y)) e
 | p::r,hn=>by
  rw[FO]
  have hk:¬p.1=k:=fun z=>by rw[Cd z] at hn;cases hn
  rw[Cc hk] at hn
  have ih:=TJ k j y r hn
  by_cases e:p.1=j
  ·rw[Cd e,Cd e,if_neg (fun z=>hk (e.trans z))]
  ·rw[Cc e,Cc e,ih]
theorem Zq (kvs:List (κ×V)) (k j:κ) (y:V):Ar (CF kvs k y) j=if j=k then some y else Ar kvs j:=by
 unfold CF
 by_cases a:(kvs.any fun kv=>decide (kv.1=k))=true
 ·rw[if_pos a,TH]
  rw[HY] at a
  by_cases e:j=k
  ·obtain⟨x,hx⟩:=T9.mp a
   rw[if_pos e,e,hx,FT,if_pos rfl]
  ·rw[if_neg e]
   cases Ar kvs j with
   | none=>rfl
   | some x=>rw[FT,if_neg e]
 ·rw[if_neg a]
  refine TJ k j y kvs ?_
  rw[HY] at a
  cases q:Ar kvs k with
  | none=>rfl
  | some x=>rw[q] at a;exact(a rfl).elim
theorem LD (kvs:List (κ×V)) (k:κ) (v:V):(CF kvs k v).length≤kvs.length+1:=by
 unfold CF
 split
 ·rw[AG];omega
 ·rw[BO,Bu,List.length_nil];omega
theorem QW {kvs:List (κ×V)}{k:κ} (v:V) (h:Ar kvs k=none):CF kvs k v=kvs++[(k,v)]:=by
 unfold CF
 rw[HY,h]
 exact if_neg (by decide)
theorem RelO.isSome_eq {o:Option V}{u:Option Value} (r:RelO o u):o.isSome=u.isSome:=by
 cases o with
 | none=>cases u with
  | none=>rfl
  | some _=>exact(show False from r).elim
 | some _=>cases u with
  | none=>exact(show False from r).elim
  | some _=>rfl
theorem RelO.getD {o:Option V}{u:Option Value}{d:V}{d':Value} (r:RelO o u) (rd:RelV d d'):RelV (o.getD d) (u.getD d'):=by
 cases o with
 | none=>cases u with
  | none=>exact rd
  | some _=>exact(show False from r).elim
 | some _=>cases u with
  | none=>exact(show False from r).elim
  | some _=>exact r
theorem KV.val {kvs:List (κ×V)}{vs:List (κ×Value)} (r:KV kvs vs) (k:κ):RelO (Ar kvs k) (valueAt vs k):=by
 unfold KV at r
 induction r with
 | nil=>exact Gn
 | @cons p q ps qs h t ih =>
  obtain⟨h1,h2⟩:=h
  by_cases e:p.1=k
  ·have e':q.1=k:=h1.symm.trans e
   have b:valueAt (q::qs) k=some q.2:=by simp[valueAt,Du,e']
   rw[Cd e,b];exact h2
  ·have e':¬q.1=k:=fun z=>e (h1.trans z)
   have b:valueAt (q::qs) k=valueAt qs k:=by simp[valueAt,Du,e']
   rw[Cc e,b];exact ih
theorem KV.any {kvs:List (κ×V)}{vs:List (κ×Value)} (r:KV kvs vs) (k:κ):(kvs.any fun kv=>decide (kv.1=k))=vs.any fun kv=>decide (kv.1=k):=by
 unfold KV at r
 induction r with
 | nil=>rfl
 | cons h t ih=>rw[DL,DL,ih,h.1]
theorem KV.repl {kvs:List (κ×V)}{vs:List (κ×Value)} (r:KV kvs vs) (k:κ) {y:V}{u:Value} (ry:RelV y u):
  KV (kvs.map fun kv=>if kv.1=k then (kv.1,y) else kv) (vs.map fun kv=>if kv.1=k then (kv.1,u) else kv):=by
 unfold KV at r ⊢
 induction r with
 | nil=>exact .nil
 | @cons p q ps qs h t ih =>
  rw[Au,Au]
  refine .cons ?_ ih
  obtain⟨h1,h2⟩:=h
  by_cases e:p.1=k
  ·rw[if_pos e,if_pos (h1.symm.trans e)];exact⟨h1,ry⟩
  ·rw[if_neg e,if_neg (fun z=>e (h1.trans z))];exact⟨h1,h2⟩
theorem KV.put {kvs:List (κ×V)}{vs:List (κ×Value)} (r:KV kvs vs) (k:κ) {y:V}{u:Value} (ry:RelV y u):KV (CF kvs k y) (stored vs k u):=by
 unfold CF stored
 rw[r.any k]
 by_cases e:(vs.any fun kv=>decide (kv.1=k))=true
 ·rw[if_pos e,if_pos e];exact r.repl k ry
 ·rw[if_neg e,if_neg e];exact Paired.snoc r ⟨rfl,ry⟩
theorem KV.length {kvs:List (κ×V)}{vs:List (κ×Value)} (r:KV kvs vs):kvs.length=vs.length:=FU r
end
theorem Fq {P:Program}{w:World}{k:Key}{u:Value} (r:RelV (kV k) u):(CD P w).is k u=true:=by
 cases k with
 | inl i=>obtain⟨t,e⟩:=(show ∃t,u=KD i t from r);subst e;exact XB P w i t
 | inr x=>obtain⟨t,e⟩:=(show ∃t,u=KG x t from r);subst e;exact XC P w x t
theorem PN {P:Program}{w:World}:∀{ks:List Key}{us:List Value},Vals (ks.map kV) us→ItemsAre (CD P w) ks us
 | [],_,r=>by rw[FQ] at r;cases r;exact .nil
 | k::ks,_,r=>by
  rw[Au] at r
  cases r with
  | cons h t=>exact .cons (Fq h) (PN t)
abbrev KT (H:Hp):List (List Key×V)→List (List Key×Addr×Value)→Prop:=Paired fun p q=>p.1=q.1∧H q.2.1=some (.tup (p.1.map kV))∧RelV p.2 q.2.2
theorem KT.val {H:Hp}{kvs:List (List Key×V)}{xs:List (List Key×Addr×Value)} (r:KT H kvs xs) (k:List Key):RelO (Ar kvs k) ((atKey xs k).map (·.2)):=by
 induction r with
 | nil=>exact Gn
 | @cons p q ps qs h t ih =>
  obtain⟨h1,_,h2⟩:=h
  by_cases e:p.1=k
  ·have e':q.1=k:=h1.symm.trans e
   have b:atKey (q::qs) k=some q.2:=by simp[atKey,Du,e']
   rw[Cd e,b];exact h2
  ·have e':¬q.1=k:=fun z=>e (h1.trans z)
   have b:atKey (q::qs) k=atKey qs k:=by simp[atKey,Du,e']
   rw[Cc e,b];exact ih
theorem KT.repl {H:Hp}{kvs:List (List Key×V)}{xs:List (List Key×Addr×Value)} (r:KT H kvs xs) (k:List Key) {y:V}{u:Value} (ry:RelV y u):
  KT H (kvs.map fun kv=>if kv.1=k then (kv.1,y) else kv) (xs.map (putAt k u)):=by
 induction r with
 | nil=>exact .nil
 | @cons p q ps qs h t ih =>
  rw[Au,Au]
  refine .cons ?_ ih
  obtain⟨h1,h2,h3⟩:=h
  unfold putAt
  by_cases e:p.1=k
  ·rw[if_pos e,if_pos (h1.symm.trans e)];exact⟨h1,h2,ry⟩
  ·rw[if_neg e,if_neg (fun z=>e (h1.trans z))];exact⟨h1,h2,h3⟩
theorem KT.put {H:Hp}{kvs:List (List Key×V)}{xs:List (List Key×Addr×Value)} (r:KT H kvs xs) (k:List Key) {b:Addr}{y:V}{u:Value} (hb:H b=some (.tup (k.map kV))) (ry:RelV y u):
  KT H (CF kvs k y) (storedH xs k b u):=by
 have e:(kvs.any fun kv=>decide (kv.1=k))=(atKey xs k).isSome:=by
  rw[HY,(r.val k).isSome_eq,UA]
 unfold CF storedH
 rw[e]
 by_cases q:(atKey xs k).isSome=true
 ·rw[if_pos q,if_pos q];exact r.repl k ry
 ·rw[if_neg q,if_neg q];exact Paired.snoc r ⟨rfl,hb,ry⟩
theorem KT.keeps {H H':Hp}{kvs:List (List Key×V)}{xs:List (List Key×Addr×Value)} (r:KT H kvs xs) (ht:∀b ys,H b=some (.tup ys)→H' b=some (.tup ys)):KT H' kvs xs :=
 Paired.mapP r fun _ _ z=>⟨z.1,ht _ _ z.2.1,z.2.2⟩
section
variable {P:Program}{w:World}{H:Hp}{h:Heap}{a:Addr}
theorem QZ {u:HO} (ok:HOk P w H h) (e:Rd H a u):ObjOk P w H h a u:=e.ok ok
theorem E3 {kvs:List (Key×V)} (ok:HOk P w H h) (e:Rd H a (.dK kvs)):kvs.length≤sizeLine∧(a==sysModules)=false∧∃vs,KV kvs vs∧h.DictOf (CD P w) a vs :=
 show ObjOk P w H h a (.dK kvs) from QZ ok e
theorem Vw {kvs:List (Key×V)} (ok:HOk P w H h) (e:H a=some (.dK kvs)):kvs.length≤sizeLine∧(a==sysModules)=false∧∃vs,KV kvs vs∧h.DictOf (CD P w) a vs:=E3 ok (.inl e)
theorem Fs {ks:List Key} (ok:HOk P w H h) (e:H a=some (.tup (ks.map kV))):(tupleKind (CD P w)).is h ks a:=by
 obtain⟨_,its,r,o,h1,h2,n,h3⟩:=(show ObjOk P w H h a (.tup (ks.map kV)) from ok a _ e)
 exact⟨o,its.toArray,n,h1,h2,h3,by simpa using PN r⟩
theorem E4 {kvs:List (List Key×V)} (ok:HOk P w H h) (e:Rd H a (.dT kvs)):kvs.length≤sizeLine∧(a==sysModules)=false∧
  ∃xs,KT H kvs xs∧h.DictOfH (tupleKind (CD P w)) a xs:=by
 obtain⟨z,y,xs,r,o,es,ep,h1,h2,h3,h4,h5⟩:=(show ObjOk P w H h a (.dT kvs) from QZ ok e)
 refine⟨z,y,xs,r,o,es,ep,h1,h2,h3,h4,fun x hx=>?_,h5⟩
 have all:∀{l:List (List Key×V)} {m:List (List Key×Addr×Value)},KT H l m→∀x∈m,(tupleKind (CD P w)).is h x.1 x.2.1:=by
  intro l m q
  induction q with
  | nil=>intro x hx;exact nomatch hx
  | @cons p q ps qs hq t ih =>
   intro x hx
   rcases AS.mp hx with e | hx
   ·subst e
    exact Fs ok (by rw[← hq.1];exact hq.2.1)
   ·exact ih x hx
 exact all r x hx
theorem OO {kvs:List (List Key×V)} (ok:HOk P w H h) (e:H a=some (.dT kvs)):kvs.length≤sizeLine∧(a==sysModules)=false∧
 ∃xs,KT H kvs xs∧h.DictOfH (tupleKind (CD P w)) a xs:=E4 ok (.inl e)
end
def DGet (H:Hp) (a:Addr) (y:V) (r:Option V):Prop :=
 (∃kvs k,Rd H a (.dK kvs)∧y=kV k∧r=Ar kvs k)∨∃kvs k b,Rd H a (.dT kvs)∧y=.ref b∧H b=some (.tup (k.map kV))∧r=Ar kvs k
def DPut (H:Hp) (a:Addr) (y v:V) (H':Hp):Prop :=
 (∃kvs k,H a=some (.dK kvs)∧y=kV k∧kvs.length < sizeLine∧H'=upd H a (.dK (CF kvs k v)))∨
 ∃kvs k b,H a=some (.dT kvs)∧y=.ref b∧H b=some (.tup (k.map kV))∧kvs.length < sizeLine∧H'=upd H a (.dT (CF kvs k v))
theorem DGet.k {H:Hp}{a:Addr}{kvs:List (Key×V)}{k:Key} (e:H a=some (.dK kvs)):DGet H a (kV k) (Ar kvs k):=.inl ⟨kvs,k,.inl e,rfl,rfl⟩
theorem DGet.t {H:Hp}{a b:Addr}{kvs:List (List Key×V)}{k:List Key} (e:H a=some (.dT kvs)) (eb:H b=some (.tup (k.map kV))):DGet H a (.ref b) (Ar kvs k):=.inr ⟨kvs,k,b,.inl e,rfl,eb,rfl⟩
theorem DPut.k {H:Hp}{a:Addr}{kvs:List (Key×V)}{k:Key}{v:V} (e:H a=some (.dK kvs)) (hl:kvs.length < sizeLine):DPut H a (kV k) v (upd H a (.dK (CF kvs k v))):=.inl ⟨kvs,k,e,rfl,hl,rfl⟩
theorem DPut.t {H:Hp}{a b:Addr}{kvs:List (List Key×V)}{k:List Key}{v:V} (e:H a=some (.dT kvs)) (eb:H b=some (.tup (k.map kV))) (hl:kvs.length < sizeLine):
 DPut H a (.ref b) v (upd H a (.dT (CF kvs k v))):=.inr ⟨kvs,k,b,e,rfl,eb,hl,rfl⟩
section
variable {X:Cx}{pins:List (Addr×Obj)}{σ:St}{H:Hp}{s:Shared}{a:Addr}{y v:V}{u r:Value}{o:Option V}{A:Around}{E:Value→Shared→Prop}
theorem Inv.big (I:Inv X pins σ H s):sysModules < s.heap.objs.size:=by
 have h:mainGlobals < s.heap.objs.size:=(I.mod.glob.keeps I.bk).lt
 exact Nat.lt_trans (by decide) h
theorem Vn {Q:Value→Shared→Prop} (hu:A.units+1 < cLine) (I:Inv X pins σ H s) (g:DGet H a y (some v)) (ry:RelV y u) (h:∀w' s',Inv X pins σ H s'→RelV v w'→Q w' s'):
  wpAny (model X.prog X.w) A (getItem (.ref a) u) Q E s:=by
 rcases g with ⟨kvs,k,e,ey,l⟩ | ⟨kvs,k,b,e,ey,eb,l⟩
 ·subst ey
  obtain⟨z,hd,vs,rel,dd⟩:=E3 I.hok e
  obtain⟨w',hw,rw'⟩:=RelO.some_of (v:=v) (o:=valueAt vs k) (by rw[l];exact rel.val k)
  exact wpAny_getItem_of (Fq ry) dd.mapOf hw (h w' _ (I.tok _) rw')
 ·subst ey
  cases (show u=A0 b from ry)
  obtain⟨z,hd,xs,rel,dd⟩:=E4 I.hok e
  obtain⟨w',hw,rw'⟩:=RelO.some_of (v:=v) (o:=(atKey xs k).map (·.2)) (by rw[l];exact rel.val k)
  obtain⟨p,hp,hp2⟩:=Ga.mp hw
  refine wpAny_getItem_heap (Hy hu) (Fs I.hok eb) dd hp ?_
  rw[hp2]
  exact h w' _ (I.tok _) rw'
theorem Vo {Q:Value→Shared→Prop} (hu:A.units+1 < cLine) (I:Inv X pins σ H s) (g:DGet H a y o) (ry:RelV y u) (h:∀s',Inv X pins σ H s'→Q (.bool o.isSome) s'):
  wpAny (model X.prog X.w) A (compareOp .In u (.ref a)) Q E s:=by
 rcases g with ⟨kvs,k,e,ey,l⟩ | ⟨kvs,k,b,e,ey,eb,l⟩
 ·subst ey
  obtain⟨z,hd,vs,rel,dd⟩:=E3 I.hok e
  refine wpAny_in_of (Fq ry) hd dd.mapOf ?_
  rw[← (rel.val k).isSome_eq,← l]
  exact h _ (I.tok _)
 ·subst ey
  cases (show u=A0 b from ry)
  obtain⟨z,hd,xs,rel,dd⟩:=E4 I.hok e
  refine wpAny_in_heap (Hy hu) (Fs I.hok eb) hd dd ?_
  have q:=(rel.val k).isSome_eq
  rw[UA] at q
  rw[← q,← l]
  exact h _ (I.tok _)
theorem OG {h':Heap}{t':Nat}{ob:HO} (I:Inv X pins σ H s) (mu:Mut (H a)) (hs:Gi a s.heap h') (he:∃q,h'.get? a=some q) (new:ObjOk X.prog X.w (upd H a ob) h' a ob):
  Inv X pins σ (upd H a ob) { s with heap:=h',toks:=t' } :=
 I.write (x:=a) (e:=a) mu (.inl rfl) (fun b q hb z=>(hs.2 b hb).trans z) he new
theorem Vv {P:Program}{w:World}{H':Hp}{h':Heap}{kvs:List (Key×V)}{vs:List (Key×Value)} (z:kvs.length≤sizeLine) (hd:(a==sysModules)=false) (rel:KV kvs vs) (dd:h'.DictOf (CD P w) a vs):
 ObjOk P w H' h' a (.dK kvs):=⟨z,hd,vs,rel,dd⟩
theorem Vp {H':Hp}{Q:Unit→Shared→Prop} (hu:A.units+1 < cLine) (I:Inv X pins σ H s) (g:DPut H a y v H') (ry:RelV y u) (rv:RelV v r) (h:∀s',Inv X pins σ H' s'→Q () s'):
  wpAny (model X.prog X.w) A (setItem (.ref a) u r) Q E s:=by
 rcases g with ⟨kvs,k,e,ey,l,eH⟩ | ⟨kvs,k,b,e,ey,eb,l,eH⟩
 ·subst ey eH
  obtain⟨z,hd,vs,rel,dd⟩:=Vw I.hok e
  have hz:vs.length≤sizeLine:=by rw[← rel.length];exact z
  have hl:(CF kvs k v).length≤sizeLine:=by have:=LD kvs k v;omega
  refine wpAny_setItem_pairs (hsz:=hz) (Fq ry) dd fun h' dd' hs=>h _ ?_
  have he:∃q,h'.get? a=some q:=let ⟨q,_,_,hq,_⟩:=dd';⟨q,hq⟩
  exact OG I (by rw[e];exact Gn) hs he (Vv hl hd (rel.put k rv) dd')
 ·subst ey eH
  cases (show u=A0 b from ry)
  obtain⟨z,hd,xs,rel,dd⟩:=OO I.hok e
  have hz:xs.length≤sizeLine:=by rw[← FU rel];exact z
  have hl:(CF kvs k v).length≤sizeLine:=by have:=LD kvs k v;omega
  refine wpAny_setItem_heap (hsz:=hz) (Hy hu) (Fs I.hok eb) dd fun h' dd' hs=>h _ ?_
  obtain⟨q,es,ep,hq,h2,h3,h4,_,h5⟩:=dd'
  refine OG I (by rw[e];exact Gn) hs ⟨q,hq⟩ ⟨hl,hd,_,(rel.put k eb rv).keeps fun c ys ec=>?_,q,es,ep,hq,h2,h3,h4,h5⟩
  rw[AE (Bc ec e (fun z=>nomatch z))]
  exact ec
end
section
variable {X:Cx}{pins:List (Addr×Obj)}{σ:St}{H:Hp}{s:Shared}{a:Addr}{kvs:List (Key×V)}{k:Key}{u:Value}{A:Around}{E:Value→Shared→Prop}
end
def Nm (i:Expr):Prop:=∀ov iv,subscripted i false ov iv=operate [ov,iv] (getItem ov iv)
theorem ZE {prog:Program}{w:World}{A:Around}{E:Value→Shared→Prop}{s:Shared}{env:Env}{value slice:Expr}{pos:Pos}{T id:String}{Q:Value→Shared→Prop}
  (hl:typeLookup (.type T) "__getitem__"=pure (some (.builtin id))) (hs:Nm slice)
  (h:wpAny (model prog w) A (eval value env) (fun o s₁=>wpAny (model prog w) A (eval slice env) (fun i s₂=>s₂.TypeIs o T∧wpAny (model prog w) A (getItem o i) Q E s₂) E s₁) E s):
  wpAny (model prog w) A (eval (.Subscript value slice pos) env) Q E s:=by
 refine M5 (Cu h (fun o s₁ h₁=>Cu h₁ (fun i s₂ h₂=>?_) fun _ _ x=>x) fun _ _ x=>x)
 obtain⟨hT,h₂⟩:=h₂
 unfold subscriptTail
 refine AF ?_
 rw[getitemInPython_of_ne hT.not_modules]
 refine AF (U6 hT hl ?_)
 have fin:wpAny (model prog w) A (subscripted slice false o i) (fun r s₃=>wpAny (model prog w) A (letTemporaryGo value o r >>= fun _=>pure r) Q E s₃) E s₂:=by
  rw[hs o i]
  exact wpAny_operating (Cu h₂ (fun r s₃ h₃=>AF (wpAny_letTemporaryGo (AQ h₃))) fun _ _ x=>x)
 first
  | exact AQ (AF fin)
  | exact AF (AQ (AF fin))
  | exact AF fin
theorem Vr {X:Cx}{pins:List (Addr×Obj)}{σ:St}{H:Hp}{s:Shared}{a:Addr}{y:V}{o:Option V} (I:Inv X pins σ H s) (g:DGet H a y o):s.TypeIs (.ref a) "dict":=by
 rcases g with ⟨kvs,k,e,_,_⟩ | ⟨kvs,k,b,e,_,_,_⟩
 ·obtain⟨_,_,vs,_,dd⟩:=E3 I.hok e
  exact dd.typeIs
 ·obtain⟨_,_,xs,_,dd⟩:=E4 I.hok e
  exact dd.typeIs
def ZM (td ty:TE):TE:=fun σ H Q=>td σ H fun x H1=>ty σ H1 fun y H2=>∃a v,x=.ref a∧DGet H2 a y (some v)∧Q v H2
def ZP (ty td:TE):TE:=fun σ H Q=>ty σ H fun y H1=>td σ H1 fun x H2=>∃a o,x=.ref a∧DGet H2 a y o∧Q (.bl o.isSome) H2
def YM (td ty tv:TE):TS:=fun D σ H=>tv σ H fun v H1=>td σ H1 fun x H2=>ty σ H2 fun y H3=>∃a H4,x=.ref a∧DPut H3 a y v H4∧D.nx σ H4
section
variable {X:Cx}{o i e value:Expr}{pos pos' tpos:Pos}{td ty tv:TE}
theorem Xi (hu:X.A.units+1 < cLine) (ho:PE X o td) (hi:PE X i ty) (hs:Nm i):PE X (.Subscript o i pos) (ZM td ty):=by
 intro pins s σ H Q I h
 refine ZE PySem.F.slot_dict_getitem.lookup hs (thn (ho pins s σ H _ I h) fun u s1 ⟨x,H1,I1,rx,q1⟩=>thn (hi pins s1 σ H1 _ I1 q1) fun iv s2 ⟨y,H2,I2,ry,a,v,ex,g,q2⟩=>?_)
 subst ex
 obtain rfl:u=A0 a:=rx
 exact⟨Vr I2 g,Vn hu I2 g ry fun w' s3 I3 rw'=>⟨v,H2,I3,rw',q2⟩⟩
theorem Xg (hu:X.A.units+1 < cLine) (hi:PE X i ty) (ho:PE X o td):PC X .In i o (ZP ty td):=by
 intro pins s σ H Q I h
 refine thn (hi pins s σ H _ I h) fun iv s1 ⟨y,H1,I1,ry,q1⟩=>thn (ho pins s1 σ H1 _ I1 q1) fun u s2 ⟨x,H2,I2,rx,a,ov,ex,g,q2⟩=>?_
 subst ex
 obtain rfl:u=A0 a:=rx
 exact Vo hu I2 g ry fun s3 I3=>⟨.bl ov.isSome,H2,I3,rfl,q2⟩
theorem Lg (hu:X.A.units+1 < cLine) (ho:PE X o td) (hi:PE X i ty) (hv:PE X value tv) (hs:swapsWith value (some (.Subscript o i pos')) pos.line X.env=pure false):
  PS X (.Assign [.Subscript o i pos'] value pos) (YM td ty tv):=by
 intro pins s σ H D I h
 refine wpAny_Assign_Subscript (thn (hv pins s σ H _ I h) fun r s1 ⟨v,H1,I1,rv,q1⟩=>thn (ho pins s1 σ H1 _ I1 q1) fun u s2 ⟨x,H2,I2,rx,q2⟩=>thn (hi pins s2 σ H2 _ I2 q2) fun iv s3 ⟨y,H3,I3,ry,a,H4,ex,g,q3⟩=>?_) hs
 subst ex
 obtain rfl:u=A0 a:=rx
 exact Vp hu I3 g ry rv fun s4 I4=>⟨σ,H4,I4,q3⟩
end
theorem Vu {P:Program}{w:World}{H:Hp} (h:Heap) (hb:sysModules < h.objs.size):ObjOk P w H (h.push { cls:=.type "dict",data:=.dict #[] }) h.objs.size (.dK []) :=
 ⟨A5 _,beq_eq_false_iff_ne.mpr (Ap (BM hb)),[],.nil,Heap.DictOf.new h⟩
theorem Vy {P:Program}{w:World}{H:Hp} (h:Heap) (hb:sysModules < h.objs.size):ObjOk P w H (h.push { cls:=.type "dict",data:=.dict #[] }) h.objs.size (.dT []) :=
 ⟨A5 _,beq_eq_false_iff_ne.mpr (Ap (BM hb)),[],.nil,_,#[],0,BQ _ rfl,⟨rfl,rfl,rfl⟩,rfl,rfl,Jr⟩
def ZQ:TE:=fun _ H Q=>∀p,H p=none→Q (.ref p) (upd H p (.dK []))
def ZR:TE:=fun _ H Q=>∀p,H p=none→Q (.ref p) (upd H p (.dT []))
section
variable {X:Cx}{pos:Pos}
theorem QM:PE X (.Dict [] [] pos) ZQ:=fun pins s σ H Q I h =>
 Uy ⟨.ref s.heap.objs.size,_,I.laid (a:=s.heap.objs.size) (o:=.dK []) (t':=s.toks) (fun _ _ q=>BE _ q) (AV _) (Vu s.heap I.big),rfl,h _ (I.hok.fresh (AV _))⟩
theorem Xk:PE X (.Dict [] [] pos) ZR:=fun pins s σ H Q I h =>
 Uy ⟨.ref s.heap.objs.size,_,I.laid (a:=s.heap.objs.size) (o:=.dT []) (t':=s.toks) (fun _ _ q=>BE _ q) (AV _) (Vy s.heap I.big),rfl,h _ (I.hok.fresh (AV _))⟩
end
structure M1 (X:Cx) (o:Expr) (m:Str) (apos:Pos) (e:Expr) (cpos:Pos):Prop where
 base:attributeBase o m X.env (eval o X.env)=eval o X.env
 few:((backTo cpos (starEach [e] X.env)).all (fun x=>!x.1)&&(backToKw cpos (keywordEach [] X.env)).all (fun x=>x.1.isSome)
  && decide (([e]:List Expr).length+([]:List Keyword).length+(if ([]:List Keyword).isEmpty then 0 else 1) < 30))=true
 line:(apos.endLine==cpos.line)=true
 trees:backTo cpos (starEach [e] X.env)=[(false,eval e X.env)]
structure M2 (X:Cx) (o:Expr) (m:Str) (apos:Pos) (e f:Expr) (cpos:Pos):Prop where
 base:attributeBase o m X.env (eval o X.env)=eval o X.env
 few:((backTo cpos (starEach [e,f] X.env)).all (fun x=>!x.1)&&(backToKw cpos (keywordEach [] X.env)).all (fun x=>x.1.isSome)
  && decide (([e,f]:List Expr).length+([]:List Keyword).length+(if ([]:List Keyword).isEmpty then 0 else 1) < 30))=true
 line:(apos.endLine==cpos.line)=true
 trees:backTo cpos (starEach [e,f] X.env)=[(false,eval e X.env),(false,eval f X.env)]
def IsD (H:Hp) (a:Addr):Prop:=(∃kvs,Rd H a (.dK kvs))∨∃kvs,Rd H a (.dT kvs)
theorem PK {X:Cx}{pins:List (Addr×Obj)}{σ:St}{H:Hp}{s:Shared}{a:Addr} (I:Inv X pins σ H s) (d:IsD H a):
  s.TypeIs (.ref a) "dict"∧(∀b,A0 a=.ref b→∃ob,s.heap.get? b=some ob∧ob.dict=none)∧(a==sysModules)=false:=by
 rcases d with ⟨kvs,e⟩ | ⟨kvs,e⟩
 ·obtain⟨_,hd,vs,_,dd⟩:=E3 I.hok e
  refine⟨dd.typeIs,fun b q=>?_,hd⟩
  cases q
  obtain⟨ob,_,_,h1,h2,_⟩:=dd
  exact⟨ob,h1,h2.2.1⟩
 ·obtain⟨_,hd,xs,_,dd⟩:=E4 I.hok e
  refine⟨dd.typeIs,fun b q=>?_,hd⟩
  cases q
  obtain⟨ob,_,_,h1,h2,_⟩:=dd
  exact⟨ob,h1,h2.2.1⟩
section
variable {X:Cx}{pins:List (Addr×Obj)}{σ:St}{H:Hp}{s:Shared}{a:Addr}{y d:V}{u r:Value}{o:Option V}{A:Around}{E:Value→Shared→Prop}
theorem Vl {Q:Value→Shared→Prop} (hu:A.units+1 < cLine) (I:Inv X pins σ H s) (g:DGet H a y o) (ry:RelV y u) (h:∀w' s',Inv X pins σ H s'→RelV (o.getD .non) w'→Q w' s'):
  wpAny (model X.prog X.w) A (call (.builtin "dict.get") [.ref a,u]) Q E s:=by
 rcases g with ⟨kvs,k,e,ey,l⟩ | ⟨kvs,k,b,e,ey,eb,l⟩
 ·subst ey
  obtain⟨z,hd,vs,rel,dd⟩:=E3 I.hok e
  refine Hx Ge dd.typeIs J6 (UN _ _) (meets_dict_get (CD X.prog X.w) a (Fq ry) hd) ⟨_,dd.mapOf,h _ _ (I.tok _) ?_⟩
  rw[l]
  exact(rel.val k).getD rfl
 ·subst ey
  cases (show u=A0 b from ry)
  obtain⟨z,hd,xs,rel,dd⟩:=E4 I.hok e
  refine Hx Ge dd.typeIs J6 (UN _ _) (meetsH_dict_get (tupleKind (CD X.prog X.w)) a b hd) ⟨Hy hu,k,xs,Fs I.hok eb,dd,h _ _ (I.tok _) ?_⟩
  rw[l]
  exact(rel.val k).getD rfl
theorem Vm {Q:Value→Shared→Prop} (hu:A.units+1 < cLine) (I:Inv X pins σ H s) (g:DGet H a y o) (ry:RelV y u) (rd:RelV d r) (h:∀w' s',Inv X pins σ H s'→RelV (o.getD d) w'→Q w' s'):
  wpAny (model X.prog X.w) A (call (.builtin "dict.get") [.ref a,u,r]) Q E s:=by
 rcases g with ⟨kvs,k,e,ey,l⟩ | ⟨kvs,k,b,e,ey,eb,l⟩
 ·subst ey
  obtain⟨z,hd,vs,rel,dd⟩:=E3 I.hok e
  refine Hx Ge dd.typeIs J6 (UO _ _ _) (meets_dict_get_default (CD X.prog X.w) a (Fq ry) hd r) ⟨_,dd.mapOf,h _ _ (I.tok _) ?_⟩
  rw[l]
  exact(rel.val k).getD rd
 ·subst ey
  cases (show u=A0 b from ry)
  obtain⟨z,hd,xs,rel,dd⟩:=E4 I.hok e
  refine Hx Ge dd.typeIs J6 (UO _ _ _) (meetsH_dict_get_default (tupleKind (CD X.prog X.w)) a b hd r) ⟨Hy hu,k,xs,Fs I.hok eb,dd,h _ _ (I.tok _) ?_⟩
  rw[l]
  exact(rel.val k).getD rd
end
def ZN (td ty:TE):TE:=fun σ H Q=>td σ H fun x H1=>∃a,x=.ref a∧IsD H1 a∧ty σ H1 fun y H2=>∃o,DGet H2 a y o∧Q (o.getD .non) H2
def ZO (td ty tx:TE):TE:=fun σ H Q=>td σ H fun x H1=>∃a,x=.ref a∧IsD H1 a∧ty σ H1 fun y H2=>tx σ H2 fun z H3=>∃o,DGet H3 a y o∧Q (o.getD z) H3
section
variable {X:Cx}{o e f:Expr}{apos cpos:Pos}{td ty tx:TE}
theorem Xj (hu:X.A.units+1 < cLine) (ho:PE X o td) (he:PE X e ty) (m:M1 X o "get" apos e cpos):PE X (.Call (.Attribute o "get" apos) [e] [] cpos) (ZN td ty):=by
 intro pins s σ H Q I h
 refine Ux m.base m.few m.line UT Ge Ua (thn (ho pins s σ H _ I h) fun u s1 ⟨x,H1,I1,rx,a,ex,d,q1⟩=>?_)
 subst ex
 obtain rfl:u=A0 a:=rx
 obtain⟨t1,t2,_⟩:=PK I1 d
 refine⟨t1,t2,?_⟩
 rw[m.trees]
 refine NB rfl (NC (J5 (thn (he pins s1 σ H1 _ I1 q1) fun iv s2 ⟨y,H2,I2,ry,ov,g,q2⟩=>ND ?_)))
 exact Vl hu I2 g ry fun w' s3 I3 rw'=>⟨_,H2,I3,rw',q2⟩
theorem QL (hu:X.A.units+1 < cLine) (ho:PE X o td) (he:PE X e ty) (hf:PE X f tx) (m:M2 X o "get" apos e f cpos):PE X (.Call (.Attribute o "get" apos) [e,f] [] cpos) (ZO td ty tx):=by
 intro pins s σ H Q I h
 refine Ux m.base m.few m.line UT Ge Ua (thn (ho pins s σ H _ I h) fun u s1 ⟨x,H1,I1,rx,a,ex,d,q1⟩=>?_)
 subst ex
 obtain rfl:u=A0 a:=rx
 obtain⟨t1,t2,_⟩:=PK I1 d
 refine⟨t1,t2,?_⟩
 rw[m.trees]
 refine NB rfl (NC (J5 (thn (he pins s1 σ H1 _ I1 q1) fun iv s2 ⟨y,H2,I2,ry,q2⟩ =>
  J5 (thn (hf pins s2 σ H2 _ I2 q2) fun fv s3 ⟨z,H3,I3,rz,ov,g,q3⟩=>ND ?_))))
 exact Vm hu I3 g ry rz fun w' s4 I4 rw'=>⟨_,H3,I4,rw',q3⟩
end
section
variable {X:Cx}{pins:List (Addr×Obj)}{σ:St}{H:Hp}{s:Shared}{a:Addr}{kvs:List (Key×V)}{A:Around}{E:Value→Shared→Prop}
end
section
variable {X:Cx}{pins:List (Addr×Obj)}{σ:St}{H:Hp}{s:Shared}{a:Addr}{y:V}{u:Value}{A:Around}{E:Value→Shared→Prop}
end
end L2
namespace L2
open PySem PySem.Spec PyProof.Rows
section
variable {prog:Program}{w:World}{A:Around}{E:Value→Shared→Prop}
end
section
variable {X:Cx}
end
end L2
namespace L2
open PySem PySem.Spec PyProof.Rows
theorem VS:bootBuiltins "reversed"=some (.type "reversed"):=by decide +kernel
section
variable {X:Cx}{pins:List (Addr×Obj)}{σ:St}{H:Hp}{s:Shared}{h':Heap}
theorem Inv.turnedNew {t':Nat}{ch:List Addr}{T:Addr}{ob:HO} (I:Inv X pins σ H s) (k:∀b o,b∉ch→s.heap.get? b=some o→h'.get? b=some o) (hf:∀b∈ch,DP X pins H b) (hT:s.heap.objs.size≤T)
  (new:ObjOk X.prog X.w (upd H T ob) h' T ob):Inv X pins σ (upd H T ob) { s with heap:=h',toks:=t' }:=by
 have hn:H T=none:=I.hok.fresh hT
 have nit:∀b u,H b=some u→b∉ch:=fun b u e z=>by
  have q:=(hf b z).1
  rw[q] at e;cases e
 refine I.step (g':=s.gens) (d':=s.drawn) (ch:=ch) (fun b hb=>⟨(hf b hb).2.2.2.1,(hf b hb).2.1,(hf b hb).2.2.2.2.1,(hf b hb).2.2.2.2.2⟩) (fun b o _ _ hc e _=>k b o hc e) (fun b o _ _ hc e _=>⟨o.slots,k b o hc e⟩)
  (fun b o _ e n=>?_) (fun b o hc e=>⟨o,k b o hc e⟩) (fun b xs e=>?_) (fun b o u e=>?_) (fun b ps e=>⟨#[],?_⟩) (fun m hm=>?_) (fun b u e=>?_) I.bare
 ·rw[AE (BM (BV (Aq e) hT))];exact n
 ·rw[AE (Am e hn)];exact e
 ·rw[AE (Am e hn)];exact e
 ·rw[AE (Am e hn),e];simp
 ·obtain⟨o,es,ep,ho,r⟩:=hm
  exact⟨o,es,ep,k _ o (fun z=>(hf _ z).2.1 rfl) ho,r⟩
 ·by_cases hb:b=T
  ·subst hb
   rw[AI] at e
   cases e
   exact new
  ·rw[AE hb] at e
   refine(I.hok b u e).stay (fun c v hc q=>k c v ?_ q) (fun c q=>by rw[AE (Am q hn)];exact q) fun c xs q=>by rw[AE (Am q hn)];exact q
   rcases hc with z | z
   ·rw[z];exact nit b u e
   ·exact nit c _ z
theorem Inv.lock {d:Addr}{u:HO} (I:Inv X pins σ H s) (h:H d=some u) (mu:Mut (some u)):∃od,Inv X pins σ (upd H d (.frz od u)) s:=by
 have x:=I.hok d u h
 have ex:∃od,s.heap.get? d=some od:=by
  cases u with
  | lst xs=>obtain⟨_,_,_,_,e⟩:=x;exact⟨_,e⟩
  | dK kvs=>obtain⟨_,_,_,_,o,_,_,e,_⟩:=x;exact⟨o,e⟩
  | dT kvs=>obtain⟨_,_,_,_,o,_,_,e,_⟩:=x;exact⟨o,e⟩
  | set S n=>obtain⟨o,_,_,_,e,_⟩:=x;exact⟨o,e⟩
  | ins C dx fs=>obtain⟨_,_,_,e,_⟩:=x;exact⟨_,e⟩
  | ext φ=>obtain⟨_,⟨_,e⟩,_⟩:=x;exact⟨_,e⟩
  | _=>exact BL mu
 obtain⟨od,e⟩:=ex
 have new:ObjOk X.prog X.w (upd H d (.frz od u)) s.heap d (.frz od u):=by
  refine⟨e,x.stay (fun b v _ q=>q) (fun b q=>?_) fun b xs q=>?_⟩
  ·rw[AE (fun z=>by rw[z,h] at q;cases q;exact mu)];exact q
  ·rw[AE (fun z=>by rw[z,h] at q;cases q;exact mu)];exact q
 exact⟨od,I.write (x:=d) (e:=d) (t':=s.toks) (h':=s.heap) (by rw[h];exact mu) (.inl rfl) (fun b v _ q=>q) ⟨od,e⟩ new⟩
theorem Inv.nofrz {d:Addr}{u:HO} (I:Inv X pins σ H s) (h:H d=some u) (mu:Mut (some u)):∀o' u',X.H_0 d≠some (.frz o' u'):=fun o' u' e=>by
 have q:=I.base.frzs d o' u' e
 rw[h] at q
 cases q
 exact mu
theorem Inv.unlock {d:Addr}{od:Obj}{u:HO} (I:Inv X pins σ H s) (h:H d=some (.frz od u)) (hn:∀o' u',X.H_0 d≠some (.frz o' u')):Inv X pins σ (upd H d u) s:=by
 have neH:∀b o,H b=some o→(∀o' u',o≠.frz o' u')→b≠d:=fun b o e hne z=>by
  rw[z,h] at e
  cases e
  exact hne _ _ rfl
 have neN:∀b,H b=none→b≠d:=fun b e z=>by rw[z,h] at e;cases e
 refine⟨I.ok,I.os,I.bare,⟨I.base.keep,I.base.slot,fun b o e n hx=>?_,I.base.there,fun b xs e=>?_,fun b o x e=>?_,fun b ps e=>?_⟩,I.loc,I.cell,?_,fun x c e=>?_,fun p hp=>?_,fun b o e=>?_,I.len⟩
 ·rw[AE (neN b (I.base.free b o e n hx))];exact I.base.free b o e n hx
 ·have q:=I.base.tups b xs e
  rw[AE (neH b _ q (fun _ _ z=>nomatch z))];exact q
 ·have q:=I.base.frzs b o x e
  rw[AE (fun z=>by rw[z] at e;exact hn _ _ e)];exact q
 ·obtain⟨m,q⟩:=I.base.tbls b ps e
  exact⟨m,by rw[AE (neH b _ q (fun _ _ z=>nomatch z))];exact q⟩
 ·rw[AE (neN _ I.free)];exact I.free
 ·rw[AE (neN c (I.freeC x c e))];exact I.freeC x c e
 ·obtain⟨e,n,r⟩:=I.pin p hp
  exact⟨e,by rw[AE (neN _ n)];exact n,r⟩
 ·by_cases hb:b=d
  ·rw[hb,AI] at e
   cases e
   rw[hb]
   obtain⟨_,x⟩:=I.hok d _ h
   exact x.stay (fun c v _ q=>q) (fun c q=>by rw[AE (neH c _ q (fun _ _ z=>nomatch z))];exact q) fun c xs q=>by rw[AE (neH c _ q (fun _ _ z=>nomatch z))];exact q
  ·rw[AE hb] at e
   exact(I.hok b o e).stay (fun c v _ q=>q) (fun c q=>by rw[AE (neH c _ q (fun _ _ z=>nomatch z))];exact q) fun c xs q=>by rw[AE (neH c _ q (fun _ _ z=>nomatch z))];exact q
end
def Zy (t:TS):TS:=fun D σ H=>∃d u,H d=some u∧Mut (some u)∧∀od,t ⟨fun σ' H'=>H' d=some (.frz od u)∧D.nx σ' (upd H' d u),fun v H'=>H' d=some (.frz od u)∧D.rt v (upd H' d u),fun σ' H'=>H' d=some (.frz od u)∧D.bk σ' (upd H' d u),fun σ' H'=>H' d=some (.frz od u)∧D.ct σ' (upd H' d u)⟩ σ (upd H d (.frz od u))
def ZV (t:TE):TE:=fun σ H Q=>∃d u,H d=some u∧Mut (some u)∧∀od,t σ (upd H d (.frz od u)) fun v H'=>H' d=some (.frz od u)∧Q v (upd H' d u)
section
variable {X:Cx}
theorem QN {e:Expr}{t:TE} (h:PE X e t):PE X e (ZV t):=by
 intro pins s σ H Q I hw
 obtain⟨d,u,hd,mu,hw⟩:=hw
 obtain⟨od,I1⟩:=I.lock hd mu
 refine thn (h pins s σ _ _ I1 (hw od)) fun v s1 ⟨x,H1,I2,r,e2,q⟩=>?_
 exact⟨x,_,I2.unlock e2 (I.nofrz hd mu),r,q⟩
theorem HL {tg:Expr}{pins:List (Addr×Obj)}{σ:St}{H:Hp}{s:Shared}{R:It→Hp→Prop}{J:It}{tn:Nat→Heap→Prop}{tk:Nat} (I:Inv X pins σ H s) (o:Obj)
  (T:Dh X.prog X.w X.K tg J [s.heap.objs.size] s.heap.objs.size tn) (st:tn 0 (s.heap.push o)) (q:R J H):PIE X pins σ tg R (.ref s.heap.objs.size) { s with heap:=s.heap.push o,toks:=tk }:=by
 refine⟨s.heap.objs.size,[s.heap.objs.size],tn,J,H,rfl,I.kept fun b ob e=>BE _ e,T,st,fun b hb=>?_,q⟩
 have e:b=s.heap.objs.size:=by simpa using hb
 subst e
 exact I.fpOk (AV _) (I.hok.fresh (AV _))
end
section
variable {X:Cx}{tg:Expr}
end
def Itv (K:AA) (a:Addr) (n:Nat):It :=
 ⟨fun i H=>i < n∧∃(xs:List V) (x:V),SqL K H a xs∧xs[n - 1 - i]?=some x,fun i H x H'=>H'=H∧∀xs,SqL K H a xs→xs[n - 1 - i]?=some x,fun i _=>n≤i⟩
theorem Zn {P:Program}{w:World}{K:AA}{tg:Expr} (a it:Addr) (n:Nat):Dh P w K tg (Itv K a n) [it] it (fun i h=>i≤n∧h.IsRevIter it a ((n:Int) - 1 - (i:Nat))) where
 mem:=by simp
 obj:=fun i h st b hb=>by
  have e:b=it:=by simpa using hb
  subst e
  obtain⟨_,o,e,c,d⟩:=st
  exact⟨o,e,fun v z=>by rw[d] at z;cases z⟩
 keep:=fun i h h' st k=>⟨st.1,st.2.at fun o e=>k it (by simp) o e⟩
 item:=by
  intro X hP hw hK hc i pins s σ H E I hf st hg
  subst hP hw hK
  obtain⟨hin,xs,x,hq,hx⟩:=hg
  obtain⟨its,rv,p,hz⟩:=I.list hq
  obtain⟨u,hu,ru⟩:=rv.get hx
  obtain⟨f0,f1,f2,f3,f4,f5⟩:=hf it (by simp)
  obtain⟨_,hit⟩:=st
  have e1:(n:Int) - 1 - ((i:Nat):Int)=((n - 1 - i:Nat):Int):=by omega
  rw[e1] at hit
  refine wpAny_pyNext_rev_item hit p.isList (x:=u) (by simpa using hu) fun h' st' sb=>?_
  have e2:((n - 1 - i:Nat):Int) - 1=(n:Int) - 1 - ((i+1:Nat):Int):=by omega
  rw[e2] at st'
  have I1:Inv X pins σ H { s with heap:=h' }:=I.turned (t':=s.toks) (fun b o hb e=>(sb.2 b hb).trans e) f0 f1 f3 f4 f5
  obtain⟨o,e,c,d⟩:=id st'
  exact⟨u,rfl,Fo (s:={ s with heap:=h' }) e c d (by decide) ⟨x,H,I1,ru,⟨rfl,fun ys hy=>by rw[I.list_inj hy hq];exact hx⟩,⟨hin,st'⟩,fun b hb=>(hf b hb).1⟩⟩
 done:=by
  intro X hP hw hK hc i pins s σ H E I hf st hg
  subst hP hw hK
  obtain⟨f0,f1,f2,f3,f4,f5⟩:=hf it (by simp)
  obtain⟨hin,hit⟩:=st
  have hge:n≤i:=hg
  have e1:(n:Int) - 1 - ((i:Nat):Int)=-1:=by omega
  rw[e1] at hit
  exact wpAny_pyNext_rev_end (I.ok.hd hc) hit fun h' eb=>⟨rfl,I.turned (t':=s.toks) (fun b o hb e=>eb b o hb e) f0 f1 f3 f4 f5⟩
 self:=fun A i s Q E st h=>U4 st.2 h
def WV (K:AA) (ta:TA):TI:=fun σ H R=>ta σ H fun vs H1=>∃(a:Addr) (xs:List V),vs=[.ref a]∧SqL K H1 a xs∧R (Itv K a xs.length) H1
section
variable {X:Cx}{tg:Expr}
theorem Xv {e:Expr}{ta:TA}{p pos:Pos} (hg:Gl X "reversed") (hm:X.mg "reversed"=none) (ha:PA X [e] ta) (hs:starEach [e] X.env=[(false,eval e X.env)]:=by rfl):PI X tg (.Call (.Name "reversed" p) [e] [] pos) (WV X.K ta):=by
 intro pins s σ H R I h
 refine Call_ (Fv I hg hm VS (Hu (thn (ha pos pins s σ H _ I h) fun us s1 ⟨vs,H1,I1,r1,q1⟩=>?_) hs rfl))
 obtain⟨a,xs,e,hq,q⟩:=q1
 subst e
 cases r1 with
 | cons r rr =>
  cases rr
  cases r
  obtain⟨its,rv,p',hz⟩:=I1.list hq
  have hl:=rv.length
  have e1:((its.toArray.size:Nat):Int) - 1=(xs.length:Int) - 1 - ((0:Nat):Int):=by simp only[Bg];omega
  refine call_reversed_list p'.isList (U4 (l:=a) (i:=((its.toArray.size:Nat):Int) - 1) ⟨_,BQ _ rfl,rfl,rfl⟩ ?_)
  refine HL (tk:=s1.toks) I1 _ (Zn a _ xs.length) ⟨A5 _,?_⟩ q
  rw[← e1]
  exact⟨_,BQ _ rfl,rfl,rfl⟩
end
def Its (x:Str):It:=⟨fun i _=>i < x.cps.size,fun i H v H'=>H'=H∧∃c,x.cps[i]?=some c∧v=.str ⟨#[c]⟩,fun i _=>x.cps.size≤i⟩
theorem S8 {P:Program}{w:World}{K:AA}{tg:Expr} (it:Addr) (x:Str) (t:Tok) (ty:String) (hty:ty="str_ascii_iterator"∨ty="str_iterator"):
  Dh P w K tg (Its x) [it] it (fun i h=>h.IsStrIter it ty x t i) where
 mem:=by simp
 obj:=fun i h st b hb=>by
  have e:b=it:=by simpa using hb
  subst e
  obtain⟨o,e,c,d⟩:=st
  exact⟨o,e,fun v z=>by rw[d] at z;cases z⟩
 keep:=fun i h h' st k=>let ⟨o,ho,r⟩:=st;⟨o,k it (by simp) o ho,r⟩
 item:=by
  intro X hP hw hK hc i pins s σ H E I hf st hg
  subst hP hw hK
  obtain⟨f0,f1,f2,f3,f4,f5⟩:=hf it (by simp)
  have W:Walks X.prog X.w X.A it [it] [it] x.cps.size (SignAt x) (fun i h=>h.IsStrIter it ty x t i):=by
   rcases hty with e | e
   ·rw[e];exact Walks.strAscii (I.ok.hd hc) it x t
   ·rw[e];exact Walks.strWide (I.ok.hd hc) it x t
  have hno:["enumerate","zip","dict_itemiterator","dict_reverseitemiterator","odict_iterator","itertools.zip_longest","itertools.pairwise"].contains ty=false:=by
   rcases hty with e | e
   ·rw[e];decide
   ·rw[e];decide
  refine W.item i s _ _ hg st fun v h' tk hv st' kk=>?_
  obtain⟨c,u,hcx,rfl⟩:=hv
  have I1:Inv X pins σ H { s with heap:=h',toks:=tk }:=I.turned (fun b o hb e=>kk b o (by simpa using hb) e) f0 f1 f3 f4 f5
  obtain⟨oi,e,cc,dd⟩:=id st'
  exact⟨_,rfl,Fo (s:={ s with heap:=h',toks:=tk }) e cc dd hno ⟨.str ⟨#[c]⟩,H,I1,⟨u,rfl⟩,⟨rfl,c,hcx,rfl⟩,st',fun b hb=>(hf b hb).1⟩⟩
 done:=by
  intro X hP hw hK hc i pins s σ H E I hf st hg
  subst hP hw hK
  obtain⟨f0,f1,f2,f3,f4,f5⟩:=hf it (by simp)
  have hx:x.cps[i]?=none:=Tc hg
  rcases hty with e | e
  ·rw[e] at st
   exact wpAny_pyNext_ascii_end (I.ok.hd hc) st hx fun h' eb=>⟨rfl,I.turned (t':=s.toks) (fun b o hb e=>eb b o hb e) f0 f1 f3 f4 f5⟩
  ·rw[e] at st
   exact wpAny_pyNext_wide_end (I.ok.hd hc) st hx fun h' eb=>⟨rfl,I.turned (t':=s.toks) (fun b o hb e=>eb b o hb e) f0 f1 f3 f4 f5⟩
 self:=fun A i s Q E st h=>by
  rcases hty with e | e
  ·rw[e] at st;exact wpAny_pyIter_striter_ascii st h
  ·rw[e] at st;exact wpAny_pyIter_striter_wide st h
def WX (te:TE):TI:=fun σ H R=>te σ H fun v H1=>∃x,v=.str x∧R (Its x) H1
theorem Xw {X:Cx}{tg e:Expr}{te:TE} (he:PE X e te):PI X tg e (WX te):=by
 intro pins s σ H R I h
 refine thn (he pins s σ H _ I h) fun v s1 ⟨y,H1,I1,r1,x,ex,q⟩=>?_
 subst ex
 obtain⟨t,rfl⟩:=r1
 cases ha:x.cps.all (· < 128)
 ·exact wpAny_pyIter_wide ha (HL (tk:=s1.toks) I1 _ (S8 _ x t "str_iterator" (.inr rfl)) ⟨_,BQ _ rfl,rfl,rfl⟩ q)
 ·exact wpAny_pyIter_ascii ha (HL (tk:=s1.toks) I1 _ (S8 _ x t "str_ascii_iterator" (.inl rfl)) ⟨_,BQ _ rfl,rfl,rfl⟩ q)
section
variable {prog:Program}{w:World}{A:Around}{E:Value→Shared→Prop}{s:Shared}
theorem PR {d:Addr}{o:Obj}{es:Array DictEntry}{ep:Nat}{Q:Value→Shared→Prop} (hd:(d==sysModules)=false) (ho:s.heap.get? d=some o) (hc:o.ExactDict) (hdat:o.data=.dict es ep)
  (hQ:Q (.ref s.heap.objs.size) { s with heap:=s.heap.push { cls:=.type "dict_keyiterator",data:=.fields #[.ref d,.int 0 0,.int es.size 0,.int ep 0] } }):
  wpAny (model prog w) A (pyIter (.ref d)) Q E s:=by
 have hT:s.TypeIs (.ref d) "dict":=⟨o,ho,hc.1⟩
 refine U5 hT UU (Fd UU hT F.entry_dict_iter ?_ (F.args_dict_iter_1 _))
 unfold Builtin.«dict.__iter__»
 refine AF ?_
 unfold Builtin.Dict.dictSlotNone
 refine AF (wpAny_notOrdered_dict hT ?_)
 show wpAny _ _ (pure (A0 d)) _ _ s
 refine AQ ?_
 show wpAny _ _ (UH d >>= _) _ _ s
 unfold UH
 rw[if_neg (by rw[hd];exact Af)]
 refine AF (AQ ?_)
 refine AF (KN ho hdat ?_)
 refine AF (NZ ho hdat ?_)
 refine AF (Gm (AQ ⟨_,rfl,"dict_keyiterator",_,⟨_,BQ _ rfl,rfl⟩,Gf.lookup,?_⟩))
 simpa [rawInt] using hQ
theorem XN {it d:Addr}{i n ep:Nat}{od:Obj}{es:Array DictEntry}{en:DictEntry}{Q:Option Value→Shared→Prop} (hit:s.heap.IsKeyIter it d i n ep) (hod:s.heap.get? d=some od) (hdd:od.data=.dict es ep)
  (hsz:es.size=n) (hx:es[i]?=some en) (hQ:∀h',h'.IsKeyIter it d (i+1) n ep→Gi it s.heap h'→Q (some en.key) { s with heap:=h' }):wpAny (model prog w) A (pyNext (.ref it)) Q E s:=by
 obtain⟨o,ho,hc,hd⟩:=id hit
 unfold pyNext
 refine AF (wpAny_attempt (Gk (name:=Dz "__next__") hit.typeIs Gf
  (Fd Gf hit.typeIs UR ?_ (UP _))))
 refine AF (AQ ?_)
 refine AF ?_
 refine AF ?_
 first | refine AF (KS hit.typeIs (AQ ?_)) | refine AF (KU hit.typeIs (AQ ?_))
 refine AF (wpAny_fieldsOf ho hd ?_)
 have hown:UI "dict_keyiterator"=false:=by decide
 simp only[hown,Dt,if_false]
 show wpAny _ _ (if (A0 d==DB)=true then _ else _) _ _ s
 rw[if_neg (show ¬((A0 d==DB)=true) from Af)]
 refine AF (AQ ?_)
 refine AF (KN hod hdd ?_)
 rw[if_neg (by rw[hsz];simp)]
 refine AF (AQ ?_)
 refine AF (NZ hod hdd ?_)
 rw[if_neg (by simp)]
 refine AQ ?_
 obtain⟨hlt',hen⟩:=Array.getElem?_eq_some_iff.mp hx
 simp only[show ¬((i:Int) < 0) from by omega,if_false,FN,Array.getElem?_eq_getElem hlt']
 refine AF ?_
 first | refine AF (KS hit.typeIs (AQ ?_)) | refine AF (KU hit.typeIs (AQ ?_))
 refine AF (U0 hit.typeIs ?_)
 show wpAny _ _ (setField (.ref it) 1 (rawInt ((i:Int)+1)) >>= _) _ _ s
 refine AF (KR ho hd (by simp) ?_)
 have hit':(s.heap.update it (Obj.mapFields (·.setIfInBounds 1 (rawInt ((i:Int)+1))))).IsKeyIter it d (i+1) n ep :=
  ⟨_,Ub _ ho (Ug (KA hd _)),(Ue ..).trans hc,by rw[KA hd];simp[rawInt]⟩
 refine AF (Nb ?_)
 refine AF (U0 (s:={ s with heap:=s.heap.update it (Obj.mapFields (·.setIfInBounds 1 (rawInt ((i:Int)+1)))) }) hit'.typeIs ?_)
 show wpAny _ _ (pure es[i].key) _ _ _
 rw[hen]
 exact AQ (AQ ⟨_,rfl,AQ (hQ _ hit' (J8 ..))⟩)
theorem P1 {it d:Addr}{i n ep:Nat}{od:Obj}{es:Array DictEntry}{Q:Option Value→Shared→Prop} (hh:A.handled=none) (hit:s.heap.IsKeyIter it d i n ep) (hod:s.heap.get? d=some od) (hdd:od.data=.dict es ep)
  (hsz:es.size=n) (hge:n≤i) (hQ:∀h',Heap.ExtBut it s.heap h'→Q none { s with heap:=h' }):wpAny (model prog w) A (pyNext (.ref it)) Q E s:=by
 obtain⟨o,ho,hc,hd⟩:=id hit
 unfold pyNext
 refine AF (wpAny_attempt (Gk (name:=Dz "__next__") hit.typeIs Gf
  (Fd Gf hit.typeIs UR ?_ (UP _))))
 refine AF (AQ ?_)
 refine AF ?_
 refine AF ?_
 first | refine AF (KS hit.typeIs (AQ ?_)) | refine AF (KU hit.typeIs (AQ ?_))
 refine AF (wpAny_fieldsOf ho hd ?_)
 have hown:UI "dict_keyiterator"=false:=by decide
 simp only[hown,Dt,if_false]
 show wpAny _ _ (if (A0 d==DB)=true then _ else _) _ _ s
 rw[if_neg (show ¬((A0 d==DB)=true) from Af)]
 refine AF (AQ ?_)
 refine AF (KN hod hdd ?_)
 rw[if_neg (by rw[hsz];simp)]
 refine AF (AQ ?_)
 refine AF (NZ hod hdd ?_)
 rw[if_neg (by simp)]
 refine AQ ?_
 have hge':es.size≤i:=by rw[hsz];exact hge
 simp only[show ¬((i:Int) < 0) from by omega,if_false,FN,Tc hge']
 refine AF ?_
 first | refine AF (KS hit.typeIs (AQ ?_)) | refine AF (KU hit.typeIs (AQ ?_))
 show wpAny _ _ (setField (.ref it) 0 .none >>= _) _ _ s
 refine AF (KR ho hd (by simp) ?_)
 show wpAny _ _ (newExc (.type "StopIteration") [] >>= _) _ _ _
 refine AF ?_
 simp only[newExc,newTuple]
 refine AF (Gm ?_ (by size_fits))
 refine AF (m:=firstArgMember _ _) (Nd (a:=DB) (by first | rfl | (simp only[firstArgMember];rfl)) ?_)
 refine Gm ?_ (by size_fits)
 simp only[raiseNew]
 refine AF (wpAny_handled ?_)
 rw[show A.in1.handled=none from hh]
 refine AF (AQ (wpAny_throw ?_))
 refine AF (wpAny_isInstance (T:="StopIteration") (b:=true) ⟨_,BQ _ rfl,rfl⟩ isSubtype_stop ?_)
 exact AQ (hQ _ (((J8 ..).extBut.push _).push _))
end
theorem Ws {κ:Type}{kvs:List (κ×V)}{vs:List (κ×Value)} (h:KV kvs vs):∀{i:Nat}{k:κ}{v:V},kvs[i]?=some (k,v)→∃u,vs[i]?=some (k,u)∧RelV v u:=by
 unfold KV at h
 induction h with
 | nil=>intro i k v e;simp at e
 | @cons a b l₁ l₂ r t ih =>
  intro i k v e
  cases i with
  | zero =>
   simp only[Mm,UC] at e
   subst e
   refine⟨b.2,?_,r.2⟩
   simp only[Mm]
   exact congrArg some (Prod.ext r.1.symm rfl)
  | succ j =>
   simp only[Jj] at e ⊢
   exact ih e
theorem Xf {α β:Type}{G:α→β→Prop}{l₁:List α}{l₂:List β} (h:Paired G l₁ l₂):∀{i:Nat}{a:α},l₁[i]?=some a→∃b,l₂[i]?=some b∧G a b:=by
 induction h with
 | nil=>intro i a e;simp at e
 | @cons a b l₁ l₂ r t ih =>
  intro i a' e
  cases i with
  | zero =>
   simp only[Mm,UC] at e
   subst e
   exact⟨b,rfl,r⟩
  | succ j =>
   simp only[Jj] at e ⊢
   exact ih e
theorem YJ {k:Key}{u:Value} (h:EW k u=true):RelV (kV k) u:=by
 rcases Dk h with ⟨i,t,rfl,rfl⟩ | ⟨x,t,rfl,rfl⟩
 ·exact⟨t,rfl⟩
 ·exact⟨t,rfl⟩
section
variable {X:Cx}{pins:List (Addr×Obj)}{σ:St}{H:Hp}{s:Shared}{d:Addr}{o:Obj}
theorem Inv.frzK {kvs:List (Key×V)} (I:Inv X pins σ H s) (h:H d=some (.frz o (.dK kvs))):
  (d==sysModules)=false∧s.heap.get? d=some o∧o.ExactDict∧∃(es:Array DictEntry) (ep:Nat) (vs:List (Key×Value)),o.data=.dict es ep∧es.size=kvs.length∧KV kvs vs∧s.heap.DictAt (CD X.prog X.w) d vs ep:=by
 obtain⟨hd,z,hs,vs,kv,o',es,ep,ho,hx,hdt,r⟩:=I.hok d _ h
 rw[hd] at ho
 cases ho
 refine⟨hs,hd,hx,es,ep,vs,hdt,?_,kv,o,es,hd,hx,hdt,r⟩
 have l1:=r.2.1.length
 have l2:kvs.length=vs.length:=FU kv
 rw[JV] at l1
 omega
theorem Inv.frzT {kvs:List (List Key×V)} (I:Inv X pins σ H s) (h:H d=some (.frz o (.dT kvs))):
  (d==sysModules)=false∧s.heap.get? d=some o∧o.ExactDict∧∃(es:Array DictEntry) (ep:Nat),o.data=.dict es ep∧es.size=kvs.length∧
   ∀(i:Nat) (k:List Key) (v:V),kvs[i]?=some (k,v)→∃(en:DictEntry) (q:Addr),es[i]?=some en∧en.key=.ref q∧H q=some (.tup (k.map kV)):=by
 obtain⟨hd,z,hs,xs,pr,o',es,ep,ho,hx,hdt,he,_⟩:=I.hok d _ h
 rw[hd] at ho
 cases ho
 refine⟨hs,hd,hx,es,ep,hdt,?_,fun i k v e=>?_⟩
 ·have l1:es.size=xs.length:=size_of_entries he
  have l2:kvs.length=xs.length:=FU pr
  omega
 ·obtain⟨b,hb,e1,e2,_⟩:=Xf pr e
  have q:=entry_at he i
  rw[hb] at q
  exact⟨_,b.2.1,q,rfl,e2⟩
end
def Itk (d:Addr) (o:Obj) (kvs:List (Key×V)):It :=
 ⟨fun i H=>H d=some (.frz o (.dK kvs))∧i < kvs.length,fun i H x H'=>H'=H∧∃k v,kvs[i]?=some (k,v)∧x=kV k,fun i H=>H d=some (.frz o (.dK kvs))∧kvs.length≤i⟩
def Nk (d:Addr) (o:Obj) (kvs:List (List Key×V)):It :=
 ⟨fun i H=>H d=some (.frz o (.dT kvs))∧i < kvs.length,fun i H x H'=>H'=H∧∃(k:List Key) (v:V) (q:Addr),kvs[i]?=some (k,v)∧x=.ref q∧H q=some (.tup (k.map kV)),fun i H=>H d=some (.frz o (.dT kvs))∧kvs.length≤i⟩
theorem IU {o:Obj}{es es':Array DictEntry}{ep ep':Nat} (h:o.data=.dict es ep) (h':o.data=.dict es' ep'):es'=es∧ep'=ep:=by
 rw[h] at h'
 cases h'
 exact⟨rfl,rfl⟩
section
variable {P:Program}{w:World}{K:AA}{tg:Expr}{d:Addr}{o:Obj}{es:Array DictEntry}{ep:Nat}
theorem Zj {kvs:List (Key×V)} (it:Addr) (hod:o.data=.dict es ep):Dh P w K tg (Itk d o kvs) [it] it (fun i h=>h.IsKeyIter it d i kvs.length ep) where
 mem:=by simp
 obj:=fun i h st b hb=>by
  have e:b=it:=by simpa using hb
  subst e
  obtain⟨oi,e,c,dd⟩:=st
  exact⟨oi,e,fun v z=>by rw[dd] at z;cases z⟩
 keep:=fun i h h' st k=>st.at fun oi e=>k it (by simp) oi e
 item:=by
  intro X hP hw hK hc i pins s σ H E I hf st hg
  subst hP hw hK
  obtain⟨hd,hi⟩:=hg
  obtain⟨f0,f1,f2,f3,f4,f5⟩:=hf it (by simp)
  obtain⟨hs,hgd,hx,es',ep',vs,hdt,hsz,kv,hm⟩:=I.frzK hd
  obtain⟨rfl,rfl⟩:=IU hod hdt
  obtain⟨⟨k,v⟩,hkv⟩:∃p,kvs[i]?=some p:=⟨kvs[i],BD hi⟩
  obtain⟨u,hu,ru⟩:=Ws kv hkv
  have hl:kvs.length=vs.length:=FU kv
  rw[hl] at st
  refine wpAny_pyNext_dict_item st hm hu fun key h' hkey st' sb=>?_
  have I1:Inv X pins σ H { s with heap:=h' }:=I.turned (t':=s.toks) (fun b ob hb e=>(sb.2 b hb).trans e) f0 f1 f3 f4 f5
  obtain⟨oi,e,c,dd⟩:=id st'
  refine⟨key,rfl,Fo (s:={ s with heap:=h' }) e c dd (by decide) ⟨kV k,H,I1,YJ (show EW k key=true from hkey),⟨rfl,k,v,hkv,rfl⟩,?_,fun b hb=>(hf b hb).1⟩⟩
  show h'.IsKeyIter it d (i+1) kvs.length _
  rw[hl]
  exact st'
 done:=by
  intro X hP hw hK hc i pins s σ H E I hf st hg
  subst hP hw hK
  obtain⟨hd,hi⟩:=hg
  obtain⟨f0,f1,f2,f3,f4,f5⟩:=hf it (by simp)
  obtain⟨hs,hgd,hx,es',ep',vs,hdt,hsz,kv,hm⟩:=I.frzK hd
  obtain⟨rfl,rfl⟩:=IU hod hdt
  exact P1 (I.ok.hd hc) st hgd hdt hsz hi fun h' eb=>⟨rfl,I.turned (t':=s.toks) (fun b ob hb e=>eb b ob hb e) f0 f1 f3 f4 f5⟩
 self:=fun A i s Q E st h=>wpAny_pyIter_keyiter st h
theorem Zk {kvs:List (List Key×V)} (it:Addr) (hod:o.data=.dict es ep):Dh P w K tg (Nk d o kvs) [it] it (fun i h=>h.IsKeyIter it d i kvs.length ep) where
 mem:=by simp
 obj:=fun i h st b hb=>by
  have e:b=it:=by simpa using hb
  subst e
  obtain⟨oi,e,c,dd⟩:=st
  exact⟨oi,e,fun v z=>by rw[dd] at z;cases z⟩
 keep:=fun i h h' st k=>st.at fun oi e=>k it (by simp) oi e
 item:=by
  intro X hP hw hK hc i pins s σ H E I hf st hg
  subst hP hw hK
  obtain⟨hd,hi⟩:=hg
  obtain⟨f0,f1,f2,f3,f4,f5⟩:=hf it (by simp)
  obtain⟨hs,hgd,hx,es',ep',hdt,hsz,ent⟩:=I.frzT hd
  obtain⟨rfl,rfl⟩:=IU hod hdt
  obtain⟨⟨k,v⟩,hkv⟩:∃p,kvs[i]?=some p:=⟨kvs[i],BD hi⟩
  obtain⟨en,q,hen,hkey,hq⟩:=ent i k v hkv
  refine XN st hgd hdt hsz hen fun h' st' sb=>?_
  have I1:Inv X pins σ H { s with heap:=h' }:=I.turned (t':=s.toks) (fun b ob hb e=>(sb.2 b hb).trans e) f0 f1 f3 f4 f5
  obtain⟨oi,e,c,dd⟩:=id st'
  exact⟨en.key,rfl,Fo (s:={ s with heap:=h' }) e c dd (by decide) ⟨.ref q,H,I1,hkey,⟨rfl,k,v,q,hkv,rfl,hq⟩,st',fun b hb=>(hf b hb).1⟩⟩
 done:=by
  intro X hP hw hK hc i pins s σ H E I hf st hg
  subst hP hw hK
  obtain⟨hd,hi⟩:=hg
  obtain⟨f0,f1,f2,f3,f4,f5⟩:=hf it (by simp)
  obtain⟨hs,hgd,hx,es',ep',hdt,hsz,ent⟩:=I.frzT hd
  obtain⟨rfl,rfl⟩:=IU hod hdt
  exact P1 (I.ok.hd hc) st hgd hdt hsz hi fun h' eb=>⟨rfl,I.turned (t':=s.toks) (fun b ob hb e=>eb b ob hb e) f0 f1 f3 f4 f5⟩
 self:=fun A i s Q E st h=>by
  refine U5 st.typeIs UW (Fd UW st.typeIs F.entry_dict_keyiterator_iter ?_ (F.args_dict_keyiterator_iter_1 _))
  show wpAny _ _ (ret (.ref it)) _ _ s
  exact AQ ⟨_,rfl,"dict_keyiterator",_,st.typeIs,Gf.lookup,h⟩
end
def WT (td:TE):TI:=fun σ H R=>td σ H fun x H1=>∃d o,x=.ref d∧((∃kvs,H1 d=some (.frz o (.dK kvs))∧R (Itk d o kvs) H1)∨∃kvs,H1 d=some (.frz o (.dT kvs))∧R (Nk d o kvs) H1)
section
variable {X:Cx}{tg e:Expr}{td:TE}{apos cpos:Pos}
theorem QR (he:PE X e td):PI X tg e (WT td):=by
 intro pins s σ H R I h
 refine thn (he pins s σ H _ I h) fun u s1 ⟨x,H1,I1,rx,d,o,ex,q⟩=>?_
 subst ex
 obtain rfl:u=A0 d:=rx
 rcases q with ⟨kvs,hd,q⟩ | ⟨kvs,hd,q⟩
 ·obtain⟨hs,hgd,hx,es,ep,vs,hdt,hsz,kv,hm⟩:=I1.frzK hd
  refine PR hs hgd hx hdt (HL (tk:=s1.toks) I1 _ (Zj _ hdt) ⟨_,BQ _ rfl,rfl,?_⟩ q)
  rw[hsz] <;> rfl
 ·obtain⟨hs,hgd,hx,es,ep,hdt,hsz,ent⟩:=I1.frzT hd
  refine PR hs hgd hx hdt (HL (tk:=s1.toks) I1 _ (Zk _ hdt) ⟨_,BQ _ rfl,rfl,?_⟩ q)
  rw[hsz] <;> rfl
end
def Ite (K:AA) (a:Addr):It :=
 ⟨fun i H=>∃(xs:List V) (x:V),SqL K H a xs∧xs[i]?=some x,fun i H v H'=>∃T x,v=.ref T∧H T=none∧H'=upd H T (.tup [.int (i:Nat),x])∧∀xs,SqL K H a xs→xs[i]?=some x,fun i H=>∃xs:List V,SqL K H a xs∧xs.length≤i⟩
theorem Zh {P:Program}{w:World}{K:AA}{elts:List Expr}{kk:Nat}{tpos:Pos} (a e it:Addr):
  Dh P w K (.Tuple elts kk tpos) (Ite K a) [e,it] e (fun i h=>(∃old,IsEnum h e it ((i:Nat):Int) old)∧h.IsListIter it a i∧e≠it) where
 mem:=by simp
 obj:=fun i h st b hb=>by
  obtain⟨⟨old,he⟩,⟨o,ho,hc,hd⟩,_⟩:=st
  have e':b=e∨b=it:=by simpa using hb
  rcases e' with z | z
  ·rw[z];exact⟨_,he,fun v q=>nomatch q⟩
  ·rw[z];exact⟨o,ho,fun v q=>by rw[hd] at q;cases q⟩
 keep:=fun i h h' st k=>let ⟨⟨old,he⟩,hi,hne⟩:=st;⟨⟨old,k e (by simp) _ he⟩,hi.at fun o q=>k it (by simp) o q,hne⟩
 item:=by
  intro X hP hw hK hc i pins s σ H E I hf st hg
  subst hP hw hK
  obtain⟨⟨old,he⟩,hit,hne⟩:=st
  obtain⟨xs,x,hq,hx⟩:=hg
  obtain⟨its,rv,p,hz⟩:=I.list hq
  obtain⟨u,hu,ru⟩:=rv.get hx
  have hel:e < s.heap.objs.size:=Aq he
  have hil:it < s.heap.objs.size:=by obtain⟨_,q,_⟩:=hit;exact Aq q
  refine wpAny_pyNext_enum_item he hit p.isList (x:=u) (by simpa using hu) hne fun h' ho hit' hT hsz hk=>?_
  refine⟨_,rfl,U2 (s:={ s with heap:=h',toks:=s.toks+1 }) ho fun h'' he' sb=>?_⟩
  have hT2:h''.get? s.heap.objs.size=some { cls:=.type "tuple",data:=.seq #[.int i s.toks,u] }:=(sb.2 _ (Jy hel)).trans hT
  have new:ObjOk X.prog X.w (upd H s.heap.objs.size (.tup [.int (i:Nat),x])) h'' s.heap.objs.size (.tup [.int (i:Nat),x]) :=
   ⟨by show 2≤sizeLine;decide,[.int i s.toks,u],.cons ⟨_,rfl⟩ (.cons ru .nil),⟨_,hT2,rfl,_,rfl⟩⟩
  have I1:Inv X pins σ (upd H s.heap.objs.size (.tup [.int (i:Nat),x])) { s with heap:=h'',toks:=s.toks+1 } :=
   I.turnedNew (ch:=[e,it]) (fun b ob hb q=>(sb.2 b (fun z=>hb (by simp[z]))).trans (hk b ob (fun z=>hb (by simp[z])) (fun z=>hb (by simp[z])) q)) hf (AV _) new
  refine⟨.ref s.heap.objs.size,_,I1,rfl,⟨_,x,rfl,I.hok.fresh (AV _),rfl,fun ys hy=>by rw[I.list_inj hy hq];exact hx⟩,⟨⟨u,?_⟩,hit'.at fun o q=>(sb.2 it (Ap hne)).trans q,hne⟩,fun b hb=>?_⟩
  ·have e1:((i+1:Nat):Int)=(i:Int)+1:=by omega
   rw[e1];exact he'
  ·have hb':b < s.heap.objs.size:=by
    have e':b=e∨b=it:=by simpa using hb
    rcases e' with z | z
    ·rw[z];exact hel
    ·rw[z];exact hil
   rw[AE (BM hb')]
   exact(hf b hb).1
 done:=by
  intro X hP hw hK hc i pins s σ H E I hf st hg
  subst hP hw hK
  obtain⟨⟨old,he⟩,hit,hne⟩:=st
  obtain⟨xs,hq,hx⟩:=hg
  obtain⟨its,rv,p,hz⟩:=I.list hq
  obtain⟨f0,f1,f2,f3,f4,f5⟩:=hf it (by simp)
  have hl:=rv.length
  exact wpAny_pyNext_enum_end (I.ok.hd hc) he hit p.isList (by simp;omega) fun h' eb=>⟨rfl,I.turned (t':=s.toks) (fun b o hb q=>eb b o hb q) f0 f1 f3 f4 f5⟩
 self:=fun A i s Q E st h=>let ⟨⟨_,he⟩,_⟩:=st;KP he h
def WR (K:AA) (ta:TA):TI:=fun σ H R=>ta σ H fun vs H1=>∃a xs,vs=[.ref a]∧SqL K H1 a xs∧R (Ite K a) H1
theorem QQ {X:Cx}{e:Expr}{ta:TA}{p pos tpos:Pos}{elts:List Expr}{kk:Nat} (hg:Gl X "enumerate") (hm:X.mg "enumerate"=none) (ha:PA X [e] ta) (hs:starEach [e] X.env=[(false,eval e X.env)]:=by rfl):
  PI X (.Tuple elts kk tpos) (.Call (.Name "enumerate" p) [e] [] pos) (WR X.K ta):=by
 intro pins s σ H R I h
 refine Call_ (Fv I hg hm boot_enumerate (Hu (thn (ha pos pins s σ H _ I h) fun us s1 ⟨vs,H1,I1,r1,q1⟩=>?_) hs rfl))
 obtain⟨a,xs,ex,hq,q⟩:=q1
 subst ex
 cases r1 with
 | cons r rr =>
  cases rr
  cases r
  obtain⟨its,rv,p',hz⟩:=I1.list hq
  refine call_enumerate_list p'.isList fun h' he hit hsz hk=>KP he ?_
  have I2:Inv X pins σ H1 { s1 with heap:=h' }:=I1.kept (t':=s1.toks) hk
  refine⟨s1.heap.objs.size+1,[s1.heap.objs.size+1,s1.heap.objs.size],_,_,H1,rfl,I2,Zh a (s1.heap.objs.size+1) s1.heap.objs.size,⟨⟨.none,he⟩,hit,T8 _⟩,fun b hb=>?_,q⟩
  have e':b=s1.heap.objs.size+1∨b=s1.heap.objs.size:=by simpa using hb
  have hle:s1.heap.objs.size≤b:=by
   rcases e' with z | z
   ·rw[z];exact Mx _ _
   ·rw[z];exact AV _
  exact I1.fpOk hle (I1.hok.fresh hle)
end L2
section
namespace Bits
open PySem PyProof.Rows
end Bits
end
section
namespace TL
open PySem PySem.Builtin PySem.Builtin.Str PySem.StrLaws
abbrev tl (x:Str):List Nat:=x.cps.toList
def pre (S l:List Nat):Bool:=l.take S.length==S
def par (S:List Nat):List Nat→List Nat→Option (List Nat×List Nat)
 | _,[]=>none
 | acc,c::r=>if pre S (c::r)=true then some (acc,(c::r).drop S.length) else par S (acc++[c]) r
end TL
end
namespace L2
open PySem PySem.Spec PyProof.Rows
section
variable {X:Cx}{pins:List (Addr×Obj)}{σ:St}{H:Hp}{s:Shared}{Q:VK}
end
section
variable {X:Cx}
end
section
variable {X:Cx}{o e:Expr}{to te:TE}
end
end L2
namespace L2
open PySem PySem.Spec PyProof.Rows
section
variable {X:Cx}
end
end L2
namespace Att
open PySem PySem.W PySem.Calls PyProof.Rows
theorem WY {P:Params}{h:Heap}:∀(ns:List Int) (vs:List Value),WellAll P h vs (ns.map WData.int)→IntsAre vs ns:=by
 intro ns
 induction ns with
 | nil =>
  intro vs w
  rw[FQ] at w
  cases w
  exact .nil
 | cons n ns ih =>
  intro vs w
  rw[Au] at w
  cases w with
  | cons a b =>
   cases a
   exact .cons _ _ (ih _ b)
theorem Yq {l:OpenLaw}{n:Nat} (hn:l.most=some n) {P:Params}{h:Heap}{args:List WData}{vals:List Value}
  (hpre:l.row.toRowW.claim.pre args=true) (hwl:WellAll P h vals args):
  ∃a vs ns,vals=[A0 a]∧args=[WData.list (ns.map WData.int)]∧h.get? a=some { cls:=.type "list",data:=.seq vs.toArray }∧IntsAre vs ns∧ns.length≤n:=by
 have hsh:WShape.hasAll [] args [.list .int]=true:=(pre_splitW hpre).1
 have hc:l.pre.holds [] { args:=args }=true:=(pre_splitW hpre).2
 obtain⟨d,r,rfl,h1,h2⟩:=hasAllW_cons hsh
 obtain rfl:=hasAllW_nil h2
 obtain⟨xs,rfl,h3⟩:=hasW_list h1
 obtain⟨ns,rfl⟩:=items_int h3
 have hlen:ns.length≤n:=by
  unfold OpenLaw.pre at hc
  have h4:(WTm.not (.lt (.lit (.int (n:Int))) (.len (.arg 0)))).holds [] { args:=[.list (ns.map .int)] }=true:=by
   have h4:=(holds_andW hc).1
   rw[hn] at h4
   exact h4
  have h5:=condW_of h4 (w_not (w_lt w_lit (w_len_list (w_arg rfl))))
  rw[AG] at h5
  refine Nat.le_of_not_lt fun q=>?_
  have q':(n:Int) < ((ns.length:Nat):Int):=by omega
  first
   | (rw[decide_eq_true q'] at h5;exact absurd h5 (by decide))
   | (simp at h5;omega)
 cases hwl with
 | cons w1 w2 =>
  cases w2
  cases w1 with
  | list ho hall=>exact⟨_,_,ns,rfl,rfl,ho,WY ns _ hall,hlen⟩
theorem Xx (l:OpenLaw) (args:List WData):l.row.toRowW.claim.post args (.bool true) args=true :=
 postW_of (r:=l.row.toRowW) (X:=(true==true))
  (show WShape.has [] (.bool true) .bool=true by first | rfl | decide | simp[WShape.has,WShape.arms,WShape.armsAll])
  (show(WTm.eq .res (.lit (.bool true))).value [] { args:=args,res:=some (.bool true),after:=args }=some (.bool (true==true)) from w_eq_bool (w_res rfl) w_lit) rfl
theorem attach_call {l:OpenLaw}{n:Nat}{q:Program}{loose:List Str}{XP:(Str→Option Value)→Heap→Prop}{YP:World→Heap→Prop}{d:DefRec}
  (hn:l.most=some n) (hdf:d.params.defaults=[])
  (call:∀(w:World) (s₀ s₁:Shared) (mg mb:Str→Option Value) (fa:Addr) (o:Obj) (pm cd doc:Value) (a:Addr) (vs:List Value) (ns:List Int),
   Ground q loose [] XP w s₀ mg mb s₁.heap→YP w s₁.heap→
   s₁.heap.get? fa=some o→o.data=.func (docDef d.name d.params d.body d.scope pm cd doc)→s₁.heap.CodeRec cd d.name→mg d.name=some (.ref fa)→
   s₁.heap.get? a=some { cls:=.type "list",data:=.seq vs.toArray }→IntsAre vs ns→ns.length≤n→s₁.gens=#[]→
   codeAny (model l.prog w) callerA (.call (.ref fa) ⟨[.ref a],[]⟩) (fun r s'=>r=.ok (.ret (.bool true))∧OldK s₁.heap s'.heap∧s'.os=s₁.os∧AllBare s'.gens) s₁):
  WalkO q loose XP YP l.row.toRowW d [] (fun f vs=>NW f vs):=by
 intro w s₀ s₁ mg mb G Y fa o pm cd doc dV kV ho hd hcd hD hmg hg args vals as hpre hlay hrd hwl hlo
 obtain rfl:dV=.none:=Dflts.none hD hdf
 obtain rfl:kV=.none:=Dflts.noKw hD
 obtain⟨a,vs,ns,rfl,rfl,hobj,hints,hlen⟩:=Yq hn hpre hwl
 refine enter_call (FZ (call w s₀ s₁ mg mb fa o pm cd doc a vs ns G Y ho (fd_plain hd) hcd hmg hobj hints hlen hg) fun r s' hq=>?_)
 obtain⟨rfl,h2,h3,h4⟩:=hq
 exact⟨.inl ⟨.bool true,.bool true,[],rfl,fun _=>rfl,.bool true,Xx l _,fun _=>⟨Th.nil,fun _ hm=>(nomatch hm)⟩⟩,h2,h3,h4⟩
section
variable {prog:Program}{w:World}{A:Around}{E:Value→Shared→Prop}{s:Shared}{K:Frag}
end
end Att
namespace L2
open PySem PySem.Spec PyProof.Rows
theorem TU:∀{vs:List Value}{ns:List Int},IntsAre vs ns→Vals (ns.map V.int) vs
 | _,_,.nil=>.nil
 | _,_,.cons n t h=>.cons ⟨t,rfl⟩ (TU h)
def Kb (H:Hp):Prop:=∀b,H b=none∨∃o xs,H b=some (.frz o (.lst xs))
theorem Wu {P:Program}{w:World}{K:AA}{mg mb:Str→Option Value}{CX:CXT}{k:Nat}{fa a:Addr}{fd:FuncData}{x:Str}{sp:Sp}{s₁:Shared}{vs:List Value}{ns:List Int}
  (KX:K.In s₁.heap) (hns:s₁.heap.Ns mainGlobals mg) (hb:s₁.heap.Ns builtinsNs mb) (hbb:∀x:Str,x≠"__name__"→mb x=bootBuiltins x) (hlim:s₁.heap.NoLimit) (hg:s₁.gens=#[])
  (ha:s₁.heap.get? a=some { cls:=.type "list",data:=.seq vs.toArray }) (hi:IntsAre vs ns) (hl:ns.length≤sizeLine) (hr:Room k callerA)
  (F:∀base:Heap,K.In base→base.Ns mainGlobals mg→FnOk P w K mg base CX k fa fd [x] sp) (hbind:∀(s:Shared) (u:Value),BindsTo s fd ⟨[u],[]⟩ [(x,u)])
  (hsp:∀H:Hp,Kb H→SqL K H a (ns.map V.int)→sp [.ref a] H (fun v _=>v=.bl true) fun _ _ _=>False)
  (hCX:∀H e s',CX [] H s₁ (fun _ _ _=>False) e s'→False):
  codeAny (model P w) callerA (.call (.ref fa) ⟨[.ref a],[]⟩) (fun r s'=>r=.ok (.ret (.bool true))∧OldK s₁.heap s'.heap∧s'.os=s₁.os∧AllBare s'.gens) s₁:=by
 have rv:=TU hi
 have lenV:=hi.length
 have core:∀H:Hp,Kb H→SqL K H a (ns.map V.int)→HOk P w H s₁.heap→(∀b,H b≠none→b=a)→(H a≠none→K.lookup a=none)→
   codeAny (model P w) callerA (.call (.ref fa) ⟨[.ref a],[]⟩) (fun r s'=>r=.ok (.ret (.bool true))∧OldK s₁.heap s'.heap∧s'.os=s₁.os∧AllBare s'.gens) s₁:=by
  intro H hO hS hok hA hK
  have base_of:∀{b:Addr} {o:Obj},s₁.heap.get? b=some o→H b=none→(CH s₁.heap H).get? b=some o:=fun e n=>O4 e n
  have noA:∀{b:Addr} {o:Obj} {es:Array DictEntry} {ep:Nat},s₁.heap.get? b=some o→o.data=.dict es ep→H b=none:=fun {b o es ep} e d=>by
   cases q:H b with
   | none=>rfl
   | some u =>
    have e':b=a:=hA b (by rw[q];simp)
    subst e'
    rw[ha] at e;cases e
    have d':Data.seq vs.toArray _=Data.dict es ep:=d
    cases d'
  have nsK:∀{b:Addr} {m:Str→Option Value},s₁.heap.Ns b m→(CH s₁.heap H).Ns b m:=fun {b m} ⟨o,es,ep,e,d,r⟩=>⟨o,es,ep,base_of e (noA e d),d,r⟩
  have hKb:K.In (CH s₁.heap H):=fun b o e=>base_of (KX b o e) (by
   cases q:H b with
   | none=>rfl
   | some u =>
    have e':b=a:=hA b (by rw[q];simp)
    subst e'
    rw[hK (by rw[q];simp)] at e;cases e)
  have hM:Mod K mg (CH s₁.heap H):=⟨hKb,nsK hns,⟨mb,nsK hb,hbb⟩,let ⟨mc,h1,h2⟩:=hlim;⟨mc,nsK h1,h2⟩⟩
  have e0:Env0 P w K mg (CH s₁.heap H) callerA [] s₁ H:=⟨rfl,hM,fun b o e=>P8 e,Ho (O5 _ _),trivial,fun b hb=>absurd (show b∈([]:List Addr) from hb) (by simp),hok,.of_eq hg⟩
  refine FZ ((F _ hKb (nsK hns)).run callerA [] s₁ H ⟨[.ref a],[]⟩ [.ref a] [.ref a] _ _ hr e0 (hbind s₁ (.ref a)) (.cons rfl .nil) (hsp H hO hS)) fun r s' h=>?_
  cases r with
  | error e=>exact(hCX H e s' h).elim
  | ok fl =>
   cases fl with
   | next=>exact BL h
   | brk=>exact BL h
   | cont=>exact BL h
   | ret u =>
    obtain⟨v,H',os,bare,un,hok',r',q⟩:=h
    have q':v=.bl true:=q
    subst q'
    obtain rfl:u=DN true:=r'
    refine⟨rfl,OldK.of_keep fun b o e=>?_,os,bare⟩
    cases q:H b with
    | none=>exact un.keep b o e q (by intro z;exact absurd (show b∈([]:List Addr) from z) (by simp)) (by simp)
    | some u =>
     rcases hO b with z | ⟨ob,xs,z⟩
     ·rw[q] at z;cases z
     ·have z2:=un.frzs b ob _ z
      obtain⟨e1,_⟩:=hok b _ z
      obtain⟨e2,_⟩:=hok' b _ z2
      rw[e] at e1;cases e1
      exact e2
 cases hk:K.lookup a with
 | some o =>
  have e:=KX a o hk
  rw[ha] at e
  cases e
  refine core (fun _=>none) (fun _=>.inl rfl) (.inr ⟨_,vs.toArray,_,hk,rfl,rfl,rfl,by rw[Bg,lenV];exact hl,by simpa using rv⟩) (fun b u z=>by have z':(none:Option HO)=some u:=z;cases z') (fun b z=>absurd rfl z) fun z=>absurd rfl z
 | none =>
  refine core (fun b=>if b=a then some (.frz { cls:=.type "list",data:=.seq vs.toArray } (.lst (ns.map V.int))) else none) (fun b=>?_) (.inl (.inr ⟨{ cls:=.type "list",data:=.seq vs.toArray },if_pos rfl⟩)) (fun b u z=>?_) (fun b z=>?_) fun _=>hk
  ·by_cases hb:b=a
   ·exact .inr ⟨_,_,if_pos hb⟩
   ·exact .inl (if_neg hb)
  ·by_cases hb:b=a
   ·have z':=(if_pos hb).symm.trans z
    cases z'
    subst hb
    exact⟨ha,by rw[AG];exact hl,vs,_,rv,ha⟩
   ·have z':=(if_neg hb).symm.trans z
    cases z'
  ·by_cases hb:b=a
   ·exact hb
   ·exact absurd (if_neg hb) z
end L2
namespace L2
open PySem PySem.Spec PyProof.Rows
abbrev KOf {K:AA}{h:Heap} (_:K.In h):AA:=K
theorem walk_of {l:PySem.W.OpenLaw}{n k:Nat}{q:Program}{loose:List Str}{XP:(Str→Option Value)→Heap→Prop}{YP:World→Heap→Prop}{d:DefRec}{K:Params→AA}{CX:World→CXT}{sp:World→Sp}{x:Str}
  (hn:l.most=some n) (hn2:n≤sizeLine) (hdf:d.params.defaults=[]) (hr:Room k callerA)
  (hY:∀(w:World) (h:Heap),YP w h→(K w.params).In h)
  (F:∀(w:World) (mg:Str→Option Value) (fa:Addr) (h:Heap),(K w.params).In h→h.Ns mainGlobals mg→mg d.name=some (.ref fa)→
   ∃fd:FuncData,(∀(s:Shared) (u:Value),BindsTo s fd ⟨[u],[]⟩ [(x,u)])∧
    ∀base:Heap,(K w.params).In base→base.Ns mainGlobals mg→FnOk l.prog w (K w.params) mg base (CX w) k fa fd [x] (sp w))
  (hsp:∀(w:World) (H:Hp) (a:Addr) (ns:List Int),ns.length≤n→Kb H→SqL (K w.params) H a (ns.map V.int)→sp w [.ref a] H (fun v _=>v=.bl true) fun _ _ _=>False)
  (hCX:∀(w:World) (H:Hp) (s:Shared) (e:Value) (s':Shared),CX w [] H s (fun _ _ _=>False) e s'→False):
  PySem.W.WalkO q loose XP YP l.row.toRowW d [] (fun f vs=>NW f vs):=by
 refine Att.attach_call hn hdf fun w s₀ s₁ mg mb fa o pm cd doc a vs ns G Y ho hd hcd hmg hobj hints hlen hg=>?_
 have KX:=hY w _ Y
 obtain⟨fd,hb,hF⟩:=F w mg fa _ KX G.T.g hmg
 exact Wu KX G.T.g G.T.b G.T.builtins G.T.nolimit hg hobj hints (Bb hlen hn2) hr hF hb (fun H hO hS=>hsp w H a ns hlen hO hS) fun H e s'=>hCX w H s₁ e s'
end L2
/- THE LAST THEOREM (shape;LID,My.* are yours):
 My.Adr: a structure of the addresses that your layer names (classes,functions);My.Txt K t: a structure (Prop) of the equations over K;
 My.txt_mk:{K} {implicit addresses ..} (e1:nsIn K mainGlobals "law"=some (some (.ref f))) (e2:K.lookup f=some ⟨oc,od,.func (fnOf "law" "law" params body scope dV kV doc pm an cdv ct),sl⟩) (e3:codeIn K cdv "law"=true) ..:∃t,My.Txt K t
set_option maxRecDepth 100000 in
set_option maxHeartbeats 0 in
theorem PySem.Challenge.cw_LID_holds : PySem.Challenge.rw_LID.Holds := by
 w_on;o_law;k_head;(case hw=>w_witness2)
 k_fill
 refine L2.walk_of (l:=PySem.Challenge.rw_LID) (n:=63) (k:=40) (x:="script") (CX:=fun w=>..) (sp:=fun _=>My.sp_law) rfl (by decide) rfl ⟨rfl,by decide,by decide⟩ (fun w h Y=>PySem.W.kIn_of Y) ?F ?S ?C
 case F =>
  intro w mg fa h KX G hmg
  have T:∃t,My.Txt (L2.KOf KX) t:=by
   dsimp only [L2.KOf]                          -- K must stand as «<heap const> w.params» for k_is
   refine' My.txt_mk ?e1 ?e2 ?e3 ..
   (case e1=>PySem.W.k_is)                    -- in the order: a name -> its address -> its object -> its parts
   (case e2=>PySem.W.k_is)
   ..
  obtain⟨t,T⟩:=T
  have e0:=hmg.symm.trans (FY KX G T.law)
  cases e0                                       -- fa is the law's own address
  exact⟨_,fun s u=>.of_eq rfl,fun base kb nb=>My.law_fn T kb nb⟩     -- if «.of_eq rfl» comes too early: refine' ⟨_,?b,fun base kb nb=>My.law_fn T kb nb⟩;exact fun s u=>.of_eq rfl
 case S=>exact fun w H a ns hl hO hS=>..
 case C=>exact ..
(the tactic k_is has no namespace: write k_is) -/
namespace L2
open PySem PySem.Spec PyProof.Rows
def Dj (s:Stmt) (j:Nat):Stmt:=match s with
 | .ClassDef _ _ _ body _ _ _ _ _ _ _=>body.getD j (.Pass ⟨0,0,0,0⟩)
 | _=>.Pass ⟨0,0,0,0⟩
def CG (s:Stmt):Arguments:=match s with
 | .FunctionDef _ a _ _ _ _ _ _ _ _=>a
 | _=>{ posonlyargs:=[],args:=[],vararg:=none,kwonlyargs:=[],kw_defaults:=[],kwarg:=none,defaults:=[] }
def Bm (s:Stmt):List Stmt:=match s with
 | .FunctionDef _ _ b _ _ _ _ _ _ _=>b
 | _=>[]
def AK (s:Stmt):Scope:=match s with
 | .FunctionDef _ _ _ _ _ _ sc _ _ _=>sc
 | _=>{ kind:=.function,names:=[],isGenerator:=false,isCoroutine:=false }
abbrev CX0:CXT:=fun _ _ _ _ _ _=>False
abbrev E0:XK:=fun _ _ _=>False
theorem F3 {X:Cx}:Ey CX0 X E0:=fun _ _ _ _ _ _ _ h=>h.elim
structure Fun (K:AA) (x qual:Str) (st:Stmt) (f:Addr) (fd:FuncData):Prop where
 ex:∃(oc:Value) (od:Option Addr) (kV doc pm:Value) (an:Option Addr) (cdv ct:Value) (osl:Array (Option Value)),
  fd=Gj x qual (CG st) (Bm st) (AK st) .none kV doc pm an cdv ct∧K.lookup f=some ⟨oc,od,.func fd,osl⟩∧NN K cdv qual=true
 kp:FX K (.ref f)=true
section
variable {P:Program}{w:World}{K:AA}{mg:Str→Option Value}{base:Heap}
theorem Fun.ok {x qual:Str}{st:Stmt}{f:Addr}{fd:FuncData}{N ps:List Str}{k:Nat}{sp:Sp} (F:Fun K x qual st f fd) (S:AY N ps (AK st)) (len:∀vs H Q E,sp vs H Q E→vs.length=ps.length)
  (hbody:∀(cdv:Value) (A:Around) (outer:List Env) (s:Shared) (H:Hp) (vs:List V) (Q:VK) (E:XK),Room k (A.deeper (envOfC qual (AK st) s.heap.objs.size f cdv))→sp vs H Q E→
   ∃t,PSs (Di CX0 P w K mg base N qual (AK st) f cdv A outer s H E).nox (Bm st) t∧t { nx:=fun _ H'=>Q .non H',rt:=Q } (start N vs) H):FnOk P w K mg base CX0 (k+1) f fd ps sp:=by
 obtain⟨oc,od,kV,doc,pm,an,cdv,ct,osl,rfl,lk,hcd⟩:=F.ex
 refine Oh lk hcd S len fun A outer s H vs Q E hr hsp=>?_
 obtain⟨t,h,q⟩:=hbody cdv A outer s H vs Q E hr hsp
 exact⟨t,h.nox,q⟩
theorem Fun.binds {x qual:Str}{st:Stmt}{f:Addr}{fd:FuncData}{ps:List Str} (F:Fun K x qual st f fd)
  (h:∀(kV doc pm:Value) (an:Option Addr) (cdv ct:Value) (us:List Value),us.length=ps.length→bindArgs (Gj x qual (CG st) (Bm st) (AK st) .none kV doc pm an cdv ct) ⟨us,[]⟩=pure (ps.zip us)):Binds K fd ps []:=by
 obtain⟨oc,od,kV,doc,pm,an,cdv,ct,osl,rfl,lk,hcd⟩:=F.ex
 exact .all (h kV doc pm an cdv ct)
theorem Fn {x qual:Str}{st:Stmt}{f:Addr}{oc:Value}{od an:Option Addr}{osl:Array (Option Value)}{kV doc pm cdv ct:Value} (l:K.lookup f=some ⟨oc,od,.func (Gj x qual (CG st) (Bm st) (AK st) .none kV doc pm an cdv ct),osl⟩)
 (c:NN K cdv qual=true) (k:FX K (.ref f)=true):Fun K x qual st f (Gj x qual (CG st) (Bm st) (AK st) .none kV doc pm an cdv ct):=⟨⟨oc,od,kV,doc,pm,an,cdv,ct,osl,rfl,l,c⟩,k⟩
end
theorem E5 {A:Around}{k:Nat} (hr:Room k A):A.units+1 < cLine:=Nat.lt_of_le_of_lt (Mw (by decide:1≤64) _) hr.units
section
variable {X:Cx}
theorem pv (i:Nat) {x:Str}{pos:Pos} (hN:X.N[i]?=some x:=by rfl) (hv:Vis X.env.scope x:=by first | exact AZ rfl | exact Df (AZ rfl) | exact Df (Df rfl)) (hd:(x==("__debug__":Str))=false:=by decide)
 (hcd:(x==("__classdict__":Str))=false:=by decide):PE X (.Name x pos) (Eh i):=QP hN hv hd hcd
end
theorem Ik {A B:Prop} (h:B):if false=true then A else B:=by
 rw[if_neg Af]
 exact h
theorem PM {A B:Prop} (h:A):if true=true then A else B:=by
 rw[if_pos rfl]
 exact h
theorem ET {c A B:Prop} [Decidable c] (h1:c→A) (h2:¬c→B):if c then A else B:=by
 by_cases h:c
 ·rw[if_pos h]
  exact h1 h
 ·rw[if_neg h]
  exact h2 h
theorem Wc {c A B:Prop} [Decidable c] (hc:c) (h:B):if (!decide c)=true then A else B:=by
 rw[decide_eq_true hc]
 exact Ik h
def Same (H H':Hp):Prop:=∀b o,H b=some o→H' b=some o
theorem Same.refl (H:Hp):Same H H:=fun _ _ h=>h
theorem Same.trans {H H1 H2:Hp} (a:Same H H1) (b:Same H1 H2):Same H H2:=fun c o h=>b c o (a c o h)
theorem Same.free {H H':Hp} (e:Same H H') {l:Addr} (h:H' l=J3):H l=J3:=by
 cases q:H l with
 | none=>rfl
 | some o =>
  rw[e l o q] at h
  cases h
theorem Same.seq {K:AA}{H H':Hp}{a:Addr}{xs:List V} (e:Same H H') (h:SqL K H a xs):SqL K H' a xs:=by
 rcases h with (h | ⟨o,h⟩) | h
 ·exact .inl (.inl (e _ _ h))
 ·exact .inl (.inr ⟨o,e _ _ h⟩)
 ·exact .inr h
section
variable {κ:Type} [DecidableEq κ]
end
theorem VM {xs:List V}{z:Int}{j:Nat}{v:V} (e:z=(j:Int)) (h:xs[j]?=some v):atI xs z=some v:=by
 rw[e]
 exact Bx h
theorem XH {α:Type}{l:List α} (hN:l.Nodup) {i j:Nat}{x:α} (a:l[i]?=some x) (b:l[j]?=some x):i=j:=by
 obtain⟨h1,e1⟩:=Bf.mp a
 obtain⟨h2,e2⟩:=Bf.mp b
 exact(Tw hN).mp (e1.trans e2.symm)
theorem Same.made {H H1:Hp}{x dx C:Addr} (nx:H x=J3) (nd:H dx=J3) (k:∀b o,(upd (upd H dx (.own x)) x (.ins C dx [])) b=some o→b≠x→H1 b=some o):Same H H1:=fun b o e =>
 k b o (by rw[AE (Am e nx),AE (Am e nd)];exact e) (Am e nx)
end L2
set_option maxHeartbeats 2000000
namespace L2
open PySem PySem.Spec PyProof.Rows
open PySem.W (WData Codec OpenSpec Well WellAll ReadsW ReadsAllW)
mutual
inductive Dw (K:AA) (H:Hp):V→WData→Prop
 | non:Dw K H .non .none
 | bl (b:Bool):Dw K H (.bl b) (.bool b)
 | int (i:Int):Dw K H (.int i) (.int i)
 | str (x:Str):Dw K H (.str x) (.str x)
 | byt (b:Array UInt8):Dw K H (.byt b) (.bytes b.toList)
 | lst {a:Addr} {xs:List V} {ds:List WData}:SqL K H a xs→Cv K H xs ds→Dw K H (.ref a) (.list ds)
 | tup {a:Addr} {xs:List V} {ds:List WData}:SqT K H a xs→Cv K H xs ds→Dw K H (.ref a) (.tuple ds)
inductive Cv (K:AA) (H:Hp):List V→List WData→Prop
 | nil:Cv K H [] []
 | cons {v:V} {vs:List V} {d:WData} {ds:List WData}:Dw K H v d→Cv K H vs ds→Cv K H (v::vs) (d::ds)
end
theorem dw_ints {K:AA}{H:Hp}:∀ns:List Int,Cv K H (ns.map V.int) (ns.map WData.int)
 | []=>.nil
 | n::r=>.cons (.int n) (dw_ints r)
theorem ints_dw {K:AA}{H:Hp}:∀(ns:List Int) (xs:List V),Cv K H xs (ns.map WData.int)→xs=ns.map V.int
 | [],xs,h=>by
  cases h
  rfl
 | n::r,xs,h=>by
  cases h with
  | cons h1 h2 =>
   cases h1
   rw[ints_dw r _ h2] <;> rfl
section
variable {P:Program}{w:World}{K:AA}{H:Hp}{h:Heap}{R:Um}{cl:Str→Option Addr}
theorem Y3 {a:Addr}{xs:List V} (hok:HOk P w H h) (KX:K.In h) (q:SqL K H a xs):∃(its:List Value) (o:Obj) (n:Nat),Vals xs its∧h.get? a=some o∧o.cls=.type "list"∧o.data=.seq its.toArray n:=by
 rcases q with q | ⟨o,its,n,e,hc,_,hd,_,hv⟩
 ·obtain⟨_,its,n,hv,e⟩:=(show ObjOk P w H h a (.lst xs) from q.ok hok)
  exact⟨its,_,n,hv,e,rfl,rfl⟩
 ·exact⟨its.toList,o,n,hv,KX _ _ e,hc,by simp[hd]⟩
theorem Y4 {a:Addr}{xs:List V} (hok:HOk P w H h) (KX:K.In h) (q:SqT K H a xs):∃(its:List Value) (o:Obj) (n:Nat),Vals xs its∧h.get? a=some o∧o.cls=.type "tuple"∧o.data=.seq its.toArray n:=by
 rcases q with q | ⟨o,its,n,e,hc,hd,_,hv⟩
 ·obtain⟨_,its,hv,o,e,hc,n,hd⟩:=(show ObjOk P w H h a (.tup xs) from q.ok hok)
  exact⟨its,o,n,hv,e,hc,hd⟩
 ·exact⟨its.toList,o,n,hv,KX _ _ e,hc,by simp[hd]⟩
mutual
theorem Dw.reads (hok:HOk P w H h) (KX:K.In h):∀(d:WData) (v:V) (u:Value),Dw K H v d→RelV v u→∃as,ReadsW R cl h u d as
 | .none,_,_,x,r=>by
  cases x
  cases r
  exact⟨_,ReadsW.none⟩
 | .bool b,_,_,x,r=>by
  cases x
  cases r
  exact⟨_,ReadsW.bool b⟩
 | .int i,_,_,x,r=>by
  cases x
  obtain⟨t,rfl⟩:=r
  exact⟨_,ReadsW.int i t⟩
 | .str s,_,_,x,r=>by
  cases x
  obtain⟨t,rfl⟩:=r
  exact⟨_,ReadsW.str s t⟩
 | .bytes b,_,_,x,r=>by
  cases x
  obtain⟨t,rfl⟩:=r
  exact⟨_,ReadsW.bytes _ t⟩
 | .list ds,_,_,x,r=>by
  cases x with
  | lst hs ha =>
   cases r
   obtain⟨its,o,n,rv,ho,hc,hd⟩:=Y3 hok KX hs
   obtain⟨as,hr⟩:=Dw.readsAll hok KX ds _ its ha rv
   exact⟨_,ReadsW.list ho hc hd hr⟩
 | .tuple ds,_,_,x,r=>by
  cases x with
  | tup hs ha =>
   cases r
   obtain⟨its,o,n,rv,ho,hc,hd⟩:=Y4 hok KX hs
   obtain⟨as,hr⟩:=Dw.readsAll hok KX ds _ its ha rv
   exact⟨_,ReadsW.tuple ho hc hd hr⟩
 | .float _,_,_,x,_=>by cases x
 | .dict _,_,_,x,_=>by cases x
 | .bytearray _,_,_,x,_=>by cases x
 | .set _,_,_,x,_=>by cases x
 | .frozenset _,_,_,x,_=>by cases x
 | .obj _ _,_,_,x,_=>by cases x
theorem Dw.readsAll (hok:HOk P w H h) (KX:K.In h):∀(ds:List WData) (vs:List V) (us:List Value),Cv K H vs ds→Vals vs us→∃as,ReadsAllW R cl h us ds as
 | [],_,_,x,r=>by
  cases x
  cases r
  exact⟨_,ReadsAllW.nil⟩
 | d::ds,_,_,x,r=>by
  cases x with
  | cons h1 h2 =>
   cases r with
   | cons r1 r2 =>
    obtain⟨as,q1⟩:=Dw.reads hok KX d _ _ h1 r1
    obtain⟨bs,q2⟩:=Dw.readsAll hok KX ds _ _ h2 r2
    exact⟨_,ReadsAllW.cons q1 q2⟩
end
end
mutual
def plW:WData→Bool
 | .none=>true
 | .bool _=>true
 | .int _=>true
 | .str _=>true
 | .bytes _=>true
 | .list xs=>DG xs
 | .tuple xs=>DG xs
 | _=>false
def DG:List WData→Bool
 | []=>true
 | x::r=>plW x&&DG r
end
theorem QS {α:Type}{f:α→WData} (h:∀a,plW (f a)=true):∀l:List α,DG (l.map f)=true
 | []=>rfl
 | x::r=>by
  show(plW (f x)&&DG (r.map f))=true
  rw[h x,QS h r] <;> rfl
theorem Ee:∀(c:Codec) (a:c.denote),plW (c.enc a)=true
 | .unit,_=>rfl
 | .bool,_=>rfl
 | .int _ _,_=>rfl
 | .nat _ _,_=>rfl
 | .u8,_=>rfl
 | .bytes _ _,_=>rfl
 | .text _ _ _ _,_=>rfl
 | .list _ _ c,a=>QS (fun x=>Ee c x) a
 | .pair c d,a=>by
  show(plW (c.enc a.1)&&(plW (d.enc a.2)&&true))=true
  rw[Ee c a.1,Ee d a.2] <;> rfl
 | .triple c d e,a=>by
  show(plW (c.enc a.1)&&(plW (d.enc a.2.1)&&(plW (e.enc a.2.2)&&true)))=true
  rw[Ee c a.1,Ee d a.2.1,Ee e a.2.2] <;> rfl
 | .option c,none=>rfl
 | .option c,some x=>Ee c x
theorem QT:∀(cs:List Codec) (a:Codec.denoteAll cs),DG (Codec.encAll cs a)=true
 | [],_=>rfl
 | c::cs,a=>by
  show(plW (c.enc a.1)&&DG (Codec.encAll cs a.2))=true
  rw[Ee c a.1,QT cs a.2] <;> rfl
theorem MP:∀{xs:List WData}{d:WData},d∈xs→d.weight≤WData.weightAll xs
 | [],d,h=>absurd h (by simp)
 | x::r,d,h=>by
  show d.weight≤x.weight+1+WData.weightAll r
  rcases AS.mp h with e | m
  ·rw[e]
   omega
  ·have z:=MP m
   omega
def toV:Value→V
 | .none=>.non
 | .bool b=>.bl b
 | .int i _=>.int i
 | .str x _=>.str x
 | .bytes b _=>.byt b
 | .ref a=>.ref a
 | _=>.non
def OkU (A:List Addr):Value→Prop
 | .none=>True
 | .bool _=>True
 | .int _ _=>True
 | .str _ _=>True
 | .bytes _ _=>True
 | .ref a=>a∈A
 | _=>False
theorem OkU.mono {A B:List Addr} (h:∀a∈A,a∈B):∀{u:Value},OkU A u→OkU B u:=fun {u} x=>by
 cases u with
 | ref a=>exact h a x
 | none=>trivial
 | bool b=>trivial
 | int i t=>trivial
 | str s t=>trivial
 | bytes b t=>trivial
 | _=>exact BL x
theorem YK {A:List Addr}{u:Value} (x:OkU A u):RelV (toV u) u:=by
 cases u with
 | ref a=>rfl
 | none=>rfl
 | bool b=>rfl
 | int i t=>exact⟨t,rfl⟩
 | str s t=>exact⟨t,rfl⟩
 | bytes b t=>exact⟨t,rfl⟩
 | _=>exact BL x
theorem GO {A:List Addr}:∀{vs:List Value},(∀u∈vs,OkU A u)→Vals (vs.map toV) vs
 | [],_=>.nil
 | u::r,h=>.cons (YK (h u (AU ..))) (GO fun x hx=>h x (Ao _ hx))
def ArgOb (h:Heap) (A:List Addr) (a:Addr):Prop:=∃vs:List Value,vs.length≤sizeLine∧(∀u∈vs,OkU A u)∧
 (h.get? a=some { cls:=.type "list",data:=.seq vs.toArray }∨h.get? a=some { cls:=.type "tuple",data:=.seq vs.toArray })
theorem ArgOb.mono {h:Heap}{A B:List Addr}{a:Addr} (k:∀a∈A,a∈B) (x:ArgOb h A a):ArgOb h B a:=by
 obtain⟨vs,h1,h2,h3⟩:=x
 exact⟨vs,h1,fun u hu=>(h2 u hu).mono k,h3⟩
theorem JU {P:Params}{h:Heap}:∀{vs:List Value}{ds:List WData},WellAll P h vs ds→vs.length=ds.length
 | _,_,.nil=>rfl
 | _,_,.cons _ b=>by
  show _+1=_+1
  rw[JU b]
theorem TY {P:Params}{h:Heap}{v:Value}{ds:List WData} (x:Well P h v (.list ds)):∃(a:Addr) (vs:List Value),v=.ref a∧h.get? a=some { cls:=.type "list",data:=.seq vs.toArray }∧WellAll P h vs ds:=by
 cases x with
 | list ho hall=>exact⟨_,_,rfl,ho,hall⟩
theorem TZ {P:Params}{h:Heap}{v:Value}{ds:List WData} (x:Well P h v (.tuple ds)):∃(a:Addr) (vs:List Value),v=.ref a∧h.get? a=some { cls:=.type "tuple",data:=.seq vs.toArray }∧WellAll P h vs ds:=by
 cases x with
 | tuple ho hall=>exact⟨_,_,rfl,ho,hall⟩
theorem TX {P:Params}{h:Heap}{us:List Value}{d:WData}{ds:List WData} (x:WellAll P h us (d::ds)):∃(v:Value) (vs:List Value),us=v::vs∧Well P h v d∧WellAll P h vs ds:=by
 cases x with
 | cons a b=>exact⟨_,_,rfl,a,b⟩
theorem Pk {n:Nat} (h:n≤1048576):n≤sizeLine:=Bb h (by decide)
section
variable {P:Params}{h:Heap}
mutual
theorem VG:∀(d:WData) (v:Value),Well P h v d→plW d=true→d.weight≤1048576→∃A:List Addr,OkU A v∧∀a∈A,ArgOb h A a
 | .none,_,x,_,_=>by
  cases x
  exact⟨[],trivial,fun a m=>absurd m (by simp)⟩
 | .bool b,_,x,_,_=>by
  cases x
  exact⟨[],trivial,fun a m=>absurd m (by simp)⟩
 | .int i,_,x,_,_=>by
  cases x
  exact⟨[],trivial,fun a m=>absurd m (by simp)⟩
 | .str s,_,x,_,_=>by
  cases x
  exact⟨[],trivial,fun a m=>absurd m (by simp)⟩
 | .bytes b,_,x,_,_=>by
  cases x
  exact⟨[],trivial,fun a m=>absurd m (by simp)⟩
 | .list ds,_,x,p,z=>by
  obtain⟨a,vs,rfl,ho,hall⟩:=TY x
  have z2:WData.weightAll ds≤1048576:=z
  obtain⟨A,h1,h2⟩:=ID ds _ hall p fun d hd=>Bb (MP hd) z2
  have k:∀b∈A,b∈a::A:=fun b hb=>Ao _ hb
  refine⟨a::A,AU ..,fun b hb=>?_⟩
  rcases AS.mp hb with e | m
  ·rw[e]
   exact⟨vs,Pk (by rw[JU hall];exact Bb (Uq ds) z2),fun u hu=>(h1 u hu).mono k,.inl ho⟩
  ·exact(h2 b m).mono k
 | .tuple ds,_,x,p,z=>by
  obtain⟨a,vs,rfl,ho,hall⟩:=TZ x
  have z2:WData.weightAll ds≤1048576:=z
  obtain⟨A,h1,h2⟩:=ID ds _ hall p fun d hd=>Bb (MP hd) z2
  have k:∀b∈A,b∈a::A:=fun b hb=>Ao _ hb
  refine⟨a::A,AU ..,fun b hb=>?_⟩
  rcases AS.mp hb with e | m
  ·rw[e]
   exact⟨vs,Pk (by rw[JU hall];exact Bb (Uq ds) z2),fun u hu=>(h1 u hu).mono k,.inr ho⟩
  ·exact(h2 b m).mono k
 | .float _,_,_,p,_=>C4 (show false=true from p)
 | .dict _,_,_,p,_=>C4 (show false=true from p)
 | .bytearray _,_,_,p,_=>C4 (show false=true from p)
 | .set _,_,_,p,_=>C4 (show false=true from p)
 | .frozenset _,_,_,p,_=>C4 (show false=true from p)
 | .obj _ _,_,_,p,_=>C4 (show false=true from p)
theorem ID:∀(ds:List WData) (vs:List Value),WellAll P h vs ds→DG ds=true→(∀d∈ds,d.weight≤1048576)→∃A:List Addr,(∀u∈vs,OkU A u)∧∀a∈A,ArgOb h A a
 | [],_,x,_,_=>by
  cases x
  exact⟨[],fun u m=>absurd m (by simp),fun a m=>absurd m (by simp)⟩
 | d::ds,_,x,p,z=>by
  obtain⟨v,vs,rfl,x1,x2⟩:=TX x
  have q:plW d=true∧DG ds=true:=JW.mp p
  obtain⟨A,a1,a2⟩:=VG d v x1 q.1 (z d (AU ..))
  obtain⟨B,b1,b2⟩:=ID ds vs x2 q.2 fun e he=>z e (Ao _ he)
  have kA:∀b∈A,b∈A++B:=fun b hb=>C9.mpr (.inl hb)
  have kB:∀b∈B,b∈A++B:=fun b hb=>C9.mpr (.inr hb)
  refine⟨A++B,fun u hu=>?_,fun b hb=>?_⟩
  ·rcases AS.mp hu with e | m
   ·rw[e]
    exact a1.mono kA
   ·exact(b1 u m).mono kB
  ·rcases C9.mp hb with m | m
   ·exact(a2 b m).mono kA
   ·exact(b2 b m).mono kB
end
end
def Ih (o:Obj):Option HO:=match o.data with
 | .seq vs _=>if (o.cls==D0 "list")=true then some (.frz o (.lst (vs.toList.map toV))) else some (.frz o (.tup (vs.toList.map toV)))
 | _=>none
def Bs (K:AA) (h:Heap) (A:List Addr):Hp:=fun b=>if b∈A then (if (K.lookup b).isNone=true then (h.get? b).bind Ih else none) else none
theorem O7 (vs:List Value):Ih { cls:=.type "list",data:=.seq vs.toArray }=some (.frz { cls:=.type "list",data:=.seq vs.toArray } (.lst (vs.map toV))):=by
 show(if (D0 "list"==D0 "list")=true then some (HO.frz { cls:=.type "list",data:=.seq vs.toArray } (.lst (vs.toArray.toList.map toV))) else some (HO.frz { cls:=.type "list",data:=.seq vs.toArray } (.tup (vs.toArray.toList.map toV))))=_
 rw[if_pos (beq_self_eq_true _)]
theorem O8 (vs:List Value):Ih { cls:=.type "tuple",data:=.seq vs.toArray }=some (.frz { cls:=.type "tuple",data:=.seq vs.toArray } (.tup (vs.map toV))):=by
 show(if (D0 "tuple"==D0 "list")=true then some (HO.frz { cls:=.type "tuple",data:=.seq vs.toArray } (.lst (vs.toArray.toList.map toV))) else some (HO.frz { cls:=.type "tuple",data:=.seq vs.toArray } (.tup (vs.toArray.toList.map toV))))=_
 rw[if_neg (by decide)]
section
variable {P:Program}{w:World}{K:AA}{h:Heap}{A:List Addr}
theorem IE {b:Addr}{o:Obj} (hb:b∈A) (hk:K.lookup b=none) (e:h.get? b=some o):Bs K h A b=Ih o:=by
 unfold Bs
 rw[if_pos hb,hk,if_pos (show(none:Option Obj).isNone=true from rfl),e] <;> rfl
theorem XS {b:Addr}{u:HO} (q:Bs K h A b=some u):b∈A∧K.lookup b=none:=by
 unfold Bs at q
 by_cases hb:b∈A
 ·rw[if_pos hb] at q
  cases hk:K.lookup b with
  | none=>exact⟨hb,rfl⟩
  | some o =>
   rw[hk,if_neg (by simp)] at q
   cases q
 ·rw[if_neg hb] at q
  cases q
theorem Kf (ar : ∀ a ∈ A, ArgOb h A a) {b : Addr} {u : HO} (q : Bs K h A b = some u) : K.lookup b = none ∧ ∃ vs : List Value, vs.length ≤ sizeLine ∧ (∀ u ∈ vs, OkU A u) ∧
    ((h.get? b = some { cls := .type "list", data := .seq vs.toArray } ∧ u = .frz { cls := .type "list", data := .seq vs.toArray } (.lst (vs.map toV))) ∨
     (h.get? b = some { cls := .type "tuple", data := .seq vs.toArray } ∧ u = .frz { cls := .type "tuple", data := .seq vs.toArray } (.tup (vs.map toV)))) := by
  obtain ⟨hb, hk⟩ := XS q
  obtain ⟨vs, h1, h2, h3⟩ := ar b hb
  refine ⟨hk, vs, h1, h2, ?_⟩
  rcases h3 with e | e
  · rw [IE hb hk e, O7] at q
    exact .inl ⟨e, (Ae q).symm⟩
  · rw [IE hb hk e, O8] at q
    exact .inr ⟨e, (Ae q).symm⟩
theorem VH (ar:∀a∈A,ArgOb h A a):HOk P w (Bs K h A) h:=fun b u q=>by
 obtain⟨_,vs,h1,h2,⟨e,rfl⟩ | ⟨e,rfl⟩⟩:=Kf ar q
 ·exact⟨e,by rw[AG];exact h1,vs,_,GO h2,e⟩
 ·exact⟨e,by rw[AG];exact h1,vs,GO h2,_,e,rfl,_,rfl⟩
theorem JK {c c':Value}{vs us:List Value} (e:(some { cls:=c,data:=.seq vs.toArray }:Option Obj)=some { cls:=c',data:=.seq us.toArray }):c=c'∧vs=us:=by
 have e1:=Ae e
 have e2:c=c':=congrArg Obj.cls e1
 have e3:Data.seq vs.toArray=Data.seq us.toArray:=congrArg Obj.data e1
 injection e3 with e4
 refine⟨e2,?_⟩
 have e5:=congrArg MU e4
 simpa using e5
theorem VI (KX:K.In h) (ar:∀a∈A,ArgOb h A a) {a:Addr}{vs:List Value} (ha:a∈A) (e:h.get? a=some { cls:=.type "list",data:=.seq vs.toArray }):(∀u∈vs,OkU A u)∧SqL K (Bs K h A) a (vs.map toV):=by
 obtain⟨us,h1,h2,h3⟩:=ar a ha
 have hu:us=vs:=by
  rcases h3 with q | q
  ·rw[e] at q
   exact(JK q).2.symm
  ·rw[e] at q
   exact absurd (D0.inj (JK q).1) (by decide)
 subst hu
 refine⟨h2,?_⟩
 cases hk:K.lookup a with
 | none=>exact .inl (.inr ⟨_,by rw[IE ha hk e,O7]⟩)
 | some o =>
  have e2:=KX a o hk
  rw[e] at e2
  obtain rfl:=Ae e2
  exact .inr ⟨_,us.toArray,_,hk,rfl,rfl,rfl,by rw[Bg];exact h1,by simpa using GO h2⟩
theorem VJ (KX:K.In h) (ar:∀a∈A,ArgOb h A a) {a:Addr}{vs:List Value} (ha:a∈A) (e:h.get? a=some { cls:=.type "tuple",data:=.seq vs.toArray }):(∀u∈vs,OkU A u)∧SqT K (Bs K h A) a (vs.map toV):=by
 obtain⟨us,h1,h2,h3⟩:=ar a ha
 have hu:us=vs:=by
  rcases h3 with q | q
  ·rw[e] at q
   exact absurd (D0.inj (JK q).1) (by decide)
  ·rw[e] at q
   exact(JK q).2.symm
 subst hu
 refine⟨h2,?_⟩
 cases hk:K.lookup a with
 | none=>exact .inl (.inr ⟨_,by rw[IE ha hk e,O8]⟩)
 | some o =>
  have e2:=KX a o hk
  rw[e] at e2
  obtain rfl:=Ae e2
  exact .inr ⟨_,us.toArray,_,hk,rfl,rfl,by rw[Bg];exact h1,by simpa using GO h2⟩
mutual
theorem V0 {Pm:Params} (KX:K.In h) (ar:∀a∈A,ArgOb h A a):∀(d:WData) (v:Value),Well Pm h v d→plW d=true→OkU A v→Dw K (Bs K h A) (toV v) d
 | .none,_,x,_,_=>by
  cases x
  exact .non
 | .bool b,_,x,_,_=>by
  cases x
  exact .bl b
 | .int i,_,x,_,_=>by
  cases x
  exact .int i
 | .str s,_,x,_,_=>by
  cases x
  exact .str s
 | .bytes b,_,x,_,_=>by
  cases x
  have z:=Dw.byt (K:=K) (H:=Bs K h A) b.toArray
  exact z
 | .list ds,_,x,p,hu=>by
  obtain⟨a,vs,rfl,ho,hall⟩:=TY x
  obtain⟨h2,hs⟩:=VI KX ar hu ho
  exact .lst hs (IW KX ar ds _ hall p h2)
 | .tuple ds,_,x,p,hu=>by
  obtain⟨a,vs,rfl,ho,hall⟩:=TZ x
  obtain⟨h2,hs⟩:=VJ KX ar hu ho
  exact .tup hs (IW KX ar ds _ hall p h2)
 | .float _,_,_,p,_=>C4 (show false=true from p)
 | .dict _,_,_,p,_=>C4 (show false=true from p)
 | .bytearray _,_,_,p,_=>C4 (show false=true from p)
 | .set _,_,_,p,_=>C4 (show false=true from p)
 | .frozenset _,_,_,p,_=>C4 (show false=true from p)
 | .obj _ _,_,_,p,_=>C4 (show false=true from p)
theorem IW {Pm:Params} (KX:K.In h) (ar:∀a∈A,ArgOb h A a):∀(ds:List WData) (vs:List Value),WellAll Pm h vs ds→DG ds=true→(∀u∈vs,OkU A u)→Cv K (Bs K h A) (vs.map toV) ds
 | [],_,x,_,_=>by
  cases x
  exact .nil
 | d::ds,_,x,p,hu=>by
  obtain⟨v,vs,rfl,x1,x2⟩:=TX x
  have q:plW d=true∧DG ds=true:=JW.mp p
  exact .cons (V0 KX ar d v x1 q.1 (hu _ (AU ..))) (IW KX ar ds vs x2 q.2 fun u m=>hu u (Ao _ m))
end
end
theorem Wv {ds:List WData} (h:WData.layableAll ds=true):∀d∈ds,d.weight≤1048576:=fun d hd =>
 (PySem.W.layableW_iff.mp (Cg.mp h d hd)).2.2
theorem OR:∀(cs:List Codec) (a:Codec.denoteAll cs),(Codec.encAll cs a).length=cs.length
 | [],_=>rfl
 | c::cs,a=>by
  show(Codec.encAll cs a.2).length+1=cs.length+1
  rw[OR cs a.2]
end L2
end
section
set_option maxRecDepth 100000
namespace Fm
open Flags
theorem HW {α:Type}{f g:α→Nat}:∀{l:List α},(∀x∈l,f x≤g x)→(l.map f).sum≤(l.map g).sum
 | [],_=>AV _
 | a::l,h=>by
  have h1:=h a AU
  have h2:=HW (l:=l) fun x hx=>h x (Ao _ hx)
  simp only[Au,Dv]
  omega
theorem sum_eq {α:Type}{f g:α→Nat}{l:List α} (h:∀x∈l,f x=g x):(l.map f).sum=(l.map g).sum:=by
 rw[DM h]
theorem GI {α:Type}:∀l:List α,(l.map fun _=>0).sum=0
 | []=>rfl
 | a::l=>by
  have:=GI l
  simp only[Au,Dv]
  omega
theorem S3 {α:Type} (p:α→Bool) (f:α→Nat):∀l:List α,((l.filter p).map f).sum=(l.map fun x=>if p x=true then f x else 0).sum
 | []=>rfl
 | a::l=>by
  have ih:=S3 p f l
  rw[En]
  cases h:p a with
  | true=>simp only[if_true,Au,Dv,h,ih]
  | false=>simp only[Dt,if_false,Au,Dv,h,ih,EJ]
theorem Od {p:Nat→Bool}:∀l:List Nat,l.filter p∈choices l
 | []=>AU
 | x::r=>by
  have ih:=Od (p:=p) r
  rw[En]
  unfold choices
  cases p x with
  | true=>exact EH _ (List.mem_map_of_mem ih)
  | false=>exact Hl _ ih
def WH (c:Nat→Nat) (s i x:Nat) (st:Nat×Nat):Nat×Nat:=if x=s then (if 0 < st.1 then (st.1 - 1+c i,st.2) else (st.1+c i,st.2+1)) else st
def Ox (c:Nat→Nat) (s:Nat):Nat→List Nat→Nat×Nat→Nat×Nat
 | _,[],st=>st
 | i,x::r,st=>Ox c s (i+1) r (WH c s i x st)
def cnt (s:Nat):List Nat→Nat
 | []=>0
 | x::r=>(if x=s then 1 else 0)+cnt s r
end Fm
end
section
set_option maxRecDepth 100000
namespace Fm
open Flags
theorem range_cons (n:Nat):CW (n+1)=0::(CW n).map (·+1):=Jt
theorem Ia {α:Type}{p q:α→Bool}:∀{l:List α},(∀x∈l,p x=true→q x=true)→(l.filter p).length≤(l.filter q).length
 | [],_=>AV _
 | a::l,h=>by
  have ih:=Ia (l:=l) fun x hx=>h x (Ao _ hx)
  rw[En,En]
  cases hp:p a with
  | true =>
   rw[h a AU hp]
   simp;omega
  | false =>
   cases q a <;> simp <;> omega
def mayAt (L:Locker) (r:List Nat) (i:Nat):List Nat:=L.sameKinds.filter fun (f:Nat)=>decide (L.points f≤i)&&r.getD (L.points f - 1) 0==r.getD i 0
theorem spots_one (L:Locker) (r:List Nat):L.spots [r]=(CW r.length).map fun i=>⟨r.getD i 0,mayAt L r i⟩:=by
 unfold Locker.spots mayAt
 rw[List.flatMap_cons,List.flatMap_nil,C7]
theorem VD (L:Locker) (k:Nat):L.allCopies.getD k 0=L.copies k:=by
 unfold Locker.allCopies Locker.copies
 rw[Eo,Ah]
def lk (L:Locker) (r:List Nat) (s:Nat):Nat:=cnt s r - L.copies s
def ZF (L:Locker) (i:Nat):Nat:=((L.sameKinds.filter fun f=>L.points f==i+1).map L.copies).sum
end Fm
end
section
set_option maxRecDepth 100000
namespace Fm
open Flags
theorem LR:∀(n:Nat) (l:List Nat),l.length≤n→l.eraseDups.Nodup
 | _,[],_=>by simp
 | 0,a::l,h=>by simp at h
 | n+1,a::l,h=>by
  rw[List.eraseDups_cons]
  have hl:(l.filter fun b=>!b==a).length≤n:=Bb (Jo _ _) (by simpa using h)
  refine DA.mpr ⟨fun m=>?_,LR n _ hl⟩
  have:=(Ci.mp (Hm.mp m)).2
  simp at this
theorem contains_mem {l:List Nat}{x:Nat}:l.contains x=true↔x∈l:=by simp
def flown (L:Locker) (r:List Nat) (s:Nat):Nat:=(Ox (ZF L) s 0 r (0,0)).2
end Fm
end
section
set_option maxRecDepth 100000
namespace Fb
open Flags (Bytes cutAt isName isSign)
def zs (b:Bytes):List Int:=b.map fun (c:UInt8)=>(c.toNat:Int)
theorem Aw (b:Bytes):(zs b).length=b.length:=AG _
theorem S9 {a b:UInt8} (h:(a.toNat:Int)=(b.toNat:Int)):a=b:=UInt8.toNat_inj.mp (by omega)
theorem Ds:∀{a b:Bytes},zs a=zs b→a=b
 | [],[],_=>rfl
 | [],_::_,h=>by simp[zs] at h
 | _::_,[],h=>by simp[zs] at h
 | x::a,y::b,h=>by
  have h:(x.toNat:Int)::zs a=(y.toNat:Int)::zs b:=h
  obtain⟨h1,h2⟩:=Em h
  rw[S9 h1,Ds h2]
theorem Tb {a b:Bytes}:zs a=zs b↔a=b:=⟨Ds,fun h=>by rw[h]⟩
theorem zs_nil {a:Bytes}:zs a=[]↔a=[]:=by cases a <;> simp[zs]
def Ai (m:Int):List Int→List (List Int)
 | []=>[[]]
 | x::r=>if x=m then []::Ai m r else match Ai m r with
  | []=>[[x]]
  | w::l=>(x::w)::l
theorem IM (m:Int):∀r:List Int,Ai m r≠[]
 | []=>by simp[Ai]
 | x::r=>by
  unfold Ai
  split
  ·simp
  ·split <;> simp
theorem D4 (m:UInt8):∀r:Bytes,cutAt m r≠[]
 | []=>by simp[cutAt]
 | x::r=>by
  unfold cutAt
  split
  ·simp
  ·split <;> simp
theorem IS (m:UInt8):∀b:Bytes,Ai (m.toNat:Int) (zs b)=(cutAt m b).map zs
 | []=>rfl
 | x::r=>by
  have ih:=IS m r
  show Ai (m.toNat:Int) ((x.toNat:Int)::zs r)=_
  unfold Ai cutAt
  by_cases e:x=m
  ·rw[if_pos e,if_pos (by rw[e]),ih]
   rfl
  ·rw[if_neg e,if_neg (fun q=>e (S9 q)),ih]
   cases h:cutAt m r with
   | nil=>exact absurd h (D4 m r)
   | cons w l=>rfl
theorem IP (m v:Int):∀(xs:List Int) (done:List (List Int)) (p:List Int),Ai m xs=done++[p]→Ai m (xs++[v])=if v=m then done++[p]++[[]] else done++[p++[v]]
 | [],done,p,h=>by
  have:done=[]∧p=[]:=by
   cases done with
   | nil=>simp[Ai] at h;exact⟨rfl,h⟩
   | cons a l=>simp[Ai] at h
  obtain⟨rfl,rfl⟩:=this
  by_cases e:v=m
  ·simp[Ai,e]
  ·simp[Ai,e]
 | x::r,done,p,h=>by
  show Ai m (x::(r++[v]))=_
  unfold Ai at h ⊢
  by_cases e:x=m
  ·rw[if_pos e] at h ⊢
   cases done with
   | nil =>
    have:Ai m r=[]:=by simpa using(Em h).2
    exact absurd this (IM m r)
   | cons d ds =>
    have h1:=Em h
    have ih:=IP m v r ds p h1.2
    rw[ih,← h1.1]
    split <;> rfl
  ·rw[if_neg e] at h ⊢
   cases hr:Ai m r with
   | nil=>exact absurd hr (IM m r)
   | cons w l =>
    rw[hr] at h
    have h:(x::w)::l=done++[p]:=h
    cases done with
    | nil =>
     have h1:=Em h
     have hl:l=[]:=h1.2
     subst hl
     have ih:=IP m v r [] w hr
     rw[ih]
     by_cases ev:v=m
     ·rw[if_pos ev,if_pos ev,← h1.1];rfl
     ·rw[if_neg ev,if_neg ev,← h1.1];rfl
    | cons d ds =>
     have h1:=Em h
     have hl:l=ds++[p]:=h1.2
     have ih:=IP m v r (w::ds) p (by rw[hr,hl];rfl)
     rw[ih]
     by_cases ev:v=m
     ·rw[if_pos ev,if_pos ev,← h1.1];rfl
     ·rw[if_neg ev,if_neg ev,← h1.1];rfl
theorem IL (m:Int):∀xs:List Int,(Ai m xs).length=xs.count m+1
 | []=>by simp[Ai]
 | x::r=>by
  have ih:=IL m r
  unfold Ai
  by_cases e:x=m
  ·rw[if_pos e,Bu,ih,e,List.count_cons_self]
  ·rw[if_neg e]
   cases hr:Ai m r with
   | nil=>exact absurd hr (IM m r)
   | cons w l =>
    rw[hr] at ih
    rw[Mf e,← ih]
    rfl
theorem Fl (m:Int) (xs:List Int):(Ai m xs).length≤xs.length+1:=by
 rw[IL]
 have:=List.count_le_length (a:=m) (l:=xs)
 omega
theorem EA (m:Int):∀(xs:List Int) (w:List Int),w∈Ai m xs→w.length≤xs.length
 | [],w,h=>by simp[Ai] at h;subst h;simp
 | x::r,w,h=>by
  have ih:=EA m r
  unfold Ai at h
  split at h
  ·rcases AS.mp h with e | h
   ·subst e;simp
   ·have:=ih w h;simp;omega
  ·split at h
   ·simp at h;subst h;simp
   ·rename_i w' l hr
    rcases AS.mp h with e | h
    ·subst e
     have:=ih w' (by rw[hr];exact AU)
     simp;omega
    ·have:=ih w (by rw[hr];exact Ao _ h)
     simp;omega
def EY (b:Int):Bool:=(decide (65≤b)&&decide (b≤90)) || (decide (48≤b)&&decide (b≤57))
def DT (l:List Int):Bool:=(decide (1≤l.length)&&decide (l.length≤8))&&l.all EY
theorem By {p q:Prop} [Decidable p] [Decidable q] (h:p↔q):decide p=decide q:=by
 by_cases x:p
 ·rw[decide_eq_true x,decide_eq_true (h.mp x)]
 ·rw[decide_eq_false x,decide_eq_false fun y=>x (h.mpr y)]
theorem XG (c:UInt8):EY (c.toNat:Int)=isSign c:=by
 unfold EY isSign
 rw[By (show(65:Int)≤c.toNat↔65≤c.toNat by omega),By (show(c.toNat:Int)≤90↔c.toNat≤90 by omega),By (show(48:Int)≤c.toNat↔48≤c.toNat by omega),By (show(c.toNat:Int)≤57↔c.toNat≤57 by omega)]
theorem Nt {p:Int→Bool}{q:UInt8→Bool} (h:∀c:UInt8,p (c.toNat:Int)=q c) (b:Bytes):(zs b).all p=b.all q:=by
 unfold zs
 rw[El]
 congr 1
 funext c
 exact h c
theorem Ij (b:Bytes):DT (zs b)=isName b:=by
 unfold DT isName
 rw[Aw,Nt XG,Bool.and_assoc]
def HE (w ns:List Int):Bool:=match Ai 32 ns with
 | [a,b]=>decide (a=w)&&DT b
 | _=>false
theorem Fj (b:Bytes):Ai 32 (zs b)=(cutAt 32 b).map zs:=IS 32 b
theorem Ks (b:Bytes):Ai 10 (zs b)=(cutAt 10 b).map zs:=IS 10 b
theorem IK (b:Bytes):Ai 46 (zs b)=(cutAt 46 b).map zs:=IS 46 b
theorem LN {w line n:Bytes} (h:Bt w line=some n):HE (zs w) (zs line)=true∧(Ai 32 (zs line))[1]?=some (zs n):=by
 unfold Bt at h
 unfold HE
 rw[Fj]
 split at h
 ·rename_i a b hc
  split at h
  ·rename_i hh
   cases h
   rw[hc]
   show(decide (zs a=zs w)&&DT (zs n))=true∧_
   rw[decide_eq_true (by rw[hh.1]),Ij,hh.2]
   exact⟨rfl,rfl⟩
  ·cases h
 ·cases h
theorem LM {w line:Bytes} (h:Bt w line=none):HE (zs w) (zs line)=false:=by
 unfold Bt at h
 unfold HE
 rw[Fj]
 match hc:cutAt 32 line with
 | [a,b] =>
  rw[hc] at h
  have h:(if a=w∧isName b=true then some b else none)=none:=h
  show(decide (zs a=zs w)&&DT (zs b))=false
  by_cases e:a=w
  ·by_cases e2:isName b=true
   ·rw[if_pos ⟨e,e2⟩] at h;cases h
   ·rw[Ij,GQ.mpr e2,GP]
  ·rw[decide_eq_false fun q=>e (Ds q),Ce]
 | []=>rfl
 | [a]=>rfl
 | a::b::c::l=>rfl
def Ii (l:List Int):Bool:=(decide (l.length≤64)&&l.all fun b=>decide (32≤b)&&decide (b≤126))&&!(decide ([]∈Ai 32 l))
theorem OF (m x:UInt8) (r:Bytes):[]∈cutAt m (x::r)↔x=m∨[]∈(cutAt m r).tail:=by
 show []∈(if x=m then []::cutAt m r else match cutAt m r with
  | []=>[[x]]
  | w::l=>(x::w)::l)↔_
 by_cases e:x=m
 ·rw[if_pos e]
  exact⟨fun _=>.inl e,fun _=>AU⟩
 ·rw[if_neg e]
  cases h:cutAt m r with
  | nil=>exact absurd h (D4 m r)
  | cons w l=>simp[e]
theorem IQ (m x:UInt8) (r:Bytes):[]∈(cutAt m (x::r)).tail↔(x=m∧[]∈cutAt m r)∨(x≠m∧[]∈(cutAt m r).tail):=by
 show []∈(if x=m then []::cutAt m r else match cutAt m r with
  | []=>[[x]]
  | w::l=>(x::w)::l).tail↔_
 by_cases e:x=m
 ·rw[if_pos e];simp[e]
 ·rw[if_neg e]
  cases h:cutAt m r with
  | nil=>exact absurd h (D4 m r)
  | cons w l=>simp[e]
open Flags (noTwoBlanks isMeaning) in
theorem N1:∀(x:UInt8) (r:Bytes),[]∈(cutAt 32 (x::r)).tail↔¬((x::r).getLast?≠some 32∧noTwoBlanks (x::r)=true)
 | x,[]=>by
  rw[IQ]
  simp[cutAt,noTwoBlanks]
 | x,y::r=>by
  have ih:=N1 y r
  rw[IQ,OF]
  have e1:(x::y::r).getLast?=(y::r).getLast?:=by rw[List.getLast?_cons_cons]
  have e2:noTwoBlanks (x::y::r)=(!(x==32&&y==32)&&noTwoBlanks (y::r)):=rfl
  rw[e1,e2]
  have e3:[]∈(cutAt 32 r).tail∧y≠32↔[]∈(cutAt 32 (y::r)).tail∧y≠32:=by
   rw[IQ]
   constructor
   ·rintro⟨a,b⟩;exact⟨.inr ⟨b,a⟩,b⟩
   ·rintro⟨a | a,b⟩
    ·exact(b a.1).elim
    ·exact⟨a.2,b⟩
  by_cases hx:x=32
  ·by_cases hy:y=32
   ·simp[hx,hy]
   ·have:[]∈(cutAt 32 r).tail↔[]∈(cutAt 32 (y::r)).tail:=⟨fun a=>(e3.mp ⟨a,hy⟩).1,fun a=>(e3.mpr ⟨a,hy⟩).1⟩
    rw[this,ih]
    simp[hx,hy]
  ·rw[ih]
   simp[hx]
theorem Wa (b:Bytes):Ii (zs b)=He b:=by
 unfold Ii He
 have hmem:([]∈Ai 32 (zs b))↔[]∈cutAt 32 b:=by
  rw[Fj]
  constructor
  ·intro h
   obtain⟨w,hw,e⟩:=BP.mp h
   rw[← zs_nil.mp e];exact hw
  ·intro h
   exact BP.mpr ⟨[],h,rfl⟩
 rw[Aw,Nt (q:=fun c=>decide (32≤c.toNat)&&decide (c.toNat≤126)) (fun c=>by rw[By (show(32:Int)≤c.toNat↔32≤c.toNat by omega),By (show(c.toNat:Int)≤126↔c.toNat≤126 by omega)]),By hmem]
 cases b with
 | nil=>rfl
 | cons x r =>
  rw[By (OF 32 x r)]
  have h2:=N1 x r
  by_cases hx:x=32
  ·simp[hx]
  ·have h3:(x=32∨[]∈(cutAt 32 r).tail)↔[]∈(cutAt 32 (x::r)).tail:=by
    rw[IQ]
    simp[hx]
   rw[By h3,By h2]
   have e1:(x::r).head?=some x:=rfl
   rw[e1]
   have e4:(some x != some (32:UInt8))=true:=by simp[hx]
   rw[e4]
   have e5:decide (1≤(x::r).length)=true:=by simp
   rw[e5,Cq,Cq]
   have e6:(!decide (¬((x::r).getLast?≠some 32∧Tf (x::r)=true)))=((x::r).getLast? != some 32&&Tf (x::r)):=by
    rw[C3]
    simp
   rw[e6,Bool.and_assoc]
theorem QF {c:UInt8}:∀{l:Bytes},Ej c l=none→cutAt c l=[l]
 | [],_=>rfl
 | x::r,h=>by
  unfold Ej at h
  unfold cutAt
  split at h
  ·cases h
  ·rename_i e
   rw[if_neg e]
   have:Ej c r=none:=by
    cases q:Ej c r with
    | none=>rfl
    | some p=>rw[q] at h;cases h
   rw[QF this]
theorem QG {c:UInt8}:∀{l p q:Bytes},Ej c l=some (p,q)→(cutAt c l)[0]?=some p∧l=p++c::q
 | [],_,_,h=>by cases h
 | x::r,p,q,h=>by
  unfold Ej at h
  unfold cutAt
  split at h
  ·rename_i e
   cases h
   rw[if_pos e,e]
   exact⟨rfl,rfl⟩
  ·rename_i e
   rw[if_neg e]
   cases z:Ej c r with
   | none=>rw[z] at h;cases h
   | some y =>
    rw[z] at h
    obtain⟨y1,y2⟩:=y
    have h:some (x::y1,y2)=some (p,q):=h
    cases h
    obtain⟨h1,h2⟩:=QG z
    cases hr:cutAt c r with
    | nil=>exact absurd hr (D4 c r)
    | cons w l =>
     rw[hr] at h1
     have h1:w=y1:=by simpa using h1
     subst h1
     exact⟨rfl,by rw[h2];rfl⟩
end Fb
end
section
set_option maxRecDepth 100000
namespace Fb
inductive ZLab where
 | sign (n:List Int)
 | same (k:Int)
 | ans
 deriving DecidableEq
structure ZK where
 lab:ZLab
 copies:Int
 shape:Int
 look:Int
 deriving DecidableEq
def ZLab.rank:ZLab→Int
 | .sign _=>1
 | .same _=>2
 | .ans=>3
def zl:FJ→ZLab
 | .sign n=>.sign (zs n)
 | .same k=>.same (k:Int)
 | .answer=>.ans
def zk (k:AM):ZK:=⟨zl k.role,k.copies,k.shape,k.look⟩
theorem Zu:∀{a b:FJ},zl a=zl b→a=b
 | .sign _,.sign _,h=>by injection h with h;rw[Ds h]
 | .same _,.same _,h=>by injection h with h;rw[Jb h]
 | .answer,.answer,_=>rfl
 | .sign _,.same _,h=>nomatch h
 | .sign _,.answer,h=>nomatch h
 | .same _,.sign _,h=>nomatch h
 | .same _,.answer,h=>nomatch h
 | .answer,.sign _,h=>nomatch h
 | .answer,.same _,h=>nomatch h
def rk (k:AM):Nat:=match k.role with
 | .sign _=>1
 | .same _=>2
 | .answer=>3
theorem JB (k:AM):(zk k).lab.rank=(rk k:Int):=by
 unfold zk rk
 cases k.role <;> rfl
structure Wf (ks:List AM):Prop where
 order:ks.Pairwise fun a b=>rk a≤rk b∧rk a≠3
 names:ks.Pairwise fun a b=>∀n,a.role=.sign n→b.role≠.sign n
 sames:ks.Pairwise fun a b=>∀i j,a.role=.same i→b.role=.same j→i < j
 ge:∀k∈ks,∀i,k.role=.same i→1≤i
 few:(ks.filter C5).length≤48
theorem Wf.nil:Wf []:=⟨.nil,.nil,.nil,fun _ h=>absurd h De,by decide⟩
theorem isSign_rk (k:AM):k.isSign=decide (rk k=1):=by
 unfold C5 rk
 cases k.role <;> rfl
theorem Fh (k:AM):(k.role==.answer)=decide (rk k=3):=by
 unfold rk
 cases k.role with
 | sign n=>exact beq_eq_false_iff_ne.mpr (fun q=>nomatch q)
 | same n=>exact beq_eq_false_iff_ne.mpr (fun q=>nomatch q)
 | answer=>exact beq_self_eq_true _
theorem Li (k:AM):1≤rk k∧rk k≤3:=by
 unfold rk
 cases k.role <;> simp
def DR (past:List AM) (x:AM):Bool:=match x.role with
 | .sign _=>past.any fun (k:AM)=>!k.isSign
 | _=>past.any fun (k:AM)=>k.role==.answer
def dup (past:List AM) (x:AM):Bool:=match x.role with
 | .sign _=>past.any fun (k:AM)=>k.role==x.role
 | .same j=>past.any fun (k:AM)=>match k.role with
  | .same i=>decide (j≤i)
  | _=>false
 | .answer=>false
theorem Ha (past:List AM) (x:AM):Ek past x=if DR past x=true then some 1 else if dup past x=true then some 2 else if (x.isSign&&decide (Mb≤past.length))=true then some 3 else
 if (past.any fun (k:AM)=>k.shape==x.shape&&k.look==x.look)=true then some 4 else none:=rfl
theorem Kl {past:List AM}{x:AM}{n:Aj} (h:x.role=.sign n):DR past x=past.any fun (k:AM)=>!k.isSign:=by unfold DR;rw[h]
theorem N7 {past:List AM}{x:AM}{n:Nat} (h:x.role=.same n):DR past x=past.any fun (k:AM)=>k.role==.answer:=by unfold DR;rw[h]
theorem N6 {past:List AM}{x:AM} (h:x.role=.answer):DR past x=past.any fun (k:AM)=>k.role==.answer:=by unfold DR;rw[h]
def GH (past:List ZK) (z:ZK):Bool:=match past.getLast? with
 | none=>true
 | some b=>!(decide (b.lab.rank=3))&&decide (b.lab.rank≤z.lab.rank)
def DV (past:List ZK) (z:ZK):Bool:=match z.lab with
 | .sign n=>past.any fun b=>decide (b.lab=.sign n)
 | .same k=>past.any fun b=>match b.lab with
  | .same j=>decide (k≤j)
  | _=>false
 | .ans=>false
def EC (past:List ZK):Nat:=(past.filter fun b=>decide (b.lab.rank=1)).length
def HB (past:List ZK) (z:ZK):Bool:=past.any fun b=>decide (b.shape=z.shape)&&decide (b.look=z.look)
def IZ (past:List ZK) (z:ZK):Int:=if GH past z=false then 1 else if DV past z=true then 2 else if z.lab.rank=1∧EC past=48 then 3 else if HB past z=true then 4 else 0
theorem LB {α:Type}{l:List α}{b:α} (h:l.getLast?=some b):∃r,l=r++[b]:=by
 obtain⟨r,e⟩:=List.getLast?_eq_some_iff.mp h
 exact⟨r,e⟩
theorem Y5 {past:List AM} (w:Wf past) (x:AM):GH (past.map zk) (zk x)=!DR past x:=by
 unfold GH
 rw[List.getLast?_map]
 cases h:past.getLast? with
 | none =>
  have:past=[]:=Mq.mp h
  subst this
  unfold DR
  cases x.role <;> rfl
 | some b =>
  obtain⟨r,e⟩:=LB h
  subst e
  show(!(decide ((zk b).lab.rank=3))&&decide ((zk b).lab.rank≤(zk x).lab.rank))=_
  rw[JB,JB]
  have ord:∀k∈r,rk k≤rk b∧rk k≠3:=fun k hk=>(Mt.mp w.order).2.2 k hk b AU
  have pb:=Li b
  cases hx:x.role with
  | sign n =>
   have rx:rk x=1:=by unfold rk;rw[hx]
   rw[rx,Kl hx]
   by_cases hb:rk b=1
   ·have:((r++[b]).any fun (k:AM)=>!k.isSign)=false:=by
     rw[Dc]
     intro k hk
     rw[isSign_rk]
     rcases C9.mp hk with q | q
     ·have:=ord k q
      have:=Li k
      rw[decide_eq_true (by omega)];simp
     ·rw[A4.mp q,decide_eq_true hb];simp
    show _=!((r++[b]).any fun (k:AM)=>!k.isSign)
    rw[this,hb];rfl
   ·have:((r++[b]).any fun (k:AM)=>!k.isSign)=true:=by
     rw[Hf]
     exact⟨b,by simp,by rw[isSign_rk,decide_eq_false hb];rfl⟩
    show _=!((r++[b]).any fun (k:AM)=>!k.isSign)
    rw[this,decide_eq_false (show ¬((rk b:Nat):Int)≤((1:Nat):Int) by omega),GP];rfl
  | same j =>
   have rx:rk x=2:=by unfold rk;rw[hx]
   rw[rx,N7 hx]
   by_cases hb:rk b=3
   ·have:((r++[b]).any fun (k:AM)=>k.role==.answer)=true:=by
     rw[Hf]
     exact⟨b,by simp,by rw[Fh,decide_eq_true hb]⟩
    show _=!((r++[b]).any fun (k:AM)=>k.role==.answer)
    rw[this,hb];rfl
   ·have:((r++[b]).any fun (k:AM)=>k.role==.answer)=false:=by
     rw[Dc]
     intro k hk
     rw[Fh]
     rcases C9.mp hk with q | q
     ·rw[decide_eq_false (ord k q).2];simp
     ·rw[A4.mp q,decide_eq_false hb];simp
    show _=!((r++[b]).any fun (k:AM)=>k.role==.answer)
    rw[this,decide_eq_false (show ¬((rk b:Nat):Int)=3 by omega),decide_eq_true (show((rk b:Nat):Int)≤((2:Nat):Int) by omega)];rfl
  | answer =>
   have rx:rk x=3:=by unfold rk;rw[hx]
   rw[rx,N6 hx]
   by_cases hb:rk b=3
   ·have:((r++[b]).any fun (k:AM)=>k.role==.answer)=true:=by
     rw[Hf]
     exact⟨b,by simp,by rw[Fh,decide_eq_true hb]⟩
    show _=!((r++[b]).any fun (k:AM)=>k.role==.answer)
    rw[this,hb];rfl
   ·have:((r++[b]).any fun (k:AM)=>k.role==.answer)=false:=by
     rw[Dc]
     intro k hk
     rw[Fh]
     rcases C9.mp hk with q | q
     ·rw[decide_eq_false (ord k q).2];simp
     ·rw[A4.mp q,decide_eq_false hb];simp
    show _=!((r++[b]).any fun (k:AM)=>k.role==.answer)
    rw[this,decide_eq_false (show ¬((rk b:Nat):Int)=3 by omega),decide_eq_true (show((rk b:Nat):Int)≤((3:Nat):Int) by omega)];rfl
theorem Pb (past:List AM) (x:AM):DV (past.map zk) (zk x)=dup past x:=by
 unfold DV dup
 have el:(zk x).lab=zl x.role:=rfl
 rw[el]
 cases hx:x.role with
 | sign n =>
  show((past.map zk).any fun b=>decide (b.lab=ZLab.sign (zs n)))=past.any fun k=>k.role==FK n
  rw[GY]
  congr 1
  funext k
  show decide (zl k.role=zl (.sign n))=(k.role==.sign n)
  rw[C3,beq_iff_eq,decide_eq_true_iff]
  exact⟨Zu,fun h=>by rw[h]⟩
 | same j =>
  show((past.map zk).any fun b=>match b.lab with
   | .same i=>decide ((j:Int)≤i)
   | _=>false)=past.any fun k=>match k.role with
   | .same i=>decide (j≤i)
   | _=>false
  rw[GY]
  congr 1
  funext k
  show(match zl k.role with
   | .same i=>decide ((j:Int)≤i)
   | _=>false)=_
  cases k.role with
  | sign n=>rfl
  | same i=>exact By (by show(j:Int)≤(i:Int)↔_;omega)
  | answer=>rfl
 | answer=>rfl
theorem W3 (past:List AM) (x:AM):HB (past.map zk) (zk x)=past.any fun (k:AM)=>k.shape==x.shape&&k.look==x.look:=by
 unfold HB
 rw[GY]
 congr 1
 funext k
 show(decide ((k.shape:Int)=(x.shape:Int))&&decide ((k.look:Int)=(x.look:Int)))=_
 rw[By (show(k.shape:Int)=x.shape↔k.shape=x.shape by omega),By (show(k.look:Int)=x.look↔k.look=x.look by omega)]
 rfl
theorem Lw (past:List AM):EC (past.map zk)=(past.filter C5).length:=by
 unfold EC
 rw[Tq,AG]
 congr 1
 apply Mh
 intro k _
 show decide ((zk k).lab.rank=1)=k.isSign
 rw[JB,isSign_rk]
 exact By (by omega)
theorem WA {past:List AM} (w:Wf past) (x:AM):IZ (past.map zk) (zk x)=match Ek past x with
  | none=>0
  | some e=>(e:Int):=by
 unfold IZ
 rw[Ha,Y5 w x,Pb past x,W3 past x,Lw past]
 cases h1:DR past x with
 | true=>rfl
 | false =>
  simp only[Bool.not_false,Bool.true_eq_false,if_false,Dt]
  cases h2:dup past x with
  | true=>rfl
  | false =>
   simp only[Dt,if_false]
   have hc:((zk x).lab.rank=1∧(past.filter C5).length=48)↔(x.isSign&&decide (Mb≤past.length))=true:=by
    rw[JB,BI,isSign_rk,decide_eq_true_iff,decide_eq_true_iff]
    constructor
    ·rintro⟨q1,q2⟩
     refine⟨by omega,?_⟩
     have:=Jo C5 past
     show 48≤_
     omega
    ·rintro⟨q1,q2⟩
     refine⟨by omega,?_⟩
     have q2:48≤past.length:=q2
     have few:=w.few
     have all:past.filter C5=past:=by
      apply To.mpr
      intro k hk
      cases hx:x.role with
      | sign n =>
       rw[Kl hx] at h1
       have:=(Dc.mp h1) k hk
       cases q:k.isSign with
       | true=>rfl
       | false=>rw[q] at this;exact absurd rfl this
      | same n=>unfold rk at q1;rw[hx] at q1;cases q1
      | answer=>unfold rk at q1;rw[hx] at q1;cases q1
     rw[all] at few ⊢
     omega
   by_cases hh:(zk x).lab.rank=1∧(past.filter C5).length=48
   ·rw[if_pos hh,if_pos (hc.mp hh)];rfl
   ·rw[if_neg hh,if_neg fun q=>hh (hc.mpr q)]
    split <;> rfl
theorem Wf.snoc {past:List AM} (w:Wf past) {x:AM} (hx:∀i,x.role=.same i→1≤i) (h:Ek past x=none):Wf (past++[x]):=by
 rw[Ha] at h
 by_cases h1:DR past x=true
 ·rw[if_pos h1] at h;cases h
 rw[if_neg h1] at h
 by_cases h2:dup past x=true
 ·rw[if_pos h2] at h;cases h
 rw[if_neg h2] at h
 by_cases h3:(x.isSign&&decide (Mb≤past.length))=true
 ·rw[if_pos h3] at h;cases h
 replace h1:=GQ.mpr h1
 replace h2:=GQ.mpr h2
 have one:∀{R:AM→AM→Prop},past.Pairwise R→(∀a∈past,R a x)→(past++[x]).Pairwise R:=fun p q =>
  Mt.mpr ⟨p,T4 _ _,fun a ha b hb=>by rw[A4.mp hb];exact q a ha⟩
 have r1:∀a∈past,rk a≤rk x∧rk a≠3:=fun a ha=>by
  have pa:=Li a
  cases hr:x.role with
  | sign n =>
   have rx:rk x=1:=by unfold rk;rw[hr]
   rw[Kl hr] at h1
   have:=(Dc.mp h1) a ha
   rw[isSign_rk] at this
   have:rk a=1:=by
    by_cases q:rk a=1
    ·exact q
    ·rw[decide_eq_false q] at this;exact absurd rfl this
   omega
  | same n =>
   have rx:rk x=2:=by unfold rk;rw[hr]
   rw[N7 hr] at h1
   have:=(Dc.mp h1) a ha
   rw[Fh,decide_eq_true_iff] at this
   omega
  | answer =>
   have rx:rk x=3:=by unfold rk;rw[hr]
   rw[N6 hr] at h1
   have:=(Dc.mp h1) a ha
   rw[Fh,decide_eq_true_iff] at this
   omega
 refine⟨one w.order r1,one w.names fun a ha n e1 e2=>?_,one w.sames fun a ha i j e1 e2=>?_,fun k hk i e=>?_,?_⟩
 ·unfold dup at h2
  rw[e2] at h2
  have:=(Dc.mp h2) a ha
  rw[e1] at this
  exact this (beq_self_eq_true _)
 ·unfold dup at h2
  rw[e2] at h2
  have:=(Dc.mp h2) a ha
  rw[e1] at this
  have:¬j≤i:=fun q=>this (decide_eq_true q)
  omega
 ·rcases C9.mp hk with q | q
  ·exact w.ge k q i e
  ·rw[A4.mp q] at e;exact hx i e
 ·rw[Tn,BO,En]
  have few:=w.few
  cases q:x.isSign with
  | false=>simp;exact few
  | true =>
   rw[q,Cq,decide_eq_true_iff] at h3
   have h3:¬48≤past.length:=h3
   have:=Jo C5 past
   simp
   omega
end Fb
end
section
set_option maxRecDepth 100000
namespace Fb
def E6 (k:Int) (z:ZK):Bool:=decide (z.lab=.same k)
structure CS where
 L:Int→Int
 F:Int→Int
 keys:List Int
def cs0:CS:=⟨fun _=>0,fun _=>0,[]⟩
def zn (r:List Nat):List Int:=r.map fun (n:Nat)=>(n:Int)
theorem QU {L:Ag} (w:Wf L.kinds):∀f∈L.sameKinds,1≤L.points f:=by
 intro f hf
 obtain⟨h1,h2⟩:=Ci.mp hf
 have h1:=Ms.mp h1
 unfold Ma
 rw[BD h1] at h2 ⊢
 cases hr:L.kinds[f].role with
 | sign n=>rw[FT,hr] at h2;cases h2
 | same k =>
  rw[FT,hr]
  exact w.ge _ (Mp h1) k hr
 | answer=>rw[FT,hr] at h2;cases h2
theorem DK (r:List Nat):(zn r).length=r.length:=AG _
theorem Ta:∀{a b:List Nat},zn a=zn b→a=b
 | [],[],_=>rfl
 | [],_::_,h=>by simp[zn] at h
 | _::_,[],h=>by simp[zn] at h
 | x::a,y::b,h=>by
  have h:(x:Int)::zn a=(y:Int)::zn b:=h
  obtain⟨h1,h2⟩:=Em h
  rw[Jb h1,Ta h2]
end Fb
end
section
set_option maxRecDepth 100000
namespace Fb
open Flags (Bytes cutAt Fault)
def Ba {S:Type} (step:S→Nat→Bytes→Except Nat S):Nat→S→List Bytes→Except Fault S
 | _,s,[]=>.ok s
 | i,s,w::r=>match step s i w with
  | .error k=>.error (k,i)
  | .ok s'=>Ba step (i+1) s' r
section
variable {S:Type}{step:S→Nat→Bytes→Except Nat S}{i k:Nat}{s s':S}{w:Bytes}{r:List Bytes}
theorem Cb (h:step s i w=.error k):Ba step i s (w::r)=.error (k,i):=by
 unfold Ba;rw[h]
theorem Cz (h:step s i w=.ok s'):Ba step i s (w::r)=Ba step (i+1) s' r:=by
 conv=>lhs;unfold Ba
 rw[h]
end
def Ad (t:Bytes):List Bytes:=(cutAt 10 t).dropLast
def Bd (t:Bytes):Bytes:=(cutAt 10 t).getLast (D4 10 t)
theorem Gy (t:Bytes):cutAt 10 t=Ad t++[Bd t]:=(Jd (D4 10 t)).symm
def IX {S T:Type} (f:S→Except Fault T):Except Fault S→Except Fault T
 | .error e=>.error e
 | .ok s=>f s
def Co (past:List AM) (line:Bytes):Except Nat (List AM):=match Cf line with
 | none=>.error 1
 | some x=>match Ek past x with
  | some e=>.error e
  | none=>.ok (past++[x])
def Ku (w:Bytes) (n:Nat) (p:List AM):Except Fault (List AM):=if w≠[]∨p.all (fun k=>!k.isSign)=true then .error (1,n) else .ok p
theorem PV:∀(ls:List Bytes) (i:Nat) (past:List AM) (w:Bytes),Mc i past (ls++[w])=IX (Ku w (i+ls.length)) (Ba (fun s _ l=>Co s l) i past ls)
 | [],i,past,w=>rfl
 | x::ls,i,past,w=>by
  have ne:ls++[w]≠[]:=by simp
  have e:Mc i past (x::(ls++[w]))=match Cf x with
    | none=>.error (1,i)
    | some y=>match Ek past y with
     | some e=>.error (e,i)
     | none=>Mc (i+1) (past++[y]) (ls++[w]):=by
   cases h:ls++[w] with
   | nil=>exact absurd h ne
   | cons a b=>rfl
  rw[FO,e]
  cases h1:Cf x with
  | none =>
   rw[Cb (k:=1) (by unfold Co;rw[h1])]
   rfl
  | some y =>
   dsimp only
   cases h2:Ek past y with
   | some e =>
    rw[Cb (k:=e) (by unfold Co;rw[h1];dsimp only;rw[h2])]
    rfl
   | none =>
    dsimp only
    rw[Cz (s':=past++[y]) (by unfold Co;rw[h1];dsimp only;rw[h2]),PV ls (i+1) (past++[y]) w,show i+1+ls.length=i+(ls.length+1) by omega]
    rfl
structure LS where
 name:Bytes
 kinds:List AM
def BN (s:LS) (i:Nat) (line:Bytes):Except Nat LS:=if i=0 then (match Md line with
 | none=>.error 1
 | some n=>.ok ⟨n,s.kinds⟩) else (Co s.kinds line).map fun k=>⟨s.name,k⟩
theorem Qh (n:Bytes):∀(ls:List Bytes) (i:Nat) (past:List AM),Ba BN (i+1) ⟨n,past⟩ ls=(Ba (fun s _ l=>Co s l) (i+1) past ls).map fun k=>⟨n,k⟩
 | [],_,_=>rfl
 | w::ls,i,past=>by
  have e:BN ⟨n,past⟩ (i+1) w=(Co past w).map fun k=>⟨n,k⟩:=by
   unfold BN
   rw[if_neg (by omega)]
  cases h:Co past w with
  | error k =>
   rw[Cb (k:=k) (by rw[e,h];rfl),Cb (k:=k) h]
   rfl
  | ok p =>
   rw[Cz (s':=⟨n,p⟩) (by rw[e,h];rfl),Cz (s':=p) h]
   exact Qh n ls (i+1) p
def D6 (w:Bytes) (n:Nat) (s:LS):Except Fault Ag:=if w≠[]∨s.kinds.all (fun k=>!k.isSign)=true then .error (1,n) else .ok ⟨s.name,s.kinds⟩
theorem Wg (t:Bytes):DZ t=IX (D6 (Bd t) (Ad t).length) (Ba BN 0 ⟨[],[]⟩ (Ad t)):=by
 unfold DZ
 rw[Gy]
 generalize Ad t=ls
 generalize Bd t=w
 cases ls with
 | nil =>
  show CM (1,0)=if w≠[]∨true=true then CM (1,0) else _
  rw[if_pos (.inr rfl)]
 | cons x ls =>
  have e1:(x::ls)++[w]=x::(ls++[w]):=rfl
  rw[e1]
  obtain⟨a,b,h⟩:∃a b,ls++[w]=a::b:=by
   cases ls with
   | nil=>exact⟨w,[],rfl⟩
   | cons a b=>exact⟨a,b++[w],rfl⟩
  have e2:BN ⟨[],[]⟩ 0 x=match Md x with
    | none=>.error 1
    | some n=>.ok ⟨n,[]⟩:=by
   unfold BN
   rw[if_pos rfl]
  rw[h]
  dsimp only
  rw[← h]
  cases hn:Md x with
  | none =>
   rw[Cb (k:=1) (by rw[e2,hn])]
   rfl
  | some n =>
   dsimp only
   rw[PV ls 1 [] w,Cz (s':=⟨n,[]⟩) (by rw[e2,hn]),Qh n ls 0 []]
   cases Ba (fun s _ l=>Co s l) (0+1) [] ls with
   | error e=>rfl
   | ok p =>
    show Except.map _ (Ku w (1+ls.length) p)=D6 w (ls.length+1) ⟨n,p⟩
    unfold Ku D6
    rw[Nat.add_comm]
    split <;> rfl
structure BS where
 name:Bytes
 entries:List Ax
def CI (L:Ag) (past:List Ax) (line:Bytes):Except Nat (List Ax):=match GU line with
 | none=>.error 1
 | some (n,m)=>match L.entryRow past n with
  | .error k=>.error k
  | .ok row=>.ok (past++[⟨row,m⟩])
def Kv (w:Bytes) (n:Nat) (p:List Ax):Except Fault (List Ax):=if w=[] then .ok p else .error (1,n)
theorem PU (L:Ag):∀(ls:List Bytes) (i:Nat) (past:List Ax) (w:Bytes),L.judgeEntries i past (ls++[w])=IX (Kv w (i+ls.length)) (Ba (fun s _ l=>CI L s l) i past ls)
 | [],i,past,w=>rfl
 | x::ls,i,past,w=>by
  have ne:ls++[w]≠[]:=by simp
  have e:L.judgeEntries i past (x::(ls++[w]))=match GU x with
    | none=>.error (1,i)
    | some (n,m)=>match L.entryRow past n with
     | .error k=>.error (k,i)
     | .ok row=>L.judgeEntries (i+1) (past++[⟨row,m⟩]) (ls++[w]):=by
   cases h:ls++[w] with
   | nil=>exact absurd h ne
   | cons a b=>rfl
  rw[FO,e]
  cases h1:GU x with
  | none =>
   rw[Cb (k:=1) (by unfold CI;rw[h1])]
   rfl
  | some y =>
   obtain⟨n,m⟩:=y
   dsimp only
   cases h2:L.entryRow past n with
   | error e =>
    rw[Cb (k:=e) (by unfold CI;rw[h1];dsimp only;rw[h2])]
    rfl
   | ok row =>
    dsimp only
    rw[Cz (s':=past++[⟨row,m⟩]) (by unfold CI;rw[h1];dsimp only;rw[h2]),PU L ls (i+1) _ w,show i+1+ls.length=i+(ls.length+1) by omega]
    rfl
def BH (L:Ag) (s:BS) (i:Nat) (line:Bytes):Except Nat BS :=
 if 2≤i then (CI L s.entries line).map fun l=>⟨s.name,l⟩
 else if i=0 then (match Bt (Az "book") line with
  | none=>.error 1
  | some n=>.ok ⟨n,s.entries⟩)
 else match Bt (Az "for") line with
  | none=>.error 1
  | some o=>if o≠L.name then .error 2 else .ok s
theorem Qg (L:Ag) (n:Bytes):∀(ls:List Bytes) (i:Nat) (past:List Ax),Ba (BH L) (i+2) ⟨n,past⟩ ls=(Ba (fun s _ l=>CI L s l) (i+2) past ls).map fun k=>⟨n,k⟩
 | [],_,_=>rfl
 | w::ls,i,past=>by
  have e:BH L ⟨n,past⟩ (i+2) w=(CI L past w).map fun k=>⟨n,k⟩:=by
   unfold BH
   rw[if_pos (by omega)]
  cases h:CI L past w with
  | error k =>
   rw[Cb (k:=k) (by rw[e,h];rfl),Cb (k:=k) h]
   rfl
  | ok p =>
   rw[Cz (s':=⟨n,p⟩) (by rw[e,h];rfl),Cz (s':=p) h]
   exact Qg L n ls (i+1) p
def D5 (w:Bytes) (n:Nat) (s:BS):Except Fault Hc:=if w≠[] then .error (1,n) else if n < 2 then .error (1,n) else .ok ⟨s.name,s.entries⟩
theorem We (L:Ag) (t:Bytes):L.judgeBook t=IX (D5 (Bd t) (Ad t).length) (Ba (BH L) 0 ⟨[],[]⟩ (Ad t)):=by
 unfold Ag.judgeBook
 rw[Gy]
 generalize Ad t=ls
 generalize Bd t=w
 have s0:∀(s:BS) (x:Bytes),BH L s 0 x=match Bt (Az "book") x with
   | none=>.error 1
   | some n=>.ok ⟨n,s.entries⟩:=fun s x=>by
  unfold BH
  rw[if_neg (by omega),if_pos rfl]
 have s1:∀(s:BS) (x:Bytes),BH L s (0+1) x=match Bt (Az "for") x with
   | none=>.error 1
   | some o=>if o≠L.name then .error 2 else .ok s:=fun s x=>by
  unfold BH
  rw[if_neg (by omega),if_neg (by omega)]
 match ls with
 | [] =>
  show CM (1,0)=if w≠[] then CM (1,0) else if 0 < 2 then CM (1,0) else _
  rw[if_pos (by omega:0 < 2)]
  split <;> rfl
 | [x] =>
  show(match Bt (Az "book") x with
   | none=>(CM (1,0):Except Fault Hc)
   | some n=>CM (1,1))=_
  cases hn:Bt (Az "book") x with
  | none =>
   rw[Cb (k:=1) (by rw[s0,hn])]
   rfl
  | some n =>
   rw[Cz (s':=⟨n,[]⟩) (by rw[s0,hn])]
   show CM (1,1)=if w≠[] then CM (1,1) else if 1 < 2 then CM (1,1) else _
   rw[if_pos (by omega:1 < 2)]
   split <;> rfl
 | x::y::ls =>
  have e1:(x::y::ls)++[w]=x::y::(ls++[w]):=rfl
  rw[e1]
  have ne:(ls++[w]).isEmpty=false:=by cases ls <;> rfl
  show(match Bt (Az "book") x with
   | none=>(CM (1,0):Except Fault Hc)
   | some n=>if (ls++[w]).isEmpty=true then CM (1,1) else match Bt (Az "for") y with
    | none=>CM (1,1)
    | some o=>if o≠L.name then CM (2,1) else (L.judgeEntries 2 [] (ls++[w])).map fun l=>(⟨n,l⟩:Hc))=_
  cases hn:Bt (Az "book") x with
  | none =>
   rw[Cb (k:=1) (by rw[s0,hn])]
   rfl
  | some n =>
   dsimp only
   rw[ne,if_neg Af,Cz (s':=⟨n,[]⟩) (by rw[s0,hn])]
   cases ho:Bt (Az "for") y with
   | none =>
    rw[Cb (k:=1) (by rw[s1,ho])]
    rfl
   | some o =>
    dsimp only
    by_cases hq:o≠L.name
    ·rw[if_pos hq,Cb (k:=2) (by rw[s1,ho];exact if_pos hq)]
     rfl
    ·rw[if_neg hq,PU L ls 2 [] w,Cz (s':=⟨n,[]⟩) (by rw[s1,ho];exact if_neg hq),Qg L n ls 0 []]
     cases Ba (fun s _ l=>CI L s l) (0+2) [] ls with
     | error e=>rfl
     | ok p =>
      show Except.map _ (Kv w (2+ls.length) p)=D5 w (ls.length+2) ⟨n,p⟩
      unfold Kv D5
      rw[if_neg (show ¬ls.length+2 < 2 by omega)]
      by_cases hw:w=[]
      ·rw[if_pos hw,if_neg (fun q=>q hw)];rfl
      ·rw[if_neg hw,if_pos hw,Nat.add_comm];rfl
end Fb
end
section
set_option maxRecDepth 100000
namespace Fb
open Flags (Bytes cutAt)
def DJ (most:Int):List Int→Int
 | [c]=>if 1≤c - 48∧c - 48≤most then c - 48 else 0
 | _=>0
theorem Lx {most n:Nat}{w:Bytes} (h:Ei most w=some n):DJ (most:Int) (zs w)=(n:Int)∧1≤n:=by
 unfold Ei at h
 split at h
 ·rename_i c
  split at h
  ·rename_i q
   cases h
   show(if 1≤(c.toNat:Int) - 48∧(c.toNat:Int) - 48≤most then (c.toNat:Int) - 48 else 0)=_∧_
   rw[if_pos (by omega)]
   omega
  ·cases h
 ·cases h
theorem SN {most:Nat}{w:Bytes} (h:Ei most w=none):DJ (most:Int) (zs w)=0:=by
 match w,h with
 | [],_=>rfl
 | [c],h =>
  have h:(if 49≤c.toNat∧c.toNat≤48+most then some (c.toNat - 48) else none)=none:=h
  show(if 1≤(c.toNat:Int) - 48∧(c.toNat:Int) - 48≤most then (c.toNat:Int) - 48 else 0)=0
  split at h
  ·cases h
  ·rw[if_neg (by omega)]
 | a::b::l,_=>rfl
def digs:List Int:=[48,49,50,51,52,53,54,55,56,57,97,98,99,100,101,102]
theorem WO:∀n:Nat,n < 256→(if 48≤n∧n≤57 then some (n - 48) else if 97≤n∧n≤102 then some (n - 87) else none)=if (n:Int)∈digs then some (digs.idxOf (n:Int)) else none:=by decide +kernel
theorem K2 (c:UInt8):Hd c=if (c.toNat:Int)∈digs then some (digs.idxOf (c.toNat:Int)) else none:=WO c.toNat c.toNat_lt
def EX:List Int→Int
 | []=>0
 | b::r=>EX r * 16+(digs.idxOf b:Nat)
def Cy (w:List Int):Int:=if w.length≠16∨¬(w.all fun b=>decide (b∈digs))=true then -1 else EX w
theorem S4 (k:Nat) (f:Nat→Nat):∀l:List Nat,(l.map fun i=>k * f i).sum=k * (l.map f).sum
 | []=>by simp
 | a::l=>by
  have ih:=S4 k f l
  simp only[Au,Dv,ih,Nat.mul_add]
theorem Pn:∀(l:List Nat),((CW l.length).map fun i=>l.getD i 0 % 16 * 16 ^ i).sum=l.foldr (fun d acc=>acc * 16+d % 16) 0
 | []=>rfl
 | d::l=>by
  have ih:=Pn l
  rw[Bu,Fm.range_cons,Au,Dv,Jq,Tt,← ih]
  have e:((CW l.length).map ((fun i=>(d::l).getD i 0 % 16 * 16 ^ i) ∘ fun x=>x+1)).sum=((CW l.length).map fun i=>16 * (l.getD i 0 % 16 * 16 ^ i)).sum:=Fm.sum_eq fun i _=>by
   show(d::l).getD (i+1) 0 % 16 * 16 ^ (i+1)=_
   rw[List.getD_cons_succ,Nat.pow_succ,← Nat.mul_assoc,Nat.mul_comm]
  rw[e,S4]
  show d % 16 * 16 ^ 0+_=_
  omega
theorem Pq {f:UInt8→Option Nat}:∀{w:Bytes},w.mapM f=none→∃c∈w,f c=none
 | [],h=>by simp at h
 | c::w,h=>by
  rw[FP] at h
  cases hc:f c with
  | none=>exact⟨c,AU,hc⟩
  | some n =>
   rw[hc] at h
   cases hw:w.mapM f with
   | none =>
    obtain⟨d,hd,e⟩:=Pq hw
    exact⟨d,Ao _ hd,e⟩
   | some l=>rw[hw] at h;cases h
theorem Pr {f:UInt8→Option Nat}:∀{w:Bytes}{l:List Nat},w.mapM f=some l→l.length=w.length∧(∀c∈w,f c≠none)∧l=w.map fun c=>(f c).getD 0
 | [],l,h=>by simp at h;subst h;simp
 | c::w,l,h=>by
  rw[FP] at h
  cases hc:f c with
  | none=>rw[hc] at h;cases h
  | some n =>
   rw[hc] at h
   cases hw:w.mapM f with
   | none=>rw[hw] at h;cases h
   | some m =>
    rw[hw] at h
    have h:some (n::m)=some l:=h
    cases h
    obtain⟨h1,h2,h3⟩:=Pr hw
    refine⟨by simp[h1],fun d hd=>?_,by rw[Au,hc,← h3];rfl⟩
    rcases AS.mp hd with q | q
    ·rw[q,hc];simp
    ·exact h2 d q
theorem Pl:∀w:Bytes,(∀c∈w,Hd c≠none)→EX (zs w)=(((w.map fun c=>(Hd c).getD 0).foldr (fun d acc=>acc * 16+d % 16) 0:Nat):Int)
 | [],_=>rfl
 | c::w,h=>by
  have ih:=Pl w fun d hd=>h d (Ao _ hd)
  have hc:=h c AU
  show EX ((c.toNat:Int)::zs w)=_
  unfold EX
  rw[ih,Au,Tt]
  rw[K2] at hc ⊢
  split at hc
  ·rename_i hm
   rw[if_pos hm]
   have:digs.idxOf (c.toNat:Int) < 16:=Tx.mpr hm
   simp only[Option.getD_some]
   omega
  ·exact absurd rfl hc
theorem W5 {w:Bytes}{n:Nat} (h:GV w=some n):Cy (zs w)=(n:Int):=by
 unfold GV at h
 split at h
 ·cases h
 ·rename_i hl
  have hl:w.length=16:=by omega
  cases hm:w.mapM Hd with
  | none=>rw[hm] at h;cases h
  | some l =>
   rw[hm] at h
   have h:some (Flags.lookOf fun i=>l.getD i 0)=some n:=h
   have h:=Ae h
   subst h
   obtain⟨h1,h2,h3⟩:=Pr hm
   unfold Cy
   rw[if_neg]
   ·rw[Pl w h2,← h3,← Pn,h1,hl]
    rfl
   ·rintro(q | q)
    ·exact q (by rw[Aw,hl])
    ·apply q
     rw[Cg]
     intro b hb
     obtain⟨c,hc,rfl⟩:=BP.mp hb
     have:=h2 c hc
     rw[K2] at this
     split at this
     ·rename_i z;exact decide_eq_true z
     ·exact absurd rfl this
theorem W4 {w:Bytes} (h:GV w=none):Cy (zs w)=-1:=by
 unfold Cy
 unfold GV at h
 split at h
 ·rename_i hl
  exact if_pos (.inl (by rw[Aw];exact hl))
 ·cases hm:w.mapM Hd with
  | some l=>rw[hm] at h;cases h
  | none =>
   obtain⟨c,hc,e⟩:=Pq hm
   refine if_pos (.inr fun q=>?_)
   rw[Cg] at q
   have:=of_decide_eq_true (q (c.toNat:Int) (BP.mpr ⟨c,hc,rfl⟩))
   rw[K2,if_pos this] at e
   cases e
def Bz (line:Bytes):Bytes:=(cutAt 32 line).headD []
def C1 (line:Bytes):Bytes:=line.drop ((Bz line).length+1)
def ER (line:Bytes):Bool:=(decide ((cutAt 46 (Bz line)).length≤8)&&(cutAt 46 (Bz line)).all DY)&&He (C1 line)
theorem V7 (line:Bytes):GU line=if ER line=true then some (cutAt 46 (Bz line),C1 line) else none:=by
 unfold GU
 cases h:Ej 32 line with
 | none =>
  have e1:=QF h
  have e2:Bz line=line:=by unfold Bz;rw[e1];rfl
  have e3:C1 line=[]:=by unfold C1;rw[e2];exact Hi (by omega)
  have:ER line=false:=by
   unfold ER
   rw[e3]
   exact GP _
  rw[this]
  rfl
 | some y =>
  obtain⟨p,q⟩:=y
  obtain⟨h1,h2⟩:=QG h
  have e2:Bz line=p:=by
   unfold Bz
   cases hc:cutAt 32 line with
   | nil=>exact absurd hc (D4 32 line)
   | cons w l =>
    rw[hc] at h1
    have h1:w=p:=by simpa using h1
    exact h1
  have e3:C1 line=q:=by
   unfold C1
   rw[e2,h2,List.drop_append]
   simp
  unfold ER
  rw[e2,e3]
  show((Flags.namesIn p).bind fun l=>if He q=true then some (l,q) else none)=_
  unfold Flags.namesIn
  by_cases a:(cutAt 46 p).length≤8∧(cutAt 46 p).all DY=true
  ·have a':(cutAt 46 p).length≤GS∧(cutAt 46 p).all DY=true:=a
   simp only[if_pos a']
   rw[decide_eq_true a.1,a.2]
   rfl
  ·have a':¬((cutAt 46 p).length≤GS∧(cutAt 46 p).all DY=true):=a
   simp only[if_neg a']
   have:(decide ((cutAt 46 p).length≤8)&&(cutAt 46 p).all DY)=false:=by
    rw[GQ]
    intro z
    rw[BI,decide_eq_true_iff] at z
    exact a z
   rw[this,Ce]
   rfl
end Fb
end
section
set_option maxRecDepth 100000
namespace Fb
open Flags (Bytes Fault)
section
variable {S:Type}{step:S→Nat→Bytes→Except Nat S}
theorem Lj:∀{a:List Bytes} (b:List Bytes) {i:Nat}{s s':S},Ba step i s a=.ok s'→Ba step i s (a++b)=Ba step (i+a.length) s' b
 | [],b,i,s,s',h=>by cases h;rfl
 | w::a,b,i,s,s',h=>by
  cases q:step s i w with
  | error k=>rw[Cb q] at h;cases h
  | ok s1 =>
   rw[Cz q] at h
   rw[FO,Cz q,Lj b h,Bu,show i+1+a.length=i+(a.length+1) by omega]
def Eg (step:S→Nat→Bytes→Except Nat S) (s0:S) (ls:List Bytes) (i:Nat) (s:S):Prop:=i≤ls.length∧Ba step 0 s0 (ls.take i)=.ok s
noncomputable def rAt (step:S→Nat→Bytes→Except Nat S) (s0:S) (ls:List Bytes) (i:Nat):Int:=match Ba step 0 s0 (ls.take i),ls[i]? with
 | .ok s,some w=>(match step s i w with
  | .error k=>(k:Int)
  | .ok _=>0)
 | _,_=>0
theorem S1 {s0:S}{ls:List Bytes}:Eg step s0 ls 0 s0:=⟨A5 _,by rw[List.take_zero];rfl⟩
theorem JA {s0 s:S}{ls:List Bytes}{i:Nat}{w:Bytes} (h:Eg step s0 ls i s) (hw:ls[i]?=some w):rAt step s0 ls i=match step s i w with
  | .error k=>(k:Int)
  | .ok _=>0:=by
 unfold rAt
 rw[h.2,hw]
theorem MM:∀{l:List Bytes}{i:Nat}{x:Bytes},l[i]?=some x→l.take (i+1)=l.take i++[x]
 | [],i,x,h=>by simp at h
 | a::l,0,x,h=>by
  have e:a=x:=Ae h
  subst e
  rfl
 | a::l,i+1,x,h=>by
  have ih:=MM (l:=l) (i:=i) (x:=x) h
  show a::l.take (i+1)=a::l.take i++[x]
  rw[ih]
  rfl
theorem S0 {s0 s s':S}{ls:List Bytes}{i:Nat}{w:Bytes} (h:Eg step s0 ls i s) (hw:ls[i]?=some w) (hs:step s i w=.ok s'):Eg step s0 ls (i+1) s':=by
 have hl:i < ls.length:=(Bf.mp hw).1
 refine⟨hl,?_⟩
 rw[MM hw,Lj [w] h.2,EG,M0 (by omega),EJ,Cz hs]
 rfl
theorem JF {s0 s:S}{ls:List Bytes} (h:Eg step s0 ls ls.length s):Ba step 0 s0 ls=.ok s:=by
 have:=h.2
 rwa [Ju] at this
theorem Qj {s0 s:S}{ls:List Bytes}{i k:Nat}{w:Bytes} (h:Eg step s0 ls i s) (hw:ls[i]?=some w) (hs:step s i w=.error k):Ba step 0 s0 ls=.error (k,i):=by
 have hl:i < ls.length:=(Bf.mp hw).1
 have e:ls=ls.take i++(w::ls.drop (i+1)):=by
  have q:=List.take_append_drop i ls
  rw[Hg hl] at q
  have:ls[i]=w:=by
   have:=BD hl
   rw[hw] at this
   exact(Ae this).symm
  rw[this] at q
  exact q.symm
 rw[e,Lj _ h.2,EG,M0 (by omega),EJ,Cb hs]
end
end Fb
end
section
namespace Fm
open Flags
end Fm
end
section
namespace Fb
theorem SI:∀(ks:List AM),(ks.Pairwise fun a b=>rk a≤rk b∧rk a≠3)→∀n:Nat,((ks[n]?).map C5).getD false=decide (n < (ks.filter C5).length)
 | [],_,n=>by simp
 | k::ks,h,n=>by
  obtain⟨h1,h2⟩:=EI.mp h
  cases hk:k.isSign with
  | true =>
   rw[Jg hk,Bu]
   cases n with
   | zero=>simp[hk]
   | succ n =>
    have ih:=SI ks h2 n
    rw[Jj,ih]
    exact decide_eq_decide.mpr (by omega)
  | false =>
   have none':∀b∈ks,b.isSign=false:=fun b hb=>by
    have:=(h1 b hb).1
    rw[isSign_rk] at hk ⊢
    have h0:=of_decide_eq_false hk
    refine decide_eq_false fun q=>?_
    unfold rk at *
    revert h0 this q
    cases k.role <;> cases b.role <;> simp
   have hf:(k::ks).filter C5=[]:=by
    rw[Mi]
    intro b hb
    rcases AS.mp hb with q | q
    ·rw[q,hk];exact Af
    ·rw[none' b q];exact Af
   rw[hf]
   show _=decide (n < 0)
   rw[decide_eq_false (Hr n)]
   cases n with
   | zero=>simp[hk]
   | succ n =>
    rw[Jj]
    cases hb:ks[n]? with
    | none=>rfl
    | some b=>exact none' b (CN hb)
theorem Wb {L:Ag} (h:Wf L.kinds) {r:List Nat} (h1:1≤r.length) (h8:r.length≤8):L.isRow r=r.all fun n=>decide (n < L.signs):=by
 unfold Ag.isRow
 rw[decide_eq_true h1,decide_eq_true (show r.length≤GS from h8),Cq,Cq]
 exact congrArg (fun p=>r.all p) (funext fun n=>SI L.kinds h.order n)
end Fb
end
section
set_option maxRecDepth 100000
namespace Fm
open Flags
theorem CJ {α:Type} [DecidableEq α] (f:α→Nat) (a:α):∀{l:List α},l.Nodup→a∈l→(l.map f).sum=f a+((l.filter fun x=>decide (x≠a)).map f).sum
 | x::l,hn,ha=>by
  obtain⟨n1,n2⟩:=DA.mp hn
  by_cases e:x=a
  ·subst e
   have hf:(l.filter fun y=>decide (y≠x))=l:=To.mpr fun y hy=>decide_eq_true fun q=>n1 (q▸hy)
   rw[Je (by simp),hf,Au,Dv]
  ·have ha':a∈l:=(AS.mp ha).elim (fun q=>absurd q.symm e) id
   have ih:=CJ f a n2 ha'
   rw[Jg (by simpa using e),Au,Dv,Au,Dv,ih]
   omega
theorem EF {α:Type} [DecidableEq α] {f g:α→Nat}{a:α}{l:List α} (h:∀x∈l,x≠a→f x=g x):((l.filter fun x=>decide (x≠a)).map f).sum=((l.filter fun x=>decide (x≠a)).map g).sum :=
 sum_eq fun x hx=>by
  obtain⟨h1,h2⟩:=Ci.mp hx
  exact h x h1 (by simpa using h2)
def cs (l:List Spot) (s:Nat):Nat:=(l.filter fun (p:Spot)=>p.sign==s).length
def lkF (c:Nat→Nat) (l:List Spot) (s:Nat):Nat:=cs l s - c s
def nnY (Y:Nat→Bool) (l:List Spot) (s:Nat):Nat:=(l.filter fun (p:Spot)=>p.sign==s&&p.may.any Y).length
def DC (K:List Nat) (Y:Nat→Bool) (c:Nat→Nat):Nat:=(K.map fun k=>if Y k=true then 0 else c k).sum
def Ok (K S:List Nat) (c:Nat→Nat) (l:List Spot):Prop:=∀Y:Nat→Bool,(S.map (lkF c l)).sum≤DC K Y c+(S.map fun s=>min (lkF c l s) (nnY Y l s)).sum
def dec (c:Nat→Nat) (f:Nat):Nat→Nat:=fun k=>if k=f then c f - 1 else c k
theorem Gz (c:Nat→Nat) (f:Nat):dec c f f=c f - 1:=if_pos rfl
theorem Cw {c:Nat→Nat}{f k:Nat} (h:k≠f):dec c f k=c k:=if_neg h
theorem Gx {p:Spot}{l:List Spot}:cs (p::l) p.sign=cs l p.sign+1:=by
 unfold cs
 rw[Jg (by simp),Bu]
theorem OE {p:Spot}{l:List Spot}{s:Nat} (h:s≠p.sign):cs (p::l) s=cs l s:=by
 unfold cs
 rw[Je (by simpa using fun q=>h q.symm)]
theorem F1 {Y:Nat→Bool}{p:Spot}{l:List Spot}{s:Nat} (h:s≠p.sign):nnY Y (p::l) s=nnY Y l s:=by
 unfold nnY
 rw[Je]
 have:(p.sign==s)=false:=beq_eq_false_iff_ne.mpr fun q=>h q.symm
 rw[this];simp
theorem LP {Y:Nat→Bool}{p:Spot}{l:List Spot} (h:p.may.any Y=true):nnY Y (p::l) p.sign=nnY Y l p.sign+1:=by
 unfold nnY
 rw[Jg (by simpa using h),Bu]
theorem HF {Y:Nat→Bool}{p:Spot}{l:List Spot} (h:p.may.any Y=false):nnY Y (p::l) p.sign=nnY Y l p.sign:=by
 unfold nnY
 rw[Je (by rw[h];simp)]
theorem P2 {Y:Nat→Bool}{l:List Spot}{s:Nat}:nnY Y l s≤cs l s:=Ia fun p _ h=>by
 rw[BI] at h
 exact h.1
theorem XO {Y:Nat→Bool}{l:List Spot}{s:Nat} (h:∀p∈l,p.sign=s→p.may.any Y=true):nnY Y l s=cs l s :=
 T6 P2 (Ia fun p hp q=>by
  rw[BI]
  exact⟨q,h p hp (by simpa using q)⟩)
theorem LO {Y Z:Nat→Bool}{l:List Spot}{s:Nat} (h:∀p∈l,p.sign=s→p.may.any Y=true→p.may.any Z=true):nnY Y l s≤nnY Z l s:=Ia fun p hp q=>by
 rw[BI] at q ⊢
 exact⟨q.1,h p hp (by simpa using q.1) q.2⟩
theorem any_iff {l:List Nat}{Y:Nat→Bool}:l.any Y=true↔∃k∈l,Y k=true:=Hf
structure Nest (K S:List Nat) (l:List Spot):Prop where
 kn:K.Nodup
 sn:S.Nodup
 inS:∀p∈l,p.sign∈S
 inK:∀p∈l,∀k∈p.may,k∈K
 dis:∀s∈S,s∉K
 up:l.Pairwise fun p q=>p.sign=q.sign→∀k∈p.may,k∈q.may
 one:∀p∈l,∀q∈l,∀k,k∈p.may→k∈q.may→p.sign=q.sign
 asc:∀p∈l,(p.sign::p.may).Pairwise (· < ·)
theorem Nest.tail {K S:List Nat}{p:Spot}{l:List Spot} (h:Nest K S (p::l)):Nest K S l :=
 ⟨h.kn,h.sn,fun q hq=>h.inS q (Ao _ hq),fun q hq=>h.inK q (Ao _ hq),h.dis,(EI.mp h.up).2,fun q hq r hr=>h.one q (Ao _ hq) r (Ao _ hr),fun q hq=>h.asc q (Ao _ hq)⟩
theorem Nest.out {K S:List Nat}{l:List Spot} (h:Nest K S l) {p:Spot} (hp:p∈l):p.sign∉K:=h.dis _ (h.inS p hp)
theorem Nest.later {K S:List Nat}{p:Spot}{l:List Spot} (h:Nest K S (p::l)) {q:Spot} (hq:q∈l) (e:q.sign=p.sign) {k:Nat} (hk:k∈p.may):k∈q.may:=(EI.mp h.up).1 q hq e.symm k hk
theorem Gu {K:List Nat} (hn:K.Nodup) {k0:Nat} (hk:k0∈K) (Y:Nat→Bool) (c:Nat→Nat):DC K Y c=(if Y k0=true then 0 else c k0)+((K.filter fun x=>decide (x≠k0)).map fun k=>if Y k=true then 0 else c k).sum:=CJ _ k0 hn hk
theorem Km {K:List Nat}{f:Nat} (h:f∉K) (Y:Nat→Bool) (c:Nat→Nat):DC K Y (dec c f)=DC K Y c:=sum_eq fun k hk=>by
 have e:k≠f:=fun q=>h (by rw[← q];exact hk)
 rw[Cw e]
theorem E9 {c:Nat→Nat}{p:Spot}{l:List Spot} (h:0 < c p.sign) (s:Nat):lkF (dec c p.sign) l s=lkF c (p::l) s:=by
 unfold lkF
 by_cases e:s=p.sign
 ·subst e
  rw[Gx,Gz]
  omega
 ·rw[OE e,Cw e]
theorem Iu {c:Nat→Nat}{p:Spot}{l:List Spot}{k:Nat} (hk:p.sign≠k):lkF (dec c k) l p.sign=lkF c (p::l) p.sign - 1:=by
 unfold lkF
 rw[Gx,Cw hk]
 omega
theorem Ir {c:Nat→Nat}{p:Spot}{l:List Spot}{k s:Nat} (hs:s≠p.sign) (hk:s≠k):lkF (dec c k) l s=lkF c (p::l) s:=by
 unfold lkF
 rw[OE hs,Cw hk]
theorem W0 {c:Nat→Nat}{l:List Spot}{s:Nat}:lkF c l s≤cs l s:=Nat.sub_le _ _
def Ew:(Nat→Nat)→List Spot→List Nat→Prop
 | _,[],[]=>True
 | c,p::l,f::g=>0 < c f∧(f=p.sign∨(f∈p.may∧0 < lkF c (p::l) p.sign))∧Ew (dec c f) l g
 | _,_,_=>False
theorem QB {K S:List Nat}{c:Nat→Nat}{p:Spot}{l:List Spot} (N:Nest K S (p::l)) (h0:0 < c p.sign) (h:Ok K S (dec c p.sign) l):Ok K S c (p::l):=fun Y=>by
 have q:=h Y
 rw[Km (N.out AU)] at q
 have e:(S.map (lkF (dec c p.sign) l))=S.map (lkF c (p::l)):=DM fun s _=>E9 h0 s
 rw[e] at q
 refine Bb q (Mw (HW fun s _=>?_) _)
 rw[E9 h0 s]
 have:nnY Y l s≤nnY Y (p::l) s:=by
  by_cases e:s=p.sign
  ·subst e
   cases hy:p.may.any Y with
   | true=>rw[LP hy];omega
   | false=>rw[HF hy];exact AV _
  ·rw[F1 e];exact AV _
 omega
theorem QA {K S:List Nat}{c:Nat→Nat}{p:Spot}{l:List Spot} (N:Nest K S (p::l)) {k:Nat} (hk:k∈p.may) (h0:0 < c k) (hl:0 < lkF c (p::l) p.sign) (h:Ok K S (dec c k) l):Ok K S c (p::l):=fun Y=>by
 have q:=h Y
 have hkK:=N.inK p AU k hk
 have hsS:=N.inS p AU
 have hks:p.sign≠k:=fun e=>N.out AU (e▸hkK)
 have hsk:∀s∈S,s≠p.sign→lkF (dec c k) l s=lkF c (p::l) s:=fun s hs e=>Ir e fun z=>N.dis s hs (z▸hkK)
 have eA:((S.filter fun x=>decide (x≠p.sign)).map (lkF (dec c k) l)).sum=((S.filter fun x=>decide (x≠p.sign)).map (lkF c (p::l))).sum:=EF hsk
 have eB:((S.filter fun x=>decide (x≠p.sign)).map fun s=>min (lkF (dec c k) l s) (nnY Y l s)).sum=((S.filter fun x=>decide (x≠p.sign)).map fun s=>min (lkF c (p::l) s) (nnY Y (p::l) s)).sum:=EF fun s hs e=>by rw[hsk s hs e,F1 e]
 have eC:((K.filter fun x=>decide (x≠k)).map fun x=>if Y x=true then 0 else dec c k x).sum=((K.filter fun x=>decide (x≠k)).map fun x=>if Y x=true then 0 else c x).sum:=EF fun x _ e=>by rw[Cw e]
 rw[CJ _ p.sign N.sn hsS,CJ (fun s=>min (lkF (dec c k) l s) (nnY Y l s)) p.sign N.sn hsS,eA,eB,Iu hks,Gu N.kn hkK,eC,Gz] at q
 rw[CJ _ p.sign N.sn hsS,CJ (fun s=>min (lkF c (p::l) s) (nnY Y (p::l) s)) p.sign N.sn hsS,Gu N.kn hkK]
 generalize ((S.filter fun x=>decide (x≠p.sign)).map (lkF c (p::l))).sum=A at q ⊢
 generalize ((S.filter fun x=>decide (x≠p.sign)).map fun s=>min (lkF c (p::l) s) (nnY Y (p::l) s)).sum=B at q ⊢
 generalize ((K.filter fun x=>decide (x≠k)).map fun x=>if Y x=true then 0 else c x).sum=C at q ⊢
 cases hy:Y k with
 | true =>
  rw[hy] at q
  rw[LP (any_iff.mpr ⟨k,hk,hy⟩)]
  simp only[if_true] at q ⊢
  omega
 | false =>
  rw[hy] at q
  have:nnY Y l p.sign≤nnY Y (p::l) p.sign:=by
   cases hz:p.may.any Y with
   | true=>rw[LP hz];omega
   | false=>rw[HF hz];exact AV _
  simp only[Dt,if_false] at q ⊢
  omega
theorem Iw {K S:List Nat}:∀{l:List Spot}{c:Nat→Nat}{g:List Nat},Nest K S l→Ew c l g→Ok K S c l
 | [],c,[],N,_=>fun Y=>by
  have:(S.map (lkF c [])).sum=0:=by
   rw[show S.map (lkF c [])=S.map fun _=>0 from DM fun s _=>J2 _]
   exact GI S
  omega
 | p::l,c,f::g,N,h=>by
  obtain⟨h0,h1,h2⟩:=h
  have ih:=Iw N.tail h2
  rcases h1 with rfl | ⟨h1,h3⟩
  ·exact QB N h0 ih
  ·exact QA N h1 h0 h3 ih
 | [],c,_::_,_,h=>nomatch h
 | _::_,c,[],_,h=>nomatch h
theorem XA {S:List Nat}{f g:Nat→Nat}:(S.map fun s=>min (f s) (g s)).sum≤(S.map f).sum:=HW fun s _=>M3 _ _
theorem ZC {K S:List Nat}{c:Nat→Nat}{p:Spot}{l:List Spot} (N:Nest K S (p::l)) (h:Ok K S c (p::l)) (hl:lkF c (p::l) p.sign=0):0 < c p.sign∧Ok K S (dec c p.sign) l:=by
 have h0:0 < c p.sign:=by
  unfold lkF at hl
  rw[Gx] at hl
  omega
 refine⟨h0,fun Y=>?_⟩
 have q:=h Y
 have e1:S.map (lkF (dec c p.sign) l)=S.map (lkF c (p::l)):=DM fun s _=>E9 h0 s
 have e2:(S.map fun s=>min (lkF (dec c p.sign) l s) (nnY Y l s))=S.map fun s=>min (lkF c (p::l) s) (nnY Y (p::l) s):=DM fun s _=>by
  rw[E9 h0 s]
  by_cases e:s=p.sign
  ·rw[e,hl,Hs,Hs]
  ·rw[F1 e]
 rw[Km (N.out AU),e1,e2]
 exact q
theorem Y9 {K S:List Nat}{c:Nat→Nat}{p:Spot}{l:List Spot} (N:Nest K S (p::l)) (h:Ok K S c (p::l)) (hl:0 < lkF c (p::l) p.sign) {k:Nat} (hk:k∈p.may) (h0:0 < c k):Ok K S (dec c k) l:=fun Y=>by
 have hkK:=N.inK p AU k hk
 have hsS:=N.inS p AU
 have hks:p.sign≠k:=fun e=>N.out AU (e▸hkK)
 have hsk:∀s∈S,s≠p.sign→lkF (dec c k) l s=lkF c (p::l) s:=fun s hs e=>Ir e fun z=>N.dis s hs (z▸hkK)
 have eA:((S.filter fun x=>decide (x≠p.sign)).map (lkF (dec c k) l)).sum=((S.filter fun x=>decide (x≠p.sign)).map (lkF c (p::l))).sum:=EF hsk
 have eB:((S.filter fun x=>decide (x≠p.sign)).map fun s=>min (lkF (dec c k) l s) (nnY Y l s)).sum=((S.filter fun x=>decide (x≠p.sign)).map fun s=>min (lkF c (p::l) s) (nnY Y (p::l) s)).sum:=EF fun s hs e=>by rw[hsk s hs e,F1 e]
 have eC:((K.filter fun x=>decide (x≠k)).map fun x=>if Y x=true then 0 else dec c k x).sum=((K.filter fun x=>decide (x≠k)).map fun x=>if Y x=true then 0 else c x).sum:=EF fun x _ e=>by rw[Cw e]
 rw[CJ _ p.sign N.sn hsS,CJ (fun s=>min (lkF (dec c k) l s) (nnY Y l s)) p.sign N.sn hsS,eA,eB,Iu hks,Gu N.kn hkK,eC,Gz]
 have q:=h Y
 rw[CJ _ p.sign N.sn hsS,CJ (fun s=>min (lkF c (p::l) s) (nnY Y (p::l) s)) p.sign N.sn hsS,Gu N.kn hkK] at q
 have hcs:lkF c (p::l) p.sign≤cs l p.sign+1:=by
  have:=W0 (c:=c) (l:=p::l) (s:=p.sign)
  rw[Gx] at this
  exact this
 have all:p.may.any Y=true→nnY Y l p.sign=cs l p.sign:=fun z=>XO fun r hr e=>by
  obtain⟨x,hx,hy⟩:=any_iff.mp z
  exact any_iff.mpr ⟨x,N.later hr e hx,hy⟩
 cases hy:Y k with
 | true =>
  have e:=all (any_iff.mpr ⟨k,hk,hy⟩)
  have m:=M3 (lkF c (p::l) p.sign) (nnY Y (p::l) p.sign)
  rw[hy] at q
  generalize ((S.filter fun x=>decide (x≠p.sign)).map (lkF c (p::l))).sum=A at q ⊢
  generalize ((S.filter fun x=>decide (x≠p.sign)).map fun s=>min (lkF c (p::l) s) (nnY Y (p::l) s)).sum=B at q ⊢
  generalize ((K.filter fun x=>decide (x≠k)).map fun x=>if Y x=true then 0 else c x).sum=C at q ⊢
  simp only[if_true] at q ⊢
  rw[e]
  omega
 | false =>
  have z:=h fun x=>Y x || x==k
  have zB:((S.filter fun x=>decide (x≠p.sign)).map fun s=>min (lkF c (p::l) s) (nnY (fun x=>Y x || x==k) (p::l) s)).sum=((S.filter fun x=>decide (x≠p.sign)).map fun s=>min (lkF c (p::l) s) (nnY Y (p::l) s)).sum:=EF fun s _ e=>by
   have:nnY (fun x=>Y x || x==k) (p::l) s=nnY Y (p::l) s:=T6 (LO fun r hr es w=>by
    obtain⟨x,hx,hw⟩:=any_iff.mp w
    rcases(MV _ _).mp hw with hw | hw
    ·exact any_iff.mpr ⟨x,hx,hw⟩
    ·have ex:x=k:=by simpa using hw
     exact absurd ((N.one r hr p AU k (ex▸hx) hk).symm.trans es) (Ap e)) (LO fun r hr es w=>by
    obtain⟨x,hx,hw⟩:=any_iff.mp w
    exact any_iff.mpr ⟨x,hx,by rw[hw];rfl⟩)
   rw[this]
  have zC:((K.filter fun x=>decide (x≠k)).map fun x=>if (Y x || x==k)=true then 0 else c x).sum=((K.filter fun x=>decide (x≠k)).map fun x=>if Y x=true then 0 else c x).sum:=EF fun x _ e=>by
   have:(x==k)=false:=beq_eq_false_iff_ne.mpr e
   rw[this,Bool.or_false]
  rw[CJ _ p.sign N.sn hsS,CJ (fun s=>min (lkF c (p::l) s) (nnY (fun x=>Y x || x==k) (p::l) s)) p.sign N.sn hsS,Gu N.kn hkK,zB,zC,if_pos (show(Y k || k==k)=true by simp)] at z
  have m:=M3 (lkF c (p::l) p.sign) (nnY (fun x=>Y x || x==k) (p::l) p.sign)
  rw[hy] at q
  generalize ((S.filter fun x=>decide (x≠p.sign)).map (lkF c (p::l))).sum=A at q z ⊢
  generalize ((S.filter fun x=>decide (x≠p.sign)).map fun s=>min (lkF c (p::l) s) (nnY Y (p::l) s)).sum=B at q z ⊢
  generalize ((K.filter fun x=>decide (x≠k)).map fun x=>if Y x=true then 0 else c x).sum=C at q z ⊢
  simp only[Dt,if_false] at q ⊢
  cases hp:p.may.any Y with
  | true =>
   rw[all hp]
   omega
  | false =>
   rw[HF hp] at q
   omega
theorem ZA {K S:List Nat}{c:Nat→Nat}{p:Spot}{l:List Spot} (N:Nest K S (p::l)) (h:Ok K S c (p::l)) (hl:0 < lkF c (p::l) p.sign) (hno:∀k∈p.may,c k=0):0 < c p.sign∧Ok K S (dec c p.sign) l:=by
 have hsS:=N.inS p AU
 have h0:0 < c p.sign:=by
  have q:=h fun x=>!p.may.contains x
  have e1:DC K (fun x=>!p.may.contains x) c=0:=by
   unfold DC
   rw[show(K.map fun k=>if (!p.may.contains k)=true then 0 else c k)=K.map fun _=>0 from DM fun k _=>by
    by_cases hm:k∈p.may
    ·rw[hno k hm];simp
    ·have:p.may.contains k=false:=by simpa using hm
     rw[this];simp]
   exact GI K
  have e2:p.may.any (fun x=>!p.may.contains x)=false:=by
   cases z:p.may.any (fun x=>!p.may.contains x) with
   | false=>rfl
   | true =>
    obtain⟨x,hx,hw⟩:=any_iff.mp z
    have:p.may.contains x=true:=by simpa using hx
    rw[this] at hw
    cases hw
  have e3:((S.filter fun x=>decide (x≠p.sign)).map fun s=>min (lkF c (p::l) s) (nnY (fun x=>!p.may.contains x) (p::l) s)).sum≤((S.filter fun x=>decide (x≠p.sign)).map (lkF c (p::l))).sum:=XA
  rw[CJ _ p.sign N.sn hsS,CJ (fun s=>min (lkF c (p::l) s) (nnY (fun x=>!p.may.contains x) (p::l) s)) p.sign N.sn hsS,e1,HF e2] at q
  have e4:=P2 (Y:=fun x=>!p.may.contains x) (l:=l) (s:=p.sign)
  have e5:lkF c (p::l) p.sign=cs l p.sign+1 - c p.sign:=by unfold lkF;rw[Gx]
  omega
 refine⟨h0,fun Y=>?_⟩
 have q:=h fun x=>Y x&&!p.may.contains x
 have e1:S.map (lkF (dec c p.sign) l)=S.map (lkF c (p::l)):=DM fun s _=>E9 h0 s
 have e2:DC K (fun x=>Y x&&!p.may.contains x) c=DC K Y c:=sum_eq fun k _=>by
  by_cases hm:k∈p.may
  ·rw[hno k hm];simp
  ·have:p.may.contains k=false:=by simpa using hm
   show(if (Y k&&!p.may.contains k)=true then 0 else c k)=_
   rw[this];simp
 have e3:p.may.any (fun x=>Y x&&!p.may.contains x)=false:=by
  cases z:p.may.any (fun x=>Y x&&!p.may.contains x) with
  | false=>rfl
  | true =>
   obtain⟨x,hx,hw⟩:=any_iff.mp z
   have:p.may.contains x=true:=by simpa using hx
   rw[this] at hw
   simp at hw
 rw[Km (N.out AU),e1]
 rw[e2] at q
 refine Bb q (Mw (HW fun s _=>?_) _)
 rw[E9 h0 s]
 have mono:nnY (fun x=>Y x&&!p.may.contains x) l s≤nnY Y l s:=LO fun r _ _ w=>by
  obtain⟨x,hx,hw⟩:=any_iff.mp w
  exact any_iff.mpr ⟨x,hx,((BI _ _).mp hw).1⟩
 have:nnY (fun x=>Y x&&!p.may.contains x) (p::l) s=nnY (fun x=>Y x&&!p.may.contains x) l s:=by
  by_cases e:s=p.sign
  ·subst e;exact HF e3
  ·exact F1 e
 rw[this]
 omega
theorem IJ {K S:List Nat}:∀{l:List Spot}{c:Nat→Nat},Nest K S l→Ok K S c l→∃g,Ew c l g
 | [],c,_,_=>⟨[],trivial⟩
 | p::l,c,N,h=>by
  by_cases hl:lkF c (p::l) p.sign=0
  ·obtain⟨h0,h1⟩:=ZC N h hl
   obtain⟨g,hg⟩:=IJ N.tail h1
   exact⟨p.sign::g,h0,.inl rfl,hg⟩
  ·have hl:0 < lkF c (p::l) p.sign:=T7 hl
   by_cases hk:∃k∈p.may,0 < c k
   ·obtain⟨k,hk,h0⟩:=hk
    obtain⟨g,hg⟩:=IJ N.tail (Y9 N h hl hk h0)
    exact⟨k::g,h0,.inr ⟨hk,hl⟩,hg⟩
   ·obtain⟨h0,h1⟩:=ZA N h hl fun k hm=>Nat.eq_zero_of_not_pos fun z=>hk ⟨k,hm,z⟩
    obtain⟨g,hg⟩:=IJ N.tail h1
    exact⟨p.sign::g,h0,.inl rfl,hg⟩
end Fm
end
section
set_option maxRecDepth 100000
namespace Fm
open Flags
theorem MF {f:Nat→Nat}:∀{T S:List Nat},S.Nodup→T.Nodup→(∀t∈T,t∈S)→(∀s∈S,s∉T→f s=0)→(S.map f).sum=(T.map f).sum
 | [],S,_,_,_,h=>by
  rw[show S.map f=S.map fun _=>0 from DM fun s hs=>h s hs De]
  exact GI S
 | t::T,S,hs,ht,hsub,h=>by
  obtain⟨t1,t2⟩:=DA.mp ht
  rw[CJ f t hs (hsub t AU),Au,Dv]
  have e:=MF (f:=f) (T:=T) (S:=S.filter fun x=>decide (x≠t)) (hs.sublist Jh) t2 (fun x hx=>Ci.mpr ⟨hsub x (Ao _ hx),decide_eq_true (fun (q:x=t)=>t1 (by rw[← q];exact hx))⟩) fun s hs' hn=>by
   obtain⟨m1,m2⟩:=Ci.mp hs'
   exact h s m1 fun q=>(AS.mp q).elim (fun z=>(of_decide_eq_true m2) z) hn
  rw[e]
def cOf (left:List Nat):Nat→Nat:=fun k=>left.getD k 0
theorem Vd {l:List Spot}{s:Nat} (h:∀p∈l,p.sign≠s):cs l s=0:=by
 unfold cs
 rw[Jn,Mi]
 intro p hp
 simpa using h p hp
theorem Kw {L:Locker}{left:List Nat}{l:List Spot}{S:List Nat} (N:Nest L.sameKinds S l):L.enough left l=true↔Ok L.sameKinds S (cOf left) l:=by
 have hd:((l.map fun (p:Spot)=>p.sign).eraseDups).Nodup:=LR _ _ (AV _)
 have sub:∀t∈(l.map fun (p:Spot)=>p.sign).eraseDups,t∈S:=fun t ht=>by
  obtain⟨p,hp,rfl⟩:=BP.mp (Hm.mp ht)
  exact N.inS p hp
 have zero:∀s∈S,s∉(l.map fun (p:Spot)=>p.sign).eraseDups→lkF (cOf left) l s=0:=fun s _ hn=>by
  unfold lkF
  rw[Vd fun p hp e=>hn (Hm.mpr (BP.mpr ⟨p,hp,e⟩)),J2]
 have e1:((l.map fun (p:Spot)=>p.sign).eraseDups.map (lacks left l)).sum=(S.map (lkF (cOf left) l)).sum:=(MF N.sn hd sub zero).symm
 have e2:∀Y:Nat→Bool,((l.map fun (p:Spot)=>p.sign).eraseDups.map fun s=>min (lkF (cOf left) l s) (nnY Y l s)).sum=(S.map fun s=>min (lkF (cOf left) l s) (nnY Y l s)).sum:=fun Y=>(MF N.sn hd sub fun s hs hn=>by rw[zero s hs hn,Hs]).symm
 have e3:∀Y:Nat→Bool,((L.sameKinds.filter fun k=>!Y k).map fun k=>left.getD k 0).sum=DC L.sameKinds Y (cOf left):=fun Y=>by
  rw[S3]
  refine sum_eq fun k _=>?_
  cases Y k <;> rfl
 unfold Locker.enough
 dsimp only
 rw[Cg]
 constructor
 ·intro h Y
  have q:=of_decide_eq_true (h (L.sameKinds.filter Y) (Od _))
  rw[e1] at q
  have m:∀k∈L.sameKinds,(L.sameKinds.filter Y).contains k=Y k:=fun k hk=>by
   cases hy:Y k with
   | true=>simpa using Ci.mpr ⟨hk,hy⟩
   | false =>
    cases z:(L.sameKinds.filter Y).contains k with
    | false=>rfl
    | true =>
     have:=(Ci.mp (contains_mem.mp z)).2
     rw[hy] at this;cases this
  have c1:((L.sameKinds.filter fun k=>!(L.sameKinds.filter Y).contains k).map fun k=>left.getD k 0).sum=DC L.sameKinds Y (cOf left):=by
   rw[← e3 Y]
   congr 2
   exact Mh fun k hk=>by rw[m k hk]
  have c2:((l.map fun (p:Spot)=>p.sign).eraseDups.map fun s=>min (lacks left l s) ((l.filter fun (p:Spot)=>p.sign==s&&p.may.any fun (k:Nat)=>(L.sameKinds.filter Y).contains k).length)).sum=(S.map fun s=>min (lkF (cOf left) l s) (nnY Y l s)).sum:=by
   rw[← e2 Y]
   refine sum_eq fun s _=>?_
   have:(l.filter fun (p:Spot)=>p.sign==s&&p.may.any fun (k:Nat)=>(L.sameKinds.filter Y).contains k)=l.filter fun (p:Spot)=>p.sign==s&&p.may.any Y:=Mh fun p hp=>by
    congr 1
    rw[C3,any_iff,any_iff]
    exact⟨fun ⟨k,hk,z⟩=>⟨k,hk,by rw[← m k (N.inK p hp k hk)];exact z⟩,fun ⟨k,hk,z⟩=>⟨k,hk,by rw[m k (N.inK p hp k hk)];exact z⟩⟩
   rw[this]
   rfl
  rw[c1,c2] at q
  exact q
 ·intro h y _
  have q:=h fun k=>y.contains k
  rw[← e1,← e2,← e3] at q
  exact decide_eq_true q
theorem Ip (left:List Nat) (f:Nat):cOf (less1 left f)=dec (cOf left) f:=funext fun k=>by
 unfold cOf less1 dec
 rw[Eo,List.getElem?_set]
 by_cases e:f=k
 ·subst e
  rw[if_pos rfl,if_pos rfl]
  by_cases hf:f < left.length
  ·rw[if_pos hf];rfl
  ·rw[if_neg hf]
   show 0=left.getD f 0 - 1
   rw[Eo,Tu (by omega)]
   rfl
 ·rw[if_neg e,if_neg fun q=>e q.symm]
  show _=left.getD k 0
  rw[Eo]
def Fw:List Nat→List Nat→Prop
 | [],[]=>True
 | f::g,f'::g'=>f < f'∨(f=f'∧Fw g g')
 | _,_=>False
theorem Pe:∀{g h:List Nat},Fw g h→Fw h g→g=h
 | [],[],_,_=>rfl
 | f::g,f'::g',h1,h2=>by
  rcases h1 with h1 | ⟨e,h1⟩
  ·rcases h2 with h2 | ⟨e,_⟩
   ·omega
   ·omega
  ·rcases h2 with h2 | ⟨_,h2⟩
   ·omega
   ·rw[e,Pe h1 h2]
 | [],_::_,h,_=>nomatch h
 | _::_,[],h,_=>nomatch h
theorem Ob {L:Locker}{S:List Nat}:∀{l:List Spot}{left:List Nat},Nest L.sameKinds S l→Ok L.sameKinds S (cOf left) l→Ew (cOf left) l (L.fill l left)∧∀g,Ew (cOf left) l g→Fw (L.fill l left) g
 | [],left,_,_=>by
  unfold Locker.fill
  refine⟨trivial,fun g hg=>?_⟩
  cases g with
  | nil=>trivial
  | cons _ _=>exact nomatch hg
 | p::l,left,N,h=>by
  have N':=N.tail
  have cand:∀f,f∈(p.sign::if 0 < lacks left (p::l) p.sign then p.may else []).filter (fun (f:Nat)=>decide (0 < left.getD f 0)&&L.enough (less1 left f) l)↔(0 < cOf left f∧(f=p.sign∨(f∈p.may∧0 < lkF (cOf left) (p::l) p.sign))∧Ok L.sameKinds S (dec (cOf left) f) l):=fun f=>by
   have hl:lacks left (p::l) p.sign=lkF (cOf left) (p::l) p.sign:=rfl
   rw[Ci,BI,decide_eq_true_eq,Kw N',Ip,AS,hl]
   by_cases z:0 < lkF (cOf left) (p::l) p.sign
   ·rw[if_pos z]
    exact⟨fun ⟨q,a,b⟩=>⟨a,q.imp id fun w=>⟨w,z⟩,b⟩,fun ⟨a,q,b⟩=>⟨q.imp id And.left,a,b⟩⟩
   ·rw[if_neg z]
    exact⟨fun ⟨q,a,b⟩=>⟨a,q.imp id fun w=>(nomatch w),b⟩,fun ⟨a,q,b⟩=>⟨q.imp id fun w=>absurd w.2 z,a,b⟩⟩
  have unf:L.fill (p::l) left=(((p.sign::if 0 < lacks left (p::l) p.sign then p.may else []).filter (fun (f:Nat)=>decide (0 < left.getD f 0)&&L.enough (less1 left f) l)).headD 0)::L.fill l (less1 left (((p.sign::if 0 < lacks left (p::l) p.sign then p.may else []).filter (fun (f:Nat)=>decide (0 < left.getD f 0)&&L.enough (less1 left f) l)).headD 0)):=by
   rw[Locker.fill]
  have asc:((p.sign::if 0 < lacks left (p::l) p.sign then p.may else []).filter (fun (f:Nat)=>decide (0 < left.getD f 0)&&L.enough (less1 left f) l)).Pairwise (· < ·):=by
   refine Me _ ?_
   have:=N.asc p AU
   split
   ·exact this
   ·exact T4 _ _
  obtain⟨g0,h0⟩:=IJ N h
  have ne:(p.sign::if 0 < lacks left (p::l) p.sign then p.may else []).filter (fun (f:Nat)=>decide (0 < left.getD f 0)&&L.enough (less1 left f) l)≠[]:=by
   cases g0 with
   | nil=>exact nomatch h0
   | cons f g =>
    obtain⟨a,b,c⟩:=h0
    intro z
    have:=(cand f).mpr ⟨a,b,Iw N' c⟩
    rw[z] at this
    cases this
  rw[unf]
  generalize (p.sign::if 0 < lacks left (p::l) p.sign then p.may else []).filter (fun (f:Nat)=>decide (0 < left.getD f 0)&&L.enough (less1 left f) l)=cs0 at cand asc ne ⊢
  cases cs0 with
  | nil=>exact absurd rfl ne
  | cons f fs =>
   obtain⟨a1,_⟩:=EI.mp asc
   obtain⟨b1,b2,b3⟩:=(cand f).mp AU
   have e:((f::fs).headD 0)=f:=rfl
   rw[e]
   rw[← Ip] at b3
   obtain⟨i1,i2⟩:=Ob N' b3
   refine⟨⟨b1,b2,by rw[← Ip];exact i1⟩,fun g hg=>?_⟩
   cases g with
   | nil=>exact nomatch hg
   | cons f' g' =>
    obtain⟨c1,c2,c3⟩:=hg
    have m:=(cand f').mpr ⟨c1,c2,Iw N' c3⟩
    rcases AS.mp m with z | z
    ·subst z
     exact .inr ⟨rfl,i2 g' (by rw[Ip];exact c3)⟩
    ·exact .inl (a1 f' z)
end Fm
end
section
set_option maxRecDepth 100000
namespace Fm
open Flags
def CO:(Nat→Nat)→List Spot→List Nat→Prop
 | _,[],[]=>True
 | c,p::l,f::g=>0 < c f∧(f=p.sign∨f∈p.may)∧CO (dec c f) l g
 | _,_,_=>False
def ns:List Spot→List Nat→Nat
 | p::l,f::g=>(if f=p.sign then 0 else 1)+ns l g
 | _,_=>0
theorem Iv {K S:List Nat}{p:Spot}{l:List Spot} (N:Nest K S (p::l)) {k:Nat} (hk:k∈p.may):k≠p.sign:=fun e=>N.out (AU (a:=p) (l:=l)) (e▸N.inK p AU k hk)
theorem LG {K S:List Nat}{c:Nat→Nat}{p:Spot}{l:List Spot} (h0:0 < c p.sign):(S.map (lkF (dec c p.sign) l)).sum=(S.map (lkF c (p::l))).sum:=sum_eq fun s _=>E9 h0 s
theorem LF {K S:List Nat}{c:Nat→Nat}{p:Spot}{l:List Spot} (N:Nest K S (p::l)) {k:Nat} (hk:k∈p.may):(S.map (lkF c (p::l))).sum=lkF c (p::l) p.sign+((S.filter fun x=>decide (x≠p.sign)).map (lkF c (p::l))).sum∧(S.map (lkF (dec c k) l)).sum=lkF c (p::l) p.sign - 1+((S.filter fun x=>decide (x≠p.sign)).map (lkF c (p::l))).sum:=by
 have hkK:=N.inK p AU k hk
 have hsS:=N.inS p AU
 have hks:p.sign≠k:=fun e=>N.out AU (e▸hkK)
 have hsk:∀s∈S,s≠p.sign→lkF (dec c k) l s=lkF c (p::l) s:=fun s hs e=>Ir e fun z=>N.dis s hs (z▸hkK)
 refine⟨CJ _ p.sign N.sn hsS,?_⟩
 rw[CJ _ p.sign N.sn hsS,EF hsk,Iu hks]
theorem Ky {K S:List Nat}:∀{l:List Spot}{c:Nat→Nat}{g:List Nat},Nest K S l→CO c l g→(S.map (lkF c l)).sum≤ns l g
 | [],c,[],_,_=>by
  rw[show S.map (lkF c [])=S.map fun _=>0 from DM fun s _=>J2 _,GI S]
  exact A5 _
 | p::l,c,f::g,N,⟨h0,h1,h2⟩=>by
  have ih:=Ky N.tail h2
  show _≤(if f=p.sign then 0 else 1)+ns l g
  rcases h1 with rfl | h1
  ·rw[LG (K:=K) h0] at ih
   rw[if_pos rfl]
   omega
  ·obtain⟨e1,e2⟩:=LF N h1 (c:=c)
   rw[if_neg (Iv N h1)]
   omega
 | [],c,_::_,_,h=>nomatch h
 | _::_,c,[],_,h=>nomatch h
theorem Kr {K S:List Nat}:∀{l:List Spot}{c:Nat→Nat}{g:List Nat},Nest K S l→CO c l g→ns l g=(S.map (lkF c l)).sum→Ew c l g
 | [],c,[],_,_,_=>trivial
 | p::l,c,f::g,N,⟨h0,h1,h2⟩,hn=>by
  have hn:(if f=p.sign then 0 else 1)+ns l g=(S.map (lkF c (p::l))).sum:=hn
  have le:=Ky N.tail h2
  rcases h1 with rfl | h1
  ·rw[if_pos rfl,EJ,← LG (K:=K) h0] at hn
   exact⟨h0,.inl rfl,Kr N.tail h2 hn⟩
  ·obtain⟨e1,e2⟩:=LF N h1 (c:=c)
   rw[if_neg (Iv N h1)] at hn
   have hp:0 < lkF c (p::l) p.sign:=by omega
   exact⟨h0,.inr ⟨h1,hp⟩,Kr N.tail h2 (by omega)⟩
 | [],c,_::_,_,h,_=>nomatch h
 | _::_,c,[],_,h,_=>nomatch h
theorem Of {K S:List Nat}:∀{l:List Spot}{c:Nat→Nat}{g:List Nat},Nest K S l→Ew c l g→CO c l g∧ns l g=(S.map (lkF c l)).sum
 | [],c,[],_,_=>⟨trivial,by
  rw[show S.map (lkF c [])=S.map fun _=>0 from DM fun s _=>J2 _,GI S]
  rfl⟩
 | p::l,c,f::g,N,⟨h0,h1,h2⟩=>by
  obtain⟨i1,i2⟩:=Of N.tail h2
  rcases h1 with rfl | ⟨h1,hp⟩
  ·refine⟨⟨h0,.inl rfl,i1⟩,?_⟩
   show(if p.sign=p.sign then 0 else 1)+ns l g=_
   rw[if_pos rfl,i2,LG (K:=K) h0,EJ]
  ·obtain⟨e1,e2⟩:=LF N h1 (c:=c)
   refine⟨⟨h0,.inr h1,i1⟩,?_⟩
   show(if f=p.sign then 0 else 1)+ns l g=_
   rw[if_neg (Iv N h1),i2]
   omega
 | [],c,_::_,_,h=>nomatch h
 | _::_,c,[],_,h=>nomatch h
def Told (c:Nat→Nat) (l:List Spot) (h:List Nat):Prop:=CO c l h∧∀g,CO c l g→ns l h < ns l g∨(ns l h=ns l g∧Fw h g)
theorem Told.unique {c:Nat→Nat}{l:List Spot}{g h:List Nat} (a:Told c l g) (b:Told c l h):g=h:=by
 rcases a.2 h b.1 with q | ⟨e,q⟩
 ·rcases b.2 g a.1 with z | ⟨z,_⟩
  ·omega
  ·omega
 ·rcases b.2 g a.1 with z | ⟨_,z⟩
  ·omega
  ·exact Pe q z
theorem Oc {L:Locker}{S:List Nat}{l:List Spot}{left:List Nat} (N:Nest L.sameKinds S l) (h:L.enough left l=true):Told (cOf left) l (L.fill l left):=by
 obtain⟨h1,h2⟩:=Ob N ((Kw N).mp h)
 obtain⟨f1,f2⟩:=Of N h1
 refine⟨f1,fun g hg=>?_⟩
 have le:=Ky N hg
 by_cases e:ns l g=(S.map (lkF (cOf left) l)).sum
 ·exact .inr ⟨f2.trans e.symm,h2 g (Kr N hg e)⟩
 ·exact .inl (by omega)
theorem XY {K S:List Nat}{c:Nat→Nat}{p:Spot}{l:List Spot} (N:Nest K S (p::l)) {k:Nat} (hk:k∈p.may) (hl:lkF c (p::l) p.sign=0) (h:Ok K S (dec c k) l):Ok K S c (p::l):=fun Y=>by
 have q:=h Y
 have hkK:=N.inK p AU k hk
 have hks:p.sign≠k:=fun e=>N.out AU (e▸hkK)
 have hsk:∀s∈S,lkF (dec c k) l s=lkF c (p::l) s:=fun s hs=>by
  by_cases e:s=p.sign
  ·rw[e,Iu hks,hl]
  ·exact Ir e fun z=>N.dis s hs (z▸hkK)
 rw[sum_eq hsk] at q
 have e2:(S.map fun s=>min (lkF (dec c k) l s) (nnY Y l s)).sum=(S.map fun s=>min (lkF c (p::l) s) (nnY Y (p::l) s)).sum:=sum_eq fun s hs=>by
  rw[hsk s hs]
  by_cases e:s=p.sign
  ·rw[e,hl,Hs,Hs]
  ·rw[F1 e]
 have e3:DC K Y (dec c k)≤DC K Y c:=HW fun x _=>by
  have:dec c k x≤c x:=by
   unfold dec
   split
   ·rename_i z
    rw[z]
    exact Nat.sub_le _ _
   ·exact AV _
  split
  ·exact AV _
  ·exact this
 rw[e2] at q
 omega
theorem P9 {K S:List Nat}:∀{l:List Spot}{c:Nat→Nat}{g:List Nat},Nest K S l→CO c l g→Ok K S c l
 | [],c,[],N,_=>Iw N (g:=[]) trivial
 | p::l,c,f::g,N,⟨h0,h1,h2⟩=>by
  have ih:=P9 N.tail h2
  rcases h1 with rfl | h1
  ·exact QB N h0 ih
  ·by_cases hl:lkF c (p::l) p.sign=0
   ·exact XY N h1 hl ih
   ·exact QA N h1 h0 (T7 hl) ih
 | [],c,_::_,_,h=>nomatch h
 | _::_,c,[],_,h=>nomatch h
theorem WC {L:Locker}{S:List Nat}{l:List Spot}{left:List Nat} (N:Nest L.sameKinds S l):L.enough left l=true↔∃g,CO (cOf left) l g:=by
 constructor
 ·intro h
  exact⟨_,(Oc N h).1⟩
 ·rintro⟨g,hg⟩
  exact(Kw N).mpr (P9 N hg)
theorem role_at {L:Locker}{s:Nat} (h:L.isSignAt s=true):∃k,L.kinds[s]?=some k∧k.isSign=true:=by
 unfold Locker.isSignAt at h
 cases hk:L.kinds[s]? with
 | none=>rw[hk] at h;cases h
 | some k=>rw[hk] at h;exact⟨k,rfl,h⟩
theorem same_at {L:Locker}{f:Nat} (h:f∈L.sameKinds):∃k j,L.kinds[f]?=some k∧k.role=.same j:=by
 have:=(Ci.mp h).2
 cases hk:L.kinds[f]? with
 | none=>rw[hk] at this;cases this
 | some k =>
  rw[hk] at this
  have this:(match some k.role with | some (.same _)=>true | _=>false)=true:=this
  cases hr:k.role with
  | sign n=>rw[hr] at this;cases this
  | same j=>exact⟨k,j,rfl,hr⟩
  | answer=>rw[hr] at this;cases this
theorem SJ {L:Locker} (hw:Fb.Wf L.kinds) {s f:Nat} (hs:L.isSignAt s=true) (hf:f∈L.sameKinds):s < f:=by
 obtain⟨k,hk,hs⟩:=role_at hs
 obtain⟨k',j,hk',hr⟩:=same_at hf
 rw[Fb.isSign_rk] at hs
 have r1:Fb.rk k=1:=of_decide_eq_true hs
 have r2:Fb.rk k'=2:=by unfold Fb.rk;rw[hr]
 rcases Nat.lt_trichotomy s f with q | q | q
 ·exact q
 ·subst q
  rw[hk] at hk'
  cases hk'
  omega
 ·exfalso
  obtain⟨lf,ef⟩:=Bf.mp hk'
  obtain⟨ls,es⟩:=Bf.mp hk
  have:=(T3.mp hw.order f s lf ls q).1
  rw[ef,es] at this
  omega
theorem P0 {L:Locker}{r:List Nat} (hw:Fb.Wf L.kinds) (hr:∀s∈r,L.isSignAt s=true):Nest L.sameKinds r.eraseDups (L.spots [r]):=by
 have mem:∀p∈L.spots [r],∃i,i < r.length∧p=⟨r.getD i 0,mayAt L r i⟩:=fun p hp=>by
  rw[spots_one] at hp
  obtain⟨i,hi,rfl⟩:=BP.mp hp
  exact⟨i,Ms.mp hi,rfl⟩
 have inr:∀i,i < r.length→r.getD i 0∈r:=fun i hi=>by
  rw[Eo,BD hi]
  exact Mp hi
 have pts:∀{i k},k∈mayAt L r i→k∈L.sameKinds∧L.points k≤i∧r.getD (L.points k - 1) 0=r.getD i 0:=fun {i k} h=>by
  obtain⟨h1,h2⟩:=Ci.mp h
  rw[BI,decide_eq_true_eq,beq_iff_eq] at h2
  exact⟨h1,h2.1,h2.2⟩
 refine⟨List.nodup_range.sublist Jh,LR _ _ (AV _),fun p hp=>?_,fun p hp k hk=>?_,fun s hs hk=>?_,?_,fun p hp q hq k hkp hkq=>?_,fun p hp=>?_⟩
 ·obtain⟨i,hi,rfl⟩:=mem p hp
  exact Hm.mpr (inr i hi)
 ·obtain⟨i,hi,rfl⟩:=mem p hp
  exact(pts hk).1
 ·exact absurd (SJ hw (hr s (Hm.mp hs)) hk) (Cr _)
 ·rw[spots_one,List.pairwise_map]
  refine Mu.imp fun {i j} hij e k hk=>?_
  obtain⟨k1,k2,k3⟩:=pts hk
  have e:r.getD i 0=r.getD j 0:=e
  refine Ci.mpr ⟨k1,?_⟩
  rw[BI,decide_eq_true_eq,beq_iff_eq]
  exact⟨by omega,k3.trans e⟩
 ·obtain⟨i,hi,rfl⟩:=mem p hp
  obtain⟨j,hj,rfl⟩:=mem q hq
  exact(pts hkp).2.2.symm.trans (pts hkq).2.2
 ·obtain⟨i,hi,rfl⟩:=mem p hp
  refine EI.mpr ⟨fun k hk=>SJ hw (hr _ (inr i hi)) (pts hk).1,?_⟩
  exact(Mu.sublist (Jh.trans Jh))
theorem OA (L:Locker):cOf L.allCopies=L.copies:=funext fun k=>VD L k
theorem Vt {L:Locker}{r:List Nat} (hw:Fb.Wf L.kinds) (hr:∀s∈r,L.isSignAt s=true) (h:L.canShow r=true):∃g,L.display [r]=some g∧Told L.copies (L.spots [r]) g:=by
 refine⟨L.fill (L.spots [r]) L.allCopies,?_,?_⟩
 ·unfold Locker.display
  exact if_pos h
 ·have:=Oc (P0 hw hr) h
  rw[OA] at this
  exact this
end Fm
end
section
set_option maxRecDepth 100000
namespace Fm
open Flags
def greedy:(Nat→Nat)→List Spot→Option (List Nat)
 | _,[]=>some []
 | c,p::l=>match (p.sign::p.may).find? (fun f=>decide (0 < c f)) with
  | none=>none
  | some f=>(greedy (dec c f) l).map (f::·)
def less (c:Nat→Nat) (g:List Nat):Nat→Nat:=fun k=>c k - g.count k
theorem less_nil (c:Nat→Nat):less c []=c:=funext fun k=>by unfold less;simp
theorem less_snoc (c:Nat→Nat) (g:List Nat) (f:Nat):less c (g++[f])=dec (less c g) f:=funext fun k=>by
 unfold less dec
 rw[Ti]
 by_cases e:k=f
 ·subst e
  rw[if_pos rfl]
  simp
  omega
 ·rw[if_neg e,Mf (fun q=>e q.symm)]
  simp
theorem IT (c:Nat→Nat) (a b:Nat):dec (dec c a) b=dec (dec c b) a:=funext fun k=>by
 unfold dec
 by_cases h1:k=a <;> by_cases h2:k=b <;> by_cases h3:a=b <;> simp[h1,h2,h3] <;> first | omega | (subst h1;simp_all) | (subst h2;simp_all) | skip
theorem Kz {s f f':Nat}:∀{l:List Spot}{c:Nat→Nat}{g:List Nat},(∀q∈l,(f=q.sign∨f∈q.may)→f'∈q.may∧q.sign=s)→f≠f'→0 < c f→CO (dec c f') l g→0 < c f'→∃g',CO (dec c f) l g'∧ns l g'≤ns l g+(if f=s then 1 else 0)
 | [],c,[],_,_,_,_,_=>⟨[],trivial,A5 _⟩
 | p::l,c,x::g,hall,ne,h0,⟨hx0,hx1,hx2⟩,h0'=>by
  by_cases ex:x=f
  ·subst ex
   obtain⟨m1,m2⟩:=hall p AU hx1
   refine⟨f'::g,⟨?_,.inr m1,?_⟩,?_⟩
   ·rw[Cw ne.symm];exact h0'
   ·rw[IT];exact hx2
   ·show(if f'=p.sign then 0 else 1)+ns l g≤(if x=p.sign then 0 else 1)+ns l g+_
    rw[m2]
    split <;> split <;> omega
  ·by_cases ex':x=f'
   ·subst ex'
    rw[Gz] at hx0
    obtain⟨g',i1,i2⟩:=Kz (s:=s) (f:=f) (f':=x) (l:=l) (c:=dec c x) (g:=g) (fun q hq=>hall q (Ao _ hq)) ne (by rw[Cw ne];exact h0) hx2 (by rw[Gz];exact hx0)
    refine⟨x::g',⟨by rw[Cw ne.symm];exact h0',hx1,by rw[IT];exact i1⟩,?_⟩
    show(if x=p.sign then 0 else 1)+ns l g'≤(if x=p.sign then 0 else 1)+ns l g+_
    omega
   ·rw[Cw ex'] at hx0
    obtain⟨g',i1,i2⟩:=Kz (s:=s) (f:=f) (f':=f') (l:=l) (c:=dec c x) (g:=g) (fun q hq=>hall q (Ao _ hq)) ne (by rw[Cw (fun q=>ex q.symm)];exact h0) (by rw[IT];exact hx2) (by rw[Cw (fun q=>ex' q.symm)];exact h0')
    refine⟨x::g',⟨by rw[Cw ex];exact hx0,hx1,by rw[IT];exact i1⟩,?_⟩
    show(if x=p.sign then 0 else 1)+ns l g'≤(if x=p.sign then 0 else 1)+ns l g+_
    omega
 | [],_,_::_,_,_,_,h,_=>nomatch h
 | _::_,_,[],_,_,_,h,_=>nomatch h
theorem Y8 {K S:List Nat}{c:Nat→Nat}{p:Spot}{l:List Spot}{f f':Nat}{g:List Nat} (N:Nest K S (p::l)) (hf:f=p.sign∨f∈p.may) (hf':f'∈p.may) (ne:f≠f') (h0:0 < c f) (h:CO c (p::l) (f'::g)):
  ∃g',CO (dec c f) l g'∧ns l g'≤ns l g+(if f=p.sign then 1 else 0):=by
 obtain⟨a1,a2,a3⟩:=h
 refine Kz (fun q hq hfq=>?_) ne h0 a3 a1
 have hqm:q∈p::l:=Ao _ hq
 have es:q.sign=p.sign:=by
  rcases hf with hf | hf
  ·rcases hfq with e | e
   ·rw[← e,hf]
   ·exact absurd (N.inK q hqm f e) (hf▸N.out AU)
  ·rcases hfq with e | e
   ·exact absurd (N.inK p AU f hf) (e▸N.out hqm)
   ·exact N.one q hqm p AU f e hf
 exact⟨N.later hq es hf',es⟩
theorem O2 {K S:List Nat}:∀{l:List Spot}{c:Nat→Nat},Nest K S l→(greedy c l=none→∀g,¬CO c l g)∧(∀h,greedy c l=some h→Told c l h)
 | [],c,_=>by
  refine⟨fun h=>(nomatch h),fun h e=>?_⟩
  cases e
  refine⟨trivial,fun g hg=>?_⟩
  cases g with
  | nil=>exact .inr ⟨rfl,trivial⟩
  | cons _ _=>exact nomatch hg
 | p::l,c,N=>by
  have asc:=N.asc p AU
  unfold greedy
  cases hfd:(p.sign::p.may).find? (fun f=>decide (0 < c f)) with
  | none =>
   have hn:=Tr.mp hfd
   refine⟨fun _ g hg=>?_,fun h e=>(nomatch e)⟩
   cases g with
   | nil=>exact nomatch hg
   | cons f g=>exact hn f (AS.mpr hg.2.1) (decide_eq_true hg.1)
  | some f =>
   have hfm:f=p.sign∨f∈p.may:=AS.mp (T1 hfd)
   have hf0:0 < c f:=by
    have:=Ts hfd
    exact of_decide_eq_true this
   obtain⟨ih1,ih2⟩:=O2 (l:=l) (c:=dec c f) N.tail
   have other:∀{f':Nat} {g:List Nat},CO c (p::l) (f'::g)→f'=f∨(f'∈p.may∧f < f'):=fun {f' g} hg=>by
    obtain⟨g1,g2,_⟩:=hg
    by_cases e:f'=f
    ·exact .inl e
    ·right
     obtain⟨as,bs,e1,e2⟩:=(List.find?_eq_some_iff_append.mp hfd).2
     have hm:f'∈p.sign::p.may:=AS.mpr g2
     rw[e1] at hm asc
     have hlt:f < f':=by
      rcases C9.mp hm with z | z
      ·have:=e2 f' z
       simp only[Bool.not_eq_true',decide_eq_false_iff_not] at this
       exact absurd g1 this
      ·rcases AS.mp z with z | z
       ·exact absurd z e
       ·exact(EI.mp (Mt.mp asc).2.1).1 f' z
     refine⟨?_,hlt⟩
     rcases g2 with z | z
     ·have:f∈p.may∨f=p.sign:=hfm.symm
      rcases this with w | w
      ·have:=(EI.mp (N.asc p AU)).1 f w
       omega
      ·omega
     ·exact z
   have move:∀{f':Nat} {g:List Nat},CO c (p::l) (f'::g)→∃g',CO (dec c f) l g'∧((f'=f∧g'=g)∨(f < f'∧f'∈p.may∧ns l g'≤ns l g+(if f=p.sign then 1 else 0))):=fun {f' g} hg=>by
    rcases other hg with e | ⟨m,lt⟩
    ·subst e
     exact⟨g,hg.2.2,.inl ⟨rfl,rfl⟩⟩
    ·obtain⟨g',i1,i2⟩:=Y8 N hfm m (by omega) hf0 hg
     exact⟨g',i1,.inr ⟨lt,m,i2⟩⟩
   constructor
   ·intro e g hg
    have e:(greedy (dec c f) l).map (f::·)=none:=e
    cases g with
    | nil=>exact nomatch hg
    | cons f' g =>
     obtain⟨g',i1,_⟩:=move hg
     exact ih1 (Option.map_eq_none_iff.mp e) g' i1
   ·intro h e
    have e:(greedy (dec c f) l).map (f::·)=some h:=e
    obtain⟨h',e1,e2⟩:=Ga.mp e
    subst e2
    obtain⟨t1,t2⟩:=ih2 h' e1
    refine⟨⟨hf0,hfm,t1⟩,fun g hg=>?_⟩
    cases g with
    | nil=>exact nomatch hg
    | cons f' g =>
     obtain⟨g',i1,i2⟩:=move hg
     have t:=t2 g' i1
     show(if f=p.sign then 0 else 1)+ns l h' < (if f'=p.sign then 0 else 1)+ns l g∨((if f=p.sign then 0 else 1)+ns l h'=(if f'=p.sign then 0 else 1)+ns l g∧(f < f'∨(f=f'∧Fw h' g)))
     rcases i2 with ⟨e3,e4⟩ | ⟨lt,m,le⟩
     ·subst e3 e4
      rcases t with t | ⟨t,t'⟩
      ·left;omega
      ·right;exact⟨by omega,.inr ⟨rfl,t'⟩⟩
     ·rw[if_neg (Iv N m)]
      have:ns l h'≤ns l g':=by rcases t with t | t <;> omega
      by_cases es:f=p.sign
      ·rw[if_pos es] at le ⊢
       by_cases eq:0+ns l h'=1+ns l g
       ·exact .inr ⟨eq,.inl lt⟩
       ·left;omega
      ·rw[if_neg es] at le ⊢
       by_cases eq:1+ns l h'=1+ns l g
       ·exact .inr ⟨eq,.inl lt⟩
       ·left;omega
theorem display_greedy {L:Locker}{r:List Nat} (hw:Fb.Wf L.kinds) (hr:∀s∈r,L.isSignAt s=true):L.display [r]=greedy L.copies (L.spots [r]):=by
 have N:=P0 hw hr
 obtain⟨g1,g2⟩:=O2 (c:=L.copies) N
 cases hc:L.canShow r with
 | true =>
  obtain⟨g,e1,t1⟩:=Vt hw hr hc
  cases hg:greedy L.copies (L.spots [r]) with
  | none=>exact absurd t1.1 (g1 hg g)
  | some h=>rw[e1,Told.unique t1 (g2 h hg)]
 | false =>
  have e1:L.display [r]=none:=by
   unfold Locker.canShow at hc
   unfold Locker.display
   rw[hc]
   rfl
  rw[e1]
  cases hg:greedy L.copies (L.spots [r]) with
  | none=>rfl
  | some h =>
   have:=(WC (left:=L.allCopies) N).mpr ⟨h,by rw[OA];exact(g2 h hg).1⟩
   unfold Locker.canShow at hc
   rw[hc] at this
   cases this
theorem canShow_display (L:Locker) (r:List Nat):L.canShow r=(L.display [r]).isSome:=by
 unfold Locker.canShow Locker.display
 cases L.enough L.allCopies (L.spots [r]) <;> rfl
theorem greedy_len:∀{l:List Spot}{c:Nat→Nat}{h:List Nat},greedy c l=some h→h.length=l.length
 | [],c,h,e=>by cases e;rfl
 | p::l,c,h,e=>by
  unfold greedy at e
  split at e
  ·cases e
  ·obtain⟨h',e1,e2⟩:=Ga.mp e
   subst e2
   rw[Bu,Bu,greedy_len e1]
end Fm
end
section
set_option maxRecDepth 100000
namespace Fb
open Flags (Bytes Fault cutAt)
end Fb
end
section
set_option maxRecDepth 100000
namespace Fb
open Flags (Bytes Row Entry Act Book rowBefore before putEntry)
end Fb
namespace Fm
open Flags
end Fm
end
section
set_option maxRecDepth 100000
namespace Fb
open Flags (Bytes cutAt)
end Fb
end
section
set_option maxRecDepth 100000
namespace Fb
open Flags (Bytes Entry Act)
abbrev TB:=List Nat×Bytes
end Fb
end
section
set_option maxRecDepth 100000
namespace Fb
open Flags (Bytes Entry Act)
end Fb
end
section
set_option maxRecDepth 100000
namespace Fb
open Flags (Bytes Row Entry Act Book rowBefore betweenFrom)
end Fb
end
section
namespace Fb
open Flags
end Fb
end
section
namespace Fb
open PySem
def top (i:Nat):Stmt:=Dy.main.body.getD i (.Pass ⟨0,0,0,0⟩)
abbrev Ru:Stmt:=top 1
abbrev Rb:Stmt:=top 2
abbrev Rc:Stmt:=top 3
abbrev RW:Stmt:=top 4
abbrev Rv:Stmt:=top 10
abbrev SE:Stmt:=top 11
abbrev Rk:Stmt:=top 12
abbrev Rj:Stmt:=top 13
abbrev Rl:Stmt:=top 14
abbrev Ry:Stmt:=top 15
abbrev Ra:Stmt:=top 16
abbrev RY:Stmt:=top 17
abbrev RQ:Stmt:=top 30
abbrev RP:Stmt:=top 31
abbrev Ri:Stmt:=top 32
abbrev R8:Stmt:=top 33
abbrev Rx:Stmt:=top 34
abbrev Rn:Stmt:=top 35
abbrev Ro:Stmt:=top 36
abbrev Rf:Stmt:=top 37
abbrev SA:Stmt:=top 38
abbrev R3:Stmt:=top 39
abbrev Rm:Stmt:=top 40
abbrev R7:Stmt:=top 41
abbrev SF:Stmt:=top 42
abbrev SG:Stmt:=top 43
abbrev R4:Stmt:=top 45
abbrev R0:Stmt:=top 46
abbrev Rz:Stmt:=top 49
abbrev RR:Stmt:=top 62
abbrev RS:Stmt:=top 63
abbrev SD:Stmt:=top 64
abbrev R9:Stmt:=top 65
abbrev Rw:Stmt:=top 66
abbrev Rt:Stmt:=top 67
abbrev Rr:Stmt:=top 68
abbrev RX:Stmt:=top 69
abbrev Rg:Stmt:=top 70
abbrev Rh:Stmt:=top 71
abbrev Rq:Stmt:=top 72
abbrev RV:Stmt:=top 73
abbrev SH:Stmt:=top 74
abbrev R5:Stmt:=top 76
abbrev Rp:Stmt:=top 77
abbrev RT:Stmt:=top 86
abbrev R6:Stmt:=top 87
abbrev R1:Stmt:=top 88
abbrev RZ:Stmt:=top 89
end Fb
end
section
set_option maxRecDepth 100000
set_option maxHeartbeats 4000000
namespace Fb
open PySem PySem.Spec PyProof.Rows L2
open PySem.W (Codec)
def Has (P:Program) (w:World) (K:AA) (mg:Str→Option Value) (x:Str) (k:Nat) (ps:List Str) (sp:Sp):Prop :=
 ∃(f:Addr) (fd:FuncData),mg x=some (.ref f)∧FX K (.ref f)=true∧Binds K fd ps []∧∀base:Heap,FnOk P w K mg base CX0 k f fd ps sp
structure Def (K:AA) (mg:Str→Option Value) (x nm qual:Str) (st:Stmt) (ps:List Str) (f:Addr) (fd:FuncData):Prop where
 fn:Fun K nm qual st f fd
 at_:mg x=some (.ref f)
 bd:Binds K fd ps []
section
variable {P:Program}{w:World}{K:AA}{mg:Str→Option Value}
theorem Def.has {x nm qual:Str}{st:Stmt}{ps:List Str}{f:Addr}{fd:FuncData}{k:Nat}{sp:Sp} (D:Def K mg x nm qual st ps f fd) (h:∀base:Heap,FnOk P w K mg base CX0 k f fd ps sp):Has P w K mg x k ps sp :=
 ⟨f,fd,D.at_,D.fn.kp,D.bd,h⟩
end
theorem AN {X:Cx}{k:Nat}{ps:List Str}{sp:Sp}{x:Str}{p pos:Pos}{e:Expr}{es:List Expr}{t:TA} (h:Has X.prog X.w X.K X.mg x k ps sp) (hr:Room k X.A) (hg:Gl X x) (ha:PA X (e::es) t)
  (hdb:(x==("__debug__":Str))=false:=by decide) (he:starEach (e::es) X.env=(false,eval e X.env)::starEach es X.env:=by rfl) (hpl:(backTo pos (starEach es X.env)).any (·.1)=false:=by rfl):
  PE X (.Call (.Name x p) (e::es) [] pos) (JQ sp [] E0 t):=by
 obtain⟨f,fd,h1,h2,h3,h4⟩:=h
 exact QI (h4 X.base) hr hg h1 h2 h3 .nil F3 ha hdb he hpl
theorem _root_.L2.Same.new {H H':Hp} (s:Same H H') {p:Addr}{o:HO} (h:H' p=none):Same H (upd H' p o):=fun b u e=>by
 rw[AE (Am (s b u e) h)]
 exact s b u e
theorem _root_.L2.Same.wr {H H':Hp} (s:Same H H') {p:Addr}{o:HO} (h:H p=none):Same H (upd H' p o):=fun b u e=>by
 rw[AE (Am e h)]
 exact s b u e
theorem Bo {n:Nat} (h:n < 1000000):n < sizeLine:=BV h (by decide)
theorem CC {n:Nat} (h:n < 1000000):n≤sizeLine:=Hq (Bo h)
theorem HJ {α β:Type}{F:α→β→Prop}:∀{l₁:List α}{l₂:List β}{a:α}{b:β},Paired F l₁ l₂→F a b→Paired F (l₁++[a]) (l₂++[b])
 | _,_,_,_,.nil,h=>.cons h .nil
 | _,_,_,_,.cons r t,h=>.cons r (HJ t h)
theorem CU {α β:Type}{F:α→β→Prop}:∀{l₁:List α}{l₂:List β},Paired F l₁ l₂→l₁.length=l₂.length
 | _,_,.nil=>rfl
 | _,_,.cons _ t=>congrArg (·+1) (CU t)
theorem LZ {α β:Type}{F:α→β→Prop}:∀{l₁:List α}{l₂:List β}{a:α},Paired F l₁ l₂→a∈l₁→∃b,b∈l₂∧F a b
 | _,_,_,.nil,h=>by cases h
 | _,_,a,.cons r t,h=>by
  rcases AS.mp h with e | h
  ·subst e;exact⟨_,AU,r⟩
  ·obtain⟨b,hb,q⟩:=LZ t h
   exact⟨b,Ao _ hb,q⟩
theorem HI {α β:Type}{F G:α→β→Prop}:∀{l₁:List α}{l₂:List β},Paired F l₁ l₂→(∀a b,a∈l₁→F a b→G a b)→Paired G l₁ l₂
 | _,_,.nil,_=>.nil
 | _,_,.cons r t,f=>.cons (f _ _ AU r) (HI t fun a b m=>f a b (Ao _ m))
theorem JS {α:Type}:∀{l:List α}{i:Nat}{x:α},l[i]?=some x→l.take (i+1)=l.take i++[x]
 | [],i,x,h=>by simp at h
 | a::l,0,x,h=>by
  have e:a=x:=Ae h
  subst e
  rfl
 | a::l,i+1,x,h=>by
  have ih:=JS (l:=l) (i:=i) (x:=x) h
  show a::l.take (i+1)=a::l.take i++[x]
  rw[ih]
  rfl
theorem D7 {ns:List Int}{i:Nat}{y:V} (h:(ns.map V.int)[i]?=some y):∃z,ns[i]?=some z∧y=V.int z:=by
 rw[Ah] at h
 cases e:ns[i]? with
 | none=>rw[e] at h;cases h
 | some z=>rw[e] at h;exact⟨z,rfl,(Ae h).symm⟩
abbrev RH:Stmt:=SE
def EE (K:AA):Sp:=fun vs H Q _=>∃(a:Addr) (m:Int) (ns:List Int),vs=[.int m,.ref a]∧SqL K H a (ns.map V.int)∧ns.length < 100000∧
 ∀(H':Hp) (p:Addr) (as:List Addr),Same H H'→H p=none→(∀b∈as,H b=none)→H' p=some (.lst (as.map V.ref))→Paired (fun a ps=>H' a=some (.lst (ps.map V.int))) as (Ai m ns)→Q (.ref p) H'
theorem scSplit:AY ["mark","values","parts","part","value"] ["mark","values"] (AK RH):=⟨rfl,rfl,rfl,by decide +kernel,rfl,by decide +kernel,by decide +kernel⟩
section
variable {P:Program}{w:World}{K:AA}{mg:Str→Option Value}{base:Heap}
theorem ok_split {f:Addr}{fd:FuncData} (F:Fun K "split_at" "split_at" RH f fd):FnOk P w K mg base CX0 1 f fd ["mark","values"] (EE K):=by
 refine F.ok scSplit (fun vs H Q E h=>?_) (fun cdv A outer s H vs Q E hr h=>?_)
 ·obtain⟨a,m,ns,rfl,_⟩:=h
  rfl
 ·obtain⟨a,m,ns,rfl,hS,hlen,k⟩:=h
  refine⟨_,AJ (BB (i:=2) scSplit.nd rfl (AZ rfl) (A7 AD)) (AJ (BB (i:=3) scSplit.nd rfl (AZ rfl) (A7 AD))
   (AJ (FC FV rfl (Dm (pv 1)) (Bq (i:=4) scSplit.nd rfl (AZ rfl))
    (AH (Al (Ac BZ (pv 4) (pv 0) (AR _))
     (AJ (FA (Eb Er Gg Gh Fz (pv 2) (AB (pv 3) AD))) (AH (BB (i:=3) scSplit.nd rfl (AZ rfl) (A7 AD))))
     (AH (FA (Eb Er Gg Gh Fz (pv 3) (AB (pv 4) AD)))))))
   (AJ (FA (Eb Er Gg Gh Fz (pv 2) (AB (pv 3) AD)))
   (AH (AL (pv 2)))))),?_⟩
  refine⟨A5 _,fun ap nap=>⟨A5 _,fun q nq=>?_⟩⟩
  have s1:Same H (upd (upd H ap (.lst [])) q (.lst [])):=(Same.new (Same.refl H) nap).new nq
  have nq0:H q=none:=(Same.new (Same.refl H) nap).free nq
  have apq:ap≠q:=Am AI nq
  refine⟨_,rfl,a,rfl,⟨_,s1.seq hS⟩,Oi (K:=K) (a:=a) (xs:=ns.map V.int)
   (fun i σ H'=>∃(v:Option V) (q:Addr) (as:List Addr) (done:List (List Int)) (p:List Int),σ=[some (.int m),some (.ref a),some (.ref ap),some (.ref q),v]∧Ai m (ns.take i)=done++[p]∧H q=none∧ap≠q∧ap∉as∧q∉as∧(∀b∈as,H b=none)∧
    H' ap=some (.lst (as.map V.ref))∧H' q=some (.lst (p.map V.int))∧Paired (fun a ps=>H' a=some (.lst (ps.map V.int))) as done∧Same H H')
   ⟨none,q,[],[],[],rfl,rfl,nq0,apq,by simp,by simp,by simp,by rw[AE apq];exact AI,AI,.nil,s1⟩ (fun i σ H' _ ⟨_,_,_,_,_,_,_,_,_,_,_,_,_,_,_,s5⟩=>s5.seq hS) ?_ ?_⟩
  ·rintro i y σ H' hi ⟨v,q,as,done,p,rfl,hc,nq,hpq,hpas,hqas,fas,hap,hq,hpa,s2⟩
   obtain⟨z,hz,rfl⟩:=D7 hi
   have hlt:i < ns.length:=(Bf.mp hz).1
   have ht:(ns.take i).length=i:=by rw[EG];omega
   have hcl:=Fl m (ns.take i)
   rw[hc,ht] at hcl
   have hpl:=EA m (ns.take i) p (by rw[hc];simp)
   rw[ht] at hpl
   have hal:=CU hpa
   have hcs:=IP m z _ _ _ hc
   rw[← JS hz] at hcs
   refine⟨_,rfl,_,rfl,rfl,_,rfl,?_⟩
   refine ET (fun hz0=>?_) (fun hz0=>?_)
   ·have ezm:z=m:=by simpa using hz0
    rw[if_pos ezm] at hcs
    refine⟨_,rfl,.inl ⟨rfl,_,SqL.of hap⟩,_,rfl,ap,_,_,rfl,rfl,hap,Bo (by simp at hcl ⊢;omega),?_⟩
    refine⟨A5 _,fun q' nq'=>?_⟩
    have hq1:upd H' ap (.lst (as.map V.ref++[V.ref q])) q=some (.lst (p.map V.int)):=by rw[AE (Ap hpq)];exact hq
    have apn:ap≠q':=Am AI nq'
    have nqq:q≠q':=Am hq1 nq'
    have s3:Same H (upd H' ap (.lst (as.map V.ref++[V.ref q]))):=s2.wr nap
    refine⟨some (.int z),q',as++[q],done++[p],[],rfl,hcs,s3.free nq',apn,?_,?_,?_,?_,AI,?_,s3.new nq'⟩
    ·simp;exact⟨hpas,hpq⟩
    ·intro hm
     rcases C9.mp hm with hm | hm
     ·obtain⟨ps,_,e⟩:=LZ hpa hm
      have:q'≠ap:=Ap apn
      rw[AE this,e] at nq'
      cases nq'
     ·simp at hm;exact nqq hm.symm
    ·intro b hb
     rcases C9.mp hb with hb | hb
     ·exact fas b hb
     ·simp at hb;subst hb;exact nq
    ·rw[AE apn,AI,CV];rfl
    ·refine HJ (HI hpa fun b ps hb e=>?_) ?_
     ·have b1:b≠ap:=fun z=>hpas (z▸hb)
      have b2:b≠q':=by
       intro z
       rw[← z,AE b1,e] at nq'
       cases nq'
      rw[AE b2,AE b1];exact e
     ·show upd _ _ _ q=_
      rw[AE nqq];exact hq1
   ·have ezm:¬z=m:=by simpa using hz0
    rw[if_neg ezm] at hcs
    refine⟨_,rfl,.inl ⟨rfl,_,SqL.of hq⟩,_,rfl,q,_,_,rfl,rfl,hq,Bo (by rw[AG];omega),?_⟩
    refine⟨some (.int z),q,as,done,p++[z],rfl,hcs,nq,hpq,hpas,hqas,fas,?_,?_,?_,s2.wr nq⟩
    ·rw[AE hpq];exact hap
    ·rw[AI,CV];rfl
    ·refine HI hpa fun b ps hb e=>?_
     have b1:b≠q:=fun z=>hqas (z▸hb)
     rw[AE b1];exact e
  ·rintro σ H' ⟨v,q,as,done,p,rfl,hc,nq,hpq,hpas,hqas,fas,hap,hq,hpa,s2⟩
   rw[AG,Ju] at hc
   have hcl:=Fl m ns
   rw[hc] at hcl
   have hal:=CU hpa
   refine⟨_,rfl,.inl ⟨rfl,_,SqL.of hap⟩,_,rfl,ap,_,_,rfl,rfl,hap,Bo (by simp at hcl ⊢;omega),?_⟩
   refine⟨_,rfl,k _ ap (as++[q]) (s2.wr nap) nap ?_ ?_ ?_⟩
   ·intro b hb
    rcases C9.mp hb with hb | hb
    ·exact fas b hb
    ·simp at hb;subst hb;exact nq
   ·rw[AI,CV];rfl
   ·rw[hc]
    refine HJ (HI hpa fun b ps hb e=>?_) ?_
    ·have b1:b≠ap:=fun z=>hpas (z▸hb)
     rw[AE b1];exact e
    ·rw[AE (Ap hpq)];exact hq
end
end Fb
end
section
set_option maxRecDepth 100000
set_option maxHeartbeats 4000000
namespace Fb
open PySem PySem.Spec PyProof.Rows L2
open PySem.W (Codec)
theorem LC {J:It}{n:Nat}{g:TG}{tt:TT}{te:TE}{vs:List Nat}{σ:L2.St}{H1:Hp}{D:Addr}{Qd:Hp→Prop} (Pv:Nat→Hp→Prop) (h0:Pv 0 (upd H1 D (.lst [])))
  (hgo:∀i H,i < n→Pv i H→J.go i H) (hst:∀H,Pv n H→J.stop n H)
  (hs:∀i x H H',i < n→Pv i H→J.yld i H x H'→g x (BC σ vs) H' fun σ2 H2=>BC σ2 vs=BC σ vs∧tt σ2 H2 fun b H3 =>
   if b=true then te σ2 H3 fun y H4=>∃acc,H4 D=some (.lst acc)∧acc.length < sizeLine∧Pv (i+1) (upd H4 D (.lst (acc++[y]))) else Pv (i+1) H3) (hd:∀H,Pv n H→Qd H):
  ∃W:Nat→Nat→Hp→Prop,(∃m,W 0 m (upd H1 D (.lst [])))∧∀i m H,W i m H→
   (J.stop i H∧Qd H)∨(J.go i H∧∃Nx:Hp→Prop,(∀H',Nx H'→∃m',m' < m∧W (i+1) m' H')∧∀x H',J.yld i H x H'→g x (BC σ vs) H' fun σ2 H2=>BC σ2 vs=BC σ vs∧tt σ2 H2 fun b H3 =>
    if b=true then te σ2 H3 fun y H4=>∃acc,H4 D=some (.lst acc)∧acc.length < sizeLine∧Nx (upd H4 D (.lst (acc++[y]))) else Nx H3):=by
 refine⟨fun i m H=>i+m=n∧Pv i H,⟨n,by omega,h0⟩,fun i m H ⟨e,p⟩=>?_⟩
 by_cases hi:i < n
 ·refine .inr ⟨hgo i H hi p,Pv (i+1),fun H' q=>⟨m - 1,by omega,by omega,q⟩,fun x H' y=>hs i x H H' hi p y⟩
 ·have:i=n:=by omega
  subst this
  exact .inl ⟨hst H p,hd H p⟩
theorem G3 {J:It}{n:Nat}{g:TG}{tb:TS}{D:Ex}{σ:L2.St}{H:Hp} (Pv:Nat→L2.St→Hp→Prop) (h0:Pv 0 σ H)
  (hgo:∀i σ H,i < n→Pv i σ H→J.go i H) (hst:∀σ H,Pv n σ H→J.stop n H)
  (hs:∀i x σ H H',i < n→Pv i σ H→J.yld i H x H'→g x σ H' fun σ2 H2=>tb { D with nx:=Pv (i+1),ct:=Pv (i+1),bk:=D.nx } σ2 H2) (hd:∀σ H,Pv n σ H→D.nx σ H):
  ∃W:Nat→Nat→L2.St→Hp→Prop,(∃m,W 0 m σ H)∧∀i m σ H,W i m σ H→
   (J.stop i H∧D.nx σ H)∨(J.go i H∧∃N:L2.St→Hp→Prop,(∀σ' H',N σ' H'→∃m',m' < m∧W (i+1) m' σ' H')∧∀x H',J.yld i H x H'→g x σ H' fun σ2 H2=>tb { D with nx:=N,ct:=N,bk:=D.nx } σ2 H2):=by
 refine⟨fun i m σ H=>i+m=n∧Pv i σ H,⟨n,by omega,h0⟩,fun i m σ H ⟨e,p⟩=>?_⟩
 by_cases hi:i < n
 ·refine .inr ⟨hgo i σ H hi p,Pv (i+1),fun σ' H' q=>⟨m - 1,by omega,by omega,q⟩,fun x H' y=>hs i x σ H H' hi p y⟩
 ·have:i=n:=by omega
  subst this
  exact .inl ⟨hst σ H p,hd σ H p⟩
theorem D9 {J:It}{n:Nat}{g:TG}{te:TE}{vs:List Nat}{σ:L2.St}{H1:Hp}{D:Addr}{Qd:Hp→Prop} (ys:List V) (hn:ys.length=n) (hsz:n < sizeLine) (hD:H1 D=none)
  (hgo:∀i H,i < n→Same H1 H→J.go i H) (hst:∀H,Same H1 H→J.stop n H)
  (hs:∀i x y H H',ys[i]?=some y→Same H1 H→J.yld i H x H'→∀R:VK,(∀H4,Same H H4→R y H4)→g x (BC σ vs) H' fun σ2 H2=>BC σ2 vs=BC σ vs∧te σ2 H2 R) (hd:∀H,Same H1 H→H D=some (.lst ys)→Qd H):
  ∃W:Nat→Nat→Hp→Prop,(∃m,W 0 m (upd H1 D (.lst [])))∧∀i m H,W i m H→
   (J.stop i H∧Qd H)∨(J.go i H∧∃Nx:Hp→Prop,(∀H',Nx H'→∃m',m' < m∧W (i+1) m' H')∧∀x H',J.yld i H x H'→g x (BC σ vs) H' fun σ2 H2=>BC σ2 vs=BC σ vs∧FE σ2 H2 fun b H3 =>
    if b=true then te σ2 H3 fun y H4=>∃acc,H4 D=some (.lst acc)∧acc.length < sizeLine∧Nx (upd H4 D (.lst (acc++[y]))) else Nx H3):=by
 refine LC (n:=n) (tt:=FE) (te:=te) (fun i H=>Same H1 H∧H D=some (.lst (ys.take i))) ⟨(Same.refl H1).new hD,AI⟩ (fun i H hi p=>hgo i H hi p.1) (fun H p=>hst H p.1) (fun i x H H' hi p y=>?_) (fun H p=>hd H p.1 ?_)
 ·obtain⟨z,hz⟩:∃z,ys[i]?=some z:=⟨_,BD (by omega)⟩
  have q:=hs i x z H H' hz p.1 y (fun y H4=>∃acc,H4 D=some (.lst acc)∧acc.length < sizeLine∧(Same H1 (upd H4 D (.lst (acc++[y])))∧upd H4 D (.lst (acc++[y])) D=some (.lst (ys.take (i+1))))) fun H4 s4=>?_
  ·have e2:(fun σ2 H2=>BC σ2 vs=BC σ vs∧FE σ2 H2 fun b H3=>if b=true then te σ2 H3 fun y H4=>∃acc,H4 D=some (.lst acc)∧acc.length < sizeLine∧(Same H1 (upd H4 D (.lst (acc++[y])))∧upd H4 D (.lst (acc++[y])) D=some (.lst (ys.take (i+1)))) else (Same H1 H3∧H3 D=some (.lst (ys.take (i+1)))))=
     fun σ2 H2=>BC σ2 vs=BC σ vs∧te σ2 H2 fun y H4=>∃acc,H4 D=some (.lst acc)∧acc.length < sizeLine∧(Same H1 (upd H4 D (.lst (acc++[y])))∧upd H4 D (.lst (acc++[y])) D=some (.lst (ys.take (i+1)))):=by
    funext σ2 H2
    simp only[FE,if_true]
   rw[e2]
   exact q
  ·refine⟨_,s4 _ _ p.2,by rw[EG];omega,(p.1.trans s4).wr hD,?_⟩
   rw[AI,JS hz]
 ·have:=p.2
  rw[← hn,Ju] at this
  exact this
theorem EU {K:AA}{a:Addr}{xs:List V}{i:Nat}{H:Hp} (h:SqL K H a xs) (hi:i < xs.length):(Itl K a).go i H:=by
 first | exact⟨xs,_,h,BD hi⟩ | exact⟨xs,h,hi⟩
theorem EV {K:AA}{a:Addr}{xs:List V}{H:Hp} (h:SqL K H a xs):(Itl K a).stop xs.length H:=⟨xs,h,AV _⟩
end Fb
end
section
set_option maxRecDepth 100000
set_option maxHeartbeats 4000000
namespace Fb
open PySem PySem.Spec PyProof.Rows L2
open PySem.AutoSeq1 (wpAny_loadPart')
theorem OC (k:Int):∀{ns:List Int}{us:List Value},Vals (ns.map V.int) us→us.countP (eqU (.int k))=ns.count k
 | [],_,r=>by rw[FQ] at r;cases r;rfl
 | n::ns,_,r=>by
  rw[Au] at r
  cases r with
  | cons h t =>
   rw[List.countP_cons,List.count_cons,OC k t,G0 h rfl]
   rfl
theorem XD {X:Cx}:MtR X "list.count" (fun x xs H Q=>∃(a:Addr) (ns:List Int) (k:Int),x=.ref a∧xs=[.int k]∧SqL X.K H a (ns.map V.int)∧Q (.int (ns.count k:Nat)) H):=by
 intro pins s σ H x xs v us Q I rx rxs h
 obtain⟨a,ns,k,rfl,rfl,hs,q⟩:=h
 cases rx
 obtain⟨uy,rfl,ry⟩:=HZ rxs
 obtain⟨its,rv,⟨⟨cls,dd,data,sl⟩,n,ho,hc,hdn,hd⟩,hlen⟩:=I.list hs
 simp only at hc hd
 subst hc hd
 refine KI UY ⟨_,ho,rfl⟩ PySem.F.entry_list_count (PySem.F.args_list_count_2 _ _)
  (SeqAt.list_countAt a its.toArray n dd sl uy (eqU (.int k))) ⟨ho,fun u' hu'=>HD ry rfl rv (by simp[CT]) u' (by simpa using hu'),?_⟩
 rw[show its.toArray.toList=its from rfl,OC k rv]
 exact⟨.int (ns.count k:Nat),H,I.tok _,⟨_,rfl⟩,q⟩
theorem WM (l b:Addr) (U W:Array Value) (n n2:Nat) (e1 e2:Option Addr) (c1 c2:Array (Option Value)) (ns ms:List Int) (hi:IntsAre U.toList ns) (hj:IntsAre W.toList ms) (k:Nat):
  ∀i:Nat,U.size - i=k→i≤U.size→i≤W.size→Meets (Builtin.«list.__eq__.loop» ⟨[.ref l,.ref b,rawInt i,rawInt 4],[]⟩)
   (fun A R s=>s.heap.get? l=some { cls:=.type "list",dict:=e1,data:=.seq U n,slots:=c1 }∧s.heap.get? b=some { cls:=.type "list",dict:=e2,data:=.seq W n2,slots:=c2 }∧
    R (.ok (.ret (.bool (HT.lexLt (ms.drop i) (ns.drop i))))) s):=by
 have z1:U.size=ns.length:=by rw[← hi.length];simp
 have z2:W.size=ms.length:=by rw[← hj.length];simp
 induction k with
 | zero =>
  intro i hk hiU hiW prog w A R s h
  obtain⟨hp,g,d,tk,os⟩:=s
  obtain⟨hl,hb,h⟩:=h
  wp_walk using Bw hl,Bw hb
  have q1:U[((i:Nat):Int).toNat]?=none:=by simp;omega
  have q2:ns.drop i=[]:=by apply Hi;omega
  rw[q2] at h
  rw[q1]
  have e:HT.lexLt (ms.drop i) []=false:=by cases ms.drop i <;> rfl
  rw[e] at h
  have q3:decide (U.size > W.size)=false:=decide_eq_false (by omega)
  split
  ·rename_i heq;cases heq
  ·wp_walk using Bw hl,Bw hb
   show R (.ok (.ret (.bool (decide (U.size > W.size))))) _
   rw[q3];exact h
 | succ k ih =>
  intro i hk hiU hiW prog w A R s h
  obtain⟨hp,g,d,tk,os⟩:=s
  obtain⟨hl,hb,h⟩:=h
  have l1:i < U.size:=by omega
  have q1:U[((i:Nat):Int).toNat]?=some U[i]:=by simp[l1]
  have d1:ns.drop i=ns[i]'(by omega)::ns.drop (i+1):=Hg (by omega)
  have hc:((i:Int)+1)=((i+1:Nat):Int):=by omega
  obtain⟨a,t,ua,ha⟩:=PyProof.Rows.IntsAre.at hi i U[i] (by simp[l1])
  have ha':ns[i]'(by omega)=a:=by
   have q:=ha
   rw[BD (by omega)] at q
   exact Ae q
  by_cases l2:i < W.size
  ·have q2:W[((i:Nat):Int).toNat]?=some W[i]:=by simp[l2]
   obtain⟨c,u,uc,hcm⟩:=PyProof.Rows.IntsAre.at hj i W[i] (by simp[l2])
   have hc':ms[i]'(by omega)=c:=by
    have q:=hcm
    rw[BD (by omega)] at q
    exact Ae q
   have d2:ms.drop i=ms[i]'(by omega)::ms.drop (i+1):=Hg (by omega)
   rw[d1,d2,HT.lexLt_cons,ha',hc'] at h
   wp_walk using Bw hl,Bw hb
   rw[q1,q2,ua,uc]
   obtain⟨e,he,hiff⟩:=HT.eqAt_int A.in1 ⟨hp,g,d,tk,os⟩ a t c u
   refine AF (he prog w _ _ ?_)
   cases e with
   | true =>
    rw[if_pos (hiff.mp rfl).symm] at h
    wp_walk
    rw[hc]
    exact⟨plainId_quiet J9 _,Ut Ud (by
     rw[UG J9 _]
     exact ih (i+1) (by omega) (by omega) (by omega) prog w A R _ ⟨hl,hb,h⟩)⟩
   | false =>
    rw[if_neg (fun q=>absurd (hiff.mpr q.symm) Af)] at h
    have hri:∀(E:Value→Shared→Prop) (Q:Value→Shared→Prop),Q (.bool (decide (c < a))) ⟨hp,g,d,tk,os⟩→wpAny (model prog w) A.in1 (richCompare .Gt (.int a t) (.int c u)) Q E ⟨hp,g,d,tk,os⟩:=fun E Q z =>
     (UD z:wpAny (model prog w) A.in1 (compareOp .Gt (.int a t) (.int c u)) Q E _)
    wp_walk using Bw hl,Bw hb
    rw[q1,q2,ua,uc]
    wp_walk using hri
    exact h
  ·have q2:W[((i:Nat):Int).toNat]?=none:=by simp;omega
   have d2:ms.drop i=[]:=Hi (by omega)
   rw[d1,d2,HT.lexLt_nil_cons] at h
   wp_walk using Bw hl,Bw hb
   rw[q1,q2]
   have q3:decide (U.size > W.size)=true:=decide_eq_true (by omega)
   wp_walk using Bw hl,Bw hb
   show R (.ok (.ret (.bool (decide (U.size > W.size))))) _
   rw[q3];exact h
theorem Wz (l b:Addr) (U W:Array Value) (n n2:Nat) (e1 e2:Option Addr) (c1 c2:Array (Option Value)) (ns ms:List Int) (hi:IntsAre U.toList ns) (hj:IntsAre W.toList ms):
  Meets (Builtin.«list.__gt__» ⟨[.ref l,.ref b],[]⟩)
   (fun A R s=>s.heap.get? l=some { cls:=.type "list",dict:=e1,data:=.seq U n,slots:=c1 }∧s.heap.get? b=some { cls:=.type "list",dict:=e2,data:=.seq W n2,slots:=c2 }∧
    R (.ok (.ret (.bool (HT.lexLt ms ns)))) s):=by
 intro prog w A R s h
 obtain⟨hp,g,d,tk,os⟩:=s
 obtain⟨hl,hb,h⟩:=h
 have f3:=AutoSeq1.sub_list_list
 wp_walk using Bw hl,Bw hb
 exact⟨plainId_quiet J9 _,Ut Ud (by
  rw[UG J9 _]
  exact WM l b U W n n2 e1 e2 c1 c2 ns ms hi hj _ 0 rfl (A5 _) (A5 _) prog w A R _ ⟨hl,hb,h⟩)⟩
theorem Kk {X:Cx}:D1 X (.builtin "len") (fun xs H Q=>∃a kvs,xs=[V.ref a]∧H a=some (.dT kvs)∧Q (.int kvs.length) H):=by
 intro pins s σ H xs us Q I r h
 obtain⟨a,kvs,rfl,ha,q⟩:=h
 obtain⟨u,rfl,ru⟩:=HZ r
 cases ru
 obtain⟨z,hd,xs,rel,o,es,ep,ho,hc,hdat,hk,_⟩:=OO I.hok ha
 have hl:es.size=kvs.length:=by
  rw[← JV,hk,AG]
  exact(CU rel).symm
 have ty:s.TypeIs (.ref a) "dict":=⟨o,ho,hc.1⟩
 refine Calls.call_function_entry kind_len plain_len entry_len (args_len1 _) ?_
 unfold Builtin.«len»
 refine AF (m:=oneArg "len" _) (AQ ?_)
 refine AF (m:=callSpecial? (.ref a) (Dz "__len__")) (Gk (name:=Dz "__len__") ty UX
  (Hx UX ty F.entry_dict_len (F.args_dict_len_1 _) (S:=fun _ R s'=>s'=s∧R (.ok (.ret (.int kvs.length s.toks))) { s with toks:=s.toks+1 }) (.of_wp fun A R s' ⟨e,h⟩=>?_) ⟨rfl,?_⟩))
 ·subst e
  show wpAny _ _ (dictSize a >>= _) _ _ s'
  unfold dictSize
  refine AF (AF (KN ho hdat (AQ ?_)))
  show wpAny _ _ (Builtin.Dict.pendingCount a >>= _) _ _ s'
  refine AF (wpAny_pendingCount_other hd (wpAny_ret_mkInt ?_))
  rw[Nat.add_zero,hl];exact h
 ·show wpAny _ _ _ _ _ { s with toks:=s.toks+1 }
  refine AF (Nb (AQ (AF (wpAny_letGo ?_))))
  have hz:(kvs.length:Int) < 2 ^ 63:=by rw[KL] at z;omega
  show wpAny _ _ (if ((kvs.length:Nat):Int) < 0 then _ else _) _ _ _
  rw[if_neg (by omega)]
  show wpAny _ _ (if ((kvs.length:Nat):Int) ≥ 2 ^ 63 then _ else _) _ _ _
  rw[if_neg (by omega)]
  exact AF (wpAny_mkInt (AQ ⟨_,rfl,⟨.int kvs.length,H,(I.tok _).tok _,⟨_,rfl⟩,q⟩⟩))
end Fb
end
section
set_option maxRecDepth 100000
set_option maxHeartbeats 4000000
namespace Fb
open PySem PySem.Spec PyProof.Rows L2
open PySem.AutoSeq1 (wpAny_loadPart')
section
variable {prog:Program}{w:World}{A:Around}{E:Value→Shared→Prop}{s:Shared}
theorem XJ {j t:Addr}{i:Nat}{us:Array Value}{x:Value}{Q:Value→Shared→Prop} (hj:s.heap.IsTupleIter j t i) (ht:s.heap.IsTuple t us) (hx:us[i]?=some x)
  (hQ:∀g,g.IsTupleIter j t (i+1)→Gi j s.heap g→Q x { s with heap:=g }):wpAny (model prog w) A (J4 (.ref j)) Q E s:=by
 obtain⟨o,p1,p2,p3⟩:=id hj
 obtain⟨ol,t1,_,nl,t2⟩:=ht
 unfold J4
 refine AF (Gk (name:=Dz "__next__") hj.typeIs J7 (Fd J7 hj.typeIs US ?_ (UQ _)))
 show wpAny _ _ (field (.ref j) 0 >>= _) _ _ s
 refine AF (Fe p1 p3 (x:=.ref t) rfl ?_)
 show wpAny _ _ (if (A0 t==DB)=true then _ else _) _ _ s
 rw[if_neg (show ¬((A0 t==DB)=true) by exact Af)]
 show wpAny _ _ (field (.ref j) 1 >>= _) _ _ s
 refine AF (Fe p1 p3 (x:=.int i 0) rfl ?_)
 show wpAny _ _ (seqItems? (.ref t) >>= _) _ _ s
 refine AF (KQ t1 t2 ?_)
 simp only[FN,hx]
 refine AF (KR p1 p3 (by simp) (AQ ⟨x,rfl,AQ (hQ _ ?_ (J8 ..))⟩))
 exact⟨_,Ub _ p1 (Ug (KA p3 _)),(Ue ..).trans p2,by rw[KA p3];simp[rawInt]⟩
theorem XM {j t:Addr}{i:Nat}{us:Array Value}{Q:Value→Shared→Prop} (hh:A.handled=none) (hj:s.heap.IsTupleIter j t i) (ht:s.heap.IsTuple t us) (hx:us[i]?=none)
  (hE:∀g e,Heap.ExtBut j s.heap g→(∃o,g.get? e=some o∧o.cls=.type "StopIteration")→E (.ref e) { s with heap:=g }):wpAny (model prog w) A (J4 (.ref j)) Q E s:=by
 obtain⟨o,p1,p2,p3⟩:=id hj
 obtain⟨ol,t1,_,nl,t2⟩:=ht
 unfold J4
 refine AF (Gk (name:=Dz "__next__") hj.typeIs J7 (Fd J7 hj.typeIs US ?_ (UQ _)))
 show wpAny _ _ (field (.ref j) 0 >>= _) _ _ s
 refine AF (Fe p1 p3 (x:=.ref t) rfl ?_)
 show wpAny _ _ (if (A0 t==DB)=true then _ else _) _ _ s
 rw[if_neg (show ¬((A0 t==DB)=true) by exact Af)]
 show wpAny _ _ (field (.ref j) 1 >>= _) _ _ s
 refine AF (Fe p1 p3 (x:=.int i 0) rfl ?_)
 show wpAny _ _ (seqItems? (.ref t) >>= _) _ _ s
 refine AF (KQ t1 t2 ?_)
 simp only[FN,hx]
 refine AF (wpAny_rule (AF (KR p1 p3 (by simp) ?_)))
 show wpAny _ _ (newExc (.type "StopIteration") [] >>= _) _ _ _
 refine AF ?_
 simp only[newExc,newTuple]
 refine AF (Gm ?_ (by size_fits))
 refine AF (m:=firstArgMember _ _) (Nd (a:=DB) (by first | rfl | (simp only[firstArgMember] <;> rfl)) ?_)
 refine Gm ?_ (by size_fits)
 simp only[raiseNew]
 refine AF (wpAny_handled ?_)
 first | rw[show A.in1.handled=none by exact hh] | rw[hh]
 refine AF (AQ (wpAny_throw ?_))
 exact hE _ _ (((J8 ..).extBut.push _).push _) ⟨_,BQ _ rfl,rfl⟩
theorem ON (hh:A.handled=none) (j t:Addr) (hne:t≠j) (us:Array Value):Draws prog w A j [j,t] us.size (fun i v=>us[i]?=some v) (fun i h=>h.IsTupleIter j t i∧h.IsTuple t us) where
 live:=fun i h ⟨⟨o,e,_⟩,_⟩=>⟨o,e⟩
 frame:=fun i h h' st k=>⟨st.1.at fun o e=>k j (by simp) o e,st.2.at fun o e=>k t (by simp) o e⟩
 item:=fun i s Q E hi st hQ=>XJ st.1 st.2 (x:=us[i]) (by simp[hi]) fun g g1 g2=>hQ _ g s.toks (by simp[hi]) ⟨g1,st.2.extBut g2.extBut hne⟩ g2
 done:=fun s Q E st hE=>XM hh st.1 st.2 (by simp) fun g e g1 g2=>hE g e g1 g2
theorem V8 (l:Addr) (us:Array Value) (n:Nat) (dct:Option Addr) (sl:Array (Option Value)):
  Meets (Builtin.«enumerate.__new__» ⟨[.type "enumerate",.ref l],[]⟩) (fun _ R s=>s.heap.get? l=some { cls:=.type "tuple",dict:=dct,data:=.seq us n,slots:=sl }∧
   R (.ok (.ret (.ref (s.heap.push { cls:=.type "tuple_iterator",data:=.fields #[.ref l,.int 0 0] }).objs.size)))
    { s with heap:=(s.heap.push { cls:=.type "tuple_iterator",data:=.fields #[.ref l,.int 0 0] }).push { cls:=.type "enumerate",data:=.fields #[.none,.bool false,.ref s.heap.objs.size,rawInt 0,.none,.none] } }) :=
 .of_wp fun prog w A R s h=>by
  obtain⟨hp,g,d,tk,os⟩:=s;obtain⟨t1,h⟩:=h
  have hsub:=sub_enumerate
  have t2:Heap.IsTuple (Shared.heap ⟨hp,g,d,tk,os⟩) l us:=⟨_,t1,rfl,n,rfl⟩
  wp_walk using Bw t1
  refine wpAny_stack_any fun st=>AQ ?_
  split
  ·rename_i c _ _ _ _ _
   cases (c==D0 "enumerate")
   ·wp_walk using Bw t1,Nf t2
    exact⟨_,rfl,h⟩
   ·wp_walk using Bw t1,Nf t2
    exact⟨_,rfl,h⟩
  ·wp_walk using Bw t1,Nf t2
   exact⟨_,rfl,h⟩
theorem VV {l:Addr}{us:Array Value}{Q:Value→Shared→Prop} (hL:s.heap.IsTuple l us)
  (h:∀h',IsEnum h' (s.heap.objs.size+1) s.heap.objs.size 0 .none→h'.IsTupleIter s.heap.objs.size l 0→h'.objs.size=s.heap.objs.size+2→(∀b o,s.heap.get? b=some o→h'.get? b=some o)→Q (.ref (s.heap.objs.size+1)) { s with heap:=h' }):
  wpAny (model prog w) A (call (.type "enumerate") [.ref l]) Q E s:=by
 obtain⟨⟨c,dct,dt,sl⟩,t1,t3,n,t4⟩:=hL
 replace t3:c=.type "tuple":=t3
 replace t4:dt=.seq us n:=t4
 subst t3 t4
 refine callType_new F.called_enumerate (by decide) (F.typeCall_enumerate_1 _) (F.newCall_enumerate_1 _) (fun obj=>F.args_object_init_2 obj _) F.entry_enumerate_new (V8 l us n dct sl) ⟨t1,?_⟩
 have hz:(s.heap.push { cls:=.type "tuple_iterator",data:=.fields #[.ref l,.int 0 0] }).objs.size=s.heap.objs.size+1:=Cs ..
 show _∧_
 rw[hz]
 have he:IsEnum ((s.heap.push { cls:=.type "tuple_iterator",data:=.fields #[.ref l,.int 0 0] }).push
   { cls:=.type "enumerate",data:=.fields #[.none,.bool false,.ref s.heap.objs.size,rawInt 0,.none,.none] }) (s.heap.objs.size+1) s.heap.objs.size 0 .none:=by
  have:=BQ (s.heap.push { cls:=.type "tuple_iterator",data:=.fields #[.ref l,.int 0 0] }) (o:={ cls:=.type "enumerate",data:=.fields #[.none,.bool false,.ref s.heap.objs.size,rawInt 0,.none,.none] }) rfl
  rw[hz] at this
  exact this
 exact⟨⟨_,he,rfl⟩,h _ he ⟨_,BE _ (BQ _ rfl),rfl,rfl⟩ (by rw[Cs,hz]) fun b o x=>BE _ (BE _ x)⟩
end
def Nj (K:AA) (a:Addr):It :=
 ⟨fun i H=>∃(xs:List V) (x:V),SqT K H a xs∧xs[i]?=some x,fun i H v H'=>∃T x,v=.ref T∧H T=none∧H'=upd H T (.tup [.int (i:Nat),x])∧∀xs,SqT K H a xs→xs[i]?=some x,fun i H=>∃xs:List V,SqT K H a xs∧xs.length=i⟩
theorem Zi {P:Program}{w:World}{K:AA}{elts:List Expr}{kk:Nat}{tpos:Pos} (a e it:Addr):
  Dh P w K (.Tuple elts kk tpos) (Nj K a) [e,it] e (fun i h=>(∃old,IsEnum h e it ((i:Nat):Int) old)∧h.IsTupleIter it a i∧e≠it∧a≠it∧e≠a) where
 mem:=by simp
 obj:=fun i h st b hb=>by
  obtain⟨⟨old,he⟩,⟨o,ho,hc,hd⟩,_⟩:=st
  have e':b=e∨b=it:=by simpa using hb
  rcases e' with z | z
  ·rw[z];exact⟨_,he,fun v q=>nomatch q⟩
  ·rw[z];exact⟨o,ho,fun v q=>by rw[hd] at q;cases q⟩
 keep:=fun i h h' st k=>let ⟨⟨old,he⟩,hi,hne⟩:=st;⟨⟨old,k e (by simp) _ he⟩,hi.at fun o q=>k it (by simp) o q,hne⟩
 item:=by
  intro X hP hw hK hc i pins s σ H E I hf st hg
  subst hP hw hK
  obtain⟨⟨old,he⟩,hit,hne,hai,hea⟩:=st
  obtain⟨xs,x,hq,hx⟩:=hg
  obtain⟨its,rv,p,hz⟩:=I.tuple hq
  obtain⟨u,hu,ru⟩:=rv.get hx
  have hel:e < s.heap.objs.size:=Aq he
  have hil:it < s.heap.objs.size:=by obtain⟨_,q,_⟩:=hit;exact Aq q
  have hlt:i < its.toArray.size:=by
   have:=(Bf.mp hu).1
   simpa using this
  refine wpAny_pyNext_enum_itemD (ON (prog:=X.prog) (w:=X.w) (A:=X.A.in1) (show X.A.in1.handled=none from I.ok.hd hc) it a hai its.toArray) he ⟨hit,p⟩ hlt hne (by simp[hne,hea]) fun y h' tk hy ho hit' hT hsz hk=>?_
  have ey:y=u:=by
   have:its.toArray[i]?=some u:=by simpa using hu
   exact Ae (hy.symm.trans this)
  subst ey
  refine⟨_,rfl,U2 (s:={ s with heap:=h',toks:=tk+1 }) ho fun h'' he' sb=>?_⟩
  have hT2:h''.get? s.heap.objs.size=some { cls:=.type "tuple",data:=.seq #[.int i tk,y] }:=(sb.2 _ (Jy hel)).trans hT
  have new:ObjOk X.prog X.w (upd H s.heap.objs.size (.tup [.int (i:Nat),x])) h'' s.heap.objs.size (.tup [.int (i:Nat),x]) :=
   ⟨by show 2≤sizeLine;decide,[.int i tk,y],.cons ⟨_,rfl⟩ (.cons ru .nil),⟨_,hT2,rfl,_,rfl⟩⟩
  have I1:Inv X pins σ (upd H s.heap.objs.size (.tup [.int (i:Nat),x])) { s with heap:=h'',toks:=tk+1 } :=
   I.turnedNew (ch:=[e,it]) (fun b ob hb q=>(sb.2 b (fun z=>hb (by simp[z]))).trans (hk b ob (fun z=>hb (by simp[z])) (fun z=>hb (by simp[z])) q)) hf (AV _) new
  refine⟨.ref s.heap.objs.size,_,I1,rfl,⟨_,x,rfl,I.hok.fresh (AV _),rfl,fun ys hy=>by rw[I.tuple_inj hy hq];exact hx⟩,⟨⟨y,?_⟩,hit'.1.at fun o q=>(sb.2 it (Ap hne)).trans q,hne,hai,hea⟩,fun b hb=>?_⟩
  ·have e1:((i+1:Nat):Int)=(i:Int)+1:=by omega
   rw[e1];exact he'
  ·have hb':b < s.heap.objs.size:=by
    have e':b=e∨b=it:=by simpa using hb
    rcases e' with z | z
    ·rw[z];exact hel
    ·rw[z];exact hil
   rw[AE (BM hb')]
   exact(hf b hb).1
 done:=by
  intro X hP hw hK hc i pins s σ H E I hf st hg
  subst hP hw hK
  obtain⟨⟨old,he⟩,hit,hne,hai,hea⟩:=st
  obtain⟨xs,hq,hx⟩:=hg
  obtain⟨its,rv,p,hz⟩:=I.tuple hq
  obtain⟨f0,f1,f2,f3,f4,f5⟩:=hf it (by simp)
  have hl:=rv.length
  have ei:i=its.toArray.size:=by simp;omega
  exact wpAny_pyNext_enum_endD (ON (prog:=X.prog) (w:=X.w) (A:=X.A.in1) (show X.A.in1.handled=none from I.ok.hd hc) it a hai its.toArray) he ⟨by rw[← ei];exact hit,p⟩ fun h' eb=>⟨rfl,I.turned (t':=s.toks) (fun b o hb q=>eb b o hb q) f0 f1 f3 f4 f5⟩
 self:=fun A i s Q E st h=>let ⟨⟨_,he⟩,_⟩:=st;KP he h
def WS (K:AA) (ta:TA):TI:=fun σ H R=>ta σ H fun vs H1=>∃a xs,vs=[.ref a]∧SqT K H1 a xs∧R (Nj K a) H1
theorem Xs {X:Cx}{e:Expr}{ta:TA}{p pos tpos:Pos}{elts:List Expr}{kk:Nat} (hg:Gl X "enumerate") (hm:X.mg "enumerate"=none) (ha:PA X [e] ta) (hs:starEach [e] X.env=[(false,eval e X.env)]:=by rfl):
  PI X (.Tuple elts kk tpos) (.Call (.Name "enumerate" p) [e] [] pos) (WS X.K ta):=by
 intro pins s σ H R I h
 refine Call_ (Fv I hg hm boot_enumerate (Hu (thn (ha pos pins s σ H _ I h) fun us s1 ⟨vs,H1,I1,r1,q1⟩=>?_) hs rfl))
 obtain⟨a,xs,ex,hq,q⟩:=q1
 subst ex
 cases r1 with
 | cons r rr =>
  cases rr
  cases r
  obtain⟨its,rv,p',hz⟩:=I1.tuple hq
  have al:a < s1.heap.objs.size:=by obtain⟨_,z,_⟩:=p';exact Aq z
  refine VV p' fun h' he hit hsz hk=>KP he ?_
  have I2:Inv X pins σ H1 { s1 with heap:=h' }:=I1.kept (t':=s1.toks) hk
  refine⟨s1.heap.objs.size+1,[s1.heap.objs.size+1,s1.heap.objs.size],_,_,H1,rfl,I2,Zi a (s1.heap.objs.size+1) s1.heap.objs.size,⟨⟨.none,he⟩,hit,T8 _,BM al,Jy (Jx al)⟩,fun b hb=>?_,q⟩
  have e':b=s1.heap.objs.size+1∨b=s1.heap.objs.size:=by simpa using hb
  have hle:s1.heap.objs.size≤b:=by
   rcases e' with z | z
   ·rw[z];exact Mx _ _
   ·rw[z];exact AV _
  exact I1.fpOk hle (I1.hok.fresh hle)
end Fb
end
section
set_option maxRecDepth 100000
set_option maxHeartbeats 4000000
namespace Fb
open PySem PySem.Spec PyProof.Rows L2
def Cst (mg:Str→Option Value) (x:Str) (v:V):Prop:=∃u,mg x=some u∧RelV v u
theorem AW {X:Cx}{x:Str}{v:V}{pos:Pos} (h:Cst X.mg x v) (hg:Gl X x) (hd:(x==("__debug__":Str))=false:=by decide):PE X (.Name x pos) (tC v):=by
 obtain⟨u,h1,h2⟩:=h
 exact Xl hg h1 h2 hd
structure Blt (mg:Str→Option Value):Prop where
 ord:mg "ord"=none
 len:mg "len"=none
 all:mg "all"=none
 any:mg "any"=none
 enumerate:mg "enumerate"=none
 reversed:mg "reversed"=none
 tuple:mg "tuple"=none
 range:mg "range"=none
def Fg (H:Hp) (Q:VK) (ns:List Int):Prop:=∀(H':Hp) (p:Addr),Same H H'→H p=none→H' p=some (.lst (ns.map V.int))→Q (.ref p) H'
abbrev Lp:Stmt:=Rv
def BJ (x:Str):List Int:=x.cps.toList.map fun (c:Nat)=>(c:Int)
def HV:Sp:=fun vs H Q _=>∃x:Str,vs=[.str x]∧x.cps.size < 1000∧Fg H Q (BJ x)
theorem scLetters:AY ["word","letter"] ["word"] (AK Lp):=⟨rfl,rfl,rfl,by decide +kernel,rfl,by decide +kernel,by decide +kernel⟩
section
variable {P:Program}{w:World}{K:AA}{mg:Str→Option Value}{base:Heap}
theorem ok_letters {f:Addr}{fd:FuncData} (F:Fun K "letters" "letters" Lp f fd) (B:Blt mg):FnOk P w K mg base CX0 1 f fd ["word"] HV:=by
 refine F.ok scLetters (fun vs H Q E h=>?_) (fun cdv A outer s H vs Q E hr h=>?_)
 ·obtain⟨x,rfl,_⟩:=h
  rfl
 ·obtain⟨x,rfl,hx,k⟩:=h
  refine⟨_,AH (AL (DW (own:=[("letter",1)]) rfl scLetters.nd (Xw (pv 0)) (DQ (N:=["word","letter"]) (sc:=AK Lp) (by decide +kernel)) (fun s H C cl fp=>Bq (i:=1) scLetters.nd rfl (AZ rfl)) (fun s H C cl fp=>Dq)
   (fun s H C cl fp=>Av Fi (by rfl) B.ord Gb (AB (pv 1) AD)))),?_⟩
  refine⟨_,rfl,x,rfl,fun D hD=>?_⟩
  refine D9 (n:=x.cps.size) ((BJ x).map V.int) (by simp[BJ]) (Bo (by omega)) hD (fun i H hi _=>hi) (fun H _=>AV _) ?_ ?_
  ·rintro i y z H1 H2 hz s1 ⟨rfl,c,hc,rfl⟩ R hR
   refine⟨rfl,_,rfl,_,rfl,rfl,?_⟩
   have:z=V.int ((c:Nat):Int):=by
    simp[BJ] at hz
    obtain⟨c',hc',rfl⟩:=hz
    rw[hc] at hc'
    cases hc'
    rfl
   subst this
   exact hR _ (Same.refl _)
  ·intro H' s1 hd
   exact k H' D s1 hD hd
theorem nf {b:Bool} (h:¬b=true):b=false:=by
 cases b with
 | false=>rfl
 | true=>exact(h rfl).elim
def Pur (H:Hp) (Q:VK) (v:V):Prop:=∀H':Hp,Same H H'→Q v H'
abbrev Q3:Stmt:=Rk
def Sk:Sp:=fun vs H Q _=>∃b:Int,vs=[.int b]∧Pur H Q (.bl (EY b))
theorem Yg:AY ["byte"] ["byte"] (AK Q3):=⟨rfl,rfl,rfl,by decide +kernel,rfl,by decide +kernel,by decide +kernel⟩
theorem ok_nameByte {f:Addr}{fd:FuncData} (F:Fun K "is_name_byte" "is_name_byte" Q3 f fd) (B:Blt mg):FnOk P w K mg base CX0 1 f fd ["byte"] Sk:=by
 refine F.ok Yg (fun vs H Q E h=>?_) (fun cdv A outer s H vs Q E hr h=>?_)
 ·obtain⟨x,rfl,_⟩:=h
  rfl
 ·obtain⟨b,rfl,k⟩:=h
  refine⟨_,AH (AL (Xq (HK CY CY (Av Fi (by rfl) B.ord Gb (AB DX AD)) (pv 0) (Av Fi (by rfl) B.ord Gb (AB DX AD)))
   (Ed (HK CY CY (Av Fi (by rfl) B.ord Gb (AB DX AD)) (pv 0) (Av Fi (by rfl) B.ord Gb (AB DX AD)))))),?_⟩
  have kk:=k H (Same.refl H)
  unfold EY at kk
  have two:∀R:VK,R (.bl (decide (48≤b)&&decide (b≤57))) H→MG (rI0 fun i j=>V.bl (decide (i≤j))) (rI0 fun i j=>V.bl (decide (i≤j)))
    (tCB (fun xs H Q=>∃x,xs=[V.str x]∧x.length=1∧Q (V.int ((x.cps.getD 0 0:Nat):Int)) H) (GJ (tC (V.str (Dz "0"))) FD)) (Eh 0)
    (tCB (fun xs H Q=>∃x,xs=[V.str x]∧x.length=1∧Q (V.int ((x.cps.getD 0 0:Nat):Int)) H) (GJ (tC (V.str (Dz "9"))) FD)) (L2.start ["byte"] [V.int b]) H R:=fun R hR=>by
   refine⟨_,rfl,rfl,_,rfl,_,_,rfl,rfl,_,rfl,ET (fun h1=>?_) (fun h1=>?_)⟩
   ·refine⟨_,rfl,rfl,_,_,rfl,rfl,?_⟩
    have e:decide (48≤b)=true:=h1
    rw[e] at hR
    exact hR
   ·have e:decide (48≤b)=false:=nf h1
    rw[e] at hR
    exact hR
  refine⟨_,rfl,rfl,_,rfl,_,_,rfl,rfl,_,rfl,ET (fun h1=>?_) (fun h1=>?_)⟩
  ·have e:decide (65≤b)=true:=h1
   rw[e] at kk
   refine⟨_,rfl,rfl,_,_,rfl,rfl,_,rfl,ET (fun h2=>?_) (fun h2=>?_)⟩
   ·have e2:decide (b≤90)=true:=h2
    rw[e2] at kk
    exact kk
   ·have e2:decide (b≤90)=false:=nf h2
    rw[e2] at kk
    exact two Q kk
  ·have e:decide (65≤b)=false:=nf h1
   rw[e] at kk
   exact⟨_,rfl,Ik (two Q kk)⟩
end
end Fb
end
section
set_option maxRecDepth 100000
set_option maxHeartbeats 4000000
namespace Fb
open PySem PySem.Spec PyProof.Rows L2
theorem e0 {X:Cx}:Ey CX0 X E0:=F3
theorem DF {α β:Type}{F:α→β→Prop}:∀{l₁:List α}{l₂:List β}{i:Nat}{b:β},Paired F l₁ l₂→l₂[i]?=some b→∃a,l₁[i]?=some a∧F a b
 | _,_,_,_,.nil,h=>by simp at h
 | _,_,0,_,.cons r t,h=>by simp at h;subst h;exact⟨_,rfl,r⟩
 | _,_,i+1,b,.cons r t,h=>by
  obtain⟨a,h1,h2⟩:=DF (i:=i) (b:=b) t (by simpa using h)
  exact⟨a,by simpa using h1,h2⟩
theorem Ec {X:Cx}{e:Expr}{f:Str}{pos:Pos}{ta:TE} (K:AA) (hK:X.K=K) (he:PE X e ta) (hb:attributeBase e f X.env (eval e X.env)=eval e X.env):PE X (.Attribute e f pos) (MH K ta f):=by
 subst hK
 exact Ak he hb
theorem Xn {X:Cx}{a b:Expr}{pos:Pos}{ta tb:TE} (K:AA) (hK:X.K=K) (ha:PE X a ta) (hb:PE X b tb) (hs:Nn b):PE X (.Subscript a b pos) (tOp (QY K) ta tb):=by
 subst hK
 exact Bp Bn ha hb hs
theorem A6 {K:AA}{H:Hp}{a:Addr}{ns:List Int} (h:SqL K H a (ns.map V.int)):Dp K H (.ref a) (.list (ns.map Ct)):=by
 refine .lst h ?_
 clear h
 induction ns with
 | nil=>exact .nil
 | cons n r ih=>exact .cons (.int n) ih
theorem N5:∀ns:List Int,NI (ns.map Ct)=true
 | []=>rfl
 | n::r=>by
  show(PyData.canLay0 (.int n)&&NI (r.map Ct))=true
  rw[N5 r]
  rfl
theorem OM:∀ns:List Int,NJ (ns.map Ct)=0
 | []=>rfl
 | n::r=>by
  show max (PyData.depth (.int n)) (NJ (r.map Ct))=0
  rw[OM r]
  rfl
theorem A3 (ns:List Int):Hw (.list (ns.map Ct))=true:=by
 show(NI (ns.map Ct)&&decide (NJ (ns.map Ct)+1≤64))=true
 rw[N5,OM]
 rfl
theorem CQ:∀a b:List Int,Es (.list (a.map Ct)) (.list (b.map Ct))=decide (a=b):=by
 have key:∀a b:List Int,PyData.eqvAll (a.map Ct) (b.map Ct)=decide (a=b):=by
  intro a
  induction a with
  | nil =>
   intro b
   cases b with
   | nil=>rfl
   | cons y s=>rfl
  | cons x r ih =>
   intro b
   cases b with
   | nil=>rfl
   | cons y s =>
    show(Es (.int x) (.int y)&&PyData.eqvAll (r.map Ct) (s.map Ct))=_
    rw[ih s]
    have:Es (.int x) (.int y)=decide (x=y):=by
     first | rfl | (unfold Es;simp) | (simp[Es])
    rw[this,C3]
    simp
 intro a b
 first | exact key a b | (unfold Es;exact key a b)
abbrev Ll:Stmt:=Rj
def JM (K:AA):Sp:=fun vs H Q _=>∃(a:Addr) (ns:List Int),vs=[.ref a]∧SqL K H a (ns.map V.int)∧ns.length < 100000∧Pur H Q (.bl (DT ns))
theorem scIsName:AY ["word","byte"] ["word"] (AK Ll):=⟨rfl,rfl,rfl,by decide +kernel,rfl,by decide +kernel,by decide +kernel⟩
section
variable {P:Program}{w:World}{K:AA}{mg:Str→Option Value}{base:Heap}
theorem ok_isName {f:Addr}{fd:FuncData} (F:Fun K "is_name" "is_name" Ll f fd) (B:Blt mg) (c1:Cst mg "LONGEST_NAME" (.int 8)) (g1:Has P w K mg "is_name_byte" 1 ["byte"] Sk):FnOk P w K mg base CX0 2 f fd ["word"] (JM K):=by
 refine F.ok scIsName (fun vs H Q E h=>?_) (fun cdv A outer s H vs Q E hr h=>?_)
 ·obtain⟨a,x,rfl,_⟩:=h
  rfl
 ·obtain⟨a,ns,rfl,hS,hlen,k⟩:=h
  refine⟨_,AH (AL (Ea (HK CY CY AO (Av Bj (by rfl) B.len BW (AB (pv 0) AD)) (AW c1 rfl))
   (Ed (Av (Gw rfl) (by rfl) B.all Ht (AB (DW (own:=[("byte",1)]) rfl scIsName.nd (Dm (pv 0)) (DQ (N:=["word","byte"]) (sc:=AK Ll) (by decide +kernel)) (fun s H C cl fp=>Bq (i:=1) scIsName.nd rfl (AZ rfl)) (fun s H C cl fp=>Dq)
    (fun s H C cl fp=>AN g1 hr (by rfl) (AB (pv 1) AD))) AD))))),?_⟩
  refine⟨_,rfl,a,_,rfl,.inl hS,_,_,rfl,rfl,_,rfl,ET (fun h1=>?_) (fun h1=>?_)⟩
  ·have h1':1≤ns.length:=by
    have:(1:Int)≤((ns.map V.int).length:Nat):=of_decide_eq_true h1
    rw[AG] at this
    omega
   refine⟨_,_,rfl,rfl,_,rfl,ET (fun h2=>?_) (fun h2=>?_)⟩
   ·have h2':ns.length≤8:=by
     have:(((ns.map V.int).length:Nat):Int)≤8:=of_decide_eq_true h2
     rw[AG] at this
     omega
    refine⟨_,rfl,a,rfl,⟨_,hS⟩,fun D hD=>?_⟩
    refine D9 (n:=(ns.map V.int).length) ((ns.map EY).map V.bl) (by simp) (Bo (by rw[AG];omega)) hD (fun i H hi s1=>EU (s1.seq hS) hi) (fun H s1=>EV (s1.seq hS)) ?_ ?_
    ·rintro i y z H1 H2 hz s1 ⟨rfl,hy⟩ R hR
     obtain⟨n,hn,rfl⟩:=D7 (hy _ (s1.seq hS))
     refine⟨rfl,_,rfl,n,rfl,?_⟩
     have:z=V.bl (EY n):=by
      rw[Ah,Ah,hn] at hz
      exact(Ae hz).symm
     subst this
     exact hR
    ·intro H' s1 hd
     refine⟨D,ns.map EY,rfl,SqL.of hd,?_⟩
     have:=k H' s1
     unfold DT at this
     rw[decide_eq_true h1',decide_eq_true h2'] at this
     rw[El]
     exact this
   ·have h2':¬ns.length≤8:=fun q=>h2 (decide_eq_true (by rw[AG];show((ns.length:Nat):Int)≤8;omega))
    have:=k H (Same.refl H)
    unfold DT at this
    rw[decide_eq_false h2',GP] at this
    exact this
  ·have h1':¬1≤ns.length:=fun q=>h1 (decide_eq_true (by rw[AG];show(1:Int)≤((ns.length:Nat):Int);omega))
   have:=k H (Same.refl H)
   unfold DT at this
   rw[decide_eq_false h1',Ce] at this
   exact⟨_,rfl,Ik this⟩
abbrev Q5:Stmt:=Rl
def F0 (x:Str) (ns:List Int):Bool:=match Ai 32 ns with
 | [a,b]=>decide (a=BJ x)&&DT b
 | _=>false
def MB (K:AA):Sp:=fun vs H Q _=>∃(a:Addr) (ns:List Int) (x:Str),vs=[.ref a,.str x]∧SqL K H a (ns.map V.int)∧ns.length < 100000∧x.cps.size < 1000∧Pur H Q (.bl (F0 x ns))
theorem scNaming:AY ["line","first","words"] ["line","first"] (AK Q5):=⟨rfl,rfl,rfl,by decide +kernel,rfl,by decide +kernel,by decide +kernel⟩
theorem ok_naming {f:Addr}{fd:FuncData} (F:Fun K "is_naming_line" "is_naming_line" Q5 f fd) (B:Blt mg) (c1:Cst mg "BLANK" (.int 32)) (g1:Has P w K mg "split_at" 1 ["mark","values"] (EE K))
  (g2:Has P w K mg "letters" 1 ["word"] HV) (g3:Has P w K mg "is_name" 2 ["word"] (JM K)):FnOk P w K mg base CX0 3 f fd ["line","first"] (MB K):=by
 refine F.ok scNaming (fun vs H Q E h=>?_) (fun cdv A outer s H vs Q E hr h=>?_)
 ·obtain⟨a,ns,x,rfl,_⟩:=h
  rfl
 ·obtain⟨a,ns,x,rfl,hS,hlen,hx,k⟩:=h
  have hr1:Room 1 _:=hr.mono (by decide)
  refine⟨_,AJ (BB (i:=2) scNaming.nd rfl (AZ rfl) (AN g1 hr1 (by rfl) (AB (AW c1 rfl) (AB (pv 0) AD))))
   (AH (AL (Ea (Cj BZ (Av Bj (by rfl) B.len BW (AB (pv 2) AD)) AO (AR _))
    (Ea (Cj (EZ hr.units) (Bp Bn (pv 2) AO (fun _ _=>rfl)) (AN g2 hr1 (by rfl) (AB (pv 1) AD)) (AR _))
    (Ed (AN g3 hr (by rfl) (AB (Bp Bn (pv 2) AO (fun _ _=>rfl)) AD))))))),?_⟩
  refine⟨_,rfl,a,32,ns,rfl,hS,hlen,fun H1 p as s1 np nas hp hpa=>?_⟩
  refine⟨_,rfl,p,_,rfl,.inl (SqL.of hp),rfl,_,rfl,ET (fun h1=>?_) (fun h1=>?_)⟩
  ·have h1':as.length=2:=by
    have:V.int ((as.map V.ref).length:Nat)=V.int 2:=of_decide_eq_true h1
    injection this with this
    rw[AG] at this
    omega
   have hl:=CU hpa
   match as,h1',hc:Ai 32 ns with
   | [a0,a1],_,cz =>
    rw[hc] at hpa
    match cz,hpa with
    | [w0,w1],.cons p0 (.cons p1 .nil) =>
     have ez:F0 x ns=(decide (w0=BJ x)&&DT w1):=by unfold F0;rw[hc]
     have hw0:=EA 32 ns w0 (by rw[hc];simp)
     have hw1:=EA 32 ns w1 (by rw[hc];simp)
     refine⟨_,rfl,p,_,_,_,rfl,rfl,SqL.of hp,Bx (j:=0) rfl,_,rfl,x,rfl,hx,fun H2 q s2 nq hq=>?_⟩
     refine⟨_,_,A6 (SqL.of (s2 _ _ p0)),A6 (SqL.of hq),A3 _,A3 _,?_⟩
     rw[CQ]
     refine⟨_,rfl,ET (fun h2=>?_) (fun h2=>?_)⟩
     ·refine⟨_,rfl,p,_,_,_,rfl,rfl,SqL.of (s2 _ _ hp),Bx (j:=1) rfl,a1,w1,rfl,SqL.of (s2 _ _ p1),by omega,fun H3 s3=>?_⟩
      have:=k H3 ((s1.trans s2).trans s3)
      rw[ez,show decide (w0=BJ x)=true from h2,Cq] at this
      exact this
     ·have:=k H2 (s1.trans s2)
      rw[ez,nf h2,Ce] at this
      exact this
  ·have hl:=CU hpa
   have ez:F0 x ns=false:=by
    unfold F0
    split
    ·rename_i b c hc
     rw[hc] at hl
     exact absurd (decide_eq_true (by rw[AG,hl];rfl)) h1
    ·rfl
   have:=k H1 s1
   rw[ez] at this
   exact this
abbrev Q4:Stmt:=Ry
def MA (K:AA):Sp:=fun vs H Q _=>∃(a:Addr) (ns n:List Int),vs=[.ref a]∧SqL K H a (ns.map V.int)∧ns.length < 100000∧(Ai 32 ns)[1]?=some n∧Fg H Q n
theorem Yh:AY ["line"] ["line"] (AK Q4):=⟨rfl,rfl,rfl,by decide +kernel,rfl,by decide +kernel,by decide +kernel⟩
theorem ok_named {f:Addr}{fd:FuncData} (F:Fun K "named" "named" Q4 f fd) (c1:Cst mg "BLANK" (.int 32)) (g1:Has P w K mg "split_at" 1 ["mark","values"] (EE K)):FnOk P w K mg base CX0 2 f fd ["line"] (MA K):=by
 refine F.ok Yh (fun vs H Q E h=>?_) (fun cdv A outer s H vs Q E hr h=>?_)
 ·obtain⟨a,ns,n,rfl,_⟩:=h
  rfl
 ·obtain⟨a,ns,n,rfl,hS,hlen,hn,k⟩:=h
  refine⟨_,AH (AL (Bp Bn (AN g1 hr (by rfl) (AB (AW c1 rfl) (AB (pv 0) AD))) AO (fun _ _=>rfl))),?_⟩
  refine⟨_,rfl,a,32,ns,rfl,hS,hlen,fun H1 p as s1 np nas hp hpa=>?_⟩
  obtain⟨b,hb,hbn⟩:=DF hpa hn
  refine⟨p,_,_,_,rfl,rfl,SqL.of hp,Bx (j:=1) (v:=V.ref b) (by rw[Ah,hb];rfl),?_⟩
  exact k H1 b s1 (nas b (CN hb)) hbn
abbrev Qp:Stmt:=RY
def Ly (K:AA):Sp:=fun vs H Q _=>∃(a:Addr) (ns:List Int),vs=[.ref a]∧SqL K H a (ns.map V.int)∧Pur H Q (.int (ns.count 10:Nat))
theorem YT:AY ["text"] ["text"] (AK Qp):=⟨rfl,rfl,rfl,by decide +kernel,rfl,by decide +kernel,by decide +kernel⟩
theorem ok_count {f:Addr}{fd:FuncData} (F:Fun K "count_lines" "count_lines" Qp f fd) (c1:Cst mg "LINE_END" (.int 10)):FnOk P w K mg base CX0 1 f fd ["text"] (Ly K):=by
 refine F.ok YT (fun vs H Q E h=>?_) (fun cdv A outer s H vs Q E hr h=>?_)
 ·obtain⟨a,ns,rfl,_⟩:=h
  rfl
 ·obtain⟨a,ns,rfl,hS,k⟩:=h
  refine⟨_,AH (AL (Eb Er UY PySem.F.type_list_count XD (pv 0) (AB (AW c1 rfl) AD))),?_⟩
  exact⟨_,rfl,.inl ⟨rfl,_,hS⟩,a,ns,10,rfl,rfl,hS,k H (Same.refl H)⟩
end
end Fb
end
section
set_option maxRecDepth 100000
set_option maxHeartbeats 4000000
namespace Fb
open PySem PySem.Spec PyProof.Rows L2
def kf (r:Int) (l:V) (c s k:Int):List (Str×V):=[("rank",.int r),("label",l),("copies",.int c),("shape",.int s),("look",.int k)]
def Ka (H:Hp) (lv:V):ZLab→Prop
 | .sign n=>∃t,lv=.ref t∧H t=some (.tup (n.map V.int))
 | .same k=>lv=.int k
 | .ans=>lv=.int 0
def KindAt (CK:Addr) (H:Hp) (a:Addr) (z:ZK):Prop:=∃(dx:Addr) (lv:V),H a=some (.ins CK dx (kf z.lab.rank lv z.copies z.shape z.look))∧Ka H lv z.lab
theorem KindAt.same {CK:Addr}{H H':Hp}{a:Addr}{z:ZK} (s:∀b o,H b=some o→(∀xs,o≠.lst xs)→(∀xs,o≠.dK xs)→(∀xs,o≠.dT xs)→(∀C dx fs,o=.ins C dx fs→C=CK)→H' b=some o) (h:KindAt CK H a z):KindAt CK H' a z:=by
 obtain⟨dx,lv,h1,h2⟩:=h
 refine⟨dx,lv,s _ _ h1 (by intro xs q;cases q) (by intro xs q;cases q) (by intro xs q;cases q) (by intro C dx fs q;cases q;rfl),?_⟩
 revert h2
 cases z.lab with
 | sign n =>
  rintro⟨t,e,ht⟩
  exact⟨t,e,s _ _ ht (by intro xs q;cases q) (by intro xs q;cases q) (by intro xs q;cases q) (by intro C dx fs q;cases q)⟩
 | same k=>exact fun h=>h
 | ans=>exact fun h=>h
theorem KindAt.mono {CK:Addr}{H H':Hp}{a:Addr}{z:ZK} (s:Same H H') (h:KindAt CK H a z):KindAt CK H' a z:=h.same fun b o e _ _ _ _=>s b o e
structure KindC (K:AA) (CK:Addr):Prop where
 cl:Cls K CK
 rank:NoAttr K CK "rank"
 label:NoAttr K CK "label"
 copies:NoAttr K CK "copies"
 shape:NoAttr K CK "shape"
 look:NoAttr K CK "look"
def A2 (l:List Int):List Key:=l.map As
theorem K5 (l:List Int):(A2 l).map kV=l.map V.int:=by
 unfold A2
 rw[Jq]
 rfl
def Be:Nat→List ZK→List (List Key×V)
 | _,[]=>[]
 | i,z::r=>match z.lab with
  | .sign n=>(A2 n,.int (i:Nat))::Be (i+1) r
  | _=>Be (i+1) r
def BG:Nat→List ZK→List (Key×V)
 | _,[]=>[]
 | i,z::r=>match z.lab with
  | .same k=>(As k,.int (i:Nat))::BG (i+1) r
  | _=>BG (i+1) r
theorem GF (i:Nat) (z:ZK) (r:List ZK):Be i (z::r)=match z.lab with
 | .sign n=>(A2 n,.int (i:Nat))::Be (i+1) r
 | _=>Be (i+1) r:=rfl
theorem GD (i:Nat) (z:ZK) (r:List ZK):BG i (z::r)=match z.lab with
 | .same k=>(As k,.int (i:Nat))::BG (i+1) r
 | _=>BG (i+1) r:=rfl
def lf (an ak sg sm af:Addr):List (Str×V):=[("name",.ref an),("kinds",.ref ak),("signs",.ref sg),("sames",.ref sm),("fault",.ref af)]
structure LA where
 an:Addr
 ak:Addr
 sg:Addr
 sm:Addr
 af:Addr
structure LockAt (CL CK:Addr) (H:Hp) (a:Addr) (p:LA) (name:List Int) (kinds:List ZK) (fault:List Int):Prop where
 ob:∃dx,H a=some (.ins CL dx (lf p.an p.ak p.sg p.sm p.af))
 nm:H p.an=some (.lst (name.map V.int))
 ks:∃as:List Addr,H p.ak=some (.lst (as.map V.ref))∧Paired (KindAt CK H) as kinds
 sg:H p.sg=some (.dT (Be 0 kinds))
 sm:H p.sm=some (.dK (BG 0 kinds))
 af:H p.af=some (.lst (fault.map V.int))
theorem LockAt.mono {CL CK:Addr}{H H':Hp}{a:Addr}{p:LA}{name:List Int}{kinds:List ZK}{fault:List Int} (s:Same H H') (h:LockAt CL CK H a p name kinds fault):LockAt CL CK H' a p name kinds fault:=by
 obtain⟨⟨dx,h1⟩,h2,⟨as,h3,h4⟩,h5,h6,h7⟩:=h
 exact⟨⟨dx,s _ _ h1⟩,s _ _ h2,⟨as,s _ _ h3,Paired.mapP h4 fun a z q=>q.mono s⟩,s _ _ h5,s _ _ h6,s _ _ h7⟩
structure LockC (K:AA) (CL:Addr):Prop where
 cl:Cls K CL
 name:NoAttr K CL "name"
 kinds:NoAttr K CL "kinds"
 signs:NoAttr K CL "signs"
 sames:NoAttr K CL "sames"
 fault:NoAttr K CL "fault"
theorem TQ (k:Int):∀(kinds:List ZK) (i:Nat),(Ar (BG i kinds) (As k)=none∧kinds.find? (E6 k)=none)∨∃(j:Nat) (z:ZK),Ar (BG i kinds) (As k)=some (.int ((i+j:Nat):Int))∧kinds[j]?=some z∧kinds.find? (E6 k)=some z
 | [],i=>.inl ⟨rfl,rfl⟩
 | z::r,i=>by
  have ih:=TQ k r (i+1)
  have other:E6 k z=false→Ar (BG i (z::r)) (As k)=Ar (BG (i+1) r) (As k):=fun h=>by
   rw[GD]
   split
   ·rename_i k' hk
    have ne:¬k'=k:=by
     intro q
     rw[E6,hk,q] at h
     simp at h
    exact Cc (p:=(As k',V.int ((i:Nat):Int))) fun q=>ne (IA q)
   ·rfl
  cases hz:E6 k z with
  | true =>
   have hk:z.lab=.same k:=of_decide_eq_true hz
   refine .inr ⟨0,z,?_,rfl,?_⟩
   ·unfold BG
    rw[hk]
    exact Cd rfl
   ·rw[Du,hz]
  | false =>
   have hf:(z::r).find? (E6 k)=r.find? (E6 k):=by rw[Du,hz]
   rw[other hz,hf]
   rcases ih with ih | ⟨j,z',h1,h2,h3⟩
   ·exact .inl ih
   ·exact .inr ⟨j+1,z',by rw[h1];congr 2;omega,h2,h3⟩
section
variable {CL CK:Addr}
theorem Wy {p:LA}:(lf p.an p.ak p.sg p.sm p.af).lookup ("name":Str)=some (.ref p.an):=rfl
theorem Fx {p:LA}:(lf p.an p.ak p.sg p.sm p.af).lookup ("kinds":Str)=some (.ref p.ak):=rfl
theorem Fy {p:LA}:(lf p.an p.ak p.sg p.sm p.af).lookup ("signs":Str)=some (.ref p.sg):=rfl
theorem Iq {p:LA}:(lf p.an p.ak p.sg p.sm p.af).lookup ("sames":Str)=some (.ref p.sm):=rfl
theorem Ph {p:LA}:(lf p.an p.ak p.sg p.sm p.af).lookup ("fault":Str)=some (.ref p.af):=rfl
theorem DU {r c s k:Int}{l:V}:(kf r l c s k).lookup ("rank":Str)=some (.int r):=rfl
theorem Il {r c s k:Int}{l:V}:(kf r l c s k).lookup ("label":Str)=some l:=rfl
theorem Wo {r c s k:Int}{l:V}:(kf r l c s k).lookup ("copies":Str)=some (.int c):=rfl
theorem PZ {r c s k:Int}{l:V}:(kf r l c s k).lookup ("shape":Str)=some (.int s):=rfl
theorem PY {r c s k:Int}{l:V}:(kf r l c s k).lookup ("look":Str)=some (.int k):=rfl
end
end Fb
end
section
set_option maxRecDepth 100000
set_option maxHeartbeats 4000000
namespace L2
open PySem PySem.Spec PyProof.Rows
open PySem.W (CodeHd tabObj kla_obj kla_fn envX)
abbrev KO (a:Addr) (o:Obj):HO:=.ext fun h=>h.get? a=some o
section
variable {P:Program}{w:World}{H H':Hp}{h h':Heap}{a:Addr}{o:Obj}
theorem G9 (e:h.get? a=some o):ObjOk P w H h a (KO a o):=⟨e,⟨o,e⟩,fun _ _ p k=>k _ p⟩
theorem E8 (hok:HOk P w H h) (e:H a=some (KO a o)):h.get? a=some o:=(hok a _ e).1
end
def CellV (H:Hp) (c:Addr) (v:V):Prop:=∃(o:Obj) (u:Value),H c=some (KO c o)∧o.data=.cell (some u)∧RelV v u
def CodeO (H:Hp) (c:Addr) (qual:Str):Prop:=∃(o:Obj) (vs:Array Value) (t:Tok),H c=some (KO c o)∧o.data=.fields vs∧vs[1]?=some (.str qual t)
theorem CodeO.rec_of {P:Program}{w:World}{H:Hp}{h:Heap}{c:Addr}{qual:Str} (x:CodeO H c qual) (hok:HOk P w H h):h.CodeRec (.ref c) qual:=by
 obtain⟨o,vs,t,e,d,q⟩:=x
 exact⟨c,o,vs,t,rfl,E8 hok e,d,q⟩
def hid (cs:List Addr) (H:Hp):Hp:=fun b=>if b∈cs then none else H b
def Cp (cs:List Addr) (H0 H:Hp):Hp:=fun b=>if b∈cs then H0 b else H b
theorem DD {cs:List Addr}{H:Hp}{b:Addr} (h:b∈cs):hid cs H b=none:=if_pos h
theorem Ay {cs:List Addr}{H:Hp}{b:Addr} (h:b∉cs):hid cs H b=H b:=if_neg h
theorem GN {cs:List Addr}{H0 H:Hp}{b:Addr} (h:b∈cs):Cp cs H0 H b=H0 b:=if_pos h
theorem C2 {cs:List Addr}{H0 H:Hp}{b:Addr} (h:b∉cs):Cp cs H0 H b=H b:=if_neg h
theorem Fp {cs:List Addr}{H:Hp}{b:Addr} (h:H b=none):hid cs H b=none:=by
 unfold hid
 split
 ·rfl
 ·exact h
def Plain (cs:List Addr) (H:Hp):Prop:=∀b∈cs,∀u,H b=some u→∃φ,u=.ext φ
theorem Plain.out {cs:List Addr}{H:Hp} (p:Plain cs H) {b:Addr}{u:HO} (h:H b=some u) (n:∀φ,u≠.ext φ):b∉cs:=fun m=>by
 obtain⟨φ,e⟩:=p b m u h
 exact n φ e
theorem HOk.hid {P:Program}{w:World}{cs:List Addr}{H:Hp}{h:Heap} (p:Plain cs H) (x:HOk P w H h):HOk P w (L2.hid cs H) h:=fun a o e=>by
 by_cases m:a∈cs
 ·rw[DD m] at e;cases e
 ·rw[Ay m] at e
  exact(x a o e).stay (fun _ _ _ q=>q) (fun b q=>by rw[Ay (p.out q fun φ z=>nomatch z)];exact q) fun b xs q=>by rw[Ay (p.out q fun φ z=>nomatch z)];exact q
structure IC (N ps:List Str) (sc:Scope) (cl:List (Str×Addr)):Prop where
 kind:sc.kind=.function
 co:sc.isCoroutine=false
 gen:sc.isGenerator=false
 nd:N.Nodup
 pre:N.take ps.length=ps
 par:∀x∈ps,sc.names.lookup x=some .local
 nocell:∀y∈sc.names,y.2≠.cell
 fr:N.drop ps.length=cl.map (·.1)
 frk:∀x∈cl.map (·.1),sc.names.lookup x=some .free
 all:∀y,sc.names.lookup y=some .free→y∈cl.map (·.1)
 cnd:(cl.map (·.2)).Nodup
def Kt (P:Program) (w:World) (K:AA) (mg:Str→Option Value) (base:Heap) (N:List Str) (qual:Str) (scope:Scope) (f c':Addr) (cl:List (Str×Addr)) (A:Around) (outer:List Env) (s:Shared) (H:Hp):Cx where
 prog:=P
 w:=w
 K:=K
 mg:=mg
 base:=base
 A:=A.deeper (envX qual scope s.heap.objs.size f (.ref c') cl)
 N:=N
 s_0:=s
 H_0:=hid (cl.map (·.2)) H
 env:=envX qual scope s.heap.objs.size f (.ref c') cl
 outer:=outer
 stack:=envX qual scope s.heap.objs.size f (.ref c') cl::outer
 ex:=[]
 calm:=true
 fn:=fun _=>false
 pn:=[]
 xe:=fun _ _=>False
theorem HC:∀{cl:List (Str×Addr)}{i:Nat}{x:Str}{c:Addr},(cl.map (·.1)).Nodup→cl[i]?=some (x,c)→cl.lookup x=some c
 | [],_,_,_,_,h=>by simp at h
 | (y,d)::cl,0,x,c,_,h=>by
  simp at h
  obtain⟨rfl,rfl⟩:=h
  simp
 | (y,d)::cl,i+1,x,c,nd,h=>by
  obtain⟨h1,h2⟩:=DA.mp (show(y::cl.map (·.1)).Nodup from nd)
  have h':cl[i]?=some (x,c):=by simpa using h
  have hm:x∈cl.map (·.1):=BP.mpr ⟨(x,c),CN h',rfl⟩
  have ne:(x==y)=false:=beq_eq_false_iff_ne.mpr fun q=>h1 (q▸hm)
  rw[Dd,ne]
  exact HC h2 h'
theorem Zt:∀{ps:List Str}{us:List Value}{i:Nat}{x:Str}{u:Value},ps.Nodup→ps[i]?=some x→us[i]?=some u→(ps.zip us).reverse.lookup x=some u:=by
 have out:∀(l:List (Str×Value)) (x:Str),(∀v,(x,v)∉l)→l.lookup x=none:=fun l x h=>by
  cases q:l.lookup x with
  | none=>rfl
  | some v=>exact(h v (Bi q)).elim
 have app:∀(l m:List (Str×Value)) (x:Str),(l++m).lookup x=(l.lookup x).or (m.lookup x):=fun l m x=>by
  induction l with
  | nil=>simp
  | cons p l ih =>
   obtain⟨y,v⟩:=p
   rw[FO,Dd,Dd,ih]
   cases x==y <;> rfl
 intro ps
 induction ps with
 | nil=>intro us i x u _ h;simp at h
 | cons p ps ih =>
  intro us i x u nd h1 h2
  cases us with
  | nil=>simp at h2
  | cons w us =>
   obtain⟨n1,n2⟩:=DA.mp nd
   rw[List.zip_cons_cons,List.reverse_cons,app]
   cases i with
   | zero =>
    simp at h1 h2
    subst h1 h2
    rw[out _ p fun v hv=>n1 (Hn (List.mem_reverse.mp hv)).1]
    simp
   | succ i =>
    rw[ih n2 (by simpa using h1) (by simpa using h2)]
    rfl
section
variable {P:Program}{w:World}{K:AA}{mg:Str→Option Value}{base:Heap}
def FreeAt (H:Hp) (cl:List (Str×Addr)) (fvs:List V):Prop:=Paired (fun (p:Str×Addr) v=>CellV H p.2 v) cl fvs
theorem FreeAt.at_:∀{H:Hp}{cl:List (Str×Addr)}{fvs:List V}{i:Nat}{p:Str×Addr},FreeAt H cl fvs→cl[i]?=some p→∃v,fvs[i]?=some v∧CellV H p.2 v
 | _,_,_,_,_,.nil,h=>by simp at h
 | _,_,_,0,p,.cons r _,h=>by
  simp at h
  subst h
  exact⟨_,rfl,r⟩
 | _,_,_,i+1,p,.cons _ t,h=>FreeAt.at_ (i:=i) t (by simpa using h)
theorem K9 {k:Nat}{f c':Addr}{qual:Str}{params:Arguments}{body:Expr}{scope:Scope}{cl:List (Str×Addr)}{pm ctv:Value}{N ps:List Str}{sp:Sp} (S:IC N ps scope cl)
  (len:∀vs H Q E,sp vs H Q E→vs.length=ps.length)
  (hsp:∀vs H Q E,sp vs H Q E→H f=some (KO f (kla_obj "<lambda>" qual params body scope cl pm c' ctv))∧CodeO H c' qual∧∃fvs,FreeAt H cl fvs∧
   ∀(A:Around) (outer:List Env) (s:Shared),Room k (A.deeper (envX qual scope s.heap.objs.size f (.ref c') cl))→
    ∃t,PE (Kt P w K mg base N qual scope f c' cl A outer s H) body t∧t ((vs++fvs).map some) (hid (cl.map (·.2)) H) fun v H'=>(∀c∈cl.map (·.2),H' c=none)→Q v (Cp (cl.map (·.2)) H H')):
  FnOk P w K mg base CX0 (k+1) f (kla_fn "<lambda>" qual params body scope cl pm (.ref c') ctv) ps sp:=by
 refine⟨len,fun A outer s H args us vs Q E hr e0 hb r h=>?_⟩
 have hl:=len _ _ _ _ h
 obtain⟨hf,hc,fvs,hfv,hbody⟩:=hsp _ _ _ _ h
 have lim:s.heap.NoLimit:=e0.mod.nolimit.keeps fun b o e=>(e0.bs b o e).1
 have ndP:ps.Nodup:=by rw[← S.pre];exact S.nd.sublist (Mv _ _)
 have ndC:(cl.map (·.1)).Nodup:=by rw[← S.fr];exact S.nd.sublist (List.drop_sublist _ _)
 have hcs:∀c∈cl.map (·.2),∃v,CellV H c v:=fun c hc=>by
  obtain⟨p,hp,rfl⟩:=BP.mp hc
  obtain⟨i,hi⟩:=FR.mp hp
  obtain⟨v,_,q⟩:=hfv.at_ hi
  exact⟨v,q⟩
 have hpl:Plain (cl.map (·.2)) H:=fun b hb u e=>by
  obtain⟨v,o,_,q,_⟩:=hcs b hb
  rw[q] at e;cases e
  exact⟨_,rfl⟩
 have luc:∀x c,cl.lookup x=some c→(x,c)∈cl:=fun x c e=>Bi e
 refine PySem.W.kla_callFunE hr.depth (E8 e0.hok hf) rfl S.co S.gen rfl (hc.rec_of e0.hok) (hb _ _ _ _ ?_)
 refine wpAny_newFunctionEnv S.nocell (fun y hy=>S.par y.1 (Hn hy).1) (fun h₁ hns hsb=>⟨lim.fresh _ hsb,?_⟩) S.kind
 show codeAny _ _ (.expr body (envX qual scope s.heap.objs.size f (.ref c') cl)) _ _
 have hk:∀b o,s.heap.get? b=some o→h₁.get? b=some o:=fun b o e=>hsb.extBut b o (BM (Aq e)) (BE _ e)
 obtain⟨t,ht,hq⟩:=hbody A outer s (hr.deeper _)
 have noA:∀b:Addr,b∉(Kt P w K mg base N qual scope f c' cl A outer s H).ex:=fun b z=>absurd (show b∈([]:List Addr) from z) (by simp)
 have I:Inv (Kt P w K mg base N qual scope f c' cl A outer s H) [] ((vs++fvs).map some) (hid (cl.map (·.2)) H) { s with heap:=h₁,toks:=s.toks+(ps.zip us).length }:=by
  refine⟨⟨e0.mod,S.kind,rfl,rfl,AV _,fun x y c h1 h2=>?_,fun x hx=>?_,fun x c z _=>absurd (show false=true from z) Af,fun _=>hr.hd,UE e0.frames,.inr ⟨rfl,rfl⟩,fun b z=>absurd z (noA b),fun b o e=>⟨(e0.bs b o e).1,Fp (e0.bs b o e).2⟩,e0.bsz,fun b _ _=>noA b,fun b z=>absurd z (noA b),e0.funs,fun b hb=>Fp (e0.frf b hb)⟩,
   rfl,e0.bare,Un.kept hk,⟨_,hns,fun i x v h1 h2 h3=>?_⟩,fun x c e=>?_,Fp (e0.hok.fresh (AV _)),fun x c e=>?_,fun p hp=>absurd (show p∈([]:List (Addr×Obj)) from hp) (by simp),(e0.hok.hid hpl).kept hk,?_⟩
  ·have m1:=luc x c h1
   have m2:=luc y c h2
   obtain⟨i,hi⟩:=FR.mp m1
   obtain⟨j,hj⟩:=FR.mp m2
   have e:=XH (l:=cl.map (·.2)) S.cnd (i:=i) (j:=j) (x:=c) (by rw[Ah,hi];rfl) (by rw[Ah,hj];rfl)
   subst e
   rw[hi] at hj
   cases hj
   rfl
  ·have hx:scope.names.lookup x=some .cell∨scope.names.lookup x=some .free:=hx
   rcases hx with hx | hx
   ·exact absurd rfl (S.nocell _ (Bi hx))
   ·obtain⟨p,hp,rfl⟩:=BP.mp (S.all x hx)
    obtain⟨i,hi⟩:=FR.mp hp
    exact⟨p.2,HC ndC hi⟩
  ·have h1:N[i]?=some x:=h1
   have lps:ps.length≤N.length:=by have:=congrArg GZ S.pre;rw[EG] at this;omega
   by_cases hi:i < ps.length
   ·have hp:ps[i]?=some x:=by rw[← S.pre,Tv hi];exact h1
    have hv:vs[i]?=some v:=by
     rw[Ah,Ji (by omega)] at h2
     cases e:vs[i]? with
     | none=>rw[e] at h2;cases h2
     | some z=>rw[e] at h2;cases h2;rfl
    obtain⟨u,hu,rv⟩:=r.get hv
    exact⟨u,rv,.inl ⟨S.par x (CN hp),Zt ndP hp hu⟩⟩
   ·have hd:(cl.map (·.1))[i - ps.length]?=some x:=by rw[← S.fr,List.getElem?_drop,show ps.length+(i - ps.length)=i by omega];exact h1
    rw[Ah] at hd
    cases hp:cl[i - ps.length]? with
    | none=>rw[hp] at hd;cases hd
    | some p =>
     rw[hp] at hd
     have hd:p.1=x:=Ae hd
     obtain⟨v',hv',o,u,q1,q2,q3⟩:=hfv.at_ hp
     have hv:v'=v:=by
      rw[Ah,Hj (by omega),hl,hv'] at h2
      cases h2;rfl
     subst hv hd
     refine⟨u,q3,.inr ⟨.inr (S.frk _ (BP.mpr ⟨p,CN hp,rfl⟩)),p.2,HC ndC hp,o,hk _ _ (E8 e0.hok q1),q2⟩⟩
  ·obtain⟨v,o,u,q1,q2,q3⟩:=hcs c (BP.mpr ⟨(x,c),luc x c e,rfl⟩)
   exact⟨some u,o,hk _ _ (E8 e0.hok q1),q2⟩
  ·exact DD (BP.mpr ⟨(x,c),luc x c e,rfl⟩)
  ·show((vs++fvs).map some).length=N.length
   have l1:=congrArg GZ S.fr
   have l2:=FU hfv
   have l3:=congrArg GZ S.pre
   rw[Jk,AG] at l1
   rw[EG] at l3
   rw[AG,BO]
   omega
 refine PySem.W.kla_codeExpr (Cu (ht [] _ _ _ _ I hq) (fun u s' hs=>?_) fun _ _ z=>BL z)
 obtain⟨v,H',J,rv,q⟩:=hs
 have free':∀c∈cl.map (·.2),H' c=none:=fun c hc=>by
  obtain⟨p,hp,rfl⟩:=BP.mp hc
  obtain⟨i,hi⟩:=FR.mp hp
  exact J.freeC p.1 p.2 (HC ndC hi)
 have nofr:∀c∈cl.map (·.2),c∉frs outer:=fun c hc z=>by
  obtain⟨v,o,_,q1,_⟩:=hcs c hc
  rw[e0.frf c z] at q1;cases q1
 have outH:∀{b:Addr} {u:HO},H b=some u→(∀φ,u≠.ext φ)→b∉cl.map (·.2):=fun e n=>hpl.out e n
 have base:=J.base
 show CE outer P w H s Q u s'
 refine⟨v,Cp (cl.map (·.2)) H H',J.os,J.bare,⟨fun b o e n hb hx=>base.keep b o e (Fp n) hb hx,fun b o e n hb hx=>base.slot b o e (Fp n) hb hx,fun b o e n hx=>?_,fun b o e hx=>base.there b o e hx,fun b xs e=>?_,fun b o u e=>?_,fun b ps e=>?_⟩,fun a o e=>?_,rv,q free'⟩
 ·have hb:b∉cl.map (·.2):=fun z=>by
   obtain⟨v,o,_,q1,_⟩:=hcs b z
   rw[n] at q1;cases q1
  rw[C2 hb]
  exact base.free b o e (Fp n) hx
 ·have hb:=outH e fun φ z=>nomatch z
  rw[C2 hb]
  exact base.tups b xs (by show hid _ H b=_;rw[Ay hb];exact e)
 ·have hb:=outH e fun φ z=>nomatch z
  rw[C2 hb]
  exact base.frzs b o u (by show hid _ H b=_;rw[Ay hb];exact e)
 ·have hb:=outH e fun φ z=>nomatch z
  rw[C2 hb]
  exact base.tbls b ps (by show hid _ H b=_;rw[Ay hb];exact e)
 ·by_cases m:a∈cl.map (·.2)
  ·rw[GN m] at e
   obtain⟨v,ob,_,q1,_⟩:=hcs a m
   rw[q1] at e;cases e
   exact G9 (base.keep a ob (E8 e0.hok q1) (DD m) (nofr a m) (noA a))
  ·rw[C2 m] at e
   refine(J.hok a o e).stay (fun _ _ _ q=>q) (fun b q=>?_) fun b xs q=>?_
   ·rw[C2 fun z=>by rw[free' b z] at q;cases q];exact q
   ·rw[C2 fun z=>by rw[free' b z] at q;cases q];exact q
end
end L2
end
section
set_option maxRecDepth 100000
set_option maxHeartbeats 4000000
namespace L2
open PySem PySem.Spec PyProof.Rows
open PySem.W (CodeHd tabObj kla_obj kla_fn envX)
def BF (H:Hp) (Pt:Addr) (pos:Pos) (qual:Str):Prop:=H Pt=some (.tbl #[])∨∃c',H Pt=some (.tbl #[rawInt pos.line,rawInt pos.col,.ref c'])∧CodeO H c' qual
def EN (mg:Str→Option Value) (h:Heap):Prop:=∃bm ob,mg "__builtins__"=some (.ref bm)∧bm≠builtinsNs∧h.get? bm=some ob∧ob.cls=.type "module"∧ob.dict=some builtinsNs∧ob.data=.plain
def ZU (Pt:Addr) (pos:Pos) (qual:Str) (mk:Value→Addr→Value→Obj):TE:=fun _ H Q=>BF H Pt pos qual∧
 ∀(H':Hp) (f c':Addr) (pm ctv:Value),(∀b o,H b=some o→b≠Pt→H' b=some o)→H f=none→H' f=some (KO f (mk pm c' ctv))→H' Pt=some (.tbl #[rawInt pos.line,rawInt pos.col,.ref c'])→CodeO H' c' qual→Q (.ref f) H'
section
variable {X:Cx}
theorem Ld {params:Arguments}{body:Expr}{scope:Scope}{pos:Pos}{c Pt:Addr}{qual:Str}{clos:List (Str×Addr)} (hcode:X.env.code=.ref c) (C:CodeHd X.base c Pt) (hbm:EN X.mg X.base) (hq:X.env.qual++"<lambda>"=qual)
  (hcl:closureFor scope X.env=pure clos) (hdef:defaultsOf params X.env=([],[])):PE X (.Lambda params body scope pos) (ZU Pt pos qual fun pm c' ctv=>kla_obj "<lambda>" qual params body scope clos pm c' ctv):=by
 intro pins s σ H Q I h
 obtain⟨hT,k⟩:=h
 refine PySem.W.kla_eval hdef ?_
 rw[hq]
 have hg:s.heap.Ns mainGlobals X.mg:=I.mod.glob.keeps I.bk
 obtain⟨bm,ob,b1,b2,b3,b4,b5,b6⟩:=hbm
 have hsP:∃ps,H Pt=some (.tbl ps):=by
  rcases hT with e | ⟨c',e,_⟩
  ·exact⟨_,e⟩
  ·exact⟨_,e⟩
 obtain⟨ps0,hH0⟩:=hsP
 have hP0:s.heap.get? Pt=some (tabObj ps0):=I.hok Pt _ hH0
 have hgP:mainGlobals≠Pt:=fun q=>by
  obtain⟨o,es,ep,e,hd,_⟩:=hg
  rw[q,hP0] at e;cases e;cases hd
 have hbP:bm≠Pt:=fun q=>by
  have e:=I.bk _ _ b3
  rw[q,hP0] at e;cases e;cases b4
 have hbG:bm≠mainGlobals:=fun q=>by
  obtain⟨o,es,ep,e,hd,_⟩:=hg
  rw[← q,I.bk _ _ b3] at e;cases e;rw[hd] at b6;cases b6
 have hbm':s.heap.BuiltinsAt X.mg Pt:=⟨bm,ob,b1,b2,hbG,hbP,I.bk _ _ b3,b4,b5,b6⟩
 have hLP:X.env.locals≠Pt:=fun q=>by
  have:=I.free
  rw[q,hH0] at this;cases this
 rcases hT with hH | ⟨c',hH,hc'⟩
 ·have hP:s.heap.get? Pt=some (tabObj #[]):=I.hok Pt _ hH
  refine PySem.W.kla_makeFunction (mg:=X.mg) hcl I.ok.glob hg hcode (C.keeps I.bk) hP trivial rfl hgP hbm' fun c' ctv h' tk hx hge hlt hrec htb=>?_
  obtain⟨c₂,oc,vs,t,e2,hoc,hd,hv⟩:=hrec
  cases e2
  have szP:Pt < s.heap.objs.size:=Aq hP
  have nPc:Pt≠c':=BM (BV szP hge)
  have sz':s.heap.objs.size≤h'.objs.size:=Bb hge (Hq hlt)
  have nPf:Pt≠h'.objs.size:=BM (BV szP sz')
  have ncf:c'≠h'.objs.size:=BM hlt
  generalize ho:kla_obj "<lambda>" qual params body scope clos ((X.mg "__name__").getD .none) c' ctv=fo
  have kp:∀b o,b≠Pt→s.heap.get? b=some o→(h'.push fo).get? b=some o:=fun b o hb e=>BE _ (hx b o hb e)
  have fresh:∀b,s.heap.objs.size≤b→H b=none:=fun b hb=>I.hok.fresh hb
  have tb:(h'.push fo).get? Pt=some (tabObj #[rawInt pos.line,rawInt pos.col,.ref c']):=BE _ (by rw[htb];simp)
  let H':Hp:=upd (upd (upd H Pt (.tbl #[rawInt pos.line,rawInt pos.col,.ref c'])) c' (KO c' oc)) h'.objs.size (KO h'.objs.size fo)
  have H'o:∀b o,H b=some o→b≠Pt→H' b=some o:=fun b o e hb=>by
   show upd _ _ _ b=_
   rw[AE (Am e (fresh _ sz')),AE (Am e (fresh _ hge)),AE hb]
   exact e
  have H'P:H' Pt=some (.tbl #[rawInt pos.line,rawInt pos.col,.ref c']):=by
   show upd _ _ _ Pt=_
   rw[AE nPf,AE nPc,AI]
  have H'c:H' c'=some (KO c' oc):=by
   show upd _ _ _ c'=_
   rw[AE ncf,AI]
  have H'f:H' h'.objs.size=some (KO h'.objs.size fo):=AI
  have I':Inv X pins σ H' { s with heap:=h'.push fo,toks:=tk }:=by
   refine I.step (ch:=[]) (fun _ z=>nomatch z) (fun b o _ _ _ e n=>kp b o (fun z=>by rw[z,hH] at n;cases n) e) (fun b o _ _ _ e n=>⟨o.slots,kp b o (fun z=>by rw[z,hH] at n;cases n) e⟩) (fun b o _ e n=>?_) (fun b o _ e=>?_)
    (fun b xs e=>H'o b _ e fun z=>by rw[z,hH] at e;cases e) (fun b o u e=>H'o b _ e fun z=>by rw[z,hH] at e;cases e) (fun b qs e=>?_) (fun m hm=>?_) (fun a o e=>?_) I.bare
   ·have hb:b < s.heap.objs.size:=Aq e
    show upd _ _ _ b=_
    rw[AE (BM (BV hb sz')),AE (BM (BV hb hge)),AE (fun z=>by rw[z,hH] at n;cases n)]
    exact n
   ·by_cases hb:b=Pt
    ·subst hb;exact⟨_,tb⟩
    ·exact⟨o,kp b o hb e⟩
   ·by_cases hb:b=Pt
    ·subst hb
     rw[hH] at e;cases e
     exact⟨#[rawInt pos.line,rawInt pos.col,.ref c'],by rw[H'P];simp⟩
    ·exact⟨#[],by rw[H'o b _ e hb];simp⟩
   ·exact(hm.extBut hx hLP).push _
   ·by_cases h1:a=h'.objs.size
    ·subst h1
     rw[H'f] at e;cases e
     exact G9 (BQ _ (by rw[← ho];rfl))
    ·by_cases h2:a=c'
     ·subst h2
      rw[H'c] at e;cases e
      exact G9 (BE _ hoc)
     ·by_cases h3:a=Pt
      ·subst h3
       rw[H'P] at e;cases e
       exact tb
      ·have e:upd _ _ _ a=some o:=e
       rw[AE h1,AE h2,AE h3] at e
       refine(I.hok a o e).stay (fun b u hb q=>kp b u ?_ q) (fun b q=>H'o b _ q fun z=>by rw[z,hH] at q;cases q) fun b xs q=>H'o b _ q fun z=>by rw[z,hH] at q;cases q
       rcases hb with z | z
       ·rw[z];exact h3
       ·exact fun y=>by rw[y,hH] at z;cases z
  refine⟨.ref h'.objs.size,H',I',rfl,k H' h'.objs.size c' ((X.mg "__name__").getD .none) ctv H'o (fresh _ sz') (H'f.trans (congrArg (fun z=>some (KO h'.objs.size z)) ho.symm)) H'P ⟨oc,vs,t,H'c,hd,hv⟩⟩
 ·have hP:s.heap.get? Pt=some (tabObj #[rawInt pos.line,rawInt pos.col,.ref c']):=I.hok Pt _ hH
  refine PySem.W.kla_makeFunctionHit (cv:=.ref c') (mg:=X.mg) hcl I.ok.glob hg hcode (C.keeps I.bk) hP trivial (by simp[codeAmong,rawInt]) hbm' fun ctv h' tk hx hsz=>?_
  generalize ho:({ cls:=.type "function",data:=.func (kla_fn "<lambda>" qual params body scope clos ((X.mg "__name__").getD .none) (.ref c') ctv) }:Obj)=fo
  have fresh:H h'.objs.size=none:=I.hok.fresh hsz
  have I':Inv X pins σ (upd H h'.objs.size (KO h'.objs.size fo)) { s with heap:=h'.push fo,toks:=tk } :=
   I.laid (fun b u e=>BE _ (hx b u e)) hsz (G9 (BQ _ (by rw[← ho];rfl)))
  have H'o:∀b o,H b=some o→upd H h'.objs.size (KO h'.objs.size fo) b=some o:=fun b o e=>by rw[AE (Am e fresh)];exact e
  refine⟨.ref h'.objs.size,_,I',rfl,k _ h'.objs.size c' ((X.mg "__name__").getD .none) ctv (fun b o e _=>H'o b o e) fresh (by rw[AI];exact congrArg (fun z=>some (KO h'.objs.size z)) ho.symm) (H'o _ _ hH) ?_⟩
  obtain⟨oc,vs,t,q1,q2,q3⟩:=hc'
  exact⟨oc,vs,t,H'o _ _ q1,q2,q3⟩
def FnO (H:Hp) (f:Addr):Prop:=∃(o:Obj) (fd:FuncData),H f=some (KO f o)∧o.data=.func fd
theorem FnO.at_ {P:Program}{w:World}{H:Hp}{h:Heap}{f:Addr} (x:FnO H f) (hok:HOk P w H h):PySem.W.FnAt f h:=by
 obtain⟨⟨oc,od,dt,sl⟩,fd,e,d⟩:=x
 have d:dt=.func fd:=d
 subst d
 exact⟨oc,od,fd,sl,E8 hok e⟩
def ZL (X:Cx) (k i:Nat) (t:TA):TE:=fun σ H Q=>∃(f:Addr) (fd:FuncData) (ps:List Str) (sp:Sp),σ[i]?=some (some (.ref f))∧FnO H f∧FnOk X.prog X.w X.K X.mg X.base CX0 k f fd ps sp∧Binds X.K fd ps []∧t σ H fun vs H1=>FnO H1 f∧sp vs H1 Q E0
theorem QK {k i:Nat}{x:Str}{p pos:Pos}{e:Expr}{es:List Expr}{t:TA} (hr:Room k X.A) (ha:PA X (e::es) t) (hN:X.N[i]?=some x:=by rfl) (hv:Vis X.env.scope x:=by first | exact AZ rfl | exact Df (AZ rfl) | exact Df (Df rfl))
  (hdb:(x==("__debug__":Str))=false:=by decide) (hcd:(x==("__classdict__":Str))=false:=by decide) (he:starEach (e::es) X.env=(false,eval e X.env)::starEach es X.env:=by rfl) (hpl:(backTo pos (starEach es X.env)).any (·.1)=false:=by rfl):
  PE X (.Call (.Name x p) (e::es) [] pos) (ZL X k i t):=by
 intro pins s σ H Q I h
 obtain⟨f,fd,ps,sp,hi,hf,F,hb,h⟩:=h
 refine Fc (thn (QP hN hv hdb hcd pins s σ H (fun v H1=>v=.ref f∧H1=H) I ⟨_,hi,rfl,rfl⟩) fun u s1 ⟨v,H1,I1,r,e1,e2⟩=>?_)
 subst e1 e2
 obtain rfl:u=.ref f:=r
 refine PySem.W.callWith_F (hf.at_ I1.hok) (thn (ha pos pins s1 σ H1 _ I1 h) fun us s2 ⟨vs,H2,I2,r2,hf2,q⟩=>⟨hf2.at_ I2.hok,?_⟩) he hpl
 refine Qk F hr hb .nil F3 I2 r2 ?_
 rw[C7]
 exact q
def BX (X:Cx):List Addr:=X.env.cells.map (·.2)
def ZJ (X:Cx) (sp:Sp) (t:TA):TE:=fun σ H Q=>t σ H fun vs H1=>∀H2:Hp,(∀b,b∉BX X→H2 b=H1 b)→(∀b∈BX X,H1 b=none)→
 (∀(i:Nat) (x:Str) (v:V) (c:Addr),X.N[i]?=some x→σ[i]?=some (some v)→X.env.kindOf x=some .cell→X.env.cells.lookup x=some c→CellV H2 c v)→
 sp vs H2 (fun v H'=>(∀c∈BX X,H' c=H2 c)∧Q v (hid (BX X) H')) E0
theorem La {k:Nat}{f:Addr}{fd:FuncData}{ps:List Str}{sp:Sp}{x:Str}{p pos:Pos}{e:Expr}{es:List Expr}{t:TA} (F:FnOk X.prog X.w X.K X.mg X.base CX0 k f fd ps sp) (hr:Room k X.A) (hg:Gl X x) (hm:X.mg x=some (.ref f)) (hk:FX X.K (.ref f)=true)
  (hb:Binds X.K fd ps []) (hfn:∀y,X.fn y=true) (hnd:(X.env.cells.map (·.1)).Nodup) (ha:PA X (e::es) t) (hdb:(x==("__debug__":Str))=false:=by decide) (he:starEach (e::es) X.env=(false,eval e X.env)::starEach es X.env:=by rfl) (hpl:(backTo pos (starEach es X.env)).any (·.1)=false:=by rfl):
  PE X (.Call (.Name x p) (e::es) [] pos) (ZJ X sp t):=by
 intro pins s0 σ H0 Q I0 h0
 refine Fc (HA I0 hg hm ?_ hdb)
 refine NM (h₀:=X.base) I0.ok.mod.kin hk (thn (ha pos pins s0 σ H0 _ I0 h0) fun us s ⟨vs,H,I,r,h⟩=>⟨I.kIn,?_⟩) he hpl
 have look:∀c∈BX X,∃y,X.env.cells.lookup y=some c:=fun c hc=>by
  obtain⟨q,hq,rfl⟩:=BP.mp hc
  obtain⟨i,hi⟩:=FR.mp hq
  exact⟨q.1,HC hnd hi⟩
 have cin:∀{y:Str} {c:Addr},X.env.cells.lookup y=some c→c∈BX X:=fun {y c} e=>BP.mpr ⟨(y,c),Bi e,rfl⟩
 have hobj:∀c∈BX X,∃o,s.heap.get? c=some o:=fun c hc=>by
  obtain⟨y,e⟩:=look c hc
  obtain⟨v,o,ho,_⟩:=I.cell y c e
  exact⟨o,ho⟩
 have hnone:∀c∈BX X,H c=none:=fun c hc=>by
  obtain⟨y,e⟩:=look c hc
  exact I.freeC y c e
 let H2:Hp:=fun b=>if b∈BX X then (s.heap.get? b).map (KO b) else H b
 have H2i:∀{c:Addr} {o:Obj},c∈BX X→s.heap.get? c=some o→H2 c=some (KO c o):=fun {c o} hc e=>by
  show(if c∈BX X then (s.heap.get? c).map (KO c) else H c)=_
  rw[if_pos hc,e];rfl
 have H2o:∀{b:Addr},b∉BX X→H2 b=H b:=fun hb=>if_neg hb
 have outc:∀{b:Addr} {u:HO},H b=some u→b∉BX X:=fun e z=>by rw[hnone _ z] at e;cases e
 have nofr:∀c∈BX X,c∉frs X.stack:=fun c hc z=>by
  obtain⟨y,e⟩:=look c hc
  rcases AS.mp (I.stkSub c z) with q | q
  ·exact I.cne y c e q
  ·obtain⟨_,o,ho,_⟩:=I.ok.funs.mem q
   exact absurd (BV (Aq ho) (I.ok.cab y c (hfn y) e)) (Cr _)
 have e0:Env0 X.prog X.w X.K X.mg X.base X.A X.stack s H2:=by
  have z:=I.env0
  refine⟨z.frames,z.mod,fun b o e=>⟨(z.bs b o e).1,?_⟩,z.bsz,z.funs,fun b hb=>?_,fun a o e=>?_,z.bare⟩
  ·rw[H2o fun hc=>?_]
   ·exact(z.bs b o e).2
   ·obtain⟨y,q⟩:=look b hc
    exact absurd (BV (Aq e) (Bb I.ok.bsz (I.ok.cab y b (hfn y) q))) (Cr _)
  ·rw[H2o fun hc=>nofr b hc hb]
   exact z.frf b hb
  ·by_cases hc:a∈BX X
   ·obtain⟨ob,ho⟩:=hobj a hc
    rw[H2i hc ho] at e;cases e
    exact G9 ho
   ·rw[H2o hc] at e
    exact(I.hok a o e).stay (fun _ _ _ q=>q) (fun b q=>by rw[H2o (outc q)];exact q) fun b xs q=>by rw[H2o (outc q)];exact q
 have hsp:=h H2 (fun b hb=>H2o hb) hnone fun i y v c h1 h2 h3 h4=>by
  obtain⟨m,hn,hl⟩:=I.loc
  obtain⟨u,rv,lk⟩:=hl i y v h1 h2 (.inr (.inl h3))
  rcases lk with ⟨q,_⟩ | ⟨_,c₂,q1,o,ho,hd⟩
  ·rw[h3] at q;cases q
  ·rw[h4] at q1;cases q1
   exact⟨o,u,H2i (cin h4) ho,hd,rv⟩
 have hl:us.length=ps.length:=by rw[← r.length];exact F.len _ _ _ _ hsp
 refine NY (FZ (F.run X.A X.stack s H2 ⟨us,[]⟩ us vs _ E0 hr e0 (by have:=hb s us I.kIn (by rw[C7];exact hl);rw[C7] at this;exact this) r hsp) fun r' s' hq=>?_)
 cases r' with
 | error e=>exact BL hq
 | ok fl =>
  cases fl with
  | next=>exact BL hq
  | brk=>exact BL hq
  | cont=>exact BL hq
  | ret u =>
   obtain⟨v,H',os,bare,un,hok,rv,hc',q⟩:=hq
   have kept:∀c o,c∈BX X→s.heap.get? c=some o→s'.heap.get? c=some o∧H' c=some (KO c o):=fun c o hc e=>by
    have e2:=(hc' c hc).trans (H2i hc e)
    exact⟨E8 hok e2,e2⟩
   refine I.after ⟨v,hid (BX X) H',os,bare,⟨fun b o e n hb hx=>?_,fun b o e n hb hx=>?_,fun b o e n hx=>?_,fun b o e hx=>un.there b o e hx,fun b xs e=>?_,fun b o u e=>?_,fun b qs e=>?_⟩,hok.hid fun b hb u e=>?_,rv,q⟩
   ·by_cases hc:b∈BX X
    ·exact(kept b o hc e).1
    ·exact un.keep b o e (by rw[H2o hc];exact n) hb hx
   ·have hc:b∉BX X:=fun z=>nofr b z hb
    exact un.slot b o e (by rw[H2o hc];exact n) hb hx
   ·by_cases hc:b∈BX X
    ·exact DD hc
    ·rw[Ay hc]
     exact un.free b o e (by rw[H2o hc];exact n) hx
   ·rw[Ay (outc e)]
    exact un.tups b xs (by rw[H2o (outc e)];exact e)
   ·rw[Ay (outc e)]
    exact un.frzs b o u (by rw[H2o (outc e)];exact e)
   ·rw[Ay (outc e)]
    exact un.tbls b qs (by rw[H2o (outc e)];exact e)
   ·obtain⟨o,ho⟩:=hobj b hb
    rw[(kept b o hb ho).2] at e
    cases e
    exact⟨_,rfl⟩
end
end L2
end
section
set_option maxRecDepth 100000
set_option maxHeartbeats 4000000
namespace Fb
open PySem PySem.Spec PyProof.Rows L2
abbrev Qr:Stmt:=Ra
def U8 (H H1 H2:Hp):Prop:=∀b o,H b=none→H1 b=some o→H2 b=some o
theorem Vh (xs:List V) (v:V):CP (xs++[v]) none (some (-1))=xs:=by
 unfold CP
 have e1:HT.sIx (xs++[v]).length 0 none=0:=rfl
 have e2:HT.sIx (xs++[v]).length (xs++[v]).length (some (-1))=xs.length:=by
  show(if (-1:Int) < 0 then ((-1:Int)+((xs++[v]).length:Nat)).toNat else min (-1:Int).toNat (xs++[v]).length)=_
  rw[if_pos (by decide),BO]
  simp only[C8]
  omega
 rw[e1,e2]
 simp
structure Kc (P:Program) (w:World) (K:AA) (mg:Str→Option Value) (kT:Nat) (H:Hp) (f:Addr) (full:List (List Int)) (J:Nat→Hp→Prop) (R:Nat→Int):Prop where
 st:J 0 H
 mono:∀i H1 H2,J i H1→Same H1 H2→J i H2
 fn:∀i H1,J i H1→FnO H1 f
 ok:∃(fd:FuncData) (sp':Sp),(∀base:Heap,FnOk P w K mg base CX0 kT f fd ["number","line"] sp')∧Binds K fd ["number","line"] []∧
  ∀(i:Nat) (la:Addr) (ln:List Int) (H1:Hp) (Q1:VK),full[i]?=some ln→J i H1→H la=none→H1 la=some (.lst (ln.map V.int))→
   (∀H2,U8 H H1 H2→(R i=0→J (i+1) H2)→(R i≠0→J i H2)→Q1 (.int (R i)) H2)→sp' [.int (i:Nat),.ref la] H1 Q1 E0
def Told (full:List (List Int)) (rest:List Int) (R:Nat→Int) (j:Nat) (res:List Int):Prop :=
 (j < full.length∧(∀i < j,R i=0)∧R j≠0∧res=[R j,(j:Int)])∨(j=full.length∧(∀i < j,R i=0)∧res=if rest=[] then [] else [1,(j:Int)])
def Lz (P:Program) (w:World) (K:AA) (mg:Str→Option Value) (kT:Nat):Sp:=fun vs H Q _=>∃(a f:Addr) (ns:List Int) (full:List (List Int)) (rest:List Int) (J:Nat→Hp→Prop) (R:Nat→Int),
 vs=[.ref a,.ref f]∧SqL K H a (ns.map V.int)∧ns.length < 100000∧Ai 10 ns=full++[rest]∧Kc P w K mg kT H f full J R∧
 ∀(H':Hp) (p:Addr) (j:Nat) (res:List Int),J j H'→H' p=none→Told full rest R j res→Q (.ref p) (upd H' p (.lst (res.map V.int)))
theorem scFirst:AY ["text","take","lines","number","line","kind"] ["text","take"] (AK Qr):=⟨rfl,rfl,rfl,by decide +kernel,rfl,by decide +kernel,by decide +kernel⟩
section
variable {P:Program}{w:World}{K:AA}{mg:Str→Option Value}{base:Heap}
theorem ok_first {f0:Addr}{fd0:FuncData}{kT:Nat} (F:Fun K "first_fault" "first_fault" Qr f0 fd0) (B:Blt mg) (c1:Cst mg "LINE_END" (.int 10)) (c2:Cst mg "NO_SUCH_LINE" (.int 1)) (g1:Has P w K mg "split_at" 1 ["mark","values"] (EE K)):
  FnOk P w K mg base CX0 (kT+2) f0 fd0 ["text","take"] (Lz P w K mg kT):=by
 refine F.ok (k:=kT+1) scFirst (fun vs H Q E h=>?_) (fun cdv A outer s H vs Q E hr h=>?_)
 ·obtain⟨a,f,ns,full,rest,J,R,rfl,_⟩:=h
  rfl
 ·obtain⟨a,f,ns,full,rest,J,R,rfl,hS,hlen,hcut,T,k⟩:=h
  have hr1:Room 1 _:=hr.mono (by omega)
  have hrT:Room kT _:=hr.mono (by omega)
  obtain⟨fd,sp',hF,hB,hstep⟩:=T.ok
  refine⟨_,AJ (BB (i:=2) scFirst.nd rfl (AZ rfl) (AN g1 hr1 (by rfl) (AB (AW c1 rfl) (AB (pv 0) AD))))
   (AJ (FC FV rfl (QQ (by rfl) B.enumerate (AB (F5 GG (pv 2) F8 (F9 (F6 GL AO))) AD)) (Le rfl (F7 (Bq (i:=3) scFirst.nd rfl (AZ rfl)) (F7 (Bq (i:=4) scFirst.nd rfl (AZ rfl)) Lf)))
    (AJ (BB (i:=5) scFirst.nd rfl (AZ rfl) (QK (k:=kT) (i:=1) hrT (AB (pv 3) (AB (pv 4) AD))))
     (AH (Al (Ac Iz (pv 5) AO (AR _)) (AH (AL (A7 (AB (pv 5) (AB (pv 3) AD))))) An))))
   (AJ (Al (Ac F2 (Av Bj (by rfl) B.len BW (AB (Bp Bn (pv 2) (F6 GL AO) (fun _ _=>rfl)) AD)) AO (AR _))
     (AH (AL (A7 (AB (AW c2 rfl) (AB (EB LY (Av Bj (by rfl) B.len BW (AB (pv 2) AD)) AO) AD))))) An)
   (AH (AL (A7 AD))))),?_⟩
  refine⟨_,rfl,a,10,ns,rfl,hS,hlen,fun H1 p as s1 np nas hp hpa=>?_⟩
  rw[hcut] at hpa
  have hal:=CU hpa
  rw[BO,C8] at hal
  obtain⟨asF,aR,rfl⟩:∃asF aR,as=asF++[aR]:=by
   have ne:as≠[]:=by intro q;rw[q] at hal;simp at hal
   exact⟨as.dropLast,as.getLast ne,(Jd ne).symm⟩
  have hlF:asF.length=full.length:=by rw[BO,C8] at hal;omega
  have hcl:=Fl 10 ns
  rw[hcut,BO,C8] at hcl
  refine⟨_,rfl,_,rfl,_,rfl,p,_,rfl,SqL.of hp,fun q nq=>?_⟩
  have emap:(asF++[aR]).map V.ref=asF.map V.ref++[V.ref aR]:=CV
  have ecut:CP ((asF++[aR]).map V.ref) none (some (-1))=asF.map V.ref:=by rw[emap];exact Vh _ _
  rw[ecut]
  have s2:Same H1 (upd H1 q (.lst (asF.map V.ref))):=(Same.refl H1).new nq
  have nq0:H q=none:=s1.free nq
  have hq1:upd H1 q (.lst (asF.map V.ref)) q=some (.lst (asF.map V.ref)):=AI
  have hp1:=s2 _ _ hp
  have hpa1:Paired (fun a ps=>upd H1 q (.lst (asF.map V.ref)) a=some (.lst (ps.map V.int))) (asF++[aR]) (full++[rest]):=Paired.mapP hpa fun a b e=>s2 _ _ e
  have J0:J 0 (upd H1 q (.lst (asF.map V.ref))):=T.mono 0 _ _ T.st (s1.trans s2)
  generalize upd H1 q (.lst (asF.map V.ref))=H2 at hq1 hp1 hpa1 J0 ⊢
  refine⟨q,_,rfl,SqL.of hq1,?_⟩
  refine G3 (n:=full.length) (fun i σ H'=>∃(v3 v4 v5:Option V),σ=[some (.ref a),some (.ref f),some (.ref p),v3,v4,v5]∧J i H'∧(∀i' < i,R i'=0)∧H' q=some (.lst (asF.map V.ref))∧
    H' p=some (.lst ((asF++[aR]).map V.ref))∧Paired (fun a ps=>H' a=some (.lst (ps.map V.int))) (asF++[aR]) (full++[rest]))
   ⟨none,none,none,rfl,J0,fun i' h=>absurd h (Hr _),hq1,hp1,hpa1⟩ ?_ ?_ ?_ ?_
  ·rintro i σ H' hi ⟨_,_,_,_,_,_,h,_⟩
   exact⟨_,_,SqL.of h,BD (by rw[AG,hlF];exact hi)⟩
  ·rintro σ H' ⟨_,_,_,_,_,_,h,_⟩
   exact⟨_,SqL.of h,by rw[AG,hlF];exact AV _⟩
  ·rintro i y σ H' H3 hi ⟨v3,v4,v5,rfl,hJ,hR,hq,hp,hpa⟩ ⟨Tp,x,rfl,nT,rfl,hx⟩
   have hxi:=hx _ (SqL.of hq)
   rw[Ah] at hxi
   cases hla:asF[i]? with
   | none=>rw[hla] at hxi;cases hxi
   | some la =>
   rw[hla] at hxi
   have ex:V.ref la=x:=Ae hxi
   subst ex
   have hlaA:(asF++[aR])[i]?=some la:=by rw[Ji (by omega)];exact hla
   obtain⟨ln,hln⟩:∃ln,full[i]?=some ln:=⟨_,BD hi⟩
   have hlnA:(full++[rest])[i]?=some ln:=by rw[Ji hi];exact hln
   have nla:H la=none:=nas la (CN hlaA)
   have hlaH:H' la=some (.lst (ln.map V.int)):=by
    obtain⟨la',e1,e2⟩:=DF hpa hlnA
    rw[hlaA] at e1
    cases e1
    exact e2
   have s3:Same H' (upd H' Tp (.tup [.int (i:Nat),.ref la])):=(Same.refl H').new nT
   have hT:upd H' Tp (.tup [.int (i:Nat),.ref la]) Tp=some (.tup [.int (i:Nat),.ref la]):=AI
   generalize upd H' Tp (.tup [.int (i:Nat),.ref la])=H3 at s3 hT ⊢
   have hJ3:=T.mono i _ _ hJ s3
   refine⟨Tp,_,rfl,.inl (.inl hT),rfl,_,_,rfl,_,_,rfl,rfl,?_⟩
   refine⟨f,fd,["number","line"],sp',rfl,T.fn i _ hJ3,hF _,hB,_,rfl,_,rfl,T.fn i _ hJ3,?_⟩
   refine hstep i la ln H3 _ hln hJ3 nla (s3 _ _ hlaH) fun H4 nk z nz=>?_
   refine⟨_,rfl,rfl,_,rfl,?_⟩
   by_cases hz:R i=0
   ·refine Wc (congrArg V.int hz) ?_
    refine⟨_,_,_,rfl,z hz,fun i' h'=>?_,nk _ _ nq0 (s3 _ _ hq),nk _ _ np (s3 _ _ hp),?_⟩
    ·rcases Jw.mp h' with q | q
     ·exact hR i' q
     ·rw[q];exact hz
    ·exact HI hpa fun b ps hb e=>nk _ _ (nas b hb) (s3 _ _ e)
   ·have hne:¬V.int (R i)=V.int 0:=fun q=>hz (by injection q)
    rw[decide_eq_false hne]
    refine PM ?_
    refine⟨_,rfl,_,rfl,(show 2≤sizeLine from CC (by decide)),fun l nl=>?_⟩
    exact k H4 l i [R i,(i:Int)] (nz hz) nl (.inl ⟨hi,hR,hz,rfl⟩)
  ·rintro σ H' ⟨v3,v4,v5,rfl,hJ,hR,hq,hp,hpa⟩
   have hRest:H' aR=some (.lst (rest.map V.int)):=by
    obtain⟨la',e1,e2⟩:=DF hpa (i:=full.length) (b:=rest) (by simp)
    rw[Hj (by omega)] at e1
    rw[hlF,Jz] at e1
    cases e1
    exact e2
   refine⟨_,rfl,_,rfl,p,_,_,_,rfl,rfl,SqL.of hp,by rw[emap];exact Kg _ _,aR,_,rfl,.inl (SqL.of hRest),_,_,rfl,rfl,_,rfl,?_⟩
   by_cases hz:rest=[]
   ·have:¬(0:Int) < (((rest.map V.int).length:Nat):Int):=by rw[hz];simp
    rw[decide_eq_false this]
    refine Ik ?_
    refine⟨CC (by decide),fun l nl=>?_⟩
    refine k H' l full.length [] hJ nl (.inr ⟨rfl,hR,?_⟩)
    rw[if_pos hz]
   ·have:(0:Int) < (((rest.map V.int).length:Nat):Int):=by
     rw[AG]
     cases rest with
     | nil=>exact absurd rfl hz
     | cons a b=>simp
    rw[decide_eq_true this]
    refine PM ?_
    refine⟨_,rfl,p,_,rfl,.inl (SqL.of hp),_,_,rfl,rfl,(show 2≤sizeLine from CC (by decide)),fun l nl=>?_⟩
    have e9:(((asF++[aR]).map V.ref).length:Int) - 1=(full.length:Int):=by
     rw[AG,BO,C8,hlF]
     omega
    show Q (.ref l) (upd H' l (.lst [V.int 1,V.int ((((asF++[aR]).map V.ref).length:Int) - 1)]))
    rw[e9]
    refine k H' l full.length [1,(full.length:Int)] hJ nl (.inr ⟨rfl,hR,?_⟩)
    rw[if_neg hz]
end
end Fb
end
section
set_option maxRecDepth 100000
set_option maxHeartbeats 4000000
namespace Fb
open PySem PySem.Spec PyProof.Rows L2
theorem bT {b:Bool}{A C:Prop} (h:b=true) (k:A):if b=true then A else C:=by rw[if_pos h];exact k
theorem bF {b:Bool}{A C:Prop} (h:b=false) (k:C):if b=true then A else C:=by rw[if_neg (by rw[h];exact Af)];exact k
theorem JT {a b:Int} (h:V.int a=V.int b):a=b:=by injection h
theorem BK {a b:Int} (h:a≠b):¬V.int a=V.int b:=fun q=>h (JT q)
abbrev RG:Stmt:=SD
def MD (K:AA):Sp:=fun vs H Q _=>∃(a:Addr) (ns:List Int) (m:Int),vs=[.ref a,.int m]∧SqL K H a (ns.map V.int)∧Pur H Q (.int (DJ m ns))
theorem scSmall:AY ["word","most","number"] ["word","most"] (AK RG):=⟨rfl,rfl,rfl,by decide +kernel,rfl,by decide +kernel,by decide +kernel⟩
section
variable {P:Program}{w:World}{K:AA}{mg:Str→Option Value}{base:Heap}
theorem ok_small {f:Addr}{fd:FuncData} (F:Fun K "small_number" "small_number" RG f fd) (B:Blt mg):FnOk P w K mg base CX0 1 f fd ["word","most"] (MD K):=by
 refine F.ok scSmall (fun vs H Q E h=>?_) (fun cdv A outer s H vs Q E hr h=>?_)
 ·obtain⟨a,ns,m,rfl,_⟩:=h
  rfl
 ·obtain⟨a,ns,m,rfl,hS,k⟩:=h
  have kk:=k H (Same.refl H)
  refine⟨_,AJ (Al (Ac Iz (Av Bj (by rfl) B.len BW (AB (pv 0) AD)) AO (AR _)) (AH (AL AO)) An)
   (AJ (BB (i:=2) scSmall.nd rfl (AZ rfl) (EB LY (Bp Bn (pv 0) AO (fun _ _=>rfl)) (Av Fi (by rfl) B.ord Gb (AB DX AD))))
   (AH (AL (Lc (Xy CY CY AO (pv 2) (pv 1)) (pv 2) AO)))),?_⟩
  refine⟨_,rfl,a,_,rfl,.inl hS,rfl,_,rfl,?_⟩
  match ns,hS,kk with
  | [],hS,kk=>exact bT rfl kk
  | c::d::r,hS,kk =>
   refine bT ?_ kk
   rw[decide_eq_false (BK (by simp;omega))];rfl
  | [c],hS,kk =>
   refine bF (by rw[decide_eq_true (show V.int ((([c]:List Int).map V.int).length:Nat)=V.int 1 from rfl)];rfl) ?_
   refine⟨_,rfl,a,_,_,_,rfl,rfl,hS,Bx (j:=0) rfl,_,rfl,rfl,_,_,rfl,rfl,_,rfl,_,_,rfl,rfl,_,rfl,?_⟩
   have e48:((Dz "0").cps.getD 0 0:Nat)=48:=rfl
   unfold DJ at kk
   have kk:Q (.int (if 1≤c - 48∧c - 48≤m then c - 48 else 0)) H:=kk
   by_cases h1:1≤c - 48
   ·refine bT (decide_eq_true h1) ?_
    refine⟨_,rfl,_,_,rfl,rfl,_,rfl,?_⟩
    by_cases h2:c - 48≤m
    ·rw[if_pos ⟨h1,h2⟩] at kk
     exact bT (decide_eq_true h2) ⟨_,rfl,kk⟩
    ·rw[if_neg fun q=>h2 q.2] at kk
     exact bF (decide_eq_false h2) kk
   ·rw[if_neg fun q=>h1 q.1] at kk
    exact bF (decide_eq_false h1) ⟨_,rfl,bF rfl kk⟩
end
abbrev RE:Stmt:=R9
def Cn (ns:List Int):Int:=if ns=BJ "square" then 0 else if ns=BJ "tails" then 1 else if ns=BJ "long" then 2 else -1
def shps:List Str:=["square","tails","long"]
def KZ (K:AA) (mg:Str→Option Value) (x:Str) (xs:List V):Prop:=∃t:Addr,mg x=some (.ref t)∧∀H:Hp,SqT K H t xs
def Su (K:AA):Sp:=fun vs H Q _=>∃(a:Addr) (ns:List Int),vs=[.ref a]∧SqL K H a (ns.map V.int)∧Pur H Q (.int (Cn ns))
theorem scShape:AY ["word","number","shape"] ["word"] (AK RE):=⟨rfl,rfl,rfl,by decide +kernel,rfl,by decide +kernel,by decide +kernel⟩
section
variable {P:Program}{w:World}{K:AA}{mg:Str→Option Value}{base:Heap}
theorem ok_shape {f:Addr}{fd:FuncData} (F:Fun K "shape_told" "shape_told" RE f fd) (B:Blt mg) (c1:KZ K mg "SHAPES" (shps.map V.str)) (g1:Has P w K mg "letters" 1 ["word"] HV):FnOk P w K mg base CX0 2 f fd ["word"] (Su K):=by
 refine F.ok scShape (fun vs H Q E h=>?_) (fun cdv A outer s H vs Q E hr h=>?_)
 ·obtain⟨a,ns,rfl,_⟩:=h
  rfl
 ·obtain⟨a,ns,rfl,hS,k⟩:=h
  obtain⟨t,hmg,hSh⟩:=c1
  refine⟨_,AJ (FC FV rfl (Xs (by rfl) B.enumerate (AB (AW (v:=.ref t) ⟨_,hmg,rfl⟩ rfl) AD)) (Le rfl (F7 (Bq (i:=1) scShape.nd rfl (AZ rfl)) (F7 (Bq (i:=2) scShape.nd rfl (AZ rfl)) Lf)))
    (AH (Al (Ac (EZ hr.units) (pv 0) (AN g1 hr (by rfl) (AB (pv 2) AD)) (AR _)) (AH (AL (pv 1))) An)))
   (AH (AL (F6 GL AO))),?_⟩
  refine⟨t,_,rfl,hSh _,?_⟩
  refine G3 (n:=3) (fun i σ H'=>∃(v1 v2:Option V),σ=[some (.ref a),v1,v2]∧Same H H'∧∀j x,j < i→shps[j]?=some x→ns≠BJ x) ⟨none,none,rfl,Same.refl H,fun j x h=>absurd h (Hr _)⟩ ?_ ?_ ?_ ?_
  ·rintro i σ H' hi _
   exact⟨_,_,hSh _,BD (by rw[AG];exact hi)⟩
  ·rintro σ H' _
   exact⟨_,hSh _,rfl⟩
  ·rintro i y σ H' H2 hi ⟨v1,v2,rfl,s1,hno⟩ ⟨T,x,rfl,nT,rfl,hx⟩
   have hxi:=hx _ (hSh _)
   rw[Ah] at hxi
   cases hs:shps[i]? with
   | none=>rw[hs] at hxi;cases hxi
   | some z =>
   rw[hs] at hxi
   have ex:V.str z=x:=Ae hxi
   subst ex
   have s2:Same H' (upd H' T (.tup [.int (i:Nat),.str z])):=(Same.refl H').new nT
   have hT:upd H' T (.tup [.int (i:Nat),.str z]) T=some (.tup [.int (i:Nat),.str z]):=AI
   generalize upd H' T (.tup [.int (i:Nat),.str z])=H2 at s2 hT ⊢
   refine⟨T,_,rfl,.inl (.inl hT),rfl,_,_,rfl,_,_,rfl,rfl,?_⟩
   have hzs:z.cps.size < 1000:=by
    have:i=0∨i=1∨i=2:=by omega
    rcases this with rfl | rfl | rfl <;> (cases hs;decide)
   refine⟨_,rfl,_,rfl,z,rfl,hzs,fun H3 q s3 nq hq=>?_⟩
   refine⟨_,_,A6 (s3.seq (s2.seq (s1.seq hS))),A6 (SqL.of hq),A3 _,A3 _,?_⟩
   rw[CQ]
   refine⟨_,rfl,?_⟩
   have s4:=(s1.trans s2).trans s3
   by_cases e:ns=BJ z
   ·refine bT (decide_eq_true e) ⟨_,rfl,?_⟩
    have ev:Cn ns=(i:Int):=by
     unfold Cn
     have hi':i=0∨i=1∨i=2:=by omega
     rcases hi' with rfl | rfl | rfl
     ·cases hs;rw[if_pos e];rfl
     ·cases hs;rw[if_neg (hno 0 "square" (by decide) rfl),if_pos e];rfl
     ·cases hs;rw[if_neg (hno 0 "square" (by decide) rfl),if_neg (hno 1 "tails" (by decide) rfl),if_pos e];rfl
    have:=k H3 s4
    rw[ev] at this
    exact this
   ·refine bF (decide_eq_false e) ⟨_,_,rfl,s4,fun j x hj hx=>?_⟩
    rcases Jw.mp hj with q | q
    ·exact hno j x q hx
    ·rw[q,hs] at hx;cases hx;exact e
  ·rintro σ H' ⟨v1,v2,rfl,s1,hno⟩
   have ev:Cn ns=-1:=by
    unfold Cn
    rw[if_neg (hno 0 "square" (by decide) rfl),if_neg (hno 1 "tails" (by decide) rfl),if_neg (hno 2 "long" (by decide) rfl)]
   have:=k H' s1
   rw[ev] at this
   exact⟨_,rfl,this⟩
end
end Fb
end
section
set_option maxRecDepth 100000
set_option maxHeartbeats 4000000
namespace Fb
open PySem PySem.Spec PyProof.Rows L2
def ES (k:Option AM):Bool:=match k.map Te with
 | some (.same _)=>true
 | _=>false
def HP (k:Option AM):Nat:=match k.map Te with
 | some (.same k)=>k
 | _=>0
theorem RO:∀(ks:List AM) (i:Nat),BG i (ks.map zk)=((CW ks.length).filter fun f=>ES ks[f]?).map fun f=>(As ((HP ks[f]?:Nat):Int),V.int ((i+f:Nat):Int))
 | [],i=>rfl
 | k::ks,i=>by
  rw[Au,GD,Bu,Jt,En]
  have e:((CW ks.length).map J1).filter (fun f=>ES (k::ks)[f]?)=((CW ks.length).filter fun f=>ES ks[f]?).map J1:=by
   rw[Tq]
   rfl
  have e2:(((CW ks.length).filter fun f=>ES ks[f]?).map J1).map (fun f=>(((As ((HP (k::ks)[f]?:Nat):Int):Key),V.int ((i+f:Nat):Int))))=BG (i+1) (ks.map zk):=by
   rw[RO ks (i+1),Jq]
   apply DM
   intro f _
   show(As ((HP ks[f]?:Nat):Int),V.int ((i+(f+1):Nat):Int))=(As ((HP ks[f]?:Nat):Int),V.int ((i+1+f:Nat):Int))
   rw[show i+(f+1)=i+1+f by omega]
  rw[e]
  cases hr:k.role with
  | same j =>
   have h1:(zk k).lab=.same (j:Int):=by show zl k.role=_;rw[hr];rfl
   have h2:ES (k::ks)[0]?=true:=by show(match some k.role with | some (.same _)=>true | _=>false)=true;rw[hr]
   have h3:HP (k::ks)[0]?=j:=by show(match some k.role with | some (.same k)=>k | _=>0)=j;rw[hr]
   rw[h1,h2,if_pos rfl,Au,e2,h3]
   rfl
  | sign n =>
   have h1:(zk k).lab=.sign (zs n):=by show zl k.role=_;rw[hr];rfl
   have h2:ES (k::ks)[0]?=false:=by show(match some k.role with | some (.same _)=>true | _=>false)=false;rw[hr]
   rw[h1,h2,if_neg Af,e2]
  | answer =>
   have h1:(zk k).lab=.ans:=by show zl k.role=_;rw[hr];rfl
   have h2:ES (k::ks)[0]?=false:=by show(match some k.role with | some (.same _)=>true | _=>false)=false;rw[hr]
   rw[h1,h2,if_neg Af,e2]
theorem YQ (L:Ag):BG 0 (L.kinds.map zk)=L.sameKinds.map fun f=>(As ((L.points f:Nat):Int),V.int ((f:Nat):Int)):=by
 rw[RO]
 show _=(((CW L.kinds.length).filter fun f=>ES L.kinds[f]?)).map _
 apply DM
 intro f _
 rw[EJ]
 rfl
theorem QV {L:Ag} (w:Wf L.kinds):L.sameKinds.Pairwise fun f g=>L.points f < L.points g:=by
 have h0:(CW L.kinds.length).Pairwise (· < ·):=Mu
 have h1:L.sameKinds.Pairwise (· < ·):=Me _ h0
 refine Th.imp_of_mem ?_ h1
 intro f g hf hg hlt
 obtain⟨k,j,e1,e2⟩:=Fm.same_at hf
 obtain⟨k',j',e3,e4⟩:=Fm.same_at hg
 have p1:L.points f=j:=by unfold Ma;rw[e1];show(match some k.role with | some (.same k)=>k | _=>0)=j;rw[e2]
 have p2:L.points g=j':=by unfold Ma;rw[e3];show(match some k'.role with | some (.same k)=>k | _=>0)=j';rw[e4]
 rw[p1,p2]
 obtain⟨l1,e1'⟩:=Bf.mp e1
 obtain⟨l2,e3'⟩:=Bf.mp e3
 have:=T3.mp w.sames f g l1 l2 hlt j j'
 rw[e1',e3'] at this
 exact this e2 e4
theorem Qb {F:Nat→Nat}:∀{l:List Nat}{a b:Nat},l.Pairwise (fun f g=>F f < F g)→(∀f∈l,a < F f∧F f≤b)→l.length≤b - a
 | [],_,_,_,_=>A5 _
 | f::l,a,b,h,hb=>by
  obtain⟨h1,h2⟩:=EI.mp h
  have hf:=hb f AU
  have:=Qb (l:=l) (a:=F f) (b:=b) h2 fun g hg=>⟨h1 g hg,(hb g (Ao _ hg)).2⟩
  rw[Bu]
  omega
theorem Pu {L:Ag} (w:Wf L.kinds) (r:List Nat) (i:Nat) (fs:List Nat) (hs:fs.Sublist L.sameKinds):(fs.filter fun (f:Nat)=>decide (L.points f≤i)&&r.getD (L.points f - 1) 0==r.getD i 0).length≤i:=by
 have:=Qb (F:=L.points) (l:=fs.filter fun (f:Nat)=>decide (L.points f≤i)&&r.getD (L.points f - 1) 0==r.getD i 0) (a:=0) (b:=i) (Me _ ((QV w).sublist hs)) fun f hf=>by
  obtain⟨h1,h2⟩:=Ci.mp hf
  rw[BI,decide_eq_true_eq] at h2
  exact⟨QU w f (hs.subset h1),h2.1⟩
 omega
theorem TN {L:Ag}:∀{fs:List Nat},fs.Pairwise (fun f g=>L.points f < L.points g)→∀{f:Nat},f∈fs→Ar (fs.map fun f=>((As ((L.points f:Nat):Int):Key),V.int ((f:Nat):Int))) (As ((L.points f:Nat):Int))=some (.int (f:Nat))
 | g::fs,h,f,hf=>by
  obtain⟨h1,h2⟩:=EI.mp h
  rw[Au]
  rcases AS.mp hf with e | e
  ·subst e
   exact Cd rfl
  ·rw[Cc]
   ·exact TN h2 e
   ·intro q
    have q:((L.points g:Nat):Int)=((L.points f:Nat):Int):=IA q
    have:=h1 f e
    omega
theorem WB {p:Nat→Bool}{l:List Nat}{i x:Nat} (h:l[i]?=some x):(l.take (i+1)).filter p=(l.take i).filter p++if p x=true then [x] else []:=by
 rw[JS h,Tn,En,List.filter_nil]
theorem O1 {r:List Nat}{i:Nat} (h:i < r.length):((zn r).map V.int)[i]?=some (.int ((r.getD i 0:Nat):Int)):=by
 unfold zn
 rw[Jq,Ah,BD h,Eo,BD h]
 rfl
theorem Yr {K:AA}{H:Hp}{a d:Addr}{xs:List V}{kvs:List (Key×V)}{o:HO} (hd:H d=some (.dK kvs)) (h:SqL K H a xs):SqL K (upd H d o) a xs:=by
 rcases h with (h | ⟨u,h⟩) | h
 ·exact .inl (.inl (by rw[AE (Bc h hd (by intro q;cases q))];exact h))
 ·exact .inl (.inr ⟨u,by rw[AE (Bc h hd (by intro q;cases q))];exact h⟩)
 ·exact .inr h
abbrev Ln:Stmt:=Ru
def Sb (K:AA) (CL CK:Addr):Sp:=fun vs H Q _=>∃(a b:Addr) (i:Nat) (p:LA) (L:Ag) (fl:List Int) (r:List Nat),vs=[.ref a,.ref b,.int (i:Nat)]∧LockAt CL CK H a p (zs L.name) (L.kinds.map zk) fl∧Wf L.kinds∧SqL K H b ((zn r).map V.int)∧i < r.length∧r.length < 1000∧
 Fg H Q (zn (r.getD i 0::Fm.mayAt L r i))
theorem scKTM:AY ["locker","signs","place","sign","k"] ["locker","signs","place"] (AK Ln):=⟨rfl,rfl,rfl,by decide +kernel,rfl,by decide +kernel,by decide +kernel⟩
section
variable {P:Program}{w:World}{K:AA}{mg:Str→Option Value}{base:Heap}{CL CK:Addr}
theorem ok_ktm {f:Addr}{fd:FuncData} (F:Fun K "kinds_that_mean" "kinds_that_mean" Ln f fd) (TL:LockC K CL):FnOk P w K mg base CX0 1 f fd ["locker","signs","place"] (Sb K CL CK):=by
 refine F.ok scKTM (fun vs H Q E h=>?_) (fun cdv A outer s H vs Q E hr h=>?_)
 ·obtain⟨a,b,i,p,L,fl,r,rfl,_⟩:=h
  rfl
 ·obtain⟨a,b,i,p,L,fl,r,rfl,hL,hW,hS,hi,hlen,k⟩:=h
  have hu:=E5 hr
  refine⟨_,AJ (BB (i:=3) scKTM.nd rfl (Df rfl) (Bp Bn (pv 1) (pv 2) (fun _ _=>rfl)))
   (AH (AL (EB QD (A7 (AB (pv 3) AD)) (QN (DW (own:=[("k",4)]) rfl scKTM.nd (QR (Ak (pv 0) rfl)) (DQ (N:=["locker","signs","place","sign","k"]) (sc:=AK Ln) (by decide +kernel))
    (fun s H C cl fp=>Bq (i:=4) scKTM.nd rfl (AZ rfl)) (fun s H C cl fp=>Xz (PW.pt (Dr (Ac CY (pv 4) (pv 2) (AR _)) (Ef (Ac BZ (Xn K rfl (pv 1) (EB LY (pv 4) AO) (fun _ _=>rfl)) (pv 3) (AR _))))))
    (fun s H C cl fp=>Xi hu (Ec K rfl (pv 0) rfl) (pv 4) (fun _ _=>rfl))))))),?_⟩
  obtain⟨dx,ho⟩:=hL.ob
  have hsm:=hL.sm
  rw[YQ] at hsm
  generalize hfs:L.sameKinds=fs at hsm
  have hri:fs.Pairwise (fun f g=>L.points f < L.points g):=hfs▸QV hW
  generalize hkv:(fs.map fun f=>((As ((L.points f:Nat):Int):Key),V.int ((f:Nat):Int)))=kvs at hsm
  refine⟨_,rfl,_,rfl,b,_,(i:Nat),_,rfl,rfl,hS,Bx (O1 hi),?_⟩
  refine⟨_,rfl,(show 1≤sizeLine from CC (by decide)),fun l1 n1=>?_⟩
  have s1:Same H (upd H l1 (.lst [.int ((r.getD i 0:Nat):Int)])):=(Same.refl H).new n1
  have hl1:upd H l1 (.lst [.int ((r.getD i 0:Nat):Int)]) l1=some (.lst [.int ((r.getD i 0:Nat):Int)]):=AI
  generalize upd H l1 (.lst [.int ((r.getD i 0:Nat):Int)])=H1 at s1 hl1
  have hsm1:=s1 _ _ hsm
  refine⟨p.sm,_,hsm1,trivial,fun od=>?_⟩
  have hfz:upd H1 p.sm (.frz od (.dK kvs)) p.sm=some (.frz od (.dK kvs)):=AI
  have s0:∀x o,H1 x=some o→x≠p.sm→upd H1 p.sm (.frz od (.dK kvs)) x=some o:=fun x o e n=>by rw[AE n];exact e
  have nap:a≠p.sm:=Bc ho hsm (by intro q;cases q)
  have nb:∀xs,∀x,H1 x=some (.lst xs)→x≠p.sm:=fun xs x e=>Bc e hsm1 (by intro q;cases q)
  have hS0:SqL K (upd H1 p.sm (.frz od (.dK kvs))) b ((zn r).map V.int):=Yr hsm1 (s1.seq hS)
  generalize hH0:upd H1 p.sm (.frz od (.dK kvs))=H0 at hfz s0 hS0
  refine⟨_,rfl,a,CL,dx,_,_,rfl,s0 _ _ (s1 _ _ ho) nap,TL.cl,TL.sames,Iq,p.sm,od,rfl,.inl ⟨_,hfz,fun D hD=>?_⟩⟩
  refine LC (n:=kvs.length) (fun j H'=>Same H0 H'∧H' D=some (.lst ((zn ((fs.take j).filter fun (f:Nat)=>decide (L.points f≤i)&&r.getD (L.points f - 1) 0==r.getD i 0)).map V.int))) ⟨(Same.refl _).new hD,AI⟩
   (fun j H' hj q=>⟨q.1 _ _ hfz,hj⟩) (fun H' q=>⟨q.1 _ _ hfz,AV _⟩) ?_ ?_
  ·rintro j y H2 H3 hj ⟨s2,hD2⟩ ⟨rfl,kk,vv,hkk,rfl⟩
   have hjl:j < fs.length:=by rw[← hkv,AG] at hj;exact hj
   have hfj:fs[j]?=some fs[j]:=BD hjl
   generalize fs[j]=f at hfj
   rw[← hkv,Ah,hfj] at hkk
   have hkk:=Ae hkk
   injection hkk with e1 e2
   subst e1
   have hfm:f∈fs:=CN hfj
   have hge:1≤L.points f:=QU hW f (by rw[hfs];exact hfm)
   have efil:=WB (p:=fun (f:Nat)=>decide (L.points f≤i)&&r.getD (L.points f - 1) 0==r.getD i 0) hfj
   have hlen2:=Pu hW r i (fs.take j) (by rw[hfs];exact Mv _ _)
   refine⟨rfl,_,rfl,_,rfl,_,_,rfl,rfl,_,rfl,?_⟩
   by_cases h1:L.points f≤i
   ·refine bT (decide_eq_true (Int.ofNat_le.mpr h1)) ?_
    refine⟨_,rfl,_,rfl,_,_,rfl,rfl,b,_,_,_,rfl,rfl,s2.seq hS0,VM (j:=L.points f - 1) (by omega) (O1 (by omega)),_,rfl,rfl,_,rfl,?_⟩
    by_cases h2:r.getD (L.points f - 1) 0=r.getD i 0
    ·refine bT (decide_eq_true (by rw[h2])) ?_
     rw[if_pos (by rw[decide_eq_true h1,h2,beq_self_eq_true];rfl)] at efil
     refine⟨_,rfl,a,CL,dx,_,_,rfl,s2 _ _ (s0 _ _ (s1 _ _ ho) nap),TL.cl,TL.sames,Iq,_,rfl,p.sm,_,rfl,(by
      have:=TN hri hfm
      rw[hkv] at this
      rw[← this]
      exact .inl ⟨kvs,_,.inr ⟨od,s2 _ _ hfz⟩,rfl,rfl⟩),_,hD2,?_,s2.wr hD,?_⟩
     ·rw[AG,DK]
      exact Bo (by omega)
     ·rw[AI,efil]
      unfold zn
      rw[CV,CV]
      rfl
    ·refine bF (decide_eq_false fun q=>h2 (Jb (JT q))) ?_
     rw[if_neg (by rw[BI,beq_iff_eq];exact fun q=>h2 q.2),C7] at efil
     exact⟨s2,by rw[efil];exact hD2⟩
   ·refine bF (decide_eq_false fun q=>h1 (Int.ofNat_le.mp q)) ?_
    refine bF rfl ?_
    rw[if_neg (by rw[BI,decide_eq_true_eq];exact fun q=>h1 q.1),C7] at efil
    exact⟨s2,by rw[efil];exact hD2⟩
  ·rintro H2 ⟨s2,hD2⟩
   have ekl:kvs.length=fs.length:=by rw[← hkv,AG]
   rw[ekl,Ju] at hD2
   have emay:(fs.filter fun (f:Nat)=>decide (L.points f≤i)&&r.getD (L.points f - 1) 0==r.getD i 0)=Fm.mayAt L r i:=by unfold Fm.mayAt;rw[hfs]
   have hml:=Pu hW r i fs (by rw[hfs];exact List.Sublist.refl _)
   rw[emay] at hD2 hml
   have nD:D≠p.sm:=Ap (Am hfz hD)
   have key:Same H1 (upd H2 p.sm (.dK kvs)):=fun x o e=>by
    by_cases n:x=p.sm
    ·subst n
     rw[AI,← hsm1]
     exact e
    ·rw[AE n]
     exact s2 _ _ (s0 _ _ e n)
   refine⟨s2 _ _ hfz,l1,D,_,_,rfl,rfl,key _ _ hl1,by rw[AE nD];exact hD2,?_,fun l3 n3=>?_⟩
   ·rw[AG,DK]
    exact CC (by show 1+_ < _;omega)
   ·refine k _ l3 ((s1.trans key).new n3) ((s1.trans key).free n3) ?_
    rw[AI]
    rfl
end
end Fb
end
section
set_option maxRecDepth 100000
set_option maxHeartbeats 4000000
namespace Fb
open PySem PySem.Spec PyProof.Rows L2
abbrev Qs:Stmt:=Rb
def Xe:Option Nat→V
 | none=>.non
 | some f=>.int (f:Nat)
theorem OB {L:Ag}{f:Nat}{k:AM} (h:L.kinds[f]?=some k):L.copies f=k.copies:=by
 unfold Ag.copies
 rw[h]
 rfl
def Nh (kw:List (Key×V)) (n:Nat→Nat):Prop:=∀f:Nat,(Ar kw (As (f:Int))).getD (.int 0)=.int (n f:Nat)
def SS (K:AA) (CL CK:Addr):Sp:=fun vs H Q _=>∃(a d b:Addr) (p:LA) (L:Ag) (fl:List Int) (kw:List (Key×V)) (n:Nat→Nat) (fs:List Nat),vs=[.ref a,.ref d,.ref b]∧LockAt CL CK H a p (zs L.name) (L.kinds.map zk) fl∧H d=some (.dK kw)∧Nh kw n∧SqL K H b ((zn fs).map V.int)∧(∀f∈fs,f < L.kinds.length)∧
 Pur H Q (Xe (fs.find? fun f=>decide (n f < L.copies f)))
theorem scFirstL:AY ["locker","flown","kinds","number"] ["locker","flown","kinds"] (AK Qs):=⟨rfl,rfl,rfl,by decide +kernel,rfl,by decide +kernel,by decide +kernel⟩
theorem Oe {p:Nat→Bool}:∀{l:List Nat}{i x:Nat},l[i]?=some x→p x=true→(∀j < i,∀y,l[j]?=some y→p y=false)→l.find? p=some x
 | y::l,0,x,h,hp,_=>by
  cases h
  rw[Du,hp]
 | y::l,i+1,x,h,hp,hn=>by
  rw[Du,hn 0 (by omega) y rfl]
  exact Oe (l:=l) (i:=i) h hp fun j hj z hz=>hn (j+1) (by omega) z hz
section
variable {P:Program}{w:World}{K:AA}{mg:Str→Option Value}{base:Heap}{CL CK:Addr}
theorem ok_firstL {f:Addr}{fd:FuncData} (F:Fun K "first_left" "first_left" Qs f fd) (TL:LockC K CL) (TK:KindC K CK):FnOk P w K mg base CX0 1 f fd ["locker","flown","kinds"] (SS K CL CK):=by
 refine F.ok scFirstL (fun vs H Q E h=>?_) (fun cdv A outer s H vs Q E hr h=>?_)
 ·obtain⟨a,d,b,p,L,fl,kw,n,fs,rfl,_⟩:=h
  rfl
 ·obtain⟨a,d,b,p,L,fl,kw,n,fs,rfl,hL,hd,hn,hS,hin,k⟩:=h
  have hu:=E5 hr
  refine⟨_,AJ (FC FV rfl (Dm (pv 2)) (Bq (i:=3) scFirstL.nd rfl (AZ rfl))
    (AH (Al (Ac HG (QL hu (pv 1) (pv 3) AO ⟨rfl,rfl,rfl,rfl⟩) (Ak (Bp Bn (Ak (pv 0) rfl) (pv 3) (fun _ _=>rfl)) rfl) (AR _)) (AH (AL (pv 3))) An)))
   (AH (AL Ck)),?_⟩
  obtain⟨dx,ho⟩:=hL.ob
  obtain⟨as,hak,hpk⟩:=hL.ks
  refine⟨_,rfl,b,rfl,⟨_,hS⟩,Oi (K:=K) (a:=b) (xs:=(zn fs).map V.int)
   (fun i σ H'=>∃v:Option V,σ=[some (.ref a),some (.ref d),some (.ref b),v]∧H'=H∧∀j < i,∀y,fs[j]?=some y→decide (n y < L.copies y)=false) ⟨none,rfl,rfl,fun j hj=>absurd hj (Hr _)⟩ (fun i σ H' _ ⟨_,_,e,_⟩=>by rw[e];exact hS) ?_ ?_⟩
  ·rintro i y σ H' hi ⟨v,rfl,rfl,hno⟩
   obtain⟨z,hz,rfl⟩:=D7 hi
   unfold zn at hz
   rw[Ah] at hz
   cases hfi:fs[i]? with
   | none=>rw[hfi] at hz;cases hz
   | some g =>
   rw[hfi] at hz
   have ez:((g:Nat):Int)=z:=Ae hz
   subst ez
   have hg:=hin g (CN hfi)
   have hkg:L.kinds[g]?=some L.kinds[g]:=BD hg
   generalize L.kinds[g]=kd at hkg
   obtain⟨ka,hka,dz,lv,hko,_⟩:=DF hpk (i:=g) (b:=zk kd) (by rw[Ah,hkg];rfl)
   refine⟨_,rfl,d,rfl,.inl ⟨kw,.inl hd⟩,_,rfl,_,DGet.k (k:=As (g:Int)) hd,?_⟩
   refine⟨_,rfl,a,CL,dx,_,_,rfl,ho,TL.cl,TL.kinds,Fx,_,rfl,p.ak,_,_,_,rfl,rfl,SqL.of hak,Bx (j:=g) (v:=V.ref ka) (by rw[Ah,hka];rfl),ka,CK,dz,_,_,rfl,hko,TK.cl,TK.copies,Wo,?_⟩
   refine⟨_,_,hn g,rfl,_,rfl,?_⟩
   by_cases hlt:n g < L.copies g
   ·refine bT (decide_eq_true (by show((n g:Nat):Int) < (kd.copies:Nat);rw[← OB hkg];exact Int.ofNat_lt.mpr hlt)) ?_
    refine⟨_,rfl,?_⟩
    have:=k _ (Same.refl _)
    rw[Oe hfi (decide_eq_true hlt) hno] at this
    exact this
   ·refine bF (decide_eq_false (by show ¬((n g:Nat):Int) < (kd.copies:Nat);rw[← OB hkg];exact fun q=>hlt (Int.ofNat_lt.mp q))) ?_
    refine⟨_,rfl,rfl,fun j hj y hy=>?_⟩
    rcases Jw.mp hj with q | q
    ·exact hno j q y hy
    ·subst q
     rw[hfi] at hy
     cases hy
     exact decide_eq_false hlt
  ·rintro σ H' ⟨v,rfl,rfl,hno⟩
   have:=k _ (Same.refl _)
   have e:fs.find? (fun f=>decide (n f < L.copies f))=none:=by
    rw[Tr]
    intro x hx
    obtain⟨j,hj,e⟩:=List.getElem_of_mem hx
    have:=hno j (by rw[AG,DK];exact hj) x (by rw[BD hj,e])
    rw[this]
    exact Af
   rw[e] at this
   exact this
end
abbrev Qt:Stmt:=Rc
def G7 (L:Ag) (r:List Nat):List Nat:=(L.display [r]).getD []
def SU (K:AA) (CL CK:Addr):Sp:=fun vs H Q _=>∃(a b:Addr) (p:LA) (L:Ag) (fl:List Int) (r:List Nat),vs=[.ref a,.ref b]∧LockAt CL CK H a p (zs L.name) (L.kinds.map zk) fl∧Wf L.kinds∧SqL K H b ((zn r).map V.int)∧r.length < 1000∧(∀s∈r,L.isSignAt s=true)∧
 Fg H Q (zn (G7 L r))
theorem scHoist:AY ["locker","signs","hoist","flown","place","number"] ["locker","signs"] (AK Qt):=⟨rfl,rfl,rfl,by decide +kernel,rfl,by decide +kernel,by decide +kernel⟩
theorem WL {L:Ag}{r:List Nat}{i:Nat} (hi:i < r.length) (h:List Nat):Fm.greedy (Fm.less L.copies h) ((L.spots [r]).drop i)=match (r.getD i 0::Fm.mayAt L r i).find? (fun f=>decide (h.count f < L.copies f)) with
  | none=>none
  | some f=>(Fm.greedy (Fm.less L.copies (h++[f])) ((L.spots [r]).drop (i+1))).map (f::·):=by
 have hl:i < (L.spots [r]).length:=by rw[Fm.spots_one,AG,Mr];exact hi
 have e:(L.spots [r]).drop i=⟨r.getD i 0,Fm.mayAt L r i⟩::(L.spots [r]).drop (i+1):=by
  rw[Hg hl]
  congr 1
  simp only[Fm.spots_one,List.getElem_map,List.getElem_range]
 rw[e,Fm.greedy]
 have ep:(fun f=>decide (0 < Fm.less L.copies h f))=fun f=>decide (h.count f < L.copies f):=funext fun f=>by
  unfold Fm.less
  rw[C3,decide_eq_true_iff,decide_eq_true_iff]
  omega
 simp only[ep]
 cases (r.getD i 0::Fm.mayAt L r i).find? (fun f=>decide (h.count f < L.copies f)) with
 | none=>rfl
 | some f=>simp only[Fm.less_snoc]
theorem Wr {L:Ag}{r:List Nat} (hr:∀s∈r,L.isSignAt s=true) {i:Nat} (hi:i < r.length):∀f∈r.getD i 0::Fm.mayAt L r i,f < L.kinds.length:=fun f hf=>by
 rcases AS.mp hf with e | e
 ·have hm:r.getD i 0∈r:=by
   rw[Eo,BD hi]
   exact Mp hi
  obtain⟨k,h1,_⟩:=Fm.role_at (e▸hr _ hm)
  exact(Bf.mp h1).1
 ·obtain⟨k,j,h1,_⟩:=Fm.same_at (Ci.mp e).1
  exact(Bf.mp h1).1
section
variable {P:Program}{w:World}{K:AA}{mg:Str→Option Value}{base:Heap}{CL CK:Addr}
theorem ok_hoist {f:Addr}{fd:FuncData} (F:Fun K "hoist_told" "hoist_told" Qt f fd) (B:Blt mg) (g1:Has P w K mg "kinds_that_mean" 1 ["locker","signs","place"] (Sb K CL CK)) (g2:Has P w K mg "first_left" 1 ["locker","flown","kinds"] (SS K CL CK)):FnOk P w K mg base CX0 2 f fd ["locker","signs"] (SU K CL CK):=by
 refine F.ok scHoist (fun vs H Q E h=>?_) (fun cdv A outer s H vs Q E hr h=>?_)
 ·obtain⟨a,b,p,L,fl,r,rfl,_⟩:=h
  rfl
 ·obtain⟨a,b,p,L,fl,r,rfl,hL,hW,hS,hlen,hin,k⟩:=h
  have hu:=E5 hr
  have hdisp:=Fm.display_greedy hW hin
  refine⟨_,AJ (BB (i:=2) scHoist.nd rfl (AZ rfl) (A7 AD)) (AJ (BB (i:=3) scHoist.nd rfl (AZ rfl) QM)
   (AJ (FC FV rfl (Xu (by rfl) B.range (AB (Av Bj (by rfl) B.len BW (AB (pv 1) AD)) AD)) (Bq (i:=4) scHoist.nd rfl (AZ rfl))
    (AJ (BB (i:=5) scHoist.nd rfl (AZ rfl) (AN g2 hr (by rfl) (AB (pv 0) (AB (pv 3) (AB (AN g1 hr (by rfl) (AB (pv 0) (AB (pv 1) (AB (pv 4) AD)))) AD)))))
    (AJ (Al (Ac LX (pv 5) Ck (AR _)) (AH (AL (A7 AD))) An)
    (AJ (Lg hu (pv 3) (pv 5) (EB LW (QL hu (pv 3) (pv 5) AO ⟨rfl,rfl,rfl,rfl⟩) AO) rfl)
    (AH (FA (Eb Er Gg Gh Fz (pv 2) (AB (pv 5) AD))))))))
   (AH (AL (pv 2))))),?_⟩
  refine⟨A5 _,fun l nl=>?_⟩
  intro df ndf
  have s1:Same H (upd (upd H l (.lst [])) df (.dK [])):=((Same.refl H).new nl).new ndf
  have ndf0:H df=none:=((Same.refl H).new nl).free ndf
  have dlf:l≠df:=Am AI ndf
  refine⟨_,rfl,b,_,rfl,.inl (s1.seq hS),(((zn r).map V.int).length:Nat),rfl,by omega,by rw[AG,DK];omega,?_⟩
  refine G3 (n:=r.length) (fun i σ H'=>∃(v4 v5:Option V) (kw:List (Key×V)) (h:List Nat),σ=[some (.ref a),some (.ref b),some (.ref l),some (.ref df),v4,v5]∧Same H H'∧H' l=some (.lst ((zn h).map V.int))∧H' df=some (.dK kw)∧Nh kw (fun f=>h.count f)∧kw.length≤i∧h.length=i∧
    L.display [r]=(Fm.greedy (Fm.less L.copies h) ((L.spots [r]).drop i)).map (h++·))
   ⟨none,none,[],[],rfl,s1,by rw[AE dlf];exact AI,AI,fun f=>rfl,A5 _,rfl,by
    rw[hdisp,Fm.less_nil,List.drop_zero]
    cases Fm.greedy L.copies (L.spots [r]) <;> rfl⟩ ?_ ?_ ?_ ?_
  ·rintro i σ H' hi _
   show i < _
   rw[AG,DK]
   omega
  ·rintro σ H' _
   show _≤r.length
   rw[AG,DK]
   omega
  ·rintro i y σ H' H2 hi ⟨v4,v5,kw,h,rfl,s2,hl,hdf,hct,hkw,hhl,hg⟩ ⟨rfl,rfl⟩
   rw[Int.zero_add]
   refine⟨_,rfl,_,rfl,_,rfl,_,rfl,_,rfl,a,b,i,p,L,fl,r,rfl,hL.mono s2,hW,s2.seq hS,hi,hlen,fun H3 kl s3 nkl hkl=>?_⟩
   refine⟨a,df,kl,p,L,fl,kw,_,_,rfl,(hL.mono s2).mono s3,s3 _ _ hdf,hct,SqL.of hkl,Wr hin hi,fun H4 s4=>?_⟩
   have s34:=s3.trans s4
   have s24:=s2.trans s34
   rw[WL hi] at hg
   cases hfd:(r.getD i 0::Fm.mayAt L r i).find? (fun f=>decide (h.count f < L.copies f)) with
   | none =>
    rw[hfd] at hg
    refine⟨_,rfl,rfl,_,rfl,bT rfl ⟨A5 _,fun l2 nl2=>?_⟩⟩
    refine k _ l2 (s24.new nl2) (s24.free nl2) ?_
    unfold G7
    rw[hg]
    exact AI
   | some g =>
    rw[hfd] at hg
    have hdf4:=s34 _ _ hdf
    have hl4:=s34 _ _ hl
    refine⟨_,rfl,rfl,_,rfl,bF (decide_eq_false fun q=>nomatch q) ?_⟩
    refine⟨_,rfl,df,rfl,.inl ⟨kw,.inl hdf4⟩,_,rfl,_,DGet.k (k:=As (g:Int)) hdf4,_,_,hct g,rfl,_,rfl,_,rfl,df,_,rfl,DPut.k (k:=As (g:Int)) hdf4 (Bo (by omega)),?_⟩
    refine⟨_,rfl,.inl ⟨rfl,_,SqL.of (by rw[AE dlf];exact hl4)⟩,_,rfl,l,_,_,rfl,rfl,by rw[AE dlf];exact hl4,by rw[AG,DK];exact Bo (by omega),?_⟩
    refine⟨_,_,_,h++[g],rfl,(s24.wr ndf0).wr nl,?_,by rw[AE (Ap dlf)];exact AI,fun x=>?_,Bb (LD _ _ _) (by omega),by rw[BO,hhl];rfl,?_⟩
    ·rw[AI]
     unfold zn
     rw[CV,CV]
     rfl
    ·have ec:(h++[g]).count x=h.count x+[g].count x:=Ti
     show _=V.int (((h++[g]).count x:Nat):Int)
     rw[Zq,ec]
     by_cases e:x=g
     ·subst e
      rw[if_pos rfl,List.count_singleton_self]
      rfl
     ·rw[if_neg (show ¬(As (x:Int):Key)=As (g:Int) from fun q=>e (Jb (IA q))),Mf (fun q=>e q.symm)]
      exact hct x
    ·rw[hg,Option.map_map]
     congr 1
     funext t
     simp
  ·rintro σ H' ⟨v4,v5,kw,h,rfl,s2,hl,hdf,hct,hkw,hhl,hg⟩
   have ed:(L.spots [r]).drop r.length=[]:=Hi (by rw[Fm.spots_one,AG,Mr];exact AV _)
   rw[ed] at hg
   refine⟨_,rfl,k H' l s2 nl ?_⟩
   unfold G7
   rw[hg]
   show H' l=some (.lst ((zn (h++[])).map V.int))
   rw[C7]
   exact hl
end
abbrev RF:Stmt:=RW
def Sv (K:AA) (CL CK:Addr):Sp:=fun vs H Q _=>∃(a b:Addr) (p:LA) (L:Ag) (fl:List Int) (r:List Nat),vs=[.ref a,.ref b]∧LockAt CL CK H a p (zs L.name) (L.kinds.map zk) fl∧Wf L.kinds∧SqL K H b ((zn r).map V.int)∧r.length < 1000∧(∀s∈r,L.isSignAt s=true)∧r≠[]∧
 Pur H Q (.bl (L.canShow r))
theorem Yo:AY ["locker","signs"] ["locker","signs"] (AK RF):=⟨rfl,rfl,rfl,by decide +kernel,rfl,by decide +kernel,by decide +kernel⟩
theorem WQ {L:Ag}{r:List Nat} (hW:Wf L.kinds) (hr:∀s∈r,L.isSignAt s=true) (hne:r≠[]):(!decide (zn (G7 L r)=[]))=L.canShow r:=by
 rw[Fm.canShow_display]
 unfold G7
 cases hd:L.display [r] with
 | none=>rfl
 | some h =>
  rw[Fm.display_greedy hW hr] at hd
  have hl:=Fm.greedy_len hd
  rw[Fm.spots_one,AG,Mr] at hl
  have:¬zn h=[]:=fun q=>by
   have:=congrArg GZ q
   rw[DK,hl] at this
   exact hne (Jn.mp this)
  show(!decide (zn h=[]))=true
  rw[decide_eq_false this]
  rfl
section
variable {P:Program}{w:World}{K:AA}{mg:Str→Option Value}{base:Heap}{CL CK:Addr}
theorem ok_show {f:Addr}{fd:FuncData} (F:Fun K "can_show" "can_show" RF f fd) (g1:Has P w K mg "hoist_told" 2 ["locker","signs"] (SU K CL CK)):FnOk P w K mg base CX0 3 f fd ["locker","signs"] (Sv K CL CK):=by
 refine F.ok Yo (fun vs H Q E h=>?_) (fun cdv A outer s H vs Q E hr h=>?_)
 ·obtain⟨a,b,p,L,fl,r,rfl,_⟩:=h
  rfl
 ·obtain⟨a,b,p,L,fl,r,rfl,hL,hW,hS,hlen,hin,hne,k⟩:=h
  refine⟨_,AH (AL (Cj (HH hr.units) (AN g1 hr (by rfl) (AB (pv 0) (AB (pv 1) AD))) (A7 AD) (AR _))),?_⟩
  refine⟨_,rfl,_,rfl,a,b,p,L,fl,r,rfl,hL,hW,hS,hlen,hin,fun H1 l1 s1 n1 h1=>⟨A5 _,fun l2 n2=>?_⟩⟩
  have s2:Same H1 (upd H1 l2 (.lst [])):=(Same.refl _).new n2
  have h2:upd H1 l2 (.lst []) l2=some (.lst (([]:List Int).map V.int)):=AI
  refine⟨_,_,A6 (SqL.of (s2 _ _ h1)),A6 (SqL.of h2),A3 _,A3 _,?_⟩
  rw[CQ,WQ hW hin hne]
  exact k _ (s1.trans s2)
end
end Fb
end
section
set_option maxRecDepth 100000
set_option maxHeartbeats 4000000
namespace Fb
open PySem PySem.Spec PyProof.Rows L2
theorem Xb {X:Cx} (K:AA) (hK:X.K=K):OpR X (compareOp .In) (rIn K false):=by
 subst hK
 exact QE
theorem K0:∀ns:List Int,(ns.map V.int).all CT=true
 | []=>rfl
 | n::r=>by rw[Au,GX,K0 r];rfl
theorem Kx (a b:Int):eqV (.int a) (.int b)=decide (a=b):=by
 first | rfl | (unfold eqV;rw[C3];simp) | (simp[eqV])
theorem PF (b:Int):∀ns:List Int,inV (.int b) (ns.map V.int)=decide (b∈ns)
 | []=>rfl
 | n::r=>by
  have ih:=PF b r
  unfold inV at ih ⊢
  rw[Au,DL,ih,Kx]
  rw[C3,MV,decide_eq_true_iff,decide_eq_true_iff,decide_eq_true_iff,AS]
  exact⟨fun h=>h.elim (fun q=>.inl q.symm) .inr,fun h=>h.elim (fun q=>.inl q.symm) .inr⟩
abbrev Q8:Stmt:=Rz
def G8:List Int→Int
 | []=>0
 | d::r=>G8 r * 16+d
theorem Vx {α:Type}{l:List α}{i:Nat}{x:α} (h:l[i]?=some x):l.drop i=x::l.drop (i+1):=by
 obtain⟨hi,e⟩:=Bf.mp h
 rw[Hg hi,e]
theorem O9:∀ns:List Int,G8 (ns.map fun b=>((digs.idxOf b:Nat):Int))=EX ns
 | []=>rfl
 | b::r=>by
  rw[Au,G8,O9 r,EX]
def Sn (K:AA):Sp:=fun vs H Q _=>∃(a:Addr) (ns:List Int),vs=[.ref a]∧SqL K H a (ns.map V.int)∧Pur H Q (.int (G8 ns))
theorem scNumOf:AY ["told","number","digit"] ["told"] (AK Q8):=⟨rfl,rfl,rfl,by decide +kernel,rfl,by decide +kernel,by decide +kernel⟩
section
variable {P:Program}{w:World}{K:AA}{mg:Str→Option Value}{base:Heap}
theorem ok_numOf {f:Addr}{fd:FuncData} (F:Fun K "number_of" "number_of" Q8 f fd) (B:Blt mg):FnOk P w K mg base CX0 1 f fd ["told"] (Sn K):=by
 refine F.ok scNumOf (fun vs H Q E h=>?_) (fun cdv A outer s H vs Q E hr h=>?_)
 ·obtain⟨a,ns,rfl,_⟩:=h
  rfl
 ·obtain⟨a,ns,rfl,hS,k⟩:=h
  refine⟨_,AJ (BB (i:=1) scNumOf.nd rfl (AZ rfl) AO)
   (AJ (FC FV rfl (Xv (by rfl) B.reversed (AB (pv 0) AD)) (Bq (i:=2) scNumOf.nd rfl (AZ rfl))
    (AH (BB (i:=1) scNumOf.nd rfl (AZ rfl) (EB LW (EB Xc (pv 1) AO) (pv 2)))))
   (AH (AL (pv 1)))),?_⟩
  refine⟨_,rfl,a,_,rfl,hS,?_⟩
  refine G3 (n:=(ns.map V.int).length) (fun i σ H'=>∃v3:Option V,σ=[some (.ref a),some (.int (G8 (ns.drop (ns.length - i)))),v3]∧Same H H') ⟨none,by rw[Nat.sub_zero,Tj];rfl,Same.refl H⟩ ?_ ?_ ?_ ?_
  ·rintro i σ H' hi ⟨_,_,s3⟩
   refine⟨hi,_,_,s3.seq hS,BD (by omega)⟩
  ·rintro σ H' _
   exact AV _
  ·rintro i y σ H' H3 hi ⟨v3,rfl,s3⟩ ⟨rfl,hy⟩
   rw[AG] at hi
   obtain⟨n,hn,rfl⟩:=D7 (hy _ (s3.seq hS))
   rw[AG] at hn
   refine⟨_,rfl,_,_,rfl,rfl,.inr ⟨by decide,by decide⟩,_,rfl,_,_,rfl,rfl,?_⟩
   refine⟨some (.int n),?_,s3⟩
   have e:ns.drop (ns.length - (i+1))=n::ns.drop (ns.length - i):=by
    have:=Vx hn
    rw[show ns.length - 1 - i=ns.length - (i+1) by omega] at this
    rw[this,show ns.length - (i+1)+1=ns.length - i by omega]
   rw[e]
   rfl
  ·rintro σ H' ⟨v3,rfl,s3⟩
   refine⟨_,rfl,?_⟩
   rw[AG,Jz,List.drop_zero]
   exact k H' s3
end
abbrev JG:Stmt:=Rw
def Sj (K:AA):Sp:=fun vs H Q _=>∃(a:Addr) (ns:List Int),vs=[.ref a]∧SqL K H a (ns.map V.int)∧ns.length < 100000∧Pur H Q (.int (Cy ns))
theorem scLook:AY ["word","colours","byte"] ["word"] (AK JG):=⟨rfl,rfl,rfl,by decide +kernel,rfl,by decide +kernel,by decide +kernel⟩
theorem Vs:BJ "0123456789abcdef"=digs:=by decide +kernel
theorem Xm {X:Cx}{o e:Expr}{apos cpos:Pos}{to:TE}{t:TA} (K:AA) (hK:X.K=K) (ho:PE X o to) (ha:PA X [e] t) (hbase:attributeBase o "index" X.env (eval o X.env)=eval o X.env:=by rfl)
  (hfew:((backTo cpos (starEach [e] X.env)).all (fun x=>!x.1)&&(backToKw cpos (keywordEach [] X.env)).all (fun x=>x.1.isSome)&&decide ([e].length+([]:List Keyword).length+(if ([]:List Keyword).isEmpty then 0 else 1) < 30))=true:=by rfl)
  (hline:(apos.endLine==cpos.line)=true:=by rfl) (hs:starEach [e] X.env=(false,eval e X.env)::starEach [] X.env:=by rfl) (hplain:(backTo cpos (starEach [] X.env)).any (·.1)=false:=by rfl):PE X (.Call (.Attribute o "index" apos) [e] [] cpos) (tBM K "list" (QX K) to t):=by
 subst hK
 exact Eb Er UZ PySem.F.type_list_index XE ho ha hbase hfew hline hs hplain
section
variable {P:Program}{w:World}{K:AA}{mg:Str→Option Value}{base:Heap}
theorem ok_look {f:Addr}{fd:FuncData} (F:Fun K "look_told" "look_told" JG f fd) (B:Blt mg) (c1:Cst mg "COLOURS" (.str "0123456789abcdef")) (c2:Cst mg "DIGITS" (.int 16)) (g1:Has P w K mg "letters" 1 ["word"] HV) (g2:Has P w K mg "number_of" 1 ["told"] (Sn K)):FnOk P w K mg base CX0 2 f fd ["word"] (Sj K):=by
 refine F.ok scLook (fun vs H Q E h=>?_) (fun cdv A outer s H vs Q E hr h=>?_)
 ·obtain⟨a,ns,rfl,_⟩:=h
  rfl
 ·obtain⟨a,ns,rfl,hS,hlen,k⟩:=h
  refine⟨_,AJ (BB (i:=1) scLook.nd rfl (Df rfl) (AN g1 hr (by rfl) (AB (AW c1 rfl) AD)))
   (AJ (Al (PW.pt (GA (Ac Iz (Av Bj (by rfl) B.len BW (AB (pv 0) AD)) (AW c2 rfl) (AR _))
     (HQ (Dn (Cm (Av (Gw rfl) (by rfl) B.all Ht (AB (DW (own:=[("byte",2)]) rfl scLook.nd (Dm (pv 0)) (DQ (N:=["word","colours","byte"]) (sc:=AK JG) (by decide +kernel)) (fun s H C cl fp=>Bq (i:=2) scLook.nd rfl (AZ rfl)) (fun s H C cl fp=>Dq)
      (fun s H C cl fp=>Cj (Xb K rfl) (pv 2) (pv 1) (by rfl))) AD)))))))
    (AH (AL (F6 GL AO))) An)
   (AH (AL (AN g2 hr (by rfl) (AB (DW (own:=[("byte",2)]) rfl scLook.nd (Dm (pv 0)) (DQ (N:=["word","colours","byte"]) (sc:=AK JG) (by decide +kernel)) (fun s H C cl fp=>Bq (i:=2) scLook.nd rfl (AZ rfl)) (fun s H C cl fp=>Dq)
      (fun s H C cl fp=>Xm K rfl (pv 1) (AB (pv 2) AD))) AD))))),?_⟩
  refine⟨_,rfl,by decide,fun H1 dg s1 nd hd=>?_⟩
  rw[Vs] at hd
  have hS1:=s1.seq hS
  refine⟨_,rfl,a,_,rfl,.inl hS1,rfl,_,rfl,?_⟩
  by_cases hl:ns.length=16
  ·refine bF (by rw[decide_eq_true (show V.int ((ns.map V.int).length:Nat)=V.int 16 by rw[AG,hl];rfl)];rfl) ?_
   refine⟨_,rfl,a,rfl,⟨_,hS1⟩,fun D hD=>?_⟩
   refine D9 (n:=(ns.map V.int).length) ((ns.map fun b=>decide (b∈digs)).map V.bl) (by simp) (Bo (by rw[AG];omega)) hD (fun i H hi s2=>EU (s2.seq hS1) hi) (fun H s2=>EV (s2.seq hS1)) ?_ ?_
   ·rintro i y z H2 H3 hz s2 ⟨rfl,hy⟩ R hR
    obtain⟨n,hn,rfl⟩:=D7 (hy _ (s2.seq hS1))
    refine⟨rfl,_,rfl,_,rfl,dg,_,rfl,.inl (SqL.of (s2 _ _ hd)),rfl,K0 _,?_⟩
    have:z=V.bl (decide (n∈digs)):=by
     rw[Ah,Ah,hn] at hz
     exact(Ae hz).symm
    subst this
    rw[if_neg Af,PF]
    exact hR _ (Same.refl _)
   ·intro H2 s2 hd2
    refine⟨D,ns.map fun b=>decide (b∈digs),rfl,SqL.of hd2,_,rfl,?_⟩
    rw[El]
    have s12:=s1.trans s2
    by_cases ha:(ns.all fun b=>decide (b∈digs))=true
    ·refine bF (by show(!(ns.all fun b=>decide (b∈digs)))=false;rw[ha];rfl) ?_
     have hk:Cy ns=EX ns:=if_neg (fun q=>q.elim (fun z=>z hl) (fun z=>z ha))
     have hS2:=s2.seq hS1
     refine⟨_,rfl,a,rfl,⟨_,hS2⟩,fun D2 hD2=>?_⟩
     refine D9 (n:=(ns.map V.int).length) ((ns.map fun b=>((digs.idxOf b:Nat):Int)).map V.int) (by simp) (Bo (by rw[AG];omega)) hD2 (fun i H hi s3=>EU (s3.seq hS2) hi) (fun H s3=>EV (s3.seq hS2)) ?_ ?_
     ·rintro i y z H3 H4 hz s3 ⟨rfl,hy⟩ R hR
      obtain⟨n,hn,rfl⟩:=D7 (hy _ (s3.seq hS2))
      have hm:n∈digs:=of_decide_eq_true (Cg.mp ha n (CN hn))
      have hix:digs.idxOf n < digs.length:=Tx.mpr hm
      have:z=V.int ((digs.idxOf n:Nat):Int):=by
       rw[Ah,Ah,hn] at hz
       exact(Ae hz).symm
      subst this
      refine⟨rfl,_,rfl,.inl ⟨rfl,_,SqL.of (s3 _ _ (s2 _ _ hd))⟩,_,rfl,dg,_,_,digs.idxOf n,V.int n,rfl,rfl,SqL.of (s3 _ _ (s2 _ _ hd)),rfl,K0 _,?_,?_,?_,hR _ (Same.refl _)⟩
      ·rw[Ah,BD hix,List.getElem_idxOf];rfl
      ·rw[Kx];exact decide_eq_true rfl
      ·intro m z' hm' hz'
       obtain⟨q,hq,rfl⟩:=D7 hz'
       rw[Kx]
       apply decide_eq_false
       intro e
       have h5:=List.not_of_lt_findIdx (xs:=digs) (p:=(·==n)) (i:=m) hm'
       rw[BD (Nat.lt_trans hm' hix)] at hq
       have hq:=Ae hq
       rw[hq,e] at h5
       simp at h5
     ·intro H3 s3 hd3
      refine⟨D2,_,rfl,SqL.of hd3,fun H4 s4=>?_⟩
      rw[O9,← hk]
      exact k H4 ((s12.trans s3).trans s4)
    ·refine bT (by show(!(ns.all fun b=>decide (b∈digs)))=true;rw[GQ.mpr ha];rfl) ?_
     have hk:Cy ns=-1:=if_pos (.inr ha)
     have:=k H2 s12
     rw[hk] at this
     exact⟨_,rfl,this⟩
  ·refine bT (by rw[decide_eq_false (BK (by rw[AG];omega))];rfl) ?_
   refine bT rfl ?_
   have hk:Cy ns=-1:=if_pos (.inl hl)
   have:=k H1 s1
   rw[hk] at this
   exact⟨_,rfl,this⟩
end
end Fb
end
section
set_option maxRecDepth 100000
set_option maxHeartbeats 4000000
namespace Fb
open PySem PySem.Spec PyProof.Rows L2
def EO (P:Program) (w:World) (K:AA) (mg:Str→Option Value) (x:Str) (C:Addr) (k:Nat) (ps:List Str) (sp:Sp):Prop :=
 mg x=some (.ref C)∧∃(f:Addr) (fd:FuncData),Mk K C f∧Binds K fd ps []∧∀base:Heap,FnOk P w K mg base CX0 k f fd ps sp
theorem F4 {X:Cx}{k:Nat}{ps:List Str}{sp:Sp}{x:Str}{C:Addr}{p pos:Pos}{e:Expr}{es:List Expr}{t:TA} (h:EO X.prog X.w X.K X.mg x C k ps sp) (hr:Room (k+1) X.A) (hg:Gl X x) (ha:PA X (e::es) t)
  (hdb:(x==("__debug__":Str))=false:=by decide) (he:starEach (e::es) X.env=(false,eval e X.env)::starEach es X.env:=by rfl) (hpl:(backTo pos (starEach es X.env)).any (·.1)=false:=by rfl):
  PE X (.Call (.Name x p) (e::es) [] pos) (JR C sp [] E0 t):=by
 obtain⟨h1,f,fd,M,hb,F⟩:=h
 exact Xo M (F X.base) hr hg h1 hb .nil F3 ha hdb he hpl
theorem QO {X:Cx}{k:Nat}{ps:List Str}{sp:Sp}{x:Str}{C:Addr}{p pos:Pos} (h:EO X.prog X.w X.K X.mg x C k ps sp) (hr:Room (k+1) X.A) (hg:Gl X x) (hdb:(x==("__debug__":Str))=false:=by decide):
  PE X (.Call (.Name x p) [] [] pos) (JR C sp [] E0 FD):=by
 obtain⟨h1,f,fd,M,hb,F⟩:=h
 exact Xp M (F X.base) hr hg h1 hb .nil F3 hdb
def Nl (C:Addr) (fs:List (Str×V)) (H:Hp) (Q:VK):Prop:=∀(H':Hp) (x dx:Addr),Same H H'→H x=none→H' x=some (.ins C dx fs)→Q (.ref x) H'
def ED (C:Addr) (fs:List V→Option (List (Str×V))):Sp:=fun vs H Q _=>∃(p dx:Addr) (us:List V) (l:List (Str×V)),vs=.ref p::us∧fs us=some l∧H p=some (.ins C dx [])∧
 ∀H',H' p=some (.ins C dx l)→(∀b o,H b=some o→b≠p→H' b=some o)→Q .non H'
theorem W6 {C:Addr}{fs:List V→Option (List (Str×V))}{us:List V}{l:List (Str×V)}{H:Hp}{Q:VK} (hf:fs us=some l) (h:Nl C l H Q):∀x dx,H x=none→H dx=none→dx≠x→
  ED C fs (.ref x::(us++[])) (upd (upd H dx (.own x)) x (.ins C dx [])) (fun v H2=>v=.non∧Q (.ref x) H2) E0:=fun x dx nx nd ne=>by
 rw[C7]
 exact⟨x,dx,us,l,rfl,hf,AI,fun H' hx kp=>⟨rfl,h H' x dx (Same.made nx nd kp) nx hx⟩⟩
abbrev Qz:Stmt:=Dj RR 0
def Im:List V→Option (List (Str×V))
 | [.int r,lv,.int c,.int s,.int k]=>some (kf r lv c s k)
 | _=>none
theorem YY:AY ["self","rank","label","copies","shape","look"] ["self","rank","label","copies","shape","look"] (AK Qz):=⟨rfl,rfl,rfl,by decide +kernel,rfl,by decide +kernel,by decide +kernel⟩
section
variable {P:Program}{w:World}{K:AA}{mg:Str→Option Value}{base:Heap}{CK:Addr}
theorem ok_kindI {f:Addr}{fd:FuncData} (F:Fun K "__init__" "Kind.__init__" Qz f fd) (T:KindC K CK):FnOk P w K mg base CX0 1 f fd ["self","rank","label","copies","shape","look"] (ED CK Im):=by
 have inv:∀us l,Im us=some l→∃r lv c s k,us=[.int r,lv,.int c,.int s,.int k]∧l=kf r lv c s k:=by
  intro us l h
  unfold Im at h
  split at h
  ·cases h;exact⟨_,_,_,_,_,rfl,rfl⟩
  ·cases h
 refine F.ok YY (fun vs H Q E h=>?_) (fun cdv A outer s H vs Q E hr h=>?_)
 ·obtain⟨p,dx,us,l,rfl,hf,_⟩:=h
  obtain⟨_,_,_,_,_,rfl,_⟩:=inv _ _ hf
  rfl
 ·obtain⟨p,dx,us,l,rfl,hf,hp,k⟩:=h
  obtain⟨r,lv,c,s,lk,rfl,rfl⟩:=inv _ _ hf
  refine⟨_,AJ (BU (pv 0) (pv 1) rfl) (AJ (BU (pv 0) (pv 2) rfl) (AJ (BU (pv 0) (pv 3) rfl) (AJ (BU (pv 0) (pv 4) rfl) (AH (BU (pv 0) (pv 5) rfl))))),?_⟩
  refine⟨_,rfl,_,rfl,p,CK,dx,[],rfl,hp,T.cl,T.rank,(by show 0 < 1000;decide),?_⟩
  refine⟨_,rfl,_,rfl,p,CK,dx,_,rfl,AI,T.cl,T.label,(by show 1 < 1000;decide),?_⟩
  refine⟨_,rfl,_,rfl,p,CK,dx,_,rfl,AI,T.cl,T.copies,(by show 2 < 1000;decide),?_⟩
  refine⟨_,rfl,_,rfl,p,CK,dx,_,rfl,AI,T.cl,T.shape,(by show 3 < 1000;decide),?_⟩
  refine⟨_,rfl,_,rfl,p,CK,dx,_,rfl,AI,T.cl,T.look,(by show 4 < 1000;decide),?_⟩
  rw[FG,FG,FG,FG]
  exact k _ AI fun b o e hb=>by rw[AE hb];exact e
end
end Fb
end
section
set_option maxRecDepth 100000
set_option maxHeartbeats 4000000
namespace Fb
open PySem PySem.Spec PyProof.Rows L2
abbrev Qy:Stmt:=Rt
def Io (c s l:List Int):Prop:=DJ 8 c=0∨Cn s < 0∨Cy l < 0
def L0 (K:AA) (CK:Addr):Sp:=fun vs H Q _=>∃(r:Int) (lv:V) (ws ac as al:Addr) (c s l:List Int),vs=[.int r,lv,.ref ws]∧SqL K H ws [.ref ac,.ref as,.ref al]∧SqL K H ac (c.map V.int)∧SqL K H as (s.map V.int)∧SqL K H al (l.map V.int)∧l.length < 100000∧
 (Io c s l→Pur H Q .non)∧(¬Io c s l→Nl CK (kf r lv (DJ 8 c) (Cn s) (Cy l)) H Q)
theorem scKWith:AY ["rank","label","words","copies","shape","look"] ["rank","label","words"] (AK Qy):=⟨rfl,rfl,rfl,by decide +kernel,rfl,by decide +kernel,by decide +kernel⟩
section
variable {P:Program}{w:World}{K:AA}{mg:Str→Option Value}{base:Heap}{CK:Addr}
theorem ok_kwith {f:Addr}{fd:FuncData} (F:Fun K "kind_with" "kind_with" Qy f fd) (c1:Cst mg "MOST_COPIES" (.int 8)) (g1:Has P w K mg "small_number" 1 ["word","most"] (MD K)) (g2:Has P w K mg "shape_told" 2 ["word"] (Su K)) (g3:Has P w K mg "look_told" 2 ["word"] (Sj K))
  (g4:EO P w K mg "Kind" CK 1 ["self","rank","label","copies","shape","look"] (ED CK Im)):FnOk P w K mg base CX0 3 f fd ["rank","label","words"] (L0 K CK):=by
 refine F.ok scKWith (fun vs H Q E h=>?_) (fun cdv A outer s H vs Q E hr h=>?_)
 ·obtain⟨r,lv,ws,ac,as,al,c,s,l,rfl,_⟩:=h
  rfl
 ·obtain⟨r,lv,ws,ac,as,al,c,s,l,rfl,hw,hc,hs,hl,hlen,kb,kg⟩:=h
  have hr1:Room 1 _:=hr.mono (by decide)
  refine⟨_,AJ (BB (i:=3) scKWith.nd rfl (AZ rfl) (AN g1 hr1 (by rfl) (AB (Bp Bn (pv 2) AO (fun _ _=>rfl)) (AB (AW c1 rfl) AD))))
   (AJ (BB (i:=4) scKWith.nd rfl (AZ rfl) (AN g2 hr (by rfl) (AB (Bp Bn (pv 2) AO (fun _ _=>rfl)) AD)))
   (AJ (BB (i:=5) scKWith.nd rfl (AZ rfl) (AN g3 hr (by rfl) (AB (Bp Bn (pv 2) AO (fun _ _=>rfl)) AD)))
   (AJ (Al (PW.pt (GA (Ac BZ (pv 3) AO (AR _)) (GA (Ac HG (pv 4) AO (AR _)) (HQ (Ac HG (pv 5) AO (AR _)))))) (AH (AL Ck)) An)
   (AH (AL (F4 g4 hr (by rfl) (AB (pv 0) (AB (pv 1) (AB (pv 3) (AB (pv 4) (AB (pv 5) AD))))))))))),?_⟩
  refine⟨_,rfl,ws,_,_,_,rfl,rfl,hw,Bx (j:=0) rfl,ac,c,8,rfl,hc,fun H1 s1=>?_⟩
  refine⟨_,rfl,ws,_,_,_,rfl,rfl,s1.seq hw,Bx (j:=1) rfl,as,s,rfl,s1.seq hs,fun H2 s2=>?_⟩
  refine⟨_,rfl,ws,_,_,_,rfl,rfl,s2.seq (s1.seq hw),Bx (j:=2) rfl,al,l,rfl,s2.seq (s1.seq hl),hlen,fun H3 s3=>?_⟩
  have sA:=(s1.trans s2).trans s3
  refine⟨_,rfl,rfl,_,rfl,?_⟩
  by_cases h1:DJ 8 c=0
  ·exact bT (decide_eq_true (congrArg V.int h1)) (bT rfl (kb (.inl h1) H3 sA))
  ·refine bF (decide_eq_false (BK h1)) ⟨_,rfl,_,_,rfl,rfl,_,rfl,?_⟩
   by_cases h2:Cn s < 0
   ·exact bT (decide_eq_true h2) (bT rfl (kb (.inr (.inl h2)) H3 sA))
   ·refine bF (decide_eq_false h2) ⟨_,rfl,_,_,rfl,rfl,_,rfl,?_⟩
    by_cases h3:Cy l < 0
    ·exact bT (decide_eq_true h3) (kb (.inr (.inr h3)) H3 sA)
    ·refine bF (decide_eq_false h3) ?_
     refine⟨_,rfl,_,rfl,_,rfl,_,rfl,_,rfl,?_⟩
     exact W6 (us:=[.int r,lv,.int (DJ 8 c),.int (Cn s),.int (Cy l)]) rfl fun H' x dx s4 nx hx=>kg (fun q=>q.elim h1 fun q=>q.elim h2 h3) H' x dx (sA.trans s4) (sA.free nx) hx
end
theorem Yw {w:Aj}{n:Nat} (h:GW w=some n):Cn (zs w)=(n:Int):=by
 have e0:BJ "square"=zs (Az "square"):=by decide +kernel
 have e1:BJ "tails"=zs (Az "tails"):=by decide +kernel
 have e2:BJ "long"=zs (Az "long"):=by decide +kernel
 unfold GW at h
 unfold Cn
 rw[e0,e1,e2]
 simp only[Tb]
 split at h
 ·rename_i q;cases h;rw[if_pos q];rfl
 ·rename_i q
  rw[if_neg q]
  split at h
  ·rename_i q2;cases h;rw[if_pos q2];rfl
  ·rename_i q2
   rw[if_neg q2]
   split at h
   ·rename_i q3;cases h;rw[if_pos q3];rfl
   ·cases h
theorem Yv {w:Aj} (h:GW w=none):Cn (zs w)=-1:=by
 have e0:BJ "square"=zs (Az "square"):=by decide +kernel
 have e1:BJ "tails"=zs (Az "tails"):=by decide +kernel
 have e2:BJ "long"=zs (Az "long"):=by decide +kernel
 unfold GW at h
 unfold Cn
 rw[e0,e1,e2]
 simp only[Tb]
 split at h
 ·cases h
 ·rename_i q
  rw[if_neg q]
  split at h
  ·cases h
  ·rename_i q2
   rw[if_neg q2]
   split at h
   ·cases h
   ·rename_i q3;rw[if_neg q3]
theorem Pa {r:FJ}{c s l:Aj} (h:C6 r c s l=none):Io (zs c) (zs s) (zs l):=by
 unfold C6 at h
 cases h1:Ei 8 c with
 | none=>exact .inl (SN h1)
 | some n =>
  cases h2:GW s with
  | none=>exact .inr (.inl (by rw[Yv h2];decide))
  | some m =>
   cases h3:GV l with
   | none=>exact .inr (.inr (by rw[W4 h3];decide))
   | some k=>rw[h1,h2,h3] at h;cases h
theorem E7 {r:FJ}{c s l:Aj}{x:AM} (h:C6 r c s l=some x):¬Io (zs c) (zs s) (zs l)∧zk x=⟨zl r,DJ 8 (zs c),Cn (zs s),Cy (zs l)⟩∧x.role=r:=by
 unfold C6 at h
 cases h1:Ei 8 c with
 | none=>rw[h1] at h;cases h
 | some n =>
  cases h2:GW s with
  | none=>rw[h1,h2] at h;cases h
  | some m =>
   cases h3:GV l with
   | none=>rw[h1,h2,h3] at h;cases h
   | some k =>
    rw[h1,h2,h3] at h
    have h:some (⟨r,n,m,k⟩:AM)=some x:=h
    have h:=Ae h
    subst h
    obtain⟨q1,q2⟩:=Lx h1
    have q3:=Yw h2
    have q4:=W5 h3
    have q1':DJ 8 (zs c)=(n:Int):=q1
    refine⟨?_,?_,rfl⟩
    ·rintro(q | q | q)
     ·rw[q1'] at q;omega
     ·rw[q3] at q;omega
     ·rw[q4] at q;omega
    ·rw[q1',q3,q4];rfl
end Fb
end
section
set_option maxRecDepth 100000
set_option maxHeartbeats 4000000
namespace Fb
open PySem PySem.Spec PyProof.Rows L2
abbrev Qx:Stmt:=Rr
def Sd (K:AA) (CK:Addr):Sp:=fun vs H Q _=>∃(a:Addr) (b:Aj),vs=[.ref a]∧SqL K H a ((zs b).map V.int)∧b.length < 100000∧
 (Cf b=none→Pur H Q .non)∧∀x,Cf b=some x→∀(H':Hp) (p:Addr),Same H H'→H p=none→KindAt CK H' p (zk x)→Q (.ref p) H'
theorem scKTold:AY ["line","words"] ["line"] (AK Qx):=⟨rfl,rfl,rfl,by decide +kernel,rfl,by decide +kernel,by decide +kernel⟩
theorem Vj (k:Nat) (xs:List V) (h:k≤xs.length):CP xs (some (k:Int)) none=xs.drop k:=by
 unfold CP
 have e1:HT.sIx xs.length 0 (some (k:Int))=k:=by
  show(if (k:Int) < 0 then ((k:Int)+(xs.length:Int)).toNat else min (k:Int).toNat xs.length)=k
  rw[if_neg (by omega),FN,M0 h]
 have e2:HT.sIx xs.length xs.length none=xs.length:=rfl
 rw[e1,e2]
 exact T5 (by rw[Jk];exact AV _)
theorem V5:BJ "sign"=zs (Az "sign"):=by decide +kernel
theorem OP:BJ "same"=zs (Az "same"):=by decide +kernel
theorem V1:BJ "answer"=zs (Az "answer"):=by decide +kernel
section
variable {P:Program}{w:World}{K:AA}{mg:Str→Option Value}{base:Heap}{CK:Addr}
theorem ok_ktold {f:Addr}{fd:FuncData} (F:Fun K "kind_told" "kind_told" Qx f fd) (B:Blt mg) (c1:Cst mg "BLANK" (.int 32)) (c2:Cst mg "SIGN" (.int 1)) (c3:Cst mg "SAME" (.int 2)) (c4:Cst mg "ANSWER" (.int 3)) (c5:Cst mg "HIGHEST_SAME" (.int 4))
  (g1:Has P w K mg "split_at" 1 ["mark","values"] (EE K)) (g2:Has P w K mg "letters" 1 ["word"] HV) (g3:Has P w K mg "is_name" 2 ["word"] (JM K)) (g4:Has P w K mg "small_number" 1 ["word","most"] (MD K))
  (g5:Has P w K mg "kind_with" 3 ["rank","label","words"] (L0 K CK)):FnOk P w K mg base CX0 4 f fd ["line"] (Sd K CK):=by
 refine F.ok scKTold (fun vs H Q E h=>?_) (fun cdv A outer s H vs Q E hr h=>?_)
 ·obtain⟨a,b,rfl,_⟩:=h
  rfl
 ·obtain⟨a,b,rfl,hS,hlen,kn,ks⟩:=h
  have hr1:Room 1 _:=hr.mono (by decide)
  have hr2:Room 2 _:=hr.mono (by decide)
  have hu:=hr.units
  refine⟨_,AJ (BB (i:=1) scKTold.nd rfl (AZ rfl) (AN g1 hr1 (by rfl) (AB (AW c1 rfl) (AB (pv 0) AD))))
   (AJ (Al (PW.pt (Dr (Ac BZ (Av Bj (by rfl) B.len BW (AB (pv 1) AD)) AO (AR _))
     (Dr (Ac (EZ hu) (Bp Bn (pv 1) AO (fun _ _=>rfl)) (AN g2 hr1 (by rfl) (AB DX AD)) (AR _))
     (Ef (Cm (AN g3 hr2 (by rfl) (AB (Bp Bn (pv 1) AO (fun _ _=>rfl)) AD)))))))
    (AH (AL (AN g5 hr (by rfl) (AB (AW c2 rfl) (AB (QJ N4 (by rfl) B.tuple (by decide +kernel) (AB (Bp Bn (pv 1) AO (fun _ _=>rfl)) AD)) (AB (F5 GG (pv 1) (F9 AO) F8) AD)))))) An)
   (AJ (Al (PW.pt (Dr (Ac BZ (Av Bj (by rfl) B.len BW (AB (pv 1) AD)) AO (AR _))
     (Dr (Ac (EZ hu) (Bp Bn (pv 1) AO (fun _ _=>rfl)) (AN g2 hr1 (by rfl) (AB DX AD)) (AR _))
     (Ef (Ac F2 (AN g4 hr1 (by rfl) (AB (Bp Bn (pv 1) AO (fun _ _=>rfl)) (AB (AW c5 rfl) AD))) AO (AR _))))))
    (AH (AL (AN g5 hr (by rfl) (AB (AW c3 rfl) (AB (AN g4 hr1 (by rfl) (AB (Bp Bn (pv 1) AO (fun _ _=>rfl)) (AB (AW c5 rfl) AD))) (AB (F5 GG (pv 1) (F9 AO) F8) AD)))))) An)
   (AJ (Al (PW.pt (Dr (Ac BZ (Av Bj (by rfl) B.len BW (AB (pv 1) AD)) AO (AR _))
     (Ef (Ac (EZ hu) (Bp Bn (pv 1) AO (fun _ _=>rfl)) (AN g2 hr1 (by rfl) (AB DX AD)) (AR _)))))
    (AH (AL (AN g5 hr (by rfl) (AB (AW c4 rfl) (AB AO (AB (F5 GG (pv 1) (F9 AO) F8) AD)))))) An)
   (AH (AL Ck))))),?_⟩
  refine⟨_,rfl,a,32,zs b,rfl,hS,by rw[Aw];exact hlen,fun H1 p as s1 np nas hp hpa=>?_⟩
  rw[Fj] at hpa
  have hl:=CU hpa
  rw[AG] at hl
  have hlen':((as.map V.ref).length:Int)=((Br 32 b).length:Int):=by rw[AG,hl]
  have part:∀x∈Br 32 b,x.length < 100000:=fun x hx=>by
   have:=EA 32 (zs b) (zs x) (by rw[Fj];exact BP.mpr ⟨x,hx,rfl⟩)
   rw[Aw,Aw] at this
   omega
  have len5:∀{n:Int} {A C:Prop},((Br 32 b).length:Int)≠n→C→if decide (V.int ((as.map V.ref).length:Nat)=V.int n)=true then A else C:=fun h c=>bF (decide_eq_false (BK (by rw[hlen'];exact h))) c
  have lenT:∀{n:Int} {A C:Prop},((Br 32 b).length:Int)=n→A→if decide (V.int ((as.map V.ref).length:Nat)=V.int n)=true then A else C:=fun h c=>bT (decide_eq_true (congrArg V.int (by rw[hlen'];exact h))) c
  by_cases h5:(Br 32 b).length=5
  ·match hc:Br 32 b,as,hpa,h5 with
   | [w,n,c,s,l],[aw,an,ac,as,al],.cons pw (.cons pn (.cons pc (.cons ps (.cons pl .nil)))),_ =>
    have hp:H1 p=some (.lst [.ref aw,.ref an,.ref ac,.ref as,.ref al]):=hp
    have len5:∀{n:Int} {A C:Prop},(5:Int)≠n→C→if decide (V.int (([V.ref aw,V.ref an,V.ref ac,V.ref as,V.ref al]:List V).length:Nat)=V.int n)=true then A else C:=fun h c=>bF (decide_eq_false (BK h)) c
    have lw:=part w (by rw[hc];simp)
    have ln:=part n (by rw[hc];simp)
    have ll:=part l (by rw[hc];simp)
    have hk:Cf b=if w=Az "sign"∧DY n=true then C6 (.sign n) c s l else if w=Az "same" then (Ei 4 n).bind (fun (j:Nat)=>C6 (.same j) c s l) else none:=by
     unfold Cf
     rw[hc]
    have fin:∀(r:FJ) (lv:V) (H2:Hp) (q2:Addr),Same H1 H2→Ka H2 lv (zl r)→H2 q2=some (.lst [.ref ac,.ref as,.ref al])→Cf b=C6 r c s l→L0 K CK [.int (zl r).rank,lv,.ref q2] H2 Q E0:=fun r lv H2 q2 s2 hlab hq2 e=>by
     refine⟨_,lv,q2,ac,as,al,zs c,zs s,zs l,rfl,SqL.of hq2,SqL.of (s2 _ _ pc),SqL.of (s2 _ _ ps),SqL.of (s2 _ _ pl),by rw[Aw];exact ll,fun bad H3 s3=>?_,fun good H3 x dx s3 nx hx=>?_⟩
     ·refine kn ?_ H3 ((s1.trans s2).trans s3)
      rw[e]
      cases q:C6 r c s l with
      | none=>rfl
      | some y=>exact absurd bad (E7 q).1
     ·cases q:C6 r c s l with
      | none=>exact absurd (Pa q) good
      | some y =>
       obtain⟨_,ez,_⟩:=E7 q
       refine ks y (by rw[e,q]) H3 x ((s1.trans s2).trans s3) (s1.free (s2.free nx)) ?_
       rw[ez]
       refine⟨dx,lv,hx,?_⟩
       cases r with
       | sign m =>
        obtain⟨tp,e1,e2⟩:=hlab
        exact⟨tp,e1,s3 _ _ e2⟩
       | same m=>exact hlab
       | answer=>exact hlab
    refine⟨_,rfl,p,_,rfl,.inl (SqL.of hp),rfl,_,rfl,bT rfl ?_⟩
    refine⟨_,rfl,p,_,_,_,rfl,rfl,SqL.of hp,Bx (j:=0) rfl,_,rfl,by decide,fun H2 q s2 nq hq=>?_⟩
    refine⟨_,_,A6 (SqL.of (s2 _ _ pw)),A6 (SqL.of hq),A3 _,A3 _,?_⟩
    rw[CQ,V5]
    refine⟨_,rfl,?_⟩
    by_cases hw:w=Az "sign"
    ·refine bT (decide_eq_true (by rw[hw])) ?_
     refine⟨_,rfl,p,_,_,_,rfl,rfl,SqL.of (s2 _ _ hp),Bx (j:=1) rfl,an,zs n,rfl,SqL.of (s2 _ _ pn),by rw[Aw];exact ln,fun H3 s3=>⟨_,rfl,?_⟩⟩
     have s13:=s2.trans s3
     rw[Ij]
     by_cases hn:DY n=true
     ·rw[if_pos ⟨hw,hn⟩] at hk
      refine bT hn ?_
      refine⟨_,rfl,p,_,_,_,rfl,rfl,SqL.of (s13 _ _ hp),Bx (j:=1) rfl,an,_,rfl,.inl ⟨SqL.of (s13 _ _ pn),fun tp ntp=>?_⟩⟩
      have s4:Same H3 (upd H3 tp (.tup ((zs n).map V.int))):=(Same.refl H3).new ntp
      have htp:upd H3 tp (.tup ((zs n).map V.int)) tp=some (.tup ((zs n).map V.int)):=AI
      generalize upd H3 tp (.tup ((zs n).map V.int))=H4 at s4 htp ⊢
      refine⟨_,rfl,_,rfl,p,_,rfl,SqL.of (s4 _ _ (s13 _ _ hp)),fun q2 nq2=>?_⟩
      have s5:=(Same.refl H4).new (o:=.lst (CP [V.ref aw,V.ref an,V.ref ac,V.ref as,V.ref al] (some 2) none)) nq2
      exact fin (.sign n) (.ref tp) _ q2 ((s13.trans s4).trans s5) ⟨tp,rfl,s5 _ _ htp⟩ AI hk
     ·have hw2:¬w=Az "same":=fun z=>by rw[z] at hw;exact absurd hw (by decide +kernel)
      rw[if_neg fun z=>hn z.2,if_neg hw2] at hk
      refine bF (GQ.mpr hn) ?_
      refine⟨_,rfl,p,_,rfl,.inl (SqL.of (s13 _ _ hp)),rfl,_,rfl,bT rfl ?_⟩
      refine⟨_,rfl,p,_,_,_,rfl,rfl,SqL.of (s13 _ _ hp),Bx (j:=0) rfl,_,rfl,by decide,fun H4 q4 s4 nq4 hq4=>?_⟩
      refine⟨_,_,A6 (SqL.of (s4 _ _ (s13 _ _ pw))),A6 (SqL.of hq4),A3 _,A3 _,?_⟩
      rw[CQ,OP]
      refine⟨_,rfl,bF (decide_eq_false fun z=>hw2 (Ds z)) (bF rfl ?_)⟩
      refine⟨_,rfl,p,_,rfl,.inl (SqL.of (s4 _ _ (s13 _ _ hp))),rfl,_,rfl,len5 (by decide) (bF rfl ?_)⟩
      exact kn hk H4 ((s1.trans s13).trans s4)
    ·rw[if_neg fun z=>hw z.1] at hk
     refine bF (decide_eq_false fun z=>hw (Ds z)) (bF rfl ?_)
     refine⟨_,rfl,p,_,rfl,.inl (SqL.of (s2 _ _ hp)),rfl,_,rfl,bT rfl ?_⟩
     refine⟨_,rfl,p,_,_,_,rfl,rfl,SqL.of (s2 _ _ hp),Bx (j:=0) rfl,_,rfl,by decide,fun H3 q3 s3 nq3 hq3=>?_⟩
     refine⟨_,_,A6 (SqL.of (s3 _ _ (s2 _ _ pw))),A6 (SqL.of hq3),A3 _,A3 _,?_⟩
     rw[CQ,OP]
     refine⟨_,rfl,?_⟩
     have s13:=s2.trans s3
     by_cases hw2:w=Az "same"
     ·rw[if_pos hw2] at hk
      refine bT (decide_eq_true (by rw[hw2])) ?_
      refine⟨_,rfl,p,_,_,_,rfl,rfl,SqL.of (s13 _ _ hp),Bx (j:=1) rfl,an,zs n,4,rfl,SqL.of (s13 _ _ pn),fun H4 s4=>⟨_,_,rfl,rfl,_,rfl,?_⟩⟩
      have s14:=s13.trans s4
      cases hd:Ei 4 n with
      | none =>
       rw[hd] at hk
       have e0:DJ 4 (zs n)=0:=SN hd
       refine bF (decide_eq_false (by rw[e0];decide)) ?_
       refine⟨_,rfl,p,_,rfl,.inl (SqL.of (s14 _ _ hp)),rfl,_,rfl,len5 (by decide) (bF rfl ?_)⟩
       exact kn hk H4 (s1.trans s14)
      | some j =>
       rw[hd] at hk
       obtain⟨e0,e1⟩:=Lx hd
       have e0:DJ 4 (zs n)=(j:Int):=e0
       refine bT (decide_eq_true (by rw[e0];omega)) ?_
       refine⟨_,rfl,p,_,_,_,rfl,rfl,SqL.of (s14 _ _ hp),Bx (j:=1) rfl,an,zs n,4,rfl,SqL.of (s14 _ _ pn),fun H5 s5=>?_⟩
       have s15:=s14.trans s5
       refine⟨_,rfl,_,rfl,p,_,rfl,SqL.of (s15 _ _ hp),fun q2 nq2=>?_⟩
       have s6:=(Same.refl H5).new (o:=.lst (CP [V.ref aw,V.ref an,V.ref ac,V.ref as,V.ref al] (some 2) none)) nq2
       rw[e0]
       exact fin (.same j) (.int j) _ q2 (s15.trans s6) rfl AI hk
     ·rw[if_neg hw2] at hk
      refine bF (decide_eq_false fun z=>hw2 (Ds z)) (bF rfl ?_)
      refine⟨_,rfl,p,_,rfl,.inl (SqL.of (s13 _ _ hp)),rfl,_,rfl,len5 (by decide) (bF rfl ?_)⟩
      exact kn hk H3 (s1.trans s13)
  ·by_cases h4:(Br 32 b).length=4
   ·match hc:Br 32 b,as,hpa,h4 with
    | [w,c,s,l],[aw,ac,as,al],.cons pw (.cons pc (.cons ps (.cons pl .nil))),_ =>
     have hp:H1 p=some (.lst [.ref aw,.ref ac,.ref as,.ref al]):=hp
     have ll:=part l (by rw[hc];simp)
     have hk:Cf b=if w=Az "answer" then C6 .answer c s l else none:=by
      unfold Cf
      rw[hc]
     have len4:∀{A C:Prop},C→if decide (V.int (([V.ref aw,V.ref ac,V.ref as,V.ref al]:List V).length:Nat)=V.int 5)=true then A else C:=fun c=>bF (decide_eq_false (BK (show(4:Int)≠5 by decide))) c
     refine⟨_,rfl,p,_,rfl,.inl (SqL.of hp),rfl,_,rfl,len4 (bF rfl ?_)⟩
     refine⟨_,rfl,p,_,rfl,.inl (SqL.of hp),rfl,_,rfl,len4 (bF rfl ?_)⟩
     refine⟨_,rfl,p,_,rfl,.inl (SqL.of hp),rfl,_,rfl,bT rfl ?_⟩
     refine⟨_,rfl,p,_,_,_,rfl,rfl,SqL.of hp,Bx (j:=0) rfl,_,rfl,by decide,fun H2 q s2 nq hq=>?_⟩
     refine⟨_,_,A6 (SqL.of (s2 _ _ pw)),A6 (SqL.of hq),A3 _,A3 _,?_⟩
     rw[CQ,V1]
     refine⟨_,rfl,?_⟩
     by_cases hw:w=Az "answer"
     ·rw[if_pos hw] at hk
      refine bT (decide_eq_true (by rw[hw])) ?_
      refine⟨_,rfl,_,rfl,p,_,rfl,SqL.of (s2 _ _ hp),fun q2 nq2=>?_⟩
      have s3:=(Same.refl H2).new (o:=.lst (CP [V.ref aw,V.ref ac,V.ref as,V.ref al] (some 1) none)) nq2
      have s13:=s2.trans s3
      refine⟨_,.int 0,q2,ac,as,al,zs c,zs s,zs l,rfl,SqL.of AI,SqL.of (s13 _ _ pc),SqL.of (s13 _ _ ps),SqL.of (s13 _ _ pl),by rw[Aw];exact ll,fun bad H3 s4=>?_,fun good H3 x dx s4 nx hx=>?_⟩
      ·refine kn ?_ H3 ((s1.trans s13).trans s4)
       rw[hk]
       cases q:C6 .answer c s l with
       | none=>rfl
       | some y=>exact absurd bad (E7 q).1
      ·cases q:C6 .answer c s l with
       | none=>exact absurd (Pa q) good
       | some y =>
        obtain⟨_,ez,_⟩:=E7 q
        refine ks y (by rw[hk,q]) H3 x ((s1.trans s13).trans s4) (s1.free (s13.free nx)) ?_
        rw[ez]
        exact⟨dx,.int 0,hx,rfl⟩
     ·rw[if_neg hw] at hk
      refine bF (decide_eq_false fun z=>hw (Ds z)) ?_
      exact kn hk H2 (s1.trans s2)
   ·have hk:Cf b=none:=by
     unfold Cf
     split
     ·rename_i q;rw[q] at h5;exact absurd rfl h5
     ·rename_i q;rw[q] at h4;exact absurd rfl h4
     ·rfl
    refine⟨_,rfl,p,_,rfl,.inl (SqL.of hp),rfl,_,rfl,?_⟩
    refine len5 (by omega) (bF rfl ?_)
    refine⟨_,rfl,p,_,rfl,.inl (SqL.of hp),rfl,_,rfl,?_⟩
    refine len5 (by omega) (bF rfl ?_)
    refine⟨_,rfl,p,_,rfl,.inl (SqL.of hp),rfl,_,rfl,?_⟩
    refine len5 (by omega) (bF rfl ?_)
    exact kn hk H1 s1
end
end Fb
end
section
set_option maxRecDepth 100000
set_option maxHeartbeats 4000000
namespace Fb
open PySem PySem.Spec PyProof.Rows L2
abbrev RI:Stmt:=RX
def Sx (CL CK:Addr):Sp:=fun vs H Q _=>∃(a b:Addr) (p:LA) (name:List Int) (kinds:List ZK) (fault:List Int) (z:ZK),vs=[.ref a,.ref b]∧LockAt CL CK H a p name kinds fault∧KindAt CK H b z∧Pur H Q (.bl (GH kinds z))
theorem scStand:AY ["locker","kind","before"] ["locker","kind"] (AK RI):=⟨rfl,rfl,rfl,by decide +kernel,rfl,by decide +kernel,by decide +kernel⟩
section
variable {P:Program}{w:World}{K:AA}{mg:Str→Option Value}{base:Heap}{CL CK:Addr}
theorem ok_stand {f:Addr}{fd:FuncData} (F:Fun K "can_stand" "can_stand" RI f fd) (B:Blt mg) (TL:LockC K CL) (TK:KindC K CK) (c1:Cst mg "ANSWER" (.int 3)):FnOk P w K mg base CX0 1 f fd ["locker","kind"] (Sx CL CK):=by
 refine F.ok scStand (fun vs H Q E h=>?_) (fun cdv A outer s H vs Q E hr h=>?_)
 ·obtain⟨a,b,p,nm,ks,fl,z,rfl,_⟩:=h
  rfl
 ·obtain⟨a,b,p,nm,ks,fl,z,rfl,L,⟨dz,lz,hz,_⟩,k⟩:=h
  have kk:=k H (Same.refl H)
  obtain⟨dx,ho⟩:=L.ob
  obtain⟨as,hk,hp⟩:=L.ks
  have hl:=CU hp
  refine⟨_,AJ (Al (Ac BZ (Av Bj (by rfl) B.len BW (AB (Ak (pv 0) rfl) AD)) AO (AR _)) (AH (AL QH)) An)
   (AJ (BB (i:=2) scStand.nd rfl (AZ rfl) (Bp Bn (Ak (pv 0) rfl) (F6 GL AO) (fun _ _=>rfl)))
   (AH (AL (Ea (Cj Iz (Ak (pv 2) rfl) (AW c1 rfl) (AR _)) (Ed (Cj CY (Ak (pv 2) rfl) (Ak (pv 1) rfl) (AR _))))))),?_⟩
  refine⟨_,rfl,a,CL,dx,_,_,rfl,ho,TL.cl,TL.kinds,Fx,p.ak,_,rfl,.inl (SqL.of hk),rfl,_,rfl,?_⟩
  cases hlast:ks.getLast? with
  | none =>
   have:ks=[]:=Mq.mp hlast
   subst this
   have:as=[]:=by cases as with | nil=>rfl | cons _ _=>simp at hl
   subst this
   exact bT rfl kk
  | some q =>
   obtain⟨r,e⟩:=LB hlast
   subst e
   rw[BO,C8] at hl
   obtain⟨asR,aQ,rfl⟩:∃asR aQ,as=asR++[aQ]:=by
    have ne:as≠[]:=by intro q;rw[q] at hl;simp at hl
    exact⟨as.dropLast,as.getLast ne,(Jd ne).symm⟩
   have hlR:asR.length=r.length:=by rw[BO,C8] at hl;omega
   obtain⟨aq',e1,dq,lq,hq,_⟩:=DF hp (i:=r.length) (b:=q) (by simp)
   rw[Hj (by omega),hlR,Jz] at e1
   cases e1
   refine bF (decide_eq_false (BK (by rw[AG,BO,C8];omega))) ?_
   refine⟨_,rfl,a,CL,dx,_,_,rfl,ho,TL.cl,TL.kinds,Fx,_,rfl,p.ak,_,_,_,rfl,rfl,SqL.of hk,by rw[CV];exact Kg _ _,?_⟩
   refine⟨_,rfl,_,CK,dq,_,_,rfl,hq,TK.cl,TK.rank,DU,rfl,_,rfl,?_⟩
   unfold GH at kk
   rw[hlast] at kk
   have kk:Q (.bl (!(decide (q.lab.rank=3))&&decide (q.lab.rank≤z.lab.rank))) H:=kk
   by_cases h3:q.lab.rank=3
   ·rw[decide_eq_true h3] at kk
    exact bF (by rw[decide_eq_true (congrArg V.int h3)];rfl) kk
   ·rw[decide_eq_false h3] at kk
    refine bT (by rw[decide_eq_false (BK h3)];rfl) ?_
    exact⟨_,rfl,_,CK,dq,_,_,rfl,hq,TK.cl,TK.rank,DU,_,rfl,b,CK,dz,_,_,rfl,hz,TK.cl,TK.rank,DU,_,_,rfl,rfl,kk⟩
end
abbrev Lo:Stmt:=Rg
def Se (CL CK:Addr):Sp:=fun vs H Q _=>∃(a b:Addr) (p:LA) (name:List Int) (kinds:List ZK) (fault:List Int) (z:ZK),vs=[.ref a,.ref b]∧LockAt CL CK H a p name kinds fault∧KindAt CK H b z∧kinds.length < 100000∧Pur H Q (.bl (DV kinds z))
theorem scLabel:AY ["locker","kind","before"] ["locker","kind"] (AK Lo):=⟨rfl,rfl,rfl,by decide +kernel,rfl,by decide +kernel,by decide +kernel⟩
theorem K6:∀{a b:List Int},A2 a=A2 b→a=b
 | [],[],_=>rfl
 | [],_::_,h=>by simp[A2] at h
 | _::_,[],h=>by simp[A2] at h
 | x::a,y::b,h=>by
  have h:(As x:Key)::A2 a=As y::A2 b:=h
  obtain⟨h1,h2⟩:=Em h
  rw[IA h1,K6 h2]
theorem MO (n:List Int):∀(kinds:List ZK) (i:Nat),(Ar (Be i kinds) (A2 n)).isSome=kinds.any fun b=>decide (b.lab=.sign n)
 | [],i=>rfl
 | z::r,i=>by
  have ih:=MO n r (i+1)
  rw[GF,DL]
  cases hz:z.lab with
  | sign m =>
   by_cases e:m=n
   ·subst e
    rw[decide_eq_true rfl,MW]
    show(Ar ((A2 m,V.int (i:Nat))::Be (i+1) r) (A2 m)).isSome=true
    rw[Cd rfl]
    rfl
   ·rw[decide_eq_false (fun q=>e (by injection q)),GR,← ih]
    show(Ar ((A2 m,V.int (i:Nat))::Be (i+1) r) (A2 n)).isSome=_
    rw[Cc (p:=(A2 m,V.int ((i:Nat):Int))) fun q=>e (K6 q)]
  | same k=>rw[decide_eq_false (fun q=>nomatch q),GR,← ih]
  | ans=>rw[decide_eq_false (fun q=>nomatch q),GR,← ih]
def DI:List ZK→List Int
 | []=>[]
 | z::r=>match z.lab with
  | .same k=>k::DI r
  | _=>DI r
theorem Lu:∀(kinds:List ZK) (i:Nat),(BG i kinds).map (·.1)=(DI kinds).map As
 | [],_=>rfl
 | z::r,i=>by
  have ih:=Lu r (i+1)
  rw[GD]
  unfold DI
  cases z.lab with
  | sign n=>exact ih
  | same k=>show As k::_=As k::_;rw[ih]
  | ans=>exact ih
theorem RN (kinds:List ZK) (i:Nat):(BG i kinds).length=(DI kinds).length:=by
 have:=congrArg GZ (Lu kinds i)
 rwa [AG,AG] at this
theorem Ls:∀kinds:List ZK,(DI kinds).length≤kinds.length
 | []=>AV _
 | z::r=>by
  have ih:=Ls r
  unfold DI
  split
  ·simp;omega
  ·simp;omega
theorem Ke (k:Int):∀kinds:List ZK,((DI kinds).any fun j=>decide (k≤j))=kinds.any fun b=>match b.lab with
  | .same j=>decide (k≤j)
  | _=>false
 | []=>rfl
 | z::r=>by
  have ih:=Ke k r
  unfold DI
  rw[DL]
  cases z.lab with
  | sign n=>rw[← ih];simp
  | same j=>rw[← ih];simp
  | ans=>rw[← ih];simp
section
variable {P:Program}{w:World}{K:AA}{mg:Str→Option Value}{base:Heap}{CL CK:Addr}
theorem ok_label {f:Addr}{fd:FuncData} (F:Fun K "is_label_taken" "is_label_taken" Lo f fd) (B:Blt mg) (TL:LockC K CL) (TK:KindC K CK) (c1:Cst mg "SIGN" (.int 1)) (c2:Cst mg "SAME" (.int 2)):FnOk P w K mg base CX0 1 f fd ["locker","kind"] (Se CL CK):=by
 refine F.ok scLabel (fun vs H Q E h=>?_) (fun cdv A outer s H vs Q E hr h=>?_)
 ·obtain⟨a,b,p,nm,ks,fl,z,rfl,_⟩:=h
  rfl
 ·obtain⟨a,b,p,nm,ks,fl,z,rfl,L,⟨dz,lz,hz,hlab⟩,hlen,k⟩:=h
  have kk:=k H (Same.refl H)
  have hu:=E5 hr
  obtain⟨dx,ho⟩:=L.ob
  refine⟨_,AJ (Al (Ac BZ (Ak (pv 1) rfl) (AW c1 rfl) (AR _)) (AH (AL (Xh (Xg hu (Ak (pv 1) rfl) (Ak (pv 0) rfl))))) An)
   (AH (AL (Ea (Cj BZ (Ak (pv 1) rfl) (AW c2 rfl) (AR _)) (Ed (Av (OD rfl) (by rfl) B.any boot_any (AB (QN (DW (own:=[("before",2)]) rfl scLabel.nd (QR (Ak (pv 0) rfl)) (DQ (N:=["locker","kind","before"]) (sc:=AK Lo) (by decide +kernel))
    (fun s H C cl fp=>Bq (i:=2) scLabel.nd rfl (AZ rfl)) (fun s H C cl fp=>Dq) (fun s H C cl fp=>Cj CY (Ec K rfl (pv 1) rfl) (pv 2) (AR _)))) AD)))))),?_⟩
  refine⟨_,rfl,b,CK,dz,_,_,rfl,hz,TK.cl,TK.rank,DU,rfl,_,rfl,?_⟩
  unfold DV at kk
  cases hl:z.lab with
  | sign n =>
   rw[hl] at kk hlab
   obtain⟨tp,e1,htp⟩:=hlab
   subst e1
   refine bT (decide_eq_true rfl) ?_
   have htp':H tp=some (.tup ((A2 n).map kV)):=by rw[K5];exact htp
   refine⟨_,rfl,b,CK,dz,_,_,rfl,hz,TK.cl,TK.label,Il,_,rfl,a,CL,dx,_,_,rfl,ho,TL.cl,TL.signs,Fy,p.sg,_,rfl,DGet.t (k:=A2 n) L.sg htp',?_⟩
   rw[MO]
   exact kk
  | ans =>
   rw[hl] at kk
   refine bF (decide_eq_false (BK (by decide))) ?_
   refine⟨_,rfl,b,CK,dz,_,_,rfl,hz,TK.cl,TK.rank,DU,rfl,_,rfl,?_⟩
   rw[hl]
   exact bF (decide_eq_false (BK (by decide))) kk
  | same j =>
   rw[hl] at kk hlab
   have hlab:lz=.int j:=hlab
   subst hlab
   refine bF (decide_eq_false (BK (show(2:Int)≠1 by decide))) ?_
   refine⟨_,rfl,b,CK,dz,_,_,rfl,hz,TK.cl,TK.rank,DU,rfl,_,rfl,?_⟩
   rw[hl]
   refine bT (decide_eq_true rfl) ?_
   have kk:Q (.bl (ks.any fun b=>match b.lab with
    | .same i=>decide (j≤i)
    | _=>false)) H:=kk
   rw[← Ke] at kk
   have hkl:=RN ks 0
   have hle:=Ls ks
   refine⟨p.sm,_,L.sm,trivial,fun od=>?_⟩
   have hfz:upd H p.sm (.frz od (.dK (BG 0 ks))) p.sm=some (.frz od (.dK (BG 0 ks))):=AI
   have nap:a≠p.sm:=Bc ho L.sm (by intro q;cases q)
   have nbp:b≠p.sm:=Bc hz L.sm (by intro q;cases q)
   have s0:∀x o,H x=some o→x≠p.sm→upd H p.sm (.frz od (.dK (BG 0 ks))) x=some o:=fun x o e n=>by rw[AE n];exact e
   refine⟨_,rfl,a,CL,dx,_,_,rfl,s0 _ _ ho nap,TL.cl,TL.sames,Iq,p.sm,od,rfl,.inl ⟨_,hfz,fun D hD=>?_⟩⟩
   refine D9 (n:=(BG 0 ks).length) (((DI ks).map fun i=>decide (j≤i)).map V.bl) (by simp[hkl]) (Bo (by omega)) hD (fun i H hi s1=>⟨s1 _ _ hfz,hi⟩) (fun H s1=>⟨s1 _ _ hfz,AV _⟩) ?_ ?_
   ·rintro i y v H1 H2 hv s1 ⟨rfl,kk',vv,hkk,rfl⟩ R hR
    have hks':((BG 0 ks).map (·.1))[i]?=some kk':=by rw[Ah,hkk];rfl
    rw[Lu,Ah] at hks'
    cases hq:(DI ks)[i]? with
    | none=>rw[hq] at hks';cases hks'
    | some q =>
     rw[hq] at hks'
     have ez:As q=kk':=Ae hks'
     subst ez
     have ev:v=V.bl (decide (j≤q)):=by
      rw[Ah,Ah,hq] at hv
      exact(Ae hv).symm
     subst ev
     exact⟨rfl,_,rfl,b,CK,dz,_,_,rfl,s1 _ _ (s0 _ _ hz nbp),TK.cl,TK.label,Il,_,rfl,_,_,rfl,rfl,hR _ (Same.refl _)⟩
   ·intro H2 s5 hD2
    refine⟨s5 _ _ hfz,D,(DI ks).map fun i=>decide (j≤i),rfl,SqL.of ?_,?_⟩
    ·rw[AE (Ap (Am hfz hD))]
     exact hD2
    ·rw[GY]
     have key:Same H (upd H2 p.sm (.dK (BG 0 ks))):=fun x o e=>by
      by_cases n:x=p.sm
      ·subst n
       rw[AI,← L.sm]
       exact e
      ·rw[AE n]
       exact s5 _ _ (s0 _ _ e n)
     have:=k _ key
     unfold DV at this
     rw[hl] at this
     have this:Q (.bl (ks.any fun b=>match b.lab with
      | .same i=>decide (j≤i)
      | _=>false)) _:=this
     rw[← Ke] at this
     exact this
end
abbrev Lq:Stmt:=Rh
def L4 (CL CK:Addr):Sp:=fun vs H Q _=>∃(a b:Addr) (p:LA) (name:List Int) (kinds:List ZK) (fault:List Int) (z:ZK),vs=[.ref a,.ref b]∧LockAt CL CK H a p name kinds fault∧KindAt CK H b z∧kinds.length < 100000∧Pur H Q (.bl (HB kinds z))
theorem scLookT:AY ["locker","kind","before"] ["locker","kind"] (AK Lq):=⟨rfl,rfl,rfl,by decide +kernel,rfl,by decide +kernel,by decide +kernel⟩
section
variable {P:Program}{w:World}{K:AA}{mg:Str→Option Value}{base:Heap}{CL CK:Addr}
theorem ok_lookT {f:Addr}{fd:FuncData} (F:Fun K "is_look_taken" "is_look_taken" Lq f fd) (B:Blt mg) (TL:LockC K CL) (TK:KindC K CK):FnOk P w K mg base CX0 1 f fd ["locker","kind"] (L4 CL CK):=by
 refine F.ok scLookT (fun vs H Q E h=>?_) (fun cdv A outer s H vs Q E hr h=>?_)
 ·obtain⟨a,b,p,nm,ks,fl,z,rfl,_⟩:=h
  rfl
 ·obtain⟨a,b,p,nm,ks,fl,z,rfl,L,⟨dz,lz,hz,hlab⟩,hlen,k⟩:=h
  obtain⟨dx,ho⟩:=L.ob
  obtain⟨as,hk,hp⟩:=L.ks
  have hl:=CU hp
  refine⟨_,AH (AL (Av (OD rfl) (by rfl) B.any boot_any (AB (DW (own:=[("before",2)]) rfl scLookT.nd (Dm (Ak (pv 0) rfl)) (DQ (N:=["locker","kind","before"]) (sc:=AK Lq) (by decide +kernel))
    (fun s H C cl fp=>Bq (i:=2) scLookT.nd rfl (AZ rfl)) (fun s H C cl fp=>Dq) (fun s H C cl fp=>Ea (Cj BZ (Ec K rfl (pv 2) rfl) (Ec K rfl (pv 1) rfl) (AR _)) (Ed (Cj BZ (Ec K rfl (pv 2) rfl) (Ec K rfl (pv 1) rfl) (AR _))))) AD))),?_⟩
  refine⟨_,rfl,a,CL,dx,_,_,rfl,ho,TL.cl,TL.kinds,Fx,p.ak,rfl,⟨_,SqL.of hk⟩,fun D hD=>?_⟩
  refine D9 (n:=(as.map V.ref).length) ((ks.map fun q=>decide (q.shape=z.shape)&&decide (q.look=z.look)).map V.bl) (by simp[hl]) (Bo (by rw[AG,hl];omega)) hD (fun i H hi s1=>EU (SqL.of (s1 _ _ hk)) hi) (fun H s1=>EV (SqL.of (s1 _ _ hk))) ?_ ?_
  ·rintro i y v H1 H2 hv s1 ⟨rfl,hy⟩ R hR
   have hy:=hy _ (SqL.of (s1 _ _ hk))
   rw[Ah,Ah] at hv
   cases hq:ks[i]? with
   | none=>rw[hq] at hv;cases hv
   | some q =>
    rw[hq] at hv
    have ev:V.bl (decide (q.shape=z.shape)&&decide (q.look=z.look))=v:=Ae hv
    subst ev
    obtain⟨c,hc,dq,lq,hqq,_⟩:=DF hp hq
    rw[Ah,hc] at hy
    have ey:V.ref c=y:=Ae hy
    subst ey
    have r0:=hR _ (Same.refl _)
    refine⟨rfl,_,rfl,c,CK,dq,_,_,rfl,s1 _ _ hqq,TK.cl,TK.shape,PZ,_,rfl,b,CK,dz,_,_,rfl,s1 _ _ hz,TK.cl,TK.shape,PZ,rfl,_,rfl,?_⟩
    by_cases h1:q.shape=z.shape
    ·rw[decide_eq_true h1,Cq] at r0
     refine bT (decide_eq_true (congrArg V.int h1)) ?_
     refine⟨_,rfl,c,CK,dq,_,_,rfl,s1 _ _ hqq,TK.cl,TK.look,PY,_,rfl,b,CK,dz,_,_,rfl,s1 _ _ hz,TK.cl,TK.look,PY,rfl,?_⟩
     rw[show decide (V.int q.look=V.int z.look)=decide (q.look=z.look) from By ⟨JT,fun h=>congrArg V.int h⟩]
     exact r0
    ·rw[decide_eq_false h1,Ce] at r0
     exact bF (decide_eq_false (BK h1)) r0
  ·intro H2 s5 hD2
   refine⟨D,ks.map fun q=>decide (q.shape=z.shape)&&decide (q.look=z.look),rfl,SqL.of hD2,?_⟩
   rw[GY]
   exact k H2 s5
end
end Fb
end
section
set_option maxRecDepth 100000
set_option maxHeartbeats 4000000
namespace Fb
open PySem PySem.Spec PyProof.Rows L2
abbrev Qw:Stmt:=Rq
def Sa (CL CK:Addr):Sp:=fun vs H Q _=>∃(a:Addr) (kv:V) (p:LA) (name:List Int) (kinds:List ZK) (fault:List Int) (R:Int),vs=[.ref a,kv]∧LockAt CL CK H a p name kinds fault∧kinds.length < 100000∧
 ((kv=.non∧R=1)∨∃b z,kv=.ref b∧KindAt CK H b z∧R=IZ kinds z)∧Pur H Q (.int R)
theorem YX:AY ["locker","kind"] ["locker","kind"] (AK Qw):=⟨rfl,rfl,rfl,by decide +kernel,rfl,by decide +kernel,by decide +kernel⟩
theorem HU:∀(kinds:List ZK) (i:Nat),(Be i kinds).length=EC kinds
 | [],_=>rfl
 | z::r,i=>by
  have ih:=HU r (i+1)
  rw[GF]
  unfold EC at ih ⊢
  rw[En]
  cases hz:z.lab with
  | sign n=>simp[ZLab.rank,ih]
  | same k=>simp[ZLab.rank,ih]
  | ans=>simp[ZLab.rank,ih]
section
variable {P:Program}{w:World}{K:AA}{mg:Str→Option Value}{base:Heap}{CL CK:Addr}
theorem ok_kfault {f:Addr}{fd:FuncData} (F:Fun K "kind_fault" "kind_fault" Qw f fd) (B:Blt mg) (TL:LockC K CL) (TK:KindC K CK) (c1:Cst mg "NO_SUCH_LINE" (.int 1)) (c2:Cst mg "TOLD_BEFORE" (.int 2)) (c3:Cst mg "TOO_MANY_SIGNS" (.int 3)) (c4:Cst mg "LOOK_TOLD_BEFORE" (.int 4)) (c5:Cst mg "SIGN" (.int 1)) (c6:Cst mg "MOST_SIGNS" (.int 48))
  (g1:Has P w K mg "can_stand" 1 ["locker","kind"] (Sx CL CK)) (g2:Has P w K mg "is_label_taken" 1 ["locker","kind"] (Se CL CK)) (g3:Has P w K mg "is_look_taken" 1 ["locker","kind"] (L4 CL CK)):FnOk P w K mg base CX0 2 f fd ["locker","kind"] (Sa CL CK):=by
 refine F.ok YX (fun vs H Q E h=>?_) (fun cdv A outer s H vs Q E hr h=>?_)
 ·obtain⟨a,kv,p,nm,ks,fl,R,rfl,_⟩:=h
  rfl
 ·obtain⟨a,kv,p,nm,ks,fl,R,rfl,L,hlen,hkv,k⟩:=h
  refine⟨_,AJ (Al (PW.pt (GA (Ac LX (pv 1) Ck (AR _)) (HQ (Dn (Cm (AN g1 hr (by rfl) (AB (pv 0) (AB (pv 1) AD)))))))) (AH (AL (AW c1 rfl))) An)
   (AJ (Al (Cm (AN g2 hr (by rfl) (AB (pv 0) (AB (pv 1) AD)))) (AH (AL (AW c2 rfl))) An)
   (AJ (Al (PW.pt (Dr (Ac BZ (Ak (pv 1) rfl) (AW c5 rfl) (AR _)) (Ef (Ac BZ (Av Kk (by rfl) B.len BW (AB (Ak (pv 0) rfl) AD)) (AW c6 rfl) (AR _))))) (AH (AL (AW c3 rfl))) An)
   (AJ (Al (Cm (AN g3 hr (by rfl) (AB (pv 0) (AB (pv 1) AD)))) (AH (AL (AW c4 rfl))) An)
   (AH (AL AO))))),?_⟩
  rcases hkv with ⟨rfl,rfl⟩ | ⟨b,z,rfl,hz,rfl⟩
  ·exact⟨_,rfl,rfl,_,rfl,bT rfl (bT rfl (k H (Same.refl H)))⟩
  ·unfold IZ at k
   refine⟨_,rfl,rfl,_,rfl,bF (decide_eq_false fun q=>nomatch q) ?_⟩
   refine⟨_,rfl,_,rfl,a,b,p,nm,ks,fl,z,rfl,L,hz,fun H1 s1=>⟨_,rfl,?_⟩⟩
   cases h1:GH ks z with
   | false =>
    rw[if_pos h1] at k
    exact bT rfl (k H1 s1)
   | true =>
    rw[if_neg (by rw[h1];decide)] at k
    refine bF rfl ?_
    refine⟨_,rfl,_,rfl,a,b,p,nm,ks,fl,z,rfl,L.mono s1,hz.mono s1,hlen,fun H2 s2=>⟨_,rfl,?_⟩⟩
    have s12:=s1.trans s2
    cases h2:DV ks z with
    | true =>
     rw[if_pos h2] at k
     exact bT rfl (k H2 s12)
    | false =>
     rw[if_neg (by rw[h2];decide)] at k
     refine bF rfl ?_
     obtain⟨dz,lz,hz2,hlab2⟩:=hz.mono s12
     have L2:=L.mono s12
     obtain⟨dx,ho⟩:=L2.ob
     refine⟨_,rfl,b,CK,dz,_,_,rfl,hz2,TK.cl,TK.rank,DU,rfl,_,rfl,?_⟩
     have last:(¬(z.lab.rank=1∧EC ks=48))→MK (MI (tB (JQ (L4 CL CK) [] E0 (GJ (Eh 0) (GJ (Eh 1) FD)))) (HX (tC (V.int 4))) MJ) (HX (tC (V.int 0))) { nx:=fun x H'=>Q V.non H',rt:=Q } (_root_.L2.start ["locker","kind"] [V.ref a,V.ref b]) H2:=fun hn=>by
      rw[if_neg hn] at k
      refine⟨_,rfl,_,rfl,a,b,p,nm,ks,fl,z,rfl,L2,hz.mono s12,hlen,fun H3 s3=>⟨_,rfl,?_⟩⟩
      have s13:=s12.trans s3
      cases h3:HB ks z with
      | true =>
       rw[if_pos h3] at k
       exact bT rfl (k H3 s13)
      | false =>
       rw[if_neg (by rw[h3];decide)] at k
       exact bF rfl (k H3 s13)
     by_cases h3:z.lab.rank=1
     ·refine bT (decide_eq_true (congrArg V.int h3)) ?_
      refine⟨_,rfl,a,CL,dx,_,_,rfl,ho,TL.cl,TL.signs,Fy,p.sg,_,rfl,L2.sg,rfl,_,rfl,?_⟩
      rw[HU]
      by_cases h4:EC ks=48
      ·rw[if_pos ⟨h3,h4⟩] at k
       exact bT (decide_eq_true (by rw[h4];rfl)) (k H2 s12)
      ·exact bF (decide_eq_false (BK (by omega))) (last fun q=>h4 q.2)
     ·exact bF (decide_eq_false (BK h3)) (bF rfl (last fun q=>h3 q.1))
end
end Fb
end
section
set_option maxRecDepth 100000
set_option maxHeartbeats 4000000
namespace Fb
open PySem PySem.Spec PyProof.Rows L2
abbrev Qm:Stmt:=RV
def KW (p:LA):Prop:=p.an≠p.ak∧p.af≠p.ak
def KeepBut (xs:List Addr) (H H':Hp):Prop:=∀x o,H x=some o→x∉xs→H' x=some o
theorem KeepBut.trans {xs:List Addr}{H H1 H2:Hp} (a:KeepBut xs H H1) (b:KeepBut xs H1 H2):KeepBut xs H H2:=fun x o e n=>b x o (a x o e n) n
theorem KeepBut.of {xs:List Addr}{H H':Hp} (s:Same H H'):KeepBut xs H H':=fun x o e _=>s x o e
theorem KeepBut.mono {xs ys:List Addr}{H H':Hp} (a:KeepBut xs H H') (h:∀x∈xs,x∈ys):KeepBut ys H H':=fun x o e n=>a x o e fun z=>n (h x z)
def SO (CL CK:Addr):Sp:=fun vs H Q _=>∃(a b:Addr) (p:LA) (name:List Int) (kinds:List ZK) (fault:List Int) (z:ZK),vs=[.ref a,.ref b]∧LockAt CL CK H a p name kinds fault∧KindAt CK H b z∧KW p∧kinds.length < 100000∧DV kinds z=false∧
 ∀H',LockAt CL CK H' a p name (kinds++[z]) fault→KeepBut [p.ak,p.sg,p.sm] H H'→Q .non H'
theorem scAddK:AY ["locker","kind","number"] ["locker","kind"] (AK Qm):=⟨rfl,rfl,rfl,by decide +kernel,rfl,by decide +kernel,by decide +kernel⟩
theorem JL (z:ZK):∀(ks:List ZK) (i:Nat),Be i (ks++[z])=Be i ks++(match z.lab with
  | .sign n=>[(A2 n,V.int ((i+ks.length:Nat):Int))]
  | _=>[])
 | [],i=>by
  rw[T2,GF]
  cases z.lab <;> rfl
 | y::ks,i=>by
  rw[FO,GF,GF,JL z ks (i+1),Bu,show i+1+ks.length=i+(ks.length+1) by omega]
  cases y.lab <;> rfl
theorem JJ (z:ZK):∀(ks:List ZK) (i:Nat),BG i (ks++[z])=BG i ks++(match z.lab with
  | .same n=>[(As n,V.int ((i+ks.length:Nat):Int))]
  | _=>[])
 | [],i=>by
  rw[T2,GD]
  cases z.lab <;> rfl
 | y::ks,i=>by
  rw[FO,GD,GD,JJ z ks (i+1),Bu,show i+1+ks.length=i+(ks.length+1) by omega]
  cases y.lab <;> rfl
theorem Yz (ks:List ZK) (i:Nat):(Be i ks).length≤ks.length:=by
 rw[HU]
 exact Jo _ _
theorem YO (ks:List ZK) (i:Nat):(BG i ks).length≤ks.length:=by
 rw[RN]
 exact Ls ks
theorem Zs {ks:List ZK}{j:Int} (i:Nat) (h:(ks.any fun b=>match b.lab with
  | .same i=>decide (j≤i)
  | _=>false)=false):Ar (BG i ks) (As j)=none:=by
 rcases TQ j ks i with ⟨h1,_⟩ | ⟨m,z,_,h2,h3⟩
 ·exact h1
 ·have hz:=Ts h3
  have hm:=T1 h3
  have:=(Dc.mp h) z hm
  have e:z.lab=.same j:=of_decide_eq_true hz
  rw[e] at this
  exact absurd (decide_eq_true (Int.le_refl j)) this
section
variable {P:Program}{w:World}{K:AA}{mg:Str→Option Value}{base:Heap}{CL CK:Addr}
theorem ok_addK {f:Addr}{fd:FuncData} (F:Fun K "add_kind" "add_kind" Qm f fd) (B:Blt mg) (TL:LockC K CL) (TK:KindC K CK) (c1:Cst mg "SIGN" (.int 1)) (c2:Cst mg "SAME" (.int 2)):FnOk P w K mg base CX0 1 f fd ["locker","kind"] (SO CL CK):=by
 refine F.ok scAddK (fun vs H Q E h=>?_) (fun cdv A outer s H vs Q E hr h=>?_)
 ·obtain⟨a,b,p,nm,ks,fl,z,rfl,_⟩:=h
  rfl
 ·obtain⟨a,b,p,nm,ks,fl,z,rfl,L,hK,⟨ap1,ap2⟩,hlen,hlz,k⟩:=h
  have hu:=E5 hr
  obtain⟨dx,ho⟩:=L.ob
  obtain⟨as,hk,hp⟩:=L.ks
  obtain⟨dz,lz,hz,hlab⟩:=id hK
  have hl:=CU hp
  refine⟨_,AJ (BB (i:=2) scAddK.nd rfl (AZ rfl) (Av Bj (by rfl) B.len BW (AB (Ak (pv 0) rfl) AD)))
   (AJ (FA (Eb Er Gg Gh Fz (Ak (pv 0) rfl) (AB (pv 1) AD)))
   (AJ (Al (Ac BZ (Ak (pv 1) rfl) (AW c1 rfl) (AR _)) (AH (Lg hu (Ak (pv 0) rfl) (Ak (pv 1) rfl) (pv 2) rfl)) An)
   (AH (Al (Ac BZ (Ak (pv 1) rfl) (AW c2 rfl) (AR _)) (AH (Lg hu (Ak (pv 0) rfl) (Ak (pv 1) rfl) (pv 2) rfl)) An)))),?_⟩
  refine⟨_,rfl,a,CL,dx,_,_,rfl,ho,TL.cl,TL.kinds,Fx,p.ak,_,rfl,.inl (SqL.of hk),?_⟩
  refine⟨_,rfl,a,CL,dx,_,_,rfl,ho,TL.cl,TL.kinds,Fx,.inl ⟨rfl,_,SqL.of hk⟩,_,rfl,p.ak,_,_,rfl,rfl,hk,Bo (by rw[AG,hl];omega),?_⟩
  have nak:∀{x:Addr} {o:HO},H x=some o→(∀xs,o≠.lst xs)→x≠p.ak:=fun e n=>Bc e hk (n _)
  have k1:∀x o,H x=some o→x≠p.ak→upd H p.ak (.lst (as.map V.ref++[V.ref b])) x=some o:=fun x o e n=>by rw[AE n];exact e
  have ho1:=k1 _ _ ho (nak ho fun _ q=>nomatch q)
  have hz1:=k1 _ _ hz (nak hz fun _ q=>nomatch q)
  have hsg1:=k1 _ _ L.sg (nak L.sg fun _ q=>nomatch q)
  have hsm1:=k1 _ _ L.sm (nak L.sm fun _ q=>nomatch q)
  have hnm1:=k1 _ _ L.nm ap1
  have haf1:=k1 _ _ L.af ap2
  have hak1:upd H p.ak (.lst (as.map V.ref++[V.ref b])) p.ak=some (.lst ((as++[b]).map V.ref)):=by rw[AI,CV];rfl
  have hlab1:Ka (upd H p.ak (.lst (as.map V.ref++[V.ref b]))) lz z.lab:=by
   cases hh:z.lab with
   | sign n =>
    rw[hh] at hlab
    obtain⟨tp,e1,e2⟩:=hlab
    exact⟨tp,e1,k1 _ _ e2 (nak e2 fun _ q=>nomatch q)⟩
   | same n=>rw[hh] at hlab;exact hlab
   | ans=>rw[hh] at hlab;exact hlab
  have hp1:Paired (KindAt CK (upd H p.ak (.lst (as.map V.ref++[V.ref b])))) (as++[b]) (ks++[z]):=by
   have key:∀x y,KindAt CK H x y→KindAt CK (upd H p.ak (.lst (as.map V.ref++[V.ref b]))) x y:=fun x y q=>q.same fun x o e n1 _ _ _=>k1 x o e (nak e n1)
   exact HJ (Paired.mapP hp key) (key _ _ hK)
  have kb1:KeepBut [p.ak,p.sg,p.sm] H (upd H p.ak (.lst (as.map V.ref++[V.ref b]))):=fun x o e n=>k1 x o e fun q=>n (by simp[q])
  generalize upd H p.ak (.lst (as.map V.ref++[V.ref b]))=H1 at ho1 hz1 hsg1 hsm1 hnm1 haf1 hak1 hlab1 hp1 kb1 ⊢
  refine⟨_,rfl,b,CK,dz,_,_,rfl,hz1,TK.cl,TK.rank,DU,rfl,_,rfl,?_⟩
  cases hh:z.lab with
  | ans =>
   refine bF (decide_eq_false (BK (by decide))) ?_
   refine⟨_,rfl,b,CK,dz,_,_,rfl,hz1,TK.cl,TK.rank,DU,rfl,_,rfl,?_⟩
   rw[hh]
   refine bF (decide_eq_false (BK (by decide))) ?_
   refine k H1 ⟨⟨dx,ho1⟩,hnm1,⟨_,hak1,hp1⟩,?_,?_,haf1⟩ kb1
   ·rw[JL,hh,C7];exact hsg1
   ·rw[JJ,hh,C7];exact hsm1
  | sign n =>
   rw[hh] at hlab1
   obtain⟨tp,e1,htp⟩:=hlab1
   subst e1
   refine bT (decide_eq_true rfl) ?_
   have htp':H1 tp=some (.tup ((A2 n).map kV)):=by rw[K5];exact htp
   have hv:Ar (Be 0 ks) (A2 n)=none:=by
    have h1:=MO n ks 0
    unfold DV at hlz
    rw[hh] at hlz
    have hlz:(ks.any fun b=>decide (b.lab=.sign n))=false:=hlz
    rw[hlz] at h1
    cases q:Ar (Be 0 ks) (A2 n) with
    | none=>rfl
    | some v=>rw[q] at h1;cases h1
   refine⟨_,rfl,_,rfl,a,CL,dx,_,_,rfl,ho1,TL.cl,TL.signs,Fy,_,rfl,b,CK,dz,_,_,rfl,hz1,TK.cl,TK.label,Il,p.sg,_,rfl,DPut.t (k:=A2 n) hsg1 htp' (Bo (by have:=Yz ks 0;omega)),?_⟩
   have nsg:∀{x:Addr} {o:HO},H1 x=some o→(∀xs,o≠.dT xs)→x≠p.sg:=fun e n=>Bc e hsg1 (n _)
   have k2:∀x o,H1 x=some o→x≠p.sg→upd H1 p.sg (.dT (CF (Be 0 ks) (A2 n) (V.int ((as.map V.ref).length:Nat)))) x=some o:=fun x o e n=>by rw[AE n];exact e
   have hz2:=k2 _ _ hz1 (nsg hz1 fun _ q=>nomatch q)
   refine⟨_,rfl,b,CK,dz,_,_,rfl,hz2,TK.cl,TK.rank,DU,rfl,_,rfl,?_⟩
   rw[hh]
   refine bF (decide_eq_false (BK (show(1:Int)≠2 by decide))) ?_
   refine k _ ⟨⟨dx,k2 _ _ ho1 (nsg ho1 fun _ q=>nomatch q)⟩,k2 _ _ hnm1 (nsg hnm1 fun _ q=>nomatch q),⟨_,k2 _ _ hak1 (nsg hak1 fun _ q=>nomatch q),Paired.mapP hp1 fun x y q=>q.same fun x o e _ _ n3 _=>k2 x o e (nsg e n3)⟩,?_,?_,k2 _ _ haf1 (nsg haf1 fun _ q=>nomatch q)⟩ ?_
   ·rw[AI,JL,hh,QW _ hv,AG,hl,EJ]
   ·rw[JJ,hh,C7]
    exact k2 _ _ hsm1 (nsg hsm1 fun _ q=>nomatch q)
   ·exact kb1.trans fun x o e n=>k2 x o e fun q=>n (by simp[q])
  | same j =>
   rw[hh] at hlab1
   have hlab1:lz=.int j:=hlab1
   subst hlab1
   refine bF (decide_eq_false (BK (show(2:Int)≠1 by decide))) ?_
   refine⟨_,rfl,b,CK,dz,_,_,rfl,hz1,TK.cl,TK.rank,DU,rfl,_,rfl,?_⟩
   rw[hh]
   refine bT (decide_eq_true rfl) ?_
   have hv:Ar (BG 0 ks) (As j)=none:=by
    unfold DV at hlz
    rw[hh] at hlz
    exact Zs 0 hlz
   refine⟨_,rfl,_,rfl,a,CL,dx,_,_,rfl,ho1,TL.cl,TL.sames,Iq,_,rfl,b,CK,dz,_,_,rfl,hz1,TK.cl,TK.label,Il,p.sm,_,rfl,DPut.k (k:=As j) hsm1 (Bo (by have:=YO ks 0;omega)),?_⟩
   have nsm:∀{x:Addr} {o:HO},H1 x=some o→(∀xs,o≠.dK xs)→x≠p.sm:=fun e n=>Bc e hsm1 (n _)
   have k2:∀x o,H1 x=some o→x≠p.sm→upd H1 p.sm (.dK (CF (BG 0 ks) (As j) (V.int ((as.map V.ref).length:Nat)))) x=some o:=fun x o e n=>by rw[AE n];exact e
   refine k _ ⟨⟨dx,k2 _ _ ho1 (nsm ho1 fun _ q=>nomatch q)⟩,k2 _ _ hnm1 (nsm hnm1 fun _ q=>nomatch q),⟨_,k2 _ _ hak1 (nsm hak1 fun _ q=>nomatch q),Paired.mapP hp1 fun x y q=>q.same fun x o e _ n2 _ _=>k2 x o e (nsm e n2)⟩,?_,?_,k2 _ _ haf1 (nsm haf1 fun _ q=>nomatch q)⟩ ?_
   ·rw[JL,hh,C7]
    exact k2 _ _ hsg1 (nsm hsg1 fun _ q=>nomatch q)
   ·rw[AI,JJ,hh,QW _ hv,AG,hl,EJ]
   ·exact kb1.trans fun x o e n=>k2 x o e fun q=>n (by simp[q])
end
end Fb
end
section
set_option maxRecDepth 100000
set_option maxHeartbeats 4000000
namespace Fb
open PySem PySem.Spec PyProof.Rows L2
theorem Wq {b:Aj}{x:AM} (h:Cf b=some x):∀j,x.role=.same j→1≤j:=by
 intro j hj
 unfold Cf at h
 split at h
 ·rename_i w n c s l _
  split at h
  ·have:=(E7 h).2.2
   rw[this] at hj;cases hj
  ·split at h
   ·cases hd:Ei 4 n with
    | none=>rw[hd] at h;cases h
    | some m =>
     rw[hd] at h
     have h:C6 (.same m) c s l=some x:=h
     have:=(E7 h).2.2
     rw[this] at hj
     cases hj
     exact(Lx hd).2
   ·cases h
 ·split at h
  ·have:=(E7 h).2.2
   rw[this] at hj;cases hj
  ·cases h
 ·cases h
theorem LL (x:Str) (ns:List Int):F0 x ns=HE (BJ x) ns:=rfl
theorem V4:BJ "locker"=zs (Az "locker"):=by decide +kernel
abbrev RL:Stmt:=SH
structure LockS (CL CK:Addr) (H:Hp) (a:Addr) (p:LA) (s:LS) (fl:List Int) (i:Nat):Prop where
 at_:LockAt CL CK H a p (zs s.name) (s.kinds.map zk) fl
 wf:Wf s.kinds
 ap:KW p
 le:s.kinds.length≤i
theorem LockS.mono {CL CK:Addr}{H H':Hp}{a:Addr}{p:LA}{s:LS}{fl:List Int}{i:Nat} (x:LockS CL CK H a p s fl i) (h:Same H H'):LockS CL CK H' a p s fl i:=⟨x.at_.mono h,x.wf,x.ap,x.le⟩
def Nq (p p':LA):Prop:=p'.ak=p.ak∧p'.sg=p.sg∧p'.sm=p.sm∧p'.af=p.af
def JP (K:AA) (CL CK:Addr):Sp:=fun vs H Q _=>∃(a la:Addr) (p:LA) (s:LS) (fl:List Int) (i:Nat) (b:Aj),vs=[.ref a,.int (i:Nat),.ref la]∧LockS CL CK H a p s fl i∧i < 90000∧SqL K H la ((zs b).map V.int)∧b.length < 100000∧
 (∀k,BN s i b=.error k→∀H',Same H H'→Q (.int k) H')∧
 (∀s',BN s i b=.ok s'→∀H' p',LockS CL CK H' a p' s' fl (i+1)→Nq p p'→KeepBut [a,p.ak,p.sg,p.sm] H H'→Q (.int 0) H')
theorem scTakeL:AY ["locker","number","line","kind","fault"] ["locker","number","line"] (AK RL):=⟨rfl,rfl,rfl,by decide +kernel,rfl,by decide +kernel,by decide +kernel⟩
section
variable {P:Program}{w:World}{K:AA}{mg:Str→Option Value}{base:Heap}{CL CK:Addr}
theorem ok_takeL {f:Addr}{fd:FuncData} (F:Fun K "take_line" "take_line" RL f fd) (hne:CL≠CK) (TL:LockC K CL) (c1:Cst mg "NO_SUCH_LINE" (.int 1)) (g1:Has P w K mg "is_naming_line" 3 ["line","first"] (MB K)) (g2:Has P w K mg "named" 2 ["line"] (MA K))
  (g3:Has P w K mg "kind_told" 4 ["line"] (Sd K CK)) (g4:Has P w K mg "kind_fault" 2 ["locker","kind"] (Sa CL CK)) (g5:Has P w K mg "add_kind" 1 ["locker","kind"] (SO CL CK)):FnOk P w K mg base CX0 5 f fd ["locker","number","line"] (JP K CL CK):=by
 refine F.ok scTakeL (fun vs H Q E h=>?_) (fun cdv A outer s H vs Q E hr h=>?_)
 ·obtain⟨a,la,p,s,fl,i,b,rfl,_⟩:=h
  rfl
 ·obtain⟨a,la,p,st,fl,i,b,rfl,L,hi,hS,hlen,ke,ko⟩:=h
  have hr1:Room 1 _:=hr.mono (by decide)
  have hr2:Room 2 _:=hr.mono (by decide)
  have hr3:Room 3 _:=hr.mono (by decide)
  have zl:(zs b).length < 100000:=by rw[Aw];exact hlen
  refine⟨_,AJ (Al (Ac BZ (pv 1) AO (AR _))
    (AJ (Al (Dn (Cm (AN g1 hr3 (by rfl) (AB (pv 2) (AB DX AD))))) (AH (AL (AW c1 rfl))) An)
    (AJ (BU (pv 0) (AN g2 hr2 (by rfl) (AB (pv 2) AD)) rfl) (AH (AL AO)))) An)
   (AJ (BB (i:=3) scTakeL.nd rfl (AZ rfl) (AN g3 hr (by rfl) (AB (pv 2) AD)))
   (AJ (BB (i:=4) scTakeL.nd rfl (AZ rfl) (AN g4 hr2 (by rfl) (AB (pv 0) (AB (pv 3) AD))))
   (AJ (Al (Ac BZ (pv 4) AO (AR _)) (AH (FA (AN g5 hr1 (by rfl) (AB (pv 0) (AB (pv 3) AD))))) An)
   (AH (AL (pv 4)))))),?_⟩
  refine⟨_,rfl,rfl,_,rfl,?_⟩
  by_cases h0:i=0
  ·subst h0
   refine bT (decide_eq_true rfl) ?_
   have hstep:BN st 0 b=match Bt (Az "locker") b with
     | none=>.error 1
     | some n=>.ok ⟨n,st.kinds⟩:=by
    unfold BN
    rw[if_pos rfl]
    rfl
   refine⟨_,rfl,la,zs b,"locker",rfl,hS,zl,by decide,fun H1 s1=>⟨_,rfl,?_⟩⟩
   rw[LL,V4]
   cases hn:Bt (Az "locker") b with
   | none =>
    rw[hn] at hstep
    rw[LM hn]
    exact bT rfl (ke 1 hstep H1 s1)
   | some n =>
    rw[hn] at hstep
    obtain⟨q1,q2⟩:=LN hn
    rw[q1]
    refine bF rfl ?_
    refine⟨_,rfl,la,zs b,zs n,rfl,s1.seq hS,zl,q2,fun H2 q s2 nq hq=>?_⟩
    have s12:=s1.trans s2
    have L2:=L.at_.mono s12
    obtain⟨dx,ho⟩:=L2.ob
    refine⟨_,rfl,a,CL,dx,_,rfl,ho,TL.cl,TL.name,(by show 5 < 1000;decide),?_⟩
    have na:∀{x:Addr} {o:HO},H2 x=some o→(∀C dx fs,o≠.ins C dx fs)→x≠a:=fun e n=>Bc e ho (n _ _ _)
    have k1:∀x o,H2 x=some o→x≠a→upd H2 a (.ins CL dx (A9 "name" (V.ref q) (lf p.an p.ak p.sg p.sm p.af))) x=some o:=fun x o e n=>by rw[AE n];exact e
    have nq0:H q=none:=s1.free nq
    refine ko ⟨n,st.kinds⟩ hstep _ ⟨q,p.ak,p.sg,p.sm,p.af⟩ ⟨⟨⟨dx,AI⟩,k1 _ _ hq (na hq fun _ _ _ z=>nomatch z),?_,k1 _ _ L2.sg (na L2.sg fun _ _ _ z=>nomatch z),k1 _ _ L2.sm (na L2.sm fun _ _ _ z=>nomatch z),k1 _ _ L2.af (na L2.af fun _ _ _ z=>nomatch z)⟩,L.wf,⟨?_,L.ap.2⟩,Nat.le_succ_of_le L.le⟩ ⟨rfl,rfl,rfl,rfl⟩ ?_
    ·obtain⟨as,hk,hp⟩:=L2.ks
     refine⟨as,k1 _ _ hk (na hk fun _ _ _ z=>nomatch z),Paired.mapP hp fun x y qq=>qq.same fun x o e _ _ _ n4=>k1 x o e fun z=>?_⟩
     rw[z,ho] at e
     cases e
     exact hne (n4 _ _ _ rfl)
    ·obtain⟨as,hk,_⟩:=L.at_.ks
     exact fun z=>by rw[show q=p.ak from z,hk] at nq0;cases nq0
    ·intro x o e n
     exact k1 x o (s12 x o e) fun z=>n (by simp[z])
  ·refine bF (decide_eq_false (BK (by omega))) ?_
   have hstep:BN st i b=(Co st.kinds b).map fun k=>⟨st.name,k⟩:=by
    unfold BN
    rw[if_neg h0]
   have hle:=L.le
   refine⟨_,rfl,la,b,rfl,hS,hlen,fun hk H1 s1=>?_,fun x hk H1 kp s1 nkp hKp=>?_⟩
   ·have hst:BN st i b=.error 1:=by rw[hstep];unfold Co;rw[hk];rfl
    refine⟨_,rfl,_,rfl,a,.non,p,_,_,fl,1,rfl,L.at_.mono s1,by rw[AG];omega,.inl ⟨rfl,rfl⟩,fun H2 s2=>?_⟩
    refine⟨_,rfl,rfl,_,rfl,bF (decide_eq_false (BK (by decide))) ?_⟩
    exact⟨_,rfl,ke 1 hst H2 (s1.trans s2)⟩
   ·refine⟨_,rfl,_,rfl,a,.ref kp,p,_,_,fl,_,rfl,L.at_.mono s1,by rw[AG];omega,.inr ⟨kp,zk x,rfl,hKp,rfl⟩,fun H2 s2=>?_⟩
    have s12:=s1.trans s2
    rw[WA L.wf x]
    cases hw:Ek st.kinds x with
    | some e =>
     have hst:BN st i b=.error e:=by rw[hstep];unfold Co;rw[hk];dsimp only;rw[hw];rfl
     have epos:e≠0:=by
      rw[Ha] at hw
      intro q
      subst q
      split at hw
      ·cases hw
      ·split at hw
       ·cases hw
       ·split at hw
        ·cases hw
        ·split at hw <;> cases hw
     refine⟨_,rfl,rfl,_,rfl,bF (decide_eq_false (BK (by show(e:Int)≠0;omega))) ?_⟩
     exact⟨_,rfl,ke e hst H2 s12⟩
    | none =>
     have hst:BN st i b=.ok ⟨st.name,st.kinds++[x]⟩:=by rw[hstep];unfold Co;rw[hk];dsimp only;rw[hw];rfl
     have hlz:DV (st.kinds.map zk) (zk x)=false:=by
      rw[Pb]
      rw[Ha] at hw
      cases hd:dup st.kinds x with
      | false=>rfl
      | true =>
       rw[hd] at hw
       split at hw
       ·cases hw
       ·rw[if_pos rfl] at hw;cases hw
     refine⟨_,rfl,rfl,_,rfl,bT (decide_eq_true rfl) ?_⟩
     refine⟨_,rfl,_,rfl,a,kp,p,_,_,fl,zk x,rfl,L.at_.mono s12,hKp.mono s2,L.ap,by rw[AG];omega,hlz,fun H3 L3 kb=>?_⟩
     refine⟨_,rfl,?_⟩
     have e1:(st.kinds++[x]).map zk=st.kinds.map zk++[zk x]:=CV
     refine ko _ hst H3 p ⟨by rw[e1];exact L3,L.wf.snoc (Wq hk) hw,L.ap,by rw[BO];simp;omega⟩ ⟨rfl,rfl,rfl,rfl⟩ ?_
     intro y o e n
     exact kb y o (s12 y o e) fun z=>n (by simp at z ⊢;exact .inr z)
end
end Fb
end
section
set_option maxRecDepth 100000
set_option maxHeartbeats 4000000
namespace L2
open PySem PySem.Spec PyProof.Rows
open PySem.W (CodeHd tabObj kla_obj kla_fn envX)
theorem Fun.okC {P:Program}{w:World}{K:AA}{mg:Str→Option Value}{base:Heap}{x qual:Str}{st:Stmt}{f c:Addr}{fd:FuncData}{N ps:List Str}{k:Nat}{sp:Sp} (F:Fun K x qual st f fd) (hc:fd.code=.ref c) (S:AY N ps (AK st)) (len:∀vs H Q E,sp vs H Q E→vs.length=ps.length)
  (hbody:∀(A:Around) (outer:List Env) (s:Shared) (H:Hp) (vs:List V) (Q:VK) (E:XK),Room k (A.deeper (envOfC qual (AK st) s.heap.objs.size f (.ref c)))→sp vs H Q E→
   ∃t,PSs (Di CX0 P w K mg base N qual (AK st) f (.ref c) A outer s H E).nox (Bm st) t∧t { nx:=fun _ H'=>Q .non H',rt:=Q } (start N vs) H):FnOk P w K mg base CX0 (k+1) f fd ps sp:=by
 obtain⟨oc,od,kV,doc,pm,an,cdv,ct,osl,rfl,lk,hcd⟩:=F.ex
 have e:cdv=.ref c:=hc
 subst e
 refine Oh lk hcd S len fun A outer s H vs Q E hr hsp=>?_
 obtain⟨t,h,q⟩:=hbody A outer s H vs Q E hr hsp
 exact⟨t,h.nox,q⟩
def Pc (st:Stmt):Expr:=match (Bm st).getD 1 (.Pass ⟨0,0,0,0⟩) with
 | .Assign _ (.Call _ [_,l] _ _) _=>l
 | _=>.Constant .none 0 ⟨0,0,0,0⟩
def Ft (e:Expr):Arguments:=match e with
 | .Lambda a _ _ _=>a
 | _=>{ posonlyargs:=[],args:=[],vararg:=none,kwonlyargs:=[],kw_defaults:=[],kwarg:=none,defaults:=[] }
def Fu (e:Expr):Expr:=match e with
 | .Lambda _ b _ _=>b
 | _=>e
def DE (e:Expr):Scope:=match e with
 | .Lambda _ _ sc _=>sc
 | _=>{ kind:=.function,names:=[],isGenerator:=false,isCoroutine:=false }
def BY (e:Expr):Pos:=match e with
 | .Lambda _ _ _ p=>p
 | _=>⟨0,0,0,0⟩
theorem TF {cs:List Addr}{H0 H:Hp} (h:∀c∈cs,H c=none):Same H (Cp cs H0 H):=fun b o e=>by
 rw[C2 fun m=>by rw[h b m] at e;cases e]
 exact e
def SameN (H H':Hp):Prop:=∀b o,H b=some o→(∀φ,o≠.ext φ)→H' b=some o
theorem G5 {cs:List Addr}{H:Hp} (p:Plain cs H):SameN H (hid cs H):=fun b o e n=>by
 rw[Ay (p.out e n)]
 exact e
end L2
namespace Fb
open PySem PySem.Spec PyProof.Rows L2
theorem KindAt.monoN {CK:Addr}{H H':Hp}{a:Addr}{z:ZK} (s:SameN H H') (h:KindAt CK H a z):KindAt CK H' a z:=by
 obtain⟨dx,lv,h1,h2⟩:=h
 refine⟨dx,lv,s _ _ h1 (fun _ q=>nomatch q),?_⟩
 cases hz:z.lab with
 | sign n =>
  rw[hz] at h2
  obtain⟨t,e,ht⟩:=h2
  exact⟨t,e,s _ _ ht (fun _ q=>nomatch q)⟩
 | same k=>rw[hz] at h2;exact h2
 | ans=>rw[hz] at h2;exact h2
theorem LockAt.monoN {CL CK:Addr}{H H':Hp}{a:Addr}{p:LA}{name:List Int}{kinds:List ZK}{fault:List Int} (s:SameN H H') (h:LockAt CL CK H a p name kinds fault):LockAt CL CK H' a p name kinds fault:=by
 obtain⟨⟨dx,h1⟩,h2,⟨as,h3,h4⟩,h5,h6,h7⟩:=h
 exact⟨⟨dx,s _ _ h1 (fun _ q=>nomatch q)⟩,s _ _ h2 (fun _ q=>nomatch q),⟨as,s _ _ h3 (fun _ q=>nomatch q),Paired.mapP h4 fun a z q=>q.monoN s⟩,s _ _ h5 (fun _ q=>nomatch q),s _ _ h6 (fun _ q=>nomatch q),s _ _ h7 (fun _ q=>nomatch q)⟩
abbrev Q0:Stmt:=Dj RS 0
def Si (CL:Addr):Sp:=fun vs H Q _=>∃(a dx:Addr),vs=[.ref a]∧H a=some (.ins CL dx [])∧
 ∀(H':Hp) (p:LA),H' a=some (.ins CL dx (lf p.an p.ak p.sg p.sm p.af))→H' p.an=some (.lst [])→H' p.ak=some (.lst [])→H' p.sg=some (.dT [])→H' p.sm=some (.dK [])→H' p.af=some (.lst [])→KW p→(∀b o,H b=some o→b≠a→H' b=some o)→(∀x∈[p.an,p.ak,p.sg,p.sm,p.af],H x=none)→Q .non H'
theorem Yd:AY ["self"] ["self"] (AK Q0):=⟨rfl,rfl,rfl,by decide +kernel,rfl,by decide +kernel,by decide +kernel⟩
section
variable {P:Program}{w:World}{K:AA}{mg:Str→Option Value}{base:Heap}{CL CK:Addr}
theorem ok_lockI {f:Addr}{fd:FuncData} (F:Fun K "__init__" "Locker.__init__" Q0 f fd) (T:LockC K CL):FnOk P w K mg base CX0 1 f fd ["self"] (Si CL):=by
 refine F.ok Yd (fun vs H Q E h=>?_) (fun cdv A outer s H vs Q E hr h=>?_)
 ·obtain⟨a,dx,rfl,_⟩:=h
  rfl
 ·obtain⟨a,dx,rfl,ha,k⟩:=h
  refine⟨_,AJ (BU (pv 0) (A7 AD) rfl) (AJ (BU (pv 0) (A7 AD) rfl) (AJ (BU (pv 0) Xk rfl) (AJ (BU (pv 0) QM rfl) (AH (BU (pv 0) (A7 AD) rfl))))),?_⟩
  have step:∀{H1:Hp} {fs:List (Str×V)} {q:Addr} {o:HO} {fs':List (Str×V)},H1 a=some (.ins CL dx fs)→H1 q=none→a≠q∧(upd (upd H1 q o) a (.ins CL dx fs')) a=some (.ins CL dx fs')∧(upd (upd H1 q o) a (.ins CL dx fs')) q=some o∧
    (upd H1 q o) a=some (.ins CL dx fs)∧(∀b u,H1 b=some u→b≠a→(upd (upd H1 q o) a (.ins CL dx fs')) b=some u):=fun {H1 fs q o fs'} h1 h2=>by
   have ne:a≠q:=Am h1 h2
   refine⟨ne,AI,by rw[AE (Ap ne),AI],by rw[AE ne];exact h1,fun b u e n=>?_⟩
   rw[AE n,AE (Am e h2)]
   exact e
  refine⟨A5 _,fun q1 n1=>?_⟩
  obtain⟨ne1,a1,b1,i1,k1⟩:=step (fs':=[("name",.ref q1)]) (o:=.lst []) ha n1
  refine⟨_,rfl,a,CL,dx,_,rfl,i1,T.cl,T.name,(by show 0 < 1000;decide),?_⟩
  refine⟨A5 _,fun q2 n2=>?_⟩
  obtain⟨ne2,a2,b2,i2,k2⟩:=step (fs':=[("name",.ref q1),("kinds",.ref q2)]) (o:=.lst []) a1 n2
  refine⟨_,rfl,a,CL,dx,_,rfl,i2,T.cl,T.kinds,(by show 1 < 1000;decide),?_⟩
  intro q3 n3
  obtain⟨ne3,a3,b3,i3,k3⟩:=step (fs':=[("name",.ref q1),("kinds",.ref q2),("signs",.ref q3)]) (o:=.dT []) a2 n3
  refine⟨_,rfl,a,CL,dx,_,rfl,i3,T.cl,T.signs,(by show 2 < 1000;decide),?_⟩
  intro q4 n4
  obtain⟨ne4,a4,b4,i4,k4⟩:=step (fs':=[("name",.ref q1),("kinds",.ref q2),("signs",.ref q3),("sames",.ref q4)]) (o:=.dK []) a3 n4
  refine⟨_,rfl,a,CL,dx,_,rfl,i4,T.cl,T.sames,(by show 3 < 1000;decide),?_⟩
  refine⟨A5 _,fun q5 n5=>?_⟩
  obtain⟨ne5,a5,b5,i5,k5⟩:=step (fs':=lf q1 q2 q3 q4 q5) (o:=.lst []) a4 n5
  refine⟨_,rfl,a,CL,dx,_,rfl,i5,T.cl,T.fault,(by show 4 < 1000;decide),?_⟩
  have c2:=k2 _ _ b1 (Ap ne1)
  have c3:=k3 _ _ c2 (Ap ne1)
  have c4:=k4 _ _ c3 (Ap ne1)
  have c5:=k5 _ _ c4 (Ap ne1)
  have d3:=k3 _ _ b2 (Ap ne2)
  have d4:=k4 _ _ d3 (Ap ne2)
  have d5:=k5 _ _ d4 (Ap ne2)
  have e4:=k4 _ _ b3 (Ap ne3)
  have e5:=k5 _ _ e4 (Ap ne3)
  have f5:=k5 _ _ b4 (Ap ne4)
  have kA:∀b u,H b=some u→b≠a→(upd (upd (upd (upd (upd (upd (upd (upd (upd (upd H q1 (.lst [])) a (.ins CL dx [("name",.ref q1)])) q2 (.lst [])) a (.ins CL dx [("name",.ref q1),("kinds",.ref q2)])) q3 (.dT [])) a (.ins CL dx [("name",.ref q1),("kinds",.ref q2),("signs",.ref q3)])) q4 (.dK [])) a
    (.ins CL dx [("name",.ref q1),("kinds",.ref q2),("signs",.ref q3),("sames",.ref q4)])) q5 (.lst [])) a (.ins CL dx (lf q1 q2 q3 q4 q5))) b=some u:=fun b u e n=>k5 _ _ (k4 _ _ (k3 _ _ (k2 _ _ (k1 _ _ e n) n) n) n) n
  have fr:∀{H1:Hp} {q:Addr},H1 q=none→(∀b u,H b=some u→b≠a→H1 b=some u)→a≠q→H q=none:=fun {H1 q} n k ne=>by
   cases z:H q with
   | none=>rfl
   | some u=>rw[k q u z (Ap ne)] at n;cases n
  refine k _ ⟨q1,q2,q3,q4,q5⟩ a5 c5 d5 e5 f5 b5 ⟨Am b1 n2,Ap (Am d4 n5)⟩ kA ?_
  intro x hx
  simp only[AS,De,or_false] at hx
  rcases hx with rfl | rfl | rfl | rfl | rfl
  ·exact n1
  ·exact fr n2 (fun b u e n=>k1 _ _ e n) ne2
  ·exact fr n3 (fun b u e n=>k2 _ _ (k1 _ _ e n) n) ne3
  ·exact fr n4 (fun b u e n=>k3 _ _ (k2 _ _ (k1 _ _ e n) n) n) ne4
  ·exact fr n5 (fun b u e n=>k4 _ _ (k3 _ _ (k2 _ _ (k1 _ _ e n) n) n) n) ne5
end
end Fb
end
section
set_option maxRecDepth 100000
set_option maxHeartbeats 4000000
namespace Fb
open PySem PySem.Spec PyProof.Rows L2
open PySem.W (CodeHd tabObj kla_obj kla_fn envX)
abbrev JI:Stmt:=R5
abbrev CA:Expr:=Pc JI
abbrev Ca:Str:="read_locker.<locals>.<lambda>"
def P7 (cell:Addr) (pm:Value) (c':Addr) (ctv:Value):Obj:=kla_obj "<lambda>" Ca (Ft CA) (Fu CA) (DE CA) [("locker",cell)] pm c' ctv
theorem frL:∀y∈(DE CA).names,y.2=EK→y.1∈(["locker"]:List Str):=by decide +kernel
theorem Yc (cell:Addr):IC ["number","line","locker"] ["number","line"] (DE CA) [("locker",cell)] :=
 ⟨rfl,rfl,rfl,by decide +kernel,rfl,by decide +kernel,by decide +kernel,rfl,fun x hx=>by
  have:x="locker":=A4.mp hx
  subst this
  decide +kernel,fun y hy=>frL _ (Bi hy) rfl,DA.mpr ⟨De,Jr⟩⟩
def Sg (K:AA) (CL CK f c' cell:Addr) (pm ctv:Value):Sp:=fun vs H Q _=>∃(i:Nat) (la a:Addr),vs=[.int (i:Nat),.ref la]∧H f=some (KO f (P7 cell pm c' ctv))∧CodeO H c' Ca∧CellV H cell (.ref a)∧
 JP K CL CK [.ref a,.int (i:Nat),.ref la] (hid [cell] H) (fun v H'=>H' cell=none→Q v (Cp [cell] H H')) E0
section
variable {P:Program}{w:World}{K:AA}{mg:Str→Option Value}{base:Heap}{CL CK:Addr}
theorem XX {f c' cell:Addr}{pm ctv:Value} (g:Has P w K mg "take_line_lockers" 6 ["locker","number","line"] (JP K CL CK)):
  FnOk P w K mg base CX0 7 f (kla_fn "<lambda>" Ca (Ft CA) (Fu CA) (DE CA) [("locker",cell)] pm (.ref c') ctv) ["number","line"] (Sg K CL CK f c' cell pm ctv):=by
 refine K9 (Yc cell) (fun vs H Q E h=>?_) (fun vs H Q E h=>?_)
 ·obtain⟨i,la,a,rfl,_⟩:=h
  rfl
 ·obtain⟨i,la,a,rfl,hf,hc,hv,hsp⟩:=h
  refine⟨hf,hc,[.ref a],.cons hv .nil,fun A outer s hr=>?_⟩
  refine⟨_,AN g hr (by rfl) (AB (pv 2) (AB (pv 0) (AB (pv 1) AD))),?_⟩
  refine⟨_,rfl,_,rfl,_,rfl,?_⟩
  obtain⟨a',la',p,st,fl,i',b,e,r1,r2,r3,r4,k1,k2⟩:=hsp
  refine⟨a',la',p,st,fl,i',b,e,r1,r2,r3,r4,fun k hk H' s' hn=>k1 k hk H' s' (hn _ (by simp)),fun s' hs H' p' q1 q2 q3 hn=>k2 s' hs H' p' q1 q2 q3 (hn _ (by simp))⟩
end
end Fb
end
section
set_option maxRecDepth 100000
set_option maxHeartbeats 4000000
namespace Fb
open PySem PySem.Spec PyProof.Rows L2
open PySem.W (CodeHd tabObj kla_obj kla_fn envX)
def SameT (H H':Hp):Prop:=∀b o,H b=some o→(∀ps,o≠.tbl ps)→H' b=some o
theorem Same.t {H H':Hp} (s:Same H H'):SameT H H':=fun b o e _=>s b o e
theorem SameT.trans {H H1 H2:Hp} (a:SameT H H1) (b:SameT H1 H2):SameT H H2:=fun c o e n=>b c o (a c o e n) n
theorem SameT.seq {K:AA}{H H':Hp}{a:Addr}{xs:List V} (e:SameT H H') (h:SqL K H a xs):SqL K H' a xs:=by
 rcases h with (h | ⟨o,h⟩) | h
 ·exact .inl (.inl (e _ _ h fun _ q=>nomatch q))
 ·exact .inl (.inr ⟨o,e _ _ h fun _ q=>nomatch q⟩)
 ·exact .inr h
theorem KY {H H':Hp}{c:Addr}{q:Str} (s:SameT H H') (h:CodeO H c q):CodeO H' c q:=by
 obtain⟨o,vs,t,e,d,r⟩:=h
 exact⟨o,vs,t,s _ _ e (fun _ z=>nomatch z),d,r⟩
theorem BR {H H':Hp}{Pt:Addr}{pos:Pos}{q:Str} (s:Same H H') (h:BF H Pt pos q):BF H' Pt pos q:=by
 rcases h with h | ⟨c',h,hc⟩
 ·exact .inl (s _ _ h)
 ·exact .inr ⟨c',s _ _ h,KY (Same.t s) hc⟩
theorem LockAt.monoT {CL CK:Addr}{H H':Hp}{a:Addr}{p:LA}{name:List Int}{kinds:List ZK}{fault:List Int} (s:SameT H H') (h:LockAt CL CK H a p name kinds fault):LockAt CL CK H' a p name kinds fault:=by
 obtain⟨⟨dx,h1⟩,h2,⟨as,h3,h4⟩,h5,h6,h7⟩:=h
 refine⟨⟨dx,s _ _ h1 (fun _ q=>nomatch q)⟩,s _ _ h2 (fun _ q=>nomatch q),⟨as,s _ _ h3 (fun _ q=>nomatch q),Paired.mapP h4 fun a z q=>?_⟩,s _ _ h5 (fun _ q=>nomatch q),s _ _ h6 (fun _ q=>nomatch q),s _ _ h7 (fun _ q=>nomatch q)⟩
 obtain⟨dz,lv,q1,q2⟩:=q
 refine⟨dz,lv,s _ _ q1 (fun _ q=>nomatch q),?_⟩
 cases hz:z.lab with
 | sign n =>
  rw[hz] at q2
  obtain⟨t,e,ht⟩:=q2
  exact⟨t,e,s _ _ ht (fun _ q=>nomatch q)⟩
 | same k=>rw[hz] at q2;exact q2
 | ans=>rw[hz] at q2;exact q2
theorem Y7 {s:LS}{i k:Nat}{b:Aj} (h:BN s i b=.error k):k≠0:=by
 unfold BN at h
 split at h
 ·split at h
  ·cases h;decide
  ·cases h
 ·unfold Co at h
  cases hk:Cf b with
  | none=>rw[hk] at h;cases h;decide
  | some x =>
   rw[hk] at h
   dsimp only at h
   cases hw:Ek s.kinds x with
   | none=>rw[hw] at h;cases h
   | some e =>
    rw[hw] at h
    have h:(CM e:Except Nat LS)=.error k:=h
    cases h
    rw[Ha] at hw
    intro q
    subst q
    split at hw
    ·cases hw
    ·split at hw
     ·cases hw
     ·split at hw
      ·cases hw
      ·split at hw <;> cases hw
theorem LockAt.fault {CL CK:Addr}{H H':Hp}{a q dx:Addr}{p:LA}{name:List Int}{kinds:List ZK}{fault fl:List Int} (hne:CL≠CK) (h:LockAt CL CK H a p name kinds fault) (hd:H a=some (.ins CL dx (lf p.an p.ak p.sg p.sm p.af))) (hq:H q=some (.lst (fl.map V.int)))
  (e:H'=upd H a (.ins CL dx (A9 "fault" (.ref q) (lf p.an p.ak p.sg p.sm p.af)))):LockAt CL CK H' a ⟨p.an,p.ak,p.sg,p.sm,q⟩ name kinds fl:=by
 subst e
 have na:∀{x:Addr} {o:HO},H x=some o→(∀C dx fs,o≠.ins C dx fs)→upd H a (.ins CL dx (A9 "fault" (.ref q) (lf p.an p.ak p.sg p.sm p.af))) x=some o:=fun {x o} e n=>by
  rw[AE (Bc e hd (n _ _ _))]
  exact e
 refine⟨⟨dx,AI⟩,na h.nm (fun _ _ _ z=>nomatch z),?_,na h.sg (fun _ _ _ z=>nomatch z),na h.sm (fun _ _ _ z=>nomatch z),na hq (fun _ _ _ z=>nomatch z)⟩
 obtain⟨as,hk,hp⟩:=h.ks
 refine⟨as,na hk (fun _ _ _ z=>nomatch z),Paired.mapP hp fun x y qq=>qq.same fun x o e _ _ _ n4=>?_⟩
 rw[AE]
 ·exact e
 ·intro z
  rw[z,hd] at e
  cases e
  exact hne (n4 _ _ _ rfl)
def Gr (t:Aj) (nm:List Int) (ks:List ZK) (fl:List Int):Prop:=match DZ t with
 | .error _=>fl≠[]
 | .ok L=>fl=[]∧nm=zs L.name∧ks=L.kinds.map zk∧Wf L.kinds
def Sr (K:AA) (CL CK Pt:Addr):Sp:=fun vs H Q _=>∃(a:Addr) (t:Aj),vs=[.ref a]∧SqL K H a ((zs t).map V.int)∧t.length < 80000∧BF H Pt (BY CA) Ca∧
 ∀(H':Hp) (x:Addr) (p:LA) (nm:List Int) (ks:List ZK) (fl:List Int),KeepBut [Pt] H H'→BF H' Pt (BY CA) Ca→LockAt CL CK H' x p nm ks fl→Gr t nm ks fl→Q (.ref x) H'
theorem scReadL:AY ["text","locker"] ["text"] (AK JI):=⟨rfl,rfl,rfl,by decide +kernel,rfl,by decide +kernel,by decide +kernel⟩
section
variable {P:Program}{w:World}{K:AA}{mg:Str→Option Value}{base:Heap}{CL CK Pt:Addr}
theorem ok_readL {f c:Addr}{fd:FuncData} (F:Fun K "read_locker" "read_locker" JI f fd) (hc:fd.code=.ref c) (C:CodeHd base c Pt) (hbm:EN mg base) (B:Blt mg) (hne:CL≠CK) (TL:LockC K CL) (c1:Cst mg "NO_SUCH_LINE" (.int 1)) (g0:EO P w K mg "Locker" CL 1 ["self"] (Si CL))
  (g1:Has P w K mg "first_fault" 9 ["text","take"] (Lz P w K mg 7)) (g2:Has P w K mg "take_line_lockers" 6 ["locker","number","line"] (JP K CL CK)) (g3:Has P w K mg "count_lines" 1 ["text"] (Ly K)):
  FnOk P w K mg base CX0 10 f fd ["text"] (Sr K CL CK Pt):=by
 refine F.okC hc scReadL (fun vs H Q E h=>?_) (fun A outer s H vs Q E hr h=>?_)
 ·obtain⟨a,t,rfl,_⟩:=h
  rfl
 ·obtain⟨a,t,rfl,hS,hlen,hT,k⟩:=h
  have hr2:Room 2 _:=hr.mono (by decide)
  have hr1:Room 1 _:=hr.mono (by decide)
  obtain⟨f1,fd1,h1,h2,h3,h4⟩:=g1
  refine⟨_,AJ (BB (i:=1) scReadL.nd rfl (Df rfl) (QO g0 hr2 (by rfl)))
   (AJ (BU (pv 1) (La (h4 base) hr (by rfl) h1 h2 h3 (fun _=>rfl) (by show(["locker"]:List Str).Nodup;decide) (AB (pv 0) (AB (Ld (clos:=[("locker",s.heap.objs.size+1)]) (qual:=Ca) rfl C hbm (by rfl) (by rfl) (by rfl)) AD))) rfl)
   (AJ (Al (PW.pt (Dr (Ac (EZ hr.units) (Ak (pv 1) rfl) (A7 AD) (AR _)) (Ef (Ac BZ (Av Kk (by rfl) B.len BW (AB (Ak (pv 1) rfl) AD)) AO (AR _)))))
    (AH (BU (pv 1) (A7 (AB (AW c1 rfl) (AB (AN g3 hr1 (by rfl) (AB (pv 0) AD)) AD))) rfl)) An)
   (AH (AL (pv 1))))),?_⟩
  intro x dx nx ndx nex
  refine⟨x,dx,rfl,AI,fun H1 p hx1 han hak hsg hsm haf hap kp hfr=>⟨rfl,?_⟩⟩
  have s1:Same H H1:=Same.made nx ndx kp
  have fr:∀q∈[p.an,p.ak,p.sg,p.sm,p.af],H q=none:=fun q hq=>by
   have:=hfr q hq
   cases z:H q with
   | none=>rfl
   | some u =>
    have e1:q≠x:=Am z nx
    have e2:q≠dx:=Am z ndx
    rw[AE e1,AE e2,z] at this
    cases this
  have hx1':LockAt CL CK H1 x p [] [] []:=⟨⟨dx,hx1⟩,han,⟨[],hak,.nil⟩,hsg,hsm,haf⟩
  refine⟨_,rfl,BR s1 hT,fun H2 fL c' pm ctv kp2 nf hf hPt hco=>?_⟩
  intro H3 ho3 hn3 hcell
  have ho3:∀b,b∉[s.heap.objs.size+1]→H3 b=H2 b:=ho3
  have hn3:∀b∈[s.heap.objs.size+1],H2 b=none:=hn3
  have hcv:CellV H3 (s.heap.objs.size+1) (.ref x):=hcell 1 "locker" (.ref x) (s.heap.objs.size+1) rfl rfl rfl rfl
  clear hcell
  generalize hcl:s.heap.objs.size+1=cell at hf ho3 hn3 hcv
  have nc2:H2 cell=none:=hn3 cell (AU ..)
  have s23:Same H2 H3:=fun b o e=>by
   rw[ho3 b fun m=>by rw[A4.mp m,nc2] at e;cases e]
   exact e
  have hTb:∃ps,H1 Pt=some (.tbl ps):=by
   rcases BR s1 hT with e | ⟨c2,e,_⟩
   ·exact⟨_,e⟩
   ·exact⟨_,e⟩
  obtain⟨ps1,hPt1⟩:=hTb
  have s12:SameT H1 H2:=fun b o e n=>kp2 b o e fun z=>by rw[z,hPt1] at e;cases e;exact n _ rfl
  have s13:SameT H1 H3:=s12.trans (Same.t s23)
  have L3:LockAt CL CK H3 x p [] [] []:=hx1'.monoT s13
  have hS3:SqL K H3 a ((zs t).map V.int):=s13.seq (s1.seq hS)
  have hf3:=s23 _ _ hf
  have hPt3:=s23 _ _ hPt
  have hco3:CodeO H3 c' Ca:=KY (Same.t s23) hco
  obtain⟨dx3,hx3⟩:=L3.ob
  obtain⟨as3,hak3,_⟩:=L3.ks
  have out:∀{b:Addr} {o:HO},H3 b=some o→(∀C d fs,o≠.ins C d fs)→(∀xs,o≠.lst xs)→(∀xs,o≠.dT xs)→(∀xs,o≠.dK xs)→b∉[x,p.ak,p.sg,p.sm]:=fun {b o} e n1 n2 n3 n4 m=>by
   simp only[AS,De,or_false] at m
   rcases m with rfl | rfl | rfl | rfl
   ·rw[hx3] at e;cases e;exact n1 _ _ _ rfl
   ·rw[hak3] at e;cases e;exact n2 _ rfl
   ·rw[L3.sg] at e;cases e;exact n3 _ rfl
   ·rw[L3.sm] at e;cases e;exact n4 _ rfl
  have ourN:∀b∈[x,p.ak,p.sg,p.sm],H b=none∧H3 b≠none:=fun b m=>by
   simp only[AS,De,or_false] at m
   rcases m with rfl | rfl | rfl | rfl
   ·exact⟨nx,by rw[hx3];simp⟩
   ·exact⟨fr _ (by simp),by rw[hak3];simp⟩
   ·exact⟨fr _ (by simp),by rw[L3.sg];simp⟩
   ·exact⟨fr _ (by simp),by rw[L3.sm];simp⟩
  have hcut:Ai 10 (zs t)=(Ad t).map zs++[zs (Bd t)]:=by rw[Ks,Gy,CV];rfl
  have hfl:(Ad t).length≤t.length:=by
   have:=Fl 10 (zs t)
   rw[hcut,BO,AG,Aw] at this
   simp at this
   omega
  have part:∀y∈Ad t,y.length < 100000:=fun y hy=>by
   have:=EA 10 (zs t) (zs y) (by rw[hcut];exact Hl _ (BP.mpr ⟨y,hy,rfl⟩))
   rw[Aw,Aw] at this
   omega
  let J:Nat→Hp→Prop:=fun i H'=>∃(p':LA) (st:LS),Eg BN ⟨[],[]⟩ (Ad t) i st∧LockS CL CK H' x p' st [] i∧Nq p p'∧KeepBut [x,p.ak,p.sg,p.sm] H3 H'
  have Jf:∀{i H'},J i H'→H' fL=some (KO fL (P7 cell pm c' ctv)):=fun ⟨_,_,_,_,_,kb⟩=>kb _ _ hf3 (out hf3 (fun _ _ _ q=>nomatch q) (fun _ q=>nomatch q) (fun _ q=>nomatch q) (fun _ q=>nomatch q))
  have Jc:∀{i H'},J i H'→CodeO H' c' Ca:=fun ⟨_,_,_,_,_,kb⟩=>by
   obtain⟨o,vs,tt,e,d,r⟩:=hco3
   exact⟨o,vs,tt,kb _ _ e (out e (fun _ _ _ q=>nomatch q) (fun _ q=>nomatch q) (fun _ q=>nomatch q) (fun _ q=>nomatch q)),d,r⟩
  have Jl:∀{i H'},J i H'→H' cell=H3 cell:=fun ⟨_,_,_,_,_,kb⟩=>by
   obtain⟨o,u,e,_⟩:=hcv
   rw[kb _ _ e (out e (fun _ _ _ q=>nomatch q) (fun _ q=>nomatch q) (fun _ q=>nomatch q) (fun _ q=>nomatch q)),e]
  have Jp:∀{i H'},J i H'→H' Pt=some (.tbl #[rawInt (BY CA).line,rawInt (BY CA).col,.ref c']):=fun ⟨_,_,_,_,_,kb⟩=>kb _ _ hPt3 (out hPt3 (fun _ _ _ q=>nomatch q) (fun _ q=>nomatch q) (fun _ q=>nomatch q) (fun _ q=>nomatch q))
  have Jm:∀i H1 H2,J i H1→Same H1 H2→J i H2:=fun i H1 H2 ⟨p',st,h1,h2,h3,h4⟩ ss=>⟨p',st,h1,h2.mono ss,h3,h4.trans (KeepBut.of ss)⟩
  have TC:Kc P w K mg 7 H3 fL ((Ad t).map zs) J (rAt BN ⟨[],[]⟩ (Ad t)):=by
   refine⟨⟨p,⟨[],[]⟩,S1,⟨L3,Wf.nil,hap,AV _⟩,⟨rfl,rfl,rfl,rfl⟩,fun b o e _=>e⟩,Jm,fun i H' j=>⟨_,_,Jf j,rfl⟩,_,Sg K CL CK fL c' cell pm ctv,fun base=>XX g2,.all (fun us hl=>match us,hl with | [_,_],_=>rfl),?_⟩
   intro i la ln H4 Q1 hln hJ nla hla hq
   have hf4:=Jf hJ
   have hc4:=Jc hJ
   have hl4:=Jl hJ
   obtain⟨p',st,hst,LS4,hsl,kb⟩:=id hJ
   rw[Ah] at hln
   cases hb:(Ad t)[i]? with
   | none=>rw[hb] at hln;cases hln
   | some b =>
   rw[hb] at hln
   have eb:zs b=ln:=Ae hln
   subst eb
   have hi:i < (Ad t).length:=(Bf.mp hb).1
   have hR:=JA (step:=BN) hst hb
   have hcv4:CellV H4 cell (.ref x):=by
    obtain⟨o,u,e,r,r2⟩:=hcv
    exact⟨o,u,by rw[hl4];exact e,r,r2⟩
   have plain:Plain [cell] H4:=fun y hy u e=>by
    obtain⟨o,_,q,_⟩:=hcv4
    rw[A4.mp hy,q] at e
    cases e
    exact⟨_,rfl⟩
   have sN:=G5 plain
   refine⟨i,la,x,rfl,hf4,hc4,hcv4,x,la,p',st,[],i,b,rfl,⟨LS4.at_.monoN sN,LS4.wf,LS4.ap,LS4.le⟩,by omega,SqL.of (sN _ _ hla fun _ q=>nomatch q),part b (CN hb),fun kk hk H' s' hn=>?_,fun st' hs H' p'' q1 q2 q3 hn=>?_⟩
   ·rw[hk] at hR
    have hR:rAt BN ⟨[],[]⟩ (Ad t) i=(kk:Int):=hR
    have su:Same H4 (Cp [cell] H4 H'):=fun y o e=>by
     by_cases m:y∈[cell]
     ·rw[GN m];exact e
     ·rw[C2 m];exact s' y o (by rw[Ay m];exact e)
    have kpos:=Y7 hk
    rw[← hR]
    refine hq _ (fun y o _ e=>su y o e) (fun z=>?_) fun _=>Jm i _ _ hJ su
    rw[hR] at z
    exact absurd (show kk=0 by omega) kpos
   ·rw[hs] at hR
    have hR:rAt BN ⟨[],[]⟩ (Ad t) i=0:=hR
    have su:Same H' (Cp [cell] H4 H'):=TF fun y hy=>by rw[A4.mp hy];exact hn
    have ku:KeepBut [x,p.ak,p.sg,p.sm] H4 (Cp [cell] H4 H'):=fun y o e n=>by
     by_cases m:y∈[cell]
     ·rw[GN m];exact e
     ·rw[C2 m]
      refine q3 y o (by rw[Ay m];exact e) ?_
      rw[hsl.1,hsl.2.1,hsl.2.2.1]
      exact n
    rw[← hR]
    refine hq _ (fun y o n e=>ku y o e fun m=>(ourN y m).2 n) (fun _=>⟨p'',st',S0 hst hb hs,q1.mono su,?_,kb.trans ku⟩) fun z=>absurd hR z
    obtain⟨w1,w2,w3,w4⟩:=q2
    obtain⟨v1,v2,v3,v4⟩:=hsl
    exact⟨w1.trans v1,w2.trans v2,w3.trans v3,w4.trans v4⟩
  refine⟨a,fL,zs t,(Ad t).map zs,zs (Bd t),J,rAt BN ⟨[],[]⟩ (Ad t),rfl,hS3,by rw[Aw];omega,hcut,TC,fun H0 pR j res hJ0 np0 hTold=>?_⟩
  have hJ:=Jm j _ _ hJ0 ((Same.refl H0).new (o:=.lst (res.map V.int)) np0)
  have hpR:upd H0 pR (.lst (res.map V.int)) pR=some (.lst (res.map V.int)):=AI
  generalize upd H0 pR (.lst (res.map V.int))=H' at hJ hpR ⊢
  have hl':=Jl hJ
  have hP':=Jp hJ
  have hc':=Jc hJ
  obtain⟨p',st,hst,LS',hsl,kb⟩:=id hJ
  refine⟨fun c2 hc2=>by
   have:c2=s.heap.objs.size+1:=A4.mp hc2
   rw[this,hcl];exact hl',?_⟩
  show Eh 1 _ _ _
  have ecs:BX ((Di CX0 P w K mg base ["text","locker"] "read_locker" (AK JI) f (A0 c) A outer s H E).nox)=[cell]:=by rw[← hcl];rfl
  rw[ecs]
  have plain:Plain [cell] H':=fun y hy u e=>by
   obtain⟨o,_,q,_⟩:=hcv
   rw[A4.mp hy,hl',q] at e
   cases e
   exact⟨_,rfl⟩
  have sN:=G5 plain
  have Lh:=LS'.at_.monoN sN
  obtain⟨dx4,hx4⟩:=Lh.ob
  have hpR4:=sN _ _ hpR fun _ q=>nomatch q
  have kpH:KeepBut [Pt] H (hid [cell] H'):=fun b o e n=>by
   have n:b≠Pt:=fun z=>n (by simp[z])
   have e2:=kp2 b o (s1 b o e) n
   have nb:b∉[cell]:=fun m=>by rw[A4.mp m,nc2] at e2;cases e2
   rw[Ay nb]
   exact kb b o (s23 b o e2) fun m=>by rw[(ourN b m).1] at e;cases e
  have tabH:BF (hid [cell] H') Pt (BY CA) Ca:=by
   refine .inr ⟨c',sN _ _ hP' (fun _ q=>nomatch q),?_⟩
   obtain⟨o,vs,tt,e,d,r⟩:=hc'
   have:c'∉[cell]:=fun m=>by
    obtain⟨o2,_,_,e2,_⟩:=hco
    rw[A4.mp m,nc2] at e2
    cases e2
   exact⟨o,vs,tt,by rw[Ay this];exact e,d,r⟩
  have hSh:SqL K (hid [cell] H') a ((zs t).map V.int):=by
   rcases hS with (h | ⟨o,h⟩) | h
   ·exact .inl (.inl (kpH _ _ h fun m=>by
     have hT':=hT
     rw[A4.mp m] at h
     rcases hT' with q | ⟨_,q,_⟩ <;> (rw[h] at q;cases q)))
   ·exact .inl (.inr ⟨o,kpH _ _ h fun m=>by
     have hT':=hT
     rw[A4.mp m] at h
     rcases hT' with q | ⟨_,q,_⟩ <;> (rw[h] at q;cases q)⟩)
   ·exact .inr h
  generalize hid [cell] H'=Hh at Lh hx4 hpR4 kpH tabH hSh ⊢
  refine⟨_,rfl,x,CL,dx4,_,rfl,hx4,TL.cl,TL.fault,(by show 5 < 1000;decide),?_⟩
  have L5:=Lh.fault (fl:=res) hne hx4 hpR4 rfl
  have nxP:x≠Pt:=fun z=>by
   rcases tabH with q | ⟨_,q,_⟩ <;> (rw[← z,hx4] at q;cases q)
  have kp5:KeepBut [Pt] H (upd Hh x (.ins CL dx4 (A9 "fault" (V.ref pR) (lf p'.an p'.ak p'.sg p'.sm p'.af)))):=fun b o e n=>by
   rw[AE (Am e nx)]
   exact kpH b o e n
  have tab_upd:∀{G:Hp} {o:HO},BF G Pt (BY CA) Ca→(∃d fs,G x=some (.ins CL d fs))→BF (upd G x o) Pt (BY CA) Ca:=fun {G o} h hx=>by
   obtain⟨d,fs,hx⟩:=hx
   rcases h with q | ⟨c2,q,o2,vs,tt,e,r⟩
   ·exact .inl (by rw[AE (Ap nxP)];exact q)
   ·exact .inr ⟨c2,by rw[AE (Ap nxP)];exact q,o2,vs,tt,by rw[AE (Bc e hx (by intro z;cases z))];exact e,r⟩
  have tab5:=tab_upd (o:=.ins CL dx4 (A9 "fault" (V.ref pR) (lf p'.an p'.ak p'.sg p'.sm p'.af))) tabH ⟨_,_,hx4⟩
  have hS5:SqL K (upd Hh x (.ins CL dx4 (A9 "fault" (V.ref pR) (lf p'.an p'.ak p'.sg p'.sm p'.af)))) a ((zs t).map V.int):=by
   rcases hSh with (h | ⟨o,h⟩) | h
   ·exact .inl (.inl (by rw[AE (Bc h hx4 (by intro z;cases z))];exact h))
   ·exact .inl (.inr ⟨o,by rw[AE (Bc h hx4 (by intro z;cases z))];exact h⟩)
   ·exact .inr h
  generalize upd Hh x (.ins CL dx4 (A9 "fault" (V.ref pR) (lf p'.an p'.ak p'.sg p'.sm p'.af)))=H5 at L5 kp5 tab5 hS5 ⊢
  obtain⟨dx5,hx5⟩:=L5.ob
  refine⟨_,rfl,x,CL,dx5,_,_,rfl,hx5,TL.cl,TL.fault,Ph (p:=⟨p'.an,p'.ak,p'.sg,p'.sm,pR⟩),A5 _,fun l nl=>?_⟩
  have s56:Same H5 (upd H5 l (.lst [])):=(Same.refl H5).new nl
  have L6:=L5.mono s56
  have kp6:KeepBut [Pt] H (upd H5 l (.lst [])):=kp5.trans (KeepBut.of s56)
  have tab6:=BR s56 tab5
  have hS6:=s56.seq hS5
  refine⟨_,_,A6 (SqL.of L6.af),A6 (ns:=[]) (SqL.of AI),A3 _,A3 _,?_⟩
  rw[CQ]
  generalize upd H5 l (.lst [])=H6 at L6 kp6 tab6 hS6 ⊢
  obtain⟨dx6,hx6⟩:=L6.ob
  refine⟨_,rfl,?_⟩
  have jud:=Wg t
  by_cases hres:res=[]
  ·refine bT (decide_eq_true hres) ?_
   subst hres
   have hj:j=((Ad t).map zs).length∧zs (Bd t)=[]:=by
    rcases hTold with ⟨_,_,_,q⟩ | ⟨q1,_,q2⟩
    ·cases q
    ·refine⟨q1,?_⟩
     by_cases z:zs (Bd t)=[]
     ·exact z
     ·rw[if_neg z] at q2;cases q2
   have hr0:Bd t=[]:=zs_nil.mp hj.2
   have hjn:j=(Ad t).length:=by rw[hj.1,AG]
   subst hjn
   rw[JF hst] at jud
   refine⟨_,rfl,x,CL,dx6,_,_,rfl,hx6,TL.cl,TL.signs,Fy (p:=⟨p'.an,p'.ak,p'.sg,p'.sm,pR⟩),p'.sg,_,rfl,L6.sg,rfl,_,rfl,?_⟩
   rw[HU]
   have hz:EC (st.kinds.map zk)=0↔st.kinds.all (fun k=>!k.isSign)=true:=by
    rw[Lw,Jn,Mi,Cg]
    exact⟨fun h y hy=>by have:=h y hy;cases q:y.isSign with | false=>rfl | true=>exact absurd q this,fun h y hy q=>by have:=h y hy;rw[q] at this;cases this⟩
   by_cases h0:EC (st.kinds.map zk)=0
   ·refine bT (decide_eq_true (by rw[h0];rfl)) ?_
    refine⟨_,rfl,a,zs t,rfl,hS6,fun H7 s7=>⟨(show 2≤sizeLine from CC (by decide)),fun l2 nl2=>?_⟩⟩
    have s78:Same H7 (upd H7 l2 (.lst [.int 1,.int ((zs t).count 10:Nat)])):=(Same.refl H7).new nl2
    have s68:=s7.trans s78
    have L8:=L6.mono s68
    have hl8:upd H7 l2 (.lst [.int 1,.int ((zs t).count 10:Nat)]) l2=some (.lst (([1,(((zs t).count 10:Nat):Int)]:List Int).map V.int)):=AI
    have hx8:=s68 _ _ hx6
    have kp8:=kp6.trans (KeepBut.of (xs:=[Pt]) s68)
    have tab8:=BR s68 tab6
    generalize upd H7 l2 (.lst [.int 1,.int ((zs t).count 10:Nat)])=H8 at L8 hl8 hx8 kp8 tab8 ⊢
    refine⟨_,rfl,x,CL,dx6,_,rfl,hx8,TL.cl,TL.fault,(by show 5 < 1000;decide),?_⟩
    have L9:=L8.fault (p:=⟨p'.an,p'.ak,p'.sg,p'.sm,pR⟩) hne hx8 hl8 rfl
    refine⟨_,rfl,k _ x _ _ _ _ (fun b o e n=>?_) (tab_upd tab8 ⟨_,_,hx8⟩) L9 ?_⟩
    ·rw[AE (Am e nx)]
     exact kp8 b o e n
    ·unfold Gr
     rw[jud]
     show match D6 (Bd t) (Ad t).length st with
      | .error _=>_
      | .ok L=>_
     unfold D6
     rw[if_pos (.inr (hz.mp h0))]
     simp
   ·refine bF (decide_eq_false (BK (by omega))) ?_
    refine⟨_,rfl,k _ x _ _ _ _ kp6 tab6 L6 ?_⟩
    unfold Gr
    rw[jud]
    show match D6 (Bd t) (Ad t).length st with
     | .error _=>_
     | .ok L=>_
    unfold D6
    rw[if_neg (by rintro(q | q);exact q hr0;exact h0 (hz.mpr q))]
    exact⟨rfl,rfl,rfl,LS'.wf⟩
  ·refine bF (decide_eq_false hres) ?_
   refine bF rfl ?_
   refine⟨_,rfl,k _ x _ _ _ _ kp6 tab6 L6 ?_⟩
   unfold Gr
   rw[jud]
   rcases hTold with ⟨q1,_,q3,_⟩ | ⟨q1,_,q2⟩
   ·rw[AG] at q1
    obtain⟨b,hb⟩:∃b,(Ad t)[j]?=some b:=⟨_,BD q1⟩
    have hR:=JA (step:=BN) hst hb
    cases hs:BN st j b with
    | ok s2=>rw[hs] at hR;exact absurd hR q3
    | error kk =>
     rw[Qj hst hb hs]
     exact hres
   ·rw[AG] at q1
    subst q1
    rw[JF hst]
    show match D6 (Bd t) (Ad t).length st with
     | .error _=>_
     | .ok L=>_
    unfold D6
    rw[if_pos (.inl fun z=>hres (by rw[q2,if_pos (zs_nil.mpr z)]))]
    exact hres
end
end Fb
end
section
set_option maxRecDepth 100000
set_option maxHeartbeats 4000000
namespace Fb
open PySem PySem.Spec PyProof.Rows L2
open PySem.AutoSeq1 (wpAny_loadPart')
def eqL (H:Hp) (lx:List Int) (u:Value):Bool:=match u with
 | .ref a=>(match H a with
  | some (.lst xs)=>decide (xs=lx.map V.int)
  | _=>false)
 | _=>false
theorem TV:∀{a b:List Int},a.map V.int=b.map V.int→a=b
 | [],[],_=>rfl
 | [],_::_,h=>by simp at h
 | _::_,[],h=>by simp at h
 | x::a,y::b,h=>by
  rw[Au,Au] at h
  obtain⟨h1,h2⟩:=Em h
  rw[JT h1,TV h2]
theorem OS {H:Hp}{lx ps:List Int}{a:Addr} (h:H a=some (.lst (ps.map V.int))):eqL H lx (.ref a)=decide (ps=lx):=by
 unfold eqL
 dsimp only
 rw[h]
 exact By ⟨TV,fun e=>by rw[e]⟩
theorem Nu {H:Hp}{lx:List Int}:∀{as:List Addr}{pss:List (List Int)}{us:List Value},Paired (fun a ps=>H a=some (.lst (ps.map V.int))) as pss→Vals (as.map V.ref) us→us.any (eqL H lx)=pss.any fun ps=>decide (ps=lx)
 | _,_,us,.nil,r=>by
  rw[FQ] at r
  cases r
  rfl
 | _,_,us,.cons h t,r=>by
  rw[Au] at r
  cases r with
  | cons r1 r2 =>
   cases r1
   rw[DL,DL,OS h,Nu t r2]
theorem Px:∀{as:List Addr}{us:List Value},Vals (as.map V.ref) us→∀u∈us,∃a∈as,u=.ref a
 | [],_,r=>fun u hu=>by
  rw[FQ] at r
  cases r
  cases hu
 | a::as,_,r=>fun u hu=>by
  rw[Au] at r
  cases r with
  | cons r1 r2 =>
   cases r1
   rcases AS.mp hu with e | hu
   ·exact⟨a,AU,e⟩
   ·obtain⟨b,hb,e⟩:=Px r2 u hu
    exact⟨b,Ao _ hb,e⟩
def X8:R2:=fun x y H Q=>∃(b p:Addr) (as:List Addr) (pss:List (List Int)) (lx:List Int),x=.ref b∧H b=some (.lst (lx.map V.int))∧y=.ref p∧H p=some (.lst (as.map V.ref))∧Paired (fun a ps=>H a=some (.lst (ps.map V.int))) as pss∧Q (.bl (!(pss.any fun ps=>decide (ps=lx)))) H
theorem Xd {X:Cx} (hu:X.A.units+70 < cLine):OpR X (compareOp .NotIn) X8:=by
 intro pins s σ H x y v u Q I rx ry h
 obtain⟨b,p,as,pss,lx,rfl,hb,rfl,hp,hpa,q⟩:=h
 cases rx
 cases ry
 obtain⟨its,r,pl,hz⟩:=I.list (SqL.of hp)
 obtain⟨bs,rb⟩:=Dp.reads I _ (.ref b) (.ref b) (A6 (SqL.of hb)) rfl
 refine SeqAt.notIn_listAt (eqL H lx) pl.isList (fun w hw=>?_) ⟨.bl _,H,I,rfl,?_⟩
 ·obtain⟨a,ha,rfl⟩:=Px r w (by simpa using hw)
  obtain⟨ps,_,hps⟩:=LZ hpa ha
  obtain⟨cs,ra⟩:=Dp.reads I _ (.ref a) (.ref a) (A6 (SqL.of hps)) rfl
  rw[OS hps,← CQ]
  exact Uk _ _ _ _ _ _ _ _ ra rb (KC (A3 _)) (KC (A3 _)) (Ul (A3 _) (by show X.A.units+1+64 < cLine;omega))
 ·rw[show its.toArray.any (eqL H lx)=its.any (eqL H lx) by simp,Nu hpa r]
  exact q
def Ni (A:Around) (s:Shared) (x y:Value) (r:Bool):Prop:=∀(prog:Program) (w:World) (E:Value→Shared→Prop) (Q:Value→Shared→Prop),Q (.bool r) s→wpAny (model prog w) A (richCompare .Gt x y) Q E s
theorem Zg (l b:Addr) (u0 u1 w0 w1:Value) (n n2:Nat) (d1 d2:Option Addr) (c1 c2:Array (Option Value)) (e0 e1 r0 r1:Bool):Meets (Builtin.«tuple.__gt__» ⟨[.ref l,.ref b],[]⟩)
  (fun A R s=>s.heap.get? l=some { cls:=.type "tuple",dict:=d1,data:=.seq #[u0,u1] n,slots:=c1 }∧s.heap.get? b=some { cls:=.type "tuple",dict:=d2,data:=.seq #[w0,w1] n2,slots:=c2 }∧
   Bv A.in1 s u0 w0 e0∧Bv A.in1 s u1 w1 e1∧(e0=false→Ni A.in1 s u0 w0 r0)∧(e1=false→Ni A.in1 s u1 w1 r1)∧R (.ok (.ret (.bool (if e0=true then (if e1=true then false else r1) else r0)))) s) :=
 .of_wp fun prog w A R s h=>by
  obtain⟨hp,g,d,tk,os⟩:=s
  obtain⟨hl,hb,q0,q1,k0,k1,h⟩:=h
  have f2:=AutoSeq1.sub_tuple_tuple
  wp_walk using Bw hl,Bw hb,wpAny_forIn_list _ (fun rest b s'=>b.1=none∧s'=⟨hp,g,d,tk,os⟩∧(rest=[(u0,w0),(u1,w1)]∨(e0=true∧rest=[(u1,w1)])∨(e0=true∧e1=true∧rest=[]))) _
  case turn =>
   rintro⟨y,x⟩ rest b s' ⟨hb',rfl,hz⟩
   rcases hz with hz | ⟨z,hz⟩ | ⟨_,_,hz⟩
   ·injection hz with hy hrest
    injection hy with hy hx
    subst hy hx hrest
    refine AF (q0 prog w _ _ ?_)
    cases e0 with
    | true =>
     wp_walk
     exact⟨rfl,rfl,.inr (.inl ⟨rfl,rfl⟩)⟩
    | false =>
     have k0:=k0 rfl prog w
     wp_walk using k0
     exact⟨_,rfl,h⟩
   ·injection hz with hy hrest
    injection hy with hy hx
    subst hy hx hrest
    refine AF (q1 prog w _ _ ?_)
    cases e1 with
    | true =>
     wp_walk
     exact⟨rfl,rfl,.inr (.inr ⟨z,rfl,rfl⟩)⟩
    | false =>
     have k1:=k1 rfl prog w
     rw[z] at h
     wp_walk using k1
     exact⟨_,rfl,h⟩
   ·cases hz
  case fin =>
   rintro⟨b1,b2⟩ s' ⟨hb',rfl,hz⟩
   simp only at hb'
   subst hb'
   rcases hz with hz | ⟨z,hz⟩ | ⟨z,z2,hz⟩
   ·cases hz
   ·cases hz
   ·rw[z,z2] at h
    wp_walk
    exact⟨_,rfl,h⟩
  case h =>
   exact⟨rfl,rfl,.inl rfl⟩
def X6 (K:AA):R2:=fun x y H Q=>∃(a b:Addr) (n m:Int) (c d:Addr) (ns ms:List Int),x=.ref a∧y=.ref b∧H a=some (.tup [.int n,.ref c])∧H b=some (.tup [.int m,.ref d])∧SqL K H c (ns.map V.int)∧SqL K H d (ms.map V.int)∧Q (.bl (if n≠m then decide (m < n) else HT.lexLt ms ns)) H
theorem Pg:∀(l:List Int),HT.lexLt l l=false
 | []=>rfl
 | a::l=>by rw[HT.lexLt_cons,if_pos rfl];exact Pg l
theorem O3 (n m:Int) (ns ms:List Int):(if decide (n=m)=true then (if decide (ns=ms)=true then false else HT.lexLt ms ns) else decide (m < n))=(if n≠m then decide (m < n) else HT.lexLt ms ns):=by
 by_cases h1:n=m
 ·rw[if_pos (decide_eq_true h1),if_neg (show ¬n≠m from fun z=>z h1)]
  by_cases h2:ns=ms
  ·rw[if_pos (decide_eq_true h2),h2,Pg]
  ·rw[if_neg (show ¬decide (ns=ms)=true by rw[decide_eq_false h2];decide)]
 ·rw[if_neg (show ¬decide (n=m)=true by rw[decide_eq_false h1];decide),if_pos h1]
theorem Xa {X:Cx} (hu:X.A.units+70 < cLine):OpR X (compareOp .Gt) (X6 X.K):=by
 intro pins s σ H x y v u Q I rx ry h
 obtain⟨a,b,n,m,c,d,ns,ms,rfl,rfl,ha,hb,hc,hd,q⟩:=h
 cases rx
 cases ry
 obtain⟨its,r1,⟨⟨k1,f1,t1,l1⟩,o1,g1,n1,z1⟩,_⟩:=I.tuple (SqT.of ha)
 obtain⟨its2,r2,⟨⟨k2,f2,t2,l2⟩,o2,g2,n2,z2⟩,_⟩:=I.tuple (SqT.of hb)
 simp only at g1 g2 z1 z2
 subst g1 g2 z1 z2
 cases r1 with
 | cons p1 r1 =>
 cases r1 with
 | cons p2 r1 =>
 cases r1
 cases r2 with
 | cons p3 r2 =>
 cases r2 with
 | cons p4 r2 =>
 cases r2
 obtain⟨tn,rfl⟩:=p1
 obtain⟨tm,rfl⟩:=p3
 cases p2
 cases p4
 obtain⟨cs,rc⟩:=Dp.reads I _ (.ref c) (.ref c) (A6 hc) rfl
 obtain⟨ds,rd⟩:=Dp.reads I _ (.ref d) (.ref d) (A6 hd) rfl
 obtain⟨itc,rcv,⟨⟨k3,f3,t3,l3⟩,n3,o3,g3,_,z3⟩,_⟩:=I.list hc
 obtain⟨itd,rdv,⟨⟨k4,f4,t4,l4⟩,n4,o4,g4,_,z4⟩,_⟩:=I.list hd
 simp only at g3 g4 z3 z4
 subst g3 g4 z3 z4
 have q0:Bv X.A.in1 s (.int n tn) (.int m tm) (decide (n=m)):=by
  obtain⟨e,he,hiff⟩:=HT.eqAt_int X.A.in1 s n tn m tm
  have:e=decide (n=m):=by
   cases e with
   | true=>exact(decide_eq_true (hiff.mp rfl)).symm
   | false=>exact(decide_eq_false fun z=>absurd (hiff.mpr z) Af).symm
  rw[← this]
  exact he
 have q1:Bv X.A.in1 s (.ref c) (.ref d) (decide (ns=ms)):=by
  rw[← CQ]
  exact Uk _ _ _ _ _ _ _ _ rc rd (KC (A3 _)) (KC (A3 _)) (Ul (A3 _) (by show X.A.units+1+64 < cLine;omega))
 refine Uu (op:=.Gt) ⟨_,o1,rfl⟩ ⟨_,o2,rfl⟩ PySem.F.slot_tuple_gt PySem.F.entry_tuple_gt (PySem.F.args_tuple_gt_2 _ _) (Zg a b (.int n tn) (.ref c) (.int m tm) (.ref d) n1 n2 f1 f2 l1 l2 (decide (n=m)) (decide (ns=ms)) (decide (m < n)) (HT.lexLt ms ns))
  ⟨o1,o2,q0,q1,fun _ prog w E Q z=>(UD z:wpAny (model prog w) X.A.in1 (compareOp .Gt (.int n tn) (.int m tm)) Q E _),fun _ prog w E Q z=>?_,⟨(fun x=>nomatch x),⟨.bl (if n≠m then decide (m < n) else HT.lexLt ms ns),H,I,?_,q⟩⟩⟩ (by omega)
 ·exact Uu (op:=.Gt) ⟨_,o3,rfl⟩ ⟨_,o4,rfl⟩ PySem.F.slot_list_gt PySem.F.entry_list_gt (PySem.F.args_list_gt_2 _ _) (Wz c d itc.toArray itd.toArray n3 n4 f3 f4 l3 l4 ns ms (PJ rcv) (PJ rdv))
   ⟨o3,o4,show DN (HT.lexLt ms ns)≠Value.notImplemented∧_ from⟨(fun x=>nomatch x),z⟩⟩ (by show X.A.units+1 < cLine;omega)
 ·first | exact congrArg DN (O3 n m ns ms) | exact congrArg DN (O3 n m ns ms).symm
theorem PD {A:Around}{k:Nat} (hr:Room k A):A.units+70 < cLine:=by have:=hr.un;omega
end Fb
end
section
set_option maxRecDepth 100000
set_option maxHeartbeats 4000000
namespace Fb
open PySem PySem.Spec PyProof.Rows L2
abbrev Lk:Stmt:=Ri
def SW (K:AA):Sp:=fun vs H Q _=>∃(a:Addr) (ns:List Int),vs=[.ref a]∧SqL K H a (ns.map V.int)∧ns.length < 100000∧Pur H Q (.bl (Ii ns))
theorem scIsMean:AY ["told","byte"] ["told"] (AK Lk):=⟨rfl,rfl,rfl,by decide +kernel,rfl,by decide +kernel,by decide +kernel⟩
theorem VE (pss:List (List Int)):(pss.any fun ps=>decide (ps=[]))=decide ([]∈pss):=by
 rw[C3,Hf,decide_eq_true_iff]
 exact⟨fun ⟨x,hx,e⟩=>by rw[← of_decide_eq_true e];exact hx,fun h=>⟨[],h,decide_eq_true rfl⟩⟩
theorem Vi (k:Nat) (xs:List V):CP xs (some (k:Int)) none=xs.drop k:=by
 by_cases h:k≤xs.length
 ·exact Vj k xs h
 ·unfold CP
  have e1:HT.sIx xs.length 0 (some (k:Int))=xs.length:=by
   show(if (k:Int) < 0 then ((k:Int)+(xs.length:Int)).toNat else min (k:Int).toNat xs.length)=_
   rw[if_neg (by omega),FN,Nat.min_eq_right (by omega)]
  rw[e1,Tj,Hi (by omega)]
  simp
section
variable {P:Program}{w:World}{K:AA}{mg:Str→Option Value}{base:Heap}
theorem ok_isMean {f:Addr}{fd:FuncData} (F:Fun K "is_meaning" "is_meaning" Lk f fd) (B:Blt mg) (c1:Cst mg "BLANK" (.int 32)) (c2:Cst mg "LAST_PRINTED" (.int 126)) (c3:Cst mg "LONGEST_MEANING" (.int 64)) (g1:Has P w K mg "split_at" 1 ["mark","values"] (EE K)):FnOk P w K mg base CX0 2 f fd ["told"] (SW K):=by
 refine F.ok scIsMean (fun vs H Q E h=>?_) (fun cdv A outer s H vs Q E hr h=>?_)
 ·obtain⟨a,ns,rfl,_⟩:=h
  rfl
 ·obtain⟨a,ns,rfl,hS,hlen,k⟩:=h
  unfold Ii at k
  refine⟨_,AJ (Al (PW.pt (GA (Ac F2 (Av Bj (by rfl) B.len BW (AB (pv 0) AD)) (AW c3 rfl) (AR _))
     (HQ (Dn (Cm (Av (Gw rfl) (by rfl) B.all Ht (AB (DW (own:=[("byte",1)]) rfl scIsMean.nd (Dm (pv 0)) (DQ (N:=["told","byte"]) (sc:=AK Lk) (by decide +kernel)) (fun s H C cl fp=>Bq (i:=1) scIsMean.nd rfl (AZ rfl)) (fun s H C cl fp=>Dq)
      (fun s H C cl fp=>HK CY CY (AW c1 rfl) (pv 1) (AW c2 rfl))) AD)))))))
    (AH (AL QH)) An)
   (AH (AL (Cj (Xd (PD hr)) (A7 AD) (AN g1 hr (by rfl) (AB (AW c1 rfl) (AB (pv 0) AD))) (by rfl)))),?_⟩
  refine⟨_,rfl,a,_,rfl,.inl hS,_,_,rfl,rfl,_,rfl,?_⟩
  by_cases hl:ns.length≤64
  ·refine bF (decide_eq_false (by rw[AG];omega)) ?_
   rw[decide_eq_true hl,Cq] at k
   refine⟨_,rfl,a,rfl,⟨_,hS⟩,fun D hD=>?_⟩
   refine D9 (n:=(ns.map V.int).length) ((ns.map fun b=>decide (32≤b)&&decide (b≤126)).map V.bl) (by simp) (Bo (by rw[AG];omega)) hD (fun i H hi s2=>EU (s2.seq hS) hi) (fun H s2=>EV (s2.seq hS)) ?_ ?_
   ·rintro i y z H2 H3 hz s2 ⟨rfl,hy⟩ R hR
    obtain⟨n,hn,rfl⟩:=D7 (hy _ (s2.seq hS))
    have:z=V.bl (decide (32≤n)&&decide (n≤126)):=by
     rw[Ah,Ah,hn] at hz
     exact(Ae hz).symm
    subst this
    have r0:=hR _ (Same.refl _)
    refine⟨rfl,_,rfl,_,_,rfl,rfl,_,rfl,?_⟩
    by_cases h1:(32:Int)≤n
    ·rw[decide_eq_true h1,Cq] at r0
     exact bT (decide_eq_true h1) ⟨_,_,rfl,rfl,r0⟩
    ·rw[decide_eq_false h1,Ce] at r0
     exact bF (decide_eq_false h1) r0
   ·intro H2 s2 hd2
    refine⟨D,ns.map fun b=>decide (32≤b)&&decide (b≤126),rfl,SqL.of hd2,_,rfl,?_⟩
    rw[El]
    cases ha:ns.all fun b=>decide (32≤b)&&decide (b≤126) with
    | false =>
     rw[ha,Ce] at k
     exact bT (by show(!(ns.all fun b=>decide (32≤b)&&decide (b≤126)))=true;rw[ha];rfl) (k H2 s2)
    | true =>
     rw[ha,Cq] at k
     refine bF (by show(!(ns.all fun b=>decide (32≤b)&&decide (b≤126)))=false;rw[ha];rfl) ?_
     refine⟨A5 _,fun l nl=>?_⟩
     have s3:Same H2 (upd H2 l (.lst [])):=(Same.refl H2).new nl
     refine⟨_,rfl,a,32,ns,rfl,s3.seq (s2.seq hS),hlen,fun H4 p as s4 np nas hp hpa=>?_⟩
     refine⟨l,p,as,_,[],rfl,s4 _ _ AI,rfl,hp,hpa,?_⟩
     rw[VE]
     exact k H4 ((s2.trans s3).trans s4)
  ·rw[decide_eq_false hl,Ce,Ce] at k
   exact bT (decide_eq_true (by rw[AG];omega)) (bT rfl (k H (Same.refl H)))
end
abbrev RD:Stmt:=R8
abbrev Q2:Stmt:=Rx
def DS (ns:List Int):List Int:=(Ai 32 ns).headD []
def JN (K:AA):Sp:=fun vs H Q _=>∃(a:Addr) (ns:List Int),vs=[.ref a]∧SqL K H a (ns.map V.int)∧ns.length < 100000∧Fg H Q (DS ns)
def L7 (K:AA):Sp:=fun vs H Q _=>∃(a:Addr) (ns:List Int),vs=[.ref a]∧SqL K H a (ns.map V.int)∧ns.length < 100000∧Fg H Q (ns.drop ((DS ns).length+1))
theorem Yn:AY ["line"] ["line"] (AK RD):=⟨rfl,rfl,rfl,by decide +kernel,rfl,by decide +kernel,by decide +kernel⟩
theorem Ye:AY ["line"] ["line"] (AK Q2):=⟨rfl,rfl,rfl,by decide +kernel,rfl,by decide +kernel,by decide +kernel⟩
theorem Om (ns:List Int):(Ai 32 ns)[0]?=some (DS ns):=by
 unfold DS
 cases h:Ai 32 ns with
 | nil=>exact absurd h (IM 32 ns)
 | cons w l=>rfl
theorem WD (ns:List Int):(DS ns).length≤ns.length:=EA 32 ns _ (CN (Om ns))
theorem Ie (b:Aj):DS (zs b)=zs (Bz b):=by
 unfold DS Bz
 rw[Fj]
 cases h:Br 32 b with
 | nil=>exact absurd h (D4 32 b)
 | cons w l=>rfl
section
variable {P:Program}{w:World}{K:AA}{mg:Str→Option Value}{base:Heap}
theorem ok_rowW {f:Addr}{fd:FuncData} (F:Fun K "row_word" "row_word" RD f fd) (c1:Cst mg "BLANK" (.int 32)) (g1:Has P w K mg "split_at" 1 ["mark","values"] (EE K)):FnOk P w K mg base CX0 2 f fd ["line"] (JN K):=by
 refine F.ok Yn (fun vs H Q E h=>?_) (fun cdv A outer s H vs Q E hr h=>?_)
 ·obtain⟨a,ns,rfl,_⟩:=h
  rfl
 ·obtain⟨a,ns,rfl,hS,hlen,k⟩:=h
  refine⟨_,AH (AL (Bp Bn (AN g1 hr (by rfl) (AB (AW c1 rfl) (AB (pv 0) AD))) AO (fun _ _=>rfl))),?_⟩
  refine⟨_,rfl,a,32,ns,rfl,hS,hlen,fun H1 p as s1 np nas hp hpa=>?_⟩
  obtain⟨b,hb,hbn⟩:=DF hpa (Om ns)
  exact⟨p,_,_,_,rfl,rfl,SqL.of hp,Bx (j:=0) (v:=V.ref b) (by rw[Ah,hb];rfl),k H1 b s1 (nas b (CN hb)) hbn⟩
theorem ok_meanT {f:Addr}{fd:FuncData} (F:Fun K "meaning_told" "meaning_told" Q2 f fd) (B:Blt mg) (g1:Has P w K mg "row_word" 2 ["line"] (JN K)):FnOk P w K mg base CX0 3 f fd ["line"] (L7 K):=by
 refine F.ok Ye (fun vs H Q E h=>?_) (fun cdv A outer s H vs Q E hr h=>?_)
 ·obtain⟨a,ns,rfl,_⟩:=h
  rfl
 ·obtain⟨a,ns,rfl,hS,hlen,k⟩:=h
  refine⟨_,AH (AL (F5 GG (pv 0) (F9 (EB LW (Av Bj (by rfl) B.len BW (AB (AN g1 hr (by rfl) (AB (pv 0) AD)) AD)) AO)) F8)),?_⟩
  refine⟨_,rfl,_,rfl,a,ns,rfl,hS,hlen,fun H1 b s1 nb hbn=>?_⟩
  refine⟨b,_,rfl,.inl (SqL.of hbn),_,_,rfl,rfl,_,rfl,a,_,rfl,s1.seq hS,fun q nq=>?_⟩
  have e:CP (ns.map V.int) (some ((((DS ns).map V.int).length:Int)+1)) none=(ns.drop ((DS ns).length+1)).map V.int:=by
   have:=Vi ((DS ns).length+1) (ns.map V.int)
   rw[← List.map_drop] at this
   rw[AG]
   exact this
  refine k _ q (s1.trans ((Same.refl H1).new nq)) (s1.free nq) ?_
  rw[AI]
  exact congrArg (fun z=>some (HO.lst z)) e
end
end Fb
end
section
set_option maxRecDepth 100000
set_option maxHeartbeats 4000000
namespace Fb
open PySem PySem.Spec PyProof.Rows L2
abbrev RC:Stmt:=Rn
def MC:Sp:=fun vs H Q _=>∃n:Int,vs=[.int n]∧Pur H Q (.bl (decide (1≤n)&&decide (n≤8)))
theorem Ym:AY ["length"] ["length"] (AK RC):=⟨rfl,rfl,rfl,by decide +kernel,rfl,by decide +kernel,by decide +kernel⟩
section
variable {P:Program}{w:World}{K:AA}{mg:Str→Option Value}{base:Heap}
theorem ok_rowLen {f:Addr}{fd:FuncData} (F:Fun K "is_row_length" "is_row_length" RC f fd) (c1:Cst mg "LONGEST_ROW" (.int 8)):FnOk P w K mg base CX0 1 f fd ["length"] MC:=by
 refine F.ok Ym (fun vs H Q E h=>?_) (fun cdv A outer s H vs Q E hr h=>?_)
 ·obtain⟨x,rfl,_⟩:=h
  rfl
 ·obtain⟨n,rfl,k⟩:=h
  have kk:=k H (Same.refl H)
  refine⟨_,AH (AL (HK CY CY AO (pv 0) (AW c1 rfl))),?_⟩
  refine⟨_,rfl,_,_,rfl,rfl,_,rfl,?_⟩
  by_cases h1:(1:Int)≤n
  ·rw[decide_eq_true h1,Cq] at kk
   exact bT (decide_eq_true h1) ⟨_,_,rfl,rfl,kk⟩
  ·rw[decide_eq_false h1,Ce] at kk
   exact bF (decide_eq_false h1) kk
end
abbrev Lm:Stmt:=Ro
abbrev Qu:Stmt:=Rf
def JC (b:Aj):Bool:=decide ((Br 46 b).length≤8)&&(Br 46 b).all DY
def SX (K:AA):Sp:=fun vs H Q _=>∃(a:Addr) (b:Aj),vs=[.ref a]∧SqL K H a ((zs b).map V.int)∧b.length < 100000∧Pur H Q (.bl (JC b))
def SV (K:AA):Sp:=fun vs H Q _=>∃(a:Addr) (b:Aj),vs=[.ref a]∧SqL K H a ((zs b).map V.int)∧b.length < 100000∧Pur H Q (.bl (ER b))
theorem scIsRowW:AY ["word","names","name"] ["word"] (AK Lm):=⟨rfl,rfl,rfl,by decide +kernel,rfl,by decide +kernel,by decide +kernel⟩
theorem YV:AY ["line"] ["line"] (AK Qu):=⟨rfl,rfl,rfl,by decide +kernel,rfl,by decide +kernel,by decide +kernel⟩
theorem Ol (b:Aj):(Bz b).length≤b.length:=by
 have:=WD (zs b)
 rw[Ie,Aw,Aw] at this
 exact this
theorem Pw (b:Aj):(zs b).drop ((DS (zs b)).length+1)=zs (C1 b):=by
 rw[Ie,Aw]
 unfold C1 zs
 rw[List.map_drop]
theorem Y2 (b:Aj):(C1 b).length≤b.length:=by
 unfold C1
 rw[Jk]
 omega
theorem Py (b:Aj):(Br 46 b).length≤b.length+1∧1≤(Br 46 b).length:=by
 have h1:=Fl 46 (zs b)
 have h2:=IL 46 (zs b)
 rw[IK,AG] at h1 h2
 rw[Aw] at h1
 omega
section
variable {P:Program}{w:World}{K:AA}{mg:Str→Option Value}{base:Heap}
theorem ok_isRowW {f:Addr}{fd:FuncData} (F:Fun K "is_row_word" "is_row_word" Lm f fd) (B:Blt mg) (c1:Cst mg "FULL_STOP" (.int 46)) (g0:Has P w K mg "is_row_length" 1 ["length"] MC) (g1:Has P w K mg "split_at" 1 ["mark","values"] (EE K)) (g2:Has P w K mg "is_name" 2 ["word"] (JM K)):
  FnOk P w K mg base CX0 3 f fd ["word"] (SX K):=by
 refine F.ok scIsRowW (fun vs H Q E h=>?_) (fun cdv A outer s H vs Q E hr h=>?_)
 ·obtain⟨a,b,rfl,_⟩:=h
  rfl
 ·obtain⟨a,b,rfl,hS,hlen,k⟩:=h
  have zl:(zs b).length < 100000:=by rw[Aw];exact hlen
  unfold JC at k
  have hr1:Room 1 _:=hr.mono (by decide)
  refine⟨_,AJ (BB (i:=1) scIsRowW.nd rfl (AZ rfl) (AN g1 hr1 (by rfl) (AB (AW c1 rfl) (AB (pv 0) AD))))
   (AH (AL (Ea (AN g0 hr1 (by rfl) (AB (Av Bj (by rfl) B.len BW (AB (pv 1) AD)) AD))
    (Ed (Av (Gw rfl) (by rfl) B.all Ht (AB (DW (own:=[("name",2)]) rfl scIsRowW.nd (Dm (pv 1)) (DQ (N:=["word","names","name"]) (sc:=AK Lm) (by decide +kernel)) (fun s H C cl fp=>Bq (i:=2) scIsRowW.nd rfl (AZ rfl)) (fun s H C cl fp=>Dq)
      (fun s H C cl fp=>AN g2 hr (by rfl) (AB (pv 2) AD))) AD)))))),?_⟩
  refine⟨_,rfl,a,46,zs b,rfl,hS,zl,fun H1 p as s1 np nas hp hpa=>?_⟩
  rw[IK] at hpa
  have hl:=CU hpa
  rw[AG] at hl
  obtain⟨hb46,hpos⟩:=Py b
  refine⟨_,rfl,p,_,rfl,.inl (SqL.of hp),_,rfl,fun H1' s1'=>?_⟩
  have s1:=s1.trans s1'
  have hp:=s1' _ _ hp
  have hpa:=Paired.mapP hpa fun _ _ e=>s1' _ _ e
  clear s1'
  generalize H1'=H1 at s1 hp hpa ⊢
  rw[show decide ((1:Int)≤(((as.map V.ref).length:Nat):Int))=true from decide_eq_true (by rw[AG,hl];omega),Cq]
  by_cases h1:(Br 46 b).length≤8
  ·rw[decide_eq_true h1,Cq] at k
   refine⟨_,rfl,bT (decide_eq_true (by rw[AG,hl];omega)) ?_⟩
   refine⟨_,rfl,p,rfl,⟨_,SqL.of hp⟩,fun D hD=>?_⟩
   refine D9 (n:=(as.map V.ref).length) (((Br 46 b).map DY).map V.bl) (by rw[AG,AG,AG,hl]) (Bo (by rw[AG,hl];omega)) hD (fun i H hi s2=>EU (SqL.of (s2 _ _ hp)) hi) (fun H s2=>EV (SqL.of (s2 _ _ hp))) ?_ ?_
   ·rintro i y z H2 H3 hz s2 ⟨rfl,hy⟩ R hR
    have hy:=hy _ (SqL.of (s2 _ _ hp))
    rw[Ah,Ah] at hz
    cases hn:(Br 46 b)[i]? with
    | none=>rw[hn] at hz;cases hz
    | some nm =>
     rw[hn] at hz
     have ez:V.bl (DY nm)=z:=Ae hz
     subst ez
     obtain⟨c,hc,hcc⟩:=DF hpa (i:=i) (b:=zs nm) (by rw[Ah,hn];rfl)
     rw[Ah,hc] at hy
     have ey:V.ref c=y:=Ae hy
     subst ey
     have h2:=EA 46 (zs b) (zs nm) (by rw[IK];exact BP.mpr ⟨nm,CN hn,rfl⟩)
     rw[Aw,Aw] at h2
     refine⟨rfl,_,rfl,c,zs nm,rfl,SqL.of (s2 _ _ hcc),by rw[Aw];omega,?_⟩
     rw[Ij]
     exact hR
   ·intro H2 s2 hd2
    refine⟨D,(Br 46 b).map DY,rfl,SqL.of hd2,?_⟩
    rw[El]
    exact k H2 (s1.trans s2)
  ·rw[decide_eq_false h1,Ce] at k
   exact⟨_,rfl,bF (decide_eq_false (by rw[AG,hl];omega)) (k H1 s1)⟩
theorem ok_isEnt {f:Addr}{fd:FuncData} (F:Fun K "is_entry_line" "is_entry_line" Qu f fd) (g1:Has P w K mg "row_word" 2 ["line"] (JN K)) (g2:Has P w K mg "is_row_word" 3 ["word"] (SX K)) (g3:Has P w K mg "is_meaning" 2 ["told"] (SW K)) (g4:Has P w K mg "meaning_told" 3 ["line"] (L7 K)):
  FnOk P w K mg base CX0 4 f fd ["line"] (SV K):=by
 refine F.ok YV (fun vs H Q E h=>?_) (fun cdv A outer s H vs Q E hr h=>?_)
 ·obtain⟨a,b,rfl,_⟩:=h
  rfl
 ·obtain⟨a,b,rfl,hS,hlen,k⟩:=h
  have zl:(zs b).length < 100000:=by rw[Aw];exact hlen
  have hr2:Room 2 _:=hr.mono (by decide)
  have e:ER b=(JC (Bz b)&&He (C1 b)):=rfl
  rw[e] at k
  refine⟨_,AH (AL (Ea (AN g2 hr (by rfl) (AB (AN g1 hr2 (by rfl) (AB (pv 0) AD)) AD))
    (Ed (AN g3 hr2 (by rfl) (AB (AN g4 hr (by rfl) (AB (pv 0) AD)) AD))))),?_⟩
  refine⟨_,rfl,a,zs b,rfl,hS,zl,fun H1 p s1 np hp=>?_⟩
  rw[Ie] at hp
  have:=Ol b
  refine⟨p,Bz b,rfl,SqL.of hp,by omega,fun H2 s2=>⟨_,rfl,?_⟩⟩
  have s12:=s1.trans s2
  cases hw:JC (Bz b) with
  | false =>
   rw[hw,Ce] at k
   exact bF rfl (k H2 s12)
  | true =>
   rw[hw,Cq] at k
   refine bT rfl ?_
   refine⟨_,rfl,a,zs b,rfl,s12.seq hS,zl,fun H3 q s3 nq hq=>?_⟩
   rw[Pw] at hq
   have:=Y2 b
   refine⟨q,zs (C1 b),rfl,SqL.of hq,by rw[Aw];omega,fun H4 s4=>?_⟩
   rw[Wa]
   exact k H4 ((s12.trans s3).trans s4)
end
abbrev Qn:Stmt:=Rm
def IF (ns ms:List Int):Bool:=if ns.length≠ms.length then decide (ms.length < ns.length) else HT.lexLt ms ns
def SQ (K:AA):Sp:=fun vs H Q _=>∃(a b:Addr) (ns ms:List Int),vs=[.ref a,.ref b]∧SqL K H a (ns.map V.int)∧SqL K H b (ms.map V.int)∧Pur H Q (.bl (IF ns ms))
theorem YR:AY ["row","before"] ["row","before"] (AK Qn):=⟨rfl,rfl,rfl,by decide +kernel,rfl,by decide +kernel,by decide +kernel⟩
theorem Pf:∀(a b:List Nat),a.length=b.length→HT.lexLt (zn a) (zn b)=Flags.before a b
 | [],[],_=>rfl
 | [],_::_,h=>by simp at h
 | _::_,[],h=>by simp at h
 | x::a,y::b,h=>by
  have ih:=Pf a b (by simpa using h)
  show HT.lexLt ((x:Int)::zn a) ((y:Int)::zn b)=(decide (x < y) || (x==y&&Flags.before a b))
  rw[HT.lexLt_cons]
  by_cases e:x=y
  ·subst e
   rw[if_pos rfl,ih]
   simp
  ·rw[if_neg (by omega),By (show(x:Int) < y↔x < y by omega)]
   simp[e]
theorem VO (r e:List Nat):IF (zn r) (zn e)=FL e r:=by
 unfold IF FL
 rw[DK,DK]
 by_cases h:r.length=e.length
 ·rw[if_neg (fun q=>q h),Pf e r h.symm,decide_eq_false (by omega),GR]
  simp[h]
 ·rw[if_pos h]
  have:(e.length==r.length)=false:=beq_eq_false_iff_ne.mpr fun q=>h q.symm
  rw[this,Ce,Bool.or_false]
abbrev Q9:Stmt:=R3
def So (K:AA):Sp:=fun vs H Q _=>∃(a:Addr) (xs:List V),vs=[.ref a]∧(SqL K H a xs∨SqT K H a xs)∧∀t,H t=none→Q (.ref t) (upd H t (.tup [.int (xs.length:Nat),.ref a]))
theorem Yj:AY ["row"] ["row"] (AK Q9):=⟨rfl,rfl,rfl,by decide +kernel,rfl,by decide +kernel,by decide +kernel⟩
section
variable {P:Program}{w:World}{K:AA}{mg:Str→Option Value}{base:Heap}
theorem ok_place {f:Addr}{fd:FuncData} (F:Fun K "place_in_order" "place_in_order" Q9 f fd) (B:Blt mg):FnOk P w K mg base CX0 1 f fd ["row"] (So K):=by
 refine F.ok Yj (fun vs H Q E h=>?_) (fun cdv A outer s H vs Q E hr h=>?_)
 ·obtain⟨a,xs,rfl,_⟩:=h
  rfl
 ·obtain⟨a,xs,rfl,hA,k⟩:=h
  refine⟨_,AH (AL (Xr (AB (Av Bj (by rfl) B.len BW (AB (pv 0) AD)) (AB (pv 0) AD)))),?_⟩
  exact⟨_,rfl,a,xs,rfl,hA,_,rfl,(show 2≤sizeLine from CC (by decide)),fun t nt=>k t nt⟩
theorem ok_behind {f:Addr}{fd:FuncData} (F:Fun K "is_row_behind" "is_row_behind" Qn f fd) (g1:Has P w K mg "place_in_order" 1 ["row"] (So K)):FnOk P w K mg base CX0 2 f fd ["row","before"] (SQ K):=by
 refine F.ok YR (fun vs H Q E h=>?_) (fun cdv A outer s H vs Q E hr h=>?_)
 ·obtain⟨a,b,ns,ms,rfl,_⟩:=h
  rfl
 ·obtain⟨a,b,ns,ms,rfl,hA,hB,k⟩:=h
  refine⟨_,AH (AL (Cj (Xa (PD hr)) (AN g1 hr (by rfl) (AB (pv 0) AD)) (AN g1 hr (by rfl) (AB (pv 1) AD)) (AR _))),?_⟩
  refine⟨_,rfl,a,_,rfl,.inl hA,fun t nt=>?_⟩
  have s1:Same H (upd H t (.tup [.int ((ns.map V.int).length:Nat),.ref a])):=(Same.refl H).new nt
  have h1:upd H t (.tup [.int ((ns.map V.int).length:Nat),.ref a]) t=some (.tup [.int ((ns.map V.int).length:Nat),.ref a]):=AI
  generalize upd H t (.tup [.int ((ns.map V.int).length:Nat),.ref a])=H1 at s1 h1 ⊢
  refine⟨_,rfl,b,_,rfl,.inl (s1.seq hB),fun t2 nt2=>?_⟩
  have s2:Same H1 (upd H1 t2 (.tup [.int ((ms.map V.int).length:Nat),.ref b])):=(Same.refl H1).new nt2
  have h2:upd H1 t2 (.tup [.int ((ms.map V.int).length:Nat),.ref b]) t2=some (.tup [.int ((ms.map V.int).length:Nat),.ref b]):=AI
  generalize upd H1 t2 (.tup [.int ((ms.map V.int).length:Nat),.ref b])=H2 at s2 h2 ⊢
  refine⟨t,t2,_,_,a,b,ns,ms,rfl,rfl,s2 _ _ h1,h2,(s1.trans s2).seq hA,(s1.trans s2).seq hB,?_⟩
  have kk:=k H2 (s1.trans s2)
  unfold IF at kk
  have e:(if ((((ns.map V.int).length:Nat):Int)≠(((ms.map V.int).length:Nat):Int)) then decide ((((ms.map V.int).length:Nat):Int) < (((ns.map V.int).length:Nat):Int)) else HT.lexLt ms ns)=(if ns.length≠ms.length then decide (ms.length < ns.length) else HT.lexLt ms ns):=by
   rw[AG,AG]
   by_cases q:ns.length=ms.length
   ·rw[if_neg (fun z=>z (by omega)),if_neg (fun z=>z q)]
   ·rw[if_pos (by omega),if_pos q]
    exact By (by omega)
  rw[e]
  exact kk
end
end Fb
end
section
set_option maxRecDepth 100000
set_option maxHeartbeats 4000000
namespace Fb
open PySem PySem.Spec PyProof.Rows L2
def ef (ar am:Addr):List (Str×V):=[("row",.ref ar),("meaning",.ref am)]
def bfB (bn be bf:Addr):List (Str×V):=[("name",.ref bn),("entries",.ref be),("fault",.ref bf)]
theorem OQ {ar am:Addr}:(ef ar am).lookup ("row":Str)=some (.ref ar):=rfl
structure BA where
 bn:Addr
 be:Addr
 bf:Addr
theorem Gs {q:BA}:(bfB q.bn q.be q.bf).lookup ("entries":Str)=some (.ref q.be):=rfl
theorem Kh {q:BA}:(bfB q.bn q.be q.bf).lookup ("fault":Str)=some (.ref q.bf):=rfl
def EntAt (CE:Addr) (H:Hp) (a:Addr) (e:Ax):Prop:=∃(dx ar am:Addr),H a=some (.ins CE dx (ef ar am))∧H ar=some (.lst ((zn e.row).map V.int))∧H am=some (.lst ((zs e.says).map V.int))
structure BookAt (CB CE:Addr) (H:Hp) (b:Addr) (q:BA) (name:List Int) (entries:List Ax) (fault:List Int):Prop where
 ob:∃dx,H b=some (.ins CB dx (bfB q.bn q.be q.bf))
 nm:hid [q.be] H q.bn=some (.lst (name.map V.int))
 es:∃as:List Addr,H q.be=some (.lst (as.map V.ref))∧Paired (EntAt CE (hid [q.be] H)) as entries
 bf:hid [q.be] H q.bf=some (.lst (fault.map V.int))
theorem O6 {cs:List Addr}{H:Hp}:Same (hid cs H) H:=fun b o e=>by
 by_cases m:b∈cs
 ·rw[DD m] at e;cases e
 ·rw[Ay m] at e;exact e
theorem Ig {cs:List Addr}{H H':Hp} (s:Same H H'):Same (hid cs H) (hid cs H'):=fun b o e=>by
 by_cases m:b∈cs
 ·rw[DD m] at e;cases e
 ·rw[Ay m] at e ⊢;exact s b o e
theorem K3 {cs:List Addr}{H H':Hp} (s:SameN H H'):SameN (hid cs H) (hid cs H'):=fun b o e n=>by
 by_cases m:b∈cs
 ·rw[DD m] at e;cases e
 ·rw[Ay m] at e ⊢;exact s b o e n
theorem G6 {cs:List Addr}{H H':Hp} (s:SameT H H'):SameT (hid cs H) (hid cs H'):=fun b o e n=>by
 by_cases m:b∈cs
 ·rw[DD m] at e;cases e
 ·rw[Ay m] at e ⊢;exact s b o e n
theorem EntAt.mono {CE:Addr}{H H':Hp}{a:Addr}{e:Ax} (s:Same H H') (h:EntAt CE H a e):EntAt CE H' a e:=by
 obtain⟨dx,ar,am,h1,h2,h3⟩:=h
 exact⟨dx,ar,am,s _ _ h1,s _ _ h2,s _ _ h3⟩
theorem BookAt.mono {CB CE:Addr}{H H':Hp}{b:Addr}{q:BA}{name:List Int}{entries:List Ax}{fault:List Int} (s:Same H H') (h:BookAt CB CE H b q name entries fault):BookAt CB CE H' b q name entries fault:=by
 obtain⟨⟨dx,h1⟩,h2,⟨as,h3,h4⟩,h5⟩:=h
 exact⟨⟨dx,s _ _ h1⟩,Ig s _ _ h2,⟨as,s _ _ h3,Paired.mapP h4 fun a z q=>q.mono (Ig s)⟩,Ig s _ _ h5⟩
theorem BookAt.ents {CB CE:Addr}{H:Hp}{b:Addr}{q:BA}{name:List Int}{entries:List Ax}{fault:List Int} (h:BookAt CB CE H b q name entries fault):∃as:List Addr,H q.be=some (.lst (as.map V.ref))∧Paired (EntAt CE H) as entries:=by
 obtain⟨as,h3,h4⟩:=h.es
 exact⟨as,h3,Paired.mapP h4 fun a z q=>q.mono O6⟩
theorem BookAt.bf' {CB CE:Addr}{H:Hp}{b:Addr}{q:BA}{name:List Int}{entries:List Ax}{fault:List Int} (h:BookAt CB CE H b q name entries fault):H q.bf=some (.lst (fault.map V.int)):=O6 _ _ h.bf
theorem EntAt.monoN {CE:Addr}{H H':Hp}{a:Addr}{e:Ax} (s:SameN H H') (h:EntAt CE H a e):EntAt CE H' a e:=by
 obtain⟨dx,ar,am,h1,h2,h3⟩:=h
 exact⟨dx,ar,am,s _ _ h1 (fun _ q=>nomatch q),s _ _ h2 (fun _ q=>nomatch q),s _ _ h3 (fun _ q=>nomatch q)⟩
theorem BookAt.monoN {CB CE:Addr}{H H':Hp}{b:Addr}{q:BA}{name:List Int}{entries:List Ax}{fault:List Int} (s:SameN H H') (h:BookAt CB CE H b q name entries fault):BookAt CB CE H' b q name entries fault:=by
 obtain⟨⟨dx,h1⟩,h2,⟨as,h3,h4⟩,h5⟩:=h
 exact⟨⟨dx,s _ _ h1 (fun _ q=>nomatch q)⟩,K3 s _ _ h2 (fun _ q=>nomatch q),⟨as,s _ _ h3 (fun _ q=>nomatch q),Paired.mapP h4 fun a z q=>q.monoN (K3 s)⟩,K3 s _ _ h5 (fun _ q=>nomatch q)⟩
theorem BookAt.monoT {CB CE:Addr}{H H':Hp}{b:Addr}{q:BA}{name:List Int}{entries:List Ax}{fault:List Int} (s:SameT H H') (h:BookAt CB CE H b q name entries fault):BookAt CB CE H' b q name entries fault:=by
 obtain⟨⟨dx,h1⟩,h2,⟨as,h3,h4⟩,h5⟩:=h
 refine⟨⟨dx,s _ _ h1 (fun _ q=>nomatch q)⟩,G6 s _ _ h2 (fun _ q=>nomatch q),⟨as,s _ _ h3 (fun _ q=>nomatch q),Paired.mapP h4 fun a z q=>?_⟩,G6 s _ _ h5 (fun _ q=>nomatch q)⟩
 obtain⟨dx,ar,am,h1,h2,h3⟩:=q
 exact⟨dx,ar,am,G6 s _ _ h1 (fun _ q=>nomatch q),G6 s _ _ h2 (fun _ q=>nomatch q),G6 s _ _ h3 (fun _ q=>nomatch q)⟩
structure EntC (K:AA) (CE:Addr):Prop where
 cl:Cls K CE
 row:NoAttr K CE "row"
 meaning:NoAttr K CE "meaning"
structure BookC (K:AA) (CB:Addr):Prop where
 cl:Cls K CB
 name:NoAttr K CB "name"
 entries:NoAttr K CB "entries"
 fault:NoAttr K CB "fault"
abbrev Qq:Stmt:=Dj RQ 0
def IY:List V→Option (List (Str×V))
 | [.ref r,.ref m]=>some (ef r m)
 | _=>none
theorem YU:AY ["self","row","meaning"] ["self","row","meaning"] (AK Qq):=⟨rfl,rfl,rfl,by decide +kernel,rfl,by decide +kernel,by decide +kernel⟩
section
variable {P:Program}{w:World}{K:AA}{mg:Str→Option Value}{base:Heap}{CB CE CL CK:Addr}
theorem ok_entI {f:Addr}{fd:FuncData} (F:Fun K "__init__" "Entry.__init__" Qq f fd) (T:EntC K CE):FnOk P w K mg base CX0 1 f fd ["self","row","meaning"] (ED CE IY):=by
 have inv:∀us l,IY us=some l→∃r m,us=[.ref r,.ref m]∧l=ef r m:=by
  intro us l h
  unfold IY at h
  split at h
  ·cases h;exact⟨_,_,rfl,rfl⟩
  ·cases h
 refine F.ok YU (fun vs H Q E h=>?_) (fun cdv A outer s H vs Q E hr h=>?_)
 ·obtain⟨p,dx,us,l,rfl,hf,_⟩:=h
  obtain⟨_,_,rfl,_⟩:=inv _ _ hf
  rfl
 ·obtain⟨p,dx,us,l,rfl,hf,hp,k⟩:=h
  obtain⟨r,m,rfl,rfl⟩:=inv _ _ hf
  refine⟨_,AJ (BU (pv 0) (pv 1) rfl) (AH (BU (pv 0) (pv 2) rfl)),?_⟩
  refine⟨_,rfl,_,rfl,p,CE,dx,[],rfl,hp,T.cl,T.row,(by show 0 < 1000;decide),?_⟩
  refine⟨_,rfl,_,rfl,p,CE,dx,_,rfl,AI,T.cl,T.meaning,(by show 1 < 1000;decide),?_⟩
  rw[FG]
  exact k _ AI fun b o e hb=>by rw[AE hb];exact e
end
abbrev Qo:Stmt:=Dj RP 0
def SR (CB:Addr):Sp:=fun vs H Q _=>∃(a dx:Addr),vs=[.ref a]∧H a=some (.ins CB dx [])∧
 ∀(H':Hp) (q:BA),H' a=some (.ins CB dx (bfB q.bn q.be q.bf))→H' q.bn=some (.lst [])→H' q.be=some (.lst [])→H' q.bf=some (.lst [])→q.bn≠q.be→q.bf≠q.be→(∀b o,H b=some o→b≠a→H' b=some o)→(∀x∈[q.bn,q.be,q.bf],H x=none)→Q .non H'
theorem YS:AY ["self"] ["self"] (AK Qo):=⟨rfl,rfl,rfl,by decide +kernel,rfl,by decide +kernel,by decide +kernel⟩
section
variable {P:Program}{w:World}{K:AA}{mg:Str→Option Value}{base:Heap}{CB CE CL CK:Addr}
theorem ok_bookI {f:Addr}{fd:FuncData} (F:Fun K "__init__" "Book.__init__" Qo f fd) (T:BookC K CB):FnOk P w K mg base CX0 1 f fd ["self"] (SR CB):=by
 refine F.ok YS (fun vs H Q E h=>?_) (fun cdv A outer s H vs Q E hr h=>?_)
 ·obtain⟨a,dx,rfl,_⟩:=h
  rfl
 ·obtain⟨a,dx,rfl,ha,k⟩:=h
  refine⟨_,AJ (BU (pv 0) (A7 AD) rfl) (AJ (BU (pv 0) (A7 AD) rfl) (AH (BU (pv 0) (A7 AD) rfl))),?_⟩
  have step:∀{H1:Hp} {fs:List (Str×V)} {q:Addr} {o:HO} {fs':List (Str×V)},H1 a=some (.ins CB dx fs)→H1 q=none→a≠q∧(upd (upd H1 q o) a (.ins CB dx fs')) a=some (.ins CB dx fs')∧(upd (upd H1 q o) a (.ins CB dx fs')) q=some o∧
    (upd H1 q o) a=some (.ins CB dx fs)∧(∀b u,H1 b=some u→b≠a→(upd (upd H1 q o) a (.ins CB dx fs')) b=some u):=fun {H1 fs q o fs'} h1 h2=>by
   have ne:a≠q:=Am h1 h2
   refine⟨ne,AI,by rw[AE (Ap ne),AI],by rw[AE ne];exact h1,fun b u e n=>?_⟩
   rw[AE n,AE (Am e h2)]
   exact e
  refine⟨A5 _,fun q1 n1=>?_⟩
  obtain⟨ne1,a1,b1,i1,k1⟩:=step (fs':=[("name",.ref q1)]) (o:=.lst []) ha n1
  refine⟨_,rfl,a,CB,dx,_,rfl,i1,T.cl,T.name,(by show 0 < 1000;decide),?_⟩
  refine⟨A5 _,fun q2 n2=>?_⟩
  obtain⟨ne2,a2,b2,i2,k2⟩:=step (fs':=[("name",.ref q1),("entries",.ref q2)]) (o:=.lst []) a1 n2
  refine⟨_,rfl,a,CB,dx,_,rfl,i2,T.cl,T.entries,(by show 1 < 1000;decide),?_⟩
  refine⟨A5 _,fun q3 n3=>?_⟩
  obtain⟨ne3,a3,b3,i3,k3⟩:=step (fs':=bfB q1 q2 q3) (o:=.lst []) a2 n3
  refine⟨_,rfl,a,CB,dx,_,rfl,i3,T.cl,T.fault,(by show 2 < 1000;decide),?_⟩
  have c2:=k2 _ _ b1 (Ap ne1)
  have c3:=k3 _ _ c2 (Ap ne1)
  have d3:=k3 _ _ b2 (Ap ne2)
  have fr:∀{H1:Hp} {q:Addr},H1 q=none→(∀b u,H b=some u→b≠a→H1 b=some u)→a≠q→H q=none:=fun {H1 q} n k ne=>by
   cases z:H q with
   | none=>rfl
   | some u=>rw[k q u z (Ap ne)] at n;cases n
  refine k _ ⟨q1,q2,q3⟩ a3 c3 d3 b3 (Am b1 n2) (Ap (Am b2 n3)) (fun b u e n=>k3 _ _ (k2 _ _ (k1 _ _ e n) n) n) ?_
  intro x hx
  simp only[AS,De,or_false] at hx
  rcases hx with rfl | rfl | rfl
  ·exact n1
  ·exact fr n2 (fun b u e n=>k1 _ _ e n) ne2
  ·exact fr n3 (fun b u e n=>k2 _ _ (k1 _ _ e n) n) ne3
end
abbrev RB:Stmt:=R7
def DH (L:Ag) (past:List Ax) (r:List Nat):Nat:=if L.canShow r=false then 4 else if (past.getLast?.any fun (e:Ax)=>!FL e.row r)=true then 5 else if Flags.ENTRIES≤past.length then 6 else 0
def Ss (K:AA) (CL CK CB CE:Addr):Sp:=fun vs H Q _=>∃(a b c:Addr) (p:LA) (q:BA) (L:Ag) (fl nm bfl:List Int) (past:List Ax) (r:List Nat),vs=[.ref a,.ref b,.ref c]∧LockAt CL CK H a p (zs L.name) (L.kinds.map zk) fl∧Wf L.kinds∧BookAt CB CE H b q nm past bfl∧
 SqL K H c ((zn r).map V.int)∧r.length < 1000∧(∀s∈r,L.isSignAt s=true)∧r≠[]∧past.length≤2048∧Pur H Q (.int (DH L past r:Nat))
theorem Yl:AY ["locker","book","row"] ["locker","book","row"] (AK RB):=⟨rfl,rfl,rfl,by decide +kernel,rfl,by decide +kernel,by decide +kernel⟩
section
variable {P:Program}{w:World}{K:AA}{mg:Str→Option Value}{base:Heap}{CB CE CL CK:Addr}
theorem ok_rowF {f:Addr}{fd:FuncData} (F:Fun K "row_fault" "row_fault" RB f fd) (B:Blt mg) (TB:BookC K CB) (TE:EntC K CE) (c1:Cst mg "NOT_SHOWN" (.int 4)) (c2:Cst mg "NOT_BEHIND" (.int 5)) (c3:Cst mg "TOO_MANY_ENTRIES" (.int 6)) (c4:Cst mg "MOST_ENTRIES" (.int 2048))
  (g1:Has P w K mg "can_show" 3 ["locker","signs"] (Sv K CL CK)) (g2:Has P w K mg "is_row_behind" 2 ["row","before"] (SQ K)):FnOk P w K mg base CX0 4 f fd ["locker","book","row"] (Ss K CL CK CB CE):=by
 refine F.ok Yl (fun vs H Q E h=>?_) (fun cdv A outer s H vs Q E hr h=>?_)
 ·obtain⟨a,b,c,p,q,L,fl,nm,bfl,past,r,rfl,_⟩:=h
  rfl
 ·obtain⟨a,b,c,p,q,L,fl,nm,bfl,past,r,rfl,hL,hW,hB,hc,hlr,hin,hne,hpl,k⟩:=h
  have hr1:Room 1 _:=hr.mono (by decide)
  have hr2:Room 2 _:=hr.mono (by decide)
  unfold DH at k
  refine⟨_,AJ (Al (Dn (Cm (AN g1 hr (by rfl) (AB (pv 0) (AB (pv 2) AD))))) (AH (AL (AW c1 rfl))) An)
   (AJ (Al (PW.pt (Dr (Ac F2 (Av Bj (by rfl) B.len BW (AB (Ak (pv 1) rfl) AD)) AO (AR _))
     (Ef (Dn (Cm (AN g2 hr2 (by rfl) (AB (pv 2) (AB (Ak (Bp Bn (Ak (pv 1) rfl) (F6 GL AO) (fun _ _=>rfl)) rfl) AD)))))))) (AH (AL (AW c2 rfl))) An)
   (AJ (Al (Ac BZ (Av Bj (by rfl) B.len BW (AB (Ak (pv 1) rfl) AD)) (AW c4 rfl) (AR _)) (AH (AL (AW c3 rfl))) An)
   (AH (AL AO)))),?_⟩
  refine⟨_,rfl,_,rfl,a,c,p,L,fl,r,rfl,hL,hW,hc,hlr,hin,hne,fun H1 s1=>⟨_,rfl,?_⟩⟩
  cases h1:L.canShow r with
  | false =>
   rw[if_pos h1] at k
   exact bT rfl (k H1 s1)
  | true =>
   rw[if_neg (by rw[h1];decide)] at k
   refine bF rfl ?_
   have hB1:=hB.mono s1
   obtain⟨dx,ho⟩:=hB1.ob
   obtain⟨as,he,hp⟩:=hB1.ents
   have hl:=CU hp
   refine⟨_,rfl,b,CB,dx,_,_,rfl,ho,TB.cl,TB.entries,Gs,q.be,_,rfl,.inl (SqL.of he),_,_,rfl,rfl,_,rfl,?_⟩
   have last:∀(H2:Hp),Same H1 H2→(past.getLast?.any fun (e:Ax)=>!FL e.row r)=false→MK (MI (ML (tOp rEq (tCB (fun xs H_1 Q=>∃p ys,xs=[V.ref p]∧(SqL K H_1 p ys∨SqT K H_1 p ys)∧Q (V.int ys.length) H_1) (GJ (MH K (Eh 1) "entries") FD)) (tC (V.int 2048)))) (HX (tC (V.int 6))) MJ) (HX (tC (V.int 0)))
     { nx:=fun x H'=>Q V.non H',rt:=Q } (L2.start ["locker","book","row"] [V.ref a,V.ref b,V.ref c]) H2:=fun H2 s2 hn=>by
    rw[hn,if_neg Af] at k
    refine⟨_,rfl,b,CB,dx,_,_,rfl,s2 _ _ ho,TB.cl,TB.entries,Gs,q.be,_,rfl,.inl (SqL.of (s2 _ _ he)),rfl,_,rfl,?_⟩
    by_cases h6:Flags.ENTRIES≤past.length
    ·rw[if_pos h6] at k
     have h6:2048≤past.length:=h6
     exact bT (decide_eq_true (congrArg V.int (by rw[AG,hl];omega))) (k H2 (s1.trans s2))
    ·rw[if_neg h6] at k
     have h6:¬2048≤past.length:=h6
     exact bF (decide_eq_false (BK (by rw[AG,hl];omega))) (k H2 (s1.trans s2))
   cases hlast:past.getLast? with
   | none =>
    have:past=[]:=Mq.mp hlast
    subst this
    have:as=[]:=by cases as with | nil=>rfl | cons _ _=>simp at hl
    subst this
    exact bF rfl (bF rfl (last H1 (Same.refl H1) rfl))
   | some e =>
    obtain⟨r',e'⟩:=LB hlast
    subst e'
    rw[BO,C8] at hl
    obtain⟨asR,aQ,rfl⟩:∃asR aQ,as=asR++[aQ]:=by
     have ne:as≠[]:=by intro q;rw[q] at hl;simp at hl
     exact⟨as.dropLast,as.getLast ne,(Jd ne).symm⟩
    have hlR:asR.length=r'.length:=by rw[BO,C8] at hl;omega
    obtain⟨aq',e1,dq,ar,am,hq,har,ham⟩:=DF hp (i:=r'.length) (b:=e) (by simp)
    rw[Hj (by omega),hlR,Jz] at e1
    cases e1
    refine bT (decide_eq_true (by rw[AG,BO,C8];omega)) ?_
    refine⟨_,rfl,_,rfl,b,CB,dx,_,_,rfl,ho,TB.cl,TB.entries,Gs,_,rfl,q.be,_,_,_,rfl,rfl,SqL.of he,by rw[CV];exact Kg _ _,_,CE,dq,_,_,rfl,hq,TE.cl,TE.row,OQ,c,ar,zn r,zn e.row,rfl,s1.seq hc,SqL.of har,fun H2 s2=>⟨_,rfl,?_⟩⟩
    rw[VO]
    have elast:((r'++[e]).getLast?.any fun (e:Ax)=>!FL e.row r)=!FL e.row r:=by rw[hlast];rfl
    cases hbf:FL e.row r with
    | false =>
     rw[elast,hbf,if_pos (show(!false)=true from rfl)] at k
     exact bT rfl (k H2 (s1.trans s2))
    | true=>exact bF rfl (last H2 s2 (by rw[elast,hbf];rfl))
end
end Fb
end
section
set_option maxRecDepth 100000
set_option maxHeartbeats 4000000
namespace Fb
open PySem PySem.Spec PyProof.Rows L2
theorem TM (n:Aj):∀(ks:List AM) (i:Nat),Ar (Be i (ks.map zk)) (A2 (zs n))=(ks.findIdx? fun k=>k.role==.sign n).map fun j=>V.int ((i+j:Nat):Int)
 | [],i=>rfl
 | k::ks,i=>by
  have ih:=TM n ks (i+1)
  rw[Au,GF,List.findIdx?_cons]
  have el:(zk k).lab=zl k.role:=rfl
  rw[el]
  have step:∀r:Option Nat,((r.map fun j=>j+1).map fun j=>V.int ((i+j:Nat):Int))=r.map fun j=>V.int ((i+1+j:Nat):Int):=fun r=>by
   cases r with
   | none=>rfl
   | some j=>show some (V.int ((i+(j+1):Nat):Int))=some (V.int ((i+1+j:Nat):Int));rw[show i+(j+1)=i+1+j by omega]
  cases hr:k.role with
  | sign m =>
   by_cases e:m=n
   ·subst e
    rw[show((FK m==FK m)=true) from beq_self_eq_true _,if_pos rfl]
    show Ar ((A2 (zs m),V.int ((i:Nat):Int))::Be (i+1) (ks.map zk)) (A2 (zs m))=_
    rw[Cd rfl]
    rfl
   ·have ne:(FK m==FK n)=false:=beq_eq_false_iff_ne.mpr fun q=>e (by injection q)
    rw[ne,if_neg Af,step,← ih]
    show Ar ((A2 (zs m),V.int ((i:Nat):Int))::Be (i+1) (ks.map zk)) (A2 (zs n))=_
    exact Cc (p:=(A2 (zs m),V.int ((i:Nat):Int))) fun q=>e (Ds (K6 q))
  | same m =>
   have ne:(FJ.same m==FK n)=false:=beq_eq_false_iff_ne.mpr fun q=>nomatch q
   rw[ne,if_neg Af,step,← ih]
   rfl
  | answer =>
   have ne:(FJ.answer==FK n)=false:=beq_eq_false_iff_ne.mpr fun q=>nomatch q
   rw[ne,if_neg Af,step,← ih]
   rfl
theorem Zr (L:Ag) (n:Aj):Ar (Be 0 (L.kinds.map zk)) (A2 (zs n))=(L.find n).map fun (j:Nat)=>V.int (j:Int):=by
 rw[TM]
 unfold MZ
 cases L.kinds.findIdx? fun k=>k.role==.sign n with
 | none=>rfl
 | some j=>show some (V.int ((0+j:Nat):Int))=some (V.int (j:Int));rw[EJ]
theorem VT:bootBuiltins "tuple"=some (.type "tuple"):=by decide +kernel
theorem VX {X:Cx} (K:AA) (hK:X.K=K):D1 X (.type "tuple") (fun xs H Q=>∃p ys,xs=[V.ref p]∧SqL K H p ys∧∀l,H l=none→Q (.ref l) (upd H l (.tup ys))):=by
 subst hK
 intro pins s σ H xs us Q I r h
 obtain⟨p,ys,e,h1,h2⟩:=h
 exact N4 pins s σ H xs us Q I r ⟨p,ys,e,.inl ⟨h1,h2⟩⟩
theorem Qe {L:Ag}:∀{ns:List Aj}{r:List Nat},L.rowIn ns=some r→(ns.all fun n=>(L.find n).isSome)=true∧r=ns.map (fun n=>(L.find n).getD 0)∧∀s∈r,s < L.kinds.length
 | [],r,h=>by
  simp[FI] at h
  subst h
  exact⟨rfl,rfl,fun s hs=>by cases hs⟩
 | n::ns,r,h=>by
  unfold FI at h
  rw[FP] at h
  rw[GX,Au]
  cases hf:L.find n with
  | none=>rw[hf] at h;cases h
  | some i =>
   rw[hf] at h
   cases hr:Hk L.find ns with
   | none=>rw[hr] at h;cases h
   | some r' =>
    rw[hr] at h
    have h:some (i::r')=some r:=h
    cases h
    obtain⟨h1,h2,h3⟩:=Qe (L:=L) (ns:=ns) (r:=r') hr
    refine⟨by rw[h1];rfl,by rw[← h2];rfl,fun s hs=>?_⟩
    rcases AS.mp hs with e | hs
    ·subst e
     unfold MZ at hf
     exact(Mj.mp hf).1
    ·exact h3 s hs
theorem Qc {L:Ag}:∀{ns:List Aj}{r:List Nat},L.rowIn ns=some r→∀s∈r,L.isSignAt s=true
 | [],r,h,s,hs=>by
  simp[FI] at h
  subst h
  cases hs
 | n::ns,r,h,s,hs=>by
  unfold FI at h
  rw[FP] at h
  cases hf:L.find n with
  | none=>rw[hf] at h;cases h
  | some i =>
   rw[hf] at h
   cases hr:Hk L.find ns with
   | none=>rw[hr] at h;cases h
   | some r' =>
    rw[hr] at h
    have h:some (i::r')=some r:=h
    cases h
    rcases AS.mp hs with e | hs
    ·subst e
     unfold MZ at hf
     obtain⟨h1,h2,_⟩:=Mj.mp hf
     unfold Ag.isSignAt
     rw[BD h1]
     show C5 _=true
     unfold C5
     rw[eq_of_beq h2]
    ·exact Qc (L:=L) (ns:=ns) (r:=r') hr s hs
theorem V6 (L:Ag) (past:List Ax) (names:List Aj) {r:List Nat} (h:L.rowIn names=some r):L.entryRow past names=if DH L past r=0 then .ok r else .error (DH L past r):=by
 unfold MY DH
 rw[h]
 dsimp only
 split
 ·rfl
 ·split
  ·rfl
  ·split
   ·rfl
   ·rfl
theorem K4 {z:Addr}{H:Hp}{o:HO}:hid [z] (upd H z o)=hid [z] H:=by
 funext b
 by_cases m:b∈[z]
 ·rw[DD m,DD m]
 ·rw[Ay m,Ay m,AE fun q=>m (by simp[q])]
theorem YL {L:Ag}{past:List Ax}{r:List Nat} (h:DH L past r=0):past.length < 2048:=by
 unfold DH at h
 split at h
 ·cases h
 ·split at h
  ·cases h
  ·split at h
   ·cases h
   ·rename_i q
    have q:¬2048≤past.length:=q
    omega
abbrev Lr:Stmt:=SA
def C0 (L:Ag) (n:Aj):V:=match L.find n with
 | some j=>.int (j:Nat)
 | none=>.non
def HS (L:Ag) (b:Aj):List V:=(Br 46 b).map (C0 L)
theorem Yx (L:Ag) (n:Aj):(Ar (Be 0 (L.kinds.map zk)) (A2 (zs n))).getD .non=C0 L n:=by
 rw[Zr]
 unfold C0
 cases L.find n <;> rfl
theorem Yy (L:Ag) (b:Aj):(HS L b).all CT=true:=by
 unfold HS
 rw[El,Cg]
 intro n _
 show CT (C0 L n)=true
 unfold C0
 cases L.find n <;> rfl
theorem SK {L:Ag}:∀{ns:List Aj},inV .non (ns.map (C0 L))=(L.rowIn ns).isNone
 | []=>rfl
 | n::ns=>by
  have ih:=SK (L:=L) (ns:=ns)
  show(eqV (C0 L n) .non || inV .non (ns.map (C0 L)))=_
  rw[ih]
  unfold FI C0
  rw[FP]
  cases hf:L.find n with
  | none=>rfl
  | some i =>
   show(false || (Hk L.find ns).isNone)=_
   rw[GR]
   cases hr:Hk L.find ns with
   | none=>rfl
   | some r=>rfl
theorem SM {L:Ag}:∀{ns:List Aj}{r:List Nat},L.rowIn ns=some r→ns.map (C0 L)=(zn r).map V.int
 | [],r,h=>by
  simp[FI] at h
  subst h
  rfl
 | n::ns,r,h=>by
  unfold FI at h
  rw[FP] at h
  cases hf:L.find n with
  | none=>rw[hf] at h;cases h
  | some i =>
   rw[hf] at h
   cases hr:Hk L.find ns with
   | none=>rw[hr] at h;cases h
   | some r' =>
    rw[hr] at h
    have h:some (i::r')=some r:=h
    cases h
    have e:C0 L n=V.int (i:Nat):=by unfold C0;rw[hf]
    rw[Au,SM (L:=L) (ns:=ns) (r:=r') hr,e]
    rfl
def Sw (K:AA) (CL CK:Addr):Sp:=fun vs H Q _=>∃(a c:Addr) (p:LA) (L:Ag) (fl:List Int) (b:Aj),vs=[.ref a,.ref c]∧LockAt CL CK H a p (zs L.name) (L.kinds.map zk) fl∧SqL K H c ((zs b).map V.int)∧b.length < 100000∧
 ∀(H':Hp) (x:Addr),Same H H'→H x=none→H' x=some (.lst (HS L b))→Q (.ref x) H'
theorem scSigns:AY ["locker","word","name"] ["locker","word"] (AK Lr):=⟨rfl,rfl,rfl,by decide +kernel,rfl,by decide +kernel,by decide +kernel⟩
section
variable {P:Program}{w:World}{K:AA}{mg:Str→Option Value}{base:Heap}{CB CE CL CK:Addr}
theorem ok_signs {f:Addr}{fd:FuncData} (F:Fun K "signs_told" "signs_told" Lr f fd) (B:Blt mg) (TL:LockC K CL) (c1:Cst mg "FULL_STOP" (.int 46)) (g1:Has P w K mg "split_at" 1 ["mark","values"] (EE K)):FnOk P w K mg base CX0 2 f fd ["locker","word"] (Sw K CL CK):=by
 refine F.ok scSigns (fun vs H Q E h=>?_) (fun cdv A outer s H vs Q E hr h=>?_)
 ·obtain⟨a,c,p,L,fl,b,rfl,_⟩:=h
  rfl
 ·obtain⟨a,c,p,L,fl,b,rfl,hL,hS,hlen,k⟩:=h
  have hu:=E5 hr
  have zl:(zs b).length < 100000:=by rw[Aw];exact hlen
  refine⟨_,AH (AL (DW (own:=[("name",2)]) rfl scSigns.nd (Dm (AN g1 hr (by rfl) (AB (AW c1 rfl) (AB (pv 1) AD)))) (DQ (N:=["locker","word","name"]) (sc:=AK Lr) (by decide +kernel))
    (fun s H C cl fp=>Bq (i:=2) scSigns.nd rfl (AZ rfl)) (fun s H C cl fp=>Dq) (fun s H C cl fp=>Xj hu (Ec K rfl (pv 0) rfl) (QJ (VX K rfl) (by rfl) B.tuple VT (AB (pv 2) AD)) ⟨rfl,rfl,rfl,rfl⟩))),?_⟩
  refine⟨_,rfl,c,46,zs b,rfl,hS,zl,fun H2 pn an s2 npn nan hpn hpan=>?_⟩
  rw[IK] at hpan
  have hal:=CU hpan
  rw[AG] at hal
  obtain⟨hb46,_⟩:=Py b
  refine⟨pn,rfl,⟨_,SqL.of hpn⟩,fun D hD=>?_⟩
  have L2:=hL.mono s2
  obtain⟨dxL,hoL⟩:=L2.ob
  unfold HS at k
  generalize Br 46 b=names at hpan hal hb46 k
  refine LC (n:=(an.map V.ref).length) (tt:=FE) (fun i H'=>Same H2 H'∧H' D=some (.lst ((names.take i).map (C0 L)))) ⟨(Same.refl H2).new hD,AI⟩
   (fun i H' hi p=>EU (SqL.of (p.1 _ _ hpn)) hi) (fun H' p=>EV (SqL.of (p.1 _ _ hpn))) ?_ ?_
  ·rintro i y H3 H3' hi ⟨sH,hDH⟩ ⟨rfl,hy⟩
   have hy:=hy _ (SqL.of (sH _ _ hpn))
   rw[AG] at hi
   obtain⟨nm',hnm⟩:∃nm',names[i]?=some nm':=⟨_,BD (by omega)⟩
   obtain⟨cc,hc,hcc⟩:=DF hpan (i:=i) (b:=zs nm') (by rw[Ah,hnm];rfl)
   rw[Ah,hc] at hy
   have ey:V.ref cc=y:=Ae hy
   subst ey
   refine⟨rfl,?_⟩
   simp only[FE,if_true]
   refine⟨_,rfl,a,CL,dxL,_,_,rfl,sH _ _ hoL,TL.cl,TL.signs,Fy,p.sg,rfl,.inr ⟨_,Rd.of (sH _ _ L2.sg)⟩,_,rfl,cc,_,rfl,SqL.of (sH _ _ hcc),fun tp ntp=>?_⟩
   have nDtp:D≠tp:=Am hDH ntp
   have s3:Same H3' (upd H3' tp (.tup ((zs nm').map V.int))):=(Same.refl _).new ntp
   have ht:upd H3' tp (.tup ((zs nm').map V.int)) tp=some (.tup ((A2 (zs nm')).map kV)):=by rw[K5];exact AI
   refine⟨_,DGet.t (k:=A2 (zs nm')) (s3 _ _ (sH _ _ L2.sg)) ht,?_⟩
   rw[Yx]
   refine⟨_,s3 _ _ hDH,Bo (by rw[AG,EG];omega),(sH.trans s3).wr hD,?_⟩
   rw[AI,MM hnm,CV]
   rfl
  ·rintro H3 ⟨s3,hD3⟩
   rw[AG,T5 (show names.length≤an.length by omega)] at hD3
   exact k H3 D (s2.trans s3) (s2.free hD) hD3
end
abbrev RK:Stmt:=SF
def Sy (K:AA) (CL CK CB CE:Addr):Sp:=fun vs H Q _=>∃(a b la:Addr) (p:LA) (q:BA) (L:Ag) (fl nm bfl:List Int) (past:List Ax) (ln:Aj),vs=[.ref a,.ref b,.ref la]∧LockAt CL CK H a p (zs L.name) (L.kinds.map zk) fl∧Wf L.kinds∧BookAt CB CE H b q nm past bfl∧
 past.length≤2048∧SqL K H la ((zs ln).map V.int)∧ln.length < 100000∧
 (∀k,CI L past ln=.error k→∀H',Same H H'→Q (.int k) H')∧
 (∀past',CI L past ln=.ok past'→∀H',BookAt CB CE H' b q nm past' bfl→past'.length≤2048→KeepBut [q.be] H H'→Q (.int 0) H')
theorem scTakeE:AY ["locker","book","line","row","fault"] ["locker","book","line"] (AK RK):=⟨rfl,rfl,rfl,by decide +kernel,rfl,by decide +kernel,by decide +kernel⟩
section
variable {P:Program}{w:World}{K:AA}{mg:Str→Option Value}{base:Heap}{CB CE CL CK:Addr}
theorem ok_takeE {f:Addr}{fd:FuncData} (F:Fun K "take_entry" "take_entry" RK f fd) (TB:BookC K CB) (c1:Cst mg "NO_SUCH_LINE" (.int 1)) (c2:Cst mg "NO_SIGN" (.int 3)) (g1:Has P w K mg "is_entry_line" 4 ["line"] (SV K)) (g2:Has P w K mg "row_word" 2 ["line"] (JN K)) (g6:Has P w K mg "signs_told" 2 ["locker","word"] (Sw K CL CK))
  (g3:Has P w K mg "row_fault" 4 ["locker","book","row"] (Ss K CL CK CB CE)) (g4:EO P w K mg "Entry" CE 1 ["self","row","meaning"] (ED CE IY)) (g5:Has P w K mg "meaning_told" 3 ["line"] (L7 K)):FnOk P w K mg base CX0 5 f fd ["locker","book","line"] (Sy K CL CK CB CE):=by
 refine F.ok scTakeE (fun vs H Q E h=>?_) (fun cdv A outer s H vs Q E hr h=>?_)
 ·obtain⟨a,b,la,p,q,L,fl,nm,bfl,past,ln,rfl,_⟩:=h
  rfl
 ·obtain⟨a,b,la,p,q,L,fl,nm,bfl,past,ln,rfl,hL,hW,hB,hpl,hS,hlen,ke,ko⟩:=h
  have hr2:Room 2 _:=hr.mono (by decide)
  have hr3:Room 3 _:=hr.mono (by decide)
  have hu:=E5 hr
  have zl:(zs ln).length < 100000:=by rw[Aw];exact hlen
  refine⟨_,AJ (Al (Dn (Cm (AN g1 hr (by rfl) (AB (pv 2) AD)))) (AH (AL (AW c1 rfl))) An)
   (AJ (BB (i:=3) scTakeE.nd rfl (AZ rfl) (AN g6 hr2 (by rfl) (AB (pv 0) (AB (AN g2 hr2 (by rfl) (AB (pv 2) AD)) AD))))
   (AJ (Al (Ac QE Ck (pv 3) (by rfl)) (AH (AL (AW c2 rfl))) An)
   (AJ (BB (i:=4) scTakeE.nd rfl (AZ rfl) (AN g3 hr (by rfl) (AB (pv 0) (AB (pv 1) (AB (pv 3) AD)))))
   (AJ (Al (Ac BZ (pv 4) AO (AR _)) (AH (FA (Eb Er Gg Gh Fz (Ak (pv 1) rfl) (AB (F4 g4 hr2 (by rfl) (AB (pv 3) (AB (AN g5 hr3 (by rfl) (AB (pv 2) AD)) AD))) AD)))) An)
   (AH (AL (pv 4))))))),?_⟩
  refine⟨_,rfl,la,ln,rfl,hS,hlen,fun H1 s1=>⟨_,rfl,?_⟩⟩
  have hent:=V7 ln
  cases hok:ER ln with
  | false =>
   rw[hok,if_neg Af] at hent
   exact bT rfl (ke 1 (by unfold CI;rw[hent]) H1 s1)
  | true =>
  rw[hok,if_pos rfl] at hent
  refine bF rfl ?_
  have hn8:(Br 46 (Bz ln)).length≤8:=by
   unfold ER at hok
   rw[BI,BI] at hok
   exact of_decide_eq_true hok.1.1
  refine⟨_,rfl,_,rfl,la,zs ln,rfl,s1.seq hS,zl,fun H2 pw s2 npw hpw=>?_⟩
  rw[Ie] at hpw
  have:=Ol ln
  have s12:=s1.trans s2
  refine⟨a,pw,p,L,fl,Bz ln,rfl,hL.mono s12,SqL.of hpw,by omega,fun H4 D3 s4 hD3 hd4=>?_⟩
  have s14:=s12.trans s4
  have hsf:=Yy L (Bz ln)
  unfold HS at hd4 hsf
  generalize hnames:Br 46 (Bz ln)=names at hent hn8 hd4 hsf
  refine⟨_,rfl,D3,_,rfl,.inl (SqL.of hd4),rfl,hsf,_,rfl,?_⟩
  rw[if_neg Af,SK]
  cases hrow:L.rowIn names with
  | none =>
   refine bT rfl ?_
   refine ke 3 ?_ H4 s14
   unfold CI
   rw[hent]
   dsimp only
   unfold MY
   rw[hrow]
  | some r =>
   obtain⟨ra,rm,rlt⟩:=Qe hrow
   have hrl:r.length=names.length:=by rw[rm,AG]
   refine bF rfl ?_
   rw[SM hrow] at hd4
   refine⟨_,rfl,_,rfl,_,rfl,a,b,D3,p,q,L,fl,nm,bfl,past,r,rfl,hL.mono s14,hW,hB.mono s14,SqL.of hd4,by omega,Qc hrow,(fun z=>D4 46 (Bz ln) (by rw[hnames];rw[z] at hrl;exact Jn.mp hrl.symm)),hpl,fun H6 s6=>?_⟩
   have s16:=s14.trans s6
   have hrow2:=V6 L past names hrow
   have hstep:CI L past ln=if DH L past r=0 then .ok (past++[⟨r,C1 ln⟩]) else .error (DH L past r):=by
    unfold CI
    rw[hent]
    dsimp only
    rw[hrow2]
    by_cases z:DH L past r=0
    ·rw[if_pos z,if_pos z]
    ·rw[if_neg z,if_neg z]
   refine⟨_,rfl,rfl,_,rfl,?_⟩
   by_cases h0:DH L past r=0
   ·rw[if_pos h0] at hstep
    refine bT (decide_eq_true (by rw[h0];rfl)) ?_
    have B6:=hB.mono s16
    obtain⟨dxB,hoB⟩:=B6.ob
    obtain⟨as,hbe,hpe⟩:=B6.es
    have hael:=CU hpe
    have nD3:D3≠q.be:=fun z=>by
     obtain⟨as4,h4,_⟩:=(hB.mono s12).es
     rw[z,h4] at hD3;cases hD3
    refine⟨_,rfl,b,CB,dxB,_,_,rfl,hoB,TB.cl,TB.entries,Gs,.inl ⟨rfl,_,SqL.of hbe⟩,?_⟩
    refine⟨_,rfl,_,rfl,la,zs ln,rfl,s16.seq hS,zl,fun H7 pm s7 npm hpm=>?_⟩
    rw[Pw] at hpm
    have npmq:pm≠q.be:=fun z=>by rw[z,hbe] at npm;cases npm
    intro x dx nx nd0 ne0
    refine⟨x,dx,[.ref D3,.ref pm],ef D3 pm,rfl,rfl,AI,fun H8 hx kp8=>⟨rfl,?_⟩⟩
    have s8:Same H7 H8:=Same.made nx nd0 kp8
    have s68:=s7.trans s8
    have nxq:x≠q.be:=fun z=>by rw[z,s7 _ _ hbe] at nx;cases nx
    have hbe8:=s68 _ _ hbe
    refine⟨q.be,_,_,rfl,rfl,hbe8,Bo (by rw[AG];omega),?_⟩
    have h0':(0:Int)=((DH L past r:Nat):Int):=by rw[h0];rfl
    refine⟨_,rfl,?_⟩
    rw[← h0']
    have nbq:b≠q.be:=Bc hoB hbe (by intro z;cases z)
    have B8:=B6.mono s68
    refine ko _ hstep _ ⟨⟨dxB,by rw[AE nbq];exact s68 _ _ hoB⟩,by rw[K4];exact B8.nm,⟨as++[x],by rw[AI,CV];rfl,?_⟩,by rw[K4];exact B8.bf⟩ (by rw[BO];have:=YL h0;simp;omega) ?_
    ·rw[K4]
     refine HJ (Paired.mapP hpe fun y e qq=>qq.mono (Ig s68)) ⟨dx,D3,pm,?_,?_,?_⟩
     ·rw[Ay (by simpa using nxq)];exact hx
     ·rw[Ay (by simpa using nD3)];exact s68 _ _ (s6 _ _ hd4)
     ·rw[Ay (by simpa using npmq)];exact s8 _ _ hpm
    ·intro y o e n
     rw[AE fun z=>n (by simp[z])]
     exact s68 _ _ (s16 _ _ e)
   ·rw[if_neg h0] at hstep
    refine bF (decide_eq_false (BK (by omega))) ?_
    exact⟨_,rfl,ke _ hstep H6 s16⟩
end
end Fb
end
section
set_option maxRecDepth 100000
set_option maxHeartbeats 4000000
namespace Fb
open PySem PySem.Spec PyProof.Rows L2
theorem V2:BJ "book"=zs (Az "book"):=by decide +kernel
theorem V3:BJ "for"=zs (Az "for"):=by decide +kernel
abbrev RJ:Stmt:=SG
def Np (q q':BA):Prop:=q'.be=q.be∧q'.bf=q.bf
def JO (K:AA) (CL CK CB CE:Addr):Sp:=fun vs H Q _=>∃(a b la:Addr) (p:LA) (q:BA) (L:Ag) (fl bfl:List Int) (st:BS) (i:Nat) (ln:Aj),vs=[.ref a,.ref b,.int (i:Nat),.ref la]∧LockAt CL CK H a p (zs L.name) (L.kinds.map zk) fl∧Wf L.kinds∧
 BookAt CB CE H b q (zs st.name) st.entries bfl∧st.entries.length≤2048∧SqL K H la ((zs ln).map V.int)∧ln.length < 100000∧
 (∀k,BH L st i ln=.error k→∀H',Same H H'→Q (.int k) H')∧
 (∀st',BH L st i ln=.ok st'→∀H' q',BookAt CB CE H' b q' (zs st'.name) st'.entries bfl→Np q q'→st'.entries.length≤2048→KeepBut [b,q.be] H H'→Q (.int 0) H')
theorem Yp:AY ["locker","book","number","line"] ["locker","book","number","line"] (AK RJ):=⟨rfl,rfl,rfl,by decide +kernel,rfl,by decide +kernel,by decide +kernel⟩
section
variable {P:Program}{w:World}{K:AA}{mg:Str→Option Value}{base:Heap}{CB CE CL CK:Addr}
theorem ok_takeB {f:Addr}{fd:FuncData} (F:Fun K "take_line" "take_line" RJ f fd) (hne:CB≠CE) (TL:LockC K CL) (TB:BookC K CB) (c1:Cst mg "NO_SUCH_LINE" (.int 1)) (c2:Cst mg "OTHER_LOCKER" (.int 2)) (c3:Cst mg "HEAD_LINES" (.int 2)) (g1:Has P w K mg "is_naming_line" 3 ["line","first"] (MB K)) (g2:Has P w K mg "named" 2 ["line"] (MA K))
  (g3:Has P w K mg "take_entry" 5 ["locker","book","line"] (Sy K CL CK CB CE)):FnOk P w K mg base CX0 6 f fd ["locker","book","number","line"] (JO K CL CK CB CE):=by
 refine F.ok Yp (fun vs H Q E h=>?_) (fun cdv A outer s H vs Q E hr h=>?_)
 ·obtain⟨a,b,la,p,q,L,fl,bfl,st,i,ln,rfl,_⟩:=h
  rfl
 ·obtain⟨a,b,la,p,q,L,fl,bfl,st,i,ln,rfl,hL,hW,hB,hpl,hS,hlen,ke,ko⟩:=h
  have hr2:Room 2 _:=hr.mono (by decide)
  have hr3:Room 3 _:=hr.mono (by decide)
  have zl:(zs ln).length < 100000:=by rw[Aw];exact hlen
  refine⟨_,AJ (Al (Ac XZ (pv 2) (AW c3 rfl) (AR _)) (AH (AL (AN g3 hr (by rfl) (AB (pv 0) (AB (pv 1) (AB (pv 3) AD)))))) An)
   (AJ (Al (Dn (Cm (AN g1 hr3 (by rfl) (AB (pv 3) (AB (Lc (Ac BZ (pv 2) AO (AR _)) DX DX) AD))))) (AH (AL (AW c1 rfl))) An)
   (AJ (Al (Ac BZ (pv 2) AO (AR _)) (AH (BU (pv 1) (AN g2 hr2 (by rfl) (AB (pv 3) AD)) rfl))
    (AH (Al (Ac (HH hr.units) (AN g2 hr2 (by rfl) (AB (pv 3) AD)) (Ak (pv 0) rfl) (AR _)) (AH (AL (AW c2 rfl))) An)))
   (AH (AL AO)))),?_⟩
  refine⟨_,rfl,_,_,rfl,rfl,_,rfl,?_⟩
  by_cases h2:2≤i
  ·have hstep:BH L st i ln=(CI L st.entries ln).map fun l=>⟨st.name,l⟩:=by
    unfold BH
    rw[if_pos h2]
   refine bT (decide_eq_true (by omega)) ?_
   refine⟨_,rfl,_,rfl,_,rfl,a,b,la,p,q,L,fl,_,bfl,st.entries,ln,rfl,hL,hW,hB,hpl,hS,hlen,fun k hk H' s'=>?_,fun past' hp H' hB' hl' kb=>?_⟩
   ·exact ke k (by rw[hstep,hk];rfl) H' s'
   ·exact ko ⟨st.name,past'⟩ (by rw[hstep,hp];rfl) H' q hB' ⟨rfl,rfl⟩ hl' (kb.mono fun y hy=>Ao _ hy)
  ·refine bF (decide_eq_false (by omega)) ?_
   by_cases h0:i=0
   ·subst h0
    have hstep:BH L st 0 ln=match Bt (Az "book") ln with
      | none=>.error 1
      | some n=>.ok ⟨n,st.entries⟩:=by
     unfold BH
     rw[if_neg (by omega),if_pos rfl]
     try rfl
    refine⟨_,rfl,_,rfl,rfl,_,rfl,bT (decide_eq_true rfl) ?_⟩
    refine⟨la,zs ln,"book",rfl,hS,zl,by decide,fun H1 s1=>⟨_,rfl,?_⟩⟩
    rw[LL,V2]
    cases hn:Bt (Az "book") ln with
    | none =>
     rw[hn] at hstep
     rw[LM hn]
     exact bT rfl (ke 1 hstep H1 s1)
    | some n =>
     rw[hn] at hstep
     obtain⟨q1,q2⟩:=LN hn
     rw[q1]
     refine bF rfl ?_
     refine⟨_,rfl,rfl,_,rfl,bT (decide_eq_true rfl) ?_⟩
     refine⟨_,rfl,la,zs ln,zs n,rfl,s1.seq hS,zl,q2,fun H2 z s2 nz hz=>?_⟩
     have s12:=s1.trans s2
     have B2:=hB.mono s12
     obtain⟨dx,ho⟩:=B2.ob
     obtain⟨as,hbe,hpe⟩:=B2.es
     refine⟨_,rfl,b,CB,dx,_,rfl,ho,TB.cl,TB.name,(by show 3 < 1000;decide),?_⟩
     have nzq:z≠q.be:=fun e=>by
      obtain⟨as1,h1,_⟩:=(hB.mono s1).es
      rw[e,h1] at nz;cases nz
     have nb:∀{x:Addr} {o:HO},H2 x=some o→(∀dx fs,o≠.ins CB dx fs)→x≠b:=fun e n=>Bc e ho (n _ _)
     have k1:∀x o,H2 x=some o→x≠b→upd H2 b (.ins CB dx (A9 "name" (V.ref z) (bfB q.bn q.be q.bf))) x=some o:=fun x o e n=>by rw[AE n];exact e
     have kh:∀x o,hid [q.be] H2 x=some o→(∀dx fs,o≠.ins CB dx fs)→hid [q.be] (upd H2 b (.ins CB dx (A9 "name" (V.ref z) (bfB q.bn q.be q.bf)))) x=some o:=fun x o e n=>by
      have nx:x∉[q.be]:=fun m=>by rw[DD m] at e;cases e
      rw[Ay nx] at e ⊢
      exact k1 x o e (nb e n)
     refine ko ⟨n,st.entries⟩ hstep _ ⟨z,q.be,q.bf⟩ ⟨⟨dx,AI⟩,kh _ _ (by rw[Ay (by simpa using nzq)];exact hz) (fun _ _ e=>nomatch e),⟨as,k1 _ _ hbe (nb hbe fun _ _ e=>nomatch e),Paired.mapP hpe fun y e qq=>?_⟩,kh _ _ B2.bf (fun _ _ e=>nomatch e)⟩ ⟨rfl,rfl⟩ hpl ?_
     ·obtain⟨d2,ar,am,w1,w2,w3⟩:=qq
      exact⟨d2,ar,am,kh _ _ w1 (fun _ _ e=>by cases e;exact hne rfl),kh _ _ w2 (fun _ _ e=>nomatch e),kh _ _ w3 (fun _ _ e=>nomatch e)⟩
     ·intro y o e n
      exact k1 y o (s12 y o e) fun w=>n (by simp[w])
   ·have h1:i=1:=by omega
    subst h1
    have hstep:BH L st 1 ln=match Bt (Az "for") ln with
      | none=>.error 1
      | some o=>if o≠L.name then .error 2 else .ok st:=by
     unfold BH
     rw[if_neg (by omega),if_neg (by omega)]
     try rfl
    refine⟨_,rfl,_,rfl,rfl,_,rfl,bF (decide_eq_false (BK (by decide))) ?_⟩
    refine⟨la,zs ln,"for",rfl,hS,zl,by decide,fun H1 s1=>⟨_,rfl,?_⟩⟩
    rw[LL,V3]
    cases hn:Bt (Az "for") ln with
    | none =>
     rw[hn] at hstep
     rw[LM hn]
     exact bT rfl (ke 1 hstep H1 s1)
    | some n =>
     rw[hn] at hstep
     obtain⟨q1,q2⟩:=LN hn
     rw[q1]
     refine bF rfl ?_
     refine⟨_,rfl,rfl,_,rfl,bF (decide_eq_false (BK (by decide))) ?_⟩
     refine⟨_,rfl,la,zs ln,zs n,rfl,s1.seq hS,zl,q2,fun H2 z s2 nz hz=>?_⟩
     have s12:=s1.trans s2
     have L2:=hL.mono s12
     obtain⟨dx,ho⟩:=L2.ob
     refine⟨_,rfl,a,CL,dx,_,_,rfl,ho,TL.cl,TL.name,Wy,?_⟩
     refine⟨_,_,A6 (SqL.of hz),A6 (SqL.of L2.nm),A3 _,A3 _,?_⟩
     rw[CQ]
     refine⟨_,rfl,?_⟩
     have hstep:BH L st 1 ln=if n≠L.name then .error 2 else .ok st:=hstep
     by_cases hq:n=L.name
     ·rw[if_neg fun w=>w hq] at hstep
      refine bF (by rw[decide_eq_true (by rw[hq])];rfl) ?_
      exact ko st hstep H2 q (hB.mono s12) ⟨rfl,rfl⟩ hpl (KeepBut.of s12)
     ·rw[if_pos hq] at hstep
      refine bT (by rw[decide_eq_false fun w=>hq (Ds w)];rfl) ?_
      exact ke 2 hstep H2 s12
end
end Fb
end
section
set_option maxRecDepth 100000
set_option maxHeartbeats 4000000
namespace Fb
open PySem PySem.Spec PyProof.Rows L2
open PySem.W (CodeHd tabObj kla_obj kla_fn envX)
abbrev JH:Stmt:=R4
abbrev B1:Expr:=Pc JH
abbrev CZ:Str:="read_book.<locals>.<lambda>"
def P5 (cL cB:Addr) (pm:Value) (c':Addr) (ctv:Value):Obj:=kla_obj "<lambda>" CZ (Ft B1) (Fu B1) (DE B1) [("locker",cL),("book",cB)] pm c' ctv
theorem frB:∀y∈(DE B1).names,y.2=EK→y.1∈(["locker","book"]:List Str):=by decide +kernel
theorem YZ {cL cB:Addr} (h:cL≠cB):IC ["number","line","locker","book"] ["number","line"] (DE B1) [("locker",cL),("book",cB)] :=
 ⟨rfl,rfl,rfl,by decide +kernel,rfl,by decide +kernel,by decide +kernel,rfl,fun x hx=>by
  have:x="locker"∨x="book":=by
   rcases AS.mp hx with q | q
   ·exact .inl q
   ·exact .inr (A4.mp q)
  rcases this with rfl | rfl
  ·decide +kernel
  ·decide +kernel,fun y hy=>frB _ (Bi hy) rfl,DA.mpr ⟨fun m=>h (A4.mp m),DA.mpr ⟨De,Jr⟩⟩⟩
def Sf (K:AA) (CL CK CB CE f c' cL cB:Addr) (pm ctv:Value):Sp:=fun vs H Q _=>∃(i:Nat) (la a b:Addr),vs=[.int (i:Nat),.ref la]∧H f=some (KO f (P5 cL cB pm c' ctv))∧CodeO H c' CZ∧CellV H cL (.ref a)∧CellV H cB (.ref b)∧
 JO K CL CK CB CE [.ref a,.ref b,.int (i:Nat),.ref la] (hid [cL,cB] H) (fun v H'=>(H' cL=none∧H' cB=none)→Q v (Cp [cL,cB] H H')) E0
section
variable {P:Program}{w:World}{K:AA}{mg:Str→Option Value}{base:Heap}{CL CK CB CE:Addr}
theorem XU {f c' cL cB:Addr}{pm ctv:Value} (hcc:cL≠cB) (g:Has P w K mg "take_line_books" 6 ["locker","book","number","line"] (JO K CL CK CB CE)):
  FnOk P w K mg base CX0 7 f (kla_fn "<lambda>" CZ (Ft B1) (Fu B1) (DE B1) [("locker",cL),("book",cB)] pm (.ref c') ctv) ["number","line"] (Sf K CL CK CB CE f c' cL cB pm ctv):=by
 refine K9 (YZ hcc) (fun vs H Q E h=>?_) (fun vs H Q E h=>?_)
 ·obtain⟨i,la,a,b,rfl,_⟩:=h
  rfl
 ·obtain⟨i,la,a,b,rfl,hf,hc,hv,hv2,hsp⟩:=h
  refine⟨hf,hc,[.ref a,.ref b],.cons hv (.cons hv2 .nil),fun A outer s hr=>?_⟩
  refine⟨_,AN g hr (by rfl) (AB (pv 2) (AB (pv 3) (AB (pv 0) (AB (pv 1) AD)))),?_⟩
  refine⟨_,rfl,_,rfl,_,rfl,_,rfl,?_⟩
  obtain⟨a',b',la',p,q,L,fl,bfl,st,i',ln,e,r1,r2,r3,r4,r5,r6,k1,k2⟩:=hsp
  have two:∀{H':Hp},(∀c∈([("locker",cL),("book",cB)]:List (Str×Addr)).map (·.2),H' c=none)→H' cL=none∧H' cB=none:=fun hn=>⟨hn _ (by simp),hn _ (by simp)⟩
  exact⟨a',b',la',p,q,L,fl,bfl,st,i',ln,e,r1,r2,r3,r4,r5,r6,fun k hk H' s' hn=>k1 k hk H' s' (two hn),fun s' hs H' p' q1 q2 q3 q4 hn=>k2 s' hs H' p' q1 q2 q3 q4 (two hn)⟩
end
theorem Y6 {L:Ag}{s:BS}{i k:Nat}{b:Aj} (h:BH L s i b=.error k):k≠0:=by
 unfold BH at h
 split at h
 ·unfold CI at h
  cases hk:GU b with
  | none =>
   rw[hk] at h
   have h:(CM 1:Except Nat BS)=.error k:=h
   cases h;decide
  | some x =>
   obtain⟨n,m⟩:=x
   rw[hk] at h
   dsimp only at h
   cases hr:L.entryRow s.entries n with
   | ok r=>rw[hr] at h;cases h
   | error e =>
    rw[hr] at h
    have h:(CM e:Except Nat BS)=.error k:=h
    cases h
    unfold MY at hr
    intro q
    subst q
    split at hr
    ·cases hr
    ·split at hr
     ·cases hr
     ·split at hr
      ·cases hr
      ·split at hr <;> cases hr
 ·split at h
  ·split at h
   ·cases h;decide
   ·cases h
  ·split at h
   ·cases h;decide
   ·split at h
    ·cases h;decide
    ·cases h
theorem BookAt.faultB {CB CE:Addr}{H H':Hp}{b z dx:Addr}{q:BA}{name:List Int}{es:List Ax}{fault fl:List Int} (hne:CB≠CE) (h:BookAt CB CE H b q name es fault) (hd:H b=some (.ins CB dx (bfB q.bn q.be q.bf))) (hz:H z=some (.lst (fl.map V.int))) (nz:z≠q.be)
  (e:H'=upd H b (.ins CB dx (A9 "fault" (.ref z) (bfB q.bn q.be q.bf)))):BookAt CB CE H' b ⟨q.bn,q.be,z⟩ name es fl:=by
 subst e
 have kh:∀x o,hid [q.be] H x=some o→(∀dx fs,o≠.ins CB dx fs)→hid [q.be] (upd H b (.ins CB dx (A9 "fault" (V.ref z) (bfB q.bn q.be q.bf)))) x=some o:=fun x o e n=>by
  have nx:x∉[q.be]:=fun m=>by rw[DD m] at e;cases e
  rw[Ay nx] at e ⊢
  rw[AE (Bc e hd (n _ _))]
  exact e
 obtain⟨as,hbe,hpe⟩:=h.es
 refine⟨⟨dx,AI⟩,kh _ _ h.nm (fun _ _ e=>nomatch e),⟨as,?_,Paired.mapP hpe fun y e qq=>?_⟩,kh _ _ (by rw[Ay (by simpa using nz)];exact hz) (fun _ _ e=>nomatch e)⟩
 ·rw[AE (Bc hbe hd (by intro z;cases z))];exact hbe
 ·obtain⟨d2,ar,am,w1,w2,w3⟩:=qq
  exact⟨d2,ar,am,kh _ _ w1 (fun _ _ e=>by cases e;exact hne rfl),kh _ _ w2 (fun _ _ e=>nomatch e),kh _ _ w3 (fun _ _ e=>nomatch e)⟩
theorem Vc (t:Aj):(zs t).count 10=(Ad t).length:=by
 have h1:=IL 10 (zs t)
 rw[Ks,Gy,AG,BO,C8] at h1
 omega
def Gq (L:Ag) (t:Aj) (nm:List Int) (es:List Ax) (fl:List Int):Prop:=match L.judgeBook t with
 | .error e=>fl=[(e.1:Int),(e.2:Int)]
 | .ok B=>fl=[]∧nm=zs B.name∧es=B.entries∧es.length≤2048
def Sq (K:AA) (CL CK CB CE Pt:Addr):Sp:=fun vs H Q _=>∃(l a:Addr) (p:LA) (L:Ag) (lfl:List Int) (t:Aj),vs=[.ref l,.ref a]∧LockAt CL CK H l p (zs L.name) (L.kinds.map zk) lfl∧Wf L.kinds∧SqL K H a ((zs t).map V.int)∧t.length < 80000∧BF H Pt (BY B1) CZ∧
 ∀(H':Hp) (x:Addr) (q:BA) (nm:List Int) (es:List Ax) (fl:List Int),KeepBut [Pt] H H'→BF H' Pt (BY B1) CZ→BookAt CB CE H' x q nm es fl→Gq L t nm es fl→Q (.ref x) H'
theorem scReadB:AY ["locker","text","book"] ["locker","text"] (AK JH):=⟨rfl,rfl,rfl,by decide +kernel,rfl,by decide +kernel,by decide +kernel⟩
section
variable {P:Program}{w:World}{K:AA}{mg:Str→Option Value}{base:Heap}{CL CK CB CE Pt:Addr}
theorem ok_readB {f c:Addr}{fd:FuncData} (F:Fun K "read_book" "read_book" JH f fd) (hc:fd.code=.ref c) (C:CodeHd base c Pt) (hbm:EN mg base) (hne:CB≠CE) (TB:BookC K CB) (c1:Cst mg "NO_SUCH_LINE" (.int 1)) (c2:Cst mg "HEAD_LINES" (.int 2)) (g0:EO P w K mg "Book" CB 1 ["self"] (SR CB))
  (g1:Has P w K mg "first_fault" 9 ["text","take"] (Lz P w K mg 7)) (g2:Has P w K mg "take_line_books" 6 ["locker","book","number","line"] (JO K CL CK CB CE)) (g3:Has P w K mg "count_lines" 1 ["text"] (Ly K)):
  FnOk P w K mg base CX0 10 f fd ["locker","text"] (Sq K CL CK CB CE Pt):=by
 refine F.okC hc scReadB (fun vs H Q E h=>?_) (fun A outer s H vs Q E hr h=>?_)
 ·obtain⟨l,a,p,L,lfl,t,rfl,_⟩:=h
  rfl
 ·obtain⟨l,a,p,L,lfl,t,rfl,hL,hW,hS,hlen,hT,k⟩:=h
  have hr2:Room 2 _:=hr.mono (by decide)
  have hr1:Room 1 _:=hr.mono (by decide)
  obtain⟨f1,fd1,h1,h2,h3,h4⟩:=g1
  refine⟨_,AJ (BB (i:=2) scReadB.nd rfl (Df rfl) (QO g0 hr2 (by rfl)))
   (AJ (BU (pv 2) (La (h4 base) hr (by rfl) h1 h2 h3 (fun _=>rfl) (by show(["book","locker"]:List Str).Nodup;decide) (AB (pv 1) (AB (Ld (clos:=[("locker",s.heap.objs.size+1),("book",s.heap.objs.size+1+1)]) (qual:=CZ) rfl C hbm (by rfl) (by rfl) (by rfl)) AD))) rfl)
   (AJ (Al (PW.pt (Dr (Ac (EZ hr.units) (Ak (pv 2) rfl) (A7 AD) (AR _)) (Ef (Ac HG (AN g3 hr1 (by rfl) (AB (pv 1) AD)) (AW c2 rfl) (AR _)))))
    (AH (BU (pv 2) (A7 (AB (AW c1 rfl) (AB (AN g3 hr1 (by rfl) (AB (pv 1) AD)) AD))) rfl)) An)
   (AH (AL (pv 2))))),?_⟩
  intro x dx nx ndx nex
  refine⟨x,dx,rfl,AI,fun H1 q hx1 hbn hbe hbf nq1 nq2 kp hfr=>⟨rfl,?_⟩⟩
  have s1:Same H H1:=Same.made nx ndx kp
  have fr:∀y∈[q.bn,q.be,q.bf],H y=none:=fun y hy=>by
   have:=hfr y hy
   cases z:H y with
   | none=>rfl
   | some u =>
    have e1:y≠x:=Am z nx
    have e2:y≠dx:=Am z ndx
    rw[AE e1,AE e2,z] at this
    cases this
  have hB1:BookAt CB CE H1 x q [] [] []:=⟨⟨dx,hx1⟩,by rw[Ay (by simpa using nq1)];exact hbn,⟨[],hbe,.nil⟩,by rw[Ay (by simpa using nq2)];exact hbf⟩
  refine⟨_,rfl,BR s1 hT,fun H2 fL c' pm ctv kp2 nf hf hPt hco=>?_⟩
  intro H3 ho3 hn3 hcell
  have ho3:∀b,b∉[s.heap.objs.size+1+1,s.heap.objs.size+1]→H3 b=H2 b:=ho3
  have hn3:∀b∈[s.heap.objs.size+1+1,s.heap.objs.size+1],H2 b=none:=hn3
  have hcvL:CellV H3 (s.heap.objs.size+1) (.ref l):=hcell 0 "locker" (.ref l) (s.heap.objs.size+1) rfl rfl rfl rfl
  have hcvB:CellV H3 (s.heap.objs.size+1+1) (.ref x):=hcell 2 "book" (.ref x) (s.heap.objs.size+1+1) rfl rfl rfl rfl
  clear hcell
  have hcc:s.heap.objs.size+1≠s.heap.objs.size+1+1:=by omega
  generalize hclB:s.heap.objs.size+1+1=cB at hf ho3 hn3 hcvB hcc
  generalize hclL:s.heap.objs.size+1=cL at hf ho3 hn3 hcvL hcc
  have ncB:H2 cB=none:=hn3 cB (AU ..)
  have ncL:H2 cL=none:=hn3 cL (Ao _ (AU ..))
  have s23:Same H2 H3:=fun b o e=>by
   rw[ho3 b fun m=>by
    rcases AS.mp m with m | m
    ·rw[m,ncB] at e;cases e
    ·rw[A4.mp m,ncL] at e;cases e]
   exact e
  have hTb:∃ps,H1 Pt=some (.tbl ps):=by
   rcases BR s1 hT with e | ⟨c2,e,_⟩
   ·exact⟨_,e⟩
   ·exact⟨_,e⟩
  obtain⟨ps1,hPt1⟩:=hTb
  have s12:SameT H1 H2:=fun b o e n=>kp2 b o e fun z=>by rw[z,hPt1] at e;cases e;exact n _ rfl
  have s13:SameT H1 H3:=s12.trans (Same.t s23)
  have s03:SameT H H3:=(Same.t s1).trans s13
  have B3:BookAt CB CE H3 x q [] [] []:=hB1.monoT s13
  have hS3:SqL K H3 a ((zs t).map V.int):=s03.seq hS
  have hf3:=s23 _ _ hf
  have hPt3:=s23 _ _ hPt
  have hco3:CodeO H3 c' CZ:=KY (Same.t s23) hco
  obtain⟨dx3,hx3⟩:=B3.ob
  obtain⟨as3,hbe3,_⟩:=B3.es
  have out:∀{b:Addr} {o:HO},H3 b=some o→(∀C d fs,o≠.ins C d fs)→(∀xs,o≠.lst xs)→b∉[x,q.be]:=fun {b o} e n1 n2 m=>by
   simp only[AS,De,or_false] at m
   rcases m with rfl | rfl
   ·rw[hx3] at e;cases e;exact n1 _ _ _ rfl
   ·rw[hbe3] at e;cases e;exact n2 _ rfl
  have ourN:∀b∈[x,q.be],H b=none∧H3 b≠none:=fun b m=>by
   simp only[AS,De,or_false] at m
   rcases m with rfl | rfl
   ·exact⟨nx,by rw[hx3];simp⟩
   ·exact⟨fr _ (by simp),by rw[hbe3];simp⟩
  have hcut:Ai 10 (zs t)=(Ad t).map zs++[zs (Bd t)]:=by rw[Ks,Gy,CV];rfl
  have hfl:(Ad t).length≤t.length:=by
   have:=Fl 10 (zs t)
   rw[hcut,BO,AG,Aw] at this
   simp at this
   omega
  have part:∀y∈Ad t,y.length < 100000:=fun y hy=>by
   have:=EA 10 (zs t) (zs y) (by rw[hcut];exact Hl _ (BP.mpr ⟨y,hy,rfl⟩))
   rw[Aw,Aw] at this
   omega
  let J:Nat→Hp→Prop:=fun i H'=>∃(q':BA) (st:BS),Eg (BH L) ⟨[],[]⟩ (Ad t) i st∧BookAt CB CE H' x q' (zs st.name) st.entries []∧st.entries.length≤2048∧Np q q'∧KeepBut [x,q.be] H3 H'
  have Jf:∀{i H'},J i H'→H' fL=some (KO fL (P5 cL cB pm c' ctv)):=fun ⟨_,_,_,_,_,_,kb⟩=>kb _ _ hf3 (out hf3 (fun _ _ _ q=>nomatch q) (fun _ q=>nomatch q))
  have Jc:∀{i H'},J i H'→CodeO H' c' CZ:=fun ⟨_,_,_,_,_,_,kb⟩=>by
   obtain⟨o,vs,tt,e,d,r⟩:=hco3
   exact⟨o,vs,tt,kb _ _ e (out e (fun _ _ _ q=>nomatch q) (fun _ q=>nomatch q)),d,r⟩
  have JlL:∀{i H'},J i H'→H' cL=H3 cL:=fun ⟨_,_,_,_,_,_,kb⟩=>by
   obtain⟨o,u,e,_⟩:=hcvL
   rw[kb _ _ e (out e (fun _ _ _ q=>nomatch q) (fun _ q=>nomatch q)),e]
  have JlB:∀{i H'},J i H'→H' cB=H3 cB:=fun ⟨_,_,_,_,_,_,kb⟩=>by
   obtain⟨o,u,e,_⟩:=hcvB
   rw[kb _ _ e (out e (fun _ _ _ q=>nomatch q) (fun _ q=>nomatch q)),e]
  have Jp:∀{i H'},J i H'→H' Pt=some (.tbl #[rawInt (BY B1).line,rawInt (BY B1).col,.ref c']):=fun ⟨_,_,_,_,_,_,kb⟩=>kb _ _ hPt3 (out hPt3 (fun _ _ _ q=>nomatch q) (fun _ q=>nomatch q))
  have Jm:∀i H1 H2,J i H1→Same H1 H2→J i H2:=fun i H1 H2 ⟨q',st,h1,h2,h3,h4,h5⟩ ss=>⟨q',st,h1,h2.mono ss,h3,h4,h5.trans (KeepBut.of ss)⟩
  have Js:∀{i H'},J i H'→SameT H H':=fun ⟨_,_,_,_,_,_,kb⟩ b o e n=>kb b o (s03 b o e n) fun m=>by rw[(ourN b m).1] at e;cases e
  have TC:Kc P w K mg 7 H3 fL ((Ad t).map zs) J (rAt (BH L) ⟨[],[]⟩ (Ad t)):=by
   refine⟨⟨q,⟨[],[]⟩,S1,B3,A5 _,⟨rfl,rfl⟩,fun b o e _=>e⟩,Jm,fun i H' j=>⟨_,_,Jf j,rfl⟩,_,Sf K CL CK CB CE fL c' cL cB pm ctv,fun base=>XU hcc g2,.all (fun us hl=>match us,hl with | [_,_],_=>rfl),?_⟩
   intro i la ln H4 Q1 hln hJ nla hla hq
   have hf4:=Jf hJ
   have hc4:=Jc hJ
   have hlL4:=JlL hJ
   have hlB4:=JlB hJ
   have hs4:=Js hJ
   obtain⟨q',st,hst,B4,hel,hsb,kb⟩:=id hJ
   rw[Ah] at hln
   cases hb:(Ad t)[i]? with
   | none=>rw[hb] at hln;cases hln
   | some b =>
   rw[hb] at hln
   have eb:zs b=ln:=Ae hln
   subst eb
   have hi:i < (Ad t).length:=(Bf.mp hb).1
   have hR:=JA (step:=BH L) hst hb
   have hcvL4:CellV H4 cL (.ref l):=by
    obtain⟨o,u,e,r⟩:=hcvL
    exact⟨o,u,by rw[hlL4];exact e,r⟩
   have hcvB4:CellV H4 cB (.ref x):=by
    obtain⟨o,u,e,r⟩:=hcvB
    exact⟨o,u,by rw[hlB4];exact e,r⟩
   have plain:Plain [cL,cB] H4:=fun y hy u e=>by
    rcases AS.mp hy with m | m
    ·obtain⟨o,_,z,_⟩:=hcvL4
     rw[m,z] at e
     cases e
     exact⟨_,rfl⟩
    ·obtain⟨o,_,z,_⟩:=hcvB4
     rw[A4.mp m,z] at e
     cases e
     exact⟨_,rfl⟩
   have sN:=G5 plain
   refine⟨i,la,l,x,rfl,hf4,hc4,hcvL4,hcvB4,l,x,la,p,q',L,lfl,[],st,i,b,rfl,(hL.monoT hs4).monoN sN,hW,B4.monoN sN,hel,SqL.of (sN _ _ hla fun _ z=>nomatch z),part b (CN hb),fun kk hk H' s' hn=>?_,fun st' hs H' q'' q1 q2 q3 q4 hn=>?_⟩
   ·rw[hk] at hR
    have hR:rAt (BH L) ⟨[],[]⟩ (Ad t) i=(kk:Int):=hR
    have su:Same H4 (Cp [cL,cB] H4 H'):=fun y o e=>by
     by_cases m:y∈[cL,cB]
     ·rw[GN m];exact e
     ·rw[C2 m];exact s' y o (by rw[Ay m];exact e)
    have kpos:=Y6 hk
    rw[← hR]
    refine hq _ (fun y o _ e=>su y o e) (fun z=>?_) fun _=>Jm i _ _ hJ su
    rw[hR] at z
    exact absurd (show kk=0 by omega) kpos
   ·rw[hs] at hR
    have hR:rAt (BH L) ⟨[],[]⟩ (Ad t) i=0:=hR
    have su:Same H' (Cp [cL,cB] H4 H'):=TF fun y hy=>by
     rcases AS.mp hy with m | m
     ·rw[m];exact hn.1
     ·rw[A4.mp m];exact hn.2
    have ku:KeepBut [x,q.be] H4 (Cp [cL,cB] H4 H'):=fun y o e n=>by
     by_cases m:y∈[cL,cB]
     ·rw[GN m];exact e
     ·rw[C2 m]
      refine q4 y o (by rw[Ay m];exact e) ?_
      rw[hsb.1]
      exact n
    rw[← hR]
    refine hq _ (fun y o n e=>ku y o e fun m=>(ourN y m).2 n) (fun _=>⟨q'',st',S0 hst hb hs,q1.mono su,q3,⟨q2.1.trans hsb.1,q2.2.trans hsb.2⟩,kb.trans ku⟩) fun z=>absurd hR z
  refine⟨a,fL,zs t,(Ad t).map zs,zs (Bd t),J,rAt (BH L) ⟨[],[]⟩ (Ad t),rfl,hS3,by rw[Aw];omega,hcut,TC,fun H0 pR j res hJ0 np0 hTold=>?_⟩
  have hJ:=Jm j _ _ hJ0 ((Same.refl H0).new (o:=.lst (res.map V.int)) np0)
  have hpR:upd H0 pR (.lst (res.map V.int)) pR=some (.lst (res.map V.int)):=AI
  have npq:pR≠q.be:=fun z=>by
   obtain⟨q0,_,_,B0,_,hsb0,_⟩:=hJ0
   obtain⟨as0,h0,_⟩:=B0.es
   rw[hsb0.1,← z,np0] at h0
   cases h0
  generalize upd H0 pR (.lst (res.map V.int))=H' at hJ hpR ⊢
  have hlL':=JlL hJ
  have hlB':=JlB hJ
  have hP':=Jp hJ
  have hc':=Jc hJ
  obtain⟨q',st,hst,B',hel,hsb,kb⟩:=id hJ
  have ecs:BX ((Di CX0 P w K mg base ["locker","text","book"] "read_book" (AK JH) f (A0 c) A outer s H E).nox)=[cB,cL]:=by rw[← hclB,← hclL];rfl
  refine⟨fun c2 hc2=>by
   rw[ecs] at hc2
   rcases AS.mp hc2 with m | m
   ·rw[m];exact hlB'
   ·rw[A4.mp m];exact hlL',?_⟩
  show Eh 2 _ _ _
  rw[ecs]
  have plain:Plain [cB,cL] H':=fun y hy u e=>by
   rcases AS.mp hy with m | m
   ·obtain⟨o,_,z,_⟩:=hcvB
    rw[m,hlB',z] at e
    cases e
    exact⟨_,rfl⟩
   ·obtain⟨o,_,z,_⟩:=hcvL
    rw[A4.mp m,hlL',z] at e
    cases e
    exact⟨_,rfl⟩
  have sN:=G5 plain
  have Bh:=B'.monoN sN
  obtain⟨dx4,hx4⟩:=Bh.ob
  have hpR4:=sN _ _ hpR fun _ z=>nomatch z
  have notc:∀{b:Addr} {o:HO},H2 b=some o→b∉[cB,cL]:=fun e m=>by
   rcases AS.mp m with m | m
   ·rw[m,ncB] at e;cases e
   ·rw[A4.mp m,ncL] at e;cases e
  have kpH:KeepBut [Pt] H (hid [cB,cL] H'):=fun b o e n=>by
   have n:b≠Pt:=fun z=>n (by simp[z])
   have e2:=kp2 b o (s1 b o e) n
   rw[Ay (notc e2)]
   exact kb b o (s23 b o e2) fun m=>by rw[(ourN b m).1] at e;cases e
  have tabH:BF (hid [cB,cL] H') Pt (BY B1) CZ:=by
   refine .inr ⟨c',sN _ _ hP' (fun _ z=>nomatch z),?_⟩
   obtain⟨o,vs,tt,e,d,r⟩:=hc'
   obtain⟨o2,_,_,e2,_⟩:=hco
   exact⟨o,vs,tt,by rw[Ay (notc e2)];exact e,d,r⟩
  have hSh:SqL K (hid [cB,cL] H') a ((zs t).map V.int):=by
   rcases hS with (h | ⟨o,h⟩) | h
   ·exact .inl (.inl (kpH _ _ h fun m=>by
     have hT':=hT
     rw[A4.mp m] at h
     rcases hT' with z | ⟨_,z,_⟩ <;> (rw[h] at z;cases z)))
   ·exact .inl (.inr ⟨o,kpH _ _ h fun m=>by
     have hT':=hT
     rw[A4.mp m] at h
     rcases hT' with z | ⟨_,z,_⟩ <;> (rw[h] at z;cases z)⟩)
   ·exact .inr h
  have npR:pR≠q'.be:=by rw[hsb.1];exact npq
  generalize hid [cB,cL] H'=Hh at Bh hx4 hpR4 kpH tabH hSh ⊢
  refine⟨_,rfl,x,CB,dx4,_,rfl,hx4,TB.cl,TB.fault,(by show 3 < 1000;decide),?_⟩
  have B5:=Bh.faultB (fl:=res) hne hx4 hpR4 npR rfl
  have nxP:x≠Pt:=fun z=>by
   rcases tabH with w | ⟨_,w,_⟩ <;> (rw[← z,hx4] at w;cases w)
  have kp5:KeepBut [Pt] H (upd Hh x (.ins CB dx4 (A9 "fault" (V.ref pR) (bfB q'.bn q'.be q'.bf)))):=fun b o e n=>by
   rw[AE (Am e nx)]
   exact kpH b o e n
  have tab_upd:∀{G:Hp} {o:HO},BF G Pt (BY B1) CZ→(∃d fs,G x=some (.ins CB d fs))→BF (upd G x o) Pt (BY B1) CZ:=fun {G o} h hx=>by
   obtain⟨d,fs,hx⟩:=hx
   rcases h with z | ⟨c2,z,o2,vs,tt,e,r⟩
   ·exact .inl (by rw[AE (Ap nxP)];exact z)
   ·exact .inr ⟨c2,by rw[AE (Ap nxP)];exact z,o2,vs,tt,by rw[AE (Bc e hx (by intro z;cases z))];exact e,r⟩
  have tab5:=tab_upd (o:=.ins CB dx4 (A9 "fault" (V.ref pR) (bfB q'.bn q'.be q'.bf))) tabH ⟨_,_,hx4⟩
  have hS5:SqL K (upd Hh x (.ins CB dx4 (A9 "fault" (V.ref pR) (bfB q'.bn q'.be q'.bf)))) a ((zs t).map V.int):=by
   rcases hSh with (h | ⟨o,h⟩) | h
   ·exact .inl (.inl (by rw[AE (Bc h hx4 (by intro z;cases z))];exact h))
   ·exact .inl (.inr ⟨o,by rw[AE (Bc h hx4 (by intro z;cases z))];exact h⟩)
   ·exact .inr h
  generalize upd Hh x (.ins CB dx4 (A9 "fault" (V.ref pR) (bfB q'.bn q'.be q'.bf)))=H5 at B5 kp5 tab5 hS5 ⊢
  obtain⟨dx5,hx5⟩:=B5.ob
  refine⟨_,rfl,x,CB,dx5,_,_,rfl,hx5,TB.cl,TB.fault,Kh (q:=⟨q'.bn,q'.be,pR⟩),A5 _,fun l5 nl=>?_⟩
  have s56:Same H5 (upd H5 l5 (.lst [])):=(Same.refl H5).new nl
  have B6:=B5.mono s56
  have kp6:KeepBut [Pt] H (upd H5 l5 (.lst [])):=kp5.trans (KeepBut.of s56)
  have tab6:=BR s56 tab5
  have hS6:=s56.seq hS5
  refine⟨_,_,A6 (SqL.of B6.bf'),A6 (ns:=[]) (SqL.of AI),A3 _,A3 _,?_⟩
  rw[CQ]
  generalize upd H5 l5 (.lst [])=H6 at B6 kp6 tab6 hS6 ⊢
  obtain⟨dx6,hx6⟩:=B6.ob
  refine⟨_,rfl,?_⟩
  have jud:=We L t
  have hcnt:=Vc t
  by_cases hres:res=[]
  ·refine bT (decide_eq_true hres) ?_
   subst hres
   have hj:j=((Ad t).map zs).length∧zs (Bd t)=[]:=by
    rcases hTold with ⟨_,_,_,z⟩ | ⟨q1,_,q2⟩
    ·cases z
    ·refine⟨q1,?_⟩
     by_cases z:zs (Bd t)=[]
     ·exact z
     ·rw[if_neg z] at q2;cases q2
   have hr0:Bd t=[]:=zs_nil.mp hj.2
   have hjn:j=(Ad t).length:=by rw[hj.1,AG]
   subst hjn
   rw[JF hst] at jud
   refine⟨_,rfl,a,zs t,rfl,hS6,fun H7 s7=>⟨_,_,rfl,rfl,_,rfl,?_⟩⟩
   rw[hcnt]
   have B7:=B6.mono s7
   have kp7:=kp6.trans (KeepBut.of (xs:=[Pt]) s7)
   have tab7:=BR s7 tab6
   by_cases h0:(Ad t).length < 2
   ·refine bT (decide_eq_true (by omega)) ?_
    refine⟨_,rfl,a,zs t,rfl,s7.seq hS6,fun H8 s8=>⟨(show 2≤sizeLine from CC (by decide)),fun l2 nl2=>?_⟩⟩
    have s89:Same H8 (upd H8 l2 (.lst [.int 1,.int ((zs t).count 10:Nat)])):=(Same.refl H8).new nl2
    have s79:=s8.trans s89
    have B9:=B7.mono s79
    have hl9:upd H8 l2 (.lst [.int 1,.int ((zs t).count 10:Nat)]) l2=some (.lst (([1,(((zs t).count 10:Nat):Int)]:List Int).map V.int)):=AI
    have hx9:=s79 _ _ (s7 _ _ hx6)
    have kp9:=kp7.trans (KeepBut.of (xs:=[Pt]) s79)
    have tab9:=BR s79 tab7
    have nl2q:l2≠q'.be:=fun z=>by
     obtain⟨as8,h8,_⟩:=(B7.mono s8).es
     rw[z,h8] at nl2;cases nl2
    generalize upd H8 l2 (.lst [.int 1,.int ((zs t).count 10:Nat)])=H9 at B9 hl9 hx9 kp9 tab9 ⊢
    refine⟨_,rfl,x,CB,dx6,_,rfl,hx9,TB.cl,TB.fault,(by show 3 < 1000;decide),?_⟩
    have B10:=B9.faultB (q:=⟨q'.bn,q'.be,pR⟩) hne hx9 hl9 nl2q rfl
    refine⟨_,rfl,k _ x _ _ _ _ (fun b o e n=>?_) (tab_upd tab9 ⟨_,_,hx9⟩) B10 ?_⟩
    ·rw[AE (Am e nx)]
     exact kp9 b o e n
    ·unfold Gq
     rw[jud]
     show match D5 (Bd t) (Ad t).length st with
      | .error e=>_
      | .ok B=>_
     unfold D5
     rw[if_neg fun z=>z hr0,if_pos h0,hcnt]
     rfl
   ·refine bF (decide_eq_false (by omega)) ?_
    refine⟨_,rfl,k _ x _ _ _ _ kp7 tab7 B7 ?_⟩
    unfold Gq
    rw[jud]
    show match D5 (Bd t) (Ad t).length st with
     | .error e=>_
     | .ok B=>_
    unfold D5
    rw[if_neg fun z=>z hr0,if_neg h0]
    exact⟨rfl,rfl,rfl,hel⟩
  ·refine bF (decide_eq_false hres) ?_
   refine bF rfl ?_
   refine⟨_,rfl,k _ x _ _ _ _ kp6 tab6 B6 ?_⟩
   unfold Gq
   rw[jud]
   rcases hTold with ⟨q1,_,q3,q4⟩ | ⟨q1,_,q2⟩
   ·rw[AG] at q1
    obtain⟨b,hb⟩:∃b,(Ad t)[j]?=some b:=⟨_,BD q1⟩
    have hR:=JA (step:=BH L) hst hb
    cases hs:BH L st j b with
    | ok s2=>rw[hs] at hR;exact absurd hR q3
    | error kk =>
     rw[hs] at hR
     have hR:rAt (BH L) ⟨[],[]⟩ (Ad t) j=(kk:Int):=hR
     rw[Qj hst hb hs]
     show res=[(kk:Int),(j:Int)]
     rw[q4,hR]
   ·rw[AG] at q1
    subst q1
    rw[JF hst]
    have hr0:¬Bd t=[]:=fun z=>hres (by rw[q2,if_pos (zs_nil.mpr z)])
    show match D5 (Bd t) (Ad t).length st with
     | .error e=>_
     | .ok B=>_
    unfold D5
    rw[if_pos hr0]
    show res=[((1:Nat):Int),(((Ad t).length:Nat):Int)]
    rw[q2,if_neg fun z=>hr0 (zs_nil.mp z)]
    rfl
end
end Fb
end
section
set_option maxRecDepth 100000
set_option maxHeartbeats 4000000
namespace Fb
open PySem PySem.Spec PyProof.Rows L2
open PySem.W (CodeHd tabObj kla_obj kla_fn envX)
abbrev RA:Stmt:=Dj RT 0
def rdf (r:Addr) (l b:V):List (Str×V):=[("refusal",.ref r),("locker",l),("book",b)]
def GC:List V→Option (List (Str×V))
 | [.ref r,l,b]=>some (rdf r l b)
 | _=>none
theorem Qa {r:Addr}{l b:V}:(rdf r l b).lookup ("refusal":Str)=some (.ref r):=rfl
theorem YH {r:Addr}{l b:V}:(rdf r l b).lookup ("locker":Str)=some l:=rfl
theorem YG {r:Addr}{l b:V}:(rdf r l b).lookup ("book":Str)=some b:=rfl
structure ReadC (K:AA) (CR:Addr):Prop where
 cl:Cls K CR
 refusal:NoAttr K CR "refusal"
 locker:NoAttr K CR "locker"
 book:NoAttr K CR "book"
theorem Yk:AY ["self","refusal","locker","book"] ["self","refusal","locker","book"] (AK RA):=⟨rfl,rfl,rfl,by decide +kernel,rfl,by decide +kernel,by decide +kernel⟩
section
variable {P:Program}{w:World}{K:AA}{mg:Str→Option Value}{base:Heap}{CR:Addr}
theorem ok_readI {f:Addr}{fd:FuncData} (F:Fun K "__init__" "Reading.__init__" RA f fd) (T:ReadC K CR):FnOk P w K mg base CX0 1 f fd ["self","refusal","locker","book"] (ED CR GC):=by
 have inv:∀us l,GC us=some l→∃r k b,us=[.ref r,k,b]∧l=rdf r k b:=by
  intro us l h
  unfold GC at h
  split at h
  ·cases h;exact⟨_,_,_,rfl,rfl⟩
  ·cases h
 refine F.ok Yk (fun vs H Q E h=>?_) (fun cdv A outer s H vs Q E hr h=>?_)
 ·obtain⟨p,dx,us,l,rfl,hf,_⟩:=h
  obtain⟨_,_,_,rfl,_⟩:=inv _ _ hf
  rfl
 ·obtain⟨p,dx,us,l,rfl,hf,hp,k⟩:=h
  obtain⟨r,c,m,rfl,rfl⟩:=inv _ _ hf
  refine⟨_,AJ (BU (pv 0) (pv 1) rfl) (AJ (BU (pv 0) (pv 2) rfl) (AH (BU (pv 0) (pv 3) rfl))),?_⟩
  refine⟨_,rfl,_,rfl,p,CR,dx,[],rfl,hp,T.cl,T.refusal,(by show 0 < 1000;decide),?_⟩
  refine⟨_,rfl,_,rfl,p,CR,dx,_,rfl,AI,T.cl,T.locker,(by show 1 < 1000;decide),?_⟩
  refine⟨_,rfl,_,rfl,p,CR,dx,_,rfl,AI,T.cl,T.book,(by show 2 < 1000;decide),?_⟩
  rw[FG,FG]
  exact k _ AI fun b o e hb=>by rw[AE hb];exact e
end
abbrev RM:Stmt:=R6
def Dg (CL CK CB CE:Addr) (H:Hp) (t u:Aj) (rf:List Int) (lv bv:V):Prop :=
 if 65536 < t.length∨65536 < u.length then rf=[-2] else match DZ t with
  | .error _=>rf=[-6]
  | .ok L=>match L.judgeBook u with
   | .error e=>rf=[-9,(e.1:Int),(e.2:Int)]
   | .ok B=>rf=[]∧∃(x:Addr) (q:BA),bv=.ref x∧BookAt CB CE H x q (zs B.name) B.entries []∧B.entries.length≤2048∧∃(y:Addr) (p:LA),lv=.ref y∧LockAt CL CK H y p (zs L.name) (L.kinds.map zk) []∧Wf L.kinds
def Sz (K:AA) (CL CK CB CE CR PL PB:Addr):Sp:=fun vs H Q _=>∃(a b:Addr) (t u:Aj),vs=[.ref a,.ref b]∧SqL K H a ((zs t).map V.int)∧SqL K H b ((zs u).map V.int)∧t.length < 80000∧u.length < 80000∧BF H PL (BY CA) Ca∧BF H PB (BY B1) CZ∧
 ∀(H':Hp) (x dx r:Addr) (rf:List Int) (lv bv:V),KeepBut [PL,PB] H H'→BF H' PL (BY CA) Ca→BF H' PB (BY B1) CZ→H' x=some (.ins CR dx (rdf r lv bv))→H' r=some (.lst (rf.map V.int))→Dg CL CK CB CE H' t u rf lv bv→Q (.ref x) H'
theorem scTexts:AY ["t","b","locker","book"] ["t","b"] (AK RM):=⟨rfl,rfl,rfl,by decide +kernel,rfl,by decide +kernel,by decide +kernel⟩
theorem S5 {H H':Hp}{Pt Po:Addr}{pos:Pos}{q:Str} (hne:Pt≠Po) (hPo:∃ps,H Po=some (.tbl ps)) (kb:KeepBut [Po] H H') (h:BF H Pt pos q):BF H' Pt pos q:=by
 obtain⟨ps,hPo⟩:=hPo
 rcases h with h | ⟨c',h,o,vs,t,e,r⟩
 ·exact .inl (kb _ _ h (by simpa using hne))
 ·refine .inr ⟨c',kb _ _ h (by simpa using hne),o,vs,t,kb _ _ e fun m=>?_,r⟩
  rw[A4.mp m,hPo] at e
  cases e
theorem FF {H:Hp}{Pt:Addr}{pos:Pos}{q:Str} (h:BF H Pt pos q):∃ps,H Pt=some (.tbl ps):=by
 rcases h with h | ⟨c',h,_⟩
 ·exact⟨_,h⟩
 ·exact⟨_,h⟩
theorem K7 {H H':Hp}{Pt:Addr}{pos:Pos}{q:Str} (h:BF H Pt pos q) (kb:KeepBut [Pt] H H'):SameT H H':=fun b o e n=>kb b o e fun m=>by
 obtain⟨ps,hp⟩:=FF h
 rw[A4.mp m,hp] at e
 cases e
 exact n _ rfl
section
variable {P:Program}{w:World}{K:AA}{mg:Str→Option Value}{base:Heap}{CL CK CB CE CR PL PB:Addr}
def Gp (P:Program) (w:World) (K:AA) (mg:Str→Option Value) (base:Heap) (x:Str) (k:Nat) (ps:List Str) (sp:Sp):Prop :=
 ∃(f:Addr) (fd:FuncData),mg x=some (.ref f)∧FX K (.ref f)=true∧Binds K fd ps []∧FnOk P w K mg base CX0 k f fd ps sp
theorem Lb {X:Cx}{k:Nat}{ps:List Str}{sp:Sp}{x:Str}{p pos:Pos}{e:Expr}{es:List Expr}{t:TA} (h:Gp X.prog X.w X.K X.mg X.base x k ps sp) (hr:Room k X.A) (hg:Gl X x) (ha:PA X (e::es) t)
  (hdb:(x==("__debug__":Str))=false:=by decide) (he:starEach (e::es) X.env=(false,eval e X.env)::starEach es X.env:=by rfl) (hpl:(backTo pos (starEach es X.env)).any (·.1)=false:=by rfl):
  PE X (.Call (.Name x p) (e::es) [] pos) (JQ sp [] E0 t):=by
 obtain⟨f,fd,h1,h2,h3,h4⟩:=h
 exact QI h4 hr hg h1 h2 h3 .nil F3 ha hdb he hpl
theorem ok_texts {f:Addr}{fd:FuncData} (F:Fun K "read_texts" "read_texts" RM f fd) (B:Blt mg) (hPP:PL≠PB) (TL:LockC K CL) (TB:BookC K CB) (c1:Cst mg "LONGEST_TEXT" (.int 65536)) (c2:Cst mg "TOO_LONG" (.int (-2))) (c3:Cst mg "NO_LOCKER" (.int (-6))) (c4:Cst mg "NO_BOOK" (.int (-9)))
  (g1:Gp P w K mg base "read_locker" 10 ["text"] (Sr K CL CK PL)) (g2:Gp P w K mg base "read_book" 10 ["locker","text"] (Sq K CL CK CB CE PB)) (g3:EO P w K mg "Reading" CR 1 ["self","refusal","locker","book"] (ED CR GC)):FnOk P w K mg base CX0 11 f fd ["t","b"] (Sz K CL CK CB CE CR PL PB):=by
 refine F.ok scTexts (fun vs H Q E h=>?_) (fun cdv A outer s H vs Q E hr h=>?_)
 ·obtain⟨a,b,t,u,rfl,_⟩:=h
  rfl
 ·obtain⟨a,b,t,u,rfl,hA,hB,hlt,hlu,hTL,hTB,k⟩:=h
  have hr2:Room 2 _:=hr.mono (by decide)
  refine⟨_,AJ (Al (PW.pt (GA (Ac F2 (Av Bj (by rfl) B.len BW (AB (pv 0) AD)) (AW c1 rfl) (AR _)) (HQ (Ac F2 (Av Bj (by rfl) B.len BW (AB (pv 1) AD)) (AW c1 rfl) (AR _)))))
    (AH (AL (F4 g3 hr2 (by rfl) (AB (A7 (AB (AW c2 rfl) AD)) (AB Ck (AB Ck AD)))))) An)
   (AJ (BB (i:=2) scTexts.nd rfl (AZ rfl) (Lb g1 hr (by rfl) (AB (pv 0) AD)))
   (AJ (Al (Ac (HH hr.units) (Ak (pv 2) rfl) (A7 AD) (AR _)) (AH (AL (F4 g3 hr2 (by rfl) (AB (A7 (AB (AW c3 rfl) AD)) (AB Ck (AB Ck AD)))))) An)
   (AJ (BB (i:=3) scTexts.nd rfl (AZ rfl) (Lb g2 hr (by rfl) (AB (pv 2) (AB (pv 1) AD))))
   (AJ (Al (Ac (HH hr.units) (Ak (pv 3) rfl) (A7 AD) (AR _)) (AH (AL (F4 g3 hr2 (by rfl) (AB (EB QD (A7 (AB (AW c4 rfl) AD)) (Ak (pv 3) rfl)) (AB Ck (AB Ck AD)))))) An)
   (AH (AL (F4 g3 hr2 (by rfl) (AB (A7 AD) (AB (pv 2) (AB (pv 3) AD)))))))))),?_⟩
  have fin:∀(G:Hp) (r:Addr) (rf:List Int) (lv bv:V),KeepBut [PL,PB] H G→BF G PL (BY CA) Ca→BF G PB (BY B1) CZ→G r=some (.lst (rf.map V.int))→(∀G',Same G G'→Dg CL CK CB CE G' t u rf lv bv)→
    ∀x dx,G x=none→G dx=none→dx≠x→ED CR GC [.ref x,.ref r,lv,bv] (upd (upd G dx (.own x)) x (.ins CR dx [])) (fun v H2=>v=.non∧Q (.ref x) H2) E0:=fun G r rf lv bv kb t1 t2 hr hx x dx nx nd ne=>by
   refine⟨x,dx,[.ref r,lv,bv],rdf r lv bv,rfl,rfl,AI,fun H' hx' kp=>⟨rfl,?_⟩⟩
   have ss:Same G H':=Same.made nx nd kp
   exact k H' x dx r rf lv bv (kb.trans (KeepBut.of ss)) (BR ss t1) (BR ss t2) hx' (ss _ _ hr) (hx H' ss)
  have much:(65536 < t.length∨65536 < u.length)→∀l,H l=none→∀x dx,upd H l (.lst [.int (-2)]) x=none→upd H l (.lst [.int (-2)]) dx=none→dx≠x→ED CR GC [.ref x,.ref l,.non,.non] (upd (upd (upd H l (.lst [.int (-2)])) dx (.own x)) x (.ins CR dx [])) (fun v H2=>v=.non∧Q (.ref x) H2) E0:=fun hm l nl=>by
   have ss:=(Same.refl H).new (o:=.lst [.int (-2)]) nl
   refine fin _ l [-2] .non .non (KeepBut.of ss) (BR ss hTL) (BR ss hTB) AI fun G' _=>?_
   unfold Dg
   rw[if_pos hm]
  refine⟨_,rfl,a,_,rfl,.inl hA,_,_,rfl,rfl,_,rfl,?_⟩
  by_cases ht:65536 < t.length
  ·refine bT (decide_eq_true (by rw[AG,Aw];omega)) (bT rfl ?_)
   exact⟨(show 1≤sizeLine from CC (by decide)),fun l nl=>much (.inl ht) l nl⟩
  ·refine bF (decide_eq_false (by rw[AG,Aw];omega)) ?_
   refine⟨_,rfl,b,_,rfl,.inl hB,_,_,rfl,rfl,_,rfl,?_⟩
   by_cases hu:65536 < u.length
   ·refine bT (decide_eq_true (by rw[AG,Aw];omega)) ?_
    exact⟨(show 1≤sizeLine from CC (by decide)),fun l nl=>much (.inr hu) l nl⟩
   ·refine bF (decide_eq_false (by rw[AG,Aw];omega)) ?_
    have hmuch:¬(65536 < t.length∨65536 < u.length):=fun z=>z.elim ht hu
    refine⟨_,rfl,a,t,rfl,hA,by omega,hTL,fun H1 xl p nm ks fl kb1 tab1 L1 rl=>?_⟩
    have sT1:=K7 hTL kb1
    have tabB1:=S5 (Ap hPP) (FF hTL) kb1 hTB
    have kbL1:KeepBut [PL,PB] H H1:=kb1.mono fun y hy=>by simp at hy;simp[hy]
    obtain⟨dx1,ho1⟩:=L1.ob
    refine⟨_,rfl,xl,CL,dx1,_,_,rfl,ho1,TL.cl,TL.fault,Ph,A5 _,fun l1 nl1=>?_⟩
    have s12:Same H1 (upd H1 l1 (.lst [])):=(Same.refl H1).new nl1
    have hl1:upd H1 l1 (.lst []) l1=some (.lst (([]:List Int).map V.int)):=AI
    generalize upd H1 l1 (.lst [])=H2 at s12 hl1 ⊢
    have L2:=L1.mono s12
    refine⟨_,_,A6 (SqL.of L2.af),A6 (SqL.of hl1),A3 _,A3 _,?_⟩
    rw[CQ]
    refine⟨_,rfl,?_⟩
    unfold Gr at rl
    have kb2:=kbL1.trans (KeepBut.of (xs:=[PL,PB]) s12)
    have tab2:=BR s12 tab1
    have tabB2:=BR s12 tabB1
    cases hj:DZ t with
    | error e =>
     rw[hj] at rl
     have rl:fl≠[]:=rl
     refine bT (by rw[decide_eq_false rl];rfl) ?_
     refine⟨(show 1≤sizeLine from CC (by decide)),fun l nl=>?_⟩
     have ss:=(Same.refl H2).new (o:=.lst [.int (-6)]) nl
     refine fin _ l [-6] .non .non (kb2.trans (KeepBut.of ss)) (BR ss tab2) (BR ss tabB2) AI fun G' _=>?_
     unfold Dg
     rw[if_neg hmuch,hj]
    | ok L =>
     rw[hj] at rl
     obtain⟨rfl,rfl,rfl,hW⟩:=rl
     refine bF (by rw[decide_eq_true rfl];rfl) ?_
     refine⟨_,rfl,_,rfl,xl,b,p,L,[],u,rfl,L2,hW,(sT1.trans (Same.t s12)).seq hB,by omega,tabB2,fun H3 xb q nm es bfl kb3 tab3 B3 rb=>?_⟩
     have tabL3:=S5 hPP (FF tabB2) kb3 tab2
     have kb13:KeepBut [PL,PB] H H3:=kb2.trans (kb3.mono fun y hy=>by simp at hy;simp[hy])
     obtain⟨dx3,ho3⟩:=B3.ob
     refine⟨_,rfl,xb,CB,dx3,_,_,rfl,ho3,TB.cl,TB.fault,Kh,A5 _,fun l3 nl3=>?_⟩
     have s34:Same H3 (upd H3 l3 (.lst [])):=(Same.refl H3).new nl3
     have hl3:upd H3 l3 (.lst []) l3=some (.lst (([]:List Int).map V.int)):=AI
     generalize upd H3 l3 (.lst [])=H4 at s34 hl3 ⊢
     have B4:=B3.mono s34
     have kb4:=kb13.trans (KeepBut.of (xs:=[PL,PB]) s34)
     have tabL4:=BR s34 tabL3
     have tabB4:=BR s34 tab3
     refine⟨_,_,A6 (SqL.of B4.bf'),A6 (SqL.of hl3),A3 _,A3 _,?_⟩
     rw[CQ]
     refine⟨_,rfl,?_⟩
     unfold Gq at rb
     cases hjb:L.judgeBook u with
     | error e =>
      rw[hjb] at rb
      have rb:bfl=[(e.1:Int),(e.2:Int)]:=rb
      refine bT (by rw[decide_eq_false (by rw[rb];simp)];rfl) ?_
      refine⟨(show 1≤sizeLine from CC (by decide)),fun l nl=>?_⟩
      have ss:=(Same.refl H4).new (o:=.lst [.int (-9)]) nl
      have hl:upd H4 l (.lst [.int (-9)]) l=some (.lst [.int (-9)]):=AI
      generalize upd H4 l (.lst [.int (-9)])=H5 at ss hl ⊢
      have ho5:=ss _ _ (s34 _ _ ho3)
      have hbf5:=ss _ _ B4.bf'
      refine⟨_,rfl,xb,CB,dx3,_,_,rfl,ho5,TB.cl,TB.fault,Kh,l,q.bf,_,_,rfl,rfl,hl,hbf5,?_,fun l6 nl6=>?_⟩
      ·rw[rb]
       exact(show 3≤sizeLine from CC (by decide))
      have s6:=(Same.refl H5).new (o:=.lst ([V.int (-9)]++bfl.map V.int)) nl6
      refine fin _ l6 [-9,(e.1:Int),(e.2:Int)] .non .non (kb4.trans (KeepBut.of (ss.trans s6))) (BR (ss.trans s6) tabL4) (BR (ss.trans s6) tabB4) ?_ fun G' _=>?_
      ·rw[AI,rb];rfl
      ·unfold Dg
       rw[if_neg hmuch,hj]
       dsimp only
       rw[hjb]
     | ok Bk =>
      rw[hjb] at rb
      obtain⟨rfl,rfl,rfl,hle⟩:=rb
      refine bF (by rw[decide_eq_true rfl];rfl) ?_
      refine⟨A5 _,fun l nl=>⟨_,rfl,_,rfl,?_⟩⟩
      have ss:=(Same.refl H4).new (o:=.lst []) nl
      refine fin _ l [] (.ref xl) (.ref xb) (kb4.trans (KeepBut.of ss)) (BR ss tabL4) (BR ss tabB4) AI fun G' s'=>?_
      unfold Dg
      rw[if_neg hmuch,hj]
      dsimp only
      rw[hjb]
      exact⟨rfl,xb,q,rfl,B4.mono (ss.trans s'),hle,xl,p,rfl,(L2.monoT (K7 tabB2 kb3)).mono (s34.trans (ss.trans s')),hW⟩
end
end Fb
end
section
set_option maxRecDepth 100000
set_option maxHeartbeats 4000000
namespace Fb
open PySem PySem.Spec PyProof.Rows L2
open PySem.W (CodeHd tabObj kla_obj kla_fn envX)
structure U9 (K:AA) (PL PB:Addr) (H:Hp) (a b:Addr) (t u:Aj):Prop where
 ta:SqL K H a ((zs t).map V.int)
 ub:SqL K H b ((zs u).map V.int)
 lt:t.length < 80000
 lu:u.length < 80000
 pl:BF H PL (BY CA) Ca
 pb:BF H PB (BY B1) CZ
theorem Zd {CL CK CB CE:Addr}{H:Hp}{t u:Aj}{lv bv:V} (h:Dg CL CK CB CE H t u [] lv bv):¬(65536 < t.length∨65536 < u.length)∧∃L B,DZ t=.ok L∧L.judgeBook u=.ok B∧∃(x:Addr) (q:BA),bv=.ref x∧BookAt CB CE H x q (zs B.name) B.entries []∧B.entries.length≤2048∧∃(y:Addr) (p:LA),lv=.ref y∧LockAt CL CK H y p (zs L.name) (L.kinds.map zk) []∧Wf L.kinds:=by
 unfold Dg at h
 by_cases hm:65536 < t.length∨65536 < u.length
 ·rw[if_pos hm] at h;cases h
 ·rw[if_neg hm] at h
  refine⟨hm,?_⟩
  cases hj:DZ t with
  | error e=>rw[hj] at h;cases h
  | ok L =>
   rw[hj] at h
   dsimp only at h
   cases hb:L.judgeBook u with
   | error e=>rw[hb] at h;cases h
   | ok B=>rw[hb] at h;exact⟨L,B,rfl,hb,h.2⟩
theorem Zc {H H':Hp}{PL PB Pt:Addr}{pos:Pos}{q:Str} (h1:PL≠Pt) (h2:PB≠Pt) (t1:∃ps,H PL=some (.tbl ps)) (t2:∃ps,H PB=some (.tbl ps)) (kb:KeepBut [PL,PB] H H') (h:BF H Pt pos q):BF H' Pt pos q:=by
 have out:Pt∉[PL,PB]:=fun m=>by
  rcases AS.mp m with z | z
  ·exact h1 z.symm
  ·exact h2 (A4.mp z).symm
 rcases h with h | ⟨c',h,o,vs,t,e,d,r⟩
 ·exact .inl (kb _ _ h out)
 ·refine .inr ⟨c',kb _ _ h out,o,vs,t,kb _ _ e fun m=>?_,d,r⟩
  obtain⟨p1,e1⟩:=t1
  obtain⟨p2,e2⟩:=t2
  rcases AS.mp m with z | z
  ·rw[z,e1] at e;cases e
  ·rw[A4.mp z,e2] at e;cases e
end Fb
end
section
set_option maxRecDepth 100000
set_option maxHeartbeats 4000000
namespace Fb
open PySem PySem.Spec PyProof.Rows L2
open PySem.W (CodeHd tabObj kla_obj kla_fn envX)
theorem _root_.L2.SameN.seq {K:AA}{H H':Hp}{a:Addr}{xs:List V} (s:SameN H H') (h:SqL K H a xs):SqL K H' a xs:=by
 rcases h with (h | ⟨o,h⟩) | h
 ·exact .inl (.inl (s _ _ h (fun _ q=>nomatch q)))
 ·exact .inl (.inr ⟨o,s _ _ h (fun _ q=>nomatch q)⟩)
 ·exact .inr h
theorem Zp {cs:List Addr}{H:Hp}:Cp cs H (hid cs H)=H:=funext fun b=>by
 by_cases m:b∈cs
 ·rw[GN m]
 ·rw[C2 m,Ay m]
abbrev Q6:Stmt:=R0
def Oj (o:Option Nat):V:=match o with
 | some i=>.int (i:Int)
 | none=>.non
structure VA (P:Program) (w:World) (K:AA) (mg:Str→Option Value) (CE:Addr) (H:Hp) (f:Addr) (want:Ax→Bool):Prop where
 fn:∀H1,Same H H1→FnO H1 f
 ok:∃(fd:FuncData) (sp':Sp),(∀base:Heap,FnOk P w K mg base CX0 1 f fd ["entry"] sp')∧Binds K fd ["entry"] []∧
  ∀(H1:Hp) (ea:Addr) (e:Ax) (Q1:VK),Same H H1→EntAt CE H1 ea e→Q1 (.bl (want e)) H1→sp' [.ref ea] H1 Q1 E0
def Sl (P:Program) (w:World) (K:AA) (mg:Str→Option Value) (CB CE:Addr):Sp:=fun vs H Q _=>∃(b f:Addr) (q:BA) (nm bfl:List Int) (es:List Ax) (want:Ax→Bool),vs=[.ref b,.ref f]∧BookAt CB CE H b q nm es bfl∧VA P w K mg CE H f want∧Pur H Q (Oj (es.findIdx? want))
theorem scNumF:AY ["book","is_wanted","number","entry"] ["book","is_wanted"] (AK Q6):=⟨rfl,rfl,rfl,by decide +kernel,rfl,by decide +kernel,by decide +kernel⟩
section
variable {P:Program}{w:World}{K:AA}{mg:Str→Option Value}{base:Heap}{CL CK CB CE CR PL PB:Addr}
theorem ok_numF {f:Addr}{fd:FuncData} (F:Fun K "number_of_first" "number_of_first" Q6 f fd) (B:Blt mg) (TB:BookC K CB):FnOk P w K mg base CX0 2 f fd ["book","is_wanted"] (Sl P w K mg CB CE):=by
 refine F.ok scNumF (fun vs H Q E h=>?_) (fun cdv A outer s H vs Q E hr h=>?_)
 ·obtain⟨b,c,q,nm,bfl,es,r,rfl,_⟩:=h
  rfl
 ·obtain⟨b,c,q,nm,bfl,es,want,rfl,hB,T,k⟩:=h
  refine⟨_,AJ (FC FV rfl (QQ (by rfl) B.enumerate (AB (Ak (pv 0) rfl) AD)) (Le rfl (F7 (Bq (i:=2) scNumF.nd rfl (AZ rfl)) (F7 (Bq (i:=3) scNumF.nd rfl (AZ rfl)) Lf)))
    (AH (Al (Cm (QK (k:=1) (i:=1) hr (AB (pv 3) AD))) (AH (AL (pv 2))) An)))
   (AH (AL Ck)),?_⟩
  obtain⟨fd',sp',hF,hBd,hstep⟩:=T.ok
  obtain⟨dx,hob⟩:=hB.ob
  obtain⟨as,hbe,hpe⟩:=hB.ents
  have hlen:=CU hpe
  refine⟨_,rfl,b,CB,dx,_,_,rfl,hob,TB.cl,TB.entries,Gs,q.be,_,rfl,SqL.of hbe,?_⟩
  refine G3 (n:=es.length) (fun i σ H'=>∃(v2 v3:Option V),σ=[some (.ref b),some (.ref c),v2,v3]∧Same H H'∧∀i' < i,∀e,es[i']?=some e→want e=false) ⟨none,none,rfl,Same.refl H,fun i' h=>absurd h (Hr _)⟩ ?_ ?_ ?_ ?_
  ·rintro i σ H' hi ⟨_,_,_,s,_⟩
   exact⟨_,_,SqL.of (s _ _ hbe),BD (by rw[AG,hlen];exact hi)⟩
  ·rintro σ H' ⟨_,_,_,s,_⟩
   exact⟨_,SqL.of (s _ _ hbe),by rw[AG,hlen];exact AV _⟩
  ·rintro i y σ H' H3 hi ⟨v2,v3,rfl,s,hR⟩ ⟨Tp,x,rfl,nT,rfl,hx⟩
   have hxi:=hx _ (SqL.of (s _ _ hbe))
   rw[Ah] at hxi
   have hge:es[i]?=some es[i]:=BD hi
   obtain⟨ea,hea,hent⟩:=DF hpe hge
   rw[hea] at hxi
   have ex:V.ref ea=x:=Ae hxi
   subst ex
   have s3:Same H' (upd H' Tp (.tup [.int (i:Nat),.ref ea])):=(Same.refl H').new nT
   have hT:upd H' Tp (.tup [.int (i:Nat),.ref ea]) Tp=some (.tup [.int (i:Nat),.ref ea]):=AI
   generalize upd H' Tp (.tup [.int (i:Nat),.ref ea])=H3 at s3 hT ⊢
   have s03:=s.trans s3
   refine⟨Tp,_,rfl,.inl (.inl hT),rfl,_,_,rfl,_,_,rfl,rfl,?_⟩
   refine⟨c,fd',["entry"],sp',rfl,T.fn _ s03,hF _,hBd,_,rfl,T.fn _ s03,?_⟩
   refine hstep H3 ea es[i] _ s03 (hent.mono s03) ?_
   refine⟨_,rfl,?_⟩
   cases hz:want es[i] with
   | true =>
    refine bT rfl ?_
    refine⟨_,rfl,?_⟩
    have e1:es.findIdx? want=some i:=Mj.mpr ⟨hi,hz,fun j hj=>by simpa using hR j hj _ (BD (by omega))⟩
    have kk:=k H3 s03
    rw[e1] at kk
    exact kk
   | false =>
    refine bF rfl ?_
    refine⟨_,_,rfl,s03,fun i' h' e he=>?_⟩
    rcases Jw.mp h' with q | q
    ·exact hR i' q e he
    ·subst q
     rw[hge] at he
     cases he
     exact hz
  ·rintro σ H' ⟨v2,v3,rfl,s,hR⟩
   have e1:es.findIdx? want=none:=List.findIdx?_eq_none_iff.mpr fun e he=>by
    obtain⟨j,hj⟩:=FR.mp he
    have hl:j < es.length:=(Bf.mp hj).1
    simpa using hR j hl e hj
   have kk:=k H' s
   rw[e1] at kk
   exact kk
end
abbrev Q7:Stmt:=R1
def Ic (o:Option Nat):List Int:=match o with
 | some i=>[(i:Int)]
 | none=>[-5]
def Sm:Sp:=fun vs H Q _=>∃o,vs=[Oj o]∧∀l,H l=none→Q (.ref l) (upd H l (.lst ((Ic o).map V.int)))
theorem Yi:AY ["found"] ["found"] (AK Q7):=⟨rfl,rfl,rfl,by decide +kernel,rfl,by decide +kernel,by decide +kernel⟩
section
variable {P:Program}{w:World}{K:AA}{mg:Str→Option Value}{base:Heap}
theorem ok_numO {f:Addr}{fd:FuncData} (F:Fun K "number_or_refusal" "number_or_refusal" Q7 f fd) (c3:Cst mg "NONE_FOUND" (.int (-5))):FnOk P w K mg base CX0 1 f fd ["found"] Sm:=by
 refine F.ok Yi (fun vs H Q E h=>?_) (fun cdv A outer s H vs Q E hr h=>?_)
 ·obtain⟨o,rfl,_⟩:=h
  rfl
 ·obtain⟨o,rfl,k⟩:=h
  refine⟨_,AH (AL (Lc (Ac LX (pv 0) Ck (AR _)) (A7 (AB (AW c3 rfl) AD)) (A7 (AB (pv 0) AD)))),?_⟩
  cases o with
  | none=>exact⟨_,rfl,rfl,_,rfl,bT rfl ⟨(show 1≤sizeLine from CC (by decide)),fun l2 nl2=>k l2 nl2⟩⟩
  | some i=>exact⟨_,rfl,rfl,_,rfl,bF (decide_eq_false fun q=>nomatch q) ⟨_,rfl,(show 1≤sizeLine from CC (by decide)),fun l2 nl2=>k l2 nl2⟩⟩
end
def Wt (st:Stmt):Expr:=match (Bm st).getLast? with
 | some (.Return (some (.Call _ [.Call _ [_,l] _ _] _ _)) _)=>l
 | _=>.Constant .none 0 ⟨0,0,0,0⟩
def Sh (K:AA) (CE f c' cS:Addr) (o:Obj) (qual:Str) (pick:Ax→List Int):Sp:=fun vs H Q _=>∃(ea c:Addr) (e:Ax) (r:List Int),vs=[.ref ea]∧H f=some (KO f o)∧CodeO H c' qual∧CellV H cS (.ref c)∧SqL K H c (r.map V.int)∧EntAt CE H ea e∧Q (.bl (decide (pick e=r))) H
theorem VY {H:Hp}{c:Addr}{v:V} (h:CellV H c v):Plain [c] H:=fun y hy u e=>by
 obtain⟨o,_,z,_⟩:=h
 rw[A4.mp hy,z] at e
 cases e
 exact⟨_,rfl⟩
theorem CellV.mono {H H':Hp}{c:Addr}{v:V} (s:Same H H') (h:CellV H c v):CellV H' c v:=by
 obtain⟨o,u,e,d,r⟩:=h
 exact⟨o,u,s _ _ e,d,r⟩
theorem CodeO.mono {H H':Hp}{c:Addr}{q:Str} (s:Same H H') (h:CodeO H c q):CodeO H' c q:=by
 obtain⟨o,vs,t,e,d,r⟩:=h
 exact⟨o,vs,t,s _ _ e,d,r⟩
theorem Ze {CL CK CB CE:Addr}{H:Hp}{t u:Aj}{rf:List Int}{lv bv:V} (ok:Ag→Hc→List Int) (h:Dg CL CK CB CE H t u rf lv bv) (hr:rf≠[]):
  CP (rf.map V.int) none (some 1)=(if 65536 < t.length∨65536 < u.length then [-2] else match DZ t with
  | .error _=>[-6]
  | .ok L=>match L.judgeBook u with
   | .error _=>[-9]
   | .ok B=>ok L B).map V.int:=by
 unfold Dg at h
 by_cases hm:65536 < t.length∨65536 < u.length
 ·rw[if_pos hm] at h ⊢;rw[h];rfl
 ·rw[if_neg hm] at h ⊢
  cases hj:DZ t with
  | error e=>rw[hj] at h;have h:rf=[-6]:=h;rw[h];rfl
  | ok L =>
   rw[hj] at h
   dsimp only at h ⊢
   cases hb:L.judgeBook u with
   | error e=>rw[hb] at h;have h:rf=[-9,(e.1:Int),(e.2:Int)]:=h;rw[h];rfl
   | ok B=>rw[hb] at h;exact absurd h.1 hr
end Fb
end
section
set_option maxRecDepth 100000
set_option maxHeartbeats 4000000
namespace Fb
open PySem PySem.Spec PyProof.Rows L2
open PySem.W (CodeHd tabObj kla_obj kla_fn envX)
abbrev Qv:Stmt:=Rp
def SY (K:AA) (CL CK:Addr):Sp:=fun vs H Q _=>∃(a:Addr) (p:LA) (L:Ag) (fl:List Int) (n:Int),vs=[.ref a,.int n]∧LockAt CL CK H a p (zs L.name) (L.kinds.map zk) fl∧Pur H Q (.bl (decide (n < (L.signs:Int))))
theorem YW:AY ["locker","number"] ["locker","number"] (AK Qv):=⟨rfl,rfl,rfl,by decide +kernel,rfl,by decide +kernel,by decide +kernel⟩
section
variable {P:Program}{w:World}{K:AA}{mg:Str→Option Value}{base:Heap}{CL CK CB CE CR PL PB:Addr}
theorem ok_isSign {f:Addr}{fd:FuncData} (F:Fun K "is_sign" "is_sign" Qv f fd) (B:Blt mg) (TL:LockC K CL):FnOk P w K mg base CX0 1 f fd ["locker","number"] (SY K CL CK):=by
 refine F.ok YW (fun vs H Q E h=>?_) (fun cdv A outer s H vs Q E hr h=>?_)
 ·obtain⟨a,p,L,fl,n,rfl,_⟩:=h
  rfl
 ·obtain⟨a,p,L,fl,n,rfl,hL,k⟩:=h
  refine⟨_,AH (AL (Cj HG (pv 1) (Av Kk (by rfl) B.len BW (AB (Ak (pv 0) rfl) AD)) (AR _))),?_⟩
  obtain⟨dx,ho⟩:=hL.ob
  have kk:=k H (Same.refl H)
  have e:(L.signs:Int)=(((Be 0 (L.kinds.map zk)).length:Nat):Int):=by
   rw[HU,Lw]
   rfl
  rw[e] at kk
  exact⟨_,rfl,_,rfl,a,CL,dx,_,_,rfl,ho,TL.cl,TL.signs,Fy,p.sg,_,rfl,hL.sg,_,_,rfl,rfl,kk⟩
end
abbrev HR:Stmt:=RZ
abbrev D8:Expr:=Wt HR
abbrev GB:Str:="find.<locals>.<lambda>"
abbrev P6 (cS:Addr) (pm:Value) (c':Addr) (ctv:Value):Obj:=kla_obj "<lambda>" GB (Ft D8) (Fu D8) (DE D8) [("signs",cS)] pm c' ctv
theorem frF:∀y∈(DE D8).names,y.2=EK→y.1∈(["signs"]:List Str):=by decide +kernel
theorem Yb {cS:Addr}:IC ["entry","signs"] ["entry"] (DE D8) [("signs",cS)] :=
 ⟨rfl,rfl,rfl,by decide +kernel,rfl,by decide +kernel,by decide +kernel,rfl,fun x hx=>by
  obtain rfl:x="signs":=A4.mp hx
  decide +kernel,fun y hy=>frF _ (Bi hy) rfl,DA.mpr ⟨De,Jr⟩⟩
def HM (e:Ax):List Int:=zn e.row
section
variable {P:Program}{w:World}{K:AA}{mg:Str→Option Value}{base:Heap}{CE:Addr}
theorem XW {f c' cS:Addr}{pm ctv:Value} (TE:EntC K CE):FnOk P w K mg base CX0 1 f (kla_fn "<lambda>" GB (Ft D8) (Fu D8) (DE D8) [("signs",cS)] pm (.ref c') ctv) ["entry"] (Sh K CE f c' cS (P6 cS pm c' ctv) GB HM):=by
 refine K9 (k:=0) Yb (fun vs H Q E h=>?_) (fun vs H Q E h=>?_)
 ·obtain⟨ea,c,e,r,rfl,_⟩:=h
  rfl
 ·obtain⟨ea,c,e,r,rfl,hf,hc,hv,hS,⟨dx,ar,am,h1,h2,h3⟩,k⟩:=h
  refine⟨hf,hc,[.ref c],.cons hv .nil,fun A outer s hr=>⟨_,Cj (EZ hr.units) (Ak (pv 0) rfl) (pv 1) (AR _),?_⟩⟩
  have sN:SameN H (hid (([("signs",cS)]:List (Str×Addr)).map (·.2)) H):=G5 (VY hv)
  refine⟨_,rfl,ea,CE,dx,_,_,rfl,sN _ _ h1 (fun _ z=>nomatch z),TE.cl,TE.row,OQ,_,rfl,_,_,A6 (SqL.of (sN _ _ h2 (fun _ z=>nomatch z))),A6 (sN.seq hS),A3 _,A3 _,?_⟩
  rw[CQ]
  intro _
  rw[Zp]
  exact k
end
def G1 (t u:Aj) (r:List Nat):List Int:=if 65536 < t.length∨65536 < u.length then [-2] else match DZ t with
 | .error _=>[-6]
 | .ok L=>match L.judgeBook u with
  | .error _=>[-9]
  | .ok B=>if r.length < 1∨8 < r.length then [-1] else if L.isRow r=false then [-4] else Ic (B.find r)
def spFind (K:AA) (PL PB PX:Addr):Sp:=fun vs H Q _=>∃(a b c:Addr) (t u:Aj) (r:List Nat),vs=[.ref a,.ref b,.ref c]∧U9 K PL PB H a b t u∧SqL K H c ((zn r).map V.int)∧r.length < 80000∧BF H PX (BY D8) GB∧∀(H':Hp) (x:Addr),H' x=some (.lst ((G1 t u r).map V.int))→Q (.ref x) H'
theorem scFind:AY ["t","b","signs","reading","number"] ["t","b","signs"] (AK HR):=⟨rfl,rfl,rfl,by decide +kernel,rfl,by decide +kernel,by decide +kernel⟩
section
variable {P:Program}{w:World}{K:AA}{mg:Str→Option Value}{base:Heap}{CL CK CB CE CR PL PB PX:Addr}
theorem ok_find {f cd:Addr}{fd:FuncData} (F:Fun K "find" "find" HR f fd) (hcd:fd.code=.ref cd) (C:CodeHd base cd PX) (hbm:EN mg base) (hPL:PL≠PX) (hPB:PB≠PX) (B:Blt mg) (TR:ReadC K CR) (TE:EntC K CE) (c1:Cst mg "OUT_OF_FORM" (.int (-1))) (c2:Cst mg "NO_SUCH_NUMBER" (.int (-4)))
  (g1:Gp P w K mg base "read_texts" 11 ["t","b"] (Sz K CL CK CB CE CR PL PB)) (g2:Has P w K mg "is_row_length" 1 ["length"] MC) (g3:Has P w K mg "is_sign" 1 ["locker","number"] (SY K CL CK)) (g5:Has P w K mg "number_or_refusal" 1 ["found"] Sm) (g4:Has P w K mg "number_of_first" 2 ["book","is_wanted"] (Sl P w K mg CB CE)):
  FnOk P w K mg base CX0 12 f fd ["t","b","signs"] (spFind K PL PB PX):=by
 refine F.okC hcd scFind (fun vs H Q E h=>?_) (fun A outer s H vs Q E hr h=>?_)
 ·obtain⟨a,b,c,t,u,r,rfl,_⟩:=h
  rfl
 ·obtain⟨a,b,c,t,u,r,rfl,X,hC,hrl,hT,k⟩:=h
  have hr1:Room 1 _:=hr.mono (by decide)
  have hr2:Room 2 _:=hr.mono (by decide)
  obtain⟨f1,fd1,i1,i2,i3,i4⟩:=g4
  refine⟨_,AJ (BB (i:=3) scFind.nd rfl (Df rfl) (Lb g1 hr (by rfl) (AB (pv 0) (AB (pv 1) AD))))
   (AJ (Al (Ac (HH hr.units) (Ak (pv 3) rfl) (A7 AD) (AR _)) (AH (AL (F5 GG (Ak (pv 3) rfl) F8 (F9 AO)))) An)
   (AJ (Al (Dn (Cm (AN g2 hr1 (by rfl) (AB (Av Bj (by rfl) B.len BW (AB (pv 2) AD)) AD)))) (AH (AL (A7 (AB (AW c1 rfl) AD)))) An)
   (AJ (Al (Dn (Cm (Av (Gw rfl) (by rfl) B.all Ht (AB (DW (own:=[("number",4)]) rfl scFind.nd (Dm (pv 2)) (DQ (N:=["t","b","signs","reading","number"]) (sc:=AK HR) (by decide +kernel)) (fun s H C cl fp=>Bq (i:=4) scFind.nd rfl (AZ rfl)) (fun s H C cl fp=>Dq)
      (fun s H C cl fp=>AN g3 hr1 (by rfl) (AB (Ec K rfl (pv 3) rfl) (AB (pv 4) AD)))) AD)))) (AH (AL (A7 (AB (AW c2 rfl) AD)))) An)
   (AH (AL (AN g5 hr1 (by rfl) (AB (La (i4 base) hr2 (by rfl) i1 i2 i3 (fun _=>rfl) (by show(["reading","signs"]:List Str).Nodup;decide) (AB (Ak (pv 3) rfl) (AB (Ld (clos:=[("signs",s.heap.objs.size+1)]) (qual:=GB) rfl C hbm (by rfl) (by rfl) (by rfl)) AD))) AD))))))),?_⟩
  refine⟨_,rfl,_,rfl,a,b,t,u,rfl,X.ta,X.ub,X.lt,X.lu,X.pl,X.pb,fun H1 x dx r0 rf lv bv kb t1 t2 hx hrf hR=>?_⟩
  refine⟨_,rfl,x,CR,dx,_,_,rfl,hx,TR.cl,TR.refusal,Qa,A5 _,fun l nl=>?_⟩
  have s1:Same H1 (upd H1 l (.lst [])):=(Same.refl H1).new nl
  have hl:upd H1 l (.lst []) l=some (.lst (([]:List Int).map V.int)):=AI
  generalize upd H1 l (.lst [])=H2 at s1 hl ⊢
  refine⟨_,_,A6 (SqL.of (s1 _ _ hrf)),A6 (SqL.of hl),A3 _,A3 _,?_⟩
  rw[CQ]
  refine⟨_,rfl,?_⟩
  by_cases hz:rf=[]
  ·subst hz
   refine bF (by rw[decide_eq_true rfl];rfl) ?_
   obtain⟨hm,L,Bk,hj,hb,xb,q,rfl,hB,hle,y,p,rfl,hLk,hW⟩:=Zd hR
   have eA:G1 t u r=if r.length < 1∨8 < r.length then [-1] else if L.isRow r=false then [-4] else Ic (Bk.find r):=by
    unfold G1
    rw[if_neg hm,hj]
    dsimp only
    rw[hb]
   rw[eA] at k
   have kbP:KeepBut [PL,PB] H H2:=kb.trans (KeepBut.of s1)
   have hT2:=Zc hPL hPB (FF X.pl) (FF X.pb) kbP hT
   have sT:SameT H H2:=fun b o e n=>kbP b o e fun m=>by
    obtain⟨q1,e1⟩:=FF X.pl
    obtain⟨q2,e2⟩:=FF X.pb
    rcases AS.mp m with z | z
    ·rw[z,e1] at e;cases e;exact n _ rfl
    ·rw[A4.mp z,e2] at e;cases e;exact n _ rfl
   have hC2:=sT.seq hC
   have hB2:=hB.mono s1
   have hL2:=hLk.mono s1
   have hx2:=s1 _ _ hx
   clear hC hB hLk hx hR hrf s1 kb kbP sT hl
   refine⟨_,rfl,c,_,rfl,.inl hC2,_,rfl,fun H3 s3=>⟨_,rfl,?_⟩⟩
   have el:((((zn r).map V.int).length:Nat):Int)=(r.length:Int):=by rw[AG,DK]
   rw[el]
   by_cases h1:r.length < 1∨8 < r.length
   ·rw[if_pos h1] at k
    refine bT ?_ ⟨(show 1≤sizeLine from CC (by decide)),fun l2 nl2=>k _ l2 AI⟩
    have:(decide ((1:Int)≤(r.length:Int))&&decide ((r.length:Int)≤8))=false:=by
     rcases h1 with q | q
     ·rw[decide_eq_false (by omega),Ce]
     ·rw[decide_eq_false (show ¬((r.length:Int)≤8) by omega),GP]
    show(!(decide ((1:Int)≤(r.length:Int))&&decide ((r.length:Int)≤8)))=true
    rw[this];rfl
   ·rw[if_neg h1,Wb hW (by omega) (by omega)] at k
    have:(decide ((1:Int)≤(r.length:Int))&&decide ((r.length:Int)≤8))=true:=by rw[decide_eq_true (by omega),decide_eq_true (show((r.length:Int)≤8) by omega)];rfl
    refine bF (by show(!(decide ((1:Int)≤(r.length:Int))&&decide ((r.length:Int)≤8)))=false;rw[this];rfl) ?_
    have hC3:=s3.seq hC2
    refine⟨_,rfl,c,rfl,⟨_,hC3⟩,fun D hD=>?_⟩
    refine D9 (n:=((zn r).map V.int).length) ((r.map fun n=>decide (n < L.signs)).map V.bl) (by simp[zn]) (Bo (by rw[AG,DK];omega)) hD (fun i H hi s2=>EU (s2.seq hC3) hi) (fun H s2=>EV (s2.seq hC3)) ?_ ?_
    ·rintro i y' z H4 H5 hz s4 ⟨rfl,hy⟩ R hRr
     obtain⟨n,hn,rfl⟩:=D7 (hy _ (s4.seq hC3))
     rw[Ah,Ah] at hz
     unfold zn at hn
     rw[Ah] at hn
     cases hri:r[i]? with
     | none=>rw[hri] at hn;cases hn
     | some m =>
      rw[hri] at hn hz
      have en:(m:Int)=n:=Ae hn
      have ez:V.bl (decide (m < L.signs))=z:=Ae hz
      subst en ez
      have s34:=s3.trans s4
      refine⟨rfl,_,rfl,x,CR,dx,_,_,rfl,s34 _ _ hx2,TR.cl,TR.locker,YH,_,rfl,y,p,L,[],_,rfl,hL2.mono s34,?_⟩
      rw[By (show(m:Int) < (L.signs:Int)↔m < L.signs by omega)]
      exact hRr
    ·intro H4 s4 hd4
     refine⟨D,r.map fun n=>decide (n < L.signs),rfl,SqL.of hd4,_,rfl,?_⟩
     rw[El]
     have s34:=s3.trans s4
     cases ha:r.all (fun n=>decide (n < L.signs)) with
     | false =>
      rw[ha,if_pos rfl] at k
      refine bT (by show(!(r.all fun n=>decide (n < L.signs)))=true;rw[ha];rfl) ⟨(show 1≤sizeLine from CC (by decide)),fun l2 nl2=>k _ l2 AI⟩
     | true =>
      rw[ha,if_neg (by decide)] at k
      refine bF (by show(!(r.all fun n=>decide (n < L.signs)))=false;rw[ha];rfl) ?_
      have hC4:=s34.seq hC2
      have hB4:=hB2.mono s34
      have hT4:=BR s34 hT2
      have hx4:=s34 _ _ hx2
      clear hC2 hB2 hL2 hT2 hx2 hC3 hd4 s3 s4 s34
      refine⟨_,rfl,x,CR,dx,_,_,rfl,hx4,TR.cl,TR.book,YG,hT4,fun H6 fL c' pm ctv kp2 nf hf hPt hco=>?_⟩
      intro H5 ho5 hn5 hcell
      have ho5:∀b,b∉[s.heap.objs.size+1+1,s.heap.objs.size+1]→H5 b=H6 b:=ho5
      have hn5:∀b∈[s.heap.objs.size+1+1,s.heap.objs.size+1],H6 b=none:=hn5
      have hcv:CellV H5 (s.heap.objs.size+1) (.ref c):=hcell 2 "signs" (.ref c) (s.heap.objs.size+1) rfl rfl rfl rfl
      have hcv2:CellV H5 (s.heap.objs.size+1+1) (.ref x):=hcell 3 "reading" (.ref x) (s.heap.objs.size+1+1) rfl rfl rfl rfl
      clear hcell
      generalize hcl2:s.heap.objs.size+1+1=cX at ho5 hn5 hcv2
      generalize hcl:s.heap.objs.size+1=cS at hf ho5 hn5 hcv
      have s45:Same H6 H5:=fun b o e=>by
       rw[ho5 b fun m=>by rw[hn5 b m] at e;cases e]
       exact e
      have kb34:KeepBut [PX] H4 H6:=fun b o e n=>kp2 b o e (by simpa using n)
      have s35:=(K7 hT4 kb34).trans (Same.t s45)
      have hC5:=s35.seq hC4
      have hB5:=hB4.monoT s35
      have hf5:=s45 _ _ hf
      have hco5:=CodeO.mono s45 hco
      have hw:(fun (e:Ax)=>decide (HM e=zn r))=fun (e:Ax)=>e.row==r:=by
       funext e
       unfold HM
       rw[C3,decide_eq_true_iff,beq_iff_eq]
       exact⟨fun z=>Ta z,fun z=>by rw[z]⟩
      refine⟨xb,fL,q,_,_,Bk.entries,fun e=>decide (HM e=zn r),rfl,hB5,⟨fun H6 s6=>⟨_,_,s6 _ _ hf5,rfl⟩,_,Sh K CE fL c' cS (P6 cS pm c' ctv) GB HM,fun base=>XW TE,.all (fun us hl=>match us,hl with | [_],_=>rfl),fun H6 ea e Q1 s6 he hq=>⟨ea,c,e,zn r,rfl,s6 _ _ hf5,CodeO.mono s6 hco5,CellV.mono s6 hcv,s6.seq hC5,he,hq⟩⟩,fun H7 s6=>?_⟩
      have ecs:BX ((Di CX0 P w K mg base ["t","b","signs","reading","number"] "find" (AK HR) f (A0 cd) A outer s H E).nox)=[cX,cS]:=by rw[← hcl2,← hcl];rfl
      refine⟨fun c2 hc2=>by
       rw[ecs] at hc2
       rcases AS.mp hc2 with m | m
       ·obtain⟨o,_,z,_⟩:=hcv2
        rw[m,z,s6 _ _ z]
       ·obtain⟨o,_,z,_⟩:=hcv
        rw[A4.mp m,z,s6 _ _ z],?_⟩
      refine⟨_,rfl,fun l2 nl2=>k _ l2 ?_⟩
      rw[AI,hw]
      rfl
  ·refine bT (by rw[decide_eq_false hz];rfl) ?_
   refine⟨_,rfl,x,CR,dx,_,_,rfl,s1 _ _ hx,TR.cl,TR.refusal,Qa,_,rfl,r0,_,rfl,SqL.of (s1 _ _ hrf),fun p np=>?_⟩
   refine k _ p ?_
   rw[AI,Ze (fun L B=>if r.length < 1∨8 < r.length then [-1] else if L.isRow r=false then [-4] else Ic (B.find r)) hR hz]
   rfl
end
end Fb
end
section
set_option maxRecDepth 100000
set_option maxHeartbeats 4000000
namespace L2
open PySem PySem.Spec PyProof.Rows
open PySem.W (WData Codec OpenSpec Well WellAll ReadsW CodeHd tabObj TabsAt noTabs)
mutual
theorem Vz {K:AA}{H H':Hp} (s:Same H H'):∀(d:WData) (v:V),Dw K H v d→Dw K H' v d
 | .none,_,h=>by cases h;exact .non
 | .bool _,_,h=>by cases h;exact .bl _
 | .int _,_,h=>by cases h;exact .int _
 | .str _,_,h=>by cases h;exact .str _
 | .bytes _,_,h=>by cases h;exact .byt _
 | .list ds,_,h=>by
  cases h with
  | lst h1 h2=>exact .lst (s.seq h1) (IV s ds _ h2)
 | .tuple ds,_,h=>by
  cases h with
  | tup h1 h2 =>
   refine .tup ?_ (IV s ds _ h2)
   rcases h1 with (q | ⟨o,q⟩) | q
   ·exact .inl (.inl (s _ _ q))
   ·exact .inl (.inr ⟨o,s _ _ q⟩)
   ·exact .inr q
 | .dict _,_,h=>by cases h
 | .set _,_,h=>by cases h
 | .frozenset _,_,h=>by cases h
 | .bytearray _,_,h=>by cases h
 | .float _,_,h=>by cases h
 | .obj _ _,_,h=>by cases h
theorem IV {K:AA}{H H':Hp} (s:Same H H'):∀(ds:List WData) (vs:List V),Cv K H vs ds→Cv K H' vs ds
 | [],_,h=>by cases h;exact .nil
 | d::ds,_,h=>by
  cases h with
  | cons h1 h2=>exact .cons (Vz s d _ h1) (IV s ds _ h2)
end
def FH (ps:List Addr) (H:Hp):Hp:=fun b=>if b∈ps then some (.tbl #[]) else H b
theorem MS {ps:List Addr}{H:Hp}{b:Addr} (h:b∈ps):FH ps H b=some (.tbl #[]):=if_pos h
theorem MT {ps:List Addr}{H:Hp}{b:Addr} (h:b∉ps):FH ps H b=H b:=if_neg h
theorem VW {P:Program}{w:World}{K:AA}{mg mb:Str→Option Value}{k:Nat}{fa:Addr}{fd:FuncData}{ps:List Str}{sp:Sp}{s1:Shared}{vals:List Value}{ds:List WData}{R:Um}{cl:Str→Option Addr}{d0:WData}{tabs:List (Addr×Addr)}
  (KX:K.In s1.heap) (hns:s1.heap.Ns mainGlobals mg) (hb:s1.heap.Ns builtinsNs mb) (hbb:∀x:Str,x≠"__name__"→mb x=bootBuiltins x) (hlim:s1.heap.NoLimit) (hg:s1.gens=#[]) (hbm:EN mg s1.heap) (hT:TabsAt tabs s1.heap) (hKT:noTabs K=true)
  (hwl:WellAll w.params s1.heap vals ds) (hpl:DG ds=true) (hwt:∀d∈ds,d.weight≤1048576) (hr:Room k callerA)
  (F:∀base:Heap,K.In base→base.Ns mainGlobals mg→(∀q∈tabs,CodeHd base q.1 q.2)→EN mg base→FnOk P w K mg base CX0 k fa fd ps sp)
  (hbind:∀(s:Shared) (us:List Value),us.length=ps.length→BindsTo s fd ⟨us,[]⟩ (ps.zip us)) (hlen:ds.length=ps.length)
  (hsp:∀(H:Hp) (xs:List V),(∀q∈tabs,H q.2=some (.tbl #[]))→Cv K H xs ds→sp xs H (fun v H'=>Dw K H' v d0) E0):
  codeAny (model P w) callerA (.call (.ref fa) ⟨vals,[]⟩) (fun r s'=>∃u as,r=.ok (.ret u)∧ReadsW R cl s'.heap u d0 as∧OldK s1.heap s'.heap∧s'.os=s1.os∧AllBare s'.gens) s1:=by
 obtain⟨A,hoU,ar⟩:=ID ds vals hwl hpl hwt
 have tabO:∀b∈tabs.map (·.2),s1.heap.get? b=some (tabObj #[]):=fun b m=>by
  obtain⟨q,hq,rfl⟩:=BP.mp m
  exact(hT q hq).2
 have argN:∀b∈tabs.map (·.2),Bs K s1.heap A b=none:=fun b m=>by
  cases e:Bs K s1.heap A b with
  | none=>rfl
  | some u =>
   obtain⟨_,vs,_,_,⟨z,_⟩ | ⟨z,_⟩⟩:=Kf ar e <;> (rw[tabO b m] at z;cases z)
 have kN:∀b∈tabs.map (·.2),K.lookup b=none:=fun b m=>by
  cases e:K.lookup b with
  | none=>rfl
  | some o =>
   have z:=KX b o e
   rw[tabO b m] at z
   cases z
   have h2:=Cg.mp hKT (b,_) (PySem.W.mem_of_lookupK e)
   exact absurd (show false=true from h2) Af
 have sA:Same (Bs K s1.heap A) (FH (tabs.map (·.2)) (Bs K s1.heap A)):=fun b o e=>by
  rw[MT fun m=>by rw[argN b m] at e;cases e]
  exact e
 have okA:HOk P w (Bs K s1.heap A) s1.heap:=VH ar
 have okT:HOk P w (FH (tabs.map (·.2)) (Bs K s1.heap A)) s1.heap:=fun b o e=>by
  by_cases m:b∈tabs.map (·.2)
  ·rw[MS m] at e
   cases e
   exact tabO b m
  ·rw[MT m] at e
   exact(okA b o e).stay (fun _ _ _ q=>q) (fun c q=>sA c _ q) fun c xs q=>sA c _ q
 have kinds:∀b u,FH (tabs.map (·.2)) (Bs K s1.heap A) b=some u→K.lookup b=none∧((u=.tbl #[]∧b∈tabs.map (·.2))∨∃o v,u=.frz o v∧∃c vs,o={ cls:=.type c,data:=.seq vs }∧s1.heap.get? b=some o):=fun b u e=>by
  by_cases m:b∈tabs.map (·.2)
  ·rw[MS m] at e
   cases e
   exact⟨kN b m,.inl ⟨rfl,m⟩⟩
  ·rw[MT m] at e
   obtain⟨h1,vs,_,_,⟨z,rfl⟩ | ⟨z,rfl⟩⟩:=Kf ar e
   ·exact⟨h1,.inr ⟨_,_,rfl,_,_,rfl,z⟩⟩
   ·exact⟨h1,.inr ⟨_,_,rfl,_,_,rfl,z⟩⟩
 have hS:=IV sA _ _ (IW KX ar ds vals hwl hpl hoU)
 have hV:=GO hoU
 have htb:∀q∈tabs,FH (tabs.map (·.2)) (Bs K s1.heap A) q.2=some (.tbl #[]):=fun q hq=>MS (BP.mpr ⟨q,hq,rfl⟩)
 generalize FH (tabs.map (·.2)) (Bs K s1.heap A)=H at okT kinds hS htb
 have free:∀{b:Addr} {o:Obj},s1.heap.get? b=some o→o≠tabObj #[]→(∀vs n,o.data≠.seq vs n)→H b=none:=fun {b o} e n1 n2=>by
  cases q:H b with
  | none=>rfl
  | some u =>
   rcases(kinds b u q).2 with ⟨_,m⟩ | ⟨o',v,_,c,vs,rfl,z⟩
   ·rw[tabO b m] at e;cases e;exact(n1 rfl).elim
   ·rw[z] at e;cases e;exact(n2 _ _ rfl).elim
 have at_:∀{b:Addr} {o:Obj},s1.heap.get? b=some o→H b=none→(CH s1.heap H).get? b=some o:=fun e n=>O4 e n
 have dictK:∀{b:Addr} {o:Obj} {es:Array DictEntry} {ep:Nat},s1.heap.get? b=some o→o.data=.dict es ep→(CH s1.heap H).get? b=some o:=fun e d=>at_ e (free e (fun z=>by rw[z] at d;cases d) fun vs n z=>by rw[z] at d;cases d)
 have nsK:∀{b:Addr} {m:Str→Option Value},s1.heap.Ns b m→(CH s1.heap H).Ns b m:=fun ⟨o,es,ep,e,d,r⟩=>⟨o,es,ep,dictK e d,d,r⟩
 have hKb:K.In (CH s1.heap H):=fun b o e=>at_ (KX b o e) (by
  cases q:H b with
  | none=>rfl
  | some u=>rw[(kinds b u q).1] at e;cases e)
 have hM:Mod K mg (CH s1.heap H):=⟨hKb,nsK hns,⟨mb,nsK hb,hbb⟩,let ⟨mc,h1,h2⟩:=hlim;⟨mc,nsK h1,h2⟩⟩
 have e0:Env0 P w K mg (CH s1.heap H) callerA [] s1 H:=⟨rfl,hM,fun b o e=>P8 e,Ho (O5 _ _),trivial,fun b hb=>absurd (show b∈([]:List Addr) from hb) (by simp),okT,.of_eq hg⟩
 have hCd:∀q∈tabs,CodeHd (CH s1.heap H) q.1 q.2:=fun q hq=>by
  obtain⟨o,vs,f1,t1,f2,t2,f3,f4,t4,e1,e2,e3,r⟩:=(hT q hq).1
  exact⟨o,vs,f1,t1,f2,t2,f3,f4,t4,at_ e1 (free e1 (fun z=>by rw[z] at e2;cases e2) fun vs n z=>by rw[z] at e3;cases e3),e2,e3,r⟩
 have hBm:EN mg (CH s1.heap H):=by
  obtain⟨bm,ob,b1,b2,b3,b4,b5,b6⟩:=hbm
  exact⟨bm,ob,b1,b2,at_ b3 (free b3 (fun z=>by rw[z] at b4;cases b4) fun vs n z=>by rw[z] at b6;cases b6),b4,b5,b6⟩
 have hl:vals.length=ps.length:=by rw[JU hwl];exact hlen
 refine FZ ((F _ hKb (nsK hns) hCd hBm).run callerA [] s1 H ⟨vals,[]⟩ vals (vals.map toV) _ _ hr e0 (hbind s1 vals hl) hV (hsp H _ htb hS)) fun r s' x=>?_
 cases r with
 | error e=>exact BL x
 | ok fl =>
  cases fl with
  | next=>exact BL x
  | brk=>exact BL x
  | cont=>exact BL x
  | ret u =>
   obtain⟨v,H',os,bare,un,hok',r',q⟩:=x
   have kept:∀b o,s1.heap.get? b=some o→b∉tabs.map (·.2)→s'.heap.get? b=some o:=fun b o e n=>by
    cases q2:H b with
    | none=>exact un.keep b o e q2 (by intro z;exact absurd (show b∈([]:List Addr) from z) (by simp)) (by simp)
    | some u2 =>
     rcases(kinds b u2 q2).2 with ⟨_,m⟩ | ⟨o',v',rfl,_,_,_,z⟩
     ·exact(n m).elim
     ·have z2:=un.frzs b o' _ q2
      obtain⟨e2,_⟩:=hok' b _ z2
      rw[z] at e
      cases e
      exact e2
   have grown:∀b o,s1.heap.get? b=some o→b∈tabs.map (·.2)→isCodeTable s1.heap b∧o=tabObj #[]∧∃qs,s'.heap.get? b=some (tabObj qs):=fun b o e m=>by
    obtain⟨q,hq,rfl⟩:=BP.mp m
    have e2:=(hT q hq).2
    rw[e] at e2
    obtain⟨more,z⟩:=un.tbls _ _ (htb q hq)
    exact⟨((hT q hq).1.tab (hT q hq).2).isCodeTable,Ae e2,_,hok' _ _ z⟩
   have KX':K.In s'.heap:=fun b o e=>kept b o (KX b o e) fun m=>by rw[kN b m] at e;cases e
   obtain⟨as,hrd⟩:=Dw.reads (R:=R) (cl:=cl) hok' KX' d0 v u q r'
   refine⟨u,as,rfl,hrd,⟨fun b o e=>?_,fun b o e=>?_⟩,os,bare⟩
   ·by_cases m:b∈tabs.map (·.2)
    ·obtain⟨h1,rfl,qs,h2⟩:=grown b o e m
     exact .inr (.inl ⟨h1,rfl,#[],qs,rfl,by rw[Array.empty_append];exact h2⟩)
    ·exact .inl (kept b o e m)
   ·by_cases m:b∈tabs.map (·.2)
    ·obtain⟨_,_,qs,h2⟩:=grown b o e m
     exact⟨_,h2⟩
    ·exact⟨o,kept b o e m⟩
end L2
end
section
set_option maxRecDepth 100000
set_option maxHeartbeats 4000000
namespace Fb
open PySem PySem.Spec PyProof.Rows L2
open PySem.W (nsIn codeIn keepIn findIn isFn fnOf plainGet hasDictIn plainOver makesIn)
section
variable {K:AA}{h:Heap}{mg:Str→Option Value}
theorem Vq {x nm qual:Str}{st:Stmt}{ps:List Str}{f:Addr}{oc kV doc pm cdv ct:Value}{od an:Option Addr}{osl:Array (Option Value)} (X:K.In h) (G:h.Ns mainGlobals mg) (a:nsIn K mainGlobals x=some (some (.ref f)))
  (l:K.lookup f=some ⟨oc,od,.func (fnOf nm qual (CG st) (Bm st) (AK st) .none kV doc pm an cdv ct),osl⟩) (c:codeIn K cdv qual=true) (k:keepIn K (.ref f)=true)
  (b:∀(kV doc pm:Value) (an:Option Addr) (cdv ct:Value) (us:List Value),us.length=ps.length→bindArgs (fnOf nm qual (CG st) (Bm st) (AK st) .none kV doc pm an cdv ct) ⟨us,[]⟩=pure (ps.zip us)):
  ∃f fd,Def K mg x nm qual st ps f fd∧fd.code=cdv∧∀(s:Shared) (us:List Value),us.length=ps.length→BindsTo s fd ⟨us,[]⟩ (ps.zip us) :=
 ⟨f,_,⟨Fn l c k,FY X G a,(Fn l c k).binds b⟩,rfl,fun s us hl=>.of_eq (b _ _ _ _ _ _ us hl)⟩
theorem OL {x nm qual:Str}{st:Stmt}{ps:List Str} (cd:Addr) {f:Addr}{oc kV doc pm ct:Value}{od an:Option Addr}{osl:Array (Option Value)} (X:K.In h) (G:h.Ns mainGlobals mg) (a:nsIn K mainGlobals x=some (some (.ref f)))
  (l:K.lookup f=some ⟨oc,od,.func (fnOf nm qual (CG st) (Bm st) (AK st) .none kV doc pm an (.ref cd) ct),osl⟩) (c:codeIn K (.ref cd) qual=true) (k:keepIn K (.ref f)=true)
  (b:∀(kV doc pm:Value) (an:Option Addr) (cdv ct:Value) (us:List Value),us.length=ps.length→bindArgs (fnOf nm qual (CG st) (Bm st) (AK st) .none kV doc pm an cdv ct) ⟨us,[]⟩=pure (ps.zip us)):
  ∃f fd,Def K mg x nm qual st ps f fd∧fd.code=.ref cd∧∀(s:Shared) (us:List Value),us.length=ps.length→BindsTo s fd ⟨us,[]⟩ (ps.zip us) :=
 ⟨f,_,⟨Fn l c k,FY X G a,(Fn l c k).binds b⟩,rfl,fun s us hl=>.of_eq (b _ _ _ _ _ _ us hl)⟩
structure ClsD (K:AA) (mg:Str→Option Value) (x qual:Str) (st:Stmt) (ps:List Str) (C f:Addr) (fd:FuncData):Prop where
 at_:mg x=some (.ref C)
 cl:Cls K C
 mks:Mk K C f
 fn:Fun K "__init__" qual st f fd
 bd:Binds K fd ps []
theorem Va {x qual:Str}{st:Stmt}{ps:List Str} (C:Addr) {f:Addr}{oc kV doc pm cdv ct:Value}{od an:Option Addr}{osl:Array (Option Value)} (X:K.In h) (G:h.Ns mainGlobals mg) (a:nsIn K mainGlobals x=some (some (.ref C)))
  (a1:findIn K (.ref C) "__init__"=some (some (.ref f))) (i1:isFn K (.ref f)=true)
  (l:K.lookup f=some ⟨oc,od,.func (fnOf "__init__" qual (CG st) (Bm st) (AK st) .none kV doc pm an cdv ct),osl⟩) (c:codeIn K cdv qual=true) (k:keepIn K (.ref f)=true)
  (pg:plainGet K C NK=true) (hd:hasDictIn K C=true) (po:plainOver K C=true) (sa:findIn K (.ref C) "__setattr__"=some (some (.builtin "object.__setattr__"))) (mk:makesIn K C=true) (kc:keepIn K (.ref C)=true)
  (b:∀(kV doc pm:Value) (an:Option Addr) (cdv ct:Value) (us:List Value),us.length=ps.length→bindArgs (fnOf "__init__" qual (CG st) (Bm st) (AK st) .none kV doc pm an cdv ct) ⟨us,[]⟩=pure (ps.zip us)):
  ∃f fd,ClsD K mg x qual st ps C f fd :=
 ⟨f,_,FY X G a,⟨pg,hd,po,sa⟩,⟨mk,a1,i1,kc⟩,Fn l c k,(Fn l c k).binds b⟩
theorem Ve {x:Str}{n:Int}{t:Tok} (X:K.In h) (G:h.Ns mainGlobals mg) (a:nsIn K mainGlobals x=some (some (.int n t))):Cst mg x (.int n):=⟨_,FY X G a,⟨t,rfl⟩⟩
theorem Vf {x z:Str}{t:Tok} (X:K.In h) (G:h.Ns mainGlobals mg) (a:nsIn K mainGlobals x=some (some (.str z t))):Cst mg x (.str z):=⟨_,FY X G a,⟨t,rfl⟩⟩
theorem Vg {x y1 y2 y3:Str}{t1 t2 t3:Tok}{a:Addr}{od:Option Addr}{n:Nat}{sl:Array (Option Value)} (X:K.In h) (G:h.Ns mainGlobals mg) (e:nsIn K mainGlobals x=some (some (.ref a))) (l:K.lookup a=some ⟨.type "tuple",od,.seq #[.str y1 t1,.str y2 t2,.str y3 t3] n,sl⟩):
 KZ K mg x ([y1,y2,y3].map V.str):=⟨a,FY X G e,fun H=>.inr ⟨_,_,_,l,rfl,rfl,(show 3≤sizeLine from CC (by decide)),.cons ⟨t1,rfl⟩ (.cons ⟨t2,rfl⟩ (.cons ⟨t3,rfl⟩ .nil))⟩⟩
theorem XR {x:Str} (X:K.In h) (G:h.Ns mainGlobals mg) (e:nsIn K mainGlobals x=some none):mg x=none:=PySem.W.mg_none_of X G e
end
theorem Def.hasB {P:Program}{w:World}{K:AA}{mg:Str→Option Value}{base:Heap}{x nm qual:Str}{st:Stmt}{ps:List Str}{f:Addr}{fd:FuncData}{k:Nat}{sp:Sp} (D:Def K mg x nm qual st ps f fd) (h:FnOk P w K mg base CX0 k f fd ps sp):Gp P w K mg base x k ps sp :=
 ⟨f,fd,D.at_,D.fn.kp,D.bd,h⟩
theorem ClsD.has {P:Program}{w:World}{K:AA}{mg:Str→Option Value}{x qual:Str}{st:Stmt}{ps:List Str}{C f:Addr}{fd:FuncData}{k:Nat}{sp:Sp} (D:ClsD K mg x qual st ps C f fd) (h:∀base:Heap,FnOk P w K mg base CX0 k f fd ps sp):EO P w K mg x C k ps sp :=
 ⟨D.at_,f,fd,D.mks,D.bd,h⟩
theorem zs_of:∀{l:List Int},(∀n∈l,0≤n∧n≤255)→zs (l.map fun (n:Int)=>DO n.toNat)=l
 | [],_=>rfl
 | n::l,h=>by
  have ih:=zs_of (l:=l) fun m hm=>h m (Ao _ hm)
  obtain⟨h1,h2⟩:=h n AU
  show((DO n.toNat).toNat:Int)::zs (l.map fun (n:Int)=>DO n.toNat)=n::l
  rw[ih,UInt8.toNat_ofNat']
  have:n.toNat % 2 ^ 8=n.toNat:=Nat.mod_eq_of_lt (by omega)
  rw[this,Tg h1]
theorem S6 {l:List Int} (h:∀n∈l,0≤n∧n≤255):JX l=some (l.map fun (n:Int)=>DO n.toNat):=by
 unfold JX
 rw[if_pos]
 unfold NeutralIO.bytes
 rw[Cg]
 intro n hn
 rw[BI,decide_eq_true_iff,decide_eq_true_iff]
 exact h n hn
end Fb
end
section
set_option maxRecDepth 100000
set_option maxHeartbeats 4000000
namespace Fb
open PySem PySem.Spec PyProof.Rows L2
theorem zn_of:∀{l:List Int},(∀n∈l,0≤n∧n≤255)→zn (l.map fun (n:Int)=>n.toNat)=l
 | [],_=>rfl
 | n::l,h=>by
  have ih:=zn_of (l:=l) fun m hm=>h m (Ao _ hm)
  show((n.toNat:Nat):Int)::zn (l.map fun (n:Int)=>n.toNat)=n::l
  rw[ih,Tg (h n AU).1]
theorem Pz:∀{l:List Int},(∀n∈l,0≤n∧n≤255)→MX l=some (l.map fun (n:Int)=>n.toNat)
 | [],_=>rfl
 | n::l,h=>by
  have ih:=Pz (l:=l) fun m hm=>h m (Ao _ hm)
  unfold MX at ih ⊢
  rw[FP,ih]
  unfold FlagCNeutral.nat?
  rw[if_pos (h n AU).1]
  rfl
theorem find_due {t u s:List Int} (ht:∀n∈t,0≤n∧n≤255) (hu:∀n∈u,0≤n∧n≤255) (hs:∀n∈s,0≤n∧n≤255):PyWqbacu.find t u s=G1 (t.map fun (n:Int)=>DO n.toNat) (u.map fun (n:Int)=>DO n.toNat) (s.map fun (n:Int)=>n.toNat):=by
 show(match Td [[4],t,u,s] with
  | some x=>(JZ x).ret::(((JZ x).nums.map fun (n:Nat)=>(n:Int))++(JZ x).bytes.map fun (b:UInt8)=>(b.toNat:Int))
  | none=>[])=_
 have e:Td [[4],t,u,s]=some (.find (t.map fun (n:Int)=>DO n.toNat) (u.map fun (n:Int)=>DO n.toNat) (s.map fun (n:Int)=>n.toNat)):=by
  show(do return FlagsC3.Call.find (← JX t) (← JX u) (← MX s))=_
  rw[S6 ht,S6 hu,Pz hs]
  rfl
 rw[e]
 generalize (t.map fun (n:Int)=>DO n.toNat)=tb
 generalize (u.map fun (n:Int)=>DO n.toNat)=ub
 generalize (s.map fun (n:Int)=>n.toNat)=r
 show(FlagsC3.ofBook tb ub FlagsC3.amiss fun L B=>if r.length < 1∨GS < r.length then Flags.BAD else if L.isRow r=false then Flags.NO else match B.find r with
   | some i=>Flags.says (i:Nat)
   | none=>Flags.NONE).ret::_=_
 unfold JZ FlagsC3.ofBook G1
 by_cases hm:65536 < tb.length∨65536 < ub.length
 ·have hm':JY < tb.length∨JY < ub.length:=hm
  simp only[if_pos hm']
  rw[if_pos hm]
  rfl
 ·have hm':¬(JY < tb.length∨JY < ub.length):=hm
  simp only[if_neg hm']
  rw[if_neg hm]
  cases DZ tb with
  | error e=>rfl
  | ok L =>
   dsimp only
   cases L.judgeBook ub with
   | error e=>rfl
   | ok B =>
    dsimp only
    by_cases h1:r.length < 1∨8 < r.length
    ·have h1':r.length < 1∨GS < r.length:=h1
     simp only[if_pos h1',if_pos h1]
     rfl
    ·have h1':¬(r.length < 1∨GS < r.length):=h1
     simp only[if_neg h1',if_neg h1]
     by_cases h2:L.isRow r=false
     ·simp only[if_pos h2]
      rfl
     ·simp only[if_neg h2]
      cases B.find r with
      | none=>rfl
      | some i=>rfl
end Fb
end
section
set_option maxRecDepth 100000
set_option maxHeartbeats 4000000
namespace Fb
open PySem PySem.Spec PyProof.Rows L2
open PySem.W (nsIn codeIn keepIn findIn isFn fnOf plainGet hasDictIn plainOver makesIn)
def G4 (h:Heap):List Addr→AA
 | []=>[]
 | a::as=>match h.get? a with
  | some o=>(a,o)::G4 h as
  | none=>G4 h as
theorem K1 (h:Heap):∀as:List Addr,AA.In (G4 h as) h
 | [],a,o,e=>nomatch e
 | b::as,a,o,e=>by
  unfold G4 at e
  cases hb:h.get? b with
  | none=>rw[hb] at e;exact K1 h as a o e
  | some u =>
   rw[hb] at e
   dsimp only at e
   rw[Dd] at e
   by_cases q:a=b
   ·subst q
    rw[beq_self_eq_true] at e
    cases e
    exact hb
   ·rw[beq_false_of_ne q] at e
    exact K1 h as a o e
def Kj (fd:FuncData):FuncData:={ fd with kwdefaults:=.none,doc:=.none,pyModule:=.none,annotations:=none,code:=.none,closureTuple:=.none }
def AX (nm qual:Str) (st:Stmt):FuncData:=fnOf nm qual (CG st) (Bm st) (AK st) .none .none .none .none none .none .none
theorem VP {fd:FuncData}{nm qual:Str}{st:Stmt} (e:Kj fd=AX nm qual st):fd=fnOf nm qual (CG st) (Bm st) (AK st) .none fd.kwdefaults fd.doc fd.pyModule fd.annotations fd.code fd.closureTuple:=by
 cases fd
 unfold Kj AX fnOf at e
 injection e with e1 e2 e3 e4 e5 e6 e7 e8 _ _ _ _ _ _ e9
 subst e1 e2 e3 e4 e5 e6 e7 e8 e9
 rfl
def G2 (K:AA) (qual:Str) (f:Addr):Option (FuncData×Bool):=match K.lookup f with
 | some ⟨_,_,.func fd,_⟩=>some (Kj fd,codeIn K fd.code qual&&keepIn K (.ref f))
 | _=>none
theorem Ib {K:AA}{nm qual:Str}{st:Stmt}{f:Addr} (e:G2 K qual f=some (AX nm qual st,true)):
  ∃(oc:Value) (od:Option Addr) (kV doc pm:Value) (an:Option Addr) (cdv ct:Value) (osl:Array (Option Value)),K.lookup f=some ⟨oc,od,.func (fnOf nm qual (CG st) (Bm st) (AK st) .none kV doc pm an cdv ct),osl⟩∧codeIn K cdv qual=true∧keepIn K (.ref f)=true:=by
 unfold G2 at e
 split at e
 ·rename_i oc od fd osl hl
  injection e with e
  injection e with e1 e2
  rw[BI] at e2
  exact⟨oc,od,fd.kwdefaults,fd.doc,fd.pyModule,fd.annotations,fd.code,fd.closureTuple,osl,by rw[hl,← VP e1],e2.1,e2.2⟩
 ·cases e
def Ab (K:AA) (x qual:Str):Option (FuncData×Bool):=match nsIn K mainGlobals x with
 | some (some (.ref f))=>G2 K qual f
 | _=>none
section
variable {K:AA}{h:Heap}{mg:Str→Option Value}
theorem def_seen {x nm qual:Str}{st:Stmt}{ps:List Str} (X:K.In h) (G:h.Ns mainGlobals mg) (e:Ab K x qual=some (AX nm qual st,true))
  (b:∀(kV doc pm:Value) (an:Option Addr) (cdv ct:Value) (us:List Value),us.length=ps.length→bindArgs (fnOf nm qual (CG st) (Bm st) (AK st) .none kV doc pm an cdv ct) ⟨us,[]⟩=pure (ps.zip us)):
  ∃f fd,Def K mg x nm qual st ps f fd∧∀(s:Shared) (us:List Value),us.length=ps.length→BindsTo s fd ⟨us,[]⟩ (ps.zip us):=by
 unfold Ab at e
 split at e
 ·rename_i f a
  obtain⟨oc,od,kV,doc,pm,an,cdv,ct,osl,l,c,k⟩:=Ib e
  obtain⟨f,fd,d,_,hb⟩:=Vq X G a l c k b
  exact⟨f,fd,d,hb⟩
 ·cases e
def E2 (K:AA) (x:Str):Option Addr:=match nsIn K mainGlobals x with
 | some (some (.ref f))=>(match K.lookup f with
  | some ⟨_,_,.func fd,_⟩=>(match fd.code with
   | .ref c=>some c
   | _=>none)
  | _=>none)
 | _=>none
theorem def_seenC {x nm qual:Str}{st:Stmt}{ps:List Str}{c0:Addr} (X:K.In h) (G:h.Ns mainGlobals mg) (e:Ab K x qual=some (AX nm qual st,true)) (ec:E2 K x=some c0)
  (b:∀(kV doc pm:Value) (an:Option Addr) (cdv ct:Value) (us:List Value),us.length=ps.length→bindArgs (fnOf nm qual (CG st) (Bm st) (AK st) .none kV doc pm an cdv ct) ⟨us,[]⟩=pure (ps.zip us)):
  ∃f fd,Def K mg x nm qual st ps f fd∧fd.code=.ref c0:=by
 unfold Ab at e
 unfold E2 at ec
 split at e
 ·rename_i f a
  rw[a] at ec
  dsimp only at ec
  obtain⟨oc,od,kV,doc,pm,an,cdv,ct,osl,l,c,k⟩:=Ib e
  rw[l] at ec
  dsimp only at ec
  cases cdv with
  | ref c1 =>
   dsimp only at ec
   cases ec
   obtain⟨f,fd,d,hc,hb⟩:=OL c0 X G a l c k b
   exact⟨f,fd,d,hc⟩
  | _=>cases ec
 ·cases e
theorem def_seenD {x nm qual:Str}{st:Stmt}{ps:List Str}{c0:Addr} (X:K.In h) (G:h.Ns mainGlobals mg) (e:Ab K x qual=some (AX nm qual st,true)) (ec:E2 K x=some c0)
  (b:∀(kV doc pm:Value) (an:Option Addr) (cdv ct:Value) (us:List Value),us.length=ps.length→bindArgs (fnOf nm qual (CG st) (Bm st) (AK st) .none kV doc pm an cdv ct) ⟨us,[]⟩=pure (ps.zip us)):
  ∃f fd,Def K mg x nm qual st ps f fd∧fd.code=.ref c0∧∀(s:Shared) (us:List Value),us.length=ps.length→BindsTo s fd ⟨us,[]⟩ (ps.zip us):=by
 unfold Ab at e
 unfold E2 at ec
 split at e
 ·rename_i f a
  rw[a] at ec
  dsimp only at ec
  obtain⟨oc,od,kV,doc,pm,an,cdv,ct,osl,l,c,k⟩:=Ib e
  rw[l] at ec
  dsimp only at ec
  cases cdv with
  | ref c1 =>
   dsimp only at ec
   cases ec
   obtain⟨f,fd,d,hc,hb⟩:=OL c0 X G a l c k b
   exact⟨f,fd,d,hc,hb⟩
  | _=>cases ec
 ·cases e
def LQ (K:AA) (C:Addr) (f:Str):Bool:=match findIn K (.ref C) f with
 | some none=>true
 | _=>false
theorem XQ {C:Addr}{f:Str} (e:LQ K C f=true):findIn K (.ref C) f=some none:=by
 unfold LQ at e
 split at e
 ·assumption
 ·cases e
def Lv (K:AA) (C:Addr):Bool:=match findIn K (.ref C) "__setattr__" with
 | some (some (.builtin z))=>decide (z="object.__setattr__")
 | _=>false
theorem Yt {C:Addr} (e:Lv K C=true):findIn K (.ref C) "__setattr__"=some (some (.builtin "object.__setattr__")):=by
 unfold Lv at e
 split at e
 ·rename_i z hz
  rw[hz,of_decide_eq_true e]
 ·cases e
def LK (K:AA) (x:Str) (C:Addr):Bool:=match nsIn K mainGlobals x with
 | some (some (.ref c))=>decide (c=C)
 | _=>false
theorem XF {C:Addr}{x:Str} (e:LK K x C=true):nsIn K mainGlobals x=some (some (.ref C)):=by
 unfold LK at e
 split at e
 ·rename_i c hc
  rw[hc,of_decide_eq_true e]
 ·cases e
def Ez (K:AA) (x:Str) (C:Addr) (fields:List Str):Bool :=
 LK K x C&&(plainGet K C NK&&(hasDictIn K C&&(plainOver K C&&(Lv K C&&(makesIn K C&&(keepIn K (.ref C)&&fields.all (LQ K C)))))))
def E1 (K:AA) (qual:Str) (C:Addr):Option ((FuncData×Bool)×Bool):=match findIn K (.ref C) "__init__" with
 | some (some (.ref f))=>(G2 K qual f).map fun p=>(p,isFn K (.ref f))
 | _=>none
theorem cls_seen {x qual:Str}{st:Stmt}{ps:List Str}{C:Addr}{fields:List Str} (X:K.In h) (G:h.Ns mainGlobals mg) (e:E1 K qual C=some ((AX "__init__" qual st,true),true)) (eb:Ez K x C fields=true)
  (b:∀(kV doc pm:Value) (an:Option Addr) (cdv ct:Value) (us:List Value),us.length=ps.length→bindArgs (fnOf "__init__" qual (CG st) (Bm st) (AK st) .none kV doc pm an cdv ct) ⟨us,[]⟩=pure (ps.zip us)):
  (∃f fd,ClsD K mg x qual st ps C f fd)∧∀f∈fields,findIn K (.ref C) f=some none:=by
 unfold Ez at eb
 simp only[BI] at eb
 obtain⟨b1,b2,b3,b4,b5,b6,b7,b8⟩:=eb
 refine⟨?_,fun f hf=>XQ (Cg.mp b8 f hf)⟩
 unfold E1 at e
 split at e
 ·rename_i f a
  cases hq:G2 K qual f with
  | none=>rw[hq] at e;cases e
  | some p =>
   rw[hq] at e
   injection e with e
   injection e with e1 e2
   rw[e1] at hq
   obtain⟨oc,od,kV,doc,pm,an,cdv,ct,osl,l,c,k⟩:=Ib hq
   exact Va C X G (XF b1) a e2 l c k b2 b3 b4 (Yt b5) b6 b7 b
 ·cases e
def A1 (K:AA) (x:Str):Option Int:=match nsIn K mainGlobals x with
 | some (some (.int n _))=>some n
 | _=>none
theorem int_seen {x:Str}{n:Int} (X:K.In h) (G:h.Ns mainGlobals mg) (e:A1 K x=some n):Cst mg x (.int n):=by
 unfold A1 at e
 split at e
 ·rename_i m t a
  cases e
  exact Ve X G a
 ·cases e
def ME (K:AA) (x:Str):Option Str:=match nsIn K mainGlobals x with
 | some (some (.str n _))=>some n
 | _=>none
theorem str_seen {x z:Str} (X:K.In h) (G:h.Ns mainGlobals mg) (e:ME K x=some z):Cst mg x (.str z):=by
 unfold ME at e
 split at e
 ·rename_i m t a
  cases e
  exact Vf X G a
 ·cases e
def MN (K:AA) (x:Str):Option (Bool×Str×Str×Str):=match nsIn K mainGlobals x with
 | some (some (.ref a))=>(match K.lookup a with
  | some ⟨.type t,_,.seq vs _,_⟩=>(match vs with
   | ⟨[.str y1 _,.str y2 _,.str y3 _]⟩=>some (decide (t="tuple"),y1,y2,y3)
   | _=>none)
  | _=>none)
 | _=>none
theorem tup_seen {x y1 y2 y3:Str} (X:K.In h) (G:h.Ns mainGlobals mg) (e:MN K x=some (true,y1,y2,y3)):KZ K mg x ([y1,y2,y3].map V.str):=by
 unfold MN at e
 split at e
 ·rename_i a ha
  split at e
  ·rename_i t od vs n sl hl
   split at e
   ·rename_i z1 t1 z2 t2 z3 t3
    injection e with e
    injection e with e0 e
    injection e with e1 e
    injection e with e2 e3
    subst e1 e2 e3
    rw[of_decide_eq_true e0] at hl
    exact Vg X G ha hl
   ·cases e
  ·cases e
 ·cases e
def Dl (K:AA) (x:Str):Bool:=match nsIn K mainGlobals x with
 | some none=>true
 | _=>false
theorem no_seen {x:Str} (X:K.In h) (G:h.Ns mainGlobals mg) (e:Dl K x=true):mg x=none:=by
 unfold Dl at e
 split at e
 ·rename_i a
  exact XR X G a
 ·cases e
end
end Fb
end
section
set_option maxRecDepth 100000
set_option maxHeartbeats 4000000
namespace L2
open PySem PySem.Spec PyProof.Rows
open PySem.W (WData Codec OpenSpec Well WellAll ReadsW CodeHd tabObj TabsAt noTabs)
theorem walk_hook {r:OpenSpec}{k:Nat}{q:Program}{loose:List Str}{XP:(Str→Option Value)→Heap→Prop}{YP:World→Heap→Prop}{d:DefRec}{Gd:AA→Prop}{ps:List Str}{sp:AA→Sp}{tabs:List (Addr×Addr)}
  (hwell:r.wellSaid=true) (hdf:d.params.defaults=[]) (hlen:r.args.length=ps.length) (hr:Room k callerA)
  (hY:∀(w:World) (h:Heap),YP w h→∃K:AA,K.In h∧Gd K) (hKT:∀K:AA,Gd K→noTabs K=true)
  (hT:∀(K:AA) (lo:List Str) (mean:ExcName→Option Value) (mg mb:Str→Option Value) (h:Heap),Gd K→K.In h→Top q lo mean mg mb h→TabsAt tabs h)
  (F:∀(w:World) (K:AA) (mg:Str→Option Value) (fa:Addr) (h:Heap),Gd K→K.In h→h.Ns mainGlobals mg→mg d.name=some (.ref fa)→
   ∃fd:FuncData,(∀(s:Shared) (us:List Value),us.length=ps.length→BindsTo s fd ⟨us,[]⟩ (ps.zip us))∧
    ∀base:Heap,K.In base→base.Ns mainGlobals mg→(∀q∈tabs,CodeHd base q.1 q.2)→EN mg base→FnOk r.prog w K mg base CX0 k fa fd ps (sp K))
  (hsp:∀(K:AA) (H:Hp) (xs:List V) (a:Codec.denoteAll r.args),(∀q∈tabs,H q.2=some (.tbl #[]))→Codec.withinAll r.args a=true→Codec.app r.args r.asked a=true→Cv K H xs (Codec.encAll r.args a)→
   sp K xs H (fun v H'=>Dw K H' v (r.ret.enc (Codec.app r.args r.f a))) E0):
  PySem.W.WalkOS q loose XP YP r d [] (fun f vs=>NW f vs):=by
 intro w s_0 s1 mg mb G Y fa o pm cd doc dV kV ho hd hcd hD hmg hg args vals as hpre hlay hrd hwl hlo
 obtain⟨a,e1,e2⟩:=PySem.W.os_pre_some hpre
 obtain⟨e3,hwi⟩:=Codec.encAll_of_decAll r.args args a e1
 subst e3
 obtain⟨K,KX,gK⟩:=hY w _ Y
 obtain⟨fd,hb,hF⟩:=F w K mg fa _ gK KX G.T.g hmg
 refine PySem.W.enter_call (FZ (VW (R:=[]) (cl:=classAt s_0.heap) (d0:=r.ret.enc (Codec.app r.args r.f a)) KX G.T.g G.T.b G.T.builtins G.T.nolimit hg G.T.bmain (hT K _ _ mg mb _ gK KX G.T) (hKT K gK) hwl (QT _ _) (Wv hlay) hr hF hb (by rw[OR];exact hlen)
  (fun H xs hO hS=>hsp K H xs a hO hwi e2 hS)) fun r' s' hq=>?_)
 obtain⟨u,as',rfl,h1,h2,h3,h4⟩:=hq
 exact⟨.inl ⟨u,_,as',rfl,fun _=>rfl,h1,(OpenSpec.post_iff hwell hwi _ _).mpr rfl,fun z=>C4 (show false=true from z)⟩,h2,h3,h4⟩
end L2
end
set_option maxRecDepth 100000
set_option maxHeartbeats 4000000
namespace Fb
open PySem PySem.Spec PyProof.Rows L2
def asN:List Addr:=[2,3,15,18,19,20,22,23,25,26,27,29,30,32,33,34,36,37,39,40,41,44,45,46,48,49,51,52,53,55,56,58,59,60,63,64,65,67,68,70,71,72,74,75,77,78,79,81,82,84,85,86,88,89,91,92,100,102,103,105,106,107,108,109,110,111,121,123,124,126,127,128,129,130,131,132,135,138,139,140,142,143,145,146,147,149,150,152,153,154,156,157,159,160,161,164,165,166,168,169,171,172,173,176,177,178,180,181,183,184,185,187,188,190,191,192,194,195,197,198,199,201,202,204,205,206,208,209,211,212,213,215,216,218,219,220,222,223,225,226,227,229,230,232,233,234,242,244,245,247,248,249,250,251,252,253,263,265,266,268,269,270,271,272,273,274,277,279,280,282,283,284,286,287,289,290,291,294,295,296,298,299,301,302,303,305,306,308,309,310,312,313,315,316,317,320,321,322,325,326,327,329,330,332,333,334,336,337,339,340,341,343,344,346,347,348,350,351,353,354,355,357,358,360,361,369,371,372,374,375,376,377,378,379,380,383,385,386,388,389,390,392,393,395,396,397,400,401]
def OW (K:AA):List (Option (FuncData×Bool)):=[Ab K "kinds_that_mean" "kinds_that_mean",Ab K "first_left" "first_left",Ab K "hoist_told" "hoist_told",Ab K "can_show" "can_show",Ab K "letters" "letters",Ab K "split_at" "split_at",Ab K "is_name_byte" "is_name_byte",Ab K "is_name" "is_name",Ab K "is_naming_line" "is_naming_line",Ab K "named" "named",Ab K "first_fault" "first_fault",Ab K "count_lines" "count_lines",Ab K "is_meaning" "is_meaning",Ab K "row_word" "row_word",Ab K "meaning_told" "meaning_told",Ab K "is_row_length" "is_row_length",Ab K "is_row_word" "is_row_word",Ab K "is_entry_line" "is_entry_line",Ab K "signs_told" "signs_told",Ab K "place_in_order" "place_in_order",Ab K "is_row_behind" "is_row_behind",Ab K "row_fault" "row_fault",Ab K "take_entry" "take_entry",Ab K "take_line_books" "take_line",Ab K "read_book" "read_book",Ab K "number_of_first" "number_of_first",Ab K "number_of" "number_of",Ab K "small_number" "small_number",Ab K "shape_told" "shape_told",Ab K "look_told" "look_told",Ab K "kind_with" "kind_with",Ab K "kind_told" "kind_told",Ab K "can_stand" "can_stand",Ab K "is_label_taken" "is_label_taken",Ab K "is_look_taken" "is_look_taken",Ab K "kind_fault" "kind_fault",Ab K "add_kind" "add_kind",Ab K "take_line_lockers" "take_line",Ab K "read_locker" "read_locker",Ab K "is_sign" "is_sign",Ab K "read_texts" "read_texts",Ab K "number_or_refusal" "number_or_refusal",Ab K "find" "find"]
def Ou:List (Option (FuncData×Bool)):=[some (AX "kinds_that_mean" "kinds_that_mean" Ru,true),some (AX "first_left" "first_left" Rb,true),some (AX "hoist_told" "hoist_told" Rc,true),some (AX "can_show" "can_show" RW,true),some (AX "letters" "letters" Rv,true),some (AX "split_at" "split_at" SE,true),some (AX "is_name_byte" "is_name_byte" Rk,true),some (AX "is_name" "is_name" Rj,true),some (AX "is_naming_line" "is_naming_line" Rl,true),some (AX "named" "named" Ry,true),some (AX "first_fault" "first_fault" Ra,true),some (AX "count_lines" "count_lines" RY,true),some (AX "is_meaning" "is_meaning" Ri,true),some (AX "row_word" "row_word" R8,true),some (AX "meaning_told" "meaning_told" Rx,true),some (AX "is_row_length" "is_row_length" Rn,true),some (AX "is_row_word" "is_row_word" Ro,true),some (AX "is_entry_line" "is_entry_line" Rf,true),some (AX "signs_told" "signs_told" SA,true),some (AX "place_in_order" "place_in_order" R3,true),some (AX "is_row_behind" "is_row_behind" Rm,true),some (AX "row_fault" "row_fault" R7,true),some (AX "take_entry" "take_entry" SF,true),some (AX "take_line" "take_line" SG,true),some (AX "read_book" "read_book" R4,true),some (AX "number_of_first" "number_of_first" R0,true),some (AX "number_of" "number_of" Rz,true),some (AX "small_number" "small_number" SD,true),some (AX "shape_told" "shape_told" R9,true),some (AX "look_told" "look_told" Rw,true),some (AX "kind_with" "kind_with" Rt,true),some (AX "kind_told" "kind_told" Rr,true),some (AX "can_stand" "can_stand" RX,true),some (AX "is_label_taken" "is_label_taken" Rg,true),some (AX "is_look_taken" "is_look_taken" Rh,true),some (AX "kind_fault" "kind_fault" Rq,true),some (AX "add_kind" "add_kind" RV,true),some (AX "take_line" "take_line" SH,true),some (AX "read_locker" "read_locker" R5,true),some (AX "is_sign" "is_sign" Rp,true),some (AX "read_texts" "read_texts" R6,true),some (AX "number_or_refusal" "number_or_refusal" R1,true),some (AX "find" "find" RZ,true)]
def OU (K:AA):List (Option ((FuncData×Bool)×Bool)):=[E1 K "Entry.__init__" 109,E1 K "Book.__init__" 130,E1 K "Kind.__init__" 251,E1 K "Locker.__init__" 272,E1 K "Reading.__init__" 378]
def Oq:List (Option ((FuncData×Bool)×Bool)):=[some ((AX "__init__" "Entry.__init__" (Dj RQ 0),true),true),some ((AX "__init__" "Book.__init__" (Dj RP 0),true),true),some ((AX "__init__" "Kind.__init__" (Dj RR 0),true),true),some ((AX "__init__" "Locker.__init__" (Dj RS 0),true),true),some ((AX "__init__" "Reading.__init__" (Dj RT 0),true),true)]
def OT (K:AA):List (Bool):=[Ez K "Entry" 109 ["row","meaning"],Ez K "Book" 130 ["name","entries","fault"],Ez K "Kind" 251 ["rank","label","copies","shape","look"],Ez K "Locker" 272 ["name","kinds","signs","sames","fault"],Ez K "Reading" 378 ["refusal","locker","book"],Dl K "ord",Dl K "len",Dl K "all",Dl K "any",Dl K "enumerate",Dl K "reversed",Dl K "tuple",Dl K "range",PySem.W.noTabs K]
def Oo:List (Bool):=[true,true,true,true,true,true,true,true,true,true,true,true,true,true]
def OX (K:AA):List (Option Int):=[A1 K "LINE_END",A1 K "BLANK",A1 K "LONGEST_NAME",A1 K "NO_SUCH_LINE",A1 K "FULL_STOP",A1 K "LAST_PRINTED",A1 K "LONGEST_ROW",A1 K "LONGEST_MEANING",A1 K "MOST_ENTRIES",A1 K "HEAD_LINES",A1 K "OTHER_LOCKER",A1 K "NO_SIGN",A1 K "NOT_SHOWN",A1 K "NOT_BEHIND",A1 K "TOO_MANY_ENTRIES",A1 K "DIGITS",A1 K "SIGN",A1 K "SAME",A1 K "ANSWER",A1 K "MOST_SIGNS",A1 K "MOST_COPIES",A1 K "HIGHEST_SAME",A1 K "TOLD_BEFORE",A1 K "TOO_MANY_SIGNS",A1 K "LOOK_TOLD_BEFORE",A1 K "LONGEST_TEXT",A1 K "OUT_OF_FORM",A1 K "TOO_LONG",A1 K "NO_SUCH_NUMBER",A1 K "NONE_FOUND",A1 K "NO_LOCKER",A1 K "NO_BOOK"]
def Ov:List (Option Int):=[some 10,some 32,some 8,some 1,some 46,some 126,some 8,some 64,some 2048,some 2,some 2,some 3,some 4,some 5,some 6,some 16,some 1,some 2,some 3,some 48,some 8,some 4,some 2,some 3,some 4,some 65536,some (-1),some (-2),some (-4),some (-5),some (-6),some (-9)]
def OY (K:AA):List (Option Str):=[ME K "COLOURS"]
def Oy:List (Option Str):=[some ("0123456789abcdef":Str)]
def Oa (K:AA):List (Option (Bool×Str×Str×Str)):=[MN K "SHAPES"]
def O0:List (Option (Bool×Str×Str×Str)):=[some (true,("square":Str),("tails":Str),("long":Str))]
def OV (K:AA):List (Option Addr):=[E2 K "read_book",E2 K "read_locker",E2 K "find"]
def Ot:List (Option Addr):=[some 218,some 353,some 400]
def OZ (K:AA):List (Option (Addr×Addr)):=[NT K "read_book",NT K "read_locker",NT K "find"]
def Oz:List (Option (Addr×Addr)):=[some (218,214),some (353,349),some (400,398)]
def fAll (K:AA):=(OW K,OU K,OT K,OX K,OY K,Oa K,OV K,OZ K)
def gAll:=(Ou,Oq,Oo,Ov,Oy,O0,Ot,Oz)
def hookN:PySem.W.Hook:=⟨_,fun s=>fAll (G4 s.heap asN),fun _=>gAll,fun _ h=>∃K:AA,K.In h∧fAll K=gAll,fun _ s e=>⟨_,K1 s.heap asN,e⟩,fun _ _ _ ⟨K,X,e⟩ k=>⟨K,X.keeps k,e⟩⟩
theorem ith {α:Type}{l m:List α}{a b:α} (i:Nat) (e:l=m) (h1:l[i]?=some a) (h2:m[i]?=some b):a=b:=by
 rw[e,h2] at h1
 exact(Ae h1).symm
theorem all_of {K:AA} (e:fAll K=gAll):OW K=Ou∧OU K=Oq∧OT K=Oo∧OX K=Ov∧OY K=Oy∧Oa K=O0∧OV K=Ot∧OZ K=Oz:=by
 unfold fAll gAll at e
 injection e with e0 e
 injection e with e1 e
 injection e with e2 e
 injection e with e3 e
 injection e with e4 e
 injection e with e5 e
 injection e with e6 e
 exact⟨e0,e1,e2,e3,e4,e5,e6,e⟩
end Fb
namespace Fb
open PySem PySem.W PySem.Calls PyProof.Rows
theorem YE (w:World) (os:OsState):PySem.W.Fast.runAQ Dy 5768 11 (some (.ref 6)) w os hookN.obs=some (hookN.val w):=by kernel_rfl
theorem leftN:LeftO Dy viewN looseN xtN hookN.obs hookN.val stepsN :=
 Wx (n₀:=11) (ann:=some (.ref 6)) (by kernel_rfl) (by decide) (fun s=>by kernel_rfl) (fun P=>by kernel_rfl) (fun w os=>by rw[PySem.W.Fast.runAQ_eq,PySem.W.Fast.look1Q_eq];exact YA w os) (fun w os=>by rw[PySem.W.Fast.runAQ_eq,PySem.W.Fast.look2Q_eq];exact YB w os) (fun w os=>by rw[PySem.W.Fast.runAQ_eq,PySem.W.Fast.look3Q_eq];exact YC w os) (fun w os=>by rw[PySem.W.Fast.runAQ_eq,PySem.W.Fast.look4Q_eq];exact YD w os) fun w os=>by rw[PySem.W.Fast.runAQ_eq];exact YE w os
end Fb
open PySem PySem.W PyProof.Rows
theorem PySem.Challenge.cw_flagbooks_s04_find_holds : PySem.Challenge.rw_flagbooks_s04_find.Holds := by
 w_on
 refine holds_os (r:=Aa) (q:=Fb.viewN) (loose:=Fb.looseN) (Xt:=Fb.xtN) (XP:=XL Fb.viewN Fb.lvN) (Yf:=Hook.obs Fb.hookN) (Ya:=Hook.val Fb.hookN) (YP:=Hook.says Fb.hookN) (N:=Fb.stepsN) Fb.leftN (Hook.of Fb.hookN) (Hook.keeps Fb.hookN) (fun s e=>xl_of s (JW.mp e).1) XL.keeps (by rfl) (by rfl) (by rfl) (fun s e=>recFacts_of (JW.mp e).2) os_shapes (by decide +kernel) (by decide +kernel) ⟨rfl,rfl,rfl,rfl,rfl,by decide +kernel⟩ ⟨[.list [],.list [],.list []],by decide +kernel,by decide +kernel⟩ ?_
 refine L2.walk_hook (r:=Aa) (k:=12) (ps:=["t","b","signs"]) (sp:=fun K=>Fb.spFind K 349 214 398) (tabs:=[(353,349),(218,214),(400,398)]) (Gd:=fun K=>Fb.fAll K=Fb.gAll) (by decide +kernel) rfl rfl ⟨rfl,by decide,by decide⟩ (fun w h Y=>Y) ?cN ?cT ?cF ?cS
 case cN =>
  intro K gK
  obtain⟨_,_,h,_⟩:=Fb.all_of gK
  exact Fb.ith 13 h rfl rfl
 case cT =>
  intro K lo mean mg mb h gK KX T
  obtain⟨_,_,_,_,_,_,_,ht⟩:=Fb.all_of gK
  exact Ml.mpr ⟨NU (x:="read_locker") (c:=353) (P:=349) T KX rfl (Fb.ith 1 ht rfl rfl),Ml.mpr ⟨NU (x:="read_book") (c:=218) (P:=214) T KX rfl (Fb.ith 0 ht rfl rfl),Ml.mpr ⟨NU (x:="find") (c:=400) (P:=398) T KX rfl (Fb.ith 2 ht rfl rfl),fun _ h=>nomatch h⟩⟩⟩
 case cF =>
  intro w K mg fa h gK KX G hmg
  obtain⟨hD,hC,hB,hI,hS,hU,hO,hT⟩:=Fb.all_of gK
  obtain⟨f_kinds_that_mean,fd_kinds_that_mean,d_kinds_that_mean,b_kinds_that_mean⟩:=Fb.def_seen (ps:=["locker","signs","place"]) KX G (Fb.ith 0 hD rfl rfl) (fun _ _ _ _ _ _ us hl=>match us,hl with | [_,_,_],_=>rfl)
  obtain⟨f_first_left,fd_first_left,d_first_left,b_first_left⟩:=Fb.def_seen (ps:=["locker","flown","kinds"]) KX G (Fb.ith 1 hD rfl rfl) (fun _ _ _ _ _ _ us hl=>match us,hl with | [_,_,_],_=>rfl)
  obtain⟨f_hoist_told,fd_hoist_told,d_hoist_told,b_hoist_told⟩:=Fb.def_seen (ps:=["locker","signs"]) KX G (Fb.ith 2 hD rfl rfl) (fun _ _ _ _ _ _ us hl=>match us,hl with | [_,_],_=>rfl)
  obtain⟨f_can_show,fd_can_show,d_can_show,b_can_show⟩:=Fb.def_seen (ps:=["locker","signs"]) KX G (Fb.ith 3 hD rfl rfl) (fun _ _ _ _ _ _ us hl=>match us,hl with | [_,_],_=>rfl)
  obtain⟨f_letters,fd_letters,d_letters,b_letters⟩:=Fb.def_seen (ps:=["word"]) KX G (Fb.ith 4 hD rfl rfl) (fun _ _ _ _ _ _ us hl=>match us,hl with | [_],_=>rfl)
  obtain⟨f_split_at,fd_split_at,d_split_at,b_split_at⟩:=Fb.def_seen (ps:=["mark","values"]) KX G (Fb.ith 5 hD rfl rfl) (fun _ _ _ _ _ _ us hl=>match us,hl with | [_,_],_=>rfl)
  obtain⟨f_is_name_byte,fd_is_name_byte,d_is_name_byte,b_is_name_byte⟩:=Fb.def_seen (ps:=["byte"]) KX G (Fb.ith 6 hD rfl rfl) (fun _ _ _ _ _ _ us hl=>match us,hl with | [_],_=>rfl)
  obtain⟨f_is_name,fd_is_name,d_is_name,b_is_name⟩:=Fb.def_seen (ps:=["word"]) KX G (Fb.ith 7 hD rfl rfl) (fun _ _ _ _ _ _ us hl=>match us,hl with | [_],_=>rfl)
  obtain⟨f_is_naming_line,fd_is_naming_line,d_is_naming_line,b_is_naming_line⟩:=Fb.def_seen (ps:=["line","first"]) KX G (Fb.ith 8 hD rfl rfl) (fun _ _ _ _ _ _ us hl=>match us,hl with | [_,_],_=>rfl)
  obtain⟨f_named,fd_named,d_named,b_named⟩:=Fb.def_seen (ps:=["line"]) KX G (Fb.ith 9 hD rfl rfl) (fun _ _ _ _ _ _ us hl=>match us,hl with | [_],_=>rfl)
  obtain⟨f_first_fault,fd_first_fault,d_first_fault,b_first_fault⟩:=Fb.def_seen (ps:=["text","take"]) KX G (Fb.ith 10 hD rfl rfl) (fun _ _ _ _ _ _ us hl=>match us,hl with | [_,_],_=>rfl)
  obtain⟨f_count_lines,fd_count_lines,d_count_lines,b_count_lines⟩:=Fb.def_seen (ps:=["text"]) KX G (Fb.ith 11 hD rfl rfl) (fun _ _ _ _ _ _ us hl=>match us,hl with | [_],_=>rfl)
  obtain⟨f_is_meaning,fd_is_meaning,d_is_meaning,b_is_meaning⟩:=Fb.def_seen (ps:=["told"]) KX G (Fb.ith 12 hD rfl rfl) (fun _ _ _ _ _ _ us hl=>match us,hl with | [_],_=>rfl)
  obtain⟨f_row_word,fd_row_word,d_row_word,b_row_word⟩:=Fb.def_seen (ps:=["line"]) KX G (Fb.ith 13 hD rfl rfl) (fun _ _ _ _ _ _ us hl=>match us,hl with | [_],_=>rfl)
  obtain⟨f_meaning_told,fd_meaning_told,d_meaning_told,b_meaning_told⟩:=Fb.def_seen (ps:=["line"]) KX G (Fb.ith 14 hD rfl rfl) (fun _ _ _ _ _ _ us hl=>match us,hl with | [_],_=>rfl)
  obtain⟨f_is_row_length,fd_is_row_length,d_is_row_length,b_is_row_length⟩:=Fb.def_seen (ps:=["length"]) KX G (Fb.ith 15 hD rfl rfl) (fun _ _ _ _ _ _ us hl=>match us,hl with | [_],_=>rfl)
  obtain⟨f_is_row_word,fd_is_row_word,d_is_row_word,b_is_row_word⟩:=Fb.def_seen (ps:=["word"]) KX G (Fb.ith 16 hD rfl rfl) (fun _ _ _ _ _ _ us hl=>match us,hl with | [_],_=>rfl)
  obtain⟨f_is_entry_line,fd_is_entry_line,d_is_entry_line,b_is_entry_line⟩:=Fb.def_seen (ps:=["line"]) KX G (Fb.ith 17 hD rfl rfl) (fun _ _ _ _ _ _ us hl=>match us,hl with | [_],_=>rfl)
  obtain⟨f_signs_told,fd_signs_told,d_signs_told,b_signs_told⟩:=Fb.def_seen (ps:=["locker","word"]) KX G (Fb.ith 18 hD rfl rfl) (fun _ _ _ _ _ _ us hl=>match us,hl with | [_,_],_=>rfl)
  obtain⟨f_place_in_order,fd_place_in_order,d_place_in_order,b_place_in_order⟩:=Fb.def_seen (ps:=["row"]) KX G (Fb.ith 19 hD rfl rfl) (fun _ _ _ _ _ _ us hl=>match us,hl with | [_],_=>rfl)
  obtain⟨f_is_row_behind,fd_is_row_behind,d_is_row_behind,b_is_row_behind⟩:=Fb.def_seen (ps:=["row","before"]) KX G (Fb.ith 20 hD rfl rfl) (fun _ _ _ _ _ _ us hl=>match us,hl with | [_,_],_=>rfl)
  obtain⟨f_row_fault,fd_row_fault,d_row_fault,b_row_fault⟩:=Fb.def_seen (ps:=["locker","book","row"]) KX G (Fb.ith 21 hD rfl rfl) (fun _ _ _ _ _ _ us hl=>match us,hl with | [_,_,_],_=>rfl)
  obtain⟨f_take_entry,fd_take_entry,d_take_entry,b_take_entry⟩:=Fb.def_seen (ps:=["locker","book","line"]) KX G (Fb.ith 22 hD rfl rfl) (fun _ _ _ _ _ _ us hl=>match us,hl with | [_,_,_],_=>rfl)
  obtain⟨f_take_line_books,fd_take_line_books,d_take_line_books,b_take_line_books⟩:=Fb.def_seen (ps:=["locker","book","number","line"]) KX G (Fb.ith 23 hD rfl rfl) (fun _ _ _ _ _ _ us hl=>match us,hl with | [_,_,_,_],_=>rfl)
  obtain⟨f_read_book,fd_read_book,d_read_book,e_read_book⟩:=Fb.def_seenC (ps:=["locker","text"]) KX G (Fb.ith 24 hD rfl rfl) (Fb.ith 0 hO rfl rfl) (fun _ _ _ _ _ _ us hl=>match us,hl with | [_,_],_=>rfl)
  obtain⟨f_number_of_first,fd_number_of_first,d_number_of_first,b_number_of_first⟩:=Fb.def_seen (ps:=["book","is_wanted"]) KX G (Fb.ith 25 hD rfl rfl) (fun _ _ _ _ _ _ us hl=>match us,hl with | [_,_],_=>rfl)
  obtain⟨f_number_of,fd_number_of,d_number_of,b_number_of⟩:=Fb.def_seen (ps:=["told"]) KX G (Fb.ith 26 hD rfl rfl) (fun _ _ _ _ _ _ us hl=>match us,hl with | [_],_=>rfl)
  obtain⟨f_small_number,fd_small_number,d_small_number,b_small_number⟩:=Fb.def_seen (ps:=["word","most"]) KX G (Fb.ith 27 hD rfl rfl) (fun _ _ _ _ _ _ us hl=>match us,hl with | [_,_],_=>rfl)
  obtain⟨f_shape_told,fd_shape_told,d_shape_told,b_shape_told⟩:=Fb.def_seen (ps:=["word"]) KX G (Fb.ith 28 hD rfl rfl) (fun _ _ _ _ _ _ us hl=>match us,hl with | [_],_=>rfl)
  obtain⟨f_look_told,fd_look_told,d_look_told,b_look_told⟩:=Fb.def_seen (ps:=["word"]) KX G (Fb.ith 29 hD rfl rfl) (fun _ _ _ _ _ _ us hl=>match us,hl with | [_],_=>rfl)
  obtain⟨f_kind_with,fd_kind_with,d_kind_with,b_kind_with⟩:=Fb.def_seen (ps:=["rank","label","words"]) KX G (Fb.ith 30 hD rfl rfl) (fun _ _ _ _ _ _ us hl=>match us,hl with | [_,_,_],_=>rfl)
  obtain⟨f_kind_told,fd_kind_told,d_kind_told,b_kind_told⟩:=Fb.def_seen (ps:=["line"]) KX G (Fb.ith 31 hD rfl rfl) (fun _ _ _ _ _ _ us hl=>match us,hl with | [_],_=>rfl)
  obtain⟨f_can_stand,fd_can_stand,d_can_stand,b_can_stand⟩:=Fb.def_seen (ps:=["locker","kind"]) KX G (Fb.ith 32 hD rfl rfl) (fun _ _ _ _ _ _ us hl=>match us,hl with | [_,_],_=>rfl)
  obtain⟨f_is_label_taken,fd_is_label_taken,d_is_label_taken,b_is_label_taken⟩:=Fb.def_seen (ps:=["locker","kind"]) KX G (Fb.ith 33 hD rfl rfl) (fun _ _ _ _ _ _ us hl=>match us,hl with | [_,_],_=>rfl)
  obtain⟨f_is_look_taken,fd_is_look_taken,d_is_look_taken,b_is_look_taken⟩:=Fb.def_seen (ps:=["locker","kind"]) KX G (Fb.ith 34 hD rfl rfl) (fun _ _ _ _ _ _ us hl=>match us,hl with | [_,_],_=>rfl)
  obtain⟨f_kind_fault,fd_kind_fault,d_kind_fault,b_kind_fault⟩:=Fb.def_seen (ps:=["locker","kind"]) KX G (Fb.ith 35 hD rfl rfl) (fun _ _ _ _ _ _ us hl=>match us,hl with | [_,_],_=>rfl)
  obtain⟨f_add_kind,fd_add_kind,d_add_kind,b_add_kind⟩:=Fb.def_seen (ps:=["locker","kind"]) KX G (Fb.ith 36 hD rfl rfl) (fun _ _ _ _ _ _ us hl=>match us,hl with | [_,_],_=>rfl)
  obtain⟨f_take_line_lockers,fd_take_line_lockers,d_take_line_lockers,b_take_line_lockers⟩:=Fb.def_seen (ps:=["locker","number","line"]) KX G (Fb.ith 37 hD rfl rfl) (fun _ _ _ _ _ _ us hl=>match us,hl with | [_,_,_],_=>rfl)
  obtain⟨f_read_locker,fd_read_locker,d_read_locker,e_read_locker⟩:=Fb.def_seenC (ps:=["text"]) KX G (Fb.ith 38 hD rfl rfl) (Fb.ith 1 hO rfl rfl) (fun _ _ _ _ _ _ us hl=>match us,hl with | [_],_=>rfl)
  obtain⟨f_is_sign,fd_is_sign,d_is_sign,b_is_sign⟩:=Fb.def_seen (ps:=["locker","number"]) KX G (Fb.ith 39 hD rfl rfl) (fun _ _ _ _ _ _ us hl=>match us,hl with | [_,_],_=>rfl)
  obtain⟨f_read_texts,fd_read_texts,d_read_texts,b_read_texts⟩:=Fb.def_seen (ps:=["t","b"]) KX G (Fb.ith 40 hD rfl rfl) (fun _ _ _ _ _ _ us hl=>match us,hl with | [_,_],_=>rfl)
  obtain⟨f_number_or_refusal,fd_number_or_refusal,d_number_or_refusal,b_number_or_refusal⟩:=Fb.def_seen (ps:=["found"]) KX G (Fb.ith 41 hD rfl rfl) (fun _ _ _ _ _ _ us hl=>match us,hl with | [_],_=>rfl)
  obtain⟨f_find,fd_find,d_find,e_find,b_find⟩:=Fb.def_seenD (ps:=["t","b","signs"]) KX G (Fb.ith 42 hD rfl rfl) (Fb.ith 2 hO rfl rfl) (fun _ _ _ _ _ _ us hl=>match us,hl with | [_,_,_],_=>rfl)
  obtain⟨⟨fc_Entry,fdc_Entry,k_Entry⟩,n_Entry⟩:=Fb.cls_seen (ps:=["self","row","meaning"]) KX G (Fb.ith 0 hC rfl rfl) (Fb.ith 0 hB rfl rfl) (fun _ _ _ _ _ _ us hl=>match us,hl with | [_,_,_],_=>rfl)
  have t_Entry:Fb.EntC _ 109:=⟨k_Entry.cl,n_Entry _ (.head _),n_Entry _ (.tail _ (.head _))⟩
  obtain⟨⟨fc_Book,fdc_Book,k_Book⟩,n_Book⟩:=Fb.cls_seen (ps:=["self"]) KX G (Fb.ith 1 hC rfl rfl) (Fb.ith 1 hB rfl rfl) (fun _ _ _ _ _ _ us hl=>match us,hl with | [_],_=>rfl)
  have t_Book:Fb.BookC _ 130:=⟨k_Book.cl,n_Book _ (.head _),n_Book _ (.tail _ (.head _)),n_Book _ (.tail _ (.tail _ (.head _)))⟩
  obtain⟨⟨fc_Kind,fdc_Kind,k_Kind⟩,n_Kind⟩:=Fb.cls_seen (ps:=["self","rank","label","copies","shape","look"]) KX G (Fb.ith 2 hC rfl rfl) (Fb.ith 2 hB rfl rfl) (fun _ _ _ _ _ _ us hl=>match us,hl with | [_,_,_,_,_,_],_=>rfl)
  have t_Kind:Fb.KindC _ 251:=⟨k_Kind.cl,n_Kind _ (.head _),n_Kind _ (.tail _ (.head _)),n_Kind _ (.tail _ (.tail _ (.head _))),n_Kind _ (.tail _ (.tail _ (.tail _ (.head _)))),n_Kind _ (.tail _ (.tail _ (.tail _ (.tail _ (.head _)))))⟩
  obtain⟨⟨fc_Locker,fdc_Locker,k_Locker⟩,n_Locker⟩:=Fb.cls_seen (ps:=["self"]) KX G (Fb.ith 3 hC rfl rfl) (Fb.ith 3 hB rfl rfl) (fun _ _ _ _ _ _ us hl=>match us,hl with | [_],_=>rfl)
  have t_Locker:Fb.LockC _ 272:=⟨k_Locker.cl,n_Locker _ (.head _),n_Locker _ (.tail _ (.head _)),n_Locker _ (.tail _ (.tail _ (.head _))),n_Locker _ (.tail _ (.tail _ (.tail _ (.head _)))),n_Locker _ (.tail _ (.tail _ (.tail _ (.tail _ (.head _)))))⟩
  obtain⟨⟨fc_Reading,fdc_Reading,k_Reading⟩,n_Reading⟩:=Fb.cls_seen (ps:=["self","refusal","locker","book"]) KX G (Fb.ith 4 hC rfl rfl) (Fb.ith 4 hB rfl rfl) (fun _ _ _ _ _ _ us hl=>match us,hl with | [_,_,_,_],_=>rfl)
  have t_Reading:Fb.ReadC _ 378:=⟨k_Reading.cl,n_Reading _ (.head _),n_Reading _ (.tail _ (.head _)),n_Reading _ (.tail _ (.tail _ (.head _)))⟩
  have c_LINE_END:=Fb.int_seen KX G (Fb.ith 0 hI rfl rfl)
  have c_BLANK:=Fb.int_seen KX G (Fb.ith 1 hI rfl rfl)
  have c_LONGEST_NAME:=Fb.int_seen KX G (Fb.ith 2 hI rfl rfl)
  have c_NO_SUCH_LINE:=Fb.int_seen KX G (Fb.ith 3 hI rfl rfl)
  have c_FULL_STOP:=Fb.int_seen KX G (Fb.ith 4 hI rfl rfl)
  have c_LAST_PRINTED:=Fb.int_seen KX G (Fb.ith 5 hI rfl rfl)
  have c_LONGEST_ROW:=Fb.int_seen KX G (Fb.ith 6 hI rfl rfl)
  have c_LONGEST_MEANING:=Fb.int_seen KX G (Fb.ith 7 hI rfl rfl)
  have c_MOST_ENTRIES:=Fb.int_seen KX G (Fb.ith 8 hI rfl rfl)
  have c_HEAD_LINES:=Fb.int_seen KX G (Fb.ith 9 hI rfl rfl)
  have c_OTHER_LOCKER:=Fb.int_seen KX G (Fb.ith 10 hI rfl rfl)
  have c_NO_SIGN:=Fb.int_seen KX G (Fb.ith 11 hI rfl rfl)
  have c_NOT_SHOWN:=Fb.int_seen KX G (Fb.ith 12 hI rfl rfl)
  have c_NOT_BEHIND:=Fb.int_seen KX G (Fb.ith 13 hI rfl rfl)
  have c_TOO_MANY_ENTRIES:=Fb.int_seen KX G (Fb.ith 14 hI rfl rfl)
  have c_DIGITS:=Fb.int_seen KX G (Fb.ith 15 hI rfl rfl)
  have c_SIGN:=Fb.int_seen KX G (Fb.ith 16 hI rfl rfl)
  have c_SAME:=Fb.int_seen KX G (Fb.ith 17 hI rfl rfl)
  have c_ANSWER:=Fb.int_seen KX G (Fb.ith 18 hI rfl rfl)
  have c_MOST_SIGNS:=Fb.int_seen KX G (Fb.ith 19 hI rfl rfl)
  have c_MOST_COPIES:=Fb.int_seen KX G (Fb.ith 20 hI rfl rfl)
  have c_HIGHEST_SAME:=Fb.int_seen KX G (Fb.ith 21 hI rfl rfl)
  have c_TOLD_BEFORE:=Fb.int_seen KX G (Fb.ith 22 hI rfl rfl)
  have c_TOO_MANY_SIGNS:=Fb.int_seen KX G (Fb.ith 23 hI rfl rfl)
  have c_LOOK_TOLD_BEFORE:=Fb.int_seen KX G (Fb.ith 24 hI rfl rfl)
  have c_LONGEST_TEXT:=Fb.int_seen KX G (Fb.ith 25 hI rfl rfl)
  have c_OUT_OF_FORM:=Fb.int_seen KX G (Fb.ith 26 hI rfl rfl)
  have c_TOO_LONG:=Fb.int_seen KX G (Fb.ith 27 hI rfl rfl)
  have c_NO_SUCH_NUMBER:=Fb.int_seen KX G (Fb.ith 28 hI rfl rfl)
  have c_NONE_FOUND:=Fb.int_seen KX G (Fb.ith 29 hI rfl rfl)
  have c_NO_LOCKER:=Fb.int_seen KX G (Fb.ith 30 hI rfl rfl)
  have c_NO_BOOK:=Fb.int_seen KX G (Fb.ith 31 hI rfl rfl)
  have c_COLOURS:=Fb.str_seen KX G (Fb.ith 0 hS rfl rfl)
  have c_SHAPES:=Fb.tup_seen KX G (Fb.ith 0 hU rfl rfl)
  have B:Fb.Blt mg:=⟨Fb.no_seen (x:="ord") KX G (Fb.ith 5 hB rfl rfl),Fb.no_seen (x:="len") KX G (Fb.ith 6 hB rfl rfl),Fb.no_seen (x:="all") KX G (Fb.ith 7 hB rfl rfl),Fb.no_seen (x:="any") KX G (Fb.ith 8 hB rfl rfl),Fb.no_seen (x:="enumerate") KX G (Fb.ith 9 hB rfl rfl),Fb.no_seen (x:="reversed") KX G (Fb.ith 10 hB rfl rfl),Fb.no_seen (x:="tuple") KX G (Fb.ith 11 hB rfl rfl),Fb.no_seen (x:="range") KX G (Fb.ith 12 hB rfl rfl)⟩
  have g_split:=d_split_at.has (P:=Aa.prog) (w:=w) fun base=>Fb.ok_split d_split_at.fn
  have g_letters:=d_letters.has (P:=Aa.prog) (w:=w) fun base=>Fb.ok_letters d_letters.fn B
  have g_nbyte:=d_is_name_byte.has (P:=Aa.prog) (w:=w) fun base=>Fb.ok_nameByte d_is_name_byte.fn B
  have g_isname:=d_is_name.has (P:=Aa.prog) (w:=w) fun base=>Fb.ok_isName d_is_name.fn B c_LONGEST_NAME g_nbyte
  have g_naming:=d_is_naming_line.has (P:=Aa.prog) (w:=w) fun base=>Fb.ok_naming d_is_naming_line.fn B c_BLANK g_split g_letters g_isname
  have g_named:=d_named.has (P:=Aa.prog) (w:=w) fun base=>Fb.ok_named d_named.fn c_BLANK g_split
  have g_count:=d_count_lines.has (P:=Aa.prog) (w:=w) fun base=>Fb.ok_count d_count_lines.fn c_LINE_END
  have g_first:=d_first_fault.has (P:=Aa.prog) (w:=w) fun base=>Fb.ok_first (kT:=7) d_first_fault.fn B c_LINE_END c_NO_SUCH_LINE g_split
  have g_small:=d_small_number.has (P:=Aa.prog) (w:=w) fun base=>Fb.ok_small d_small_number.fn B
  have g_shape:=d_shape_told.has (P:=Aa.prog) (w:=w) fun base=>Fb.ok_shape d_shape_told.fn B c_SHAPES g_letters
  have g_numof:=d_number_of.has (P:=Aa.prog) (w:=w) fun base=>Fb.ok_numOf d_number_of.fn B
  have g_look:=d_look_told.has (P:=Aa.prog) (w:=w) fun base=>Fb.ok_look d_look_told.fn B c_COLOURS c_DIGITS g_letters g_numof
  have g_Kind:=k_Kind.has (P:=Aa.prog) (w:=w) fun base=>Fb.ok_kindI k_Kind.fn t_Kind
  have g_kwith:=d_kind_with.has (P:=Aa.prog) (w:=w) fun base=>Fb.ok_kwith d_kind_with.fn c_MOST_COPIES g_small g_shape g_look g_Kind
  have g_ktold:=d_kind_told.has (P:=Aa.prog) (w:=w) fun base=>Fb.ok_ktold d_kind_told.fn B c_BLANK c_SIGN c_SAME c_ANSWER c_HIGHEST_SAME g_split g_letters g_isname g_small g_kwith
  have g_stand:=d_can_stand.has (P:=Aa.prog) (w:=w) fun base=>Fb.ok_stand d_can_stand.fn B t_Locker t_Kind c_ANSWER
  have g_label:=d_is_label_taken.has (P:=Aa.prog) (w:=w) fun base=>Fb.ok_label d_is_label_taken.fn B t_Locker t_Kind c_SIGN c_SAME
  have g_lookt:=d_is_look_taken.has (P:=Aa.prog) (w:=w) fun base=>Fb.ok_lookT d_is_look_taken.fn B t_Locker t_Kind
  have g_kfault:=d_kind_fault.has (P:=Aa.prog) (w:=w) fun base=>Fb.ok_kfault d_kind_fault.fn B t_Locker t_Kind c_NO_SUCH_LINE c_TOLD_BEFORE c_TOO_MANY_SIGNS c_LOOK_TOLD_BEFORE c_SIGN c_MOST_SIGNS g_stand g_label g_lookt
  have g_addk:=d_add_kind.has (P:=Aa.prog) (w:=w) fun base=>Fb.ok_addK d_add_kind.fn B t_Locker t_Kind c_SIGN c_SAME
  have g_takel:=d_take_line_lockers.has (P:=Aa.prog) (w:=w) fun base=>L2.FnOk.mono (k:=6) (Fb.ok_takeL d_take_line_lockers.fn (by decide) t_Locker c_NO_SUCH_LINE g_naming g_named g_ktold g_kfault g_addk) (by decide)
  have g_Locker:=k_Locker.has (P:=Aa.prog) (w:=w) fun base=>Fb.ok_lockI k_Locker.fn t_Locker
  have g_ktm:=d_kinds_that_mean.has (P:=Aa.prog) (w:=w) fun base=>Fb.ok_ktm (CK:=251) d_kinds_that_mean.fn t_Locker
  have g_firstl:=d_first_left.has (P:=Aa.prog) (w:=w) fun base=>Fb.ok_firstL d_first_left.fn t_Locker t_Kind
  have g_hoist:=d_hoist_told.has (P:=Aa.prog) (w:=w) fun base=>Fb.ok_hoist d_hoist_told.fn B g_ktm g_firstl
  have g_show:=d_can_show.has (P:=Aa.prog) (w:=w) fun base=>Fb.ok_show d_can_show.fn g_hoist
  have g_ismean:=d_is_meaning.has (P:=Aa.prog) (w:=w) fun base=>Fb.ok_isMean d_is_meaning.fn B c_BLANK c_LAST_PRINTED c_LONGEST_MEANING g_split
  have g_roww:=d_row_word.has (P:=Aa.prog) (w:=w) fun base=>Fb.ok_rowW d_row_word.fn c_BLANK g_split
  have g_meant:=d_meaning_told.has (P:=Aa.prog) (w:=w) fun base=>Fb.ok_meanT d_meaning_told.fn B g_roww
  have g_rowlen:=d_is_row_length.has (P:=Aa.prog) (w:=w) fun base=>Fb.ok_rowLen d_is_row_length.fn c_LONGEST_ROW
  have g_isroww:=d_is_row_word.has (P:=Aa.prog) (w:=w) fun base=>Fb.ok_isRowW d_is_row_word.fn B c_FULL_STOP g_rowlen g_split g_isname
  have g_isent:=d_is_entry_line.has (P:=Aa.prog) (w:=w) fun base=>Fb.ok_isEnt d_is_entry_line.fn g_roww g_isroww g_ismean g_meant
  have g_signs:=d_signs_told.has (P:=Aa.prog) (w:=w) fun base=>Fb.ok_signs (CK:=251) d_signs_told.fn B t_Locker c_FULL_STOP g_split
  have g_place:=d_place_in_order.has (P:=Aa.prog) (w:=w) fun base=>Fb.ok_place d_place_in_order.fn B
  have g_behind:=d_is_row_behind.has (P:=Aa.prog) (w:=w) fun base=>Fb.ok_behind d_is_row_behind.fn g_place
  have g_rowf:=d_row_fault.has (P:=Aa.prog) (w:=w) fun base=>Fb.ok_rowF d_row_fault.fn B t_Book t_Entry c_NOT_SHOWN c_NOT_BEHIND c_TOO_MANY_ENTRIES c_MOST_ENTRIES g_show g_behind
  have g_Entry:=k_Entry.has (P:=Aa.prog) (w:=w) fun base=>Fb.ok_entI k_Entry.fn t_Entry
  have g_takee:=d_take_entry.has (P:=Aa.prog) (w:=w) fun base=>Fb.ok_takeE d_take_entry.fn t_Book c_NO_SUCH_LINE c_NO_SIGN g_isent g_roww g_signs g_rowf g_Entry g_meant
  have g_takeb:=d_take_line_books.has (P:=Aa.prog) (w:=w) fun base=>Fb.ok_takeB d_take_line_books.fn (by decide) t_Locker t_Book c_NO_SUCH_LINE c_OTHER_LOCKER c_HEAD_LINES g_naming g_named g_takee
  have g_Book:=k_Book.has (P:=Aa.prog) (w:=w) fun base=>Fb.ok_bookI k_Book.fn t_Book
  have g_Reading:=k_Reading.has (P:=Aa.prog) (w:=w) fun base=>Fb.ok_readI k_Reading.fn t_Reading
  have g_numf:=d_number_of_first.has (P:=Aa.prog) (w:=w) fun base=>Fb.ok_numF (CE:=109) d_number_of_first.fn B t_Book
  have g_numo:=d_number_or_refusal.has (P:=Aa.prog) (w:=w) fun base=>Fb.ok_numO d_number_or_refusal.fn c_NONE_FOUND
  have g_issign:=d_is_sign.has (P:=Aa.prog) (w:=w) fun base=>Fb.ok_isSign (CK:=251) d_is_sign.fn B t_Locker
  have e:=hmg.symm.trans d_find.at_
  cases e
  refine⟨fd_find,b_find,fun base _ _ hCd hBm=>?_⟩
  have g_readl:=d_read_locker.hasB (Fb.ok_readL (P:=Aa.prog) (w:=w) (base:=base) d_read_locker.fn e_read_locker (hCd (353,349) (by simp)) hBm B (by decide) t_Locker c_NO_SUCH_LINE g_Locker g_first g_takel g_count)
  have g_readb:=d_read_book.hasB (Fb.ok_readB (P:=Aa.prog) (w:=w) (base:=base) d_read_book.fn e_read_book (hCd (218,214) (by simp)) hBm (by decide) t_Book c_NO_SUCH_LINE c_HEAD_LINES g_Book g_first g_takeb g_count)
  have g_texts:=d_read_texts.hasB (Fb.ok_texts (P:=Aa.prog) (w:=w) (base:=base) d_read_texts.fn B (by decide) t_Locker t_Book c_LONGEST_TEXT c_TOO_LONG c_NO_LOCKER c_NO_BOOK g_readl g_readb g_Reading)
  exact Fb.ok_find d_find.fn e_find (hCd (400,398) (by simp)) hBm (by decide) (by decide) B t_Reading t_Entry c_OUT_OF_FORM c_NO_SUCH_NUMBER g_texts g_rowlen g_issign g_numo g_numf
 case cS =>
  intro K H xs a hO hwi hask hx
  cases hx with
  | cons h1 h2 =>
   cases h2 with
   | cons h2 h3 =>
    cases h3 with
    | cons h3 h4 =>
     cases h4
     cases h1 with
     | lst hs ha =>
      cases h2 with
      | lst hs2 ha2 =>
       cases h3 with
       | lst hs3 ha3 =>
        have e:=L2.ints_dw a.1 _ ha
        subst e
        have e2:=L2.ints_dw a.2.1 _ ha2
        subst e2
        have e3:=L2.ints_dw a.2.2.1 _ ha3
        subst e3
        have q:((Codec.inLen 0 66000 a.1&&a.1.all (Codec.inInt 0 255))&&((Codec.inLen 0 66000 a.2.1&&a.2.1.all (Codec.inInt 0 255))&&((Codec.inLen 0 1000 a.2.2.1&&a.2.2.1.all (Codec.inInt 0 255))&&true)))=true:=hwi
        rw[BI,BI,BI,BI,BI,BI] at q
        obtain⟨⟨l1,m1⟩,⟨l2,m2⟩,⟨l3,m3⟩,_⟩:=q
        have l3:=(Codec.inNat_iff.mp l3).2
        have b3:∀n∈a.2.2.1,0≤n∧n≤255:=fun n hn=>Codec.inInt_iff.mp (Cg.mp m3 n hn)
        have l1:=(Codec.inNat_iff.mp l1).2
        have l2:=(Codec.inNat_iff.mp l2).2
        have b1:∀n∈a.1,0≤n∧n≤255:=fun n hn=>Codec.inInt_iff.mp (Cg.mp m1 n hn)
        have b2:∀n∈a.2.1,0≤n∧n≤255:=fun n hn=>Codec.inInt_iff.mp (Cg.mp m2 n hn)
        refine⟨_,_,_,a.1.map fun (n:Int)=>DO n.toNat,a.2.1.map fun (n:Int)=>DO n.toNat,a.2.2.1.map fun (n:Int)=>n.toNat,rfl,⟨by rw[Fb.zs_of b1];exact hs,by rw[Fb.zs_of b2];exact hs2,by rw[AG];omega,by rw[AG];omega,.inl (hO (353,349) (by simp)),.inl (hO (218,214) (by simp))⟩,by rw[Fb.zn_of b3];exact hs3,by rw[AG];omega,.inl (hO (400,398) (by simp)),fun H' r hr=>?_⟩
        show L2.Dw K H' (.ref r) (.list ((PyWqbacu.find a.1 a.2.1 a.2.2.1).map WData.int))
        rw[Fb.find_due b1 b2 b3]
        exact .lst (L2.SqL.of hr) (L2.dw_ints _)
