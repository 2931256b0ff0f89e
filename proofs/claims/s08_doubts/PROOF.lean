import PyProof.Rows.All
import Wide.All
import OpenK.AllK
import Wide.FinOn
import PyProof.EqAt
import PyProof.EqKinds
import PyProof.TupleCall
import KE.BitLaws
import Open.SpecLaws
import KE.OsHead
import KE.OsGo
import KE.KLam
import PySem.Challenge.RW_flagbooks_s08_doubts
set_option linter.all false
open Array renaming length_toList→Il,mk→Im,forIn_toList→OT,toList→OU,getElem?_eq_none→WQ
open Bool renaming false_ne_true→Aj,and_eq_true→BC,false_eq_true→CW,false_and→Cr,eq_iff_iff→C5,noConfusion→DW,true_and→D0,and_false→GO,eq_false_iff→HS,false_or→HU,not_true→HV,and_eq_true_iff→K1,or_eq_true→K2,or_false→OV,true_or→OW
open Except renaming error→Ck
open False renaming elim→BX
open FlagCNeutral renaming text?→K3,nat?→OX,callOf→WR
open Flags renaming Kind→AR,Locker→AU,Bytes→Aq,cutAt→A7,ascii→A8,Entry→BQ,wordName→CF,isName→Cm,kindIn→C6,judge→DX,kindOf→DY,sides→DZ,cell→E5,digitOf→Fd,entryIn→Fe,isMeaning→Ff,judgeLines→Fg,partAt→Fh,wrongBehind→Fi,Book→GP,Role→GQ,rowBefore→GS,lookIn→HW,shapeOf→HX,hexValue→Io,LOOKED→K4,behind→K7,SIGNS→Oa,lookOf→Ob,nameIn→Oc,noTwoBlanks→WV
open Flags.Kind renaming isSign→D1,role→WS
open Flags.Locker renaming rowIn→E4,entryRow→K5,find→K6,judgeEntries→OY,points→OZ,isSignAt→WT,judgeBook→WU
open Flags.Role renaming sign→GR
open FlagsC3 renaming pairsRow→EZ,answer→K8
open ForInStep renaming yield→K9
open Int renaming toNat_natCast→GU,toNat_of_nonneg→Od
open Int.ofNat renaming inj→Ip
open List renaming length_map→AF,getElem?_map→AX,mem_cons→AY,mem_cons_self→AZ,map_cons→Am,mem_cons_of_mem→Ar,getElem?_eq_getElem→As,range→A0,mem_singleton→A1,length_cons→A9,mem_map→BD,map_append→BG,length_append→BL,getElem?_eq_some_iff→Be,size_toArray→Bf,map_map→CG,append_nil→CO,map_congr_left→CY,mem_of_getElem?→CZ,mem_append→Ce,length_take→Cn,length_singleton→Cs,all_eq_true→C7,find?_cons→C8,mem_filter→C9,sum_cons→DJ,filter_cons→Dc,nodup_cons→Dd,any_cons→D4,getD_eq_getElem?_getD→D5,any_eq_false→EL,lookup_cons→EM,length_nil→Ea,not_mem_nil→Eb,take_of_length_le→Ec,mem_append_right→E6,mem_range→E7,flatMap_cons→Fj,length_range→Fl,lookup→Fn,map_nil→Fo,pairwise_cons→Fp,all_map→GV,cons_append→GX,getElem_mem→GY,mapM_cons→GZ,all_cons→HY,any_map→HZ,length→Ha,mapM→Hb,mem_iff_getElem?→Hc,range_succ_eq_map→Hd,zip_cons_cons→He,any_eq_true→Iq,drop_eq_getElem_cons→Ir,drop_of_length_le→Iu,filter_append→Iv,filter_congr→Iw,filter_eq_nil_iff→Iy,flatMap_nil→Iz,getElem?_append_right→JA,length_eq_zero_iff→JB,length_filter_le→JC,mem_append_left→JD,mem_eraseDups→JE,mem_of_find?_eq_some→JF,nodup_nil→JG,of_mem_zip→JH,range_succ→JI,dropLast_concat_getLast→LB,filter_cons_of_neg→LC,filter_sublist→LD,find?_some→LF,getElem?_append_left→LG,length_drop→LH,take_length→LI,count_cons_of_ne→Of,filterMap_cons→Og,filter_cons_of_pos→Oh,filter_map→Oi,filter_nil→Oj,find?_eq_none→Ol,findIdx?_eq_some_iff_getElem→Om,flatMap_append→Oo,getElem?_cons_zero→Oq,getElem?_set_ne→Ot,getElem?_set_self→Ou,getElem?_take_of_lt→Ov,getLast?_eq_none_iff→Ow,pairwise_append→Ox,pairwise_lt_range→Oy,take_sublist→Oz,take_zero→O0,Pairwise→WW,count_append→WX,drop_length→WY,filter_eq_self→WZ,find?_append→Wa,flatMap_map→Wb,foldr_cons→Wc,forall_mem_cons→Wd,getElem?_cons_succ→We,getElem?_eq_none→Wg,getElem?_range→Wh,getElem_inj→Wi,idxOf_lt_length_iff→Wj,length_reverse→Wk,map_reverse→Wl,mem_filterMap→Wm,nil_append→Wn,nodup_append→Wo,pairwise_iff_getElem→Wq,pairwise_singleton→Wr,zip_nil_left→Ws,zip_nil_right→Wt
open List.Pairwise renaming filter→Oe
open List.cons renaming inj→GW
open Nat renaming le_refl→AO,zero_le→Au,ne_of_lt→BO,lt_of_lt_of_le→Bg,le_trans→Bp,lt_irrefl→Bu,zero_add→Ed,le_of_lt→Ga,add_le_add_left→Hf,le_of_eq→Hg,lt_succ_self→Hi,lt_of_le_of_lt→JJ,zero_min→JK,add_assoc→LJ,le_add_right→LK,le_of_succ_le→LL,le_succ→LM,lt_succ_of_lt→LN,lt_trans→LO,mod_mod→LP,ne_of_gt→LQ,not_lt_zero→LR,pow_succ→LU,sub_self→LV,succ→LW,zero_sub→LX,lt_of_lt_of_eq→O1,lt_succ_iff_lt_or_eq→O2,min_eq_left→O3,min_le_left→O4,mod_eq_of_lt→O5,le_antisymm→Wu,mul_left_comm→Wv,pos_of_ne_zero→Ww,succ_ne_self→Wx
open Ne renaming symm→Af
open Option renaming map_eq_some_iff→Gb,map_some→Ge,isSome_map→Hj,isSome_iff_exists→LY,none→LZ,getD_none→O6,isSome_some→Wy
open Option.some renaming inj→AV,injEq→Wz
open Or renaming inl→AQ,inr→De
open PyProof renaming noPylong_small→W2
open PyProof.Rows renaming take_snoc→D6,int_at→Ee,callWith_type1→Fq,boot_ord→Hk,boot_all→La,intsAre_of→Lb,pairs_len→Lc,Subscript_→O7,all_range→O8,any_range→O9,gt_int→W0
open PySem renaming wpAny_bind→AE,wpAny_pure→AL,boot_len→Bq,wpAny_loadPart'→Bv,mem_of_lookup→CH,wpAny_mono→DM,wpAny_truthy_bool→EN,wpAny_call_entry→Ei,wpAny_seqItems→Ej,wpAny_Call_Name_kw→FD,plainId_quiet→Fw,wpAny_specialOf→Fx,codeAny_mono→Gm,wpAny_field→Gn,wpAny_forIn_list→Gp,wpAny_holding→Gq,wpAny_letGo→Gr,wpAny_newObj_type→Gs,wpAny_updateSeq→Gu,wpAny_callSpecial?_slot→Hr,wpAny_ite_split→Hs,call_meetsIn→JO,codeAny_builtin→JP,sizeLine_eq→JQ,tupleKind_room_in1→JR,wpAny_isInstance→JS,wpAny_passesOwn→JT,wpAny_rule→JU,Within→Lq,call_meets→Lr,pushCells_keeps→Ls,wpAny_dictEntries→Lu,wpAny_of_eq→Lv,wpAny_pyIter_enum→Lw,wpAny_pyIter_tuple→Lx,wpAny_setField→Ly,wpAny_tryCatch→Lz,wpAny_typeNameOfWhole_keyiter→L0,wpAny_typeNameOf_keyiter→L4,call→Pl,isSubtype_tuple_tuple→Pn,richCompare_meets_room→Pp,wpAny_Dict_empty→Pq,wpAny_Name→Pr,wpAny_call→Pu,wpAny_dictEpoch→Pw,wpAny_execs_nil→Px,wpAny_listPart→Py,wpAny_pyIter_list→Pz,wpAny_pyIter_revIter→P0,wpAny_tupleItemsOf→P1,wpAny_typeOf→P2,builtinLookup_eq_fast→Xp,call_reversed_list→Xq,slot_list_getitem→Xr,slot_list_setitem→Xs,typeLookup_type→Xu,wpAny_Assign_Subscript→Xv,wpAny_Call_method→Xw,wpAny_assign_Name→Xx,wpAny_execs_cons→Xy,wpAny_getItem_heap→Xz,wpAny_isOneOf_keyiter→X0,wpAny_isTrue_Compare1→X1,wpAny_letOwnedTupleGo_enum→X2,wpAny_pyIter_range→X3,wpAny_pyIter_rangeiter→X4,wpAny_pyIter_slot→X5,wpAny_pyNext_range_end→X6,wpAny_ret_mkInt→X7,wpAny_richCompare_same_room→X8,wpAny_setItem_heap→X9
open PySem.Around renaming under_plainId→JL,under→PD,frames_deeper→W3
open PySem.AutoSeq1 renaming sub_tuple_tuple→PF,wpAny_loadPart'→W4
open PySem.Builtin.Builtins renaming bindParams→W5
open PySem.Builtin.Dict renaming showsAll→W6
open PySem.Builtin.Dict_items renaming ownsTuple→W7
open PySem.Builtin.List renaming listSameRef→Ld,listExtendWith→PH,listItems→PJ,listTooLong→PK,listAllItems→W8,listLengthHint→W9,listSubscript?→XA
open PySem.Builtin.Range renaming rangeSize→PM
open PySem.Builtin.SmallTypes renaming nextOf→Le
open PySem.Builtin.Tuple renaming tupleHashOf→Hl
open PySem.Calls renaming spliced_cons→Hm,spliced_nil→JM,callWith_builtin→PN,evalArgs_plain→PQ,Name_function_global→XB
open PySem.Challenge renaming rw_flagbooks_s08_doubts→Ad,pw_flagbooks_s08_doubts→Ef
open PySem.Code renaming isFrame→PR
open PySem.F renaming plainAttrs_list→Df,slot_list_append→E8,type_list_append→E9,plain_min_loop→Gf,slot_dict_get→Hn,slot_dict_keyiterator_next→Ho,entry_dict_get→Lf,slot_tuple_eq→Lg,slot_tuple_hash→Li,slot_tuple_iterator_next→Lj,entry_min_loop→PU,slot_tuple_lt→PV,args_dict_get_2→XC,args_dict_get_3→XD,args_dict_keyiterator_next_1→XE,args_tuple_iterator_next_1→XF,args_tuple_lt_2→XG,entry_dict_keyiterator_next→XH,entry_tuple_iterator_next→XI,entry_tuple_lt→XJ,plainAttrs_dict→XM,plain_extend_loop→XN,slot_dict_getitem→XO,slot_dict_iter→XQ,slot_dict_keyiterator_iter→XR,slot_dict_len→XS,slot_list_count→XT,slot_list_extend→XU,slot_list_index→XW,type_dict_get→XX,type_list_extend→XY
open PySem.Heap renaming lt_size→Ah,get?_push_of_some→A2,get?_push_size→BH,size_push→Ct,get?_update_other→Fs,SameBut→Gg,get?_update_self→Gh
open PySem.Heap.SameBut renaming update→Lk
open PySem.IsL renaming isList→XZ
open PySem.MeetsSeq3 renaming plain_eq_loop→Ll,entry_eq_loop→Xa
open PySem.NameKind renaming free→Ft,cell→PX
open PySem.Obj renaming mapSeq→Eg,data_mapFields→Lm,cls_mapFields→Xb,isFreed_of_fields→Xc
open PySem.Paired renaming length→FA
open PySem.PassesOwn renaming never→D7
open PySem.PyData renaming int→DK,eqv→Fu,canLayAll0→PY,depthAll→PZ
open PySem.SeqAt renaming EqAt→CP,shaped→JN,canLay_of_shaped→Ln,eqAt_reads→Xg,room_of_shaped→Xh
open PySem.SeqAt.EqAt renaming int_int→Xd,int_str→Xe,str_int→Xf
open PySem.Str renaming ofString→Eh,empty→Pa
open PySem.Value renaming ref→Ak,none→Co,type→DL,bool→Dg,int→Lo,str→Lp,notImplemented→Xi
open PySem.W renaming Frag→AB,emptyDict→FC,instObj→Fv,findIn→Gi,keepIn→Gj,mg_of→Gk,fnOf→Hq,callWith_K→Pc,codeIn→Pd,hasDictIn→Pe,lookIn→Pf,methodObj→Pg,plainGet→Ph,takerIn→Pj,WRecords→Xj,cellsFrom_some→Xk,handedIn→Xl,length_le_weightAllW→Xm,makesIn→Xn,plainOver→Xo
open PySem.W.KFB renaming if_not→Pb
open PySem.Walks renaming list→Pk
open PyWqbacu renaming doubts→YA
open Sum renaming inl→Av,inr→Fy
open Sum.inl renaming inj→Ht
open True renaming intro→Gv
open UInt8 renaming ofNat→D8
set_option Elab.async false
section
set_option maxRecDepth 100000
set_option maxHeartbeats 4000000
namespace Fb
open PySem PySem.W PySem.Calls PyProof.Rows
noncomputable def Kj (tb:String→Option Builtin) (p:Program) (w:World) (n₀:Nat) (ann:Option Value) (n:Nat):SharedT→Thread→Option SharedT :=
 @Nat.rec (fun _=>SharedT→Thread→Option SharedT) (fun _ _=>none)
  (fun _ ih s t=>match through t with
   | true=>some s
   | false=>match stepOk n₀ ann t with
    | false=>none
    | true=>match stepT (denote tb) p w s t with
     | some (s',t')=>ih s' t'
     | none=>none) n
theorem TQ {tb:String→Option Builtin}{p:Program}{w:World}{n₀:Nat}{ann:Option Value}:∀(n:Nat) (s r:SharedT) (t:Thread),Kj tb p w n₀ ann n s t=some r→topRun tb p w n₀ ann n s.abs t=some r.abs
 | 0,_,_,_,h=>nomatch (show none=some _ from h)
 | n+1,s,r,t,h=>by
  have h:(match through t with
   | true=>some s
   | false=>match stepOk n₀ ann t with
    | false=>none
    | true=>match stepT (denote tb) p w s t with
     | some (s',t')=>Kj tb p w n₀ ann n s' t'
     | none=>none)=some r:=h
  unfold topRun
  cases ht:through t with
  | true=>rw[ht] at h;cases h;rfl
  | false =>
   rw[ht] at h
   cases hk:stepOk n₀ ann t with
   | false=>rw[hk] at h;cases h
   | true =>
    rw[hk] at h
    cases hs:stepT (denote tb) p w s t with
    | none=>rw[hs] at h;cases h
    | some r' =>
     obtain⟨s₂,t₂⟩:=r'
     rw[hs] at h
     rw[stepT_spec hs]
     exact TQ n _ _ _ h
noncomputable def fC (l:List Obj):Nat→BT→BT:=@List.rec Obj (fun _=>Nat→BT→BT) (fun _ t=>t) (fun o _ ih n t=>ih (LW n) (t.ins n o)) l
noncomputable def QN (P:Params):BT:=fC (boot_heap P).objs.toList 0 .nil
noncomputable def Ja (w:World) (os:OsState):SharedT:=⟨QN w.params,(boot_heap w.params).objs.size,(boot_heap w.params).life,Im [],boot_drawn,boot_toks,os⟩
theorem YX (P:Params):absHeap (QN P) (boot_heap P).objs.size (boot_heap P).life=boot_heap P:=by kernel_rfl
noncomputable def runA (p:Program) (N n₀:Nat) (ann:Option Value) (w:World) (os:OsState) {α:Type} (f:Shared→α):Option α:=(Kj treeTable p w n₀ ann N (Ja w os) (topStub p)).map fun s=>f s.abs
theorem runA_rfl:@runA=@runA:=rfl
noncomputable def look1 (p:Program) (w:World) (s:Shared):Bool:=staticsOk (importedModules p.main.body) (boot_heap w.params) s.heap&&namesBound p s.heap&&gensDone s&&laidKept (boot_heap w.params) s.heap
theorem look1_rfl:@look1=@look1:=rfl
noncomputable def look2 (q:Program) (s:Shared):=seen ((recsOf q).map (·.name)) (ownsOf q) [] { s with gens:=#[] }
theorem look2_rfl:@look2=@look2:=rfl
noncomputable def look3 (q:Program) (loose mods:List Str) (Xt:Shared→Bool) (s:Shared):=(s.heap.bltView,s.heap.keysOk (looseW q loose) ((recsOf q).map (·.name)) ((litsOf q).map (·.1)) ((clssOf q (looseW q loose)).map (·.name))&&s.heap.accountedOkI mods&&s.heap.isNs mainGlobals&&s.heap.isNs builtinsNs&&tablesOk q s.heap&&Xt s&&(s.gens.size==0),tabsOk q s)
theorem look3_rfl:@look3=@look3:=rfl
noncomputable def look4 (q:Program) (loose:List Str) (s:Shared):=(pinSeenD q (drecsOf q) s,plainSeenE q (looseW q loose) s,plainSeenD q loose s,wideSeen q s,clsSeenW q loose s)
theorem look4_rfl:@look4=@look4:=rfl
theorem Ki {p:Program}{N n₀:Nat}{ann:Option Value}{w:World}{os:OsState}{α:Type}{f:Shared→α}{a:α}{s:SharedT} (hr:Kj treeTable p w n₀ ann N (Ja w os) (topStub p)=some s) (h:runA p N n₀ ann w os f=some a):f s.abs=a:=by
 unfold runA at h
 rw[hr] at h
 exact AV h
theorem Z8 {p q:Program}{loose:List Str}{Xt:Shared→Bool}{α:Type}{Yf:Shared→α}{Ya:World→α}{N n₀:Nat}{ann:Option Value}
  (e:opening p=plainProg p.main.scope.names) (hN:Nat.ble 600 N=true) (f:∀s,fenceModules? p s=some s)
  (size:∀P:Params,((boot_heap P).isNs mainGlobals,(boot_heap P).objs.size,(boot_heap P).nsMap mainGlobals "__annotations__")=(true,n₀,ann))
  (h1:∀w os,runA p N n₀ ann w os (look1 p w)=some true) (h2:∀w os,runA p N n₀ ann w os (look2 q)=some (expectedOf q))
  (h3:∀w os,runA p N n₀ ann w os (look3 q loose (importedModules p.main.body) Xt)=some (bltViewBooted,true,true))
  (h4:∀w os,runA p N n₀ ann w os (look4 q loose)=some (pinGoodD (drecsOf q),plainGoodE q (looseW q loose),plainGoodD q loose,wideGood q,clsGoodW q loose))
  (h5:∀w os,runA p N n₀ ann w os Yf=some (Ya w)):LeftO p q loose Xt Yf Ya N:=fun w=>by
 obtain⟨⟨hp,gs,d,k,os⟩,e1,e2⟩:=Gb.mp (boot_open e hN f w)
 obtain⟨rfl,rfl,rfl,rfl⟩:hp=boot_heap w.params∧gs=Im []∧d=boot_drawn∧k=boot_toks:=by simpa using e2
 obtain⟨z1,z2,z3⟩:_∧_∧_:=by simpa only [Prod.mk.injEq] using size w.params
 obtain⟨s,hr,l1⟩:=Gb.mp (h1 w os)
 have l2:=Ki hr (h2 w os)
 have l3:=Ki hr (h3 w os)
 have l4:=Ki hr (h4 w os)
 have l5:=Ki hr (h5 w os)
 have r:=TQ _ _ _ _ hr
 have ea:(Ja w os).abs=⟨boot_heap w.params,Im [],boot_drawn,boot_toks,os⟩:=by
  unfold Ja SharedT.abs
  dsimp only
  rw[YX]
 rw[ea] at r
 have t:topFrom treeTable p w N ⟨boot_heap w.params,Im [],boot_drawn,boot_toks,os⟩=some s.abs:=by
  unfold topFrom
  dsimp only
  rw[z1,z2,z3,r]
  show(match look1 p w s.abs with | true=>_ | false=>_)=_
  rw[l1]
 unfold openEnds
 rw[e1]
 show(topFrom treeTable p w N ⟨boot_heap w.params,Im [],boot_drawn,boot_toks,os⟩).map _=_
 rw[t]
 show some ((look2 q s.abs,(look3 q loose (importedModules p.main.body) Xt s.abs).1,(look3 q loose (importedModules p.main.body) Xt s.abs).2.1,(look3 q loose (importedModules p.main.body) Xt s.abs).2.2,look4 q loose s.abs),Yf s.abs)=_
 rw[l2,l3,l4,l5]
 rfl
end Fb
name_quick runAQ for Fb.runA by Fb.runA_rfl
name_quick look1Q for Fb.look1 by Fb.look1_rfl
name_quick look2Q for Fb.look2 by Fb.look2_rfl
name_quick look3Q for Fb.look3 by Fb.look3_rfl
name_quick look4Q for Fb.look4 by Fb.look4_rfl
end
section
set_option maxRecDepth 100000
set_option maxHeartbeats 4000000
namespace Fb
open PySem PySem.W PySem.Calls PyProof.Rows
def looseN:List Str:=["take_line_books","take_line_lockers"]
def lvN:List (Str×WData):=[]
def viewN:Program:=view Ef [1,2,3,4,6,7,8,9,10,11,12,13,14,15,16,17,19,20,21,22,23,24,25,26,27,28,29,30,31,32,33,34,35,36,37,38,39,40,41,42,44,45,47,48,49,50,51,52,54,55,56,57,58,59,60,61,62,63,64,65,66,67,68,69,70,71,72,73,74,75,76,77,78,79,81,82,83,84,85,86,87,88,89,91,92,93,94,95,96,97,98]
def stepsN:Nat:=6162
def xtN (s:Shared):Bool:=xlAt viewN lvN s&&recOk [] s
theorem cO (w:World) (os:OsState):PySem.W.Fast.runAQ Ef 6162 11 (some (.ref 6)) w os (PySem.W.Fast.look1Q Ef w)=some true:=by kernel_rfl
theorem cP (w:World) (os:OsState):PySem.W.Fast.runAQ Ef 6162 11 (some (.ref 6)) w os (PySem.W.Fast.look2Q viewN)=some (expectedOf viewN):=by kernel_rfl
theorem cQ (w:World) (os:OsState):PySem.W.Fast.runAQ Ef 6162 11 (some (.ref 6)) w os (PySem.W.Fast.look3Q viewN looseN (importedModules Ef.main.body) xtN)=some (bltViewBooted,true,true):=by kernel_rfl
theorem cR (w:World) (os:OsState):PySem.W.Fast.runAQ Ef 6162 11 (some (.ref 6)) w os (PySem.W.Fast.look4Q viewN looseN)=some (pinGoodD (drecsOf viewN),plainGoodE viewN (looseW viewN looseN),plainGoodD viewN looseN,wideGood viewN,clsGoodW viewN looseN):=by kernel_rfl
end Fb
end
section
set_option maxRecDepth 100000
namespace L2
open PySem PySem.Spec PyProof.Rows
abbrev Key:=Sum Int Str
def FK:Key→Value→Bool
 | .inl k,v=>Value.isInt k v
 | .inr x,v=>Value.isStrOf x v
def Zu (w:World):Key→Int
 | .inl k=>hashInt k
 | .inr x=>hashStr w x
theorem EV:∀{k:Key}{v:Value},FK k v=true→(∃i t,k=Av i∧v=Lo i t)∨(∃x t,k=Fy x∧v=Lp x t)
 | .inl i,v,h=>by
  obtain⟨t,e⟩:=Value.isInt_shape (k:=i) (v:=v) h
  exact .inl ⟨i,t,rfl,e⟩
 | .inr x,v,h=>by
  obtain⟨t,e⟩:=Value.isStrOf_shape (x:=x) (v:=v) h
  exact .inr ⟨x,t,rfl,e⟩
theorem Zv (i:Int) (t:Tok):FK (.inl i) (.int i t)=true:=by simp[FK,Value.isInt]
theorem Zw (x:Str) (t:Tok):FK (.inr x) (.str x t)=true:=by simp[FK,Value.isStrOf]
theorem Zx (a b:Int):decide ((Av a:Key)=Av b)=(a==b):=by
 by_cases e:a=b
 ·subst e;simp
 ·have h:¬(Av a:Key)=Av b:=fun q=>e (Ht q)
  rw[decide_eq_false h]
  exact(beq_eq_false_iff_ne.mpr e).symm
theorem Z0 (a b:Str):decide ((Fy a:Key)=Fy b)=decide (a=b):=by
 by_cases e:a=b
 ·subst e;simp
 ·have h:¬(Fy a:Key)=Fy b:=fun q=>e (Fy.inj q)
  rw[decide_eq_false h,decide_eq_false e]
theorem Zy (a:Int) (b:Str):decide ((Av a:Key)=Fy b)=false:=decide_eq_false (fun q=>nomatch q)
theorem Zz (a:Str) (b:Int):decide ((Fy a:Key)=Av b)=false:=decide_eq_false (fun q=>nomatch q)
def CN (prog:Program) (w:World):PySem.KeyKind prog w Key where
 is:=FK
 hash:=Zu w
 inj:=fun v a b ha hb=>by
  rcases EV ha with ⟨i,t,rfl,rfl⟩ | ⟨x,t,rfl,rfl⟩
  ·rcases EV hb with ⟨j,u,rfl,e⟩ | ⟨y,u,rfl,e⟩
   ·injection e with e1 _;rw[e1]
   ·exact nomatch e
  ·rcases EV hb with ⟨j,u,rfl,e⟩ | ⟨y,u,rfl,e⟩
   ·exact nomatch e
   ·injection e with e1 _;rw[e1]
 byValue:=fun k v h=>by
  rcases EV h with ⟨i,t,rfl,rfl⟩ | ⟨x,t,rfl,rfl⟩ <;> rfl
 pyHash:=fun hv h=>by
  rcases EV hv with ⟨i,t,rfl,rfl⟩ | ⟨x,t,rfl,rfl⟩
  ·exact wpAny_pyHash_int h
  ·exact wpAny_pyHash_str h
 eqBool:=fun hu hv h=>by
  rcases EV hu with ⟨i,t,rfl,rfl⟩ | ⟨x,t,rfl,rfl⟩
  ·rcases EV hv with ⟨j,u,rfl,rfl⟩ | ⟨y,u,rfl,rfl⟩
   ·rw[Zx] at h;exact wpAny_eqBool_int h
   ·rw[Zy] at h;exact Xe i t y u _ _ _ _ h
  ·rcases EV hv with ⟨j,u,rfl,rfl⟩ | ⟨y,u,rfl,rfl⟩
   ·rw[Zz] at h;exact Xf x t j u _ _ _ _ h
   ·rw[Z0] at h;exact wpAny_eqBool_str h
 «strs»:=fun k x t v h=>by
  rcases EV h with ⟨i,u,rfl,e⟩ | ⟨y,u,rfl,e⟩
  ·exact nomatch e
  ·injection e with e1 _
   subst e1
   cases v <;> rfl
theorem aY (prog:Program) (w:World) (i:Int) (t:Tok):(CN prog w).is (.inl i) (.int i t)=true:=Zv i t
theorem aZ (prog:Program) (w:World) (x:Str) (t:Tok):(CN prog w).is (.inr x) (.str x t)=true:=Zw x t
end L2
namespace L2
open PySem PySem.Spec PyProof.Rows
inductive V where
 | non | bl (b:Bool) | int (i:Int) | str (x:Str) | byt (b:Array UInt8) | flt (b:UInt64) | ref (a:Addr) | ty (n:String)
 deriving DecidableEq
def RelV:V→Value→Prop
 | .non,u=>u=Co
 | .bl b,u=>u=Dg b
 | .int i,u=>∃t,u=Lo i t
 | .str x,u=>∃t,u=Lp x t
 | .byt b,u=>∃t,u=Value.bytes b t
 | .flt b,u=>∃t,u=Value.float b t
 | .ref a,u=>u=Ak a
 | .ty n,u=>u=DL n
abbrev Vals:List V→List Value→Prop:=Paired RelV
theorem Vals.length {xs:List V}{us:List Value} (r:Vals xs us):xs.length=us.length:=FA r
theorem Vals.get:∀{xs:List V}{us:List Value}{i:Nat}{x:V},Vals xs us→xs[i]?=some x→∃u,us[i]?=some u∧RelV x u
 | _,_,_,_,.nil,e=>by simp at e
 | _,_,0,_,.cons r _,e=>by simp at e;subst e;exact⟨_,rfl,r⟩
 | _,_,i+1,x,.cons _ t,e=>by
  obtain⟨u,h1,h2⟩:=Vals.get (i:=i) (x:=x) t (by simpa using e)
  exact⟨u,by simpa using h1,h2⟩
theorem Vals.append:∀{xs ys:List V}{us ws:List Value},Vals xs us→Vals ys ws→Vals (xs++ys) (us++ws)
 | _,_,_,_,.nil,s=>s
 | _,_,_,_,.cons r t,s=>.cons r (Vals.append t s)
theorem Vals.take:∀{xs:List V}{us:List Value} (n:Nat),Vals xs us→Vals (xs.take n) (us.take n)
 | _,_,0,_=>.nil
 | _,_,_+1,.nil=>.nil
 | _,_,n+1,.cons r t=>.cons r (Vals.take n t)
theorem Vals.drop:∀{xs:List V}{us:List Value} (n:Nat),Vals xs us→Vals (xs.drop n) (us.drop n)
 | _,_,0,r=>r
 | _,_,_+1,.nil=>.nil
 | _,_,n+1,.cons _ t=>Vals.drop n t
def RelO:Option V→Option Value→Prop
 | some v,some u=>RelV v u
 | none,none=>True
 | _,_=>False
def KV {κ:Type}:List (κ×V)→List (κ×Value)→Prop:=Paired fun (p:κ×V) (q:κ×Value)=>p.1=q.1∧RelV p.2 q.2
def kV:Key→V
 | .inl i=>.int i
 | .inr x=>.str x
inductive HO where
 | lst (xs:List V)
 | tup (xs:List V)
 | dK (kvs:List (Key×V)) | dT (kvs:List (List Key×V))
 | set (S:Int→Bool) (n:Nat)
 | ins (C dx:Addr) (fs:List (Str×V))
 | own (x:Addr)
 | xd (fs:List (Str×V))
 | met (f x:Addr)
 | rng (lo hi:Int)
 | frz (o:Obj) (u:HO)
 | tbl (ps:Array Value)
 | ext (φ:Heap→Prop)
abbrev Hp:=Addr→Option HO
def upd (H:Hp) (a:Addr) (o:HO):Hp:=fun b=>if b=a then some o else H b
theorem AH {H:Hp}{a:Addr}{o:HO}:upd H a o a=some o:=by unfold upd;rw[if_pos rfl]
theorem AG {H:Hp}{a b:Addr}{o:HO} (h:b≠a):upd H a o b=H b:=by unfold upd;rw[if_neg h]
theorem GL {H:Hp}{a:Addr}{o u:HO}:upd (upd H a o) a u=upd H a u:=by
 funext b;unfold upd;split <;> rfl
theorem BE {H:Hp}{a b:Addr}{o u:HO} (h:H a=some o) (h':H b=some u) (d:o≠u):a≠b:=by
 intro e;subst e;rw[h] at h';exact d (AV h')
theorem Ai {H:Hp}{a b:Addr}{o:HO} (h:H a=some o) (h':H b=none):a≠b:=by
 intro e;subst e;rw[h] at h';cases h'
section
variable (P:Program) (w:World)
def ObjOk (H:Hp) (h:Heap) (a:Addr):HO→Prop
 | .lst xs=>xs.length≤sizeLine∧∃(its:List Value) (n:Nat),Vals xs its∧h.get? a=some { cls:=.type "list",data:=.seq its.toArray n }
 | .tup xs=>xs.length≤sizeLine∧∃its:List Value,Vals xs its∧IsTup h a its.toArray
 | .dK kvs=>kvs.length≤sizeLine∧(a==sysModules)=false∧∃vs,KV kvs vs∧h.DictOf (CN P w) a vs
 | .dT kvs=>kvs.length≤sizeLine∧(a==sysModules)=false∧∃xs:List (List Key×Addr×Value),
  Paired (fun (p:List Key×V) (q:List Key×Addr×Value)=>p.1=q.1∧H q.2.1=some (.tup (p.1.map kV))∧RelV p.2 q.2.2) kvs xs∧
  ∃o es ep,h.get? a=some o∧o.ExactDict∧o.data=.dict es ep∧es.toList=xs.map (entryOfKey (tupleKind (CN P w)))∧(xs.map (·.1)).Nodup
 | .set S n=>h.SetOf (intKind P w) a S n
 | .ins C dx fs=>H dx=some (.own a)∧fs.length≤1000∧dx≠a∧h.get? a=some (Fv C dx)∧
  ∃mA,h.Ns1 dx mA∧(∀f,RelO (fs.lookup f) (mA f))∧Lq mA (fs.map (·.1))
 | .own _=>∃o,h.get? a=some o
 | .xd fs=>∃mA,h.Ns1 a mA∧∀f,RelO (fs.lookup f) (mA f)
 | .rng lo hi=>∃t u v,h.get? a=some { cls:=.type "range",data:=.fields #[.int lo t,.int hi u,.int 1 v] }
 | .frz o u=>h.get? a=some o∧ObjOk H h a u
 | .tbl ps=>h.get? a=some { cls:=.none,data:=.fields ps }
 | .met f x=>h.get? a=some (Pg (.ref f) (.ref x))
 | .ext φ=>φ h∧(∃o,h.get? a=some o)∧∀h1 h2:Heap,φ h1→(∀o,h1.get? a=some o→h2.get? a=some o)→φ h2
def HOk (H:Hp) (h:Heap):Prop:=∀a o,H a=some o→ObjOk P w H h a o
end
section
variable {P:Program}{w:World}{H H':Hp}{h h':Heap}{a:Addr}{o:HO}
theorem ObjOk.lt (x:ObjOk P w H h a o):a < h.objs.size:=by
 cases o with
 | lst xs=>obtain⟨_,_,_,_,e⟩:=x;exact Ah e
 | tup xs=>obtain⟨_,_,_,p⟩:=x;exact p.lt
 | dK kvs=>obtain⟨_,_,_,_,o,_,_,e,_⟩:=x;exact Ah e
 | dT kvs=>obtain⟨_,_,_,_,o,_,_,e,_⟩:=x;exact Ah e
 | set S n=>obtain⟨o,_,_,_,e,_⟩:=x;exact Ah e
 | ins C dx fs=>obtain⟨_,_,_,e,_⟩:=x;exact Ah e
 | own y=>obtain⟨_,e⟩:=x;exact Ah e
 | xd fs=>obtain⟨_,⟨_,_,_,e,_⟩,_⟩:=x;exact Ah e
 | rng lo hi=>obtain⟨_,_,_,e⟩:=x;exact Ah e
 | frz ob u=>obtain⟨e,_⟩:=x;exact Ah e
 | tbl ps=>exact Ah (show h.get? a=some _ from x)
 | met f y=>exact Ah (show h.get? a=some _ from x)
 | ext φ=>obtain⟨_,⟨_,e⟩,_⟩:=x;exact Ah e
theorem Paired.mapP {α β:Type}{F G:α→β→Prop}:∀{l₁:List α}{l₂:List β},Paired F l₁ l₂→(∀a b,F a b→G a b)→Paired G l₁ l₂
 | _,_,.nil,_=>.nil
 | _,_,.cons r t,f=>.cons (f _ _ r) (Paired.mapP t f)
theorem ObjOk.stay (x:ObjOk P w H h a o) (k:∀b u,(b=a∨H b=some (.own a))→h.get? b=some u→h'.get? b=some u)
  (ho:∀b,H b=some (.own a)→H' b=some (.own a)) (ht:∀b xs,H b=some (.tup xs)→H' b=some (.tup xs)):ObjOk P w H' h' a o:=by
 induction o with
 | lst xs=>obtain⟨z,its,n,r,e⟩:=x;exact⟨z,its,n,r,k _ _ (.inl rfl) e⟩
 | tup xs=>obtain⟨z,its,r,ob,e,c⟩:=x;exact⟨z,its,r,ob,k _ _ (.inl rfl) e,c⟩
 | dK kvs=>obtain⟨z,y,vs,r,ob,es,ep,e,c⟩:=x;exact⟨z,y,vs,r,ob,es,ep,k _ _ (.inl rfl) e,c⟩
 | dT kvs =>
  obtain⟨z,y,xs,r,ob,es,ep,e,c⟩:=x
  exact⟨z,y,xs,Paired.mapP r fun p q z=>⟨z.1,ht _ _ z.2.1,z.2.2⟩,ob,es,ep,k _ _ (.inl rfl) e,c⟩
 | set S n=>obtain⟨ob,es,ep,t,e,c⟩:=x;exact⟨ob,es,ep,t,k _ _ (.inl rfl) e,c⟩
 | ins C dx fs =>
  obtain⟨d,z,ne,e,mA,⟨od,es,ep,e2,c⟩,r⟩:=x
  exact⟨ho _ d,z,ne,k _ _ (.inl rfl) e,mA,⟨od,es,ep,k _ _ (.inr d) e2,c⟩,r⟩
 | own y=>obtain⟨ob,e⟩:=x;exact⟨ob,k _ _ (.inl rfl) e⟩
 | xd fs=>obtain⟨mA,⟨od,es,ep,e,c⟩,r⟩:=x;exact⟨mA,⟨od,es,ep,k _ _ (.inl rfl) e,c⟩,r⟩
 | rng lo hi=>obtain⟨t,u,v,e⟩:=x;exact⟨t,u,v,k _ _ (.inl rfl) e⟩
 | frz ob u ih=>obtain⟨e,q⟩:=x;exact⟨k _ _ (.inl rfl) e,ih q⟩
 | tbl ps =>
  have e:h.get? a=some { cls:=.none,data:=.fields ps }:=x
  show h'.get? a=some { cls:=.none,data:=.fields ps }
  exact k a _ (.inl rfl) e
 | met f y =>
  have e:h.get? a=some (Pg (.ref f) (.ref y)):=x
  show h'.get? a=some (Pg (.ref f) (.ref y))
  exact k a _ (.inl rfl) e
 | ext φ=>obtain⟨p,⟨o,e⟩,st⟩:=x;exact⟨st _ _ p fun o q=>k _ _ (.inl rfl) q,⟨o,k _ _ (.inl rfl) e⟩,st⟩
theorem HOk.lt (x:HOk P w H h) (e:H a=some o):a < h.objs.size:=(x a o e).lt
theorem HOk.fresh (x:HOk P w H h) (e:h.objs.size≤a):H a=none:=by
 cases q:H a with
 | none=>rfl
 | some u=>exact absurd (Bg (x.lt q) e) (Bu _)
theorem HOk.kept (x:HOk P w H h) (k:∀b u,h.get? b=some u→h'.get? b=some u):HOk P w H h':=fun a o e =>
 (x a o e).stay (fun b u _ q=>k b u q) (fun _ q=>q) fun _ _ q=>q
theorem HOk.laid (x:HOk P w H h) (k:∀b u,h.get? b=some u→h'.get? b=some u) (hp:h.objs.size≤a) (new:ObjOk P w (upd H a o) h' a o):HOk P w (upd H a o) h':=fun b u e=>by
 have hn:=x.fresh hp
 by_cases hb:b=a
 ·subst hb;rw[AH] at e;cases e;exact new
 ·rw[AG hb] at e
  exact(x b u e).stay (fun c v _ q=>k c v q) (fun c q=>by rw[AG (Ai q hn)];exact q) fun c xs q=>by rw[AG (Ai q hn)];exact q
end
def Rd (H:Hp) (a:Addr) (u:HO):Prop:=H a=some u∨∃o,H a=some (.frz o u)
theorem Rd.of {H:Hp}{a:Addr}{u:HO} (h:H a=some u):Rd H a u:=.inl h
theorem Rd.ok {P:Program}{w:World}{H:Hp}{h:Heap}{a:Addr}{u:HO} (r:Rd H a u) (x:HOk P w H h):ObjOk P w H h a u:=by
 rcases r with r | ⟨o,r⟩
 ·exact x a u r
 ·obtain⟨_,q⟩:=x a _ r
  exact q
def Mut:Option HO→Prop
 | some (.lst _)=>True
 | some (.dK _)=>True
 | some (.dT _)=>True
 | some (.set _ _)=>True
 | some (.ins _ _ _)=>True
 | some (.ext _)=>True
 | _=>False
section
variable {P:Program}{w:World}{H:Hp}{h h':Heap}{x e:Addr}{o':HO}
theorem HOk.write (ok:HOk P w H h) (mu:Mut (H x)) (he:e=x∨H e=some (.own x)) (k:∀b u,b≠e→h.get? b=some u→h'.get? b=some u) (heo:∃u,h'.get? e=some u)
  (new:ObjOk P w (upd H x o') h' x o'):HOk P w (upd H x o') h':=fun b u q=>by
 have nown:∀c y,H c=some (.own y)→c≠x:=fun c y r z=>by subst z;rw[r] at mu;exact mu
 have ntup:∀c xs,H c=some (.tup xs)→c≠x:=fun c xs r z=>by subst z;rw[r] at mu;exact mu
 by_cases hb:b=x
 ·subst hb;rw[AH] at q;cases q;exact new
 ·rw[AG hb] at q
  by_cases hbe:b=e
  ·have q':H b=some (.own x):=by
    rcases he with z | z
    ·exact absurd (hbe.trans z) hb
    ·rw[hbe];exact z
   rw[q] at q';cases q'
   obtain⟨v,hv⟩:=heo
   exact⟨v,by rw[hbe];exact hv⟩
  ·refine(ok b u q).stay (fun c v hc r=>k c v ?_ r) (fun c r=>by rw[AG (nown c b r)];exact r) fun c xs r=>by rw[AG (ntup c xs r)];exact r
   rcases hc with rfl | hc
   ·exact hbe
   ·rintro rfl
    rcases he with z | z
    ·exact nown c b hc z
    ·rw[hc] at z;cases z;exact hb rfl
end
structure Un (fs ex:List Addr) (H H':Hp) (h h':Heap):Prop where
 keep:∀b o,h.get? b=some o→H b=none→b∉fs→b∉ex→h'.get? b=some o
 slot:∀b o,h.get? b=some o→H b=none→b∈fs→b∉ex→∃sl,h'.get? b=some { o with slots:=sl }
 free:∀b o,h.get? b=some o→H b=none→b∉ex→H' b=none
 there:∀b o,h.get? b=some o→b∉ex→∃o',h'.get? b=some o'
 tups:∀b xs,H b=some (.tup xs)→H' b=some (.tup xs)
 frzs:∀b o u,H b=some (.frz o u)→H' b=some (.frz o u)
 tbls:∀b ps,H b=some (.tbl ps)→∃more,H' b=some (.tbl (ps++more))
section
variable {fs fs' ex ex':List Addr}{H H1 H2:Hp}{h h1 h2 h':Heap}{a x e:Addr}{o:HO}
theorem Un.any (u:Un fs ex H H1 h h1) {b:Addr}{ob:Obj} (q:h.get? b=some ob) (n:H b=none) (hx:b∉ex):∃sl,h1.get? b=some { ob with slots:=sl }:=by
 by_cases hb:b∈fs
 ·exact u.slot b ob q n hb hx
 ·exact⟨ob.slots,u.keep b ob q n hb hx⟩
theorem Un.kept (k:∀b u,h.get? b=some u→h'.get? b=some u):Un fs ex H H h h' :=
 ⟨fun b ob q _ _ _=>k b ob q,fun b ob q _ _ _=>⟨ob.slots,k b ob q⟩,fun _ _ _ n _=>n,fun b ob q _=>⟨ob,k b ob q⟩,fun _ _ q=>q,fun _ _ _ q=>q,fun _ ps q=>⟨#[],by rw[q];simp⟩⟩
theorem Un.refl:Un fs ex H H h h:=Un.kept fun _ _ q=>q
theorem Un.laid (k:∀b u,h.get? b=some u→h'.get? b=some u) (hp:h.objs.size≤a) (hn:H a=none):Un fs ex H (upd H a o) h h' where
 keep:=fun b u q _ _ _=>k b u q
 slot:=fun b u q _ _ _=>⟨u.slots,k b u q⟩
 free:=fun b u q n _=>by rw[AG (BO (Bg (Ah q) hp))];exact n
 there:=fun b u q _=>⟨u,k b u q⟩
 tups:=fun b xs q=>by rw[AG (Ai q hn)];exact q
 frzs:=fun b u xs q=>by rw[AG (Ai q hn)];exact q
 tbls:=fun b ps q=>⟨#[],by rw[AG (Ai q hn),q];simp⟩
theorem Un.write (mu:Mut (H x)) (he:e=x∨H e=some (.own x)) (k:∀b u,b≠e→h.get? b=some u→h'.get? b=some u) (heo:∃u,h'.get? e=some u):Un fs ex H (upd H x o) h h':=by
 have hx:∀b,H b=none→b≠x:=fun b n z=>by subst z;rw[n] at mu;exact mu
 have hb:∀b,H b=none→b≠e:=fun b n z=>by
  subst z
  rcases he with r | r
  ·exact hx b n r
  ·rw[n] at r;cases r
 have hm:∀b u,H b=some u→¬Mut (some u)→b≠x:=fun b u q nm z=>by subst z;rw[q] at mu;exact nm mu
 refine⟨fun b u q n _ _=>k b u (hb b n) q,fun b u q n _ _=>⟨u.slots,k b u (hb b n) q⟩,fun b u q n _=>by rw[AG (hx b n)];exact n,fun b u q _=>?_,
  fun b xs q=>by rw[AG (hm b _ q fun z=>z)];exact q,fun b u xs q=>by rw[AG (hm b _ q fun z=>z)];exact q,fun b ps q=>⟨#[],by rw[AG (hm b _ q fun z=>z),q];simp⟩⟩
 by_cases hbe:b=e
 ·subst hbe;exact heo
 ·exact⟨u,k b u hbe q⟩
end
def trk (h:Heap) (H:Hp):List Addr:=(A0 h.objs.size).filter fun a=>(H a).isSome
def Cf (h:Heap) (H:Hp):Heap:=PySem.W.hideAll h (trk h H)
theorem RX (h:Heap) (H:Hp):(Cf h H).objs.size=h.objs.size:=PySem.W.hideAll_size _ _
theorem RW {h:Heap}{H:Hp}{b:Addr}{o:Obj} (e:h.get? b=some o) (n:H b=none):(Cf h H).get? b=some o :=
 PySem.W.hideAll_get _ e fun hm=>by
  have q:(H b).isSome=true:=(C9.mp hm).2
  rw[n] at q;simp at q
theorem SY {h:Heap}{H:Hp}{b:Addr}{o:Obj} (e:(Cf h H).get? b=some o):h.get? b=some o∧H b=none:=by
 have e':h.get? b=some o:=PySem.W.of_hideAll (trk h H) e
 refine⟨e',?_⟩
 cases q:H b with
 | none=>rfl
 | some x =>
  have hm:b∈trk h H:=C9.mpr ⟨E7.mpr (Ah e'),by simp[q]⟩
  have z:(Cf h H).get? b=none:=PySem.W.hideAll_none (trk h H) hm
  rw[z] at e;cases e
def YG (g h:Heap) (L:Addr):List (Addr×Obj):=(A0 h.objs.size).filterMap fun a=>if a=L∨(g.get? a).isSome=true then none else (h.get? a).map fun o=>(a,o)
def rest (g h:Heap) (L d:Addr):List (Addr×Obj):=(YG g h L).filter fun p=>decide (p.1≠d)
end L2
namespace L2
open PySem PySem.Spec PyProof.Rows
structure Mod (K:AB) (mg:Str→Option Value) (base:Heap):Prop where
 kin:K.In base
 glob:base.Ns mainGlobals mg
 blt:∃mb,base.Ns builtinsNs mb∧∀x:Str,x≠"__name__"→mb x=bootBuiltins x
 nolimit:base.NoLimit
structure Cx where
 prog:Program
 w:World
 K:AB
 mg:Str→Option Value
 base:Heap
 A:Around
 N:List Str
 s_0:Shared
 H_0:Hp
 env:Env
 outer:List Env
 stack:List Env
 ex:List Addr
 fn:Str→Bool
 calm:Bool
 pn:List (Addr×Obj)
 xe:Value→Shared→Prop
def frs (l:List Env):List Addr:=l.filterMap (·.frame)
abbrev Cx.fs (X:Cx):List Addr:=frs X.outer
def Vis (sc:Scope) (x:Str):Prop:=sc.names.lookup x=some .local∨sc.names.lookup x=some .cell∨sc.names.lookup x=some .free
def Loc (sc:Scope) (x:Str):Prop:=sc.names.lookup x=some .local∨sc.names.lookup x=some .cell
def YC (env:Env) (h:Heap) (m:Str→Option Value) (x:Str) (u:Value):Prop :=
 (env.kindOf x=some .local∧m x=some u)∨((env.kindOf x=some .cell∨env.kindOf x=some .free)∧∃c,env.cells.lookup x=some c∧h.IsCell c (some u))
structure Cx.Ok (X:Cx):Prop where
 mod:Mod X.K X.mg X.base
 kind:X.env.scope.kind=.function
 glob:X.env.globals=mainGlobals
 blt:X.env.builtins=builtinsNs
 above:X.s_0.heap.objs.size≤X.env.locals
 inj:∀x y c,X.env.cells.lookup x=some c→X.env.cells.lookup y=some c→x=y
 has:∀x,(X.env.kindOf x=some .cell∨X.env.kindOf x=some .free)→∃c,X.env.cells.lookup x=some c
 cab:∀x c,X.fn x=true→X.env.cells.lookup x=some c→X.s_0.heap.objs.size≤c
 hd:X.calm=true→X.A.handled=none
 frames:X.A.frames=some X.stack
 stk:X.stack=X.outer∨(X.stack=X.env::X.outer∧X.env.frame=some X.env.locals)
 exf:∀b∈X.ex,b≠X.env.locals∧∀x c,X.env.cells.lookup x=some c→c≠b
 bs:∀b o,X.base.get? b=some o→X.s_0.heap.get? b=some o∧X.H_0 b=none
 bsz:X.base.objs.size≤X.s_0.heap.objs.size
 noex:∀b o,X.base.get? b=some o→b∉X.ex
 exfs:∀b∈X.ex,b∉X.fs
 funs:X.s_0.heap.FunFrames X.base X.outer
 frf:∀b∈X.fs,X.H_0 b=none
structure Inv (X:Cx) (pins:List (Addr×Obj)) (σ:List (Option V)) (H:Hp) (s:Shared):Prop where
 ok:X.Ok
 os:s.os=X.s_0.os
 bare:AllBare s.gens
 base:Un X.fs X.ex X.H_0 H X.s_0.heap s.heap
 loc:∃m,s.heap.Ns X.env.locals m∧∀(i:Nat) (x:Str) (v:V),X.N[i]?=some x→σ[i]?=some (some v)→Vis X.env.scope x→∃u,RelV v u∧YC X.env s.heap m x u
 cell:∀x c,X.env.cells.lookup x=some c→∃v,s.heap.IsCell c v
 free:H X.env.locals=none
 freeC:∀x c,X.env.cells.lookup x=some c→H c=none
 pin:∀p∈X.pn++pins,s.heap.get? p.1=some p.2∧H p.1=none∧p.1≠X.env.locals∧p.1∉X.fs∧∀v,p.2.data≠.cell v
 hok:HOk X.prog X.w H s.heap
 len:σ.length=X.N.length
section
variable {X:Cx}{pins:List (Addr×Obj)}{σ:List (Option V)}{H H':Hp}{s:Shared}{h':Heap}
theorem Cx.Ok.nofr (ok:X.Ok) {b:Addr}{o:Obj} (e:X.base.get? b=some o):b∉X.fs:=fun hb=>by
 have:=(ok.funs.mem hb).1
 rw[e] at this;cases this
theorem Inv.bs (I:Inv X pins σ H s):∀b o,X.base.get? b=some o→s.heap.get? b=some o∧H b=none:=fun b o e =>
 ⟨I.base.keep b o (I.ok.bs b o e).1 (I.ok.bs b o e).2 (I.ok.nofr e) (I.ok.noex b o e),I.base.free b o (I.ok.bs b o e).1 (I.ok.bs b o e).2 (I.ok.noex b o e)⟩
theorem Inv.bk (I:Inv X pins σ H s):∀b o,X.base.get? b=some o→s.heap.get? b=some o:=fun b o e=>(I.bs b o e).1
theorem Inv.mod (I:Inv X pins σ H s):Mod X.K X.mg X.base:=I.ok.mod
theorem Inv.kIn (I:Inv X pins σ H s):X.K.In s.heap:=I.ok.mod.kin.keeps I.bk
theorem Inv.fr (I:Inv X pins σ H s):∃m,Fr X.base X.env.locals s.heap m :=
 let ⟨m,hn,_⟩:=I.loc
 ⟨m,hn,I.bk,Bp I.ok.bsz I.ok.above⟩
theorem Inv.lt (I:Inv X pins σ H s):X.env.locals < s.heap.objs.size:=let ⟨_,hn,_⟩:=I.loc;hn.lt
theorem Inv.sz (I:Inv X pins σ H s):X.s_0.heap.objs.size≤s.heap.objs.size:=Bp I.ok.above (Ga I.lt)
theorem Inv.nofs (I:Inv X pins σ H s) {a:Addr} (h:s.heap.objs.size≤a):a∉X.fs:=fun hb=>by
 obtain⟨_,o,ho,_⟩:=I.ok.funs.mem hb
 exact absurd (Bg (Ah ho) (Bp I.sz h)) (Bu _)
theorem Inv.cne (I:Inv X pins σ H s):∀x c,X.env.cells.lookup x=some c→c≠X.env.locals:=fun x c e z=>by
 obtain⟨v,o,ho,hd⟩:=I.cell x c e
 obtain⟨m,⟨o',es,ep,ho',hd',_⟩,_⟩:=I.loc
 rw[z,ho'] at ho;cases ho;rw[hd'] at hd;cases hd
theorem Inv.funs (I:Inv X pins σ H s):s.heap.FunFrames X.base X.outer:=by
 have all:∀(l:List Env),(∀b∈frs l,b∈X.fs)→X.s_0.heap.FunFrames X.base l→s.heap.FunFrames X.base l:=by
  intro l
  induction l with
  | nil=>intro _ _;trivial
  | cons env r ih =>
   intro hs hl
   obtain⟨hk,⟨L,o,hf,hn,ho,hd⟩,hr⟩:=hl
   have hL:L∈X.fs:=hs L (by unfold frs;rw[Og,hf];exact AZ)
   obtain⟨sl,e⟩:=I.base.slot L o ho (I.ok.frf L hL) hL fun z=>I.ok.exfs L z hL
   exact⟨hk,⟨L,_,hf,hn,e,hd⟩,ih (fun b hb=>hs b (by unfold frs;rw[Og,hf];exact Ar _ hb)) hr⟩
 exact all X.outer (fun _ hb=>hb) I.ok.funs
theorem Inv.stack (I:Inv X pins σ H s):s.heap.FunFrames X.base X.stack:=by
 rcases I.ok.stk with e | ⟨e,hf⟩
 ·rw[e];exact I.funs
 ·rw[e]
  obtain⟨m,hn,_⟩:=I.loc
  refine .cons (by rw[I.ok.kind];decide) hf hn ?_ I.funs
  exact Heap.get?_none_of_le (Bp I.ok.bsz I.ok.above)
theorem Inv.stkSub (I:Inv X pins σ H s):∀b∈frs X.stack,b∈X.env.locals::X.fs:=fun b hb=>by
 rcases I.ok.stk with e | ⟨e,hf⟩
 ·rw[e] at hb;exact Ar _ hb
 ·rw[e] at hb
  unfold frs at hb
  rw[Og,hf] at hb
  exact hb
theorem Inv.stkFree (I:Inv X pins σ H s):∀b∈frs X.stack,H b=none:=fun b hb=>by
 rcases AY.mp (I.stkSub b hb) with e | hb
 ·rw[e];exact I.free
 ·obtain⟨_,o,ho,_⟩:=I.ok.funs.mem hb
  exact I.base.free b o ho (I.ok.frf b hb) fun z=>I.ok.exfs b z hb
theorem Inv.step {g':Array GenState}{t':Nat}{d':Drawn}{ch:List Addr} (I:Inv X pins σ H s)
  (hch:∀b∈ch,(b∈X.ex∨X.s_0.heap.objs.size≤b)∧b≠X.env.locals∧(∀x c,X.env.cells.lookup x=some c→c≠b)∧∀p∈X.pn++pins,p.1≠b)
  (keep:∀b o,b≠X.env.locals→b∉X.fs→b∉ch→s.heap.get? b=some o→H b=none→h'.get? b=some o)
  (slot:∀b o,b≠X.env.locals→b∈X.fs→b∉ch→s.heap.get? b=some o→H b=none→∃sl,h'.get? b=some { o with slots:=sl }) (free:∀b o,b∉ch→s.heap.get? b=some o→H b=none→H' b=none)
  (there:∀b o,b∉ch→s.heap.get? b=some o→∃o',h'.get? b=some o')
  (tups:∀b xs,H b=some (.tup xs)→H' b=some (.tup xs)) (frzs:∀b o u,H b=some (.frz o u)→H' b=some (.frz o u)) (tbls:∀b ps,H b=some (.tbl ps)→∃more,H' b=some (.tbl (ps++more)))
  (ns:∀m,s.heap.Ns X.env.locals m→h'.Ns X.env.locals m) (hok:HOk X.prog X.w H' h') (hg:AllBare g'):
  Inv X pins σ H' { s with heap:=h',gens:=g',drawn:=d',toks:=t' }:=by
 have neL:∀b o,X.s_0.heap.get? b=some o→b≠X.env.locals:=fun b o e=>BO (Bg (Ah e) I.ok.above)
 have neC:∀b o,X.s_0.heap.get? b=some o→b∉X.ex→b∉ch:=fun b o e hx hb=>by
  rcases(hch b hb).1 with z | z
  ·exact hx z
  ·exact absurd (Bg (Ah e) z) (Bu _)
 have cellK:∀x c,X.env.cells.lookup x=some c→∀v,s.heap.IsCell c v→h'.IsCell c v:=fun x c e v ⟨o,ho,hd⟩=>by
  have nch:c∉ch:=fun z=>(hch c z).2.2.1 x c e rfl
  by_cases hc:c∈X.fs
  ·obtain⟨sl,q⟩:=slot c o (I.cne x c e) hc nch ho (I.freeC x c e)
   exact⟨_,q,hd⟩
  ·exact⟨o,keep c o (I.cne x c e) hc nch ho (I.freeC x c e),hd⟩
 refine⟨I.ok,I.os,hg,⟨fun b o e n hb hx=>?_,fun b o e n hb hx=>?_,fun b o e n hx=>?_,fun b o e hx=>?_,fun b xs e=>tups b xs (I.base.tups b xs e),fun b o xs e=>frzs b o xs (I.base.frzs b o xs e),fun b ps e=>?_⟩,?_,fun x c e=>?_,?_,fun x c e=>?_,fun p hp=>?_,hok,I.len⟩
 ·exact keep b o (neL b o e) hb (neC b o e hx) (I.base.keep b o e n hb hx) (I.base.free b o e n hx)
 ·obtain⟨sl,e1⟩:=I.base.slot b o e n hb hx
  obtain⟨sl',e2⟩:=slot b _ (neL b o e) hb (neC b o e hx) e1 (I.base.free b o e n hx)
  exact⟨sl',e2⟩
 ·obtain⟨o',e1⟩:=I.base.there b o e hx
  exact free b o' (neC b o e hx) e1 (I.base.free b o e n hx)
 ·obtain⟨o',e1⟩:=I.base.there b o e hx
  exact there b o' (neC b o e hx) e1
 ·obtain⟨m1,e1⟩:=I.base.tbls b ps e
  obtain⟨m2,e2⟩:=tbls b _ e1
  exact⟨m1++m2,by rw[e2,Array.append_assoc]⟩
 ·obtain⟨m,hn,hl⟩:=I.loc
  refine⟨m,ns m hn,fun i x v e1 e2 e3=>?_⟩
  obtain⟨u,r,l⟩:=hl i x v e1 e2 e3
  refine⟨u,r,?_⟩
  rcases l with l | ⟨k,c,e,z⟩
  ·exact .inl l
  ·exact .inr ⟨k,c,e,cellK x c e _ z⟩
 ·obtain⟨v,z⟩:=I.cell x c e
  exact⟨v,cellK x c e v z⟩
 ·obtain⟨m,⟨o,_,_,ho,_⟩,_⟩:=I.loc
  exact free _ o (fun z=>(hch _ z).2.1 rfl) ho I.free
 ·obtain⟨v,o,ho,hd⟩:=I.cell x c e
  exact free c o (fun z=>(hch c z).2.2.1 x c e rfl) ho (I.freeC x c e)
 ·obtain⟨e,n,ne,nf,d⟩:=I.pin p hp
  have nch:p.1∉ch:=fun z=>(hch p.1 z).2.2.2 p hp rfl
  exact⟨keep p.1 p.2 ne nf nch e n,free p.1 p.2 nch e n,ne,nf,d⟩
theorem Inv.un {t':Nat} (I:Inv X pins σ H s) (u:Un X.fs [] H H' s.heap h') (hok:HOk X.prog X.w H' h'):Inv X pins σ H' { s with heap:=h',toks:=t' }:=by
 obtain⟨m,⟨o,es,ep,ho,r⟩,_⟩:=id I.loc
 obtain⟨sl,hL⟩:=u.any ho I.free (by simp)
 exact I.step (g':=s.gens) (d':=s.drawn) (ch:=[]) (fun _ z=>nomatch z) (fun b o _ hb _ e n=>u.keep b o e n hb (by simp)) (fun b o _ hb _ e n=>u.slot b o e n hb (by simp)) (fun b o _ e n=>u.free b o e n (by simp)) (fun b o _ e=>u.there b o e (by simp)) u.tups u.frzs u.tbls (fun m' hm=>by
  obtain⟨o',es',ep',ho',r'⟩:=hm
  rw[ho] at ho';cases ho'
  exact⟨_,es',ep',hL,r'⟩) hok I.bare
theorem Inv.call {g':Array GenState}{t':Nat}{d':Drawn}{ch:List Addr} (I:Inv X pins σ H s) (u:Un (frs X.stack) ch H H' s.heap h') (hok:HOk X.prog X.w H' h') (hg:AllBare g')
  (hch:∀b∈ch,(b∈X.ex∨X.s_0.heap.objs.size≤b)∧b≠X.env.locals∧(∀x c,X.env.cells.lookup x=some c→c≠b)∧∀p∈X.pn++pins,p.1≠b):
  Inv X pins σ H' { s with heap:=h',gens:=g',drawn:=d',toks:=t' }:=by
 obtain⟨m,⟨o,es,ep,ho,r⟩,_⟩:=id I.loc
 obtain⟨sl,hL⟩:=u.any ho I.free fun z=>(hch _ z).2.1 rfl
 exact I.step (ch:=ch) hch (fun b o hL hb hc e n=>u.keep b o e n (fun z=>(AY.mp (I.stkSub b z)).elim hL hb) hc) (fun b o _ _ hc e n=>u.any e n hc) (fun b o hc e n=>u.free b o e n hc) (fun b o hc e=>u.there b o e hc) u.tups u.frzs u.tbls (fun m' hm=>by
  obtain⟨o',es',ep',ho',r'⟩:=hm
  rw[ho] at ho';cases ho'
  exact⟨_,es',ep',hL,r'⟩) hok hg
theorem Inv.turned {t':Nat}{it:Addr} (I:Inv X pins σ H s) (k:∀b o,b≠it→s.heap.get? b=some o→h'.get? b=some o) (hn:H it=none) (hL:it≠X.env.locals)
  (h1:it∈X.ex∨X.s_0.heap.objs.size≤it) (h2:∀x c,X.env.cells.lookup x=some c→c≠it) (h3:∀p∈X.pn++pins,p.1≠it):Inv X pins σ H { s with heap:=h',toks:=t' }:=by
 have nit:∀b u,H b=some u→b≠it:=fun b u e z=>by rw[z,hn] at e;cases e
 refine I.step (g':=s.gens) (d':=s.drawn) (ch:=[it]) (fun b hb=>?_) (fun b o _ _ hc e _=>k b o (fun z=>hc (by simp[z])) e) (fun b o _ _ hc e _=>⟨o.slots,k b o (fun z=>hc (by simp[z])) e⟩) (fun _ _ _ _ n=>n)
  (fun b o hc e=>⟨o,k b o (fun z=>hc (by simp[z])) e⟩) (fun _ _ e=>e) (fun _ _ _ e=>e) (fun b ps e=>⟨#[],by rw[e];simp⟩) (fun m hm=>?_) (fun b u e=>?_) I.bare
 ·have e:b=it:=by simpa using hb
  subst e
  exact⟨h1,hL,h2,h3⟩
 ·obtain⟨o,es,ep,ho,r⟩:=hm
  exact⟨o,es,ep,k _ o (Af hL) ho,r⟩
 ·refine(I.hok b u e).stay (fun c v hc q=>k c v ?_ q) (fun _ q=>q) fun _ _ q=>q
  rcases hc with z | z
  ·rw[z];exact nit b u e
  ·exact nit c _ z
theorem Inv.tok (I:Inv X pins σ H s) (t:Nat):Inv X pins σ H { s with toks:=t }:=I.un (h':=s.heap) (t':=t) Un.refl I.hok
theorem Inv.kept {t':Nat} (I:Inv X pins σ H s) (k:∀b u,s.heap.get? b=some u→h'.get? b=some u):Inv X pins σ H { s with heap:=h',toks:=t' }:=I.un (Un.kept k) (I.hok.kept k)
theorem Inv.laid {a:Addr}{o:HO}{t':Nat} (I:Inv X pins σ H s) (k:∀b u,s.heap.get? b=some u→h'.get? b=some u) (hp:s.heap.objs.size≤a) (new:ObjOk X.prog X.w (upd H a o) h' a o):
 Inv X pins σ (upd H a o) { s with heap:=h',toks:=t' }:=I.un (Un.laid k hp (I.hok.fresh hp)) (I.hok.laid k hp new)
theorem Inv.write {x e:Addr}{o:HO}{t':Nat} (I:Inv X pins σ H s) (mu:Mut (H x)) (he:e=x∨H e=some (.own x)) (k:∀b u,b≠e→s.heap.get? b=some u→h'.get? b=some u) (heo:∃u,h'.get? e=some u)
 (new:ObjOk X.prog X.w (upd H x o) h' x o):Inv X pins σ (upd H x o) { s with heap:=h',toks:=t' }:=I.un (Un.write mu he k heo) (I.hok.write mu he k heo new)
theorem Inv.weak {σ':List (Option V)} (I:Inv X pins σ H s) (hl:σ'.length=σ.length) (w:∀(i:Nat) v,σ'[i]?=some (some v)→σ[i]?=some (some v)):Inv X pins σ' H s :=
 ⟨I.ok,I.os,I.bare,I.base,let ⟨m,hn,hl'⟩:=I.loc;⟨m,hn,fun i x v e1 e2 e3=>hl' i x v e1 (w i v e2) e3⟩,I.cell,I.free,I.freeC,I.pin,I.hok,hl.trans I.len⟩
theorem Inv.pins_of {pins':List (Addr×Obj)} (I:Inv X pins σ H s) (h:∀p∈pins',s.heap.get? p.1=some p.2∧H p.1=none∧p.1≠X.env.locals∧p.1∉X.fs∧∀v,p.2.data≠.cell v):Inv X pins' σ H s :=
 ⟨I.ok,I.os,I.bare,I.base,I.loc,I.cell,I.free,I.freeC,fun p hp=>(Ce.mp hp).elim (fun z=>I.pin p (JD _ z)) (h p),I.hok,I.len⟩
theorem NS {N:List Str} (hN:N.Nodup) {i j:Nat}{x:Str} (a:N[i]?=some x) (b:N[j]?=some x):i=j:=by
 obtain⟨h1,e1⟩:=Be.mp a
 obtain⟨h2,e2⟩:=Be.mp b
 exact(Wi hN).mp (e1.trans e2.symm)
theorem Vy {M:Model}{A:Around}{E:Value→Shared→Prop}{i:Nat}{x:Str}{v:V}{u:Value}{Q:Unit→Shared→Prop} (I:Inv X pins σ H s) (hN:X.N.Nodup) (hi:X.N[i]?=some x) (hx:Loc X.env.scope x) (r:RelV v u)
  (h:∀s',Inv X pins (σ.set i (some v)) H s'→(∃a,Gg a s.heap s'.heap∧(a=X.env.locals∨X.env.cells.lookup x=some a))→Q () s') (hf:X.fn x=true∨X.env.scope.names.lookup x=some .local:=by first | exact .inl rfl | exact .inr rfl | assumption):wpAny M A (storeName X.env x u) Q E s:=by
 obtain⟨m,hn,hl⟩:=id I.loc
 have hcls:(X.env.scope.kind==.class || (X.env.scope.kind==.module&&X.env.locals != X.env.globals))=false:=by rw[I.ok.kind];rfl
 have hiσ:i < σ.length:=by rw[I.len];exact(Be.mp hi).1
 have cne:=I.cne
 have tracked:∀{a:Addr} {h':Heap},(∃o,s.heap.get? a=some o∧H a=none)→Gg a s.heap h'→HOk X.prog X.w H h':=fun {a h'} ha hs b ob e=>by
  obtain⟨_,_,hfree⟩:=ha
  refine(I.hok b ob e).stay (fun c w' hc q=>(hs.2 c ?_).trans q) (fun _ q=>q) fun _ _ q=>q
  rintro rfl
  rcases hc with rfl | hc
  ·rw[hfree] at e;cases e
  ·rw[hfree] at hc;cases hc
 rcases hx with hk | hk
 ·refine wpAny_storeName_local hk hn (fun h' hn' hs=>?_) hcls
  obtain⟨oL,_,_,hoL,_⟩:=id hn
  refine h _ ⟨I.ok,I.os,I.bare,⟨fun b o e n hb hx=>?_,fun b o e n hb hx=>?_,I.base.free,fun b o e hx=>?_,I.base.tups,I.base.frzs,I.base.tbls⟩,⟨_,hn',fun j y v' e1 e2 e3=>?_⟩,fun y c e=>?_,I.free,I.freeC,fun p hp=>?_,tracked ⟨oL,hoL,I.free⟩ hs,by simpa using I.len⟩ ⟨_,hs,.inl rfl⟩
  ·exact(hs.2 b (BO (Bg (Ah e) I.ok.above))).trans (I.base.keep b o e n hb hx)
  ·obtain⟨sl,e1⟩:=I.base.slot b o e n hb hx
   exact⟨sl,(hs.2 b (BO (Bg (Ah e) I.ok.above))).trans e1⟩
  ·obtain⟨o',e1⟩:=I.base.there b o e hx
   exact⟨o',(hs.2 b (BO (Bg (Ah e) I.ok.above))).trans e1⟩
  ·by_cases hj:j=i
   ·subst hj
    rw[hi] at e1;cases e1
    rw[Ou hiσ] at e2
    cases e2
    exact⟨u,r,.inl ⟨hk,by simp⟩⟩
   ·rw[Ot (Af hj)] at e2
    obtain⟨u',r',q⟩:=hl j y v' e1 e2 e3
    refine⟨u',r',?_⟩
    rcases q with ⟨k,e⟩ | ⟨k,c,e,z⟩
    ·refine .inl ⟨k,?_⟩
     have:y≠x:=fun e=>hj (NS hN e1 (e▸hi))
     simp[this,e]
    ·exact .inr ⟨k,c,e,z.sameBut hs (cne y c e)⟩
  ·obtain⟨w',z⟩:=I.cell y c e
   exact⟨w',z.sameBut hs (cne y c e)⟩
  ·obtain⟨e,n,ne,nf,d⟩:=I.pin p hp
   exact⟨(hs.2 p.1 ne).trans e,n,ne,nf,d⟩
 ·have hfn:X.fn x=true:=by
   rcases hf with z | z
   ·exact z
   ·rw[z] at hk;cases hk
  obtain⟨c,hc⟩:=I.ok.has x (.inl hk)
  obtain⟨w',z⟩:=I.cell x c hc
  refine wpAny_storeName_cell I.ok.kind hk hc z (fun h' hc' hs=>?_)
  obtain⟨oc,hoc,hocd⟩:=id z
  refine h { s with heap:=h' } ⟨I.ok,I.os,I.bare,⟨fun b o e n hb hx=>?_,fun b o e n hb hx=>?_,I.base.free,fun b o e hx=>?_,I.base.tups,I.base.frzs,I.base.tbls⟩,⟨m,hn.sameBut hs (Af (cne x c hc)),fun j y v' e1 e2 e3=>?_⟩,fun y c' e=>?_,I.free,I.freeC,fun p hp=>?_,tracked ⟨oc,hoc,I.freeC x c hc⟩ hs,by simpa using I.len⟩ ⟨c,hs,.inr hc⟩
  ·exact(hs.2 b (BO (Bg (Ah e) (I.ok.cab x c hfn hc)))).trans (I.base.keep b o e n hb hx)
  ·obtain⟨sl,e1⟩:=I.base.slot b o e n hb hx
   exact⟨sl,(hs.2 b (BO (Bg (Ah e) (I.ok.cab x c hfn hc)))).trans e1⟩
  ·obtain⟨o',e1⟩:=I.base.there b o e hx
   exact⟨o',(hs.2 b (BO (Bg (Ah e) (I.ok.cab x c hfn hc)))).trans e1⟩
  ·by_cases hj:j=i
   ·subst hj
    rw[hi] at e1;cases e1
    rw[Ou hiσ] at e2
    cases e2
    exact⟨u,r,.inr ⟨.inl hk,c,hc,hc'⟩⟩
   ·rw[Ot (Af hj)] at e2
    obtain⟨u',r',q⟩:=hl j y v' e1 e2 e3
    refine⟨u',r',?_⟩
    rcases q with q | ⟨k,c',e,z'⟩
    ·exact .inl q
    ·refine .inr ⟨k,c',e,z'.sameBut hs ?_⟩
     rintro rfl
     exact hj (NS hN e1 (I.ok.inj _ _ _ e hc▸hi))
  ·by_cases hcc:c'=c
   ·subst hcc;exact⟨_,hc'⟩
   ·obtain⟨w2,z2⟩:=I.cell y c' e
    exact⟨w2,z2.sameBut hs hcc⟩
  ·obtain⟨e,n,ne,nf,d⟩:=I.pin p hp
   refine⟨(hs.2 p.1 ?_).trans e,n,ne,nf,d⟩
   intro q
   rw[q,hoc] at e
   have q':oc=p.2:=AV e
   exact d w' (by rw[← q'];exact hocd)
theorem Vx {M:Model}{A:Around}{E:Value→Shared→Prop}{i:Nat}{x:Str}{v:V}{u:Value}{Q:Unit→Shared→Prop} (I:Inv X pins σ H s) (hN:X.N.Nodup) (hi:X.N[i]?=some x) (hx:Loc X.env.scope x) (r:RelV v u)
  (h:∀s',Inv X pins (σ.set i (some v)) H s'→Q () s') (hf:X.fn x=true∨X.env.scope.names.lookup x=some .local:=by first | exact .inl rfl | exact .inr rfl | assumption):wpAny M A (storeName X.env x u) Q E s :=
 Vy I hN hi hx r (fun s' I' _=>h s' I') hf
theorem Inv.call' {s':Shared}{ch:List Addr} (I:Inv X pins σ H s) (ho:s'.os=s.os) (u:Un (frs X.stack) ch H H' s.heap s'.heap) (hok:HOk X.prog X.w H' s'.heap) (hg:AllBare s'.gens)
  (hch:∀b∈ch,(b∈X.ex∨X.s_0.heap.objs.size≤b)∧b≠X.env.locals∧(∀x c,X.env.cells.lookup x=some c→c≠b)∧∀p∈X.pn++pins,p.1≠b):Inv X pins σ H' s':=by
 obtain⟨h',g',d',t',o'⟩:=s'
 have e:o'=s.os:=ho
 subst e
 exact I.call (g':=g') (t':=t') (d':=d') u hok hg hch
end
abbrev XK:=Value→Option Addr→Hp→Prop
abbrev St:=List (Option V)
abbrev VK:=V→Hp→Prop
abbrev TE:=St→Hp→VK→Prop
abbrev TT:=St→Hp→(Bool→Hp→Prop)→Prop
abbrev TA:=St→Hp→(List V→Hp→Prop)→Prop
structure F1 where
 nx:St→Hp→Prop
 rt:VK
 bk:St→Hp→Prop:=fun _ _=>False
 ct:St→Hp→Prop:=fun _ _=>False
abbrev TS:=F1→St→Hp→Prop
def EP (X:Cx) (pins:List (Addr×Obj)) (σ:St) (Q:VK) (u:Value) (s':Shared):Prop:=∃v H',Inv X pins σ H' s'∧RelV v u∧Q v H'
def TP (X:Cx) (pins:List (Addr×Obj)) (σ:St) (Q:Bool→Hp→Prop) (b:Bool) (s':Shared):Prop:=∃H',Inv X pins σ H' s'∧Q b H'
def AP (X:Cx) (pins:List (Addr×Obj)) (σ:St) (Q:List V→Hp→Prop) (us:List Value) (s':Shared):Prop:=∃vs H',Inv X pins σ H' s'∧Vals vs us∧Q vs H'
def SP (X:Cx) (pins:List (Addr×Obj)) (D:F1) (f:Flow) (s':Shared):Prop :=
 match f with
 | .next=>∃σ' H',Inv X pins σ' H' s'∧D.nx σ' H'
 | .brk=>∃σ' H',Inv X pins σ' H' s'∧D.bk σ' H'
 | .cont=>∃σ' H',Inv X pins σ' H' s'∧D.ct σ' H'
 | .ret u=>∃v σ' H',Inv X pins σ' H' s'∧RelV v u∧D.rt v H'
def PE (X:Cx) (e:Expr) (t:TE):Prop :=
 ∀(pins:List (Addr×Obj)) (s:Shared) (σ:St) (H:Hp) (Q:VK),Inv X pins σ H s→t σ H Q→wpAny (model X.prog X.w) X.A (eval e X.env) (EP X pins σ Q) X.xe s
def PT (X:Cx) (e:Expr) (t:TT):Prop :=
 ∀(pins:List (Addr×Obj)) (s:Shared) (σ:St) (H:Hp) (Q:Bool→Hp→Prop),Inv X pins σ H s→t σ H Q→wpAny (model X.prog X.w) X.A (isTrue e X.env (eval e X.env)) (TP X pins σ Q) X.xe s
def PW (X:Cx) (e:Expr) (t:TT):Prop :=
 ∀(whole:Sem Value) (pins:List (Addr×Obj)) (s:Shared) (σ:St) (H:Hp) (Q:Bool→Hp→Prop),Inv X pins σ H s→t σ H Q→wpAny (model X.prog X.w) X.A (isTrue e X.env whole) (TP X pins σ Q) X.xe s
theorem PW.pt {X:Cx}{e:Expr}{t:TT} (h:PW X e t):PT X e t:=h _
def PA (X:Cx) (es:List Expr) (t:TA):Prop :=
 ∀(pos:Pos) (pins:List (Addr×Obj)) (s:Shared) (σ:St) (H:Hp) (Q:List V→Hp→Prop),Inv X pins σ H s→t σ H Q→wpAny (model X.prog X.w) X.A (spliced (backTo pos (starEach es X.env))) (AP X pins σ Q) X.xe s
def PS (X:Cx) (st:Stmt) (t:TS):Prop :=
 ∀(pins:List (Addr×Obj)) (s:Shared) (σ:St) (H:Hp) (D:F1),Inv X pins σ H s→t D σ H→wpAny (model X.prog X.w) X.A (exec st X.env) (SP X pins D) X.xe s
def PSs (X:Cx) (st:List Stmt) (t:TS):Prop :=
 ∀(pins:List (Addr×Obj)) (s:Shared) (σ:St) (H:Hp) (D:F1),Inv X pins σ H s→t D σ H→wpAny (model X.prog X.w) X.A (execs st X.env) (SP X pins D) X.xe s
theorem thn {α:Type}{t:Sem α}{Q Q':α→Shared→Prop}{M:Model}{A:Around}{E:Value→Shared→Prop}{s:Shared} (h:wpAny M A t Q E s) (hQ:∀a s,Q a s→Q' a s):wpAny M A t Q' E s:=DM h hQ fun _ _ x=>x
end L2
namespace L2
open PySem PySem.Spec PyProof.Rows
section
variable {X:Cx}
theorem bin {a b:Expr}{ta tb:TE} (ha:PE X a ta) (hb:PE X b tb) {pins:List (Addr×Obj)}{s:Shared}{σ:St}{H:Hp}{R:V→V→Hp→Prop} (I:Inv X pins σ H s) (h:ta σ H fun x H1=>tb σ H1 fun y H2=>R x y H2)
  {α:Type} {Q:α→Shared→Prop} {f:Value→Value→Sem α}
  (hf:∀v u s2 x y H2,Inv X pins σ H2 s2→RelV x v→RelV y u→R x y H2→wpAny (model X.prog X.w) X.A (f v u) Q X.xe s2):
  wpAny (model X.prog X.w) X.A (eval a X.env) (fun v s₁=>wpAny (model X.prog X.w) X.A (eval b X.env) (fun u s₂=>wpAny (model X.prog X.w) X.A (f v u) Q X.xe s₂) X.xe s₁) X.xe s:=by
 refine thn (ha pins s σ H _ I h) fun v s1 ⟨x,H1,I1,r1,q1⟩=>?_
 refine thn (hb pins s1 σ H1 _ I1 q1) fun u s2 ⟨y,H2,I2,r2,q2⟩=>?_
 exact hf v u s2 x y H2 I2 r1 r2 q2
def CV (i:Nat):TE:=fun σ H Q=>∃v,σ[i]?=some (some v)∧Q v H
def tC (v:V):TE:=fun _ H Q=>Q v H
theorem Sv {i:Nat}{x:Str}{pos:Pos} (hN:X.N[i]?=some x) (hv:Vis X.env.scope x) (hd:(x==("__debug__":Str))=false:=by decide) (hcd:(x==("__classdict__":Str))=false:=by decide):PE X (.Name x pos) (CV i):=by
 intro pins s σ H Q I h
 obtain⟨v,e,h⟩:=h
 obtain⟨m,hn,hl⟩:=I.loc
 obtain⟨u,r,l⟩:=hl i x v hN e hv
 have fin:EP X pins σ Q u s:=⟨v,H,I,r,h⟩
 rcases l with ⟨hk,hm⟩ | ⟨hk,c,hc,hcell⟩
 ·exact Pr (wpAny_loadName_local I.ok.kind hk hn hm fin) hd
 ·rcases hk with hk | hk
  ·exact Pr (wpAny_loadName_cell I.ok.kind hk hc hcell fin) hd
  ·exact Pr (wpAny_loadName_free I.ok.kind hk hc hcell fin hcd) hd
theorem AS {i j pos}:PE X (.Constant (.int i) j pos) (tC (.int i)):=fun _ _ _ H _ I h=>wpAny_Constant_int ⟨.int i,H,I.tok _,⟨_,rfl⟩,h⟩
theorem Sl {b j pos}:PE X (.Constant (.bool b) j pos) (tC (.bl b)):=fun _ _ _ H _ I h=>Constant_bool ⟨.bl b,H,I,rfl,h⟩
theorem Dn {j pos}:PE X (.Constant .none j pos) (tC .non):=fun _ _ _ H _ I h=>Constant_none ⟨.non,H,I,rfl,h⟩
theorem EJ {x j pos}:PE X (.Constant (.str x) j pos) (tC (.str x)):=fun _ _ _ H _ I h=>Calls.Constant_str ⟨.str x,H,I.tok _,⟨_,rfl⟩,h⟩
def Gl (X:Cx) (x:Str):Prop:=X.env.kindOf x=some .globalImplicit
theorem IL {E:Value→Shared→Prop}{pins:List (Addr×Obj)}{s:Shared}{σ:St}{H:Hp}{x:Str}{u:Value}{pos:Pos}{Q:Value→Shared→Prop} (I:Inv X pins σ H s) (hg:Gl X x) (hm:X.mg x=some u) (h:Q u s)
  (hd:(x==("__debug__":Str))=false:=by decide):wpAny (model X.prog X.w) X.A (eval (.Name x pos) X.env) Q E s :=
 XB I.ok.kind hg (Calls.loadGlobal_global (by rw[I.ok.glob];exact I.mod.glob.keeps I.bk) hm h) hd
theorem Er {E:Value→Shared→Prop}{pins:List (Addr×Obj)}{s:Shared}{σ:St}{H:Hp}{x:Str}{u:Value}{pos:Pos}{Q:Value→Shared→Prop} (I:Inv X pins σ H s) (hg:Gl X x) (hm:X.mg x=none) (hv:bootBuiltins x=some u) (h:Q u s)
  (hn:x≠"__name__":=by decide) (hd:(x==("__debug__":Str))=false:=by decide):wpAny (model X.prog X.w) X.A (eval (.Name x pos) X.env) Q E s:=by
 obtain⟨mb,h1,h2⟩:=I.mod.blt
 exact XB I.ok.kind hg (Calls.loadGlobal_builtin (by rw[I.ok.glob];exact I.mod.glob.keeps I.bk) hm (by rw[I.ok.blt];exact h1.keeps I.bk) ((h2 x hn).trans hv) h) hd
theorem bY {x:Str}{v:V}{u:Value}{pos:Pos} (hg:Gl X x) (hm:X.mg x=some u) (r:RelV v u) (hd:(x==("__debug__":Str))=false:=by decide):PE X (.Name x pos) (tC v) :=
 fun _ _ _ H _ I h=>IL I hg hm ⟨v,H,I,r,h⟩ hd
variable {a b:Expr}{ta tb:TE}{pos:Pos}
def PC (X:Cx) (op:CmpOp) (a b:Expr) (t:TE):Prop :=
 ∀(pins:List (Addr×Obj)) (s:Shared) (σ:St) (H:Hp) (Q:VK),Inv X pins σ H s→t σ H Q→
  wpAny (model X.prog X.w) X.A (eval a X.env) (fun v s₁=>wpAny (model X.prog X.w) X.A (eval b X.env) (fun u s₂=>wpAny (model X.prog X.w) X.A (compareOp op v u) (EP X pins σ Q) X.xe s₂) X.xe s₁) X.xe s
theorem SV (b:Expr) {op:CmpOp} (h:op≠.In) (h2:op≠.NotIn):behindInMarks op b=false:=by
 have e1:(op==CmpOp.In)=false:=by cases op <;> first | rfl | exact absurd rfl h
 have e2:(op==CmpOp.NotIn)=false:=by cases op <;> first | rfl | exact absurd rfl h2
 cases b <;> simp[behindInMarks,e1,e2]
def tB (t:TE):TT:=fun σ H Q=>t σ H fun x H1=>∃c,x=.bl c∧Q c H1
theorem bS {op:CmpOp}{t:TE} (h:PC X op a b t) (h1:behindInMarks op b=false:=by first | exact SV _ (by decide) (by decide) | rfl):PE X (.Compare a [op] [b] pos) t:=fun pins s σ H Q I hw=>wpAny_Compare1 (h pins s σ H Q I hw) h1
theorem b0 {op:CmpOp}{t:TE} (h:PC X op a b t) (h1:behindInMarks op b=false:=by first | exact SV _ (by decide) (by decide) | rfl):PT X (.Compare a [op] [b] pos) (tB t):=by
 intro pins s σ H Q I hw
 refine X1 (thn (h pins s σ H _ I hw) fun v s1 h1=>thn h1 fun u s2 h2=>thn h2 fun c s3 ⟨x,H1,I1,r1,q1⟩=>?_) h1
 obtain⟨d,rfl,q⟩:=q1
 cases r1
 exact EN ⟨H1,I1,q⟩
theorem Dt {e:Expr}{t:TE} (h:PE X e t) (he:∀whole,isTrue e X.env whole=(do let v ← whole;standAt e.pos;holding [v] (truthy v)):=by intro _;rfl):PT X e (tB t):=by
 intro pins s σ H Q I hw
 refine isTrue_plain (thn (h pins s σ H _ I hw) fun v s1 ⟨x,H1,I1,r1,q1⟩=>?_) (he _)
 obtain⟨d,rfl,q⟩:=q1
 cases r1
 exact EN ⟨H1,I1,q⟩
variable {tA tB':TT}{rest:List Expr}
def eJ (t u:TT):TT:=fun σ H Q=>t σ H fun c H1=>if c=true then u σ H1 Q else Q false H1
def tOr (t u:TT):TT:=fun σ H Q=>t σ H fun c H1=>if c=true then Q true H1 else u σ H1 Q
def eg (t:TT):TT:=fun σ H Q=>t σ H fun c H1=>Q (!c) H1
theorem FW (ha:PT X a tA):PW X (.BoolOp .And [a] pos) tA:=by
 intro wh pins s σ H Q I h
 refine isTrue_and (thn (ha pins s σ H Q I h) fun c s1 e=>?_)
 cases c with
 | true=>exact isTrue_and_nil e
 | false=>exact e
theorem Ia (ha:PT X a tA):PW X (.BoolOp .Or [a] pos) tA:=by
 intro wh pins s σ H Q I h
 refine isTrue_or (thn (ha pins s σ H Q I h) fun c s1 e=>?_)
 cases c with
 | false=>exact isTrue_or_nil e
 | true=>exact e
theorem EX (ha:PT X a tA) (hb:PW X (.BoolOp .And (b::rest) pos) tB'):PW X (.BoolOp .And (a::b::rest) pos) (eJ tA tB'):=by
 intro wh pins s σ H Q I h
 refine isTrue_and (thn (ha pins s σ H _ I h) fun c s1 ⟨H1,I1,q1⟩=>?_)
 cases c with
 | true=>exact hb wh pins s1 σ H1 Q I1 q1
 | false=>exact⟨H1,I1,q1⟩
theorem HG (ha:PT X a tA) (hb:PW X (.BoolOp .Or (b::rest) pos) tB'):PW X (.BoolOp .Or (a::b::rest) pos) (tOr tA tB'):=by
 intro wh pins s σ H Q I h
 refine isTrue_or (thn (ha pins s σ H _ I h) fun c s1 ⟨H1,I1,q1⟩=>?_)
 cases c with
 | true=>exact⟨H1,I1,q1⟩
 | false=>exact hb wh pins s1 σ H1 Q I1 q1
theorem Ex (ha:PT X a tA):PT X (.UnaryOp .Not a pos) (eg tA):=by
 intro pins s σ H Q I h
 exact isTrue_not (ha pins s σ H (fun c H1=>Q (!c) H1) I h)
def eK (ta tb:TE):TE:=fun σ H Q=>ta σ H fun x H1=>∃c,x=.bl c∧if c=true then tb σ H1 Q else Q (.bl false) H1
def eh (ta tb:TE):TE:=fun σ H Q=>ta σ H fun x H1=>∃c,x=.bl c∧if c=true then Q (.bl true) H1 else tb σ H1 Q
theorem FR {op}{t:TE} (h:PE X a t):PE X (.BoolOp op [a] pos) t:=fun pins s σ H Q I hw=>BoolOp_one (h pins s σ H Q I hw)
theorem FP (ha:PE X a ta) (hb:PE X (.BoolOp .And (b::rest) pos) tb):PE X (.BoolOp .And (a::b::rest) pos) (eK ta tb):=by
 intro pins s σ H Q I h
 refine BoolOp_and (thn (ha pins s σ H _ I h) fun v s1 ⟨x,H1,I1,r1,q1⟩=>?_)
 obtain⟨c,rfl,q1⟩:=q1
 cases r1
 refine EN ?_
 cases c with
 | true=>exact hb pins s1 σ H1 Q I1 q1
 | false=>exact⟨.bl false,H1,I1,rfl,q1⟩
theorem bg (ha:PE X a ta) (hb:PE X (.BoolOp .Or (b::rest) pos) tb):PE X (.BoolOp .Or (a::b::rest) pos) (eh ta tb):=by
 intro pins s σ H Q I h
 refine BoolOp_or (thn (ha pins s σ H _ I h) fun v s1 ⟨x,H1,I1,r1,q1⟩=>?_)
 obtain⟨c,rfl,q1⟩:=q1
 cases r1
 refine EN ?_
 cases c with
 | false=>exact hb pins s1 σ H1 Q I1 q1
 | true=>exact⟨.bl true,H1,I1,rfl,q1⟩
def tIf (t:TT) (ta tb:TE):TE:=fun σ H Q=>t σ H fun c H1=>if c=true then ta σ H1 Q else tb σ H1 Q
theorem Kb {c:Expr} (hc:PT X c tA) (ha:PE X a ta) (hb:PE X b tb):PE X (.IfExp c a b pos) (tIf tA ta tb):=by
 intro pins s σ H Q I h
 refine wpAny_IfExp (thn (hc pins s σ H _ I h) fun d s1 ⟨H1,I1,q1⟩=>?_)
 cases d with
 | true=>exact ha pins s1 σ H1 Q I1 q1
 | false=>exact hb pins s1 σ H1 Q I1 q1
end
end L2
namespace L2
open PySem PySem.Spec PyProof.Rows
def SqL (K:AB) (H:Hp) (a:Addr) (xs:List V):Prop :=
 Rd H a (.lst xs)∨
  ∃(o:Obj) (its:Array Value) (n:Nat),K.lookup a=some o∧o.cls=.type "list"∧o.dict=none∧o.data=.seq its n∧its.size≤sizeLine∧Vals xs its.toList
def SqT (K:AB) (H:Hp) (a:Addr) (xs:List V):Prop :=
 Rd H a (.tup xs)∨
  ∃(o:Obj) (its:Array Value) (n:Nat),K.lookup a=some o∧o.cls=.type "tuple"∧o.data=.seq its n∧its.size≤sizeLine∧Vals xs its.toList
def YF:Value→Option V
 | .none=>some .non
 | .bool b=>some (.bl b)
 | .int i _=>some (.int i)
 | .str x _=>some (.str x)
 | .bytes b _=>some (.byt b)
 | .float b _=>some (.flt b)
 | .ref a=>some (.ref a)
 | .type n=>some (.ty n)
 | _=>none
theorem RelV.abs {x:V}{u:Value} (r:RelV x u):YF u=some x:=by
 cases x with
 | non=>cases r;rfl
 | bl _=>cases r;rfl
 | int _=>obtain⟨t,rfl⟩:=r;rfl
 | str _=>obtain⟨t,rfl⟩:=r;rfl
 | byt _=>obtain⟨t,rfl⟩:=r;rfl
 | flt _=>obtain⟨t,rfl⟩:=r;rfl
 | ref _=>cases r;rfl
 | ty _=>cases r;rfl
theorem RelV.inj {x y:V}{u:Value} (r:RelV x u) (q:RelV y u):x=y:=AV (r.abs.symm.trans q.abs)
theorem Vals.inj:∀{xs ys:List V}{us:List Value},Vals xs us→Vals ys us→xs=ys
 | _,_,_,.nil,.nil=>rfl
 | _,_,_,.cons r t,.cons r' t'=>by rw[r.inj r',Vals.inj t t']
section
variable {X:Cx}{pins:List (Addr×Obj)}{σ:St}{H:Hp}{s:Shared}{a:Addr}{xs ys:List V}
theorem SqL.of {K:AB} (h:H a=some (.lst xs)):SqL K H a xs:=.inl (.inl h)
theorem SqT.of {K:AB} (h:H a=some (.tup xs)):SqT K H a xs:=.inl (.inl h)
theorem Inv.list (I:Inv X pins σ H s) (h:SqL X.K H a xs):∃its:List Value,Vals xs its∧PlainL s.heap a its.toArray∧xs.length≤sizeLine:=by
 rcases h with h | ⟨o,its,n,hk,hc,hd,hs,hz,r⟩
 ·obtain⟨z,its,n,r,e⟩:=h.ok I.hok
  exact⟨its,r,⟨_,n,e,rfl,rfl,rfl⟩,z⟩
 ·refine⟨its.toList,r,⟨o,n,I.kIn a o hk,hc,hd,by simpa using hs⟩,?_⟩
  have e:=r.length
  simp only[Il] at e
  omega
theorem Inv.tuple (I:Inv X pins σ H s) (h:SqT X.K H a xs):∃its:List Value,Vals xs its∧IsTup s.heap a its.toArray∧xs.length≤sizeLine:=by
 rcases h with h | ⟨o,its,n,hk,hc,hs,hz,r⟩
 ·obtain⟨z,its,r,p⟩:=h.ok I.hok
  exact⟨its,r,p,z⟩
 ·refine⟨its.toList,r,⟨o,I.kIn a o hk,hc,n,by simpa using hs⟩,?_⟩
  have e:=r.length
  simp only[Il] at e
  omega
theorem Inv.list_inj (I:Inv X pins σ H s) (h:SqL X.K H a xs) (h':SqL X.K H a ys):xs=ys:=by
 obtain⟨its,r,⟨o,n,e,_,_,d⟩,_⟩:=I.list h
 obtain⟨its',r',⟨o',n',e',_,_,d'⟩,_⟩:=I.list h'
 rw[e] at e';cases e'
 rw[d] at d'
 injection d' with d1 _
 have:its=its':=by simpa using congrArg OU d1
 subst this
 exact r.inj r'
theorem Inv.tuple_inj (I:Inv X pins σ H s) (h:SqT X.K H a xs) (h':SqT X.K H a ys):xs=ys:=by
 obtain⟨its,r,⟨o,e,_,n,d⟩,_⟩:=I.tuple h
 obtain⟨its',r',⟨o',e',_,n',d'⟩,_⟩:=I.tuple h'
 rw[e] at e';cases e'
 rw[d] at d'
 injection d' with d1 _
 have:its=its':=by simpa using congrArg OU d1
 subst this
 exact r.inj r'
end
abbrev Cx.wish (X:Cx) (E:Value→Shared→Prop):Cx:={ X with xe:=E }
abbrev Cx.nox (X:Cx):Cx:=X.wish fun _ _=>False
theorem Cx.Ok.wish {X:Cx} (ok:X.Ok) (E:Value→Shared→Prop):(X.wish E).Ok :=
 ⟨ok.mod,ok.kind,ok.glob,ok.blt,ok.above,ok.inj,ok.has,ok.cab,ok.hd,ok.frames,ok.stk,ok.exf,ok.bs,ok.bsz,ok.noex,ok.exfs,ok.funs,ok.frf⟩
theorem Cx.Ok.unwish {X:Cx}{E:Value→Shared→Prop} (ok:(X.wish E).Ok):X.Ok :=
 ⟨ok.mod,ok.kind,ok.glob,ok.blt,ok.above,ok.inj,ok.has,ok.cab,ok.hd,ok.frames,ok.stk,ok.exf,ok.bs,ok.bsz,ok.noex,ok.exfs,ok.funs,ok.frf⟩
section
variable {X:Cx}{pins:List (Addr×Obj)}{σ:St}{H:Hp}{s:Shared}{E:Value→Shared→Prop}
theorem Inv.wish (I:Inv X pins σ H s) (E:Value→Shared→Prop):Inv (X.wish E) pins σ H s:=⟨I.ok.wish E,I.os,I.bare,I.base,I.loc,I.cell,I.free,I.freeC,I.pin,I.hok,I.len⟩
theorem Inv.unwish (I:Inv (X.wish E) pins σ H s):Inv X pins σ H s:=⟨I.ok.unwish,I.os,I.bare,I.base,I.loc,I.cell,I.free,I.freeC,I.pin,I.hok,I.len⟩
theorem SP.unwish {D:F1}{f:Flow}{s':Shared} (h:SP (X.wish E) pins D f s'):SP X pins D f s':=by
 cases f with
 | next=>obtain⟨σ',H',I,q⟩:=h;exact⟨σ',H',I.unwish,q⟩
 | brk=>obtain⟨σ',H',I,q⟩:=h;exact⟨σ',H',I.unwish,q⟩
 | cont=>obtain⟨σ',H',I,q⟩:=h;exact⟨σ',H',I.unwish,q⟩
 | ret u=>obtain⟨v,σ',H',I,r,q⟩:=h;exact⟨v,σ',H',I.unwish,r,q⟩
theorem PSs.nox {st:List Stmt}{t:TS} (h:PSs X.nox st t):PSs X st t:=fun pins s σ H D I hw =>
 DM (h pins s σ H D (I.wish _) hw) (fun _ _ q=>q.unwish) fun _ _ z=>BX z
end
section
variable {X:Cx}{st:Stmt}{rest:List Stmt}{t u:TS}{e:Expr}{te:TE}{pos:Pos}
def OG:TS:=fun D σ H=>D.nx σ H
def OH (t u:TS):TS:=fun D σ H=>t { D with nx:=u D } σ H
theorem Ay:PSs X [] OG:=fun _ _ σ H _ I h=>Px ⟨σ,H,I,h⟩
theorem AI (h1:PS X st t) (h2:PSs X rest u):PSs X (st::rest) (OH t u):=by
 intro pins s σ H D I h
 refine Xy (thn (h1 pins s σ H { D with nx:=u D } I h) fun f s1 q=>?_)
 cases f with
 | next =>
  obtain⟨σ',H',I',q⟩:=q
  exact h2 pins s1 σ' H' D I' q
 | ret v=>exact q
 | brk=>exact q
 | cont=>exact q
theorem AJ (h1:PS X st t):PSs X [st] t:=by
 intro pins s σ H D I h
 refine Xy (thn (h1 pins s σ H D I h) fun f s1 q=>?_)
 cases f with
 | next=>exact Px q
 | ret v=>exact q
 | brk=>exact q
 | cont=>exact q
theorem Inv.quiet {pins:List (Addr×Obj)}{σ:St}{H:Hp}{s:Shared} (I:Inv X pins σ H s):interactive X.env=false:=by simp[interactive,I.ok.kind]
def eU (te:TE):TS:=fun D σ H=>te σ H fun _ H1=>D.nx σ H1
theorem Dr (he:PE X e te) (hs:swapsWith e none pos.line X.env=pure false:=by rfl):PS X (.Expr e pos) (eU te):=by
 intro pins s σ H D I h
 exact wpAny_Expr_any (thn (he pins s σ H _ I h) fun v s1 ⟨x,H1,I1,r1,q1⟩=>⟨σ,H1,I1,q1⟩) I.quiet hs
def HN (te:TE):TS:=fun D σ H=>te σ H D.rt
theorem AM (he:PE X e te):PS X (.Return (some e) pos) (HN te):=by
 intro pins s σ H D I h
 exact wpAny_Return_some (thn (he pins s σ H _ I h) fun v s1 ⟨x,H1,I1,r1,q1⟩=>⟨x,σ,H1,I1,r1,q1⟩)
def OF (c:TT) (t u:TS):TS:=fun D σ H=>c σ H fun b H1=>if b=true then t D σ H1 else u D σ H1
theorem Aw {c:Expr}{a b:List Stmt}{tc:TT} (hc:PT X c tc) (ha:PSs X a t) (hb:PSs X b u):PS X (.If c a b pos) (OF tc t u):=by
 intro pins s σ H D I h
 refine wpAny_If (thn (hc pins s σ H _ I h) fun d s1 ⟨H1,I1,q1⟩=>?_)
 cases d with
 | true=>exact ha pins s1 σ H1 D I1 q1
 | false=>exact hb pins s1 σ H1 D I1 q1
end
abbrev TG:=V→St→Hp→(St→Hp→Prop)→Prop
abbrev TGs:=List V→St→Hp→(St→Hp→Prop)→Prop
def PG (X:Cx) (target:Expr) (t:TG):Prop :=
 ∀(pins:List (Addr×Obj)) (s:Shared) (σ:St) (H:Hp) (v:V) (u:Value) (Q:St→Hp→Prop),Inv X pins σ H s→RelV v u→t v σ H Q→
  wpAny (model X.prog X.w) X.A (assign target X.env u) (fun _ s'=>∃σ' H',Inv X pins σ' H' s'∧Q σ' H') X.xe s
def PGs (X:Cx) (ts:List Expr) (t:TGs):Prop :=
 ∀(pins:List (Addr×Obj)) (s:Shared) (σ:St) (H:Hp) (vs:List V) (us:List Value) (Q:St→Hp→Prop),Inv X pins σ H s→Vals vs us→t vs σ H Q→
  wpAny (model X.prog X.w) X.A (assignInOrder ((assignEach ts X.env).map (·.2)) us) (fun _ s'=>∃σ' H',Inv X pins σ' H' s'∧Q σ' H') X.xe s
section
variable {X:Cx}{pos:Pos}
def IH (i:Nat):TG:=fun v σ H Q=>Q (σ.set i (some v)) H
theorem BJ {i:Nat}{x:Str} (hN:X.N.Nodup) (hi:X.N[i]?=some x) (hx:Loc X.env.scope x) (hf:X.fn x=true∨X.env.scope.names.lookup x=some .local:=by first | exact .inl rfl | exact .inr rfl | assumption):PG X (.Name x pos) (IH i):=by
 intro pins s σ H v u Q I r h
 exact Xx (Vx I hN hi hx r (fun s' I'=>⟨_,H,I',h⟩) hf)
def ZS:TGs:=fun vs σ H Q=>vs=[]∧Q σ H
def ZR (t:TG) (u:TGs):TGs:=fun vs σ H Q=>∃v r,vs=v::r∧t v σ H fun σ' H'=>u r σ' H' Q
theorem Ke:PGs X [] ZS:=by
 intro pins s σ H vs us Q I r h
 obtain⟨e,h⟩:=h
 subst e
 cases r
 exact assignInOrder_nil ⟨σ,H,I,h⟩
theorem FU {e:Expr}{es:List Expr}{t:TG}{u:TGs} (h1:PG X e t) (h2:PGs X es u)
  (hs:(assignEach (e::es) X.env).map (·.2)=assign e X.env::(assignEach es X.env).map (·.2):=by rfl):PGs X (e::es) (ZR t u):=by
 intro pins s σ H vs us Q I r h
 obtain⟨v,vr,e1,h⟩:=h
 subst e1
 cases r with
 | cons r rr =>
  rw[hs]
  refine assignInOrder_cons (thn (h1 pins s σ H _ _ _ I r h) fun _ s1 ⟨σ1,H1,I1,q1⟩=>?_)
  exact h2 pins s1 σ1 H1 _ _ Q I1 rr q1
def ZU (K:AB) (n:Nat) (t:TGs):TG:=fun v σ H Q=>∃a xs,v=.ref a∧SqT K H a xs∧xs.length=n∧t xs σ H Q
theorem Kd {es:List Expr}{k:Nat}{t:TGs}{n:Nat} (hc:X.calm=true) (h:PGs X es t)
  (hn:(assignEach es X.env).length=n:=by rfl) (hst:(assignEach es X.env).findIdx? (·.1)=none:=by rfl):PG X (.Tuple es k pos) (ZU X.K n t):=by
 intro pins s σ H v u Q I r hw
 obtain⟨a,xs,e1,hq,hl,hw⟩:=hw
 subst e1
 cases r
 obtain⟨its,rv,ht,hz⟩:=I.tuple hq
 refine assign_Tuple_tuple (I.ok.hd hc) ht (by simp[hn,← hl,rv.length]) hst fun h' hx=>?_
 have I1:Inv X pins σ H { s with heap:=h' }:=I.kept (t':=s.toks) fun b o e=>hx b o (BO (Ah e)) e
 exact h pins _ σ H xs _ Q I1 (by simpa using rv) hw
def V2 (te:TE) (g:TG):TS:=fun D σ H=>te σ H fun x H1=>g x σ H1 D.nx
theorem Ap {i:Nat}{x:Str}{e:Expr}{te:TE}{pos':Pos} (hN:X.N.Nodup) (hi:X.N[i]?=some x) (hx:Loc X.env.scope x) (he:PE X e te) (hs:swapsWith e (some (.Name x pos')) pos.line X.env=pure false:=by rfl) (hf:X.fn x=true∨X.env.scope.names.lookup x=some .local:=by first | exact .inl rfl | exact .inr rfl | assumption):
  PS X (.Assign [.Name x pos'] e pos) (V2 te (IH i)):=by
 intro pins s σ H D I h
 refine wpAny_Assign_Name (thn (he pins s σ H _ I h) fun v s1 ⟨y,H1,I1,r1,q1⟩=>?_) hs
 exact Vx I1 hN hi hx r1 (fun s2 I2=>⟨_,H1,I2,q1⟩) hf
end
section
variable {X:Cx}{pos:Pos}
end
structure It where
 go:Nat→Hp→Prop
 yld:Nat→Hp→V→Hp→Prop
 stop:Nat→Hp→Prop
def D9 (X:Cx) (pins:List (Addr×Obj)) (H:Hp) (b:Addr):Prop :=
 H b=none∧b≠X.env.locals∧b∉X.fs∧(b∈X.ex∨X.s_0.heap.objs.size≤b)∧(∀x c,X.env.cells.lookup x=some c→c≠b)∧∀p∈X.pn++pins,p.1≠b
theorem Inv.fpOk {X:Cx}{pins:List (Addr×Obj)}{σ:St}{H H':Hp}{s:Shared}{b:Addr} (I:Inv X pins σ H s) (hb:s.heap.objs.size≤b) (hn:H' b=none):D9 X pins H' b:=by
 refine⟨hn,LQ (Bg I.lt hb),I.nofs hb,.inr (Bp I.sz hb),fun x c e z=>?_,fun p hp z=>?_⟩
 ·obtain⟨v,q⟩:=I.cell x c e
  exact absurd (Bg q.lt (by rw[z];exact hb)) (Bu _)
 ·exact absurd (Bg (Ah (I.pin p hp).1) (by rw[z];exact hb)) (Bu _)
structure Dh (P:Program) (w:World) (K:AB) (tg:Expr) (J:It) (fp:List Addr) (it:Addr) (tn:Nat→Heap→Prop):Prop where
 mem:it∈fp
 obj:∀i h,tn i h→∀b∈fp,∃o,h.get? b=some o∧∀v,o.data≠.cell v
 keep:∀i h h',tn i h→(∀b∈fp,∀o,h.get? b=some o→h'.get? b=some o)→tn i h'
 item:∀(X:Cx),X.prog=P→X.w=w→X.K=K→X.calm=true→∀(i:Nat) (pins:List (Addr×Obj)) (s:Shared) (σ:St) (H:Hp) (E:Value→Shared→Prop),Inv X pins σ H s→(∀b∈fp,D9 X pins H b)→tn i s.heap→J.go i H→
  wpAny (model P w) X.A (pyNext (.ref it)) (fun r s1=>∃u,r=some u∧
   wpAny (model P w) X.A (letOwnedTupleGo tg (.ref it) u) (fun _ s2=>∃x H',Inv X pins σ H' s2∧RelV x u∧J.yld i H x H'∧tn (i+1) s2.heap∧∀b∈fp,H' b=none) E s1) E s
 done:∀(X:Cx),X.prog=P→X.w=w→X.K=K→X.calm=true→∀(i:Nat) (pins:List (Addr×Obj)) (s:Shared) (σ:St) (H:Hp) (E:Value→Shared→Prop),Inv X pins σ H s→(∀b∈fp,D9 X pins H b)→tn i s.heap→J.stop i H→
  wpAny (model P w) X.A (pyNext (.ref it)) (fun r s1=>r=none∧Inv X pins σ H s1) E s
 self:∀(A:Around) (i:Nat) (s:Shared) (Q:Value→Shared→Prop) (E:Value→Shared→Prop),tn i s.heap→Q (.ref it) s→wpAny (model P w) A (pyIter (.ref it)) Q E s
abbrev TI:=St→Hp→(It→Hp→Prop)→Prop
def PIE (X:Cx) (pins:List (Addr×Obj)) (σ:St) (tg:Expr) (R:It→Hp→Prop) (itv:Value) (s2:Shared):Prop :=
 ∃(it:Addr) (fp:List Addr) (tn:Nat→Heap→Prop) (J:It) (H':Hp),itv=.ref it∧Inv X pins σ H' s2∧Dh X.prog X.w X.K tg J fp it tn∧tn 0 s2.heap∧(∀b∈fp,D9 X pins H' b)∧R J H'
def PI (X:Cx) (tg iter:Expr) (wi:TI):Prop :=
 ∀(pins:List (Addr×Obj)) (s:Shared) (σ:St) (H:Hp) (R:It→Hp→Prop),Inv X pins σ H s→wi σ H R→
  wpAny (model X.prog X.w) X.A (eval iter X.env) (fun v s1=>wpAny (model X.prog X.w) X.A (pyIter v) (PIE X pins σ tg R) X.xe s1) X.xe s
theorem FH {M : Model} {A : Around} {E : Value → Shared → Prop} {s : Shared} {tg : Expr} {it : Addr} {u : Value} {o : Obj} {n : String} {vs : Array Value} {Q : Unit → Shared → Prop} (ho : s.heap.get? it = some o) (hc : o.cls = .type n) (hd : o.data = .fields vs)
    (hn : ["enumerate", "zip", "dict_itemiterator", "dict_reverseitemiterator", "odict_iterator", "itertools.zip_longest", "itertools.pairwise"].contains n = false) (hQ : Q () s) : wpAny M A (letOwnedTupleGo tg (.ref it) u) Q E s := by
  unfold letOwnedTupleGo
  cases tg <;> first
    | exact AL hQ
    | (cases u <;> first
        | exact AL hQ
        | (refine AE (wpAny_load ho ?_)
           rw [hc, hd]
           show wpAny M A (if (["enumerate", "zip", "dict_itemiterator", "dict_reverseitemiterator", "odict_iterator", "itertools.zip_longest", "itertools.pairwise"].contains n && vs[0]? == some (rawInt _)) = true then _ else _) Q E s
           rw [if_neg (by intro h; rw [hn, Cr] at h; cases h)]
           exact AL hQ))
def Itl (K:AB) (a:Addr):It :=
 ⟨fun i H=>∃xs x,SqL K H a xs∧xs[i]?=some x,fun i H x H'=>H'=H∧∀xs,SqL K H a xs→xs[i]?=some x,fun i H=>∃xs,SqL K H a xs∧xs.length≤i⟩
def Itt (K:AB) (a:Addr):It :=
 ⟨fun i H=>∃xs x,SqT K H a xs∧xs[i]?=some x,fun i H x H'=>H'=H∧∀xs,SqT K H a xs→xs[i]?=some x,fun i H=>∃xs,SqT K H a xs∧xs.length≤i⟩
def Itr (lo:Int) (n:Nat):It:=⟨fun i _=>i < n,fun i H x H'=>H'=H∧x=.int (lo+i),fun i _=>n≤i⟩
theorem fJ {P:Program}{w:World}{K:AB}{tg:Expr} (a it:Addr):Dh P w K tg (Itl K a) [it] it (fun i h=>h.IsListIter it a i) where
 mem:=by simp
 obj:=fun i h st b hb=>by
  have e:b=it:=by simpa using hb
  subst e
  obtain⟨o,e,c,d⟩:=st
  exact⟨o,e,fun v z=>by rw[d] at z;cases z⟩
 keep:=fun i h h' st k=>st.at fun o e=>k it (by simp) o e
 item:=by
  intro X hP hw hK hc i pins s σ H E I hf st hg
  subst hP hw hK
  obtain⟨xs,x,hq,hx⟩:=hg
  obtain⟨its,rv,p,hz⟩:=I.list hq
  obtain⟨u,hu,ru⟩:=rv.get hx
  obtain⟨f0,f1,f2,f3,f4,f5⟩:=hf it (by simp)
  refine wpAny_pyNext_list_item st p.isList (x:=u) (by simpa using hu) fun h' st' sb=>?_
  have I1:Inv X pins σ H { s with heap:=h' }:=I.turned (t':=s.toks) (fun b o hb e=>(sb.2 b hb).trans e) f0 f1 f3 f4 f5
  obtain⟨o,e,c,d⟩:=id st'
  exact⟨u,rfl,FH (s:={ s with heap:=h' }) e c d (by decide) ⟨x,H,I1,ru,⟨rfl,fun ys hy=>by rw[I.list_inj hy hq];exact hx⟩,st',fun b hb=>(hf b hb).1⟩⟩
 done:=by
  intro X hP hw hK hc i pins s σ H E I hf st hg
  subst hP hw hK
  obtain⟨xs,hq,hx⟩:=hg
  obtain⟨its,rv,p,hz⟩:=I.list hq
  obtain⟨f0,f1,f2,f3,f4,f5⟩:=hf it (by simp)
  have hl:=rv.length
  exact wpAny_pyNext_list_end (I.ok.hd hc) st p.isList (by simp;omega) fun h' eb=>⟨rfl,I.turned (t':=s.toks) (fun b o hb e=>eb b o hb e) f0 f1 f3 f4 f5⟩
 self:=fun _ _ _ _ _ st h=>wpAny_pyIter_listiter st h
theorem fO {P:Program}{w:World}{K:AB}{tg:Expr} (a it:Addr):Dh P w K tg (Itt K a) [it] it (fun i h=>h.IsTupleIter it a i) where
 mem:=by simp
 obj:=fun i h st b hb=>by
  have e:b=it:=by simpa using hb
  subst e
  obtain⟨o,e,c,d⟩:=st
  exact⟨o,e,fun v z=>by rw[d] at z;cases z⟩
 keep:=fun i h h' st k=>st.at fun o e=>k it (by simp) o e
 item:=by
  intro X hP hw hK hc i pins s σ H E I hf st hg
  subst hP hw hK
  obtain⟨xs,x,hq,hx⟩:=hg
  obtain⟨its,rv,p,hz⟩:=I.tuple hq
  obtain⟨u,hu,ru⟩:=rv.get hx
  obtain⟨f0,f1,f2,f3,f4,f5⟩:=hf it (by simp)
  refine wpAny_pyNext_tuple_item st (show s.heap.IsTuple a its.toArray from p) (x:=u) (by simpa using hu) fun h' st' sb=>?_
  have I1:Inv X pins σ H { s with heap:=h' }:=I.turned (t':=s.toks) (fun b o hb e=>(sb.2 b hb).trans e) f0 f1 f3 f4 f5
  obtain⟨o,e,c,d⟩:=id st'
  exact⟨u,rfl,FH (s:={ s with heap:=h' }) e c d (by decide) ⟨x,H,I1,ru,⟨rfl,fun ys hy=>by rw[I.tuple_inj hy hq];exact hx⟩,st',fun b hb=>(hf b hb).1⟩⟩
 done:=by
  intro X hP hw hK hc i pins s σ H E I hf st hg
  subst hP hw hK
  obtain⟨xs,hq,hx⟩:=hg
  obtain⟨its,rv,p,hz⟩:=I.tuple hq
  obtain⟨f0,f1,f2,f3,f4,f5⟩:=hf it (by simp)
  have hl:=rv.length
  exact wpAny_pyNext_tuple_end (I.ok.hd hc) st (show s.heap.IsTuple a its.toArray from p) (by simp;omega) fun h' eb=>⟨rfl,I.turned (t':=s.toks) (fun b o hb e=>eb b o hb e) f0 f1 f3 f4 f5⟩
 self:=fun _ _ _ _ _ st h=>wpAny_pyIter_tupleiter st h
theorem fK {P:Program}{w:World}{K:AB}{tg:Expr} (it:Addr) (lo:Int) (n:Nat):Dh P w K tg (Itr lo n) [it] it (fun i h=>IsRangeIter h it (lo+(i:Nat) * 1) ((n:Int) - (i:Nat)) 1) where
 mem:=by simp
 obj:=fun i h st b hb=>by
  have e:b=it:=by simpa using hb
  subst e
  exact⟨_,st,fun v z=>by
   have z':Data.fields _=Data.cell v:=z
   cases z'⟩
 keep:=fun i h h' st k=>k it (by simp) _ st
 item:=by
  intro X hP hw hK hc i pins s σ H E I hf st hg
  subst hP hw hK
  obtain⟨f0,f1,f2,f3,f4,f5⟩:=hf it (by simp)
  have W:=Walks.range (prog:=X.prog) (w:=X.w) (I.ok.hd hc) it lo 1 n
  refine W.item i s _ _ hg st fun v h' tk hv st' kk=>?_
  obtain⟨t,rfl⟩:=hv
  have I1:Inv X pins σ H { s with heap:=h',toks:=tk }:=I.turned (fun b o hb e=>kk b o (by simpa using hb) e) f0 f1 f3 f4 f5
  refine⟨_,rfl,FH (s:={ s with heap:=h',toks:=tk }) (n:="range_iterator") st' rfl rfl (by decide) ⟨.int (lo+i),H,I1,⟨t,?_⟩,⟨rfl,rfl⟩,st',fun b hb=>(hf b hb).1⟩⟩
  rw[Int.mul_one]
 done:=by
  intro X hP hw hK hc i pins s σ H E I hf st hg
  subst hP hw hK
  obtain⟨f0,f1,f2,f3,f4,f5⟩:=hf it (by simp)
  exact X6 (I.ok.hd hc) st (by have:n≤i:=hg;omega) fun h' eb=>⟨rfl,I.turned (t':=s.toks) (fun b o hb e=>eb b o hb e) f0 f1 f3 f4 f5⟩
 self:=fun _ _ _ _ _ st h=>X4 st h
end L2
namespace L2
open PySem PySem.Spec PyProof.Rows
section
variable {X:Cx}{tg:Expr}
def Rg (K:AB) (tl:TE):TI:=fun σ H R=>tl σ H fun x H1=>∃a,x=.ref a∧(∃xs,SqL K H1 a xs)∧R (Itl K a) H1
def Ms (K:AB) (tl:TE):TI:=fun σ H R=>tl σ H fun x H1=>∃a,x=.ref a∧(∃xs,SqT K H1 a xs)∧R (Itt K a) H1
theorem Cy {l:Expr}{tl:TE} (hl:PE X l tl):PI X tg l (Rg X.K tl):=by
 intro pins s σ H R I h
 refine thn (hl pins s σ H _ I h) fun v s1 ⟨x,H1,I1,r1,q1⟩=>?_
 obtain⟨a,e,⟨xs,hq⟩,q⟩:=q1
 subst e
 cases r1
 obtain⟨its,rv,p,hz⟩:=I1.list hq
 refine Pz p.isList ?_
 refine⟨s1.heap.objs.size,[s1.heap.objs.size],_,_,H1,rfl,I1.kept (t':=s1.toks) fun b o e=>A2 _ e,fJ a _,⟨_,BH _ rfl,rfl,rfl⟩,fun b hb=>?_,q⟩
 have e:b=s1.heap.objs.size:=by simpa using hb
 subst e
 exact I1.fpOk (AO _) (I1.hok.fresh (AO _))
theorem br {l:Expr}{tl:TE} (hl:PE X l tl):PI X tg l (Ms X.K tl):=by
 intro pins s σ H R I h
 refine thn (hl pins s σ H _ I h) fun v s1 ⟨x,H1,I1,r1,q1⟩=>?_
 obtain⟨a,e,⟨xs,hq⟩,q⟩:=q1
 subst e
 cases r1
 obtain⟨its,rv,p,hz⟩:=I1.tuple hq
 refine Lx (show s1.heap.IsTuple a its.toArray from p) ?_
 refine⟨s1.heap.objs.size,[s1.heap.objs.size],_,_,H1,rfl,I1.kept (t':=s1.toks) fun b o e=>A2 _ e,fO a _,⟨_,BH _ rfl,rfl,rfl⟩,fun b hb=>?_,q⟩
 have e:b=s1.heap.objs.size:=by simpa using hb
 subst e
 exact I1.fpOk (AO _) (I1.hok.fresh (AO _))
theorem cV {pins:List (Addr×Obj)}{σ:St}{H:Hp}{s:Shared}{R:It→Hp→Prop}{E:Value→Shared→Prop}{lo hi:Int}{t u v:Tok}{tk:Nat} (I:Inv X pins σ H s) (h1:-(2 ^ 62)≤lo) (h2:lo < 2 ^ 62) (h3:-(2 ^ 62)≤hi) (h4:hi < 2 ^ 62)
  (q:R (Itr lo (hi - lo).toNat) H):wpAny (model X.prog X.w) X.A (pyIter (.ref s.heap.objs.size)) (PIE X pins σ tg R) E { s with heap:=s.heap.push { cls:=.type "range",data:=.fields #[.int lo t,.int hi u,.int 1 v] },toks:=tk }:=by
 refine X3 (IsRange.new ..) (small_one h1 h2 h3 h4) ?_
 have I1:Inv X pins σ H { s with heap:=s.heap.push { cls:=.type "range",data:=.fields #[.int lo t,.int hi u,.int 1 v] },toks:=tk }:=I.kept fun b o e=>A2 _ e
 refine⟨(s.heap.push { cls:=.type "range",data:=.fields #[.int lo t,.int hi u,.int 1 v] }).objs.size,[(s.heap.push { cls:=.type "range",data:=.fields #[.int lo t,.int hi u,.int 1 v] }).objs.size],_,_,H,rfl,
  I1.kept (t':=tk) fun b o e=>A2 _ e,fK _ lo (hi - lo).toNat,?_,fun b hb=>?_,q⟩
 ·have e1:lo+((0:Nat):Int) * 1=lo:=by simp
  have e2:(((hi - lo).toNat:Nat):Int) - ((0:Nat):Int)=PM lo hi 1:=by rw[rangeSize_one];split <;> omega
  show IsRangeIter _ _ (lo+((0:Nat):Int) * 1) ((((hi - lo).toNat:Nat):Int) - ((0:Nat):Int)) 1
  rw[e1,e2]
  exact BH _ rfl
 ·have e:b=(s.heap.push { cls:=.type "range",data:=.fields #[.int lo t,.int hi u,.int 1 v] }).objs.size:=by simpa using hb
  subst e
  exact I1.fpOk (AO _) (I1.hok.fresh (AO _))
def Zh (ta:TA):TI:=fun σ H R=>ta σ H fun vs H1=>∃j:Int,vs=[.int j]∧-(2 ^ 62)≤j∧j < 2 ^ 62∧R (Itr 0 j.toNat) H1
theorem Sx {a:Expr}{ta:TA}{p pos:Pos} (hg:Gl X "range") (hm:X.mg "range"=none) (ha:PA X [a] ta) (hs:starEach [a] X.env=[(false,eval a X.env)]:=by rfl):PI X tg (.Call (.Name "range" p) [a] [] pos) (Zh ta):=by
 intro pins s σ H R I h
 refine Call_ (Er I hg hm boot_range (Fq (thn (ha pos pins s σ H _ I h) fun us s1 ⟨vs,H1,I1,r1,q1⟩=>?_) hs rfl))
 obtain⟨j,e,q1,q2,q⟩:=q1
 subst e
 cases r1 with
 | cons r rr =>
  cases rr
  obtain⟨t,rfl⟩:=r
  exact call_range_1 (cV I1 (by omega) (by omega) q1 q2 (by simpa using q))
def eV (wi:TI) (g:TG) (tb:TS):TS:=fun D σ H=>wi σ H fun J H1=>∃W:Nat→Nat→St→Hp→Prop,(∃m,W 0 m σ H1)∧∀i m σ H,W i m σ H→
 (J.stop i H∧D.nx σ H)∨(J.go i H∧∃N:St→Hp→Prop,(∀σ' H',N σ' H'→∃m',m' < m∧W (i+1) m' σ' H')∧∀x H',J.yld i H x H'→g x σ H' fun σ2 H2=>tb { D with nx:=N,ct:=N,bk:=D.nx } σ2 H2)
def IY (fp:List Addr) (h:Heap):List (Addr×Obj):=fp.filterMap fun b=>(h.get? b).map fun o=>(b,o)
theorem NC {fp:List Addr}{h:Heap}{b:Addr}{o:Obj} (hb:b∈fp) (e:h.get? b=some o):(b,o)∈IY fp h:=Wm.mpr ⟨b,hb,by rw[e];rfl⟩
theorem bB {fp:List Addr}{h:Heap}{p:Addr×Obj} (hp:p∈IY fp h):p.1∈fp∧h.get? p.1=some p.2:=by
 obtain⟨b,hb,e⟩:=Wm.mp hp
 cases q:h.get? b with
 | none=>rw[q] at e;cases e
 | some o =>
  rw[q] at e
  have e':(b,o)=p:=AV e
  subst e'
  exact⟨hb,q⟩
theorem Inv.pinned {pins:List (Addr×Obj)}{σ:St}{H:Hp}{s:Shared}{fp:List Addr} (I:Inv X pins σ H s) (hf:∀b∈fp,D9 X pins H b) (ho:∀b∈fp,∃o,s.heap.get? b=some o∧∀v,o.data≠.cell v):Inv X (pins++IY fp s.heap) σ H s :=
 I.pins_of fun p hp=>(Ce.mp hp).elim (fun z=>I.pin p (E6 _ z)) fun z=>by
  obtain⟨hb,e⟩:=bB z
  obtain⟨f0,f1,f2,_⟩:=hf p.1 hb
  obtain⟨o,e',d⟩:=ho p.1 hb
  rw[e] at e';cases e'
  exact⟨e,f0,f1,f2,d⟩
theorem Inv.unpinned {pins pl:List (Addr×Obj)}{σ:St}{H:Hp}{s:Shared} (I:Inv X (pins++pl) σ H s):Inv X pins σ H s:=I.pins_of fun p hp=>I.pin p (E6 _ (JD _ hp))
theorem Ds {iter:Expr}{body:List Stmt}{wi:TI}{g:TG}{tb:TS}{pos:Pos} (hp:PassesOwn (model X.prog X.w) X.A X.env X.xe) (hc:X.calm=true) (hi:PI X tg iter wi) (hg:PG X tg g) (hb:PSs X body tb)
  (hs:∀x,foldedSetIterable iter X.env x=pure x:=by intro _;rfl):PS X (.For tg iter body [] pos) (eV wi g tb):=by
 intro pins s σ H D I h
 refine wpAny_For (thn (hi pins s σ H _ I h) fun v s1 h1=>thn h1 fun itv s2 h2=>?_) hs
 obtain⟨it,fp,tn,J,H2,e,I2,T,st2,f2,W,⟨m0,w0⟩,turn⟩:=h2
 subst e
 have stat:∀{H':Hp},(∀b∈fp,H' b=none)→∀b∈fp,D9 X pins H' b:=fun hn b hb=>⟨hn b hb,(f2 b hb).2⟩
 refine codeAny_forLoop_any (fun n s'=>∃i σ' H',Inv X pins σ' H' s'∧tn i s'.heap∧(∀b∈fp,H' b=none)∧W i n σ' H') ?_ m0 ⟨0,σ,H2,I2,st2,fun b hb=>(f2 b hb).1,w0⟩
 rintro n s3 ⟨i,σ3,H3,I3,st3,fr3,w3⟩
 rcases turn i n σ3 H3 w3 with ⟨stop,qn⟩ | ⟨go,N,hN,step⟩
 ·refine JT hp (thn (T.done X rfl rfl rfl hc i pins s3 σ3 H3 X.xe I3 (stat fr3) st3 stop) fun r s4 ⟨hr,I4⟩=>?_)
  subst hr
  exact Px ⟨σ3,H3,I4,qn⟩
 ·refine JT hp (thn (T.item X rfl rfl rfl hc i pins s3 σ3 H3 X.xe I3 (stat fr3) st3 go) fun r s4 ⟨u,hr,h4⟩=>?_)
  subst hr
  refine JT hp (thn h4 fun _ s5 ⟨x,H5,I5,r5,y5,st5,fr5⟩=>?_)
  have I5':=I5.pinned (stat fr5) (T.obj _ _ st5)
  refine JT hp (thn (hg _ s5 σ3 H5 x u _ I5' r5 (step x H5 y5)) fun _ s6 ⟨σ6,H6,I6,q6⟩=>?_)
  refine JT hp (thn (hb _ s6 σ6 H6 _ I6 q6) fun f s7 q7=>?_)
  have again:∀{σ7:St} {H7:Hp},Inv X (pins++IY fp s5.heap) σ7 H7 s7→N σ7 H7→∃m,m < n∧∃i σ' H',Inv X pins σ' H' s7∧tn i s7.heap∧(∀b∈fp,H' b=none)∧W i m σ' H':=fun {σ7 H7} I7 n7=>by
   obtain⟨m',hm,w7⟩:=hN σ7 H7 n7
   refine⟨m',hm,i+1,σ7,H7,I7.unpinned,T.keep _ _ _ st5 fun b hb o e=>(I7.pin (b,o) (E6 _ (E6 _ (NC hb e)))).1,fun b hb=>?_,w7⟩
   obtain⟨o,e,d⟩:=T.obj _ _ st5 b hb
   exact(I7.pin (b,o) (E6 _ (E6 _ (NC hb e)))).2.1
  cases f with
  | next=>obtain⟨σ7,H7,I7,n7⟩:=q7;exact again I7 n7
  | cont=>obtain⟨σ7,H7,I7,n7⟩:=q7;exact again I7 n7
  | brk=>obtain⟨σ7,H7,I7,q7⟩:=q7;exact⟨σ7,H7,I7.unpinned,q7⟩
  | ret v=>obtain⟨x7,σ7,H7,I7,r7,q7⟩:=q7;exact⟨x7,σ7,H7,I7.unpinned,r7,q7⟩
end
theorem J4 {K:AB}{a:Addr}{xs:List V}{g:TG}{tb:TS}{D:F1}{σ:St}{H:Hp} (Pv:Nat→St→Hp→Prop) (h0:Pv 0 σ H) (hl:∀i σ H,i≤xs.length→Pv i σ H→SqL K H a xs)
  (hs:∀i x σ H,xs[i]?=some x→Pv i σ H→g x σ H fun σ2 H2=>tb { D with nx:=Pv (i+1),ct:=Pv (i+1),bk:=D.nx } σ2 H2) (hd:∀σ H,Pv xs.length σ H→D.nx σ H):
  ∃W:Nat→Nat→St→Hp→Prop,(∃m,W 0 m σ H)∧∀i m σ H,W i m σ H→
   ((Itl K a).stop i H∧D.nx σ H)∨((Itl K a).go i H∧∃N:St→Hp→Prop,(∀σ' H',N σ' H'→∃m',m' < m∧W (i+1) m' σ' H')∧∀x H',(Itl K a).yld i H x H'→g x σ H' fun σ2 H2=>tb { D with nx:=N,ct:=N,bk:=D.nx } σ2 H2):=by
 refine⟨fun i m σ H=>m=xs.length - i∧i≤xs.length∧Pv i σ H,⟨xs.length,by simp,Au _,h0⟩,?_⟩
 rintro i m σ H ⟨rfl,hi,p⟩
 have q:=hl i σ H hi p
 by_cases hlt:i < xs.length
 ·refine .inr ⟨⟨xs,xs[i],q,by simp[hlt]⟩,Pv (i+1),fun σ' H' p'=>⟨xs.length - (i+1),by omega,rfl,hlt,p'⟩,fun x H' y=>?_⟩
  obtain⟨e,y⟩:=y
  subst e
  exact hs i x σ _ (y xs q) p
 ·have e:i=xs.length:=by omega
  subst e
  exact .inl ⟨⟨xs,q,AO _⟩,hd σ H p⟩
end L2
namespace L2
open PySem PySem.Spec PyProof.Rows
abbrev R2:=V→V→Hp→VK→Prop
def OpR (X:Cx) (f:Value→Value→Sem Value) (r:R2):Prop :=
 ∀(pins:List (Addr×Obj)) (s:Shared) (σ:St) (H:Hp) (x y:V) (v u:Value) (Q:VK),Inv X pins σ H s→RelV x v→RelV y u→r x y H Q→
  wpAny (model X.prog X.w) X.A (f v u) (EP X pins σ Q) X.xe s
def UnR (X:Cx) (f:Value→Sem Value) (r:V→Hp→VK→Prop):Prop :=
 ∀(pins:List (Addr×Obj)) (s:Shared) (σ:St) (H:Hp) (x:V) (v:Value) (Q:VK),Inv X pins σ H s→RelV x v→r x H Q→
  wpAny (model X.prog X.w) X.A (f v) (EP X pins σ Q) X.xe s
def EO (X:Cx) (f:Value) (r:List V→Hp→VK→Prop):Prop :=
 ∀(pins:List (Addr×Obj)) (s:Shared) (σ:St) (H:Hp) (xs:List V) (us:List Value) (Q:VK),Inv X pins σ H s→Vals xs us→r xs H Q→
  wpAny (model X.prog X.w) X.A (call f us) (EP X pins σ Q) X.xe s
def tOp (r:R2) (ta tb:TE):TE:=fun σ H Q=>ta σ H fun x H1=>tb σ H1 fun y H2=>r x y H2 Q
def tUn (r:V→Hp→VK→Prop) (ta:TE):TE:=fun σ H Q=>ta σ H fun x H1=>r x H1 Q
def rI (C:Int→Int→Prop) (g:Int→Int→V):R2:=fun x y H Q=>∃i j,x=.int i∧y=.int j∧C i j∧Q (g i j) H
def rI0 (g:Int→Int→V):R2:=fun x y H Q=>∃i j,x=.int i∧y=.int j∧Q (g i j) H
def rU (g:Int→V):V→Hp→VK→Prop:=fun x H Q=>∃i,x=.int i∧Q (g i) H
section
variable {X:Cx}{a b c:Expr}{ta tb tc:TE}{pos:Pos}
theorem MO (ha:PE X a ta) (hb:PE X b tb) {pins:List (Addr×Obj)}{s:Shared}{σ:St}{H:Hp}{R:V→V→Hp→Prop} (I:Inv X pins σ H s)
  (h:ta σ H fun x H1=>tb σ H1 fun y H2=>R x y H2) {Q:Value→Shared→Prop} {f:Value→Value→Sem Value}
  (hf:∀v u s2 x y H2,Inv X pins σ H2 s2→RelV x v→RelV y u→R x y H2→wpAny (model X.prog X.w) X.A (f v u) Q X.xe s2):
  wpAny (model X.prog X.w) X.A (eval a X.env) (fun v s₁=>wpAny (model X.prog X.w) X.A (eval b X.env) (fun u s₂=>wpAny (model X.prog X.w) X.A (f v u) Q X.xe s₂) X.xe s₁) X.xe s:=by
 refine thn (ha pins s σ H _ I h) fun v s1 ⟨x,H1,I1,r1,q1⟩=>?_
 refine thn (hb pins s1 σ H1 _ I1 q1) fun u s2 ⟨y,H2,I2,r2,q2⟩=>?_
 exact hf v u s2 x y H2 I2 r1 r2 q2
theorem DB {op:Operator}{r:R2} (ho:OpR X (binaryOp op) r) (ha:PE X a ta) (hb:PE X b tb):PE X (.BinOp a op b pos) (tOp r ta tb):=by
 intro pins s σ H Q I h
 exact wpAny_BinOp (MO ha hb I h fun v u s2 x y H2 I2 rx ry q=>ho pins s2 σ H2 x y v u Q I2 rx ry q)
theorem HE {op:UnaryOp}{r:V→Hp→VK→Prop} (ho:UnR X (unaryOp op) r) (ha:PE X a ta):PE X (.UnaryOp op a pos) (tUn r ta):=by
 intro pins s σ H Q I h
 exact UnaryOp_ (thn (ha pins s σ H _ I h) fun v s1 ⟨x,H1,I1,r1,q1⟩=>ho pins s1 σ H1 x v Q I1 r1 q1)
theorem opI {f:Value→Value→Sem Value}{C:Int→Int→Prop}{g:Int→Int→Int}
  (rule:∀(i j:Int) (t u:Tok) (s:Shared) (Q:Value→Shared→Prop) (E:Value→Shared→Prop),C i j→Q (.int (g i j) s.toks) { s with toks:=s.toks+1 }→wpAny (model X.prog X.w) X.A (f (.int i t) (.int j u)) Q E s):
  OpR X f (rI C fun i j=>.int (g i j)):=by
 intro pins s σ H x y v u Q I rx ry h
 obtain⟨i,j,rfl,rfl,hc,q⟩:=h
 obtain⟨t,rfl⟩:=rx
 obtain⟨t',rfl⟩:=ry
 exact rule i j t t' s _ _ hc ⟨.int (g i j),H,I.tok _,⟨_,rfl⟩,q⟩
theorem Se {f:Value→Value→Sem Value}{g:Int→Int→Int}
  (rule:∀(i j:Int) (t u:Tok) (s:Shared) (Q:Value→Shared→Prop) (E:Value→Shared→Prop),Q (.int (g i j) s.toks) { s with toks:=s.toks+1 }→wpAny (model X.prog X.w) X.A (f (.int i t) (.int j u)) Q E s):
  OpR X f (rI0 fun i j=>.int (g i j)):=by
 intro pins s σ H x y v u Q I rx ry h
 obtain⟨i,j,rfl,rfl,q⟩:=h
 obtain⟨t,rfl⟩:=rx
 obtain⟨t',rfl⟩:=ry
 exact rule i j t t' s _ _ ⟨.int (g i j),H,I.tok _,⟨_,rfl⟩,q⟩
theorem KW {f:Value→Value→Sem Value}{g:Int→Int→Bool}
  (rule:∀(i j:Int) (t u:Tok) (s:Shared) (Q:Value→Shared→Prop) (E:Value→Shared→Prop),Q (.bool (g i j)) s→wpAny (model X.prog X.w) X.A (f (.int i t) (.int j u)) Q E s):
  OpR X f (rI0 fun i j=>.bl (g i j)):=by
 intro pins s σ H x y v u Q I rx ry h
 obtain⟨i,j,rfl,rfl,q⟩:=h
 obtain⟨t,rfl⟩:=rx
 obtain⟨t',rfl⟩:=ry
 exact rule i j t t' s _ _ ⟨.bl (g i j),H,I,rfl,q⟩
def YB (i j:Int):Prop:=0 < j∧j < 1073741824
def CMul (i j:Int):Prop:=(-(2 ^ 64) < i∧i < 2 ^ 64)∨(-(2 ^ 64) < j∧j < 2 ^ 64)
theorem CMul.ok {i j:Int} (h:CMul i j):IntMulOk i j:=by
 rcases h with ⟨h1,h2⟩ | ⟨h1,h2⟩
 ·exact .of_left (intBits_le_64 h1 h2)
 ·exact .of_right (intBits_le_64 h1 h2)
theorem KY:OpR X (binaryOp .Add) (rI0 fun i j=>.int (i+j)):=Se fun _ _ _ _ _ _ _ q=>add_int q
theorem NV:OpR X (binaryOp .Sub) (rI0 fun i j=>.int (i - j)):=Se fun _ _ _ _ _ _ _ q=>sub_int q
theorem bK:OpR X (binaryOp .Mult) (rI CMul fun i j=>.int (i * j)):=opI fun _ _ _ _ _ _ _ hc q=>mul_int q hc.ok
theorem Sf:OpR X (binaryOp .FloorDiv) (rI YB fun i j=>.int (i / j)):=opI fun i j _ _ _ _ _ hc q=>by
 have h1:(0:Int) < j:=hc.1
 have h2:j < 1073741824:=hc.2
 exact floordiv_int (by omega) (by rw[Int.fdiv_eq_ediv_of_nonneg i (by omega)];exact q) (.inl (W2 (by omega)))
theorem bJ:OpR X (binaryOp .Mod) (rI (fun _ j=>0 < j) fun i j=>.int (i % j)):=opI fun i j _ _ _ _ _ hc q=>by
 have h1:(0:Int) < j:=hc
 exact mod_int' (by omega) (by rw[Int.fmod_eq_emod_of_nonneg i (by omega)];exact q)
theorem unI {f:Value→Sem Value}{g:Int→Int}
  (rule:∀(i:Int) (t:Tok) (s:Shared) (Q:Value→Shared→Prop) (E:Value→Shared→Prop),Q (.int (g i) s.toks) { s with toks:=s.toks+1 }→wpAny (model X.prog X.w) X.A (f (.int i t)) Q E s):
  UnR X f (rU fun i=>.int (g i)):=by
 intro pins s σ H x v Q I rx h
 obtain⟨i,rfl,q⟩:=h
 obtain⟨t,rfl⟩:=rx
 exact rule i t s _ _ ⟨.int (g i),H,I.tok _,⟨_,rfl⟩,q⟩
theorem HQ:UnR X (unaryOp .USub) (rU fun i=>.int (-i)):=unI fun _ _ _ _ _ q=>neg_int q
end
def UP:V→V→Bool
 | .non,.non=>true | .non,.int _=>true | .int _,.non=>true | .non,.bl _=>true | .bl _,.non=>true | .non,.str _=>true | .str _,.non=>true
 | .int _,.int _=>true | .bl _,.bl _=>true | .str _,.str _=>true | .byt _,.byt _=>true
 | .int _,.str _=>true | .str _,.int _=>true | .bl _,.str _=>true | .str _,.bl _=>true
 | _,_=>false
def rEq:R2:=fun x y H Q=>UP x y=true∧Q (.bl (decide (x=y))) H
def rNe:R2:=fun x y H Q=>UP x y=true∧Q (.bl (!decide (x=y))) H
theorem Qj {i j:Int}:decide (V.int i=V.int j)=(i==j):=by
 rw[C5]
 simp
theorem Qh {i j:Bool}:decide (V.bl i=V.bl j)=(i==j):=by
 rw[C5]
 simp
theorem Qk {i j:Str}:decide (V.str i=V.str j)=(i==j):=by
 rw[C5]
 simp
theorem Qi {i j:Array UInt8}:decide (V.byt i=V.byt j)=(i.toList==j.toList):=by
 rw[C5]
 cases i
 cases j
 simp
section
variable {X:Cx}{a b c:Expr}{ta tb tc:TE}{pos:Pos}
theorem BI {pins:List (Addr×Obj)}{σ:St}{H:Hp}{s:Shared}{Q:VK}{k k':Bool} (I:Inv X pins σ H s) (q:Q (.bl k) H) (e:k=k'):EP X pins σ Q (.bool k') s:=by
 subst e
 exact⟨.bl k,H,I,rfl,q⟩
theorem Ba:OpR X (compareOp .Eq) rEq:=by
 intro pins s σ H x y v u Q I rx ry h
 obtain⟨hs,q⟩:=h
 cases x with
 | non =>
  cases rx
  cases y with
  | non=>cases ry;exact PySem.EqNone.eq_none_none (BI I q (by simp))
  | bl j=>cases ry;exact PySem.EqNone.eq_none_bool (BI I q (by simp))
  | int j=>obtain⟨t',rfl⟩:=ry;exact PySem.EqNone.eq_none_int (BI I q (by simp))
  | str j=>obtain⟨t',rfl⟩:=ry;exact PySem.EqNone.eq_none_str (BI I q (by simp))
  | _=>exact absurd (show false=true from hs) Aj
 | bl i =>
  cases rx
  cases y with
  | non=>cases ry;exact PySem.EqNone.eq_bool_none (BI I q (by simp))
  | bl j=>cases ry;exact eq_bool (BI I q Qh)
  | str j=>obtain⟨t',rfl⟩:=ry;exact PySem.EqMixed.eq_bool_str (BI I q (by simp))
  | _=>exact absurd (show false=true from hs) Aj
 | int i =>
  obtain⟨t,rfl⟩:=rx
  cases y with
  | non=>cases ry;exact PySem.EqNone.eq_int_none (BI I q (by simp))
  | int j=>obtain⟨t',rfl⟩:=ry;exact eq_int (BI I q Qj)
  | str j=>obtain⟨t',rfl⟩:=ry;exact PySem.EqMixed.eq_int_str (BI I q (by simp))
  | _=>exact absurd (show false=true from hs) Aj
 | str i =>
  obtain⟨t,rfl⟩:=rx
  cases y with
  | non=>cases ry;exact PySem.EqNone.eq_str_none (BI I q (by simp))
  | bl j=>cases ry;exact PySem.EqMixed.eq_str_bool (BI I q (by simp))
  | int j=>obtain⟨t',rfl⟩:=ry;exact PySem.EqMixed.eq_str_int (BI I q (by simp))
  | str j=>obtain⟨t',rfl⟩:=ry;exact eq_str (BI I q Qk)
  | _=>exact absurd (show false=true from hs) Aj
 | byt i =>
  obtain⟨t,rfl⟩:=rx
  cases y with
  | byt j=>obtain⟨t',rfl⟩:=ry;exact PySem.W.eq_bytes (BI I q Qi)
  | _=>exact absurd (show false=true from hs) Aj
 | _=>cases y <;> exact absurd (show false=true from hs) Aj
theorem Ka:OpR X (compareOp .NotEq) rNe:=by
 intro pins s σ H x y v u Q I rx ry h
 obtain⟨hs,q⟩:=h
 cases x with
 | non =>
  cases rx
  cases y with
  | non=>cases ry;exact PySem.EqNone.ne_none_none (BI I q (by simp))
  | bl j=>cases ry;exact PySem.EqNone.ne_none_bool (BI I q (by simp))
  | int j=>obtain⟨t',rfl⟩:=ry;exact PySem.EqNone.ne_none_int (BI I q (by simp))
  | str j=>obtain⟨t',rfl⟩:=ry;exact PySem.EqNone.ne_none_str (BI I q (by simp))
  | _=>exact absurd (show false=true from hs) Aj
 | bl i =>
  cases rx
  cases y with
  | non=>cases ry;exact PySem.EqNone.ne_bool_none (BI I q (by simp))
  | bl j=>cases ry;exact ne_bool (BI I q (congrArg not Qh))
  | str j=>obtain⟨t',rfl⟩:=ry;exact PySem.EqMixed.ne_bool_str (BI I q (by simp))
  | _=>exact absurd (show false=true from hs) Aj
 | int i =>
  obtain⟨t,rfl⟩:=rx
  cases y with
  | non=>cases ry;exact PySem.EqNone.ne_int_none (BI I q (by simp))
  | int j=>obtain⟨t',rfl⟩:=ry;exact ne_int (BI I q (congrArg not Qj))
  | str j=>obtain⟨t',rfl⟩:=ry;exact PySem.EqMixed.ne_int_str (BI I q (by simp))
  | _=>exact absurd (show false=true from hs) Aj
 | str i =>
  obtain⟨t,rfl⟩:=rx
  cases y with
  | non=>cases ry;exact PySem.EqNone.ne_str_none (BI I q (by simp))
  | bl j=>cases ry;exact PySem.EqMixed.ne_str_bool (BI I q (by simp))
  | int j=>obtain⟨t',rfl⟩:=ry;exact PySem.EqMixed.ne_str_int (BI I q (by simp))
  | str j=>obtain⟨t',rfl⟩:=ry;exact ne_str (BI I q (congrArg not Qk))
  | _=>exact absurd (show false=true from hs) Aj
 | byt i =>
  obtain⟨t,rfl⟩:=rx
  cases y with
  | byt j=>obtain⟨t',rfl⟩:=ry;exact PySem.W.ne_bytes (BI I q (congrArg not Qi))
  | _=>exact absurd (show false=true from hs) Aj
 | _=>cases y <;> exact absurd (show false=true from hs) Aj
theorem KZ:OpR X (compareOp .Lt) (rI0 fun i j=>.bl (decide (i < j))):=KW fun _ _ _ _ _ _ _ q=>lt_int q
theorem Cg:OpR X (compareOp .LtE) (rI0 fun i j=>.bl (decide (i≤j))):=KW fun _ _ _ _ _ _ _ q=>le_int q
theorem HA:OpR X (compareOp .Gt) (rI0 fun i j=>.bl (decide (j < i))):=KW fun _ _ _ _ _ _ _ q=>gt_int q
theorem bG:OpR X (compareOp .GtE) (rI0 fun i j=>.bl (decide (j≤i))):=KW fun _ _ _ _ _ _ _ q=>ge_int q
theorem Sh:OpR X (compareOp .Is) (fun x y H Q=>y=.non∧Q (.bl (decide (x=.non))) H):=by
 intro pins s σ H x y v u Q I rx ry h
 obtain⟨rfl,q⟩:=h
 cases ry
 refine is_none_gen (BI I q ?_)
 cases x <;> first
  | (cases rx;rfl)
  | (obtain⟨t,rfl⟩:=rx;rfl)
theorem Ac (b:Expr) {op:CmpOp} (h:op≠.In:=by decide) (h2:op≠.NotIn:=by decide):behindInMarks op b=false:=by
 have e1:(op==CmpOp.In)=false:=by cases op <;> first | rfl | exact absurd rfl h
 have e2:(op==CmpOp.NotIn)=false:=by cases op <;> first | rfl | exact absurd rfl h2
 cases b <;> simp[behindInMarks,e1,e2]
theorem Dm {op:CmpOp}{r:R2} (ho:OpR X (compareOp op) r) (ha:PE X a ta) (hb:PE X b tb) (hm:behindInMarks op b=false):PE X (.Compare a [op] [b] pos) (tOp r ta tb):=by
 intro pins s σ H Q I h
 exact wpAny_Compare1 (MO ha hb I h fun v u s2 x y H2 I2 rx ry q=>ho pins s2 σ H2 x y v u Q I2 rx ry q) hm
def OI (t:TE):TT:=fun σ H Q=>t σ H fun x H'=>∃k,x=.bl k∧Q k H'
theorem Ag {op:CmpOp}{r:R2} (ho:OpR X (compareOp op) r) (ha:PE X a ta) (hb:PE X b tb) (hm:behindInMarks op b=false):PT X (.Compare a [op] [b] pos) (OI (tOp r ta tb)):=by
 intro pins s σ H Q I h
 refine X1 (thn (ha pins s σ H _ I h) fun v s1 ⟨x,H1,I1,r1,q1⟩=>thn (hb pins s1 σ H1 _ I1 q1) fun u s2 ⟨y,H2,I2,r2,q2⟩ =>
  thn (ho pins s2 σ H2 x y v u _ I2 r1 r2 q2) fun c s3 ⟨z,H3,I3,r3,k,e,q3⟩=>?_) hm
 subst e
 cases r3
 exact EN ⟨H3,I3,q3⟩
def OE (r r':R2) (ta tb tc:TE):TE:=fun σ H Q=>ta σ H fun x H1=>tb σ H1 fun y H2=>r x y H2 fun z H3=>∃k,z=.bl k∧
 (if k=true then tc σ H3 fun w' H4=>r' y w' H4 Q else Q (.bl false) H3)
theorem HC {op op':CmpOp}{r r':R2} (ho:OpR X (compareOp op) r) (ho':OpR X (compareOp op') r') (ha:PE X a ta) (hb:PE X b tb) (hc:PE X c tc)
  (hm:lastMarks [op,op'] [b,c]=false:=by with_unfolding_all rfl):PE X (.Compare a [op,op'] [b,c] pos) (OE r r' ta tb tc):=by
 intro pins s σ H Q I h
 refine Compare_chain (thn (ha pins s σ H _ I h) fun v s1 ⟨x,H1,I1,r1,q1⟩=>chain_link (thn (hb pins s1 σ H1 _ I1 q1) fun u s2 ⟨y,H2,I2,r2,q2⟩ =>
  thn (ho pins s2 σ H2 x y v u _ I2 r1 r2 q2) fun d s3 ⟨z,H3,I3,r3,k,e,q3⟩=>?_)) hm
 subst e
 cases r3
 refine EN ?_
 cases k with
 | false=>exact ite_ff ⟨.bl false,H3,I3,rfl,q3⟩
 | true=>exact ite_tt (chain_last (thn (hc pins s3 σ H3 _ I3 q3) fun w' s4 ⟨z',H4,I4,r4,q4⟩=>ho' pins s4 σ H4 y z' u w' Q I4 r2 r4 q4))
theorem bz {op op':CmpOp}{r r':R2} (ho:OpR X (compareOp op) r) (ho':OpR X (compareOp op') r') (ha:PE X a ta) (hb:PE X b tb) (hc:PE X c tc)
  (hm:lastMarks [op,op'] [b,c]=false:=by with_unfolding_all rfl):PT X (.Compare a [op,op'] [b,c] pos) (OI (OE r r' ta tb tc)):=by
 intro pins s σ H Q I h
 refine isTrue_chain (thn (ha pins s σ H _ I h) fun v s1 ⟨x,H1,I1,r1,q1⟩=>test_link (thn (hb pins s1 σ H1 _ I1 q1) fun u s2 ⟨y,H2,I2,r2,q2⟩ =>
  thn (ho pins s2 σ H2 x y v u _ I2 r1 r2 q2) fun d s3 ⟨z,H3,I3,r3,k,e,q3⟩=>?_)) hm
 subst e
 cases r3
 refine EN ?_
 cases k with
 | false =>
  obtain⟨k',e',q'⟩:=q3
  cases e'
  exact ite_ff ⟨H3,I3,q'⟩
 | true =>
  refine ite_tt (test_last (thn (hc pins s3 σ H3 _ I3 q3) fun w' s4 ⟨z',H4,I4,r4,q4⟩=>thn (ho' pins s4 σ H4 y z' u w' _ I4 r2 r4 q4) fun d' s5 ⟨z2,H5,I5,r5,k2,e2,q5⟩=>?_))
  subst e2
  cases r5
  exact EN ⟨H5,I5,q5⟩
theorem R7:(sizeLine:Nat) < 2 ^ 63:=by rw[JQ];decide
theorem Ii {x:V}{us:List Value} (r:Vals [x] us):∃u,us=[u]∧RelV x u:=by
 cases r with
 | cons r1 r2=>cases r2;exact⟨_,rfl,r1⟩
theorem Gz:EO X (.builtin "ord") (fun xs H Q=>∃x,xs=[.str x]∧x.length=1∧Q (.int (x.cps.getD 0 0:Nat)) H):=by
 intro pins s σ H xs us Q I r h
 obtain⟨x,rfl,hz,q⟩:=h
 obtain⟨u,rfl,t,rfl⟩:=Ii r
 exact ord_of_one hz ⟨.int _,H,I.tok _,⟨_,rfl⟩,q⟩
end
end L2
namespace L2
open PySem PySem.Spec PyProof.Rows
structure ObjM (h:Heap) (x dx C:Addr) (mA:Str→Option Value):Prop where
 obj:h.get? x=some (Fv C dx)
 ns:h.Ns1 dx mA
 ne:dx≠x
theorem aF {h:Heap}{dx:Addr}{mA:Str→Option Value} (n:h.Ns1 dx mA):∃od,h.get? dx=some od∧∀name,Pf name od=some (mA name):=by
 obtain⟨o,es,ep,ho,hd,hk,_,hm⟩:=n
 refine⟨o,ho,fun name=>?_⟩
 have e:=hm name
 unfold nsFind findBy at e
 rw[← Array.find?_toList] at e
 unfold Pf
 rw[hd]
 dsimp only
 split
 ·rename_i y q
  rw[q] at e
  exact congrArg some e
 ·rename_i q
  rw[q] at e
  have a:es.toList.any (·.refKey)=false:=by
   rw[EL]
   intro y hy
   obtain⟨z,t,hkey⟩:=hk y (Array.mem_toList_iff.mp hy)
   simp[DictEntry.refKey,hkey]
  have a':¬es.toList.any (·.refKey)=true:=by rw[a];exact Aj
  rw[if_neg a']
  exact congrArg some e
theorem ObjM.look {h:Heap}{x dx C:Addr}{mA:Str→Option Value} (I:ObjM h x dx C mA):∃od,PySem.W.InstAt h x (Fv C dx) C (some od)∧∀name,Pf name od=some (mA name) :=
 let ⟨od,ho,hl⟩:=aF I.ns
 ⟨od,⟨I.obj,rfl,rfl,ho⟩,hl⟩
section
variable {prog:Program}{w:World}{A:Around}{E:Value→Shared→Prop}{s:Shared}{K:AB}{x dx C f:Addr}{mA:Str→Option Value}{name:Str}{v:Value}
theorem ZV {expr:Bool}{Q:Value→Shared→Prop} (X:K.In s.heap) (I:ObjM s.heap x dx C mA) (hg:Ph K C name=true) (hh:Pe K C=true)
  (ha:Gi K (.ref C) name=some none) (hv:mA name=some v) (hv':Xl v=true) (h:Q v { s with toks:=s.toks+1 }):
  wpAny (model prog w) A (getAttr (.ref x) name expr) Q E s:=by
 obtain⟨od,J,hl⟩:=I.look
 exact PySem.W.get_value X J (PySem.W.plainGet_of hg).1 (PySem.W.findObj_own hh ha rfl (by rw[hl,hv])) hv' h
theorem dY {ns:List Str}{Q:Unit→Shared→Prop} (X:K.In s.heap) (I:ObjM s.heap x dx C mA)
  (hs:Gi K (.ref C) "__setattr__"=some (some (.builtin "object.__setattr__"))) (hp:Xo K C=true) (ht:Pj K C name=some none) (hh:Pe K C=true)
  (hw:Lq mA ns) (hsz:ns.length≤sizeLine)
  (h:∀h',ObjM h' x dx C (fun y=>if y=name then some v else mA y)→Gg dx s.heap h'→Q () { s with heap:=h',toks:=s.toks+2 }):
  wpAny (model prog w) A (setAttr (.ref x) name v) Q E s:=by
 obtain⟨od,J,hl⟩:=I.look
 refine PySem.W.set_plain X J hs (PySem.W.osa_open (s:={ s with toks:=s.toks+1 }) (r:=none) X J hp ht fun b=>?_)
 obtain⟨cd,hc,hd'⟩:=PySem.W.any_some hh
 have hx:s.heap.get? x=some ⟨.ref C,some dx,.plain,#[]⟩:=I.obj
 refine AE (AL (AE (AE (wpAny_loadPart hx (AE (PySem.W.Looks.here (s:={ s with toks:=s.toks+1 }) (PySem.W.looks_clsIn X hc) ?_))))))
 rw[hd']
 refine AL (a:=some dx) (AE (AL (AE ?_)))
 refine wpAny_nsSet1 (s:={ s with toks:=s.toks+1 }) I.ns fun h' hn2 hs2=>?_
 obtain⟨oD,esD,epD,hoD,hdD,hcD⟩:=hn2.count (Lq.cons name v hw)
 refine AE (wpAny_lookBehind hoD (by rw[hdD];exact pastItsLine_dict (Bp hcD (by rw[A9];omega))) ?_)
 exact AL (h _ ⟨(hs2.2 _ (Af I.ne)).trans I.obj,hn2,I.ne⟩ hs2)
theorem aS {R:Result→Shared→Prop}{vs:List Value}{kw:List (Str×Value)} (X:K.In s.heap) (hm:Xn K C=true)
  (hi:Gi K (.ref C) "__init__"=some (some (.ref f))) (hf:PySem.W.typeIn K (.ref f)=some (.type "function"))
  (h:codeAny (model prog w) (A.under (.builtin "type.__call__" ⟨.ref C::vs,kw⟩)) (.call (.ref f) ⟨.ref (s.heap.objs.size+1)::vs,kw⟩) (PySem.W.InitBack (s.heap.objs.size+1) R)
   { s with heap:=(s.heap.push FC).push (Fv C s.heap.objs.size) }):
  codeAny (model prog w) A (.call (.ref C) ⟨vs,kw⟩) R s:=by
 obtain⟨hh,g,d,t,os⟩:=s
 exact PySem.W.make_core (PySem.W.makes_of X hm) (PySem.W.looks_findIn X hi) (fun self=>PySem.W.bind_fn X self hf) (.inl rfl) h
end
def BK (f:Str) (v:V):List (Str×V)→List (Str×V)
 | []=>[(f,v)]
 | (g,x)::r=>if g=f then (g,v)::r else (g,x)::BK f v r
theorem SF (f g:Str) (v:V):∀fs:List (Str×V),(BK f v fs).lookup g=if g=f then some v else fs.lookup g
 | []=>by
  show Fn g [(f,v)]=_
  by_cases h:g=f
  ·have hb:(g==f)=true:=beq_iff_eq.mpr h
   simp only[Fn,hb,if_pos h]
  ·have hb:(g==f)=false:=beq_eq_false_iff_ne.mpr h
   simp only[Fn,hb,if_neg h]
 | (k,x)::r=>by
  have ih:=SF f g v r
  rw[show BK f v ((k,x)::r)=(if k=f then (k,v)::r else (k,x)::BK f v r) from rfl]
  by_cases hk:k=f
  ·rw[if_pos hk]
   by_cases h:g=k
   ·have hb:(g==k)=true:=beq_iff_eq.mpr h
    simp only[Fn,hb,if_pos (h.trans hk)]
   ·have hb:(g==k)=false:=beq_eq_false_iff_ne.mpr h
    simp only[Fn,hb,if_neg (fun e:g=f=>h (e.trans hk.symm))]
  ·rw[if_neg hk]
   by_cases h:g=k
   ·have hb:(g==k)=true:=beq_iff_eq.mpr h
    simp only[Fn,hb,if_neg (fun e:g=f=>hk (h.symm.trans e))]
   ·have hb:(g==k)=false:=beq_eq_false_iff_ne.mpr h
    simp only[Fn,hb]
    exact ih
theorem Mz (f:Str) (v:V):∀fs:List (Str×V),f∈(BK f v fs).map (·.1)∧∀g,g∈fs.map (·.1)→g∈(BK f v fs).map (·.1)
 | []=>⟨by simp[BK],fun g h=>by simp at h⟩
 | (k,x)::r=>by
  obtain⟨i1,i2⟩:=Mz f v r
  rw[show BK f v ((k,x)::r)=(if k=f then (k,v)::r else (k,x)::BK f v r) from rfl]
  by_cases hk:k=f
  ·rw[if_pos hk]
   subst hk
   exact⟨by simp,fun g h=>by simpa using h⟩
  ·rw[if_neg hk]
   refine⟨?_,fun g h=>?_⟩
   ·rw[Am]
    exact Ar _ i1
   ·rw[Am] at h ⊢
    rcases AY.mp h with e | e
    ·exact AY.mpr (.inl e)
    ·exact Ar _ (i2 g e)
theorem Rz (f:Str) (v:V):∀fs:List (Str×V),(BK f v fs).length≤fs.length+1
 | []=>by simp[BK]
 | (k,x)::r=>by
  have ih:=Rz f v r
  rw[show BK f v ((k,x)::r)=(if k=f then (k,v)::r else (k,x)::BK f v r) from rfl]
  by_cases hk:k=f
  ·rw[if_pos hk,A9,A9];omega
  ·rw[if_neg hk,A9,A9];omega
theorem RelO.some_of {v:V}{o:Option Value} (r:RelO (some v) o):∃u,o=some u∧RelV v u:=by
 cases o with
 | none=>exact(show False from r).elim
 | some u=>exact⟨u,rfl,r⟩
theorem ZZ {v:V}{u:Value} (r:RelV v u):Xl u=true:=by
 cases v with
 | non=>cases (show u=Co from r);rfl
 | bl b=>cases (show u=Dg b from r);rfl
 | int i=>obtain⟨t,e⟩:=(show ∃t,u=Lo i t from r);cases e;rfl
 | str x=>obtain⟨t,e⟩:=(show ∃t,u=Lp x t from r);cases e;rfl
 | byt b=>obtain⟨t,e⟩:=(show ∃t,u=Value.bytes b t from r);cases e;rfl
 | flt b=>obtain⟨t,e⟩:=(show ∃t,u=Value.float b t from r);cases e;rfl
 | ref a=>cases (show u=Ak a from r);rfl
 | ty n=>cases (show u=DL n from r);rfl
section
variable {P:Program}{w:World}{H H':Hp}{h h':Heap}{a C dx:Addr}{fs fs':List (Str×V)}
theorem Ri (hok:HOk P w H h) (e:H a=some (.ins C dx fs)):∃mA,ObjM h a dx C mA∧(∀f,RelO (fs.lookup f) (mA f))∧Lq mA (fs.map (·.1))∧fs.length≤1000∧H dx=some (.own a):=by
 obtain⟨d,z,ne,ob,mA,n,r,q⟩:=(show ObjOk P w H h a (.ins C dx fs) from hok a _ e)
 exact⟨mA,⟨ob,n,ne⟩,r,q,z,d⟩
end
structure Cls (K:AB) (C:Addr):Prop where
 pg:Ph K C Pa=true
 hd:Pe K C=true
 po:Xo K C=true
 sa:Gi K (.ref C) "__setattr__"=some (some (.builtin "object.__setattr__"))
theorem Cls.get {K:AB}{C:Addr} (c:Cls K C) (f:Str):Ph K C f=true:=c.pg
def NoAttr (K:AB) (C:Addr) (f:Str):Prop:=Gi K (.ref C) f=some none
theorem NoAttr.taker {K:AB}{C:Addr}{f:Str} (n:NoAttr K C f):Pj K C f=some none:=by
 unfold Pj
 rw[show Gi K (.ref C) f=some none from n]
 rfl
section
variable {X:Cx}{pins:List (Addr×Obj)}{σ:St}{H:Hp}{s:Shared}{a C dx:Addr}{fs:List (Str×V)}{f:Str}{v:V}{A:Around}{E:Value→Shared→Prop}
theorem ZW {b:Bool}{Q:Value→Shared→Prop} (I:Inv X pins σ H s) (e:H a=some (.ins C dx fs)) (c:Cls X.K C) (n:NoAttr X.K C f) (l:fs.lookup f=some v)
  (h:∀u s',Inv X pins σ H s'→RelV v u→Q u s'):wpAny (model X.prog X.w) A (getAttr (.ref a) f b) Q E s:=by
 obtain⟨mA,O,r,_,_,_⟩:=Ri I.hok e
 obtain⟨u,hu,ru⟩:=RelO.some_of (v:=v) (o:=mA f) (by rw[← l];exact r f)
 exact ZV I.kIn O (c.get f) c.hd n hu (ZZ ru) (h u _ (I.tok _) ru)
theorem da {y:V}{u:Value}{Q:Unit→Shared→Prop} (I:Inv X pins σ H s) (e:H a=some (.ins C dx fs)) (c:Cls X.K C) (n:NoAttr X.K C f) (hl:fs.length < 1000) (ry:RelV y u)
  (h:∀s',Inv X pins σ (upd H a (.ins C dx (BK f y fs))) s'→Q () s'):wpAny (model X.prog X.w) A (setAttr (.ref a) f u) Q E s:=by
 obtain⟨mA,O,r,wi,_,ho⟩:=Ri I.hok e
 have hz:(fs.map (·.1)).length≤sizeLine:=by rw[AF,JQ];omega
 refine dY I.kIn O c.sa c.po n.taker c.hd wi hz fun h' O' sb=>h _ ?_
 have hd:∃o,h'.get? dx=some o:=let ⟨o,_,_,e',_⟩:=O'.ns;⟨o,e'⟩
 refine I.write (x:=a) (e:=dx) (by rw[e];exact Gv) (.inr ho) (fun b q hb z=>(sb.2 b hb).trans z) hd ?_
 refine⟨by rw[AG O.ne];exact ho,?_,O.ne,O'.obj,_,O'.ns,fun g=>?_,fun g hg=>?_⟩
 ·have:=Rz f y fs;omega
 ·show RelO ((BK f y fs).lookup g) (if g=f then some u else mA g)
  rw[SF]
  by_cases q:g=f
  ·rw[if_pos q,if_pos q];exact ry
  ·rw[if_neg q,if_neg q];exact r g
 ·by_cases q:g=f
  ·rw[q];exact(Mz f y fs).1
  ·refine(Mz f y fs).2 g (wi g fun z=>hg ?_)
   show(if g=f then some u else mA g)=none
   rw[if_neg q];exact z
theorem Inv.made (I:Inv X pins σ H s):Inv X pins σ (upd (upd H s.heap.objs.size (.own (s.heap.objs.size+1))) (s.heap.objs.size+1) (.ins C s.heap.objs.size []))
  { s with heap:=(s.heap.push FC).push (Fv C s.heap.objs.size) }:=by
 have e1:(s.heap.push FC).get? s.heap.objs.size=some FC:=BH s.heap rfl
 have e2:((s.heap.push FC).push (Fv C s.heap.objs.size)).get? (s.heap.objs.size+1)=some (Fv C s.heap.objs.size):=by
  have:=BH (s.heap.push FC) (o:=Fv C s.heap.objs.size) rfl
  rwa [Ct] at this
 have e3:(s.heap.push FC).Ns s.heap.objs.size (fun _=>none):=⟨FC,#[],_,e1,rfl,(fun e he=>absurd he (by simp)),fun _=>rfl⟩
 have I1:=I.laid (a:=s.heap.objs.size) (o:=.own (s.heap.objs.size+1)) (h':=s.heap.push FC) (t':=s.toks) (fun b u q=>A2 _ q) (AO _) ⟨_,e1⟩
 refine I1.laid (a:=s.heap.objs.size+1) (o:=.ins C s.heap.objs.size []) (t':=s.toks) (fun b u q=>A2 _ q) (Hg (Ct _ _)) ?_
 have ne:s.heap.objs.size≠s.heap.objs.size+1:=BO (Hi _)
 refine⟨by rw[AG ne,AH],Au _,ne,e2,fun _=>none,(Heap.Ns1.of_empty e3).at fun o q=>A2 _ q,fun _=>Gv,fun y hy=>absurd rfl hy⟩
theorem YR {prog:Program}{w:World}{env:Env}{e:Expr}{f:Str}{pos:Pos}{s:Shared}{Q:Value→Shared→Prop} (hb:attributeBase e f env (eval e env)=eval e env)
  (h:wpAny (model prog w) A (eval e env) (fun o s₁=>wpAny (model prog w) A (getAttr o f true) Q E s₁) E s):wpAny (model prog w) A (eval (.Attribute e f pos) env) Q E s :=
 Attribute_any_ h (by rw[arm_eval_Attribute,hb])
end
def Kx (K:AB) (ta:TE) (f:Str):TE:=fun σ H Q=>ta σ H fun x H1=>∃a C dx fs v,x=.ref a∧H1 a=some (.ins C dx fs)∧Cls K C∧NoAttr K C f∧fs.lookup f=some v∧Q v H1
def cu (K:AB) (ta tv:TE) (f:Str):TS:=fun D σ H=>tv σ H fun y H1=>ta σ H1 fun x H2=>∃a C dx fs,x=.ref a∧H2 a=some (.ins C dx fs)∧Cls K C∧NoAttr K C f∧fs.length < 1000∧
 D.nx σ (upd H2 a (.ins C dx (BK f y fs)))
section
variable {X:Cx}{o e value:Expr}{f:Str}{pos pos' tpos:Pos}{ta tv:TE}
theorem An (he:PE X e ta) (hb:attributeBase e f X.env (eval e X.env)=eval e X.env):PE X (.Attribute e f pos) (Kx X.K ta f):=by
 intro pins s σ H Q I h
 refine YR hb (thn (he pins s σ H _ I h) fun u s1 ⟨x,H1,I1,rx,a,C,dx,fs,v,ex,ea,c,n,l,q⟩=>?_)
 subst ex
 obtain rfl:u=Ak a:=rx
 exact ZW I1 ea c n l fun u' s2 I2 ru=>⟨v,H1,I2,ru,q⟩
theorem Bj (ha:PE X o ta) (hv:PE X value tv) (hs:swapsWith value (some (.Attribute o f pos')) pos.line X.env=pure false):PS X (.Assign [.Attribute o f pos'] value pos) (cu X.K ta tv f):=by
 intro pins s σ H D I h
 refine plainObj_wpAny_Assign_Attribute (thn (hv pins s σ H _ I h) fun u s1 ⟨y,H1,I1,ry,q⟩=>thn (ha pins s1 σ H1 _ I1 q) fun ov s2 ⟨x,H2,I2,rx,a,C,dx,fs,ex,ea,c,n,l,q2⟩=>?_) hs
 subst ex
 obtain rfl:ov=Ak a:=rx
 exact da I2 ea c n l ry fun s3 I3=>⟨σ,_,I3,q2⟩
end
section
variable {X:Cx}{pins:List (Addr×Obj)}{σ:St}{H:Hp}{s:Shared}{A:Around}{E:Value→Shared→Prop}{Q:Value→Shared→Prop}{c:Value}{b:Bool}
end
end L2
namespace L2
open PySem PySem.Spec PyProof.Rows
structure Room (k:Nat) (A:Around):Prop where
 hd:A.handled=none
 dp:A.depth+3 * k+5 < recursionLimit
 un:A.units+16 * k+200 < cLine
theorem Room.mono {j k:Nat}{A:Around} (r:Room k A) (h:j≤k):Room j A:=⟨r.hd,by have:=r.dp;omega,by have:=r.un;omega⟩
theorem Room.deeper {k:Nat}{A:Around} (r:Room (k+1) A) (env:Env):Room k (A.deeper env) :=
 ⟨r.hd,by have:=r.dp;show A.depth+1+3 * k+5 < _;omega,by have:=r.un;show A.units+3+16 * k+200 < _;omega⟩
theorem aP {A:Around}{C:Addr}{us:List Value}{kw:List (Str×Value)}:(A.under (.builtin "type.__call__" ⟨.ref C::us,kw⟩)).depth=A.depth+1:=by
 first | rfl | simp[PD,Code.weight,Code.isCreation,Code.isGuard,Code.isCaller,Code.frames,PR,guardIds]
theorem aT {A:Around}{C:Addr}{us:List Value}{kw:List (Str×Value)}:(A.under (.builtin "type.__call__" ⟨.ref C::us,kw⟩)).units=A.units+1:=by
 first | rfl | simp[PD,Code.cUnits,Code.frames,PR]
theorem Room.make {k:Nat}{A:Around} (r:Room (k+1) A) (C:Addr) (us:List Value) (kw:List (Str×Value)):Room k (A.under (.builtin "type.__call__" ⟨.ref C::us,kw⟩)) :=
 ⟨r.hd,by have:=r.dp;rw[aP];omega,by have:=r.un;rw[aT];omega⟩
theorem Room.depth {k:Nat}{A:Around} (r:Room k A):A.depth < recursionLimit:=by have:=r.dp;omega
theorem Room.units {k:Nat}{A:Around} (r:Room k A):A.units+64 < cLine:=by have:=r.un;omega
def Dy:TA:=fun _ H Q=>Q [] H
def C2 (ta:TE) (tr:TA):TA:=fun σ H Q=>ta σ H fun x H1=>tr σ H1 fun xs H2=>Q (x::xs) H2
section
variable {X:Cx}{e:Expr}{es:List Expr}{te:TE}{t:TA}{pos:Pos}
theorem AD:PA X [] Dy:=fun _ _ _ _ H Q I h=>JM ⟨[],H,I,.nil,h⟩
theorem AA (ha:PE X e te) (hr:PA X es t) (hs:starEach (e::es) X.env=(false,eval e X.env)::starEach es X.env:=by rfl):PA X (e::es) (C2 te t):=by
 intro pos pins s σ H Q I h
 rw[hs]
 show wpAny _ _ (spliced ((false,eval e X.env)::backTo pos (starEach es X.env))) _ _ s
 refine Hm (thn (ha pins s σ H _ I h) fun u s1 ⟨x,H1,I1,r1,q1⟩=>?_)
 exact thn (hr pos pins s1 σ H1 _ I1 q1) fun us s2 ⟨xs,H2,I2,r2,q2⟩=>⟨x::xs,H2,I2,.cons r1 r2,q2⟩
def V4 (t:TA):TE:=fun σ H Q=>t σ H fun xs H1=>xs.length≤sizeLine∧∀p,H1 p=none→Q (.ref p) (upd H1 p (.tup xs))
def eY (t:TA):TE:=fun σ H Q=>t σ H fun xs H1=>xs.length≤sizeLine∧∀p,H1 p=none→Q (.ref p) (upd H1 p (.lst xs))
theorem Kc {x1} (h:PA X es t):PE X (.Tuple es x1 pos) (V4 t):=by
 intro pins s σ H Q I hq
 refine wpAny_Tuple_spliced (thn (h pos pins s σ H _ I hq) fun us s1 ⟨xs,H1,I1,r,z,q⟩=>⟨by rw[← r.length];exact z,?_⟩)
 have hf:H1 s1.heap.objs.size=none:=I1.hok.fresh (AO _)
 refine⟨.ref s1.heap.objs.size,upd H1 s1.heap.objs.size (.tup xs),I1.laid (t':=s1.toks) (fun b u e=>A2 _ e) (AO _) ?_,rfl,q _ hf⟩
 exact⟨z,us,r,⟨_,BH _ rfl,rfl,_,rfl⟩⟩
theorem A5 (h:PA X es t):PE X (.List es pos) (eY t):=by
 intro pins s σ H Q I hq
 refine wpAny_List_spliced (thn (h pos pins s σ H _ I hq) fun us s1 ⟨xs,H1,I1,r,z,q⟩=>⟨by rw[← r.length];exact z,?_⟩)
 have hf:H1 s1.heap.objs.size=none:=I1.hok.fresh (AO _)
 refine⟨.ref s1.heap.objs.size,upd H1 s1.heap.objs.size (.lst xs),I1.laid (t':=s1.toks) (fun b u e=>A2 _ e) (AO _) ?_,rfl,q _ hf⟩
 exact⟨z,us,0,r,BH _ rfl⟩
end
abbrev Sp:=List V→Hp→VK→XK→Prop
abbrev CXT:=List Env→Hp→Shared→XK→Value→Shared→Prop
structure Env0 (P:Program) (w:World) (K:AB) (mg:Str→Option Value) (base:Heap) (A:Around) (outer:List Env) (s:Shared) (H:Hp):Prop where
 frames:A.frames=some outer
 mod:Mod K mg base
 bs:∀b o,base.get? b=some o→s.heap.get? b=some o∧H b=none
 bsz:base.objs.size≤s.heap.objs.size
 funs:s.heap.FunFrames base outer
 frf:∀b∈frs outer,H b=none
 hok:HOk P w H s.heap
 bare:AllBare s.gens
def CE (outer:List Env) (P:Program) (w:World) (H:Hp) (s:Shared) (Q:VK) (u:Value) (s':Shared):Prop :=
 ∃v H',s'.os=s.os∧AllBare s'.gens∧Un (frs outer) [] H H' s.heap s'.heap∧HOk P w H' s'.heap∧RelV v u∧Q v H'
def CR (CX:CXT) (outer:List Env) (P:Program) (w:World) (H:Hp) (s:Shared) (Q:VK) (E:XK) (r:Result) (s':Shared):Prop :=
 match r with
 | .ok (.ret u)=>CE outer P w H s Q u s'
 | .ok _=>False
 | .error e=>CX outer H s E e s'
structure FnOk (P:Program) (w:World) (K:AB) (mg:Str→Option Value) (base:Heap) (CX:CXT) (k:Nat) (f:Addr) (fd:FuncData) (ps:List Str) (sp:Sp):Prop where
 len:∀vs H Q E,sp vs H Q E→vs.length=ps.length
 run:∀(A:Around) (outer:List Env) (s:Shared) (H:Hp) (args:Args) (us:List Value) (vs:List V) (Q:VK) (E:XK),Room k A→Env0 P w K mg base A outer s H→BindsTo s fd args (ps.zip us)→Vals vs us→sp vs H Q E→
  codeAny (model P w) A (.call (.ref f) args) (CR CX outer P w H s Q E) s
theorem FnOk.mono {P:Program}{w:World}{K:AB}{mg:Str→Option Value}{base:Heap}{CX:CXT}{j k:Nat}{f:Addr}{fd:FuncData}{ps:List Str}{sp:Sp} (F:FnOk P w K mg base CX j f fd ps sp) (h:j≤k):
 FnOk P w K mg base CX k f fd ps sp:=⟨F.len,fun A outer s H args us vs Q E hr=>F.run A outer s H args us vs Q E (hr.mono h)⟩
theorem Env0.make {P:Program}{w:World}{K:AB}{mg:Str→Option Value}{base:Heap}{A:Around}{outer:List Env}{s:Shared}{H:Hp} (e:Env0 P w K mg base A outer s H) (C:Addr) (us:List Value) (kw:List (Str×Value)):
 Env0 P w K mg base (A.under (.builtin "type.__call__" ⟨.ref C::us,kw⟩)) outer s H:=⟨by first | exact e.frames | (simpa [PD,Code.envs,PR,pushEnvs] using e.frames),e.mod,e.bs,e.bsz,e.funs,e.frf,e.hok,e.bare⟩
section
variable {X:Cx}{pins:List (Addr×Obj)}{σ:St}{H:Hp}{s s':Shared}
theorem Inv.env0 (I:Inv X pins σ H s):Env0 X.prog X.w X.K X.mg X.base X.A X.stack s H :=
 ⟨I.ok.frames,I.ok.mod,I.bs,Bp I.ok.bsz I.sz,I.stack,I.stkFree,I.hok,I.bare⟩
theorem Inv.after {Q:VK}{u:Value} (I:Inv X pins σ H s) (h:CE X.stack X.prog X.w H s Q u s'):EP X pins σ Q u s':=by
 obtain⟨v,H',os,bare,un,hok,r,q⟩:=h
 obtain⟨hh,g,d,t,os'⟩:=s'
 obtain rfl:os'=s.os:=os
 exact⟨v,H',I.call (h':=hh) (g':=g) (d':=d) (t':=t) (ch:=[]) un hok bare (fun b z=>absurd z (by simp)),r,q⟩
end
def HM (sp:Sp) (dvs:List V) (E:XK) (t:TA):TE:=fun σ H Q=>t σ H fun vs H1=>sp (vs++dvs) H1 Q E
def Ky (C:Addr) (sp:Sp) (dvs:List V) (E:XK) (t:TA):TE:=fun σ H Q=>t σ H fun vs H1=>∀x dx,H1 x=none→H1 dx=none→dx≠x→
 sp (.ref x::(vs++dvs)) (upd (upd H1 dx (.own x)) x (.ins C dx [])) (fun v H2=>v=.non∧Q (.ref x) H2) E
def Binds (K:AB) (fd:FuncData) (ps:List Str) (ds:List Value):Prop :=
 ∀(s:Shared) (us:List Value),K.In s.heap→(us++ds).length=ps.length→BindsTo s fd ⟨us,[]⟩ (ps.zip (us++ds))
theorem Binds.all {K:AB}{fd:FuncData}{ps:List Str} (h:∀us:List Value,us.length=ps.length→bindArgs fd ⟨us,[]⟩=pure (ps.zip us)):Binds K fd ps []:=fun s us _ hl=>by
 rw[CO] at hl ⊢
 exact .of_eq (h us hl)
def F2 (CX:CXT) (X:Cx) (E:XK):Prop:=∀(pins:List (Addr×Obj)) (σ:St) (H:Hp) (s:Shared) (e:Value) (s':Shared),Inv X pins σ H s→CX X.stack H s E e s'→X.xe e s'
section
variable {X:Cx}{CX:CXT}{k:Nat}{f C:Addr}{fd:FuncData}{ps:List Str}{sp:Sp}{dvs:List V}{ds:List Value}{E:XK}{x m:Str}{p pos apos:Pos}{e o:Expr}{es:List Expr}{ta:TE}{t:TA}
theorem TV {pins:List (Addr×Obj)}{σ:St}{H:Hp}{s:Shared}{Q:VK}{us:List Value}{vs:List V} (F:FnOk X.prog X.w X.K X.mg X.base CX k f fd ps sp) (hr:Room k X.A) (hb:Binds X.K fd ps ds) (hd:Vals dvs ds) (hx:F2 CX X E)
  (I:Inv X pins σ H s) (r:Vals vs us) (h:sp (vs++dvs) H Q E):wpAny (model X.prog X.w) X.A (call (.ref f) us) (EP X pins σ Q) X.xe s:=by
 have r2:Vals (vs++dvs) (us++ds):=r.append hd
 have hl:(us++ds).length=ps.length:=by rw[← r2.length];exact F.len _ _ _ _ h
 refine Pu (Gm (F.run X.A X.stack s H ⟨us,[]⟩ (us++ds) (vs++dvs) Q E hr I.env0 (hb s us I.kIn hl) r2 h) fun r s' hq=>?_)
 cases r with
 | error e=>exact hx pins σ H s e s' I hq
 | ok fl =>
  cases fl with
  | ret u=>exact I.after hq
  | next=>exact BX hq
  | brk=>exact BX hq
  | cont=>exact BX hq
theorem Sm (F:FnOk X.prog X.w X.K X.mg X.base CX k f fd ps sp) (hr:Room k X.A) (hg:Gl X x) (hm:X.mg x=some (.ref f)) (hk:Gj X.K (.ref f)=true) (hb:Binds X.K fd ps ds) (hd:Vals dvs ds) (hx:F2 CX X E)
  (ha:PA X (e::es) t) (hdb:(x==("__debug__":Str))=false:=by decide) (he:starEach (e::es) X.env=(false,eval e X.env)::starEach es X.env:=by rfl) (hpl:(backTo pos (starEach es X.env)).any (·.1)=false:=by rfl):
  PE X (.Call (.Name x p) (e::es) [] pos) (HM sp dvs E t):=by
 intro pins s σ H Q I h
 refine FD (IL I hg hm ?_ hdb)
 refine Pc (h₀:=X.base) I.ok.mod.kin hk (thn (ha pos pins s σ H _ I h) fun us s1 ⟨vs,H1,I1,r,q⟩=>⟨I1.kIn,?_⟩) he hpl
 exact TV F hr hb hd hx I1 r q
structure Mk (K:AB) (C f:Addr):Prop where
 makes:Xn K C=true
 init:Gi K (.ref C) "__init__"=some (some (.ref f))
 fn:PySem.W.isFn K (.ref f)=true
 kp:Gj K (.ref C)=true
theorem TX {pins:List (Addr×Obj)}{σ:St}{H:Hp}{s:Shared}{Q:VK}{us:List Value}{vs:List V} (M:Mk X.K C f) (F:FnOk X.prog X.w X.K X.mg X.base CX k f fd ps sp) (hr:Room (k+1) X.A) (hb:Binds X.K fd ps ds) (hd:Vals dvs ds)
  (hx:F2 CX X E) (I:Inv X pins σ H s) (r:Vals vs us)
  (h:∀x dx,H x=none→H dx=none→dx≠x→sp (.ref x::(vs++dvs)) (upd (upd H dx (.own x)) x (.ins C dx [])) (fun v H2=>v=.non∧Q (.ref x) H2) E):
  wpAny (model X.prog X.w) X.A (call (.ref C) us) (EP X pins σ Q) X.xe s:=by
 have hq:=h (s.heap.objs.size+1) s.heap.objs.size (I.hok.fresh (LM _)) (I.hok.fresh (AO _)) (BO (Hi _))
 have I2:=Inv.made (C:=C) I
 have r2:Vals (V.ref (s.heap.objs.size+1)::(vs++dvs)) (Ak (s.heap.objs.size+1)::(us++ds)):=.cons rfl (r.append hd)
 have hl:(Ak (s.heap.objs.size+1)::us++ds).length=ps.length:=by
  have e:=r2.length
  rw[F.len _ _ _ _ hq] at e
  exact e.symm
 refine Pu (aS (f:=f) I.kIn M.makes M.init (beq_iff_eq.mp M.fn) (Gm (F.run _ X.stack _ _ ⟨Ak (s.heap.objs.size+1)::us,[]⟩ (Ak (s.heap.objs.size+1)::(us++ds)) _ _ E (hr.make C us [])
  (I2.env0.make C us []) (hb _ (Ak (s.heap.objs.size+1)::us) I2.kIn hl) r2 hq) fun r s' hq'=>?_))
 cases r with
 | error e=>exact hx pins σ _ _ e s' I2 hq'
 | ok fl =>
  cases fl with
  | ret u =>
   obtain⟨v,H',I3,rv,ev,q3⟩:=I2.after hq'
   subst ev
   exact⟨rv,⟨V.ref (s.heap.objs.size+1),H',I3,rfl,q3⟩⟩
  | next=>exact BX hq'
  | brk=>exact BX hq'
  | cont=>exact BX hq'
theorem bb (M:Mk X.K C f) (F:FnOk X.prog X.w X.K X.mg X.base CX k f fd ps sp) (hr:Room (k+1) X.A) (hg:Gl X x) (hm:X.mg x=some (.ref C)) (hb:Binds X.K fd ps ds) (hd:Vals dvs ds) (hx:F2 CX X E)
  (ha:PA X (e::es) t) (hdb:(x==("__debug__":Str))=false:=by decide) (he:starEach (e::es) X.env=(false,eval e X.env)::starEach es X.env:=by rfl) (hpl:(backTo pos (starEach es X.env)).any (·.1)=false:=by rfl):
  PE X (.Call (.Name x p) (e::es) [] pos) (Ky C sp dvs E t):=by
 intro pins s σ H Q I h
 refine FD (IL I hg hm ?_ hdb)
 refine Pc (h₀:=X.base) I.ok.mod.kin M.kp (thn (ha pos pins s σ H _ I h) fun us s1 ⟨vs,H1,I1,r,q⟩=>⟨I1.kIn,?_⟩) he hpl
 exact TX M F hr hb hd hx I1 r q
theorem bc (M:Mk X.K C f) (F:FnOk X.prog X.w X.K X.mg X.base CX k f fd ps sp) (hr:Room (k+1) X.A) (hg:Gl X x) (hm:X.mg x=some (.ref C)) (hb:Binds X.K fd ps ds) (hd:Vals dvs ds) (hx:F2 CX X E)
  (hdb:(x==("__debug__":Str))=false:=by decide):PE X (.Call (.Name x p) [] [] pos) (Ky C sp dvs E Dy):=by
 intro pins s σ H Q I h
 refine FD (IL I hg hm ?_ hdb)
 exact PySem.W.callWith_K0 I.kIn M.kp (TX (us:=[]) M F hr hb hd hx I .nil h)
end
section
variable {X:Cx}{CX:CXT}{k:Nat}{f C:Addr}{fd:FuncData}{ps ks:List Str}{sp:Sp}{E:XK}{x m:Str}{p pos apos kpos:Pos}{e o:Expr}{es:List Expr}{kws:List Keyword}{te ta:TE}{t tk:TA}{nm:Option Str}
variable {g:List Value→List Value→List Value}{gV:List V→List V→List V}
end
structure Ab (N P:List Str) (sc:Scope):Prop where
 kind:sc.kind=.function
 co:sc.isCoroutine=false
 gen:sc.isGenerator=false
 nd:N.Nodup
 pre:N.take P.length=P
 par:∀x∈P,sc.names.lookup x=some .local∨sc.names.lookup x=some .cell
 nofree:∀y∈sc.names,y.2≠.free
theorem QK {kindOf:Str→Option NameKind}{x:Str}:∀{binds:List (Str×Value)}{m:Str→Option Value},(∀v,(x,v)∉binds)→bindL kindOf binds m x=m x
 | [],_,_=>rfl
 | (n,v)::r,m,h=>by
  unfold bindL
  rw[QK fun w hw=>h w (Ar _ hw)]
  split
  ·have:x≠n:=by rintro rfl;exact h v AZ
   simp[this]
  ·rfl
theorem QI {kindOf:Str→Option NameKind}{x:Str}:∀{binds:List (Str×Value)}{m:Str→Option Value},(∀v,(x,v)∉binds)→bindC kindOf binds m x=m x
 | [],_,_=>rfl
 | (n,v)::r,m,h=>by
  unfold bindC
  rw[QI fun w hw=>h w (Ar _ hw)]
  split
  ·rfl
  ·have:x≠n:=by rintro rfl;exact h v AZ
   simp[this]
theorem QJ {kindOf:Str→Option NameKind}{x:Str}{v:Value}:∀{P:List Str}{vs:List Value}{i:Nat}{m:Str→Option Value},P.Nodup→P[i]?=some x→vs[i]?=some v→kindOf x=some .local→
  bindL kindOf (P.zip vs) m x=some v
 | [],_,_,_,_,h,_,_=>by simp at h
 | _::_,[],_,_,_,_,h,_=>by simp at h
 | p::P,w::vs,0,m,nd,h1,h2,hk=>by
  simp at h1 h2;subst h1;subst h2
  show bindL kindOf ((p,w)::P.zip vs) m p=_
  unfold bindL
  rw[QK fun v hv=>(Dd.mp nd).1 (JH hv).1,if_pos hk]
  simp
 | p::P,w::vs,i+1,m,nd,h1,h2,hk=>by
  show bindL kindOf ((p,w)::P.zip vs) m x=_
  unfold bindL
  exact QJ (i:=i) (Dd.mp nd).2 (by simpa using h1) (by simpa using h2) hk
theorem QH {kindOf:Str→Option NameKind}{x:Str}{v:Value}:∀{P:List Str}{vs:List Value}{i:Nat}{m:Str→Option Value},P.Nodup→P[i]?=some x→vs[i]?=some v→kindOf x≠some .local→
  bindC kindOf (P.zip vs) m x=some v
 | [],_,_,_,_,h,_,_=>by simp at h
 | _::_,[],_,_,_,_,h,_=>by simp at h
 | p::P,w::vs,0,m,nd,h1,h2,hk=>by
  simp at h1 h2;subst h1;subst h2
  show bindC kindOf ((p,w)::P.zip vs) m p=_
  unfold bindC
  rw[QI fun v hv=>(Dd.mp nd).1 (JH hv).1,if_neg hk]
  simp
 | p::P,w::vs,i+1,m,nd,h1,h2,hk=>by
  show bindC kindOf ((p,w)::P.zip vs) m x=_
  unfold bindC
  exact QH (i:=i) (Dd.mp nd).2 (by simpa using h1) (by simpa using h2) hk
def start (N:List Str) (vs:List V):St:=vs.map some++List.replicate (N.length - vs.length) none
def El (CX:CXT) (P:Program) (w:World) (K:AB) (mg:Str→Option Value) (base:Heap) (N:List Str) (qual:Str) (scope:Scope) (f:Addr) (cd:Value) (A:Around) (outer:List Env) (s:Shared) (H:Hp) (E:XK):Cx where
 prog:=P
 w:=w
 K:=K
 mg:=mg
 base:=base
 A:=A.deeper (envOfC qual scope s.heap.objs.size f cd)
 N:=N
 s_0:=s
 H_0:=H
 env:=envOfC qual scope s.heap.objs.size f cd
 outer:=outer
 stack:=envOfC qual scope s.heap.objs.size f cd::outer
 ex:=[]
 calm:=true
 fn:=fun _=>true
 pn:=[]
 xe:=fun e s'=>wpAny (model P w) (A.deeper (envOfC qual scope s.heap.objs.size f cd)) (leaving (envOfC qual scope s.heap.objs.size f cd) e) (fun _ s''=>CX outer H s E e s'') (fun e' s''=>CX outer H s E e' s'') s'
theorem QW {sc:Scope}{n:Nat}{x:Str} (h:sc.names.lookup x=some .cell):∃c,(cellsFrom n sc.names []).lookup x=some c:=by
 have q:=Xk sc.names n [] (.inl h)
 exact LY.mp q
theorem Zl {CX:CXT}{P:Program}{w:World}{K:AB}{mg:Str→Option Value}{base:Heap}{N ps:List Str}{qual:Str}{scope:Scope}{f:Addr}{cd:Value}{A:Around}{outer:List Env}{s s1:Shared}{H:Hp}{E:XK}{us:List Value}{vs:List V}
  (S:Ab N ps scope) (hd:A.handled=none) (e0:Env0 P w K mg base A outer s H) (hl:vs.length=ps.length) (r:Vals vs us)
  (x:InCallC s s.heap.objs.size (bindL (envOfC qual scope s.heap.objs.size f cd).kindOf (ps.zip us) fun _=>none) (cellsFrom (s.heap.objs.size+1) scope.names []) (bindC (envOfC qual scope s.heap.objs.size f cd).kindOf (ps.zip us) fun _=>none) s1):
  Inv (El CX P w K mg base N qual scope f cd A outer s H E) [] (start N vs) H s1:=by
 have hpl:ps.length≤N.length:=by have:=congrArg Ha S.pre;rw[Cn] at this;omega
 obtain⟨h1,tk,rfl,hk⟩:=x.done
 have noA:∀b:Addr,b∉(El CX P w K mg base N qual scope f cd A outer s H E).ex:=fun b z=>absurd (show b∈([]:List Addr) from z) (by simp)
 refine⟨⟨e0.mod,S.kind,rfl,rfl,AO _,fun y z c h1 h2=>?_,fun y hy=>?_,fun y c _ h=>?_,fun _=>hd,W3 e0.frames,.inr ⟨rfl,rfl⟩,fun b z=>absurd z (noA b),e0.bs,e0.bsz,fun b _ _=>noA b,fun b z=>absurd z (noA b),e0.funs,e0.frf⟩,
  rfl,e0.bare,Un.kept hk,⟨_,x.toInCall.ns,fun i y v h1 h2 h3=>?_⟩,fun y c h=>⟨_,x.cell y c h⟩,e0.hok.fresh (AO _),fun y c h=>?_,fun p hp=>absurd (show p∈([]:List (Addr×Obj)) from hp) (by simp),e0.hok.kept hk,?_⟩
 ·exact name_of_addr x.apart (CH h1) (CH h2)
 ·have hy:scope.names.lookup y=some .cell∨scope.names.lookup y=some .free:=hy
  rcases hy with hy | hy
  ·exact QW hy
  ·exact absurd rfl (S.nofree _ (CH hy))
 ·exact Ga (x.above y c (CH h))
 ·have hi:i < vs.length:=by
   unfold start at h2
   by_cases hi:i < vs.length
   ·exact hi
   ·rw[JA (by simpa using hi)] at h2
    rw[List.getElem?_replicate] at h2
    split at h2 <;> cases h2
  have ha:vs[i]?=some v:=by
   unfold start at h2
   rw[LG (by simpa using hi),AX] at h2
   cases e:vs[i]? with
   | none=>rw[e] at h2;cases h2
   | some a=>rw[e] at h2;cases h2;rfl
  obtain⟨u,hu,rv⟩:=r.get ha
  have hp:ps[i]?=some y:=by
   rw[← S.pre,Ov (by omega)];exact h1
  have ndP:ps.Nodup:=by rw[← S.pre];exact S.nd.sublist (Oz _ _)
  refine⟨u,rv,?_⟩
  rcases S.par y (CZ hp) with k | k
  ·exact .inl ⟨k,QJ ndP hp hu k⟩
  ·obtain⟨c,e⟩:=QW (n:=s.heap.objs.size+1) k
   refine .inr ⟨.inl k,c,e,?_⟩
   have q:=x.cell y c e
   rw[QH ndP hp hu (by show scope.names.lookup y≠_;rw[k];decide)] at q
   exact q
 ·exact e0.hok.fresh (Ga (x.above y c (CH h)))
 ·unfold start
  show _=N.length
  rw[BL,AF,List.length_replicate]
  omega
theorem RF {CX:CXT}{P:Program}{w:World}{K:AB}{mg:Str→Option Value}{base:Heap}{k:Nat}{f:Addr}{name qual:Str}{params:Arguments}{body:List Stmt}{scope:Scope}{dV kV doc pm cdv ct oc:Value}{an od:Option Addr}
  {osl:Array (Option Value)} {N ps:List Str} {sp:Sp} (lk:K.lookup f=some ⟨oc,od,.func (Hq name qual params body scope dV kV doc pm an cdv ct),osl⟩) (hcd:Pd K cdv qual=true) (S:Ab N ps scope)
  (len:∀vs H Q E,sp vs H Q E→vs.length=ps.length)
  (hbody:∀(A:Around) (outer:List Env) (s:Shared) (H:Hp) (vs:List V) (Q:VK) (E:XK),Room k (A.deeper (envOfC qual scope s.heap.objs.size f cdv))→sp vs H Q E→
   ∃t,PSs (El CX P w K mg base N qual scope f cdv A outer s H E) body t∧t { nx:=fun _ H'=>Q .non H',rt:=Q } (start N vs) H):
  FnOk P w K mg base CX (k+1) f (Hq name qual params body scope dV kV doc pm an cdv ct) ps sp:=by
 refine⟨len,fun A outer s H args us vs Q E hr e0 hb r hsp=>?_⟩
 have hl:=len _ _ _ _ hsp
 have KX:K.In s.heap:=e0.mod.kin.keeps fun b o e=>(e0.bs b o e).1
 have lim:s.heap.NoLimit:=e0.mod.nolimit.keeps fun b o e=>(e0.bs b o e).1
 have hkind:∀y∈ps.zip us,scope.names.lookup y.1=some .local∨(scope.names.lookup y.1=some .cell∧((cellsFrom (s.heap.objs.size+1) scope.names []).lookup y.1).isSome=true):=fun ⟨n,v⟩ hy=>by
  rcases S.par n (JH hy).1 with q | q
  ·exact .inl q
  ·exact .inr ⟨q,Xk _ _ _ (.inl q)⟩
 refine codeAny_call_function hr.depth (KX _ _ lk) rfl S.co S.gen rfl (PySem.W.codeRec_of KX hcd) (hb _ _ _ _ ?_)
 refine wpAny_newFunctionEnv_cells S.kind hkind fun env he s1 x=>?_
 subst he
 refine⟨lim.keeps x.toInCall.keep,codeAny_func ?_⟩
 obtain⟨t,ht,hq⟩:=hbody A outer s H vs Q E (hr.deeper _) hsp
 have I:Inv (El CX P w K mg base N qual scope f cdv A outer s H E) [] (start N vs) H s1:=Zl S hr.hd e0 hl r x
 refine DM (ht [] s1 (start N vs) H _ I hq) (fun fl s' hs=>?_) fun e s' hs=>hs
 have fin:∀{σ':St} {H':Hp} {v:V} {u:Value},Inv (El CX P w K mg base N qual scope f cdv A outer s H E) [] σ' H' s'→RelV v u→Q v H'→CE outer P w H s Q u s' :=
  fun {σ' H' v u} J rv q=>⟨v,H',J.os,J.bare,J.base,J.hok,rv,q⟩
 cases fl with
 | ret u =>
  obtain⟨v,σ',H',J,rv,q⟩:=hs
  exact fin J rv q
 | next =>
  obtain⟨σ',H',J,q⟩:=hs
  exact fin (v:=V.non) (u:=Co) J rfl q
 | brk =>
  obtain⟨_,_,_,q⟩:=hs
  exact BX q
 | cont =>
  obtain⟨_,_,_,q⟩:=hs
  exact BX q
end L2
namespace L2
open PySem PySem.Spec PyProof.Rows
section
variable {X:Cx}{x:Str}{p pos:Pos}{e:Expr}{es:List Expr}{t:TA}{id T:String}{r:List V→Hp→VK→Prop}
def tCB (r:List V→Hp→VK→Prop) (t:TA):TE:=fun σ H Q=>t σ H fun vs H1=>r vs H1 Q
theorem A4 (hc:EO X (.builtin id) r) (hg:Gl X x) (hm:X.mg x=none) (hv:bootBuiltins x=some (.builtin id)) (ha:PA X (e::es) t) (hn:x≠"__name__":=by decide) (hdb:(x==("__debug__":Str))=false:=by decide)
  (he:starEach (e::es) X.env=(false,eval e X.env)::starEach es X.env:=by rfl) (hpl:(backTo pos (starEach es X.env)).any (·.1)=false:=by rfl):PE X (.Call (.Name x p) (e::es) [] pos) (tCB r t):=by
 intro pins s σ H Q I h
 refine FD (Er I hg hm hv ?_ hn hdb)
 exact PyProof.Rows.callWith_builtin1 (thn (ha pos pins s σ H _ I h) fun us s1 ⟨vs,H1,I1,r1,q1⟩=>hc pins s1 σ H1 vs us Q I1 r1 q1) he hpl
theorem NY (hc:EO X (.type T) r) (hg:Gl X x) (hm:X.mg x=none) (hv:bootBuiltins x=some (.type T)) (ha:PA X (e::es) t) (hn:x≠"__name__":=by decide) (hdb:(x==("__debug__":Str))=false:=by decide)
  (he:starEach (e::es) X.env=(false,eval e X.env)::starEach es X.env:=by rfl) (hpl:(backTo pos (starEach es X.env)).any (·.1)=false:=by rfl):PE X (.Call (.Name x p) (e::es) [] pos) (tCB r t):=by
 intro pins s σ H Q I h
 refine FD (Er I hg hm hv ?_ hn hdb)
 exact Fq (thn (ha pos pins s σ H _ I h) fun us s1 ⟨vs,H1,I1,r1,q1⟩=>hc pins s1 σ H1 vs us Q I1 r1 q1) he hpl
end
end L2
namespace HT
open PySem PyProof.Rows
def lexLt:List Int→List Int→Bool
 | [],[]=>false
 | [],_::_=>true
 | _::_,[]=>false
 | x::xs,y::ys=>if x=y then lexLt xs ys else decide (x < y)
theorem lexLt_cons (x y:Int) (xs ys:List Int):lexLt (x::xs) (y::ys)=if x=y then lexLt xs ys else decide (x < y):=rfl
theorem aA:lexLt [] []=false:=rfl
theorem lexLt_nil_cons (y:Int) (ys:List Int):lexLt [] (y::ys)=true:=rfl
theorem Z9 (x:Int) (xs:List Int):lexLt (x::xs) []=false:=rfl
theorem eqAt_int (A:Around) (s:Shared) (a:Int) (t:Tok) (c:Int) (u:Tok):∃e,CP A s (.int a t) (.int c u) e∧(e=true↔a=c) :=
 ⟨(a==c),Xd a t c u,by simp⟩
theorem cW (A:Around) (s:Shared) (a:Int) (t:Tok) (c:Int) (u:Tok) (prog:Program) (w:World) (E:Value→Shared→Prop) (Q:Value→Shared→Prop) (h:Q (.bool (decide (a < c))) s):
  wpAny (model prog w) A (richCompare .Lt (.int a t) (.int c u)) Q E s :=
 (PyProof.Rows.lt_int h:wpAny (model prog w) A (compareOp .Lt (.int a t) (.int c u)) Q E s)
section
open PySem.SeqAt
open PySem.AutoSeq1 (wpAny_loadPart')
open PySem.MeetsSeq PySem.MeetsSeq2 PySem.MeetsSeq3
theorem fE (l b:Addr) (items items2:Array Value) (n n2:Nat) (dd dd2:Option Addr) (sl sl2:Array (Option Value)) (ns ms:List Int) (hi:IntsAre items.toList ns) (hj:IntsAre items2.toList ms):
  Meets (Builtin.«tuple.__lt__» ⟨[.ref l,.ref b],[]⟩)
   (fun _ R s=>s.heap.get? l=some { cls:=.type "tuple",dict:=dd,data:=.seq items n,slots:=sl }∧s.heap.get? b=some { cls:=.type "tuple",dict:=dd2,data:=.seq items2 n2,slots:=sl2 }∧
    R (.ok (.ret (.bool (lexLt ns ms)))) s) :=
 .of_wp fun prog w A R s h=>by
  obtain⟨hp,g,d,tk,os⟩:=s;obtain⟨hl,hb,h⟩:=h
  have f2:=PF
  have z1:items.size=ns.length:=by rw[← hi.length];simp
  have z2:items2.size=ms.length:=by rw[← hj.length];simp
  wp_walk using Bv hl,Bv hb,Gp _ (fun rest b s'=>b.1=none∧s'=⟨hp,g,d,tk,os⟩∧∃(vs ws:List Value) (ns' ms':List Int),rest=vs.zip ws∧
   IntsAre vs ns'∧IntsAre ws ms'∧ns'.length+items2.size=ms'.length+items.size∧R (.ok (.ret (.bool (lexLt ns' ms')))) ⟨hp,g,d,tk,os⟩) _
  case turn =>
   rintro⟨y,x⟩ rest b s' ⟨hb',rfl,vs,ws,ns',ms',hz,hvi,hwi,hlen,hR⟩
   cases hvi with
   | nil=>rw[Ws] at hz;cases hz
   | cons a t hvi' =>
    cases hwi with
    | nil=>rw[Wt] at hz;cases hz
    | cons c u hwi' =>
     rw[He] at hz
     injection hz with hyx hrest
     injection hyx with hy hx
     subst hy hx
     rw[lexLt_cons] at hR
     simp only[A9] at hlen
     obtain⟨e,he,hiff⟩:=eqAt_int A.in1 ⟨hp,g,d,tk,os⟩ a t c u
     refine AE (he prog w _ _ ?_)
     cases e with
     | true =>
      rw[if_pos (hiff.mp rfl)] at hR
      wp_walk
      exact⟨rfl,rfl,_,_,_,_,hrest,hvi',hwi',by omega,hR⟩
     | false =>
      rw[if_neg (fun q=>absurd (hiff.mpr q) Aj)] at hR
      have hri:=cW A.in1 ⟨hp,g,d,tk,os⟩ a t c u prog w
      wp_walk using hri
      exact⟨_,rfl,by simpa using hR⟩
  case fin =>
   rintro⟨b1,b2⟩ s' ⟨hb',rfl,vs,ws,ns',ms',hz,hvi,hwi,hlen,hR⟩
   simp only at hb'
   subst hb'
   have hv:lexLt ns' ms'=decide (items.size < items2.size):=by
    cases hvi with
    | nil =>
     cases hwi with
     | nil =>
      simp only[Ea] at hlen
      rw[aA]
      exact(decide_eq_false (by omega)).symm
     | cons c u hw =>
      simp only[Ea,A9] at hlen
      rw[lexLt_nil_cons]
      exact(decide_eq_true (by omega)).symm
    | cons a t hv =>
     cases hwi with
     | nil =>
      simp only[Ea,A9] at hlen
      rw[Z9]
      exact(decide_eq_false (by omega)).symm
     | cons c u hw =>
      rw[He] at hz
      cases hz
   rw[hv] at hR
   wp_walk
   exact⟨_,rfl,by simpa [Builtin.Tuple.tupleCompareSizes] using hR⟩
  case h =>
   exact⟨rfl,rfl,items.toList,items2.toList,ns,ms,rfl,hi,hj,by omega,h⟩
end
section
variable {prog:Program}{w:World}{A:Around}{E:Value→Shared→Prop}{s:Shared}
theorem lt_tupInts {l b:Addr}{items items2:Array Value}{ns ms:List Int}{Q:Value→Shared→Prop} (hl:IsTup s.heap l items) (hb:IsTup s.heap b items2) (hi:IntsAre items.toList ns) (hj:IntsAre items2.toList ms)
  (hu:A.units < cLine) (h:Q (.bool (lexLt ns ms)) s):wpAny (model prog w) A (compareOp .Lt (.ref l) (.ref b)) Q E s:=by
 obtain⟨⟨cls,dd,data,sl⟩,ho,hc,n,hd⟩:=id hl
 obtain⟨⟨cls2,dd2,data2,sl2⟩,ho2,hc2,n2,hd2⟩:=id hb
 simp only at hc hd hc2 hd2
 subst hc hd hc2 hd2
 exact Pp (op:=.Lt) ⟨_,ho,rfl⟩ ⟨_,ho2,rfl⟩ PV XJ (XG _ _) (fE l b items items2 n n2 dd dd2 sl sl2 ns ms hi hj)
  ⟨ho,ho2,show Dg (lexLt ns ms)≠Xi∧Q (.bool (lexLt ns ms)) s from⟨(fun x=>nomatch x),h⟩⟩ hu
def sIx (n d:Nat):Option Int→Nat
 | none=>d
 | some v=>if v < 0 then (v+(n:Int)).toNat else min v.toNat n
end
end HT
namespace L2
open PySem PySem.Spec PyProof.Rows
abbrev TO:=St→Hp→(Option Int→Hp→Prop)→Prop
def PO (X:Cx) (e:Option Expr) (t:TO):Prop :=
 ∀(pins:List (Addr×Obj)) (s:Shared) (σ:St) (H:Hp) (Q:Option Int→Hp→Prop),Inv X pins σ H s→t σ H Q→
  wpAny (model X.prog X.w) X.A (evalPart e X.env) (fun u s'=>∃o H',Inv X pins σ H' s'∧IsPart u o∧Q o H') X.xe s
def ee:TO:=fun _ H Q=>Q none H
def ek (t:TE):TO:=fun σ H Q=>t σ H fun x H1=>∃i,x=.int i∧Q (some i) H1
theorem Mt {ns:List Int}:∀{us:List Value},Vals (ns.map V.int) us→IntsAre us ns:=by
 induction ns with
 | nil=>intro us r;rw[Fo] at r;cases r;exact .nil
 | cons n ns ih =>
  intro us r
  rw[Am] at r
  cases r with
  | cons r1 r2 =>
   obtain⟨t,e⟩:=r1
   subst e
   exact .cons n t (ih r2)
section
variable {X:Cx}{e:Expr}{te:TE}{lo hi:Option Expr}{tl th:TO}{pos p2:Pos}
theorem GJ:PO X none ee:=by
 intro pins s σ H Q I h
 rw[evalPart_none]
 exact AL ⟨none,H,I,.none,h⟩
theorem Ew (h:PE X e te):PO X (some e) (ek te):=by
 intro pins s σ H Q I hw
 rw[evalPart_some]
 refine thn (h pins s σ H _ I hw) fun u s1 ⟨x,H1,I1,r1,q1⟩=>?_
 obtain⟨i,rfl,q⟩:=q1
 obtain⟨t,rfl⟩:=r1
 exact⟨some i,H1,I1,.int i t,q⟩
def SlR (X:Cx) (r:V→Option Int→Option Int→Hp→VK→Prop):Prop :=
 ∀(pins:List (Addr×Obj)) (s:Shared) (σ:St) (H:Hp) (x:V) (v vl vu:Value) (lo hi:Option Int) (sl:Addr) (Q:VK),Inv X pins σ H s→RelV x v→s.heap.IsSliceOf sl vl vu .none→IsPart vl lo→IsPart vu hi→r x lo hi H Q→
  ∃T id,typeLookup (.type T) "__getitem__"=pure (some (.builtin id))∧s.TypeIs v T∧wpAny (model X.prog X.w) X.A (getItem v (.ref sl)) (EP X pins σ Q) X.xe s
def tSl (r:V→Option Int→Option Int→Hp→VK→Prop) (te:TE) (tl th:TO):TE:=fun σ H Q=>te σ H fun x H1=>tl σ H1 fun l H2=>th σ H2 fun u H3=>r x l u H3 Q
theorem FT {r:V→Option Int→Option Int→Hp→VK→Prop} (hr:SlR X r) (he:PE X e te) (hl:PO X lo tl) (hu:PO X hi th):PE X (.Subscript e (.Slice lo hi none p2) pos) (tSl r te tl th):=by
 intro pins s σ H Q I h
 refine O7 (thn (he pins s σ H _ I h) fun v s1 ⟨x,H1,I1,r1,q1⟩=>?_)
 refine wpAny_Slice (thn (hl pins s1 σ H1 _ I1 q1) fun vl s2 ⟨l,H2,I2,pl,q2⟩=>thn (hu pins s2 σ H2 _ I2 q2) fun vu s3 ⟨u,H3,I3,pu,q3⟩=>?_)
 rw[evalPart_none]
 refine AL ?_
 have I4:Inv X pins σ H3 { s3 with heap:=s3.heap.push { cls:=.type "slice",data:=.fields #[vl,vu,.none] } }:=I3.kept (t':=s3.toks) fun b ob q=>A2 _ q
 obtain⟨T,id,hT,ht,hg⟩:=hr pins { s3 with heap:=s3.heap.push { cls:=.type "slice",data:=.fields #[vl,vu,.none] } } σ H3 x v vl vu l u s3.heap.objs.size Q I4 r1 (Heap.IsSliceOf.new ..) pl pu q3
 show wpAny (model X.prog X.w) X.A (subscriptTail e (.Slice lo hi none p2) v (.ref s3.heap.objs.size)) (EP X pins σ Q) X.xe { s3 with heap:=s3.heap.push { cls:=.type "slice",data:=.fields #[vl,vu,.none] } }
 exact tail_any (ops:=[.ref s3.heap.objs.size,v]) ht hT hg (by with_unfolding_all rfl)
def CJ (xs:List V) (lo hi:Option Int):List V:=(xs.drop (HT.sIx xs.length 0 lo)).take (HT.sIx xs.length xs.length hi - HT.sIx xs.length 0 lo)
theorem Yp (xs:List V) (lo hi:Option Int):(CJ xs lo hi).length≤xs.length:=by
 unfold CJ
 rw[Cn,LH]
 omega
end
end L2
namespace L2
open PySem PySem.Spec PyProof.Rows
def ixN (n:Nat) (i:Int):Option Nat:=if 0≤i then (if i < n then some i.toNat else none) else if -(n:Int)≤i then some (i+n).toNat else none
def atI {α:Type} (xs:List α) (i:Int):Option α:=(ixN xs.length i).bind fun j=>xs[j]?
theorem Zo {n:Nat}{i:Int}{j:Nat} (h:ixN n i=some j):seqIndex? i n=some j∧j < n∧-(n:Int)≤i∧i < n:=by
 unfold ixN at h
 by_cases h0:0≤i
 ·rw[if_pos h0] at h
  by_cases h1:i < n
  ·rw[if_pos h1] at h
   have e:i.toNat=j:=AV h
   exact⟨by rw[seqIndex_of h0 h1,e],by omega,by omega,h1⟩
  ·rw[if_neg h1] at h;cases h
 ·rw[if_neg h0] at h
  by_cases h1:-(n:Int)≤i
  ·rw[if_pos h1] at h
   have e:(i+n).toNat=j:=AV h
   exact⟨by rw[seqIndex_neg (by omega) h1,e],by omega,h1,by omega⟩
  ·rw[if_neg h1] at h;cases h
theorem YO {α:Type}{xs:List α}{i:Int}{v:α} (h:atI xs i=some v):∃j,seqIndex? i xs.length=some j∧xs[j]?=some v∧j < xs.length∧-(xs.length:Int)≤i∧i < xs.length:=by
 unfold atI at h
 cases e:ixN xs.length i with
 | none=>rw[e] at h;cases h
 | some j =>
  rw[e] at h
  obtain⟨h1,h2,h3,h4⟩:=Zo e
  exact⟨j,h1,h,h2,h3,h4⟩
theorem Bw {α:Type}{xs:List α}{j:Nat}{v:α} (h:xs[j]?=some v):atI xs (j:Int)=some v:=by
 have hj:j < xs.length:=(Be.mp h).1
 have e:ixN xs.length (j:Int)=some j:=by
  unfold ixN
  rw[if_pos (by omega),if_pos (by omega)];simp
 unfold atI;rw[e];exact h
theorem ML {α:Type} (xs:List α) (v:α):atI (xs++[v]) (-1)=some v:=by
 have hl:(xs++[v]).length=xs.length+1:=by simp
 have e:ixN (xs++[v]).length (-1)=some xs.length:=by
  unfold ixN
  rw[hl,if_neg (by decide),if_pos (by omega)]
  congr 1
  omega
 unfold atI
 rw[e]
 show(xs++[v])[xs.length]?=some v
 simp
def QA (b:Expr):Prop:=∀o i,subscripted b false o i=operate [o,i] (getItem o i)
def IxR (X:Cx) (r:R2):Prop :=
 ∀(value slice:Expr) (pins:List (Addr×Obj)) (s:Shared) (σ:St) (H:Hp) (x y:V) (v u:Value) (Q:VK),Inv X pins σ H s→RelV x v→RelV y u→r x y H Q→
  subscripted slice false v u=operate [v,u] (getItem v u)→wpAny (model X.prog X.w) X.A (subscriptTail value slice v u) (EP X pins σ Q) X.xe s
def MtR (X:Cx) (id:String) (r:V→List V→Hp→VK→Prop):Prop :=
 ∀(pins:List (Addr×Obj)) (s:Shared) (σ:St) (H:Hp) (x:V) (xs:List V) (v:Value) (us:List Value) (Q:VK),Inv X pins σ H s→RelV x v→Vals xs us→r x xs H Q→
  wpAny (model X.prog X.w) X.A (call (.builtin id) (v::us)) (EP X pins σ Q) X.xe s
section
variable {X:Cx}{a b:Expr}{ta tb:TE}{pos:Pos}
theorem CC {r:R2} (hr:IxR X r) (ha:PE X a ta) (hb:PE X b tb) (hs:QA b):PE X (.Subscript a b pos) (tOp r ta tb):=by
 intro pins s σ H Q I h
 exact O7 (MO ha hb I h fun v u s2 x y H2 I2 rx ry q=>hr a b pins s2 σ H2 x y v u Q I2 rx ry q (hs _ _))
def S5 (K:AB):R2:=fun x y H Q=>∃p xs i v,x=.ref p∧y=.int i∧SqL K H p xs∧atI xs i=some v∧Q v H
theorem B1:IxR X (S5 X.K):=by
 intro value slice pins s σ H x y v u Q I rx ry h hs
 obtain⟨p,xs,i,z,rfl,rfl,hq,he,q⟩:=h
 cases rx
 obtain⟨t,rfl⟩:=ry
 obtain⟨its,r,pl,hz⟩:=I.list hq
 obtain⟨j,h1,h2,h3,h4,h5⟩:=YO he
 obtain⟨w,ew,rw'⟩:=r.get h2
 have hl:=r.length
 have hn:=R7
 have fin:EP X pins σ Q w s:=⟨z,H,I,rw',q⟩
 by_cases h0:0≤i
 ·have hj:i.toNat=j:=by
   rw[seqIndex_of h0 h5] at h1
   exact AV h1
  exact item_listR pl.isList h0 (by omega) (by rw[hj];simpa using ew) fin hs
 ·have hj:(i+(its.toArray.size:Int)).toNat=j:=by
   rw[seqIndex_neg (by omega) h4] at h1
   rw[Bf,← hl]
   exact AV h1
  exact subscriptTail_builtinR (x:=w) pl.isList.typeIs Xr.lookup
   (wpAny_getItem_list_neg (Q:=fun r s'=>r=w∧EP X pins σ Q r s') pl.isList (by omega) (by rw[Bf] <;> omega) (by omega) (by rw[hj];simpa using ew) ⟨rfl,fin⟩) hs
theorem dr (lo hi:Option Int) (n:Nat):(sliceBounds lo hi none n).1=((HT.sIx n 0 lo:Nat):Int)∧(sliceBounds lo hi none n).2.1=((HT.sIx n n hi:Nat):Int)∧(sliceBounds lo hi none n).2.2=1:=by
 refine⟨?_,?_,rfl⟩
 ·cases lo with
  | none=>simp[sliceBounds,HT.sIx]
  | some i =>
   simp only[sliceBounds,HT.sIx,O6,show(1:Int) > 0 by decide,if_true]
   by_cases h:i < 0
   ·simp only[h,if_true] <;> omega
   ·simp only[h,if_false] <;> omega
 ·cases hi with
  | none=>simp[sliceBounds,HT.sIx]
  | some i =>
   simp only[sliceBounds,HT.sIx,O6,show(1:Int) > 0 by decide,if_true]
   by_cases h:i < 0
   ·simp only[h,if_true] <;> omega
   ·simp only[h,if_false] <;> omega
theorem dm (its:List Value) (lo hi:Option Int):slicePick its.toArray lo hi none=((its.drop (HT.sIx its.length 0 lo)).take (HT.sIx its.length its.length hi - HT.sIx its.length 0 lo)).toArray:=by
 obtain⟨h1,h2,h3⟩:=dr lo hi its.toArray.size
 unfold slicePick
 rw[h1,h2,h3]
 simp only[sliceRange_one,pick_run,Bf] <;> rfl
def cM (K:AB):V→Option Int→Option Int→Hp→VK→Prop:=fun x lo hi H Q=>∃a xs,x=.ref a∧SqL K H a xs∧∀p,H p=none→Q (.ref p) (upd H p (.lst (CJ xs lo hi)))
theorem FY:SlR X (cM X.K):=by
 intro pins s σ H x v vl vu lo hi sl Q I rx hs pl pu h
 obtain⟨a,xs,rfl,hx,q⟩:=h
 cases rx
 obtain⟨its,r,ht,hz⟩:=I.list hx
 have hlen:=r.length
 refine⟨"list",_,Xr.lookup,ht.isList.typeIs,?_⟩
 refine wpAny_getItem_list_slice ht.isList hs pl pu .none (by simp) ?_ (by rw[Bf] <;> omega)
 rw[dm,← hlen]
 refine⟨.ref s.heap.objs.size,_,I.laid (t':=s.toks) (o:=.lst (CJ xs lo hi)) (fun b ob q=>A2 _ q) (AO _) ?_,rfl,q _ (I.hok.fresh (AO _))⟩
 exact⟨Bp (Yp xs lo hi) hz,_,0,(r.drop (HT.sIx xs.length 0 lo)).take (HT.sIx xs.length xs.length hi - HT.sIx xs.length 0 lo),BH _ rfl⟩
def Cq:V→Bool
 | .non=>true
 | .bl _=>true
 | .int _=>true
 | .str _=>true
 | _=>false
def eqV:V→V→Bool
 | .non,.non=>true
 | .bl a,.bl b=>a==b
 | .bl a,.int b=>(if a then 1 else 0)==b
 | .int a,.bl b=>a==(if b then 1 else 0)
 | .int a,.int b=>a==b
 | .str a,.str b=>a==b
 | _,_=>false
theorem ZI {A:Around}{s:Shared}{y x:V}{u v:Value} (ry:RelV y u) (rx:RelV x v) (fy:Cq y=true) (fx:Cq x=true):CP A s u v (eqV y x):=by
 cases y with
 | non =>
  cases ry
  cases x with
  | non=>cases rx;exact CP.same _
  | bl b=>cases rx;exact CP.none_bool b
  | int b=>obtain⟨t,rfl⟩:=rx;exact CP.none_int b t
  | str b=>obtain⟨t,rfl⟩:=rx;exact CP.none_str b t
  | _=>exact absurd (show false=true from fx) Aj
 | bl a =>
  cases ry
  cases x with
  | non=>cases rx;exact CP.bool_none a
  | bl b=>cases rx;exact CP.bool_bool a b
  | int b=>obtain⟨t,rfl⟩:=rx;exact CP.bool_int a b t
  | str b=>obtain⟨t,rfl⟩:=rx;exact CP.bool_str a b t
  | _=>exact absurd (show false=true from fx) Aj
 | int a =>
  obtain⟨t',rfl⟩:=ry
  cases x with
  | non=>cases rx;exact CP.int_none a t'
  | bl b=>cases rx;exact CP.int_bool a t' b
  | int b=>obtain⟨t,rfl⟩:=rx;exact Xd a t' b t
  | str b=>obtain⟨t,rfl⟩:=rx;exact Xe a t' b t
  | _=>exact absurd (show false=true from fx) Aj
 | str a =>
  obtain⟨t',rfl⟩:=ry
  cases x with
  | non=>cases rx;exact CP.str_none a t'
  | bl b=>cases rx;exact CP.str_bool a t' b
  | int b=>obtain⟨t,rfl⟩:=rx;exact Xf a t' b t
  | str b=>obtain⟨t,rfl⟩:=rx;exact CP.str_str a t' b t
  | _=>exact absurd (show false=true from fx) Aj
 | _=>exact absurd (show false=true from fy) Aj
def eqU (x:V) (u:Value):Bool:=match u with
 | .none=>eqV .non x
 | .bool b=>eqV (.bl b) x
 | .int i _=>eqV (.int i) x
 | .str z _=>eqV (.str z) x
 | _=>false
theorem IE {x y:V}{u:Value} (r:RelV y u) (f:Cq y=true):eqU x u=eqV y x:=by
 cases y with
 | non=>cases r;rfl
 | bl b=>cases r;rfl
 | int i=>obtain⟨t,rfl⟩:=r;rfl
 | str z=>obtain⟨t,rfl⟩:=r;rfl
 | _=>exact absurd (show false=true from f) Aj
theorem MI {x:V}:∀{xs:List V}{us:List Value},Vals xs us→xs.all Cq=true→us.any (eqU x)=xs.any fun y=>eqV y x
 | _,_,.nil,_=>rfl
 | y::xs,u::us,.cons r t,f=>by
  rw[HY,BC] at f
  rw[D4,D4,IE r f.1,MI t f.2]
theorem IT {A:Around}{s:Shared}{x:V}{v:Value} (rx:RelV x v) (fx:Cq x=true):∀{xs:List V}{us:List Value},Vals xs us→xs.all Cq=true→∀u∈us,CP A s u v (eqU x u)
 | _,_,.nil,_=>fun u hu=>by cases hu
 | y::xs,u::us,.cons r t,f=>fun u' hu=>by
  rw[HY,BC] at f
  rcases AY.mp hu with rfl | hu
  ·rw[IE r f.1];exact ZI r rx f.1 fx
  ·exact IT rx fx t f.2 u' hu
def inV (x:V) (xs:List V):Bool:=xs.any fun y=>eqV y x
def rIn (K:AB) (neg:Bool):R2:=fun x y H Q=>∃p xs,y=.ref p∧(SqL K H p xs∨SqT K H p xs)∧Cq x=true∧xs.all Cq=true∧Q (.bl (if neg then !inV x xs else inV x xs)) H
theorem Sg:OpR X (compareOp .In) (rIn X.K false):=by
 intro pins s σ H x y v u Q I rx ry h
 obtain⟨p,xs,rfl,hq,fx,fs,q⟩:=h
 cases ry
 rcases hq with hq | hq
 ·obtain⟨its,r,pl,hz⟩:=I.list hq
  refine SeqAt.in_listAt (eqU x) pl.isList (fun w hw=>IT rx fx r fs w (by simpa using hw)) ⟨.bl _,H,I,rfl,?_⟩
  rw[show its.toArray.any (eqU x)=its.any (eqU x) by simp,MI r fs]
  exact q
 ·obtain⟨its,r,pl,hz⟩:=I.tuple hq
  refine SeqAt.in_tupleAt (eqU x) pl (fun w hw=>IT rx fx r fs w (by simpa using hw)) ⟨.bl _,H,I,rfl,?_⟩
  rw[show its.toArray.any (eqU x)=its.any (eqU x) by simp,MI r fs]
  exact q
theorem Bx:EO X (.builtin "len") (fun xs H Q=>∃p ys,xs=[.ref p]∧(SqL X.K H p ys∨SqT X.K H p ys)∧Q (.int ys.length) H):=by
 intro pins s σ H xs us Q I r h
 obtain⟨p,ys,rfl,hq,q⟩:=h
 obtain⟨u,rfl,rx⟩:=Ii r
 cases rx
 have hn:=R7
 rcases hq with hq | hq
 ·obtain⟨its,r',pl,hz⟩:=I.list hq
  have hlen:=r'.length
  exact Calls.call_len_list pl.isList (by simp only[Bf] <;> omega) ⟨.int ys.length,H,I.tok _,⟨s.toks+1,by rw[Bf,hlen]⟩,q⟩
 ·obtain⟨its,r',pl,hz⟩:=I.tuple hq
  have hlen:=r'.length
  exact len_tuple pl (by simp only[Bf] <;> omega) ⟨.int ys.length,H,I.tok _,⟨s.toks+1,by rw[Bf,hlen]⟩,q⟩
theorem QS:EO X (.type "tuple") (fun xs H Q=>∃p ys,xs=[.ref p]∧((SqL X.K H p ys∧∀l,H l=none→Q (.ref l) (upd H l (.tup ys)))∨(SqT X.K H p ys∧Q (.ref p) H))):=by
 intro pins s σ H xs us Q I r h
 obtain⟨p,ys,rfl,h⟩:=h
 obtain⟨u,rfl,rx⟩:=Ii r
 cases rx
 rcases h with ⟨hq,q⟩ | ⟨hq,q⟩
 ·obtain⟨its,r',pl,hz⟩:=I.list hq
  have hlen:=r'.length
  refine call_tuple_list pl.isList (fun h' kp=>?_) (by simp only[Bf] <;> omega)
  have I1:Inv X pins σ H { s with heap:=h' }:=I.kept (t':=s.toks) kp
  have I2:Inv X pins σ (upd H h'.objs.size (.tup ys)) { s with heap:=h'.push { cls:=.type "tuple",data:=.seq its.toArray } } :=
   I1.laid (t':=s.toks) (fun b o e=>A2 _ e) (AO _) (show ObjOk X.prog X.w _ _ _ (.tup ys) from⟨hz,its,r',IsTup.new _ _⟩)
  exact⟨.ref h'.objs.size,_,I2,rfl,q _ (I1.hok.fresh (AO _))⟩
 ·obtain⟨its,r',pl,hz⟩:=I.tuple hq
  exact call_tuple_same pl ⟨.ref p,H,I,rfl,q⟩
def tyV (K:AB) (T:String) (x:V) (H:Hp):Prop:=match x with
 | .str _=>T="str"
 | .int _=>T="int"
 | .ref p=>(T="list"∧∃xs,SqL K H p xs)∨(T="tuple"∧∃o,K.lookup p=some o∧o.cls=.type "tuple"∧o.dict=none)∨
  (T="dict"∧((∃kvs,H p=some (.dK kvs))∨∃kvs,H p=some (.dT kvs)))∨(T="set"∧∃S n,H p=some (.set S n))
 | _=>False
theorem fR {pins:List (Addr×Obj)}{σ:St}{H:Hp}{s:Shared}{T:String}{x:V}{v:Value} (I:Inv X pins σ H s) (r:RelV x v) (ty:tyV X.K T x H):
  s.TypeIs v T∧∀a,v=.ref a→∃ob,s.heap.get? a=some ob∧ob.dict=none:=by
 cases x with
 | str z =>
  obtain⟨t,rfl⟩:=r
  cases (show T="str" from ty)
  exact⟨typeIs_str s z t,fun _ e=>nomatch e⟩
 | int i =>
  obtain⟨t,rfl⟩:=r
  cases (show T="int" from ty)
  exact⟨typeIs_int s i t,fun _ e=>nomatch e⟩
 | ref p =>
  cases r
  rcases ty with ⟨rfl,xs,hq⟩ | ⟨rfl,o,hk,hc,hd⟩ | ⟨rfl,hk⟩ | ⟨rfl,S,n,hk⟩
  ·obtain⟨its,_,pl,_⟩:=I.list hq
   refine⟨pl.isList.typeIs,fun a e=>?_⟩
   cases e
   obtain⟨o,n,e,c,hd,_⟩:=pl
   exact⟨o,e,hd⟩
  ·refine⟨⟨o,I.kIn p o hk,hc⟩,fun a e=>?_⟩
   cases e
   exact⟨o,I.kIn _ o hk,hd⟩
  ·have z:∃o,s.heap.get? p=some o∧o.ExactDict:=by
    rcases hk with ⟨kvs,hk⟩ | ⟨kvs,hk⟩
    ·obtain⟨_,_,_,_,o,_,_,e,ex,_⟩:=I.hok p _ hk
     exact⟨o,e,ex⟩
    ·obtain⟨_,_,_,_,o,_,_,e,ex,_⟩:=I.hok p _ hk
     exact⟨o,e,ex⟩
   obtain⟨o,e,ex⟩:=z
   refine⟨⟨o,e,ex.1⟩,fun a e2=>?_⟩
   cases e2
   exact⟨o,e,ex.2.1⟩
  ·obtain⟨o,_,_,_,e,ex,_⟩:=I.hok p _ hk
   refine⟨⟨o,e,ex.1⟩,fun a e2=>?_⟩
   cases e2
   exact⟨o,e,ex.2.1⟩
 | _=>exact BX ty
def tBM (K:AB) (T:String) (r:V→List V→Hp→VK→Prop) (to:TE) (t:TA):TE:=fun σ H Q=>to σ H fun x H1=>tyV K T x H1∧t σ H1 fun xs H2=>r x xs H2 Q
variable {o e:Expr}{es:List Expr}{to:TE}{t:TA}{name:Str}{apos cpos:Pos}{T id:String}{r:V→List V→Hp→VK→Prop}
theorem DS (pa:PlainAttrs T) (slot:Slot T name id) (hty:typeOf (.builtin id)=pure (.type "method_descriptor")) (hm:MtR X id r) (ho:PE X o to) (ha:PA X (e::es) t)
  (hbase:attributeBase o name X.env (eval o X.env)=eval o X.env:=by rfl)
  (hfew:((backTo cpos (starEach (e::es) X.env)).all (fun x=>!x.1)&&(backToKw cpos (keywordEach [] X.env)).all (fun x=>x.1.isSome)
   && decide ((e::es).length+([]:List Keyword).length+(if ([]:List Keyword).isEmpty then 0 else 1) < 30))=true:=by rfl)
  (hline:(apos.endLine==cpos.line)=true:=by rfl) (hs:starEach (e::es) X.env=(false,eval e X.env)::starEach es X.env:=by rfl) (hplain:(backTo cpos (starEach es X.env)).any (·.1)=false:=by rfl):
  PE X (.Call (.Attribute o name apos) (e::es) [] cpos) (tBM X.K T r to t):=by
 intro pins s σ H Q I h
 refine wpAny_Call_method_late hbase hfew hline rfl (thn (ho pins s σ H _ I h) fun v s1 ⟨x,H1,I1,r1,ty,q1⟩=>?_)
 obtain⟨h1,h2⟩:=fR I1 r1 ty
 refine⟨T,id,pa,slot,hty,h1,h2,?_⟩
 have hA:=ha cpos pins s1 σ H1 _ I1 q1
 rw[hs] at hA ⊢
 refine PN (by show(false || (backTo cpos (starEach es X.env)).any (·.1))=false;rw[hplain] <;> rfl) (PQ ?_)
 exact thn hA fun us s2 ⟨vs,H2,I2,r2,q2⟩=>hm pins s2 σ H2 x vs v us Q I2 r1 r2 q2
/- xs.append(e),list.index on a module's tuple .. are MtR facts of 06m -/
end
end L2
namespace L2
open PySem PySem.Spec PyProof.Rows
def MtM (X:Cx) (id:String) (r:V→List V→Hp→VK→Prop):Prop :=
 ∀(pins:List (Addr×Obj)) (s:Shared) (σ:St) (H:Hp) (x:V) (xs:List V) (v:Value) (us:List Value) (Q:VK),Inv X pins σ H s→RelV x v→Vals xs us→r x xs H Q→
  wpAny (model X.prog X.w) X.A (call (.builtin id) (v::us)) (EP X pins σ Q) X.xe s
theorem Vals.one:∀{x:V}{us:List Value},Vals [x] us→∃u,us=[u]∧RelV x u
 | _,_,.cons r .nil=>⟨_,rfl,r⟩
section
variable {X:Cx}{pins:List (Addr×Obj)}{σ:St}{H:Hp}{s:Shared}{l b:Addr}{xs ys zs:List V}
theorem Inv.lset {its its':List Value}{n:Nat}{f:Array Value→Array Value}{t':Nat} (I:Inv X pins σ H s) (hH:H l=some (.lst xs))
  (e:s.heap.get? l=some { cls:=.type "list",data:=.seq its.toArray n }) (hf:f its.toArray=its'.toArray) (hv:Vals ys its') (hz:ys.length≤sizeLine):
  Inv X pins σ (upd H l (.lst ys)) { s with heap:=s.heap.update l (Eg f),toks:=t' }:=by
 have q:=PySem.IsL.update e f
 rw[hf] at q
 refine I.write (x:=l) (e:=l) (by rw[hH];exact trivial) (.inl rfl) (fun b' u hb hu=>(Fs s.heap (Eg f) (Af hb)).trans hu) ⟨_,q⟩ ?_
 exact⟨hz,its',_,hv,q⟩
theorem Inv.lnew {its:List Value}{t':Nat} (I:Inv X pins σ H s) (hv:Vals ys its) (hz:ys.length≤sizeLine):
  Inv X pins σ (upd H s.heap.objs.size (.lst ys)) { s with heap:=s.heap.push { cls:=.type "list",data:=.seq its.toArray },toks:=t' } :=
 I.laid (fun _ _ q=>A2 _ q) (AO _) ⟨hz,its,0,hv,BH _ rfl⟩
theorem Inv.fresh (I:Inv X pins σ H s):H s.heap.objs.size=none:=I.hok.fresh (AO _)
theorem Inv.lstM (I:Inv X pins σ H s) (hH:H l=some (.lst xs)):xs.length≤sizeLine∧∃(its:List Value) (n:Nat),Vals xs its∧xs.length=its.length∧s.heap.get? l=some { cls:=.type "list",data:=.seq its.toArray n }:=by
 obtain⟨z,its,n,r,e⟩:=I.hok l _ hH
 exact⟨z,its,n,r,r.length,e⟩
theorem NT {n:Nat} (h:n≤sizeLine):PK n=false:=by
 unfold PK
 exact decide_eq_false (by omega)
end
section
variable {X:Cx}
def Nf:V→List V→Hp→VK→Prop:=fun x vs H Q=>∃l xs y,x=.ref l∧vs=[y]∧H l=some (.lst xs)∧xs.length < sizeLine∧Q .non (upd H l (.lst (xs++[y])))
theorem Es:MtM X "list.append" Nf:=by
 intro pins s σ H x vs v us Q I rx rv h
 obtain⟨l,xs,y,rfl,rfl,hH,hz,q⟩:=h
 cases rx
 obtain⟨u,rfl,ru⟩:=rv.one
 obtain⟨z,its,n,r,hl,e⟩:=I.lstM hH
 refine Lr F.slot_list_append ⟨_,e,rfl⟩ F.entry_list_append (F.args_list_append_2 _ _) (PySem.list_append l its.toArray n u (by rw[Bf];omega)) ⟨e,?_⟩
 refine⟨.non,_,I.lset (its':=its++[u]) hH e (by simp) (r.append (.cons ru .nil)) ?_,rfl,q⟩
 rw[BL,Cs]
 omega
def cG:V→List V→Hp→VK→Prop:=fun x vs H Q=>∃l b xs zs,x=.ref l∧vs=[.ref b]∧H l=some (.lst xs)∧H b=some (.lst zs)∧xs.length+zs.length≤sizeLine∧Q .non (upd H l (.lst (xs++zs)))
theorem SO:MtM X "list.extend" cG:=by
 intro pins s σ H x vs v us Q I rx rv h
 obtain⟨l,b,xs,zs,rfl,rfl,hH,hB,hz,q⟩:=h
 cases rx
 obtain⟨u,rfl,ru⟩:=rv.one
 cases ru
 obtain⟨z,its,n,r,hl,e⟩:=I.lstM hH
 obtain⟨z2,its2,n2,r2,hl2,e2⟩:=I.lstM hB
 have hsz:its.toArray.size+its2.toArray.size≤sizeLine:=by rw[Bf,Bf];omega
 have hlong:¬(!its.toArray.isEmpty&&PK (its.toArray.size+its2.toArray.size))=true:=by
  rw[NT hsz,GO]
  exact Aj
 refine Lr F.slot_list_extend ⟨_,e,rfl⟩ F.entry_list_extend (F.args_list_extend_2 _ _)
  (AutoSeq1.list_extend_list_list_0 l its.toArray n b its2.toArray n2 hlong (by rw[Bf];omega) (by omega)) ⟨e,e2,?_⟩
 refine⟨.non,_,I.lset (its':=its++its2) hH e (by simp) (r.append r2) ?_,rfl,q⟩
 rw[BL]
 omega
def cD:R2:=fun x y H Q=>∃l b xs zs,x=.ref l∧y=.ref b∧H l=some (.lst xs)∧H b=some (.lst zs)∧xs.length+zs.length≤sizeLine∧∀p,H p=none→Q (.ref p) (upd H p (.lst (xs++zs)))
theorem NU:OpR X (binaryOp .Add) cD:=by
 intro pins s σ H x y v u Q I rx ry h
 obtain⟨l,b,xs,zs,rfl,rfl,hH,hB,hz,q⟩:=h
 cases rx
 cases ry
 obtain⟨z,its,n,r,hl,e⟩:=I.lstM hH
 obtain⟨z2,its2,n2,r2,hl2,e2⟩:=I.lstM hB
 refine PySem.P.add_list e e2 ?_ (by rw[Bf,Bf];omega)
 have ea:its.toArray++its2.toArray=(its++its2).toArray:=by simp
 rw[ea]
 exact⟨.ref _,_,I.lnew (t':=s.toks) (r.append r2) (by rw[BL];omega),rfl,q _ I.fresh⟩
end
section
variable {prog:Program}{w:World}{A:Around}{E:Value→Shared→Prop}{s:Shared}
theorem YZ {a c n:Nat} (hac:a≤c) (hc:c≤n):sliceBounds (some (a:Int)) (some (c:Int)) none n=((a:Int),(c:Int),1):=by
 simp only[sliceBounds,O6]
 have h1:¬((a:Int) < 0):=by omega
 have h2:¬((c:Int) < 0):=by omega
 simp only[h1,h2,if_false,show(1:Int) > 0 by decide,if_true]
 congr 1
 ·omega
 ·congr 1;omega
set_option maxRecDepth 100000 in
theorem fZ {l b sl : Addr} {items new : Array Value} {n n2 : Nat} {vl vu : Value} {a c : Nat} {Q : Unit → Shared → Prop}
    (e : s.heap.get? l = some { cls := .type "list", data := .seq items n }) (e2 : s.heap.get? b = some { cls := .type "list", data := .seq new n2 }) (hne : l ≠ b)
    (hs : s.heap.IsSliceOf sl vl vu .none) (pl : IsPart vl (some (a : Int))) (pu : IsPart vu (some (c : Int))) (hac : a ≤ c) (hc : c ≤ items.size)
    (hsz : items.size + new.size ≤ sizeLine) (h : Q () { s with heap := s.heap.update l (Eg fun xs => xs.extract 0 a ++ new ++ xs.extract c xs.size) }) :
    wpAny (model prog w) A (setItem (.ref l) (.ref sl) (.ref b)) Q E s := by
  have hl : s.heap.IsList l items := XZ e
  have hb : s.heap.IsList b new := XZ e2
  obtain ⟨os, hos, hcs, hds⟩ := id hs
  have hTs : s.TypeIs (.ref sl) "slice" := ⟨os, hos, hcs⟩
  have hstep : ¬ ((rawPart none == rawInt 0) = true) := Aj
  have hsame : Ld (.ref l) (.ref b) = false := by
    unfold Ld
    exact beq_eq_false_iff_ne.mpr hne
  have hmax : (max (a : Int) (c : Int)).toNat = c := by omega
  have hz' : ((fun xs : Array Value => xs.extract 0 a ++ new ++ xs.extract c xs.size) items).size ≤ sizeLine + 1 := by
    simp only [Array.size_append, Array.size_extract]
    omega
  unfold setItem
  try with_reducible refine Gq ?_
  first | refine AE (AL ?_) | skip
  refine AE (wpAny_sequenceKey hl.typeIs (by decide) ?_)
  refine AE (Hr (name := Eh "__setitem__") hl.typeIs Xs
    (Ei Xs hl.typeIs entry_list_setitem ?_ (args_list_setitem _ _ _)))
  show wpAny _ _ (XA (.ref sl) >>= _) _ _ s
  refine AE ?_
  unfold XA
  refine AE (Fx hTs slice_no_index ?_)
  simp only [Option.isNone_none, if_true]
  refine AL ?_
  show wpAny _ _ (typeOf (.ref sl) >>= _) _ _ s
  refine AE (P2 hTs ?_)
  first
    | rw [if_neg (by decide)]
    | refine Pb (by decide) ?_
  rw [listSliceParts_eq]
  refine AE (AE (Gn hos hds (x := .none) rfl (AE (Py .none ?_))))
  rw [if_neg hstep]
  refine AE (Gn hos hds (x := vl) rfl (AE (Py pl ?_)))
  refine AE (Gn hos hds (x := vu) rfl (AE (Py pu (AL ?_))))
  first
    | simp only [hsame, CW, if_false]
    | refine Pb hsame ?_
    | (dsimp only
       rw [if_neg (by rw [hsame]; exact Aj)])
  refine AE (m := W8 (.ref b) "must assign iterable to extended slice") ?_
  unfold W8
  refine AE (P2 hb.typeIs ?_)
  first
    | refine PySem.W.KFB.if_so (by decide) ?_
    | rw [if_pos (by decide)]
    | simp only [beq_self_eq_true, OW, if_true]
  unfold PJ
  refine AE (Ej e2 rfl (AL ?_))
  refine AE (AE (Ej e rfl (AL ?_)))
  refine AE (Lv ((sliceIndices_raw (some (a : Int)) (some (c : Int)) none items.size (by simp)).trans (congrArg (pure : Int × Int × Int → Sem (Int × Int × Int)) (YZ hac hc))) ?_)
  show wpAny _ _ (if ((1 : Int) == 1) = true then _ else _) _ _ s
  rw [if_pos (by decide)]
  refine AE (JU ?_)
  first
    | simp only [NT hsz, CW, if_false]
    | refine Pb (NT hsz) ?_
  first | refine AE (AL ?_) | skip
  show wpAny _ _ (updateSeq l (fun xs => xs.extract 0 ((a : Int)).toNat ++ new ++ xs.extract (max (a : Int) (c : Int)).toNat xs.size) >>= _) _ _ s
  rw [hmax, GU]
  refine AE (Gu (hz := Bp (LK _ _) hsz) (_hz' := hz') e rfl ?_)
  refine AE (Gr ?_)
  first
    | exact AE (AL (AL ⟨.none, rfl, AL h⟩))
    | exact AL ⟨.none, rfl, AL h⟩
end
section
variable {X:Cx}
end
end L2
namespace L2
open PySem PySem.Spec PyProof.Rows
theorem Vals.bls:∀{bs:List Bool}{us:List Value},Vals (bs.map V.bl) us→us=bs.map Dg
 | [],us,h=>by
  rw[Fo] at h
  cases h
  rfl
 | b::bs,us,h=>by
  rw[Am] at h
  cases h with
  | cons r t =>
   cases r
   rw[Vals.bls t,Am]
theorem Vals.ref1 {a:Addr}{us:List Value} (r:Vals [V.ref a] us):us=[Ak a]:=by
 cases r with
 | cons r t =>
  cases t
  cases r
  rfl
section
variable {prog:Program}{w:World}{A:Around}{E:Value→Shared→Prop}{s:Shared}{l:Addr}{its:List Value}{ns:List Int}{Q:Value→Shared→Prop}
end
section
variable {X:Cx}
end
section
variable {X:Cx}
def S4 (K:AB):V→List V→Hp→VK→Prop:=fun x xs H Q=>∃(a:Addr) (ys:List V) (y:V) (j:Nat) (z:V),x=V.ref a∧xs=[y]∧SqL K H a ys∧Cq y=true∧ys.all Cq=true∧ys[j]?=some z∧eqV z y=true∧
 (∀(m:Nat) (z':V),m < j→ys[m]?=some z'→eqV z' y=false)∧Q (.int (j:Nat)) H
theorem RD {ys:List V} (f:ys.all Cq=true) {j:Nat}{z:V} (h:ys[j]?=some z):Cq z=true:=C7.mp f z (CZ h)
theorem ab:MtR X "list.index" (S4 X.K):=by
 intro pins s σ H x xs v us Q I rx rxs h
 obtain⟨a,ys,y,j,z,rfl,rfl,hs,fy,fys,hz,hzj,hno,q⟩:=h
 cases rx
 cases rxs with
 | cons ry rt =>
  rename_i uy ut
  cases rt
  obtain⟨its,rv,⟨⟨cls,dd,data,sl⟩,n,ho,hc,hdn,hd⟩,hlen⟩:=I.list hs
  simp only at hc hd
  subst hc hd
  obtain⟨u,hu,ru⟩:=rv.get hz
  obtain⟨hjl,hje⟩:=Be.mp hu
  have hvl:=rv.length
  have hj:j < its.toArray.size:=by simpa using hjl
  have hsl:=JQ
  refine Lr XW ⟨_,ho,rfl⟩ PySem.F.entry_list_index (PySem.F.args_list_index_2 _ _)
   (SeqAt.list_indexAt a its.toArray n dd sl uy (eqU y) j hj (by omega) ?_ ?_) ⟨ho,fun u' hu'=>IT ry fy rv fys u' (by simpa using hu'),?_⟩
  ·have e1:its.toArray[j]=u:=by simpa using hje
   rw[e1,IE ru (RD fys hz)]
   exact hzj
  ·intro m hm hmj
   have hml:m < its.length:=by simpa using hm
   have hmy:m < ys.length:=by omega
   have hy':ys[m]?=some ys[m]:=As hmy
   obtain⟨u2,hu2,ru2⟩:=rv.get hy'
   obtain⟨_,hme⟩:=Be.mp hu2
   have e1:its.toArray[m]=u2:=by simpa using hme
   rw[e1,IE ru2 (RD fys hy')]
   exact hno m _ hmj hy'
  ·exact⟨.int (j:Nat),H,I.tok _,⟨_,rfl⟩,q⟩
end
section
variable {X:Cx}
end
theorem Rm {prog:Program}{w:World}{A:Around}{E:Value→Shared→Prop}{s:Shared}{l:Addr}{items:Array Value}{Q:Value→Shared→Prop} (hl:s.heap.IsList l items)
  (h:∀s₂:Shared,s₂={ s with heap:=s.heap.push { cls:=.type "list_iterator",data:=.fields #[.ref l,.int 0 0] } }→
   (s₂.heap.IsListIter s.heap.objs.size l 0∧s₂.heap.IsList l items)→l≠s.heap.objs.size→Q (.ref s.heap.objs.size) s₂):wpAny (model prog w) A (pyIter (.ref l)) Q E s:=by
 have hlt:l < s.heap.objs.size:=by obtain⟨_,e,_⟩:=hl;exact Ah e
 exact Pz hl (h _ rfl ⟨⟨_,BH _ rfl,rfl,rfl⟩,hl.push _⟩ (BO hlt))
theorem V7 {prog:Program}{w:World}{A:Around}{bs:List Bool}{its:List Value} (e:its=bs.map Dg):
  TruthOf prog w A (fun i v=>its.toArray[i]?=some v) (fun i=>bs.getD i false):=fun i v s Q E hv hq=>by
 have hv':its[i]?=some v:=by simpa using hv
 rw[e,AX] at hv'
 obtain⟨b,hb,rfl⟩:=Gb.mp hv'
 have hg:bs.getD i false=b:=by rw[D5,hb] <;> rfl
 have hq':Q (bs.getD i false) s:=hq
 rw[hg] at hq'
 exact EN hq'
theorem QG:∀bs:List Bool,(A0 bs.length).any (fun i=>bs.getD i false)=bs.any id
 | []=>rfl
 | b::bs=>by
  rw[A9,Hd,D4,HZ,D4,← QG bs]
  all_goals rfl
theorem QD:∀bs:List Bool,(A0 bs.length).all (fun i=>bs.getD i false)=bs.all id
 | []=>rfl
 | b::bs=>by
  rw[A9,Hd,HY,GV,HY,← QD bs]
  all_goals rfl
section
variable {X:Cx}
def cC (K:AB):List V→Hp→VK→Prop:=fun vs H Q=>∃(a:Addr) (bs:List Bool),vs=[V.ref a]∧SqL K H a (bs.map V.bl)∧Q (.bl (bs.any id)) H
def cA (K:AB):List V→Hp→VK→Prop:=fun vs H Q=>∃(a:Addr) (bs:List Bool),vs=[V.ref a]∧SqL K H a (bs.map V.bl)∧Q (.bl (bs.all id)) H
theorem Qa (hc:X.calm=true):EO X (.builtin "any") (cC X.K):=by
 intro pins s σ H vs us Q I r h
 obtain⟨a,bs,rfl,hs,q⟩:=h
 obtain⟨its,rv,hl,_⟩:=I.list hs
 rw[Vals.ref1 r]
 have hb:=rv.bls
 refine call_any_walk (Rm hl.isList fun s₂ e2 st hne=>?_)
 subst e2
 refine⟨_,_,_,_,_,_,_,rfl,Pk (A:=X.A.in1) (I.ok.hd hc) _ a hne its.toArray,st,V7 hb,fun h' tk hk=>?_⟩
 refine⟨.bl _,H,I.kept fun b o eo=>hk b o (fun hmem=>?_) (A2 _ eo),?_,q⟩
 ·rcases AY.mp hmem with e1 | hmem
  ·exact absurd (e1▸Ah eo) (Bu _)
  ·cases hmem
 ·show Dg _=Dg _
  rw[← QG,hb,Bf,AF]
theorem Jk (hc:X.calm=true):EO X (.builtin "all") (cA X.K):=by
 intro pins s σ H vs us Q I r h
 obtain⟨a,bs,rfl,hs,q⟩:=h
 obtain⟨its,rv,hl,_⟩:=I.list hs
 rw[Vals.ref1 r]
 have hb:=rv.bls
 refine call_all_walk (Rm hl.isList fun s₂ e2 st hne=>?_)
 subst e2
 refine⟨_,_,_,_,_,_,_,rfl,Pk (A:=X.A.in1) (I.ok.hd hc) _ a hne its.toArray,st,V7 hb,fun h' tk hk=>?_⟩
 refine⟨.bl _,H,I.kept fun b o eo=>hk b o (fun hmem=>?_) (A2 _ eo),?_,q⟩
 ·rcases AY.mp hmem with e1 | hmem
  ·exact absurd (e1▸Ah eo) (Bu _)
  ·cases hmem
 ·show Dg _=Dg _
  rw[← QD,hb,Bf,AF]
end
mutual
inductive Dp (K:AB) (H:Hp):V→PyData→Prop
 | non:Dp K H .non .none
 | bl (b:Bool):Dp K H (.bl b) (.bool b)
 | int (i:Int):Dp K H (.int i) (.int i)
 | str (x:Str):Dp K H (.str x) (.str x)
 | lst {a:Addr} {xs:List V} {ds:List PyData}:SqL K H a xs→Gx K H xs ds→Dp K H (.ref a) (.list ds)
 | tup {a:Addr} {xs:List V} {ds:List PyData}:SqT K H a xs→Gx K H xs ds→Dp K H (.ref a) (.tuple ds)
inductive Gx (K:AB) (H:Hp):List V→List PyData→Prop
 | nil:Gx K H [] []
 | cons {v:V} {vs:List V} {d:PyData} {ds:List PyData}:Dp K H v d→Gx K H vs ds→Gx K H (v::vs) (d::ds)
end
section
variable {X:Cx}{pins:List (Addr×Obj)}{σ:St}{H:Hp}{s:Shared}
mutual
theorem Dp.reads (I:Inv X pins σ H s):∀(d:PyData) (v:V) (u:Value),Dp X.K H v d→RelV v u→∃as,Reads s.heap u d as
 | .none,_,_,h,r=>by
  cases h
  cases r
  exact⟨_,Reads.none⟩
 | .bool b,_,_,h,r=>by
  cases h
  cases r
  exact⟨_,Reads.bool b⟩
 | .int i,_,_,h,r=>by
  cases h
  obtain⟨t,rfl⟩:=r
  exact⟨_,Reads.int i t⟩
 | .str x,_,_,h,r=>by
  cases h
  obtain⟨t,rfl⟩:=r
  exact⟨_,Reads.str x t⟩
 | .list ds,_,_,h,r=>by
  cases h with
  | lst hs ha =>
   cases r
   obtain⟨its,rv,⟨o,n,ho,hc,_,hd⟩,_⟩:=I.list hs
   obtain⟨as,hr⟩:=Dp.readsAll I ds _ its ha rv
   exact⟨_,Reads.list ho hc hd hr⟩
 | .tuple ds,_,_,h,r=>by
  cases h with
  | tup hs ha =>
   cases r
   obtain⟨its,rv,⟨o,ho,hc,n,hd⟩,_⟩:=I.tuple hs
   obtain⟨as,hr⟩:=Dp.readsAll I ds _ its ha rv
   exact⟨_,Reads.tuple ho hc hd hr⟩
 | .dict _,_,_,h,_=>by cases h
theorem Dp.readsAll (I:Inv X pins σ H s):∀(ds:List PyData) (vs:List V) (us:List Value),Gx X.K H vs ds→Vals vs us→∃as,ReadsAll s.heap us ds as
 | [],_,_,h,r=>by
  cases h
  cases r
  exact⟨_,ReadsAll.nil⟩
 | d::ds,_,_,h,r=>by
  cases h with
  | cons h1 h2 =>
   cases r with
   | cons r1 r2 =>
    obtain⟨as,q1⟩:=Dp.reads I d _ _ h1 r1
    obtain⟨bs,q2⟩:=Dp.readsAll I ds _ _ h2 r2
    exact⟨_,ReadsAll.cons q1 q2⟩
end
end
section
variable {X:Cx}
def cE (K:AB):R2:=fun x y H Q=>∃d e,Dp K H x d∧Dp K H y e∧JN d=true∧JN e=true∧Q (.bl (Fu d e)) H
def cJ (K:AB):R2:=fun x y H Q=>∃d e,Dp K H x d∧Dp K H y e∧JN d=true∧JN e=true∧Q (.bl (!Fu d e)) H
theorem GI (hu:X.A.units+64 < cLine):OpR X (compareOp .Eq) (cE X.K):=by
 intro pins s σ H x y v u Q I rx ry h
 obtain⟨d,e,hd,he,sd,se,q⟩:=h
 obtain⟨as,r1⟩:=Dp.reads I d x v hd rx
 obtain⟨bs,r2⟩:=Dp.reads I e y u he ry
 exact SeqAt.compareEq_shaped r1 r2 sd se hu ⟨.bl _,H,I,rfl,q⟩
theorem IW (hu:X.A.units+64 < cLine):OpR X (compareOp .NotEq) (cJ X.K):=by
 intro pins s σ H x y v u Q I rx ry h
 obtain⟨d,e,hd,he,sd,se,q⟩:=h
 obtain⟨as,r1⟩:=Dp.reads I d x v hd rx
 obtain⟨bs,r2⟩:=Dp.reads I e y u he ry
 exact SeqAt.compareNe_shaped r1 r2 sd se hu ⟨.bl _,H,I,rfl,q⟩
end
end L2
namespace L2
open PySem PySem.Spec PyProof.Rows
abbrev P4 (h:Heap) (c:Addr) (v:Option Value):Prop:=h.IsCell c v
def cZ (scope sc:Scope):Scope :=
 { scope with names:=scope.names.map fun (n,k)=>if (k==.free&&sc.kind==.function&&sc.names.lookup n==some .cell) then (n,.cell) else (n,k) }
def By (cells:List (Str×Addr)):List (Str×NameKind)→List (Str×Addr)→List (Str×Addr)
 | [],acc=>acc
 | (n,k)::r,acc=>if k==.free then By cells r ((n,(cells.lookup n).getD 0)::acc) else By cells r acc
theorem QX (env:Env) (f:Str×NameKind→List (Str×Addr)→Sem (ForInStep (List (Str×Addr))))
  (hf:∀n k c,f (n,k) c=if k==.free then (do let a ← cellOf env n;pure (.yield ((n,a)::c))) else pure (.yield c)):
  ∀(names:List (Str×NameKind)) (acc:List (Str×Addr)),(∀y∈names,y.2=.free→∃c,env.cells.lookup y.1=some c)→forIn names acc f=pure (By env.cells names acc)
 | [],acc,_=>by rw[List.forIn_nil];rfl
 | (n,k)::r,acc,h=>by
  rw[List.forIn_cons,hf]
  have ih:=fun acc=>QX env f hf r acc fun y hy=>h y (Ar _ hy)
  unfold By
  by_cases hk:(k==Ft)=true
  ·rw[if_pos hk,if_pos hk]
   obtain⟨c,hc⟩:=h (n,k) AZ (by simpa using hk)
   have e:cellOf env n=pure c:=by unfold cellOf;rw[hc]
   rw[e]
   have e2:(env.cells.lookup n).getD 0=c:=by rw[hc];rfl
   rw[e2]
   exact ih _
  ·rw[if_neg hk,if_neg hk]
   exact ih _
theorem Yd {scope:Scope}{env:Env} (h:∀y∈scope.names,y.2=.free→∃c,env.cells.lookup y.1=some c):closureFor scope env=pure (By env.cells scope.names []):=by
 simp only[closureFor]
 rw[QX env _ (fun n k c=>rfl) scope.names [] h]
 rfl
theorem NA {α:Type}:∀{l:List (Str×α)}{n:Str}{c:α},(n,c)∈l→∃c',l.lookup n=some c'
 | (k,v)::r,n,c,h=>by
  rw[EM]
  cases hb:n==k with
  | true=>exact⟨_,rfl⟩
  | false =>
   rcases AY.mp h with e | h
   ·cases e;simp at hb
   ·exact NA h
theorem Jh {cells:List (Str×Addr)}:∀{names:List (Str×NameKind)}{acc:List (Str×Addr)}{n:Str}{c:Addr},(n,c)∈By cells names acc→(n,c)∈acc∨((n,.free)∈names∧c=(cells.lookup n).getD 0)
 | [],_,_,_,h=>.inl h
 | (m,k)::r,acc,n,c,h=>by
  unfold By at h
  split at h
  ·rename_i hk
   have hk:k=.free:=by simpa using hk
   rcases Jh h with h | ⟨h1,h2⟩
   ·rcases AY.mp h with e | h
    ·cases e;exact .inr ⟨hk▸AZ,rfl⟩
    ·exact .inl h
   ·exact .inr ⟨Ar _ h1,h2⟩
  ·rcases Jh h with h | ⟨h1,h2⟩
   ·exact .inl h
   ·exact .inr ⟨Ar _ h1,h2⟩
theorem MV {cells:List (Str×Addr)}:∀{names:List (Str×NameKind)}{acc:List (Str×Addr)}{p:Str×Addr},p∈acc→p∈By cells names acc
 | [],_,_,h=>h
 | (m,k)::r,acc,p,h=>by
  unfold By
  split
  ·exact MV (Ar _ h)
  ·exact MV h
theorem MW {cells:List (Str×Addr)}:∀{names:List (Str×NameKind)}{acc:List (Str×Addr)}{n:Str},(n,.free)∈names→(n,(cells.lookup n).getD 0)∈By cells names acc
 | (m,k)::r,acc,n,h=>by
  unfold By
  rcases AY.mp h with e | h
  ·cases e
   exact MV AZ
  ·split
   ·exact MW h
   ·exact MW h
theorem Hz:∀{names:List (Str×NameKind)}{h:Heap}{acc:List (Str×Addr)}{x:Str}{c:Addr},(x,c)∈cellsFrom h.objs.size names acc→
  (x,c)∈acc∨((x,.cell)∈names∧h.objs.size≤c∧P4 (pushCells h names) c none)
 | [],_,_,_,_,h=>.inl h
 | (n,k)::r,h,acc,x,c,hm=>by
  unfold cellsFrom at hm
  unfold pushCells
  split at hm
  ·rename_i hk
   rw[if_pos hk]
   have hk:k=.cell:=by simpa using hk
   rw[← Ct h { cls:=.type "cell",data:=.cell none }] at hm
   rcases Hz hm with hm | ⟨h1,h2,h3⟩
   ·rcases AY.mp hm with e | hm
    ·cases e
     exact .inr ⟨hk▸AZ,AO _,_,Ls r _ _ _ (BH _ rfl),rfl⟩
    ·exact .inl hm
   ·rw[Ct] at h2
    exact .inr ⟨Ar _ h1,LL h2,h3⟩
  ·rename_i hk
   rw[if_neg hk]
   rcases Hz hm with hm | ⟨h1,h2,h3⟩
   ·exact .inl hm
   ·exact .inr ⟨Ar _ h1,h2,h3⟩
theorem Je:∀{names:List (Str×NameKind)}{n:Nat}{acc:List (Str×Addr)}{p:Str×Addr},p∈acc→p∈cellsFrom n names acc
 | [],_,_,_,h=>h
 | (m,k)::r,n,acc,p,h=>by
  unfold cellsFrom
  split
  ·exact Je (Ar _ h)
  ·exact Je h
theorem MT:∀{names:List (Str×NameKind)}{n:Nat}{acc:List (Str×Addr)}{x:Str},(x,.cell)∈names→∃c,(x,c)∈cellsFrom n names acc
 | (m,k)::r,n,acc,x,h=>by
  unfold cellsFrom
  rcases AY.mp h with e | h
  ·cases e
   exact⟨n,Je AZ⟩
  ·split
   ·exact MT h
   ·exact MT h
theorem MU:∀{names:List (Str×NameKind)}{h:Heap}{acc:List (Str×Addr)}{x y:Str}{c:Addr},(∀p∈acc,p.2 < h.objs.size)→(∀x y c,(x,c)∈acc→(y,c)∈acc→x=y)→
  (x,c)∈cellsFrom h.objs.size names acc→(y,c)∈cellsFrom h.objs.size names acc→x=y
 | [],_,_,_,_,_,_,hi,h1,h2=>hi _ _ _ h1 h2
 | (n,k)::r,h,acc,x,y,c,hl,hi,h1,h2=>by
  unfold cellsFrom at h1 h2
  split at h1
  ·rename_i hk
   rw[if_pos hk] at h2
   rw[← Ct h { cls:=.type "cell",data:=.cell none }] at h1 h2
   refine MU (h:=h.push _) (fun p hp=>?_) (fun x y c a b=>?_) h1 h2
   ·rw[Ct]
    rcases AY.mp hp with rfl | hp
    ·exact Hi _
    ·exact LN (hl p hp)
   ·rcases AY.mp a with e | a <;> rcases AY.mp b with e' | b
    ·cases e;cases e';rfl
    ·cases e;exact absurd (hl _ b) (Bu _)
    ·cases e';exact absurd (hl _ a) (Bu _)
    ·exact hi _ _ _ a b
  ·rename_i hk
   rw[if_neg hk] at h2
   exact MU hl hi h1 h2
theorem ax {M:Model}{A:Around}{E:Value→Shared→Prop}{s:Shared}{scope:Scope}{globals:Addr}{closure:List (Str×Addr)}{qual:Str}{func:Option Addr}{code:Value}{around:Env}{builtins:Addr}{Q:Env→Shared→Prop}
  (h:Q (newEnv scope s.heap.objs.size globals (cellsFrom (s.heap.objs.size+1) scope.names closure) qual func code (some around) builtins)
   { s with heap:=pushCells (s.heap.push { cls:=.type "dict",data:=.dict #[] }) scope.names }):
  wpAny M A (newFunctionEnv scope globals closure [] qual func code (some around) builtins) Q E s:=by
 simp only[newFunctionEnv,Wy,if_true]
 refine AE (wpAny_alloc ?_)
 refine AE (wpAny_layCells _ (fun n k c=>rfl) scope.names closure _ _ ?_)
 rw[show({ s with heap:=s.heap.push { cls:=.type "dict",data:=.dict #[] } }:Shared).heap.objs.size=s.heap.objs.size+1 from Ct ..]
 rw[List.forIn_nil]
 exact AE (AL (AL h))
theorem M9 {sc:Scope}:∀{names:List (Str×NameKind)}{x:Str}{k:NameKind},
  (names.map fun (n,k)=>if (k==Ft&&sc.kind==.function&&sc.names.lookup n==some .cell) then (n,PX) else (n,k)).lookup x=some k→
  ∃k',names.lookup x=some k'∧(k=k'∨(k'=.free∧k=.cell))
 | [],_,_,h=>by simp at h
 | (n,k₀)::r,x,k,h=>by
  have ih:=@M9 sc r x k
  have h':Fn x ((if (k₀==Ft&&sc.kind==.function&&sc.names.lookup n==some .cell)=true then (n,PX) else (n,k₀))::(r.map _))=some k:=h
  cases hx:x==n with
  | true =>
   simp only[EM,hx]
   by_cases hc:(k₀==Ft&&sc.kind==.function&&sc.names.lookup n==some .cell)=true
   ·rw[if_pos hc] at h'
    simp only[EM,hx] at h'
    cases h'
    simp only[BC,beq_iff_eq] at hc
    exact⟨k₀,rfl,.inr ⟨hc.1.1,rfl⟩⟩
   ·rw[if_neg hc] at h'
    simp only[EM,hx] at h'
    cases h'
    exact⟨_,rfl,.inl rfl⟩
  | false =>
   simp only[EM,hx]
   by_cases hc:(k₀==Ft&&sc.kind==.function&&sc.names.lookup n==some .cell)=true
   ·rw[if_pos hc] at h'
    simp only[EM,hx] at h'
    exact ih h'
   ·rw[if_neg hc] at h'
    simp only[EM,hx] at h'
    exact ih h'
structure Gw (N:List Str) (sc scope:Scope) (own:List (Str×Nat)):Prop where
 kind:scope.kind=.function
 uniq:∀y∈scope.names,scope.names.lookup y.1=some y.2
 ix:∀p∈own,N[p.2]?=some p.1
 free:∀y∈scope.names,y.2=.free→sc.names.lookup y.1=some .cell∨sc.names.lookup y.1=some .free
 own:∀y∈scope.names,y.2=.local∨y.2=.cell→y.1∈own.map (·.1)∨y.1∉N
def BP (σ:St):List Nat→St
 | []=>σ
 | v::vs=>(BP σ vs).set v none
theorem OP (σ:St):∀vs:List Nat,(BP σ vs).length=σ.length
 | []=>rfl
 | v::vs=>by unfold BP;rw[List.length_set,OP σ vs]
theorem OQ {σ:St}{i:Nat}{x:V}:∀{vs:List Nat},(BP σ vs)[i]?=some (some x)→σ[i]?=some (some x)∧i∉vs
 | [],h=>⟨h,by simp⟩
 | v::vs,h=>by
  unfold BP at h
  by_cases hi:v=i
  ·subst hi
   by_cases hv:v < (BP σ vs).length
   ·rw[Ou hv] at h;cases h
   ·rw[Wg (by simpa using hv)] at h;cases h
  ·rw[Ot hi] at h
   obtain⟨h1,h2⟩:=OQ h
   exact⟨h1,by simp only[AY,not_or];exact⟨fun e=>hi e.symm,h2⟩⟩
abbrev Cx.blk (X:Cx) (s:Shared) (H:Hp) (scope:Scope) (cenv:Env) (fp:List Addr):Cx:={ X with s_0:=s,H_0:=H,env:=cenv,outer:=X.stack,ex:=fp,fn:=fun x=>scope.names.lookup x==some .cell,pn:=[],xe:=fun _ _=>False }
section
variable {X:Cx}{pins:List (Addr×Obj)}{σ:St}{H:Hp}{s:Shared}
theorem YW {scope:Scope}{own:List (Str×Nat)}{fp:List Addr} (I:Inv X pins σ H s) (ok:Gw X.N X.env.scope scope own) (hN:X.N.Nodup) (hfp:∀b∈fp,D9 X pins H b∧b < s.heap.objs.size):
  Inv (X.blk s H scope (compEnvC scope (cellsFrom (s.heap.objs.size+1) scope.names (By X.env.cells scope.names [])) s.heap.objs.size X.env) fp) [] (BP σ (own.map (·.2))) H { s with heap:=pushCells (s.heap.push { cls:=.type "dict",data:=.dict #[] }) scope.names }:=by
 have hfree:∀y∈scope.names,y.2=.free→∃c,X.env.cells.lookup y.1=some c:=fun y hy e=>by
  rcases ok.free y hy e with k | k
  ·exact I.ok.has _ (.inl k)
  ·exact I.ok.has _ (.inr k)
 generalize hcenv:compEnvC scope (cellsFrom (s.heap.objs.size+1) scope.names (By X.env.cells scope.names [])) s.heap.objs.size X.env=cenv
 have kp:∀b o,s.heap.get? b=some o→(pushCells (s.heap.push { cls:=.type "dict",data:=.dict #[] }) scope.names).get? b=some o:=fun b o e=>Ls _ _ _ _ (A2 _ e)
 have hL:cenv.locals=s.heap.objs.size:=by rw[← hcenv];rfl
 have hcl:cenv.cells=cellsFrom (s.heap.objs.size+1) scope.names (By X.env.cells scope.names []):=by rw[← hcenv];rfl
 have hsc:cenv.scope=cZ scope X.env.scope:=by rw[← hcenv];rfl
 rw[← Ct s.heap { cls:=.type "dict",data:=.dict #[] }] at hcl
 have cm:∀{y c},(y,c)∈By X.env.cells scope.names []→X.env.cells.lookup y=some c∧c < s.heap.objs.size:=fun {y c} hm=>by
  rcases Jh hm with hm | ⟨h1,rfl⟩
  ·cases hm
  ·obtain⟨c,hc⟩:=hfree _ h1 rfl
   rw[hc]
   obtain⟨w,z⟩:=I.cell _ _ hc
   exact⟨rfl,z.lt⟩
 have mem:∀{y c},cenv.cells.lookup y=some c→(X.env.cells.lookup y=some c∧c < s.heap.objs.size)∨(s.heap.objs.size+1≤c∧P4 (pushCells (s.heap.push { cls:=.type "dict",data:=.dict #[] }) scope.names) c none):=fun {y c} e=>by
  rw[hcl] at e
  rcases Hz (CH e) with hm | ⟨_,h2,h3⟩
  ·exact .inl (cm hm)
  ·rw[Ct] at h2;exact .inr ⟨h2,h3⟩
 have look:∀{y},scope.names.lookup y=some .free→∃c,cenv.cells.lookup y=some c∧X.env.cells.lookup y=some c:=fun {y} hl=>by
  have hy:(y,Ft)∈scope.names:=CH hl
  obtain⟨c',e'⟩:=NA (Je (names:=scope.names) (n:=(s.heap.push { cls:=.type "dict",data:=.dict #[] }).objs.size) (MW (cells:=X.env.cells) (acc:=[]) hy))
  rw[← hcl] at e'
  refine⟨c',e',?_⟩
  rw[hcl] at e'
  rcases Hz (CH e') with hm | ⟨h1,_,_⟩
  ·exact(cm hm).1
  ·have:=ok.uniq _ h1
   rw[hl] at this;cases this
 have okB:(X.blk s H scope cenv fp).Ok:=by
  refine⟨I.ok.mod,by show cenv.scope.kind=_;rw[hsc];exact ok.kind,by show cenv.globals=_;rw[← hcenv];exact I.ok.glob,by show cenv.builtins=_;rw[← hcenv];exact I.ok.blt,by show s.heap.objs.size≤cenv.locals;rw[hL];exact AO _,
   fun y z c e1 e2=>?_,fun y hy=>?_,fun y c z e=>?_,I.ok.hd,I.ok.frames,.inl rfl,fun b hb=>⟨?_,fun y c e z=>?_⟩,I.bs,Bp I.ok.bsz I.sz,fun b o e hb=>?_,fun b hb z=>?_,I.stack,I.stkFree⟩
  ·have e1:cenv.cells.lookup y=some c:=e1
   have e2:cenv.cells.lookup z=some c:=e2
   rw[hcl] at e1 e2
   refine MU (fun p hp=>?_) (fun y z c a b=>I.ok.inj y z c (cm a).1 (cm b).1) (CH e1) (CH e2)
   rw[Ct]
   exact LN (cm (y:=p.1) (c:=p.2) hp).2
  ·show ∃c,cenv.cells.lookup y=some c
   have key:∀k,cenv.kindOf y=some k→(k=.cell∨k=.free)→∃c,cenv.cells.lookup y=some c:=fun k hk hk'=>by
    unfold Env.kindOf at hk
    rw[hsc] at hk
    obtain⟨k',e,r⟩:=M9 hk
    have:k'=.cell∨k'=.free:=by
     rcases r with rfl | ⟨rfl,_⟩
     ·exact hk'
     ·exact .inr rfl
    rcases this with rfl | rfl
    ·obtain⟨c,hm⟩:=MT (n:=(s.heap.push { cls:=.type "dict",data:=.dict #[] }).objs.size) (acc:=By X.env.cells scope.names []) (CH e)
     obtain⟨c',e'⟩:=NA hm
     exact⟨c',by rw[hcl];exact e'⟩
    ·obtain⟨c,h1,_⟩:=look e
     exact⟨c,h1⟩
   rcases hy with hy | hy
   ·exact key _ hy (.inl rfl)
   ·exact key _ hy (.inr rfl)
  ·have z:(scope.names.lookup y==some PX)=true:=z
   have z:scope.names.lookup y=some .cell:=by simpa using z
   have e:cenv.cells.lookup y=some c:=e
   rw[hcl] at e
   rcases Hz (CH e) with hm | ⟨_,h2,_⟩
   ·rcases Jh hm with hm | ⟨h1,_⟩
    ·cases hm
    ·have q:=ok.uniq _ h1
     rw[z] at q;cases q
   ·rw[Ct] at h2
    exact LL h2
  ·show b≠cenv.locals
   rw[hL];exact BO (hfp b hb).2
  ·have e:cenv.cells.lookup y=some c:=e
   rcases mem e with ⟨h1,_⟩ | ⟨h1,_⟩
   ·exact(hfp b hb).1.2.2.2.2.1 y c h1 z
   ·have h2:s.heap.objs.size+1≤b:=by rw[← z];exact h1
    exact absurd (Bg (hfp b hb).2 (LL h2)) (Bu _)
  ·rcases(hfp b hb).1.2.2.2.1 with z | z
   ·exact I.ok.noex b o e z
   ·exact absurd (Bg (Ah e) (Bp I.ok.bsz z)) (Bu _)
  ·rcases AY.mp (I.stkSub b z) with z | z
   ·exact(hfp b hb).1.2.1 z
   ·exact(hfp b hb).1.2.2.1 z
 refine⟨okB,rfl,I.bare,Un.kept kp,⟨fun _=>none,?_,fun i y av e1 e2 e3=>?_⟩,fun y c e=>?_,?_,fun y c e=>?_,fun p hp=>?_,I.hok.kept kp,by rw[OP];exact I.len⟩
 ·show Heap.Ns _ cenv.locals _
  rw[hL]
  exact Heap.Ns.keeps (Heap.Ns.new ..) fun b o e=>Ls _ _ _ _ e
 ·obtain⟨e2,hne⟩:=OQ e2
  have hfr:scope.names.lookup y=some .free∧(cenv.kindOf y=some .cell∨cenv.kindOf y=some .free):=by
   have key:∀k,cenv.scope.names.lookup y=some k→k=.local∨k=.cell∨k=.free→scope.names.lookup y=some .free∧(cenv.kindOf y=some .cell∨cenv.kindOf y=some .free):=fun k hk hk'=>by
    have hk0:=hk
    rw[hsc] at hk
    obtain⟨k',e,r⟩:=M9 hk
    have no:¬(k'=.local∨k'=.cell):=fun hh=>by
     rcases ok.own _ (CH e) hh with e' | e'
     ·obtain⟨p,hp,hpy⟩:=BD.mp e'
      have e3:=ok.ix p hp
      have:p.1=y:=hpy
      rw[this] at e3
      exact hne (BD.mpr ⟨p,hp,NS hN e3 e1⟩)
     ·exact e' (CZ e1)
    rcases r with rfl | ⟨rfl,rfl⟩
    ·rcases hk' with rfl | rfl | rfl
     ·exact absurd (.inl rfl) no
     ·exact absurd (.inr rfl) no
     ·exact⟨e,.inr hk0⟩
    ·exact⟨e,.inl hk0⟩
   have e3:Vis cenv.scope y:=e3
   rcases e3 with e3 | e3 | e3
   ·exact key _ e3 (.inl rfl)
   ·exact key _ e3 (.inr (.inl rfl))
   ·exact key _ e3 (.inr (.inr rfl))
  obtain⟨m,hn,hl⟩:=I.loc
  have hvis:Vis X.env.scope y:=(ok.free _ (CH hfr.1) rfl).elim (fun k=>.inr (.inl k)) (fun k=>.inr (.inr k))
  obtain⟨w,r,q⟩:=hl i y av e1 e2 hvis
  refine⟨w,r,.inr ⟨hfr.2,?_⟩⟩
  obtain⟨c,h1,h2⟩:=look hfr.1
  rcases q with ⟨k,_⟩ | ⟨_,c',e',z⟩
  ·have k:X.env.scope.names.lookup y=some .local:=k
   rcases ok.free _ (CH hfr.1) rfl with k' | k' <;> rw[show X.env.scope.names.lookup y=_ from k'] at k <;> cases k
  ·rw[h2] at e';cases e'
   exact⟨c,h1,z.keeps kp⟩
 ·have e:cenv.cells.lookup y=some c:=e
  rcases mem e with ⟨h1,_⟩ | ⟨_,z⟩
  ·obtain⟨w,z⟩:=I.cell y c h1
   exact⟨w,z.keeps kp⟩
  ·exact⟨_,z⟩
 ·show H cenv.locals=none
  rw[hL];exact I.hok.fresh (AO _)
 ·have e:cenv.cells.lookup y=some c:=e
  rcases mem e with ⟨h1,_⟩ | ⟨h1,_⟩
  ·exact I.freeC y c h1
  ·exact I.hok.fresh (LL h1)
 ·exact absurd (show p∈([]:List (Addr×Obj))++[] from hp) (by simp)
theorem YJ {E:Value→Shared→Prop}{D:Addr}{xs:List V}{y:V}{v:Value}{Q:Value→Shared→Prop} (I:Inv X pins σ H s) (hD:H D=some (.lst xs)) (hz:xs.length < sizeLine) (r:RelV y v)
  (h:∀s',Inv X pins σ (upd H D (.lst (xs++[y]))) s'→Q .none s'):wpAny (model X.prog X.w) X.A (call (.builtin "list.append") [.ref D,v]) Q E s:=by
 obtain⟨hz',its,n,ri,e⟩:=I.hok D _ hD
 have hl:=ri.length
 refine append_at (hsz:=by rw[Bf];omega) e fun h' sb ho'=>?_
 refine h { s with heap:=h' } (I.write (t':=s.toks) (by rw[hD];trivial) (.inl rfl) (fun b u hb q=>(sb.2 b hb).trans q) ⟨_,ho'⟩ ⟨by rw[BL];exact hz,its++[v],n+1,ri.append (.cons r .nil),?_⟩)
 rw[ho']
 simp
def PTs (X:Cx) (ifs:List Expr) (t:TT):Prop :=
 ∀(pins:List (Addr×Obj)) (s:Shared) (σ:St) (H:Hp) (Q:Bool→Hp→Prop),Inv X pins σ H s→t σ H Q→
  wpAny (model X.prog X.w) X.A (forIn ifs true fun c r=>if r=true then do let ok ← isTrue c X.env (eval c X.env);pure (K9 ok) else pure (K9 r)) (TP X pins σ Q) X.xe s
def DH:TT:=fun _ H Q=>Q true H
theorem DC:PTs X [] DH:=fun _ _ _ H _ I h=>wpAny_tests_nil ⟨H,I,h⟩
theorem b9 {c:Expr}{t:TT} (h:PT X c t):PTs X [c] t:=fun pins s σ H Q I hw=>wpAny_tests_one (h pins s σ H Q I hw)
end
theorem HP {α:Type}{t:Sem α}{Q Q':α→Shared→Prop}{M:Model}{A:Around}{E:Value→Shared→Prop}{s:Shared} (h:wpAny M A t Q (fun _ _=>False) s) (hQ:∀a s,Q a s→Q' a s):wpAny M A t Q' E s:=DM h hQ fun _ _ z=>BX z
theorem Yg {prog:Program}{w:World}{A:Around}{R:Result→Shared→Prop}{s:Shared}{elt target iter:Expr}{ifs:List Expr}{scope:Scope}{pos:Pos}{it acc:Value}{env:Env} (I:Nat→Shared→Prop)
  (turn:∀n s,I n s→wpAny (model prog w) A (pyNext it) (fun r s₁=>match r with
   | none=>R (.ok .next) s₁
   | some v=>wpAny (model prog w) A (letOwnedTupleGo target it v) (fun _ s₁'=>wpAny (model prog w) A (assign target env v) (fun _ s₂ =>
    wpAny (model prog w) A (forIn ifs true fun c r=>if r=true then do let ok ← isTrue c env (eval c env);pure (K9 ok) else pure (K9 r)) (fun ok s₃ =>
     if ok=true then wpAny (model prog w) A (eval elt env) (fun x s₄ =>
      wpAny (model prog w) A (call (.builtin "list.append") [acc,x]) (fun _ s₅=>∃m,m < n∧I m s₅) (notedBy (model prog w) A env fun e s'=>R (.error e) s') s₄) (notedBy (model prog w) A env fun e s'=>R (.error e) s') s₃
     else ∃m,m < n∧I m s₃) (notedBy (model prog w) A env fun e s'=>R (.error e) s') s₂) (notedBy (model prog w) A env fun e s'=>R (.error e) s') s₁') (notedBy (model prog w) A env fun e s'=>R (.error e) s') s₁) (notedBy (model prog w) A env fun e s'=>R (.error e) s') s)
  (n:Nat) (h:I n s):
  codeAny (model prog w) A (.compLoop (.ListComp elt [⟨target,iter,ifs,0⟩] scope pos) 0 it acc env) R s:=by
 refine codeAny_loop rfl I (fun n s hI=>?_) n h
 show wpAny _ A ((compTurn (.ListComp elt [⟨target,iter,ifs,0⟩] scope pos) 0 it acc env).onRaise (fun x=>do noteFrame x env;theTreesLotGoes x)) _ _ s
 refine wpAny_noted ?_
 rw[compTurn_list]
 refine AE (wpAny_standAt (AE (DM (turn n s hI) (fun r s₁ h₁=>?_) fun _ _ h'=>h')))
 cases r with
 | none=>exact AL h₁
 | some v =>
  refine AE (DM h₁ (fun _ s₁' h₁'=>?_) fun _ _ h'=>h')
  refine AE (DM h₁' (fun _ s₂ h₂=>AE (DM h₂ (fun ok s₃ h₃=>?_) fun _ _ h'=>h')) fun _ _ h'=>h')
  cases ok with
  | false=>exact AL ⟨rfl,h₃⟩
  | true =>
   exact AE (AE (DM h₃ (fun x s₄ h₄=>AE (DM h₄ (fun _ s₅ h₅=>AL (AL ⟨rfl,h₅⟩)) fun _ _ h'=>h')) fun _ _ h'=>h'))
section
variable {X:Cx}
def tLc (wi:TI) (g:TG) (tt:TT) (te:TE) (vs:List Nat):TE:=fun σ H Q=>wi σ H fun J H1=>∀D,H1 D=none→∃W:Nat→Nat→Hp→Prop,(∃m,W 0 m (upd H1 D (.lst [])))∧∀i m H,W i m H→
 (J.stop i H∧Q (.ref D) H)∨(J.go i H∧∃Nx:Hp→Prop,(∀H',Nx H'→∃m',m' < m∧W (i+1) m' H')∧∀x H',J.yld i H x H'→g x (BP σ vs) H' fun σ2 H2=>BP σ2 vs=BP σ vs∧tt σ2 H2 fun b H3 =>
  if b=true then te σ2 H3 fun y H4=>∃acc,H4 D=some (.lst acc)∧acc.length < sizeLine∧Nx (upd H4 D (.lst (acc++[y]))) else Nx H3)
theorem Ry {pins:List (Addr×Obj)}{s:Shared}{σ:St}{H:Hp}{Q:VK}{elt tg iter:Expr}{ifs:List Expr}{scope:Scope}{own:List (Str×Nat)}{pos pos':Pos}{wi:TI}{g:TG}{tt:TT}{te:TE}{use:Option (Value→Sem Unit)}{Qf:Value→Shared→Prop}
  (hc:X.calm=true) (hN:X.N.Nodup) (I:Inv X pins σ H s) (hi:PI X tg iter wi) (ok:Gw X.N X.env.scope scope own)
  (hg:∀(s:Shared) (H:Hp) (C:Addr) (cl:List (Str×Addr)) (fp:List Addr),PG (X.blk s H scope (compEnvC scope cl C X.env) fp) tg g) (ht:∀(s:Shared) (H:Hp) (C:Addr) (cl:List (Str×Addr)) (fp:List Addr),PTs (X.blk s H scope (compEnvC scope cl C X.env) fp) ifs tt)
  (he:∀(s:Shared) (H:Hp) (C:Addr) (cl:List (Str×Addr)) (fp:List Addr),PE (X.blk s H scope (compEnvC scope cl C X.env) fp) elt te) (hs:∀x,foldedSetIterable iter X.env x=pure x)
  (h:tLc wi g tt te (own.map (·.2)) σ H Q)
  (hRR:∀D C s' m H',Inv X pins σ H' s'→Q (.ref D) H'→s'.heap.Ns C m→D9 X pins H' C→compPost (model X.prog X.w) X.A X.xe use Qf (.ref D) C (.ok .next) s'):
  wpAny (model X.prog X.w) X.A (comprehension (.ListComp elt [⟨tg,iter,ifs,0⟩] scope pos) scope X.env pos' (newList []) false (eval iter X.env) use) Qf X.xe s:=by
 have hfree:∀y∈scope.names,y.2=.free→∃c,X.env.cells.lookup y.1=some c:=fun y hy e=>by
  rcases ok.free y hy e with k | k
  ·exact I.ok.has _ (.inl k)
  ·exact I.ok.has _ (.inr k)
 refine wpAny_comprehension_free (use:=use) rfl hs (Yd hfree) ok.kind (fun y hy e=>by rw[ok.uniq y hy,e])
  (thn (hi pins s σ H _ I h) fun xv s1 hx=>thn hx fun itv s2 h2=>?_)
 obtain⟨it,fp,tn,J,H2,e,I2,T,st2,f2,q⟩:=h2
 subst e
 refine Gs (ax ?_) (by show 0≤sizeLine;decide)
 generalize hD:s2.heap.objs.size=D
 have hDn:H2 D=none:=I2.hok.fresh (Hg hD)
 obtain⟨W,⟨m0,w0⟩,turn⟩:=q D hDn
 generalize hs3:({ s2 with heap:=s2.heap.push { cls:=.type "list",data:=.seq ([]:List Value).toArray } }:Shared)=s3
 have I3:Inv X pins σ (upd H2 D (.lst [])) s3:=by
  rw[← hs3]
  refine I2.laid (t':=s2.toks) (fun b o e=>A2 _ e) (Hg hD) ⟨Au _,[],0,.nil,?_⟩
  rw[← hD]
  exact BH _ rfl
 have h3:s3.heap=s2.heap.push { cls:=.type "list",data:=.seq ([]:List Value).toArray }:=by rw[← hs3]
 have sz:∀b∈fp,b < s2.heap.objs.size:=fun b hb=>by
  obtain⟨o,e,_⟩:=T.obj _ _ st2 b hb
  exact Ah e
 have f3:∀b∈fp,D9 X pins (upd H2 D (.lst [])) b∧b < s3.heap.objs.size:=fun b hb=>by
  have hlt:=sz b hb
  refine⟨⟨?_,(f2 b hb).2⟩,by rw[h3,Ct];exact LN hlt⟩
  rw[AG (by rw[← hD];exact BO hlt)]
  exact(f2 b hb).1
 have st3:tn 0 s3.heap:=T.keep _ _ _ st2 fun b _ o e=>by rw[h3];exact A2 _ e
 have I4:=YW I3 ok hN f3
 have pg:=hg s3 (upd H2 D (.lst [])) s3.heap.objs.size (cellsFrom (s3.heap.objs.size+1) scope.names (By X.env.cells scope.names [])) fp
 have pt:=ht s3 (upd H2 D (.lst [])) s3.heap.objs.size (cellsFrom (s3.heap.objs.size+1) scope.names (By X.env.cells scope.names [])) fp
 have pe:=he s3 (upd H2 D (.lst [])) s3.heap.objs.size (cellsFrom (s3.heap.objs.size+1) scope.names (By X.env.cells scope.names [])) fp
 show codeAny _ _ (.compStart (.ListComp elt [⟨tg,iter,ifs,0⟩] scope pos) 0 (.ref it) (.ref D) (compEnvC scope (cellsFrom (s3.heap.objs.size+1) scope.names (By X.env.cells scope.names [])) s3.heap.objs.size X.env)) (compPost (model X.prog X.w) X.A X.xe use Qf (.ref D) s3.heap.objs.size) { s3 with heap:=pushCells (s3.heap.push { cls:=.type "dict",data:=.dict #[] }) scope.names }
 have nfp:∀b∈fp,(upd H2 D (.lst [])) b=none:=fun b hb=>(f3 b hb).1.1
 generalize hce:compEnvC scope (cellsFrom (s3.heap.objs.size+1) scope.names (By X.env.cells scope.names [])) s3.heap.objs.size X.env=ce at I4 pg pt pe ⊢
 have cL:ce.locals=s3.heap.objs.size:=by subst hce;rfl
 generalize hH3:upd H2 D (.lst [])=H3 at I3 I4 pg pt pe w0 nfp f3
 generalize hs4:({ s3 with heap:=pushCells (s3.heap.push { cls:=.type "dict",data:=.dict #[] }) scope.names }:Shared)=s4 at I4 ⊢
 have st4:tn 0 s4.heap:=T.keep _ _ _ st3 fun b _ o e=>by rw[← hs4];exact Ls _ _ _ _ (A2 _ e)
 have stat:∀{σ':St} {H':Hp} {s':Shared},Inv (X.blk s3 H3 scope ce fp) [] σ' H' s'→(∀b∈fp,H' b=none)→∀b∈fp,D9 (X.blk s3 H3 scope ce fp) [] H' b:=fun {σ' H' s'} I' hn b hb =>
  ⟨hn b hb,(I'.ok.exf b hb).1,I'.ok.exfs b hb,.inl hb,fun x c e=>(I'.ok.exf b hb).2 x c e,fun p hp=>absurd (show p∈([]:List (Addr×Obj))++[] from hp) (by simp)⟩
 have loop:codeAny (model X.prog X.w) X.A (.compLoop (.ListComp elt [⟨tg,iter,ifs,0⟩] scope pos) 0 (.ref it) (.ref D) ce) (compPost (model X.prog X.w) X.A X.xe use Qf (.ref D) s3.heap.objs.size) s4:=by
  refine Yg (fun n s'=>∃i H',Inv (X.blk s3 H3 scope ce fp) [] (BP σ (own.map (·.2))) H' s'∧tn i s'.heap∧(∀b∈fp,H' b=none)∧W i n H') ?_ m0 ⟨0,H3,I4,st4,nfp,w0⟩
  rintro n s5 ⟨i,H5,I5,st5,n5,w5⟩
  rcases turn i n H5 w5 with ⟨stop,qq⟩ | ⟨go,Nx,hNx,step⟩
  ·have td:=T.done (X.blk s3 H3 scope ce fp) rfl rfl rfl hc i [] s5 _ H5 (fun _ _=>False) I5 (stat I5 n5) st5 stop
   refine HP td fun r s6 ⟨hr,I6⟩=>?_
   subst hr
   have I7:Inv X pins σ H5 s6:=I3.call' (ch:=fp) I6.os I6.base I6.hok I6.bare fun b hb=>⟨(f3 b hb).1.2.2.2.1,(f3 b hb).1.2.1,(f3 b hb).1.2.2.2.2.1,(f3 b hb).1.2.2.2.2.2⟩
   have nC:H5 s3.heap.objs.size=none:=by
    have z:H5 ce.locals=none:=I6.free
    rw[cL] at z
    exact z
   obtain⟨m,hn,_⟩:=I6.loc
   have hn:s6.heap.Ns ce.locals m:=hn
   rw[cL] at hn
   exact hRR D s3.heap.objs.size s6 m H5 I7 qq hn (I3.fpOk (AO _) nC)
  ·have ti:=T.item (X.blk s3 H3 scope ce fp) rfl rfl rfl hc i [] s5 _ H5 (fun _ _=>False) I5 (stat I5 n5) st5 go
   refine HP ti fun r s6 ⟨u,hr,h6⟩=>?_
   subst hr
   refine HP h6 fun _ s7 ⟨x,H7,I7,r7,y7,st7,n7⟩=>?_
   have I7':=I7.pinned (stat I7 n7) (T.obj _ _ st7)
   refine HP (pg _ s7 _ H7 x u _ I7' r7 (step x H7 y7)) fun _ s8 ⟨σ8,H8,I8,hw8,q8⟩=>?_
   refine HP (pt _ s8 σ8 H8 _ I8 q8) fun b s9 ⟨H9,I9,q9⟩=>?_
   have fin:∀{s':Shared} {H':Hp},Inv (X.blk s3 H3 scope ce fp) ([]++IY fp s7.heap) σ8 H' s'→Nx H'→∃m,m < n∧∃i H',Inv (X.blk s3 H3 scope ce fp) [] (BP σ (own.map (·.2))) H' s'∧tn i s'.heap∧(∀b∈fp,H' b=none)∧W i m H':=fun {s' H'} I' nx=>by
    obtain⟨m',hm,w'⟩:=hNx H' nx
    have pin':∀b∈fp,∀o,s7.heap.get? b=some o→s'.heap.get? b=some o∧H' b=none:=fun b hb o e =>
     let z:=I'.pin (b,o) (E6 _ (E6 _ (NC hb e)))
     ⟨z.1,z.2.1⟩
    have hl:(BP σ (own.map (·.2))).length=σ8.length:=by rw[← hw8,OP]
    refine⟨m',hm,i+1,H',(I'.unpinned (pins:=[])).weak hl (fun j v e=>?_),T.keep _ _ _ st7 fun b hb o e=>(pin' b hb o e).1,fun b hb=>?_,w'⟩
    ·rw[← hw8] at e
     exact(OQ e).1
    ·obtain⟨o,e,_⟩:=T.obj _ _ st7 b hb
     exact(pin' b hb o e).2
   cases b with
   | false =>
    simp only[CW,if_false] at q9 ⊢
    exact fin I9 q9
   | true =>
    simp only[if_true] at q9 ⊢
    refine HP (pe _ s9 σ8 H9 _ I9 q9) fun z s10 ⟨yv,H10,I10,r10,acc,hD10,hz10,nx⟩=>?_
    exact YJ (X:=X.blk s3 H3 scope ce fp) I10 hD10 hz10 r10 fun s11 I11=>fin I11 nx
 exact codeAny_compStart_list loop (T.self X.A 0 _ _ _ st4 loop)
theorem DA {elt tg iter:Expr}{ifs:List Expr}{scope:Scope}{own:List (Str×Nat)}{pos:Pos}{wi:TI}{g:TG}{tt:TT}{te:TE} (hc:X.calm=true) (hN:X.N.Nodup) (hi:PI X tg iter wi) (ok:Gw X.N X.env.scope scope own)
  (hg:∀(s:Shared) (H:Hp) (C:Addr) (cl:List (Str×Addr)) (fp:List Addr),PG (X.blk s H scope (compEnvC scope cl C X.env) fp) tg g) (ht:∀(s:Shared) (H:Hp) (C:Addr) (cl:List (Str×Addr)) (fp:List Addr),PTs (X.blk s H scope (compEnvC scope cl C X.env) fp) ifs tt)
  (he:∀(s:Shared) (H:Hp) (C:Addr) (cl:List (Str×Addr)) (fp:List Addr),PE (X.blk s H scope (compEnvC scope cl C X.env) fp) elt te) (hs:∀x,foldedSetIterable iter X.env x=pure x:=by intro _;rfl):
  PE X (.ListComp elt [⟨tg,iter,ifs,0⟩] scope pos) (tLc wi g tt te (own.map (·.2))):=by
 intro pins s σ H Q I h
 rw[eval_ListComp]
 refine Ry hc hN I hi ok hg ht he hs h fun D C s' m H' I' q hn f=>⟨m,hn,fun h'' sb=>?_⟩
 obtain⟨f0,f1,f2,f3,f4,f5⟩:=f
 exact⟨.ref D,H',I'.turned (t':=s'.toks) (fun b o hb e=>(sb.2 b hb).trans e) f0 f1 f3 f4 f5,rfl,q⟩
theorem bx {i:Nat}{y:Str}{py:Pos}{elt tg iter:Expr}{ifs:List Expr}{scope:Scope}{own:List (Str×Nat)}{pos spos:Pos}{wi:TI}{g:TG}{tt:TT}{te:TE} (hc:X.calm=true) (hN:X.N.Nodup) (hy:X.N[i]?=some y) (hyl:X.env.scope.names.lookup y=some .local)
  (hsw:swapsWith (.ListComp elt [⟨tg,iter,ifs,0⟩] scope pos) (some (.Name y py)) spos.line X.env=pure true) (hi:PI X tg iter wi) (ok:Gw X.N X.env.scope scope own)
  (hg:∀(s:Shared) (H:Hp) (C:Addr) (cl:List (Str×Addr)) (fp:List Addr),PG (X.blk s H scope (compEnvC scope cl C X.env) fp) tg g) (ht:∀(s:Shared) (H:Hp) (C:Addr) (cl:List (Str×Addr)) (fp:List Addr),PTs (X.blk s H scope (compEnvC scope cl C X.env) fp) ifs tt)
  (he:∀(s:Shared) (H:Hp) (C:Addr) (cl:List (Str×Addr)) (fp:List Addr),PE (X.blk s H scope (compEnvC scope cl C X.env) fp) elt te) (hs:∀x,foldedSetIterable iter X.env x=pure x:=by intro _;rfl):
  PS X (.Assign [.Name y py] (.ListComp elt [⟨tg,iter,ifs,0⟩] scope pos) spos) (V2 (tLc wi g tt te (own.map (·.2))) (IH i)):=by
 intro pins s σ H D I h
 rw[exec_Assign_Name_used _ _ _ _ hsw]
 refine AE (wpAny_standAt (AE ?_))
 show wpAny _ X.A (do let _ ← comprehension (.ListComp elt [⟨tg,iter,ifs,0⟩] scope pos) scope X.env (firstIterPos [⟨tg,iter,ifs,0⟩] pos) (newList []) false (eval iter X.env) (some (assign (.Name y py) X.env))) _ _ s
 have h:tLc wi g tt te (own.map (·.2)) σ H (fun x H1=>IH i x σ H1 D.nx):=h
 refine AE (thn (Ry (Qf:=fun _ s'=>SP X pins D .next s') hc hN I hi ok hg ht he hs h fun L C s' m H' I' q hn f=>?_) fun _ s' hq=>AL (AL hq))
 show wpAny _ _ (assign (.Name y py) X.env (.ref L)) _ _ _
 refine Xx (Vy (v:=V.ref L) I' hN hy (.inl hyl) rfl (fun s2 I2 ⟨a,sb,ha⟩=>?_) (.inr hyl))
 obtain⟨f0,f1,f2,f3,f4,f5⟩:=f
 have haC:C≠a:=by
  rcases ha with z | z
  ·rw[z];exact f1
  ·exact fun e=>f4 y a z e.symm
 refine⟨m,hn.sameBut sb haC,fun h3 sb3=>?_⟩
 exact⟨_,H',I2.turned (t':=s2.toks) (fun b o hb e=>(sb3.2 b hb).trans e) f0 f1 f3 f4 f5,q⟩
theorem eI {elt:Expr}{gs:List Comprehension}{scope:Scope}{pos py:Pos}{y:Str}{l:Nat}{env:Env} (hk:env.scope.kind=.function) (hy:env.scope.names.lookup y=some .local) (hl:(py.line==pos.line)=true)
  (ha:(scope.names.any fun (n,k)=>n==y&&(k==.local || k==.cell))=false):swapsWith (.ListComp elt gs scope pos) (some (.Name y py)) l env=pure true:=by
 have ky:env.kindOf y=some .local:=hy
 have hb:env.blockKind=.function:=by unfold Env.blockKind;rw[hk];rfl
 unfold swapsWith
 simp only[hb,ky,ha,Expr.pos,hl]
 rfl
end
def QM (N:List Str) (sc scope:Scope) (own:List (Str×Nat)):Bool :=
 (match scope.kind with | .function=>true | _=>false)&&(scope.names.all fun y=>decide (scope.names.lookup y.1=some y.2))&&(own.all fun p=>decide (N[p.2]?=some p.1)) &&
  (scope.names.all fun y=>match y.2 with
   | .free=>(match sc.names.lookup y.1 with | some .cell=>true | some .free=>true | _=>false)
   | .local=>decide (y.1∈own.map (·.1)) || decide (y.1∉N)
   | .cell=>decide (y.1∈own.map (·.1)) || decide (y.1∉N)
   | _=>true)
theorem Cu {N:List Str}{sc scope:Scope}{own:List (Str×Nat)} (h:QM N sc scope own=true):Gw N sc scope own:=by
 unfold QM at h
 simp only[BC,C7,decide_eq_true_eq] at h
 obtain⟨⟨⟨h1,h2⟩,h3⟩,h4⟩:=h
 refine⟨?_,h2,h3,fun y hy e=>?_,fun y hy e=>?_⟩
 ·split at h1
  ·assumption
  ·cases h1
 ·have q:=h4 y hy
  simp only[e] at q
  split at q <;> first | exact .inl (by assumption) | exact .inr (by assumption) | cases q
 ·have q:=h4 y hy
  rcases e with e | e <;> (simp only[e,K2,decide_eq_true_eq] at q;exact q)
end L2
namespace L2
open PySem PySem.Spec PyProof.Rows
section
variable {prog:Program}{w:World}{A:Around}{R:Result→Shared→Prop}{s:Shared}{elt t0 i0 t1 i1:Expr}{ifs0 ifs1:List Expr}{scope:Scope}{pos:Pos}{it acc:Value}{env:Env}
end
section
variable {X:Cx}
end
end L2
namespace L2
open PySem PySem.Spec PyProof.Rows
section
variable {κ:Type} [DecidableEq κ]
def Az (kvs:List (κ×V)) (k:κ):Option V:=(kvs.find? fun kv=>decide (kv.1=k)).map (·.2)
def Cc (kvs:List (κ×V)) (k:κ) (v:V):List (κ×V) :=
 if (kvs.any fun kv=>decide (kv.1=k))=true then kvs.map (fun kv=>if kv.1=k then (kv.1,v) else kv) else kvs++[(k,v)]
theorem C4 {p:κ×V}{r:List (κ×V)}{k:κ} (e:p.1=k):Az (p::r) k=some p.2:=by simp[Az,C8,e]
theorem C3 {p:κ×V}{r:List (κ×V)}{k:κ} (e:¬p.1=k):Az (p::r) k=Az r k:=by simp[Az,C8,e]
theorem Ih (k:κ):∀kvs:List (κ×V),(kvs.any fun kv=>decide (kv.1=k))=(Az kvs k).isSome
 | []=>rfl
 | p::r=>by
  rw[D4]
  by_cases e:p.1=k
  ·simp only[C4 e,decide_eq_true e,OW,Wy]
  ·rw[C3 e,decide_eq_false e,HU];exact Ih k r
theorem WC (k j:κ) (y:V):∀kvs:List (κ×V),Az (kvs.map fun kv=>if kv.1=k then (kv.1,y) else kv) j=(Az kvs j).map fun x=>if j=k then y else x
 | []=>rfl
 | p::r=>by
  have ih:=WC k j y r
  rw[Am]
  by_cases h:p.1=k
  ·rw[if_pos h]
   by_cases e:p.1=j
   ·rw[C4 (p:=(p.1,y)) e,C4 e,Ge,if_pos (e.symm.trans h)]
   ·rw[C3 (p:=(p.1,y)) e,C3 e,ih]
  ·rw[if_neg h]
   by_cases e:p.1=j
   ·rw[C4 (p:=p) e,C4 e,Ge,if_neg (fun z=>h (e.trans z))]
   ·rw[C3 (p:=p) e,C3 e,ih]
theorem WD (k j:κ) (y:V):∀kvs:List (κ×V),Az kvs k=none→Az (kvs++[(k,y)]) j=if j=k then some y else Az kvs j
 | [],_=>by
  by_cases e:k=j
  ·rw[if_pos e.symm];exact C4 (p:=(k,y)) e
  ·rw[if_neg (fun z=>e z.symm)];exact C3 (p:=(k,y)) e
 | p::r,hn=>by
  rw[GX]
  have hk:¬p.1=k:=fun z=>by rw[C4 z] at hn;cases hn
  rw[C3 hk] at hn
  have ih:=WD k j y r hn
  by_cases e:p.1=j
  ·rw[C4 e,C4 e,if_neg (fun z=>hk (e.trans z))]
  ·rw[C3 e,C3 e,ih]
theorem fS (kvs:List (κ×V)) (k j:κ) (y:V):Az (Cc kvs k y) j=if j=k then some y else Az kvs j:=by
 unfold Cc
 by_cases a:(kvs.any fun kv=>decide (kv.1=k))=true
 ·rw[if_pos a,WC]
  rw[Ih] at a
  by_cases e:j=k
  ·obtain⟨x,hx⟩:=LY.mp a
   rw[if_pos e,e,hx,Ge,if_pos rfl]
  ·rw[if_neg e]
   cases Az kvs j with
   | none=>rfl
   | some x=>rw[Ge,if_neg e]
 ·rw[if_neg a]
  refine WD k j y kvs ?_
  rw[Ih] at a
  cases q:Az kvs k with
  | none=>rfl
  | some x=>rw[q] at a;exact(a rfl).elim
theorem M4 (kvs:List (κ×V)) (k:κ) (v:V):(Cc kvs k v).length≤kvs.length+1:=by
 unfold Cc
 split
 ·rw[AF];omega
 ·rw[BL,A9,Ea];omega
theorem S3 {kvs:List (κ×V)}{k:κ} (v:V) (h:Az kvs k=none):Cc kvs k v=kvs++[(k,v)]:=by
 unfold Cc
 rw[Ih,h]
 exact if_neg (by decide)
theorem RelO.isSome_eq {o:Option V}{u:Option Value} (r:RelO o u):o.isSome=u.isSome:=by
 cases o with
 | none=>cases u with
  | none=>rfl
  | some _=>exact(show False from r).elim
 | some _=>cases u with
  | none=>exact(show False from r).elim
  | some _=>rfl
theorem RelO.getD {o:Option V}{u:Option Value}{d:V}{d':Value} (r:RelO o u) (rd:RelV d d'):RelV (o.getD d) (u.getD d'):=by
 cases o with
 | none=>cases u with
  | none=>exact rd
  | some _=>exact(show False from r).elim
 | some _=>cases u with
  | none=>exact(show False from r).elim
  | some _=>exact r
theorem KV.val {kvs:List (κ×V)}{vs:List (κ×Value)} (r:KV kvs vs) (k:κ):RelO (Az kvs k) (valueAt vs k):=by
 unfold KV at r
 induction r with
 | nil=>exact Gv
 | @cons p q ps qs h t ih =>
  obtain⟨h1,h2⟩:=h
  by_cases e:p.1=k
  ·have e':q.1=k:=h1.symm.trans e
   have b:valueAt (q::qs) k=some q.2:=by simp[valueAt,C8,e']
   rw[C4 e,b];exact h2
  ·have e':¬q.1=k:=fun z=>e (h1.trans z)
   have b:valueAt (q::qs) k=valueAt qs k:=by simp[valueAt,C8,e']
   rw[C3 e,b];exact ih
theorem KV.any {kvs:List (κ×V)}{vs:List (κ×Value)} (r:KV kvs vs) (k:κ):(kvs.any fun kv=>decide (kv.1=k))=vs.any fun kv=>decide (kv.1=k):=by
 unfold KV at r
 induction r with
 | nil=>rfl
 | cons h t ih=>rw[D4,D4,ih,h.1]
theorem KV.repl {kvs:List (κ×V)}{vs:List (κ×Value)} (r:KV kvs vs) (k:κ) {y:V}{u:Value} (ry:RelV y u):
  KV (kvs.map fun kv=>if kv.1=k then (kv.1,y) else kv) (vs.map fun kv=>if kv.1=k then (kv.1,u) else kv):=by
 unfold KV at r ⊢
 induction r with
 | nil=>exact .nil
 | @cons p q ps qs h t ih =>
  rw[Am,Am]
  refine .cons ?_ ih
  obtain⟨h1,h2⟩:=h
  by_cases e:p.1=k
  ·rw[if_pos e,if_pos (h1.symm.trans e)];exact⟨h1,ry⟩
  ·rw[if_neg e,if_neg (fun z=>e (h1.trans z))];exact⟨h1,h2⟩
theorem KV.put {kvs:List (κ×V)}{vs:List (κ×Value)} (r:KV kvs vs) (k:κ) {y:V}{u:Value} (ry:RelV y u):KV (Cc kvs k y) (stored vs k u):=by
 unfold Cc stored
 rw[r.any k]
 by_cases e:(vs.any fun kv=>decide (kv.1=k))=true
 ·rw[if_pos e,if_pos e];exact r.repl k ry
 ·rw[if_neg e,if_neg e];exact Paired.snoc r ⟨rfl,ry⟩
theorem KV.length {kvs:List (κ×V)}{vs:List (κ×Value)} (r:KV kvs vs):kvs.length=vs.length:=FA r
end
theorem G5 {P:Program}{w:World}{k:Key}{u:Value} (r:RelV (kV k) u):(CN P w).is k u=true:=by
 cases k with
 | inl i=>obtain⟨t,e⟩:=(show ∃t,u=Lo i t from r);subst e;exact aY P w i t
 | inr x=>obtain⟨t,e⟩:=(show ∃t,u=Lp x t from r);subst e;exact aZ P w x t
theorem Rl {P:Program}{w:World}:∀{ks:List Key}{us:List Value},Vals (ks.map kV) us→ItemsAre (CN P w) ks us
 | [],_,r=>by rw[Fo] at r;cases r;exact .nil
 | k::ks,_,r=>by
  rw[Am] at r
  cases r with
  | cons h t=>exact .cons (G5 h) (Rl t)
abbrev KT (H:Hp):List (List Key×V)→List (List Key×Addr×Value)→Prop:=Paired fun p q=>p.1=q.1∧H q.2.1=some (.tup (p.1.map kV))∧RelV p.2 q.2.2
theorem KT.val {H:Hp}{kvs:List (List Key×V)}{xs:List (List Key×Addr×Value)} (r:KT H kvs xs) (k:List Key):RelO (Az kvs k) ((atKey xs k).map (·.2)):=by
 induction r with
 | nil=>exact Gv
 | @cons p q ps qs h t ih =>
  obtain⟨h1,_,h2⟩:=h
  by_cases e:p.1=k
  ·have e':q.1=k:=h1.symm.trans e
   have b:atKey (q::qs) k=some q.2:=by simp[atKey,C8,e']
   rw[C4 e,b];exact h2
  ·have e':¬q.1=k:=fun z=>e (h1.trans z)
   have b:atKey (q::qs) k=atKey qs k:=by simp[atKey,C8,e']
   rw[C3 e,b];exact ih
theorem KT.repl {H:Hp}{kvs:List (List Key×V)}{xs:List (List Key×Addr×Value)} (r:KT H kvs xs) (k:List Key) {y:V}{u:Value} (ry:RelV y u):
  KT H (kvs.map fun kv=>if kv.1=k then (kv.1,y) else kv) (xs.map (putAt k u)):=by
 induction r with
 | nil=>exact .nil
 | @cons p q ps qs h t ih =>
  rw[Am,Am]
  refine .cons ?_ ih
  obtain⟨h1,h2,h3⟩:=h
  unfold putAt
  by_cases e:p.1=k
  ·rw[if_pos e,if_pos (h1.symm.trans e)];exact⟨h1,h2,ry⟩
  ·rw[if_neg e,if_neg (fun z=>e (h1.trans z))];exact⟨h1,h2,h3⟩
theorem KT.put {H:Hp}{kvs:List (List Key×V)}{xs:List (List Key×Addr×Value)} (r:KT H kvs xs) (k:List Key) {b:Addr}{y:V}{u:Value} (hb:H b=some (.tup (k.map kV))) (ry:RelV y u):
  KT H (Cc kvs k y) (storedH xs k b u):=by
 have e:(kvs.any fun kv=>decide (kv.1=k))=(atKey xs k).isSome:=by
  rw[Ih,(r.val k).isSome_eq,Hj]
 unfold Cc storedH
 rw[e]
 by_cases q:(atKey xs k).isSome=true
 ·rw[if_pos q,if_pos q];exact r.repl k ry
 ·rw[if_neg q,if_neg q];exact Paired.snoc r ⟨rfl,hb,ry⟩
theorem KT.keeps {H H':Hp}{kvs:List (List Key×V)}{xs:List (List Key×Addr×Value)} (r:KT H kvs xs) (ht:∀b ys,H b=some (.tup ys)→H' b=some (.tup ys)):KT H' kvs xs :=
 Paired.mapP r fun _ _ z=>⟨z.1,ht _ _ z.2.1,z.2.2⟩
section
variable {P:Program}{w:World}{H:Hp}{h:Heap}{a:Addr}
theorem S6 {u:HO} (ok:HOk P w H h) (e:Rd H a u):ObjOk P w H h a u:=e.ok ok
theorem F6 {kvs:List (Key×V)} (ok:HOk P w H h) (e:Rd H a (.dK kvs)):kvs.length≤sizeLine∧(a==sysModules)=false∧∃vs,KV kvs vs∧h.DictOf (CN P w) a vs :=
 show ObjOk P w H h a (.dK kvs) from S6 ok e
theorem Y2 {kvs:List (Key×V)} (ok:HOk P w H h) (e:H a=some (.dK kvs)):kvs.length≤sizeLine∧(a==sysModules)=false∧∃vs,KV kvs vs∧h.DictOf (CN P w) a vs:=F6 ok (.inl e)
theorem GB {ks:List Key} (ok:HOk P w H h) (e:H a=some (.tup (ks.map kV))):(tupleKind (CN P w)).is h ks a:=by
 obtain⟨_,its,r,o,h1,h2,n,h3⟩:=(show ObjOk P w H h a (.tup (ks.map kV)) from ok a _ e)
 exact⟨o,its.toArray,n,h1,h2,h3,by simpa using Rl r⟩
theorem F7 {kvs:List (List Key×V)} (ok:HOk P w H h) (e:Rd H a (.dT kvs)):kvs.length≤sizeLine∧(a==sysModules)=false∧
  ∃xs,KT H kvs xs∧h.DictOfH (tupleKind (CN P w)) a xs:=by
 obtain⟨z,y,xs,r,o,es,ep,h1,h2,h3,h4,h5⟩:=(show ObjOk P w H h a (.dT kvs) from S6 ok e)
 refine⟨z,y,xs,r,o,es,ep,h1,h2,h3,h4,fun x hx=>?_,h5⟩
 have all:∀{l:List (List Key×V)} {m:List (List Key×Addr×Value)},KT H l m→∀x∈m,(tupleKind (CN P w)).is h x.1 x.2.1:=by
  intro l m q
  induction q with
  | nil=>intro x hx;exact nomatch hx
  | @cons p q ps qs hq t ih =>
   intro x hx
   rcases AY.mp hx with e | hx
   ·subst e
    exact GB ok (by rw[← hq.1];exact hq.2.1)
   ·exact ih x hx
 exact all r x hx
theorem Qs {kvs:List (List Key×V)} (ok:HOk P w H h) (e:H a=some (.dT kvs)):kvs.length≤sizeLine∧(a==sysModules)=false∧
 ∃xs,KT H kvs xs∧h.DictOfH (tupleKind (CN P w)) a xs:=F7 ok (.inl e)
end
def DGet (H:Hp) (a:Addr) (y:V) (r:Option V):Prop :=
 (∃kvs k,Rd H a (.dK kvs)∧y=kV k∧r=Az kvs k)∨∃kvs k b,Rd H a (.dT kvs)∧y=.ref b∧H b=some (.tup (k.map kV))∧r=Az kvs k
def DPut (H:Hp) (a:Addr) (y v:V) (H':Hp):Prop :=
 (∃kvs k,H a=some (.dK kvs)∧y=kV k∧kvs.length < sizeLine∧H'=upd H a (.dK (Cc kvs k v)))∨
 ∃kvs k b,H a=some (.dT kvs)∧y=.ref b∧H b=some (.tup (k.map kV))∧kvs.length < sizeLine∧H'=upd H a (.dT (Cc kvs k v))
theorem DGet.k {H:Hp}{a:Addr}{kvs:List (Key×V)}{k:Key} (e:H a=some (.dK kvs)):DGet H a (kV k) (Az kvs k):=.inl ⟨kvs,k,.inl e,rfl,rfl⟩
theorem DGet.t {H:Hp}{a b:Addr}{kvs:List (List Key×V)}{k:List Key} (e:H a=some (.dT kvs)) (eb:H b=some (.tup (k.map kV))):DGet H a (.ref b) (Az kvs k):=.inr ⟨kvs,k,b,.inl e,rfl,eb,rfl⟩
theorem DPut.k {H:Hp}{a:Addr}{kvs:List (Key×V)}{k:Key}{v:V} (e:H a=some (.dK kvs)) (hl:kvs.length < sizeLine):DPut H a (kV k) v (upd H a (.dK (Cc kvs k v))):=.inl ⟨kvs,k,e,rfl,hl,rfl⟩
theorem DPut.t {H:Hp}{a b:Addr}{kvs:List (List Key×V)}{k:List Key}{v:V} (e:H a=some (.dT kvs)) (eb:H b=some (.tup (k.map kV))) (hl:kvs.length < sizeLine):
 DPut H a (.ref b) v (upd H a (.dT (Cc kvs k v))):=.inr ⟨kvs,k,b,e,rfl,eb,hl,rfl⟩
section
variable {X:Cx}{pins:List (Addr×Obj)}{σ:St}{H:Hp}{s:Shared}{a:Addr}{y v:V}{u r:Value}{o:Option V}{A:Around}{E:Value→Shared→Prop}
theorem Inv.big (I:Inv X pins σ H s):sysModules < s.heap.objs.size:=by
 have h:mainGlobals < s.heap.objs.size:=(I.mod.glob.keeps I.bk).lt
 exact LO (by decide) h
theorem Ys {Q:Value→Shared→Prop} (hu:A.units+1 < cLine) (I:Inv X pins σ H s) (g:DGet H a y (some v)) (ry:RelV y u) (h:∀w' s',Inv X pins σ H s'→RelV v w'→Q w' s'):
  wpAny (model X.prog X.w) A (getItem (.ref a) u) Q E s:=by
 rcases g with ⟨kvs,k,e,ey,l⟩ | ⟨kvs,k,b,e,ey,eb,l⟩
 ·subst ey
  obtain⟨z,hd,vs,rel,dd⟩:=F6 I.hok e
  obtain⟨w',hw,rw'⟩:=RelO.some_of (v:=v) (o:=valueAt vs k) (by rw[l];exact rel.val k)
  exact wpAny_getItem_of (G5 ry) dd.mapOf hw (h w' _ (I.tok _) rw')
 ·subst ey
  cases (show u=Ak b from ry)
  obtain⟨z,hd,xs,rel,dd⟩:=F7 I.hok e
  obtain⟨w',hw,rw'⟩:=RelO.some_of (v:=v) (o:=(atKey xs k).map (·.2)) (by rw[l];exact rel.val k)
  obtain⟨p,hp,hp2⟩:=Gb.mp hw
  refine Xz (JR hu) (GB I.hok eb) dd hp ?_
  rw[hp2]
  exact h w' _ (I.tok _) rw'
theorem Yt {Q:Value→Shared→Prop} (hu:A.units+1 < cLine) (I:Inv X pins σ H s) (g:DGet H a y o) (ry:RelV y u) (h:∀s',Inv X pins σ H s'→Q (.bool o.isSome) s'):
  wpAny (model X.prog X.w) A (compareOp .In u (.ref a)) Q E s:=by
 rcases g with ⟨kvs,k,e,ey,l⟩ | ⟨kvs,k,b,e,ey,eb,l⟩
 ·subst ey
  obtain⟨z,hd,vs,rel,dd⟩:=F6 I.hok e
  refine wpAny_in_of (G5 ry) hd dd.mapOf ?_
  rw[← (rel.val k).isSome_eq,← l]
  exact h _ (I.tok _)
 ·subst ey
  cases (show u=Ak b from ry)
  obtain⟨z,hd,xs,rel,dd⟩:=F7 I.hok e
  refine wpAny_in_heap (JR hu) (GB I.hok eb) hd dd ?_
  have q:=(rel.val k).isSome_eq
  rw[Hj] at q
  rw[← q,← l]
  exact h _ (I.tok _)
theorem Mb {h':Heap}{t':Nat}{ob:HO} (I:Inv X pins σ H s) (mu:Mut (H a)) (hs:Gg a s.heap h') (he:∃q,h'.get? a=some q) (new:ObjOk X.prog X.w (upd H a ob) h' a ob):
  Inv X pins σ (upd H a ob) { s with heap:=h',toks:=t' } :=
 I.write (x:=a) (e:=a) mu (.inl rfl) (fun b q hb z=>(hs.2 b hb).trans z) he new
theorem Y1 {P:Program}{w:World}{H':Hp}{h':Heap}{kvs:List (Key×V)}{vs:List (Key×Value)} (z:kvs.length≤sizeLine) (hd:(a==sysModules)=false) (rel:KV kvs vs) (dd:h'.DictOf (CN P w) a vs):
 ObjOk P w H' h' a (.dK kvs):=⟨z,hd,vs,rel,dd⟩
theorem Yu {H':Hp}{Q:Unit→Shared→Prop} (hu:A.units+1 < cLine) (I:Inv X pins σ H s) (g:DPut H a y v H') (ry:RelV y u) (rv:RelV v r) (h:∀s',Inv X pins σ H' s'→Q () s'):
  wpAny (model X.prog X.w) A (setItem (.ref a) u r) Q E s:=by
 rcases g with ⟨kvs,k,e,ey,l,eH⟩ | ⟨kvs,k,b,e,ey,eb,l,eH⟩
 ·subst ey eH
  obtain⟨z,hd,vs,rel,dd⟩:=Y2 I.hok e
  have hz:vs.length≤sizeLine:=by rw[← rel.length];exact z
  have hl:(Cc kvs k v).length≤sizeLine:=by have:=M4 kvs k v;omega
  refine wpAny_setItem_pairs (hsz:=hz) (G5 ry) dd fun h' dd' hs=>h _ ?_
  have he:∃q,h'.get? a=some q:=let ⟨q,_,_,hq,_⟩:=dd';⟨q,hq⟩
  exact Mb I (by rw[e];exact Gv) hs he (Y1 hl hd (rel.put k rv) dd')
 ·subst ey eH
  cases (show u=Ak b from ry)
  obtain⟨z,hd,xs,rel,dd⟩:=Qs I.hok e
  have hz:xs.length≤sizeLine:=by rw[← FA rel];exact z
  have hl:(Cc kvs k v).length≤sizeLine:=by have:=M4 kvs k v;omega
  refine X9 (hsz:=hz) (JR hu) (GB I.hok eb) dd fun h' dd' hs=>h _ ?_
  obtain⟨q,es,ep,hq,h2,h3,h4,_,h5⟩:=dd'
  refine Mb I (by rw[e];exact Gv) hs ⟨q,hq⟩ ⟨hl,hd,_,(rel.put k eb rv).keeps fun c ys ec=>?_,q,es,ep,hq,h2,h3,h4,h5⟩
  rw[AG (BE ec e (fun z=>nomatch z))]
  exact ec
end
section
variable {X:Cx}{pins:List (Addr×Obj)}{σ:St}{H:Hp}{s:Shared}{a:Addr}{kvs:List (Key×V)}{k:Key}{u:Value}{A:Around}{E:Value→Shared→Prop}
end
def ME (i:Expr):Prop:=∀ov iv,subscripted i false ov iv=operate [ov,iv] (getItem ov iv)
theorem Vz {prog:Program}{w:World}{A:Around}{E:Value→Shared→Prop}{s:Shared}{env:Env}{value slice:Expr}{pos:Pos}{T id:String}{Q:Value→Shared→Prop}
  (hl:typeLookup (.type T) "__getitem__"=pure (some (.builtin id))) (hs:ME slice)
  (h:wpAny (model prog w) A (eval value env) (fun o s₁=>wpAny (model prog w) A (eval slice env) (fun i s₂=>s₂.TypeIs o T∧wpAny (model prog w) A (getItem o i) Q E s₂) E s₁) E s):
  wpAny (model prog w) A (eval (.Subscript value slice pos) env) Q E s:=by
 refine O7 (DM h (fun o s₁ h₁=>DM h₁ (fun i s₂ h₂=>?_) fun _ _ x=>x) fun _ _ x=>x)
 obtain⟨hT,h₂⟩:=h₂
 unfold subscriptTail
 refine AE ?_
 rw[getitemInPython_of_ne hT.not_modules]
 refine AE (Fx hT hl ?_)
 have fin:wpAny (model prog w) A (subscripted slice false o i) (fun r s₃=>wpAny (model prog w) A (letTemporaryGo value o r >>= fun _=>pure r) Q E s₃) E s₂:=by
  rw[hs o i]
  exact wpAny_operating (DM h₂ (fun r s₃ h₃=>AE (wpAny_letTemporaryGo (AL h₃))) fun _ _ x=>x)
 first
  | exact AL (AE fin)
  | exact AE (AL (AE fin))
  | exact AE fin
theorem Yx {X:Cx}{pins:List (Addr×Obj)}{σ:St}{H:Hp}{s:Shared}{a:Addr}{y:V}{o:Option V} (I:Inv X pins σ H s) (g:DGet H a y o):s.TypeIs (.ref a) "dict":=by
 rcases g with ⟨kvs,k,e,_,_⟩ | ⟨kvs,k,b,e,_,_,_⟩
 ·obtain⟨_,_,vs,_,dd⟩:=F6 I.hok e
  exact dd.typeIs
 ·obtain⟨_,_,xs,_,dd⟩:=F7 I.hok e
  exact dd.typeIs
def eN (td ty:TE):TE:=fun σ H Q=>td σ H fun x H1=>ty σ H1 fun y H2=>∃a v,x=.ref a∧DGet H2 a y (some v)∧Q v H2
def eQ (ty td:TE):TE:=fun σ H Q=>ty σ H fun y H1=>td σ H1 fun x H2=>∃a o,x=.ref a∧DGet H2 a y o∧Q (.bl o.isSome) H2
def cq (td ty tv:TE):TS:=fun D σ H=>tv σ H fun v H1=>td σ H1 fun x H2=>ty σ H2 fun y H3=>∃a H4,x=.ref a∧DPut H3 a y v H4∧D.nx σ H4
section
variable {X:Cx}{o i e value:Expr}{pos pos' tpos:Pos}{td ty tv:TE}
theorem bU (hu:X.A.units+1 < cLine) (ho:PE X o td) (hi:PE X i ty) (hs:ME i):PE X (.Subscript o i pos) (eN td ty):=by
 intro pins s σ H Q I h
 refine Vz XO.lookup hs (thn (ho pins s σ H _ I h) fun u s1 ⟨x,H1,I1,rx,q1⟩=>thn (hi pins s1 σ H1 _ I1 q1) fun iv s2 ⟨y,H2,I2,ry,a,v,ex,g,q2⟩=>?_)
 subst ex
 obtain rfl:u=Ak a:=rx
 exact⟨Yx I2 g,Ys hu I2 g ry fun w' s3 I3 rw'=>⟨v,H2,I3,rw',q2⟩⟩
theorem bP (hu:X.A.units+1 < cLine) (hi:PE X i ty) (ho:PE X o td):PC X .In i o (eQ ty td):=by
 intro pins s σ H Q I h
 refine thn (hi pins s σ H _ I h) fun iv s1 ⟨y,H1,I1,ry,q1⟩=>thn (ho pins s1 σ H1 _ I1 q1) fun u s2 ⟨x,H2,I2,rx,a,ov,ex,g,q2⟩=>?_
 subst ex
 obtain rfl:u=Ak a:=rx
 exact Yt hu I2 g ry fun s3 I3=>⟨.bl ov.isSome,H2,I3,rfl,q2⟩
theorem Nd (hu:X.A.units+1 < cLine) (ho:PE X o td) (hi:PE X i ty) (hv:PE X value tv) (hs:swapsWith value (some (.Subscript o i pos')) pos.line X.env=pure false):
  PS X (.Assign [.Subscript o i pos'] value pos) (cq td ty tv):=by
 intro pins s σ H D I h
 refine Xv (thn (hv pins s σ H _ I h) fun r s1 ⟨v,H1,I1,rv,q1⟩=>thn (ho pins s1 σ H1 _ I1 q1) fun u s2 ⟨x,H2,I2,rx,q2⟩=>thn (hi pins s2 σ H2 _ I2 q2) fun iv s3 ⟨y,H3,I3,ry,a,H4,ex,g,q3⟩=>?_) hs
 subst ex
 obtain rfl:u=Ak a:=rx
 exact Yu hu I3 g ry rv fun s4 I4=>⟨σ,H4,I4,q3⟩
end
theorem Y0 {P:Program}{w:World}{H:Hp} (h:Heap) (hb:sysModules < h.objs.size):ObjOk P w H (h.push { cls:=.type "dict",data:=.dict #[] }) h.objs.size (.dK []) :=
 ⟨Au _,beq_eq_false_iff_ne.mpr (Af (BO hb)),[],.nil,Heap.DictOf.new h⟩
theorem Y5 {P:Program}{w:World}{H:Hp} (h:Heap) (hb:sysModules < h.objs.size):ObjOk P w H (h.push { cls:=.type "dict",data:=.dict #[] }) h.objs.size (.dT []) :=
 ⟨Au _,beq_eq_false_iff_ne.mpr (Af (BO hb)),[],.nil,_,#[],0,BH _ rfl,⟨rfl,rfl,rfl⟩,rfl,rfl,JG⟩
def eR:TE:=fun _ H Q=>∀p,H p=none→Q (.ref p) (upd H p (.dK []))
def eT:TE:=fun _ H Q=>∀p,H p=none→Q (.ref p) (upd H p (.dT []))
section
variable {X:Cx}{pos:Pos}
theorem Sq:PE X (.Dict [] [] pos) eR:=fun pins s σ H Q I h =>
 Pq ⟨.ref s.heap.objs.size,_,I.laid (a:=s.heap.objs.size) (o:=.dK []) (t':=s.toks) (fun _ _ q=>A2 _ q) (AO _) (Y0 s.heap I.big),rfl,h _ (I.hok.fresh (AO _))⟩
theorem bX:PE X (.Dict [] [] pos) eT:=fun pins s σ H Q I h =>
 Pq ⟨.ref s.heap.objs.size,_,I.laid (a:=s.heap.objs.size) (o:=.dT []) (t':=s.toks) (fun _ _ q=>A2 _ q) (AO _) (Y5 s.heap I.big),rfl,h _ (I.hok.fresh (AO _))⟩
end
structure M1 (X:Cx) (o:Expr) (m:Str) (apos:Pos) (e:Expr) (cpos:Pos):Prop where
 base:attributeBase o m X.env (eval o X.env)=eval o X.env
 few:((backTo cpos (starEach [e] X.env)).all (fun x=>!x.1)&&(backToKw cpos (keywordEach [] X.env)).all (fun x=>x.1.isSome)
  && decide (([e]:List Expr).length+([]:List Keyword).length+(if ([]:List Keyword).isEmpty then 0 else 1) < 30))=true
 line:(apos.endLine==cpos.line)=true
 trees:backTo cpos (starEach [e] X.env)=[(false,eval e X.env)]
structure M2 (X:Cx) (o:Expr) (m:Str) (apos:Pos) (e f:Expr) (cpos:Pos):Prop where
 base:attributeBase o m X.env (eval o X.env)=eval o X.env
 few:((backTo cpos (starEach [e,f] X.env)).all (fun x=>!x.1)&&(backToKw cpos (keywordEach [] X.env)).all (fun x=>x.1.isSome)
  && decide (([e,f]:List Expr).length+([]:List Keyword).length+(if ([]:List Keyword).isEmpty then 0 else 1) < 30))=true
 line:(apos.endLine==cpos.line)=true
 trees:backTo cpos (starEach [e,f] X.env)=[(false,eval e X.env),(false,eval f X.env)]
def IsD (H:Hp) (a:Addr):Prop:=(∃kvs,Rd H a (.dK kvs))∨∃kvs,Rd H a (.dT kvs)
theorem Rj {X:Cx}{pins:List (Addr×Obj)}{σ:St}{H:Hp}{s:Shared}{a:Addr} (I:Inv X pins σ H s) (d:IsD H a):
  s.TypeIs (.ref a) "dict"∧(∀b,Ak a=.ref b→∃ob,s.heap.get? b=some ob∧ob.dict=none)∧(a==sysModules)=false:=by
 rcases d with ⟨kvs,e⟩ | ⟨kvs,e⟩
 ·obtain⟨_,hd,vs,_,dd⟩:=F6 I.hok e
  refine⟨dd.typeIs,fun b q=>?_,hd⟩
  cases q
  obtain⟨ob,_,_,h1,h2,_⟩:=dd
  exact⟨ob,h1,h2.2.1⟩
 ·obtain⟨_,hd,xs,_,dd⟩:=F7 I.hok e
  refine⟨dd.typeIs,fun b q=>?_,hd⟩
  cases q
  obtain⟨ob,_,_,h1,h2,_⟩:=dd
  exact⟨ob,h1,h2.2.1⟩
section
variable {X:Cx}{pins:List (Addr×Obj)}{σ:St}{H:Hp}{s:Shared}{a:Addr}{y d:V}{u r:Value}{o:Option V}{A:Around}{E:Value→Shared→Prop}
theorem Yq {Q:Value→Shared→Prop} (hu:A.units+1 < cLine) (I:Inv X pins σ H s) (g:DGet H a y o) (ry:RelV y u) (h:∀w' s',Inv X pins σ H s'→RelV (o.getD .non) w'→Q w' s'):
  wpAny (model X.prog X.w) A (call (.builtin "dict.get") [.ref a,u]) Q E s:=by
 rcases g with ⟨kvs,k,e,ey,l⟩ | ⟨kvs,k,b,e,ey,eb,l⟩
 ·subst ey
  obtain⟨z,hd,vs,rel,dd⟩:=F6 I.hok e
  refine JO Hn dd.typeIs Lf (XC _ _) (meets_dict_get (CN X.prog X.w) a (G5 ry) hd) ⟨_,dd.mapOf,h _ _ (I.tok _) ?_⟩
  rw[l]
  exact(rel.val k).getD rfl
 ·subst ey
  cases (show u=Ak b from ry)
  obtain⟨z,hd,xs,rel,dd⟩:=F7 I.hok e
  refine JO Hn dd.typeIs Lf (XC _ _) (meetsH_dict_get (tupleKind (CN X.prog X.w)) a b hd) ⟨JR hu,k,xs,GB I.hok eb,dd,h _ _ (I.tok _) ?_⟩
  rw[l]
  exact(rel.val k).getD rfl
theorem Yr {Q:Value→Shared→Prop} (hu:A.units+1 < cLine) (I:Inv X pins σ H s) (g:DGet H a y o) (ry:RelV y u) (rd:RelV d r) (h:∀w' s',Inv X pins σ H s'→RelV (o.getD d) w'→Q w' s'):
  wpAny (model X.prog X.w) A (call (.builtin "dict.get") [.ref a,u,r]) Q E s:=by
 rcases g with ⟨kvs,k,e,ey,l⟩ | ⟨kvs,k,b,e,ey,eb,l⟩
 ·subst ey
  obtain⟨z,hd,vs,rel,dd⟩:=F6 I.hok e
  refine JO Hn dd.typeIs Lf (XD _ _ _) (meets_dict_get_default (CN X.prog X.w) a (G5 ry) hd r) ⟨_,dd.mapOf,h _ _ (I.tok _) ?_⟩
  rw[l]
  exact(rel.val k).getD rd
 ·subst ey
  cases (show u=Ak b from ry)
  obtain⟨z,hd,xs,rel,dd⟩:=F7 I.hok e
  refine JO Hn dd.typeIs Lf (XD _ _ _) (meetsH_dict_get_default (tupleKind (CN X.prog X.w)) a b hd r) ⟨JR hu,k,xs,GB I.hok eb,dd,h _ _ (I.tok _) ?_⟩
  rw[l]
  exact(rel.val k).getD rd
end
def eO (td ty:TE):TE:=fun σ H Q=>td σ H fun x H1=>∃a,x=.ref a∧IsD H1 a∧ty σ H1 fun y H2=>∃o,DGet H2 a y o∧Q (o.getD .non) H2
def eP (td ty tx:TE):TE:=fun σ H Q=>td σ H fun x H1=>∃a,x=.ref a∧IsD H1 a∧ty σ H1 fun y H2=>tx σ H2 fun z H3=>∃o,DGet H3 a y o∧Q (o.getD z) H3
section
variable {X:Cx}{o e f:Expr}{apos cpos:Pos}{td ty tx:TE}
theorem bV (hu:X.A.units+1 < cLine) (ho:PE X o td) (he:PE X e ty) (m:M1 X o "get" apos e cpos):PE X (.Call (.Attribute o "get" apos) [e] [] cpos) (eO td ty):=by
 intro pins s σ H Q I h
 refine Xw m.base m.few m.line XM Hn XX (thn (ho pins s σ H _ I h) fun u s1 ⟨x,H1,I1,rx,a,ex,d,q1⟩=>?_)
 subst ex
 obtain rfl:u=Ak a:=rx
 obtain⟨t1,t2,_⟩:=Rj I1 d
 refine⟨t1,t2,?_⟩
 rw[m.trees]
 refine PN rfl (PQ (Hm (thn (he pins s1 σ H1 _ I1 q1) fun iv s2 ⟨y,H2,I2,ry,ov,g,q2⟩=>JM ?_)))
 exact Yq hu I2 g ry fun w' s3 I3 rw'=>⟨_,H2,I3,rw',q2⟩
theorem So (hu:X.A.units+1 < cLine) (ho:PE X o td) (he:PE X e ty) (hf:PE X f tx) (m:M2 X o "get" apos e f cpos):PE X (.Call (.Attribute o "get" apos) [e,f] [] cpos) (eP td ty tx):=by
 intro pins s σ H Q I h
 refine Xw m.base m.few m.line XM Hn XX (thn (ho pins s σ H _ I h) fun u s1 ⟨x,H1,I1,rx,a,ex,d,q1⟩=>?_)
 subst ex
 obtain rfl:u=Ak a:=rx
 obtain⟨t1,t2,_⟩:=Rj I1 d
 refine⟨t1,t2,?_⟩
 rw[m.trees]
 refine PN rfl (PQ (Hm (thn (he pins s1 σ H1 _ I1 q1) fun iv s2 ⟨y,H2,I2,ry,q2⟩ =>
  Hm (thn (hf pins s2 σ H2 _ I2 q2) fun fv s3 ⟨z,H3,I3,rz,ov,g,q3⟩=>JM ?_))))
 exact Yr hu I3 g ry rz fun w' s4 I4 rw'=>⟨_,H3,I4,rw',q3⟩
end
section
variable {X:Cx}{pins:List (Addr×Obj)}{σ:St}{H:Hp}{s:Shared}{a:Addr}{kvs:List (Key×V)}{A:Around}{E:Value→Shared→Prop}
end
section
variable {X:Cx}{pins:List (Addr×Obj)}{σ:St}{H:Hp}{s:Shared}{a:Addr}{y:V}{u:Value}{A:Around}{E:Value→Shared→Prop}
end
end L2
namespace L2
open PySem PySem.Spec PyProof.Rows
section
variable {prog:Program}{w:World}{A:Around}{E:Value→Shared→Prop}
end
section
variable {X:Cx}
end
end L2
namespace L2
open PySem PySem.Spec PyProof.Rows
theorem QO:bootBuiltins "reversed"=some (.type "reversed"):=by decide +kernel
section
variable {X:Cx}{pins:List (Addr×Obj)}{σ:St}{H:Hp}{s:Shared}{h':Heap}
theorem Inv.turnedNew {t':Nat}{ch:List Addr}{T:Addr}{ob:HO} (I:Inv X pins σ H s) (k:∀b o,b∉ch→s.heap.get? b=some o→h'.get? b=some o) (hf:∀b∈ch,D9 X pins H b) (hT:s.heap.objs.size≤T)
  (new:ObjOk X.prog X.w (upd H T ob) h' T ob):Inv X pins σ (upd H T ob) { s with heap:=h',toks:=t' }:=by
 have hn:H T=none:=I.hok.fresh hT
 have nit:∀b u,H b=some u→b∉ch:=fun b u e z=>by
  have q:=(hf b z).1
  rw[q] at e;cases e
 refine I.step (g':=s.gens) (d':=s.drawn) (ch:=ch) (fun b hb=>⟨(hf b hb).2.2.2.1,(hf b hb).2.1,(hf b hb).2.2.2.2.1,(hf b hb).2.2.2.2.2⟩) (fun b o _ _ hc e _=>k b o hc e) (fun b o _ _ hc e _=>⟨o.slots,k b o hc e⟩)
  (fun b o _ e n=>?_) (fun b o hc e=>⟨o,k b o hc e⟩) (fun b xs e=>?_) (fun b o u e=>?_) (fun b ps e=>⟨#[],?_⟩) (fun m hm=>?_) (fun b u e=>?_) I.bare
 ·rw[AG (BO (Bg (Ah e) hT))];exact n
 ·rw[AG (Ai e hn)];exact e
 ·rw[AG (Ai e hn)];exact e
 ·rw[AG (Ai e hn),e];simp
 ·obtain⟨o,es,ep,ho,r⟩:=hm
  exact⟨o,es,ep,k _ o (fun z=>(hf _ z).2.1 rfl) ho,r⟩
 ·by_cases hb:b=T
  ·subst hb
   rw[AH] at e
   cases e
   exact new
  ·rw[AG hb] at e
   refine(I.hok b u e).stay (fun c v hc q=>k c v ?_ q) (fun c q=>by rw[AG (Ai q hn)];exact q) fun c xs q=>by rw[AG (Ai q hn)];exact q
   rcases hc with z | z
   ·rw[z];exact nit b u e
   ·exact nit c _ z
theorem Inv.lock {d:Addr}{u:HO} (I:Inv X pins σ H s) (h:H d=some u) (mu:Mut (some u)):∃od,Inv X pins σ (upd H d (.frz od u)) s:=by
 have x:=I.hok d u h
 have ex:∃od,s.heap.get? d=some od:=by
  cases u with
  | lst xs=>obtain⟨_,_,_,_,e⟩:=x;exact⟨_,e⟩
  | dK kvs=>obtain⟨_,_,_,_,o,_,_,e,_⟩:=x;exact⟨o,e⟩
  | dT kvs=>obtain⟨_,_,_,_,o,_,_,e,_⟩:=x;exact⟨o,e⟩
  | set S n=>obtain⟨o,_,_,_,e,_⟩:=x;exact⟨o,e⟩
  | ins C dx fs=>obtain⟨_,_,_,e,_⟩:=x;exact⟨_,e⟩
  | ext φ=>obtain⟨_,⟨_,e⟩,_⟩:=x;exact⟨_,e⟩
  | _=>exact BX mu
 obtain⟨od,e⟩:=ex
 have new:ObjOk X.prog X.w (upd H d (.frz od u)) s.heap d (.frz od u):=by
  refine⟨e,x.stay (fun b v _ q=>q) (fun b q=>?_) fun b xs q=>?_⟩
  ·rw[AG (fun z=>by rw[z,h] at q;cases q;exact mu)];exact q
  ·rw[AG (fun z=>by rw[z,h] at q;cases q;exact mu)];exact q
 exact⟨od,I.write (x:=d) (e:=d) (t':=s.toks) (h':=s.heap) (by rw[h];exact mu) (.inl rfl) (fun b v _ q=>q) ⟨od,e⟩ new⟩
theorem Inv.nofrz {d:Addr}{u:HO} (I:Inv X pins σ H s) (h:H d=some u) (mu:Mut (some u)):∀o' u',X.H_0 d≠some (.frz o' u'):=fun o' u' e=>by
 have q:=I.base.frzs d o' u' e
 rw[h] at q
 cases q
 exact mu
theorem Inv.unlock {d:Addr}{od:Obj}{u:HO} (I:Inv X pins σ H s) (h:H d=some (.frz od u)) (hn:∀o' u',X.H_0 d≠some (.frz o' u')):Inv X pins σ (upd H d u) s:=by
 have neH:∀b o,H b=some o→(∀o' u',o≠.frz o' u')→b≠d:=fun b o e hne z=>by
  rw[z,h] at e
  cases e
  exact hne _ _ rfl
 have neN:∀b,H b=none→b≠d:=fun b e z=>by rw[z,h] at e;cases e
 refine⟨I.ok,I.os,I.bare,⟨I.base.keep,I.base.slot,fun b o e n hx=>?_,I.base.there,fun b xs e=>?_,fun b o x e=>?_,fun b ps e=>?_⟩,I.loc,I.cell,?_,fun x c e=>?_,fun p hp=>?_,fun b o e=>?_,I.len⟩
 ·rw[AG (neN b (I.base.free b o e n hx))];exact I.base.free b o e n hx
 ·have q:=I.base.tups b xs e
  rw[AG (neH b _ q (fun _ _ z=>nomatch z))];exact q
 ·have q:=I.base.frzs b o x e
  rw[AG (fun z=>by rw[z] at e;exact hn _ _ e)];exact q
 ·obtain⟨m,q⟩:=I.base.tbls b ps e
  exact⟨m,by rw[AG (neH b _ q (fun _ _ z=>nomatch z))];exact q⟩
 ·rw[AG (neN _ I.free)];exact I.free
 ·rw[AG (neN c (I.freeC x c e))];exact I.freeC x c e
 ·obtain⟨e,n,r⟩:=I.pin p hp
  exact⟨e,by rw[AG (neN _ n)];exact n,r⟩
 ·by_cases hb:b=d
  ·rw[hb,AH] at e
   cases e
   rw[hb]
   obtain⟨_,x⟩:=I.hok d _ h
   exact x.stay (fun c v _ q=>q) (fun c q=>by rw[AG (neH c _ q (fun _ _ z=>nomatch z))];exact q) fun c xs q=>by rw[AG (neH c _ q (fun _ _ z=>nomatch z))];exact q
  ·rw[AG hb] at e
   exact(I.hok b o e).stay (fun c v _ q=>q) (fun c q=>by rw[AG (neH c _ q (fun _ _ z=>nomatch z))];exact q) fun c xs q=>by rw[AG (neH c _ q (fun _ _ z=>nomatch z))];exact q
end
def fb (t:TS):TS:=fun D σ H=>∃d u,H d=some u∧Mut (some u)∧∀od,t ⟨fun σ' H'=>H' d=some (.frz od u)∧D.nx σ' (upd H' d u),fun v H'=>H' d=some (.frz od u)∧D.rt v (upd H' d u),fun σ' H'=>H' d=some (.frz od u)∧D.bk σ' (upd H' d u),fun σ' H'=>H' d=some (.frz od u)∧D.ct σ' (upd H' d u)⟩ σ (upd H d (.frz od u))
def eX (t:TE):TE:=fun σ H Q=>∃d u,H d=some u∧Mut (some u)∧∀od,t σ (upd H d (.frz od u)) fun v H'=>H' d=some (.frz od u)∧Q v (upd H' d u)
section
variable {X:Cx}
theorem Ss {e:Expr}{t:TE} (h:PE X e t):PE X e (eX t):=by
 intro pins s σ H Q I hw
 obtain⟨d,u,hd,mu,hw⟩:=hw
 obtain⟨od,I1⟩:=I.lock hd mu
 refine thn (h pins s σ _ _ I1 (hw od)) fun v s1 ⟨x,H1,I2,r,e2,q⟩=>?_
 exact⟨x,_,I2.unlock e2 (I.nofrz hd mu),r,q⟩
theorem HF {tg:Expr}{pins:List (Addr×Obj)}{σ:St}{H:Hp}{s:Shared}{R:It→Hp→Prop}{J:It}{tn:Nat→Heap→Prop}{tk:Nat} (I:Inv X pins σ H s) (o:Obj)
  (T:Dh X.prog X.w X.K tg J [s.heap.objs.size] s.heap.objs.size tn) (st:tn 0 (s.heap.push o)) (q:R J H):PIE X pins σ tg R (.ref s.heap.objs.size) { s with heap:=s.heap.push o,toks:=tk }:=by
 refine⟨s.heap.objs.size,[s.heap.objs.size],tn,J,H,rfl,I.kept fun b ob e=>A2 _ e,T,st,fun b hb=>?_,q⟩
 have e:b=s.heap.objs.size:=by simpa using hb
 subst e
 exact I.fpOk (AO _) (I.hok.fresh (AO _))
end
def Itc (lo c:Int) (n:Nat):It:=⟨fun i _=>i < n,fun i H x H'=>H'=H∧x=.int (lo+(i:Nat) * c),fun i _=>n≤i⟩
theorem fM {P:Program}{w:World}{K:AB}{tg:Expr} (it:Addr) (lo c:Int) (n:Nat):Dh P w K tg (Itc lo c n) [it] it (fun i h=>IsRangeIter h it (lo+(i:Nat) * c) ((n:Int) - (i:Nat)) c) where
 mem:=by simp
 obj:=fun i h st b hb=>by
  have e:b=it:=by simpa using hb
  subst e
  exact⟨_,st,fun v z=>nomatch z⟩
 keep:=fun i h h' st k=>k it (by simp) _ st
 item:=by
  intro X hP hw hK hc i pins s σ H E I hf st hg
  subst hP hw hK
  obtain⟨f0,f1,f2,f3,f4,f5⟩:=hf it (by simp)
  have W:=Walks.range (prog:=X.prog) (w:=X.w) (I.ok.hd hc) it lo c n
  refine W.item i s _ _ hg st fun v h' tk hv st' kk=>?_
  obtain⟨t,rfl⟩:=hv
  have I1:Inv X pins σ H { s with heap:=h',toks:=tk }:=I.turned (fun b o hb e=>kk b o (by simpa using hb) e) f0 f1 f3 f4 f5
  exact⟨_,rfl,FH (s:={ s with heap:=h',toks:=tk }) (n:="range_iterator") st' rfl rfl (by decide) ⟨.int (lo+(i:Nat) * c),H,I1,⟨t,rfl⟩,⟨rfl,rfl⟩,st',fun b hb=>(hf b hb).1⟩⟩
 done:=by
  intro X hP hw hK hc i pins s σ H E I hf st hg
  subst hP hw hK
  obtain⟨f0,f1,f2,f3,f4,f5⟩:=hf it (by simp)
  exact X6 (I.ok.hd hc) st (by have:n≤i:=hg;omega) fun h' eb=>⟨rfl,I.turned (t':=s.toks) (fun b o hb e=>eb b o hb e) f0 f1 f3 f4 f5⟩
 self:=fun A i s Q E st h=>X4 st h
def RgC (i j c:Int) (n:Nat):Prop:=c≠0∧c.natAbs < 1073741824∧Builtin.Range.small i j c=true∧PM i j c=n
def Zi (ta:TA):TI:=fun σ H R=>ta σ H fun vs H1=>∃(i j c:Int) (n:Nat),vs=[.int i,.int j,.int c]∧RgC i j c n∧R (Itc i c n) H1
section
variable {X:Cx}{tg:Expr}
theorem bo {a b c:Expr}{ta:TA}{p pos:Pos} (hg:Gl X "range") (hm:X.mg "range"=none) (ha:PA X [a,b,c] ta)
  (hs:starEach [a,b,c] X.env=(false,eval a X.env)::starEach [b,c] X.env:=by rfl) (hpl:(backTo pos (starEach [b,c] X.env)).any (·.1)=false:=by rfl):
  PI X tg (.Call (.Name "range" p) [a,b,c] [] pos) (Zi ta):=by
 intro pins s σ H R I h
 refine Call_ (Er I hg hm boot_range (Fq (thn (ha pos pins s σ H _ I h) fun us s1 ⟨vs,H1,I1,r1,q1⟩=>?_) hs hpl))
 obtain⟨i,j,k,n,e,⟨c0,c1,c2,c3⟩,q⟩:=q1
 subst e
 cases r1 with
 | cons r rr =>
  cases rr with
  | cons r' rr =>
   cases rr with
   | cons r'' rr =>
    cases rr
    obtain⟨t,rfl⟩:=r
    obtain⟨t',rfl⟩:=r'
    obtain⟨t'',rfl⟩:=r''
    refine call_range_3 c0 ?_ (.inl (W2 c1))
    refine X3 (IsRange.new ..) c2 ?_
    have I2:Inv X pins σ H1 { s1 with heap:=s1.heap.push { cls:=.type "range",data:=.fields #[.int i t,.int j t',.int k t''] } }:=I1.kept (t':=s1.toks) fun b o e=>A2 _ e
    refine HF (tk:=s1.toks) I2 _ (fM _ i k n) ?_ q
    have e1:i+((0:Nat):Int) * k=i:=by simp
    have e2:(n:Int) - ((0:Nat):Int)=PM i j k:=by rw[c3];simp
    show IsRangeIter _ _ (i+((0:Nat):Int) * k) ((n:Int) - ((0:Nat):Int)) k
    rw[e1,e2]
    exact BH _ rfl
end
def Itv (K:AB) (a:Addr) (n:Nat):It :=
 ⟨fun i H=>i < n∧∃(xs:List V) (x:V),SqL K H a xs∧xs[n - 1 - i]?=some x,fun i H x H'=>H'=H∧∀xs,SqL K H a xs→xs[n - 1 - i]?=some x,fun i _=>n≤i⟩
theorem fN {P:Program}{w:World}{K:AB}{tg:Expr} (a it:Addr) (n:Nat):Dh P w K tg (Itv K a n) [it] it (fun i h=>i≤n∧h.IsRevIter it a ((n:Int) - 1 - (i:Nat))) where
 mem:=by simp
 obj:=fun i h st b hb=>by
  have e:b=it:=by simpa using hb
  subst e
  obtain⟨_,o,e,c,d⟩:=st
  exact⟨o,e,fun v z=>by rw[d] at z;cases z⟩
 keep:=fun i h h' st k=>⟨st.1,st.2.at fun o e=>k it (by simp) o e⟩
 item:=by
  intro X hP hw hK hc i pins s σ H E I hf st hg
  subst hP hw hK
  obtain⟨hin,xs,x,hq,hx⟩:=hg
  obtain⟨its,rv,p,hz⟩:=I.list hq
  obtain⟨u,hu,ru⟩:=rv.get hx
  obtain⟨f0,f1,f2,f3,f4,f5⟩:=hf it (by simp)
  obtain⟨_,hit⟩:=st
  have e1:(n:Int) - 1 - ((i:Nat):Int)=((n - 1 - i:Nat):Int):=by omega
  rw[e1] at hit
  refine wpAny_pyNext_rev_item hit p.isList (x:=u) (by simpa using hu) fun h' st' sb=>?_
  have e2:((n - 1 - i:Nat):Int) - 1=(n:Int) - 1 - ((i+1:Nat):Int):=by omega
  rw[e2] at st'
  have I1:Inv X pins σ H { s with heap:=h' }:=I.turned (t':=s.toks) (fun b o hb e=>(sb.2 b hb).trans e) f0 f1 f3 f4 f5
  obtain⟨o,e,c,d⟩:=id st'
  exact⟨u,rfl,FH (s:={ s with heap:=h' }) e c d (by decide) ⟨x,H,I1,ru,⟨rfl,fun ys hy=>by rw[I.list_inj hy hq];exact hx⟩,⟨hin,st'⟩,fun b hb=>(hf b hb).1⟩⟩
 done:=by
  intro X hP hw hK hc i pins s σ H E I hf st hg
  subst hP hw hK
  obtain⟨f0,f1,f2,f3,f4,f5⟩:=hf it (by simp)
  obtain⟨hin,hit⟩:=st
  have hge:n≤i:=hg
  have e1:(n:Int) - 1 - ((i:Nat):Int)=-1:=by omega
  rw[e1] at hit
  exact wpAny_pyNext_rev_end (I.ok.hd hc) hit fun h' eb=>⟨rfl,I.turned (t':=s.toks) (fun b o hb e=>eb b o hb e) f0 f1 f3 f4 f5⟩
 self:=fun A i s Q E st h=>P0 st.2 h
def Zg (K:AB) (ta:TA):TI:=fun σ H R=>ta σ H fun vs H1=>∃(a:Addr) (xs:List V),vs=[.ref a]∧SqL K H1 a xs∧R (Itv K a xs.length) H1
section
variable {X:Cx}{tg:Expr}
theorem bp {e:Expr}{ta:TA}{p pos:Pos} (hg:Gl X "reversed") (hm:X.mg "reversed"=none) (ha:PA X [e] ta) (hs:starEach [e] X.env=[(false,eval e X.env)]:=by rfl):PI X tg (.Call (.Name "reversed" p) [e] [] pos) (Zg X.K ta):=by
 intro pins s σ H R I h
 refine Call_ (Er I hg hm QO (Fq (thn (ha pos pins s σ H _ I h) fun us s1 ⟨vs,H1,I1,r1,q1⟩=>?_) hs rfl))
 obtain⟨a,xs,e,hq,q⟩:=q1
 subst e
 cases r1 with
 | cons r rr =>
  cases rr
  cases r
  obtain⟨its,rv,p',hz⟩:=I1.list hq
  have hl:=rv.length
  have e1:((its.toArray.size:Nat):Int) - 1=(xs.length:Int) - 1 - ((0:Nat):Int):=by simp only[Bf];omega
  refine Xq p'.isList (P0 (l:=a) (i:=((its.toArray.size:Nat):Int) - 1) ⟨_,BH _ rfl,rfl,rfl⟩ ?_)
  refine HF (tk:=s1.toks) I1 _ (fN a _ xs.length) ⟨Au _,?_⟩ q
  rw[← e1]
  exact⟨_,BH _ rfl,rfl,rfl⟩
end
def Its (x:Str):It:=⟨fun i _=>i < x.cps.size,fun i H v H'=>H'=H∧∃c,x.cps[i]?=some c∧v=.str ⟨#[c]⟩,fun i _=>x.cps.size≤i⟩
theorem V8 {P:Program}{w:World}{K:AB}{tg:Expr} (it:Addr) (x:Str) (t:Tok) (ty:String) (hty:ty="str_ascii_iterator"∨ty="str_iterator"):
  Dh P w K tg (Its x) [it] it (fun i h=>h.IsStrIter it ty x t i) where
 mem:=by simp
 obj:=fun i h st b hb=>by
  have e:b=it:=by simpa using hb
  subst e
  obtain⟨o,e,c,d⟩:=st
  exact⟨o,e,fun v z=>by rw[d] at z;cases z⟩
 keep:=fun i h h' st k=>let ⟨o,ho,r⟩:=st;⟨o,k it (by simp) o ho,r⟩
 item:=by
  intro X hP hw hK hc i pins s σ H E I hf st hg
  subst hP hw hK
  obtain⟨f0,f1,f2,f3,f4,f5⟩:=hf it (by simp)
  have W:Walks X.prog X.w X.A it [it] [it] x.cps.size (SignAt x) (fun i h=>h.IsStrIter it ty x t i):=by
   rcases hty with e | e
   ·rw[e];exact Walks.strAscii (I.ok.hd hc) it x t
   ·rw[e];exact Walks.strWide (I.ok.hd hc) it x t
  have hno:["enumerate","zip","dict_itemiterator","dict_reverseitemiterator","odict_iterator","itertools.zip_longest","itertools.pairwise"].contains ty=false:=by
   rcases hty with e | e
   ·rw[e];decide
   ·rw[e];decide
  refine W.item i s _ _ hg st fun v h' tk hv st' kk=>?_
  obtain⟨c,u,hcx,rfl⟩:=hv
  have I1:Inv X pins σ H { s with heap:=h',toks:=tk }:=I.turned (fun b o hb e=>kk b o (by simpa using hb) e) f0 f1 f3 f4 f5
  obtain⟨oi,e,cc,dd⟩:=id st'
  exact⟨_,rfl,FH (s:={ s with heap:=h',toks:=tk }) e cc dd hno ⟨.str ⟨#[c]⟩,H,I1,⟨u,rfl⟩,⟨rfl,c,hcx,rfl⟩,st',fun b hb=>(hf b hb).1⟩⟩
 done:=by
  intro X hP hw hK hc i pins s σ H E I hf st hg
  subst hP hw hK
  obtain⟨f0,f1,f2,f3,f4,f5⟩:=hf it (by simp)
  have hx:x.cps[i]?=none:=WQ hg
  rcases hty with e | e
  ·rw[e] at st
   exact wpAny_pyNext_ascii_end (I.ok.hd hc) st hx fun h' eb=>⟨rfl,I.turned (t':=s.toks) (fun b o hb e=>eb b o hb e) f0 f1 f3 f4 f5⟩
  ·rw[e] at st
   exact wpAny_pyNext_wide_end (I.ok.hd hc) st hx fun h' eb=>⟨rfl,I.turned (t':=s.toks) (fun b o hb e=>eb b o hb e) f0 f1 f3 f4 f5⟩
 self:=fun A i s Q E st h=>by
  rcases hty with e | e
  ·rw[e] at st;exact wpAny_pyIter_striter_ascii st h
  ·rw[e] at st;exact wpAny_pyIter_striter_wide st h
def Zj (te:TE):TI:=fun σ H R=>te σ H fun v H1=>∃x,v=.str x∧R (Its x) H1
theorem bq {X:Cx}{tg e:Expr}{te:TE} (he:PE X e te):PI X tg e (Zj te):=by
 intro pins s σ H R I h
 refine thn (he pins s σ H _ I h) fun v s1 ⟨y,H1,I1,r1,x,ex,q⟩=>?_
 subst ex
 obtain⟨t,rfl⟩:=r1
 cases ha:x.cps.all (· < 128)
 ·exact wpAny_pyIter_wide ha (HF (tk:=s1.toks) I1 _ (V8 _ x t "str_iterator" (.inr rfl)) ⟨_,BH _ rfl,rfl,rfl⟩ q)
 ·exact wpAny_pyIter_ascii ha (HF (tk:=s1.toks) I1 _ (V8 _ x t "str_ascii_iterator" (.inl rfl)) ⟨_,BH _ rfl,rfl,rfl⟩ q)
section
variable {prog:Program}{w:World}{A:Around}{E:Value→Shared→Prop}{s:Shared}
theorem Rn {d:Addr}{o:Obj}{es:Array DictEntry}{ep:Nat}{Q:Value→Shared→Prop} (hd:(d==sysModules)=false) (ho:s.heap.get? d=some o) (hc:o.ExactDict) (hdat:o.data=.dict es ep)
  (hQ:Q (.ref s.heap.objs.size) { s with heap:=s.heap.push { cls:=.type "dict_keyiterator",data:=.fields #[.ref d,.int 0 0,.int es.size 0,.int ep 0] } }):
  wpAny (model prog w) A (pyIter (.ref d)) Q E s:=by
 have hT:s.TypeIs (.ref d) "dict":=⟨o,ho,hc.1⟩
 refine X5 hT XQ (Ei XQ hT F.entry_dict_iter ?_ (F.args_dict_iter_1 _))
 unfold Builtin.«dict.__iter__»
 refine AE ?_
 unfold Builtin.Dict.dictSlotNone
 refine AE (wpAny_notOrdered_dict hT ?_)
 show wpAny _ _ (pure (Ak d)) _ _ s
 refine AL ?_
 show wpAny _ _ (W6 d >>= _) _ _ s
 unfold W6
 rw[if_neg (by rw[hd];exact Aj)]
 refine AE (AL ?_)
 refine AE (Lu ho hdat ?_)
 refine AE (Pw ho hdat ?_)
 refine AE (Gs (AL ⟨_,rfl,"dict_keyiterator",_,⟨_,BH _ rfl,rfl⟩,Ho.lookup,?_⟩))
 simpa [rawInt] using hQ
theorem a6 {it d:Addr}{i n ep:Nat}{od:Obj}{es:Array DictEntry}{en:DictEntry}{Q:Option Value→Shared→Prop} (hit:s.heap.IsKeyIter it d i n ep) (hod:s.heap.get? d=some od) (hdd:od.data=.dict es ep)
  (hsz:es.size=n) (hx:es[i]?=some en) (hQ:∀h',h'.IsKeyIter it d (i+1) n ep→Gg it s.heap h'→Q (some en.key) { s with heap:=h' }):wpAny (model prog w) A (pyNext (.ref it)) Q E s:=by
 obtain⟨o,ho,hc,hd⟩:=id hit
 unfold pyNext
 refine AE (wpAny_attempt (Hr (name:=Eh "__next__") hit.typeIs Ho
  (Ei Ho hit.typeIs XH ?_ (XE _))))
 refine AE (AL ?_)
 refine AE ?_
 refine AE ?_
 first | refine AE (L0 hit.typeIs (AL ?_)) | refine AE (L4 hit.typeIs (AL ?_))
 refine AE (wpAny_fieldsOf ho hd ?_)
 have hown:W7 "dict_keyiterator"=false:=by decide
 simp only[hown,CW,if_false]
 show wpAny _ _ (if (Ak d==Co)=true then _ else _) _ _ s
 rw[if_neg (show ¬((Ak d==Co)=true) from Aj)]
 refine AE (AL ?_)
 refine AE (Lu hod hdd ?_)
 rw[if_neg (by rw[hsz];simp)]
 refine AE (AL ?_)
 refine AE (Pw hod hdd ?_)
 rw[if_neg (by simp)]
 refine AL ?_
 obtain⟨hlt',hen⟩:=Array.getElem?_eq_some_iff.mp hx
 simp only[show ¬((i:Int) < 0) from by omega,if_false,GU,Array.getElem?_eq_getElem hlt']
 refine AE ?_
 first | refine AE (L0 hit.typeIs (AL ?_)) | refine AE (L4 hit.typeIs (AL ?_))
 refine AE (X0 hit.typeIs ?_)
 show wpAny _ _ (setField (.ref it) 1 (rawInt ((i:Int)+1)) >>= _) _ _ s
 refine AE (Ly ho hd (by simp) ?_)
 have hit':(s.heap.update it (Obj.mapFields (·.setIfInBounds 1 (rawInt ((i:Int)+1))))).IsKeyIter it d (i+1) n ep :=
  ⟨_,Gh _ ho (Xc (Lm hd _)),(Xb ..).trans hc,by rw[Lm hd];simp[rawInt]⟩
 refine AE (Gq ?_)
 refine AE (X0 (s:={ s with heap:=s.heap.update it (Obj.mapFields (·.setIfInBounds 1 (rawInt ((i:Int)+1)))) }) hit'.typeIs ?_)
 show wpAny _ _ (pure es[i].key) _ _ _
 rw[hen]
 exact AL (AL ⟨_,rfl,AL (hQ _ hit' (Lk ..))⟩)
theorem SS {it d:Addr}{i n ep:Nat}{od:Obj}{es:Array DictEntry}{Q:Option Value→Shared→Prop} (hh:A.handled=none) (hit:s.heap.IsKeyIter it d i n ep) (hod:s.heap.get? d=some od) (hdd:od.data=.dict es ep)
  (hsz:es.size=n) (hge:n≤i) (hQ:∀h',Heap.ExtBut it s.heap h'→Q none { s with heap:=h' }):wpAny (model prog w) A (pyNext (.ref it)) Q E s:=by
 obtain⟨o,ho,hc,hd⟩:=id hit
 unfold pyNext
 refine AE (wpAny_attempt (Hr (name:=Eh "__next__") hit.typeIs Ho
  (Ei Ho hit.typeIs XH ?_ (XE _))))
 refine AE (AL ?_)
 refine AE ?_
 refine AE ?_
 first | refine AE (L0 hit.typeIs (AL ?_)) | refine AE (L4 hit.typeIs (AL ?_))
 refine AE (wpAny_fieldsOf ho hd ?_)
 have hown:W7 "dict_keyiterator"=false:=by decide
 simp only[hown,CW,if_false]
 show wpAny _ _ (if (Ak d==Co)=true then _ else _) _ _ s
 rw[if_neg (show ¬((Ak d==Co)=true) from Aj)]
 refine AE (AL ?_)
 refine AE (Lu hod hdd ?_)
 rw[if_neg (by rw[hsz];simp)]
 refine AE (AL ?_)
 refine AE (Pw hod hdd ?_)
 rw[if_neg (by simp)]
 refine AL ?_
 have hge':es.size≤i:=by rw[hsz];exact hge
 simp only[show ¬((i:Int) < 0) from by omega,if_false,GU,WQ hge']
 refine AE ?_
 first | refine AE (L0 hit.typeIs (AL ?_)) | refine AE (L4 hit.typeIs (AL ?_))
 show wpAny _ _ (setField (.ref it) 0 .none >>= _) _ _ s
 refine AE (Ly ho hd (by simp) ?_)
 show wpAny _ _ (newExc (.type "StopIteration") [] >>= _) _ _ _
 refine AE ?_
 simp only[newExc,newTuple]
 refine AE (Gs ?_ (by size_fits))
 refine AE (m:=firstArgMember _ _) (Lv (a:=Co) (by first | rfl | (simp only[firstArgMember];rfl)) ?_)
 refine Gs ?_ (by size_fits)
 simp only[raiseNew]
 refine AE (wpAny_handled ?_)
 rw[show A.in1.handled=none from hh]
 refine AE (AL (wpAny_throw ?_))
 refine AE (JS (T:="StopIteration") (b:=true) ⟨_,BH _ rfl,rfl⟩ isSubtype_stop ?_)
 exact AL (hQ _ (((Lk ..).extBut.push _).push _))
end
theorem Z4 {κ:Type}{kvs:List (κ×V)}{vs:List (κ×Value)} (h:KV kvs vs):∀{i:Nat}{k:κ}{v:V},kvs[i]?=some (k,v)→∃u,vs[i]?=some (k,u)∧RelV v u:=by
 unfold KV at h
 induction h with
 | nil=>intro i k v e;simp at e
 | @cons a b l₁ l₂ r t ih =>
  intro i k v e
  cases i with
  | zero =>
   simp only[Oq,Wz] at e
   subst e
   refine⟨b.2,?_,r.2⟩
   simp only[Oq]
   exact congrArg some (Prod.ext r.1.symm rfl)
  | succ j =>
   simp only[We] at e ⊢
   exact ih e
theorem bN {α β:Type}{G:α→β→Prop}{l₁:List α}{l₂:List β} (h:Paired G l₁ l₂):∀{i:Nat}{a:α},l₁[i]?=some a→∃b,l₂[i]?=some b∧G a b:=by
 induction h with
 | nil=>intro i a e;simp at e
 | @cons a b l₁ l₂ r t ih =>
  intro i a' e
  cases i with
  | zero =>
   simp only[Oq,Wz] at e
   subst e
   exact⟨b,rfl,r⟩
  | succ j =>
   simp only[We] at e ⊢
   exact ih e
theorem cb {k:Key}{u:Value} (h:FK k u=true):RelV (kV k) u:=by
 rcases EV h with ⟨i,t,rfl,rfl⟩ | ⟨x,t,rfl,rfl⟩
 ·exact⟨t,rfl⟩
 ·exact⟨t,rfl⟩
section
variable {X:Cx}{pins:List (Addr×Obj)}{σ:St}{H:Hp}{s:Shared}{d:Addr}{o:Obj}
theorem Inv.frzK {kvs:List (Key×V)} (I:Inv X pins σ H s) (h:H d=some (.frz o (.dK kvs))):
  (d==sysModules)=false∧s.heap.get? d=some o∧o.ExactDict∧∃(es:Array DictEntry) (ep:Nat) (vs:List (Key×Value)),o.data=.dict es ep∧es.size=kvs.length∧KV kvs vs∧s.heap.DictAt (CN X.prog X.w) d vs ep:=by
 obtain⟨hd,z,hs,vs,kv,o',es,ep,ho,hx,hdt,r⟩:=I.hok d _ h
 rw[hd] at ho
 cases ho
 refine⟨hs,hd,hx,es,ep,vs,hdt,?_,kv,o,es,hd,hx,hdt,r⟩
 have l1:=r.2.1.length
 have l2:kvs.length=vs.length:=FA kv
 rw[Il] at l1
 omega
theorem Inv.frzT {kvs:List (List Key×V)} (I:Inv X pins σ H s) (h:H d=some (.frz o (.dT kvs))):
  (d==sysModules)=false∧s.heap.get? d=some o∧o.ExactDict∧∃(es:Array DictEntry) (ep:Nat),o.data=.dict es ep∧es.size=kvs.length∧
   ∀(i:Nat) (k:List Key) (v:V),kvs[i]?=some (k,v)→∃(en:DictEntry) (q:Addr),es[i]?=some en∧en.key=.ref q∧H q=some (.tup (k.map kV)):=by
 obtain⟨hd,z,hs,xs,pr,o',es,ep,ho,hx,hdt,he,_⟩:=I.hok d _ h
 rw[hd] at ho
 cases ho
 refine⟨hs,hd,hx,es,ep,hdt,?_,fun i k v e=>?_⟩
 ·have l1:es.size=xs.length:=size_of_entries he
  have l2:kvs.length=xs.length:=FA pr
  omega
 ·obtain⟨b,hb,e1,e2,_⟩:=bN pr e
  have q:=entry_at he i
  rw[hb] at q
  exact⟨_,b.2.1,q,rfl,e2⟩
end
def Itk (d:Addr) (o:Obj) (kvs:List (Key×V)):It :=
 ⟨fun i H=>H d=some (.frz o (.dK kvs))∧i < kvs.length,fun i H x H'=>H'=H∧∃k v,kvs[i]?=some (k,v)∧x=kV k,fun i H=>H d=some (.frz o (.dK kvs))∧kvs.length≤i⟩
def P8 (d:Addr) (o:Obj) (kvs:List (List Key×V)):It :=
 ⟨fun i H=>H d=some (.frz o (.dT kvs))∧i < kvs.length,fun i H x H'=>H'=H∧∃(k:List Key) (v:V) (q:Addr),kvs[i]?=some (k,v)∧x=.ref q∧H q=some (.tup (k.map kV)),fun i H=>H d=some (.frz o (.dT kvs))∧kvs.length≤i⟩
theorem Jw {o:Obj}{es es':Array DictEntry}{ep ep':Nat} (h:o.data=.dict es ep) (h':o.data=.dict es' ep'):es'=es∧ep'=ep:=by
 rw[h] at h'
 cases h'
 exact⟨rfl,rfl⟩
section
variable {P:Program}{w:World}{K:AB}{tg:Expr}{d:Addr}{o:Obj}{es:Array DictEntry}{ep:Nat}
theorem fH {kvs:List (Key×V)} (it:Addr) (hod:o.data=.dict es ep):Dh P w K tg (Itk d o kvs) [it] it (fun i h=>h.IsKeyIter it d i kvs.length ep) where
 mem:=by simp
 obj:=fun i h st b hb=>by
  have e:b=it:=by simpa using hb
  subst e
  obtain⟨oi,e,c,dd⟩:=st
  exact⟨oi,e,fun v z=>by rw[dd] at z;cases z⟩
 keep:=fun i h h' st k=>st.at fun oi e=>k it (by simp) oi e
 item:=by
  intro X hP hw hK hc i pins s σ H E I hf st hg
  subst hP hw hK
  obtain⟨hd,hi⟩:=hg
  obtain⟨f0,f1,f2,f3,f4,f5⟩:=hf it (by simp)
  obtain⟨hs,hgd,hx,es',ep',vs,hdt,hsz,kv,hm⟩:=I.frzK hd
  obtain⟨rfl,rfl⟩:=Jw hod hdt
  obtain⟨⟨k,v⟩,hkv⟩:∃p,kvs[i]?=some p:=⟨kvs[i],As hi⟩
  obtain⟨u,hu,ru⟩:=Z4 kv hkv
  have hl:kvs.length=vs.length:=FA kv
  rw[hl] at st
  refine wpAny_pyNext_dict_item st hm hu fun key h' hkey st' sb=>?_
  have I1:Inv X pins σ H { s with heap:=h' }:=I.turned (t':=s.toks) (fun b ob hb e=>(sb.2 b hb).trans e) f0 f1 f3 f4 f5
  obtain⟨oi,e,c,dd⟩:=id st'
  refine⟨key,rfl,FH (s:={ s with heap:=h' }) e c dd (by decide) ⟨kV k,H,I1,cb (show FK k key=true from hkey),⟨rfl,k,v,hkv,rfl⟩,?_,fun b hb=>(hf b hb).1⟩⟩
  show h'.IsKeyIter it d (i+1) kvs.length _
  rw[hl]
  exact st'
 done:=by
  intro X hP hw hK hc i pins s σ H E I hf st hg
  subst hP hw hK
  obtain⟨hd,hi⟩:=hg
  obtain⟨f0,f1,f2,f3,f4,f5⟩:=hf it (by simp)
  obtain⟨hs,hgd,hx,es',ep',vs,hdt,hsz,kv,hm⟩:=I.frzK hd
  obtain⟨rfl,rfl⟩:=Jw hod hdt
  exact SS (I.ok.hd hc) st hgd hdt hsz hi fun h' eb=>⟨rfl,I.turned (t':=s.toks) (fun b ob hb e=>eb b ob hb e) f0 f1 f3 f4 f5⟩
 self:=fun A i s Q E st h=>wpAny_pyIter_keyiter st h
theorem fI {kvs:List (List Key×V)} (it:Addr) (hod:o.data=.dict es ep):Dh P w K tg (P8 d o kvs) [it] it (fun i h=>h.IsKeyIter it d i kvs.length ep) where
 mem:=by simp
 obj:=fun i h st b hb=>by
  have e:b=it:=by simpa using hb
  subst e
  obtain⟨oi,e,c,dd⟩:=st
  exact⟨oi,e,fun v z=>by rw[dd] at z;cases z⟩
 keep:=fun i h h' st k=>st.at fun oi e=>k it (by simp) oi e
 item:=by
  intro X hP hw hK hc i pins s σ H E I hf st hg
  subst hP hw hK
  obtain⟨hd,hi⟩:=hg
  obtain⟨f0,f1,f2,f3,f4,f5⟩:=hf it (by simp)
  obtain⟨hs,hgd,hx,es',ep',hdt,hsz,ent⟩:=I.frzT hd
  obtain⟨rfl,rfl⟩:=Jw hod hdt
  obtain⟨⟨k,v⟩,hkv⟩:∃p,kvs[i]?=some p:=⟨kvs[i],As hi⟩
  obtain⟨en,q,hen,hkey,hq⟩:=ent i k v hkv
  refine a6 st hgd hdt hsz hen fun h' st' sb=>?_
  have I1:Inv X pins σ H { s with heap:=h' }:=I.turned (t':=s.toks) (fun b ob hb e=>(sb.2 b hb).trans e) f0 f1 f3 f4 f5
  obtain⟨oi,e,c,dd⟩:=id st'
  exact⟨en.key,rfl,FH (s:={ s with heap:=h' }) e c dd (by decide) ⟨.ref q,H,I1,hkey,⟨rfl,k,v,q,hkv,rfl,hq⟩,st',fun b hb=>(hf b hb).1⟩⟩
 done:=by
  intro X hP hw hK hc i pins s σ H E I hf st hg
  subst hP hw hK
  obtain⟨hd,hi⟩:=hg
  obtain⟨f0,f1,f2,f3,f4,f5⟩:=hf it (by simp)
  obtain⟨hs,hgd,hx,es',ep',hdt,hsz,ent⟩:=I.frzT hd
  obtain⟨rfl,rfl⟩:=Jw hod hdt
  exact SS (I.ok.hd hc) st hgd hdt hsz hi fun h' eb=>⟨rfl,I.turned (t':=s.toks) (fun b ob hb e=>eb b ob hb e) f0 f1 f3 f4 f5⟩
 self:=fun A i s Q E st h=>by
  refine X5 st.typeIs XR (Ei XR st.typeIs F.entry_dict_keyiterator_iter ?_ (F.args_dict_keyiterator_iter_1 _))
  show wpAny _ _ (ret (.ref it)) _ _ s
  exact AL ⟨_,rfl,"dict_keyiterator",_,st.typeIs,Ho.lookup,h⟩
end
def Zf (td:TE):TI:=fun σ H R=>td σ H fun x H1=>∃d o,x=.ref d∧((∃kvs,H1 d=some (.frz o (.dK kvs))∧R (Itk d o kvs) H1)∨∃kvs,H1 d=some (.frz o (.dT kvs))∧R (P8 d o kvs) H1)
section
variable {X:Cx}{tg e:Expr}{td:TE}{apos cpos:Pos}
theorem Sw (he:PE X e td):PI X tg e (Zf td):=by
 intro pins s σ H R I h
 refine thn (he pins s σ H _ I h) fun u s1 ⟨x,H1,I1,rx,d,o,ex,q⟩=>?_
 subst ex
 obtain rfl:u=Ak d:=rx
 rcases q with ⟨kvs,hd,q⟩ | ⟨kvs,hd,q⟩
 ·obtain⟨hs,hgd,hx,es,ep,vs,hdt,hsz,kv,hm⟩:=I1.frzK hd
  refine Rn hs hgd hx hdt (HF (tk:=s1.toks) I1 _ (fH _ hdt) ⟨_,BH _ rfl,rfl,?_⟩ q)
  rw[hsz] <;> rfl
 ·obtain⟨hs,hgd,hx,es,ep,hdt,hsz,ent⟩:=I1.frzT hd
  refine Rn hs hgd hx hdt (HF (tk:=s1.toks) I1 _ (fI _ hdt) ⟨_,BH _ rfl,rfl,?_⟩ q)
  rw[hsz] <;> rfl
end
def Ite (K:AB) (a:Addr):It :=
 ⟨fun i H=>∃(xs:List V) (x:V),SqL K H a xs∧xs[i]?=some x,fun i H v H'=>∃T x,v=.ref T∧H T=none∧H'=upd H T (.tup [.int (i:Nat),x])∧∀xs,SqL K H a xs→xs[i]?=some x,fun i H=>∃xs:List V,SqL K H a xs∧xs.length≤i⟩
theorem fF {P:Program}{w:World}{K:AB}{elts:List Expr}{kk:Nat}{tpos:Pos} (a e it:Addr):
  Dh P w K (.Tuple elts kk tpos) (Ite K a) [e,it] e (fun i h=>(∃old,IsEnum h e it ((i:Nat):Int) old)∧h.IsListIter it a i∧e≠it) where
 mem:=by simp
 obj:=fun i h st b hb=>by
  obtain⟨⟨old,he⟩,⟨o,ho,hc,hd⟩,_⟩:=st
  have e':b=e∨b=it:=by simpa using hb
  rcases e' with z | z
  ·rw[z];exact⟨_,he,fun v q=>nomatch q⟩
  ·rw[z];exact⟨o,ho,fun v q=>by rw[hd] at q;cases q⟩
 keep:=fun i h h' st k=>let ⟨⟨old,he⟩,hi,hne⟩:=st;⟨⟨old,k e (by simp) _ he⟩,hi.at fun o q=>k it (by simp) o q,hne⟩
 item:=by
  intro X hP hw hK hc i pins s σ H E I hf st hg
  subst hP hw hK
  obtain⟨⟨old,he⟩,hit,hne⟩:=st
  obtain⟨xs,x,hq,hx⟩:=hg
  obtain⟨its,rv,p,hz⟩:=I.list hq
  obtain⟨u,hu,ru⟩:=rv.get hx
  have hel:e < s.heap.objs.size:=Ah he
  have hil:it < s.heap.objs.size:=by obtain⟨_,q,_⟩:=hit;exact Ah q
  refine wpAny_pyNext_enum_item he hit p.isList (x:=u) (by simpa using hu) hne fun h' ho hit' hT hsz hk=>?_
  refine⟨_,rfl,X2 (s:={ s with heap:=h',toks:=s.toks+1 }) ho fun h'' he' sb=>?_⟩
  have hT2:h''.get? s.heap.objs.size=some { cls:=.type "tuple",data:=.seq #[.int i s.toks,u] }:=(sb.2 _ (LQ hel)).trans hT
  have new:ObjOk X.prog X.w (upd H s.heap.objs.size (.tup [.int (i:Nat),x])) h'' s.heap.objs.size (.tup [.int (i:Nat),x]) :=
   ⟨by show 2≤sizeLine;decide,[.int i s.toks,u],.cons ⟨_,rfl⟩ (.cons ru .nil),⟨_,hT2,rfl,_,rfl⟩⟩
  have I1:Inv X pins σ (upd H s.heap.objs.size (.tup [.int (i:Nat),x])) { s with heap:=h'',toks:=s.toks+1 } :=
   I.turnedNew (ch:=[e,it]) (fun b ob hb q=>(sb.2 b (fun z=>hb (by simp[z]))).trans (hk b ob (fun z=>hb (by simp[z])) (fun z=>hb (by simp[z])) q)) hf (AO _) new
  refine⟨.ref s.heap.objs.size,_,I1,rfl,⟨_,x,rfl,I.hok.fresh (AO _),rfl,fun ys hy=>by rw[I.list_inj hy hq];exact hx⟩,⟨⟨u,?_⟩,hit'.at fun o q=>(sb.2 it (Af hne)).trans q,hne⟩,fun b hb=>?_⟩
  ·have e1:((i+1:Nat):Int)=(i:Int)+1:=by omega
   rw[e1];exact he'
  ·have hb':b < s.heap.objs.size:=by
    have e':b=e∨b=it:=by simpa using hb
    rcases e' with z | z
    ·rw[z];exact hel
    ·rw[z];exact hil
   rw[AG (BO hb')]
   exact(hf b hb).1
 done:=by
  intro X hP hw hK hc i pins s σ H E I hf st hg
  subst hP hw hK
  obtain⟨⟨old,he⟩,hit,hne⟩:=st
  obtain⟨xs,hq,hx⟩:=hg
  obtain⟨its,rv,p,hz⟩:=I.list hq
  obtain⟨f0,f1,f2,f3,f4,f5⟩:=hf it (by simp)
  have hl:=rv.length
  exact wpAny_pyNext_enum_end (I.ok.hd hc) he hit p.isList (by simp;omega) fun h' eb=>⟨rfl,I.turned (t':=s.toks) (fun b o hb q=>eb b o hb q) f0 f1 f3 f4 f5⟩
 self:=fun A i s Q E st h=>let ⟨⟨_,he⟩,_⟩:=st;Lw he h
def Zd (K:AB) (ta:TA):TI:=fun σ H R=>ta σ H fun vs H1=>∃a xs,vs=[.ref a]∧SqL K H1 a xs∧R (Ite K a) H1
theorem Nc {X:Cx}{e:Expr}{ta:TA}{p pos tpos:Pos}{elts:List Expr}{kk:Nat} (hg:Gl X "enumerate") (hm:X.mg "enumerate"=none) (ha:PA X [e] ta) (hs:starEach [e] X.env=[(false,eval e X.env)]:=by rfl):
  PI X (.Tuple elts kk tpos) (.Call (.Name "enumerate" p) [e] [] pos) (Zd X.K ta):=by
 intro pins s σ H R I h
 refine Call_ (Er I hg hm boot_enumerate (Fq (thn (ha pos pins s σ H _ I h) fun us s1 ⟨vs,H1,I1,r1,q1⟩=>?_) hs rfl))
 obtain⟨a,xs,ex,hq,q⟩:=q1
 subst ex
 cases r1 with
 | cons r rr =>
  cases rr
  cases r
  obtain⟨its,rv,p',hz⟩:=I1.list hq
  refine call_enumerate_list p'.isList fun h' he hit hsz hk=>Lw he ?_
  have I2:Inv X pins σ H1 { s1 with heap:=h' }:=I1.kept (t':=s1.toks) hk
  refine⟨s1.heap.objs.size+1,[s1.heap.objs.size+1,s1.heap.objs.size],_,_,H1,rfl,I2,fF a (s1.heap.objs.size+1) s1.heap.objs.size,⟨⟨.none,he⟩,hit,Wx _⟩,fun b hb=>?_,q⟩
  have e':b=s1.heap.objs.size+1∨b=s1.heap.objs.size:=by simpa using hb
  have hle:s1.heap.objs.size≤b:=by
   rcases e' with z | z
   ·rw[z];exact LK _ _
   ·rw[z];exact AO _
  exact I1.fpOk hle (I1.hok.fresh hle)
end L2
section
namespace Bits
open PySem PyProof.Rows
end Bits
end
section
namespace TL
open PySem PySem.Builtin PySem.Builtin.Str PySem.StrLaws
abbrev tl (x:Str):List Nat:=x.cps.toList
def pre (S l:List Nat):Bool:=l.take S.length==S
def par (S:List Nat):List Nat→List Nat→Option (List Nat×List Nat)
 | _,[]=>none
 | acc,c::r=>if pre S (c::r)=true then some (acc,(c::r).drop S.length) else par S (acc++[c]) r
end TL
end
namespace L2
open PySem PySem.Spec PyProof.Rows
section
variable {X:Cx}{pins:List (Addr×Obj)}{σ:St}{H:Hp}{s:Shared}{Q:VK}
end
section
variable {X:Cx}
end
section
variable {X:Cx}{o e:Expr}{to te:TE}
end
end L2
namespace L2
open PySem PySem.Spec PyProof.Rows
section
variable {X:Cx}
end
end L2
namespace Att
open PySem PySem.W PySem.Calls PyProof.Rows
theorem Zk {P:Params}{h:Heap}:∀(ns:List Int) (vs:List Value),WellAll P h vs (ns.map WData.int)→IntsAre vs ns:=by
 intro ns
 induction ns with
 | nil =>
  intro vs w
  rw[Fo] at w
  cases w
  exact .nil
 | cons n ns ih =>
  intro vs w
  rw[Am] at w
  cases w with
  | cons a b =>
   cases a
   exact .cons _ _ (ih _ b)
theorem dW {l:OpenLaw}{n:Nat} (hn:l.most=some n) {P:Params}{h:Heap}{args:List WData}{vals:List Value}
  (hpre:l.row.toRowW.claim.pre args=true) (hwl:WellAll P h vals args):
  ∃a vs ns,vals=[Ak a]∧args=[WData.list (ns.map WData.int)]∧h.get? a=some { cls:=.type "list",data:=.seq vs.toArray }∧IntsAre vs ns∧ns.length≤n:=by
 have hsh:WShape.hasAll [] args [.list .int]=true:=(pre_splitW hpre).1
 have hc:l.pre.holds [] { args:=args }=true:=(pre_splitW hpre).2
 obtain⟨d,r,rfl,h1,h2⟩:=hasAllW_cons hsh
 obtain rfl:=hasAllW_nil h2
 obtain⟨xs,rfl,h3⟩:=hasW_list h1
 obtain⟨ns,rfl⟩:=items_int h3
 have hlen:ns.length≤n:=by
  unfold OpenLaw.pre at hc
  have h4:(WTm.not (.lt (.lit (.int (n:Int))) (.len (.arg 0)))).holds [] { args:=[.list (ns.map .int)] }=true:=by
   have h4:=(holds_andW hc).1
   rw[hn] at h4
   exact h4
  have h5:=condW_of h4 (w_not (w_lt w_lit (w_len_list (w_arg rfl))))
  rw[AF] at h5
  refine Nat.le_of_not_lt fun q=>?_
  have q':(n:Int) < ((ns.length:Nat):Int):=by omega
  first
   | (rw[decide_eq_true q'] at h5;exact absurd h5 (by decide))
   | (simp at h5;omega)
 cases hwl with
 | cons w1 w2 =>
  cases w2
  cases w1 with
  | list ho hall=>exact⟨_,_,ns,rfl,rfl,ho,Zk ns _ hall,hlen⟩
theorem bw (l:OpenLaw) (args:List WData):l.row.toRowW.claim.post args (.bool true) args=true :=
 postW_of (r:=l.row.toRowW) (X:=(true==true))
  (show WShape.has [] (.bool true) .bool=true by first | rfl | decide | simp[WShape.has,WShape.arms,WShape.armsAll])
  (show(WTm.eq .res (.lit (.bool true))).value [] { args:=args,res:=some (.bool true),after:=args }=some (.bool (true==true)) from w_eq_bool (w_res rfl) w_lit) rfl
theorem attach_call {l:OpenLaw}{n:Nat}{q:Program}{loose:List Str}{XP:(Str→Option Value)→Heap→Prop}{YP:World→Heap→Prop}{d:DefRec}
  (hn:l.most=some n) (hdf:d.params.defaults=[])
  (call:∀(w:World) (s₀ s₁:Shared) (mg mb:Str→Option Value) (fa:Addr) (o:Obj) (pm cd doc:Value) (a:Addr) (vs:List Value) (ns:List Int),
   Ground q loose [] XP w s₀ mg mb s₁.heap→YP w s₁.heap→
   s₁.heap.get? fa=some o→o.data=.func (docDef d.name d.params d.body d.scope pm cd doc)→s₁.heap.CodeRec cd d.name→mg d.name=some (.ref fa)→
   s₁.heap.get? a=some { cls:=.type "list",data:=.seq vs.toArray }→IntsAre vs ns→ns.length≤n→s₁.gens=#[]→
   codeAny (model l.prog w) callerA (.call (.ref fa) ⟨[.ref a],[]⟩) (fun r s'=>r=.ok (.ret (.bool true))∧OldK s₁.heap s'.heap∧s'.os=s₁.os∧AllBare s'.gens) s₁):
  WalkO q loose XP YP l.row.toRowW d [] (fun f vs=>Pl f vs):=by
 intro w s₀ s₁ mg mb G Y fa o pm cd doc dV kV ho hd hcd hD hmg hg args vals as hpre hlay hrd hwl hlo
 obtain rfl:dV=.none:=Dflts.none hD hdf
 obtain rfl:kV=.none:=Dflts.noKw hD
 obtain⟨a,vs,ns,rfl,rfl,hobj,hints,hlen⟩:=dW hn hpre hwl
 refine enter_call (Gm (call w s₀ s₁ mg mb fa o pm cd doc a vs ns G Y ho (fd_plain hd) hcd hmg hobj hints hlen hg) fun r s' hq=>?_)
 obtain⟨rfl,h2,h3,h4⟩:=hq
 exact⟨.inl ⟨.bool true,.bool true,[],rfl,fun _=>rfl,.bool true,bw l _,fun _=>⟨WW.nil,fun _ hm=>(nomatch hm)⟩⟩,h2,h3,h4⟩
section
variable {prog:Program}{w:World}{A:Around}{E:Value→Shared→Prop}{s:Shared}{K:Frag}
end
end Att
namespace L2
open PySem PySem.Spec PyProof.Rows
theorem WI:∀{vs:List Value}{ns:List Int},IntsAre vs ns→Vals (ns.map V.int) vs
 | _,_,.nil=>.nil
 | _,_,.cons n t h=>.cons ⟨t,rfl⟩ (WI h)
def MF (H:Hp):Prop:=∀b,H b=none∨∃o xs,H b=some (.frz o (.lst xs))
theorem Z5 {P:Program}{w:World}{K:AB}{mg mb:Str→Option Value}{CX:CXT}{k:Nat}{fa a:Addr}{fd:FuncData}{x:Str}{sp:Sp}{s₁:Shared}{vs:List Value}{ns:List Int}
  (KX:K.In s₁.heap) (hns:s₁.heap.Ns mainGlobals mg) (hb:s₁.heap.Ns builtinsNs mb) (hbb:∀x:Str,x≠"__name__"→mb x=bootBuiltins x) (hlim:s₁.heap.NoLimit) (hg:s₁.gens=#[])
  (ha:s₁.heap.get? a=some { cls:=.type "list",data:=.seq vs.toArray }) (hi:IntsAre vs ns) (hl:ns.length≤sizeLine) (hr:Room k callerA)
  (F:∀base:Heap,K.In base→base.Ns mainGlobals mg→FnOk P w K mg base CX k fa fd [x] sp) (hbind:∀(s:Shared) (u:Value),BindsTo s fd ⟨[u],[]⟩ [(x,u)])
  (hsp:∀H:Hp,MF H→SqL K H a (ns.map V.int)→sp [.ref a] H (fun v _=>v=.bl true) fun _ _ _=>False)
  (hCX:∀H e s',CX [] H s₁ (fun _ _ _=>False) e s'→False):
  codeAny (model P w) callerA (.call (.ref fa) ⟨[.ref a],[]⟩) (fun r s'=>r=.ok (.ret (.bool true))∧OldK s₁.heap s'.heap∧s'.os=s₁.os∧AllBare s'.gens) s₁:=by
 have rv:=WI hi
 have lenV:=hi.length
 have core:∀H:Hp,MF H→SqL K H a (ns.map V.int)→HOk P w H s₁.heap→(∀b,H b≠none→b=a)→(H a≠none→K.lookup a=none)→
   codeAny (model P w) callerA (.call (.ref fa) ⟨[.ref a],[]⟩) (fun r s'=>r=.ok (.ret (.bool true))∧OldK s₁.heap s'.heap∧s'.os=s₁.os∧AllBare s'.gens) s₁:=by
  intro H hO hS hok hA hK
  have base_of:∀{b:Addr} {o:Obj},s₁.heap.get? b=some o→H b=none→(Cf s₁.heap H).get? b=some o:=fun e n=>RW e n
  have noA:∀{b:Addr} {o:Obj} {es:Array DictEntry} {ep:Nat},s₁.heap.get? b=some o→o.data=.dict es ep→H b=none:=fun {b o es ep} e d=>by
   cases q:H b with
   | none=>rfl
   | some u =>
    have e':b=a:=hA b (by rw[q];simp)
    subst e'
    rw[ha] at e;cases e
    have d':Data.seq vs.toArray _=Data.dict es ep:=d
    cases d'
  have nsK:∀{b:Addr} {m:Str→Option Value},s₁.heap.Ns b m→(Cf s₁.heap H).Ns b m:=fun {b m} ⟨o,es,ep,e,d,r⟩=>⟨o,es,ep,base_of e (noA e d),d,r⟩
  have hKb:K.In (Cf s₁.heap H):=fun b o e=>base_of (KX b o e) (by
   cases q:H b with
   | none=>rfl
   | some u =>
    have e':b=a:=hA b (by rw[q];simp)
    subst e'
    rw[hK (by rw[q];simp)] at e;cases e)
  have hM:Mod K mg (Cf s₁.heap H):=⟨hKb,nsK hns,⟨mb,nsK hb,hbb⟩,let ⟨mc,h1,h2⟩:=hlim;⟨mc,nsK h1,h2⟩⟩
  have e0:Env0 P w K mg (Cf s₁.heap H) callerA [] s₁ H:=⟨rfl,hM,fun b o e=>SY e,Hg (RX _ _),trivial,fun b hb=>absurd (show b∈([]:List Addr) from hb) (by simp),hok,.of_eq hg⟩
  refine Gm ((F _ hKb (nsK hns)).run callerA [] s₁ H ⟨[.ref a],[]⟩ [.ref a] [.ref a] _ _ hr e0 (hbind s₁ (.ref a)) (.cons rfl .nil) (hsp H hO hS)) fun r s' h=>?_
  cases r with
  | error e=>exact(hCX H e s' h).elim
  | ok fl =>
   cases fl with
   | next=>exact BX h
   | brk=>exact BX h
   | cont=>exact BX h
   | ret u =>
    obtain⟨v,H',os,bare,un,hok',r',q⟩:=h
    have q':v=.bl true:=q
    subst q'
    obtain rfl:u=Dg true:=r'
    refine⟨rfl,OldK.of_keep fun b o e=>?_,os,bare⟩
    cases q:H b with
    | none=>exact un.keep b o e q (by intro z;exact absurd (show b∈([]:List Addr) from z) (by simp)) (by simp)
    | some u =>
     rcases hO b with z | ⟨ob,xs,z⟩
     ·rw[q] at z;cases z
     ·have z2:=un.frzs b ob _ z
      obtain⟨e1,_⟩:=hok b _ z
      obtain⟨e2,_⟩:=hok' b _ z2
      rw[e] at e1;cases e1
      exact e2
 cases hk:K.lookup a with
 | some o =>
  have e:=KX a o hk
  rw[ha] at e
  cases e
  refine core (fun _=>none) (fun _=>.inl rfl) (.inr ⟨_,vs.toArray,_,hk,rfl,rfl,rfl,by rw[Bf,lenV];exact hl,by simpa using rv⟩) (fun b u z=>by have z':(none:Option HO)=some u:=z;cases z') (fun b z=>absurd rfl z) fun z=>absurd rfl z
 | none =>
  refine core (fun b=>if b=a then some (.frz { cls:=.type "list",data:=.seq vs.toArray } (.lst (ns.map V.int))) else none) (fun b=>?_) (.inl (.inr ⟨{ cls:=.type "list",data:=.seq vs.toArray },if_pos rfl⟩)) (fun b u z=>?_) (fun b z=>?_) fun _=>hk
  ·by_cases hb:b=a
   ·exact .inr ⟨_,_,if_pos hb⟩
   ·exact .inl (if_neg hb)
  ·by_cases hb:b=a
   ·have z':=(if_pos hb).symm.trans z
    cases z'
    subst hb
    exact⟨ha,by rw[AF];exact hl,vs,_,rv,ha⟩
   ·have z':=(if_neg hb).symm.trans z
    cases z'
  ·by_cases hb:b=a
   ·exact hb
   ·exact absurd (if_neg hb) z
end L2
namespace L2
open PySem PySem.Spec PyProof.Rows
abbrev KOf {K:AB}{h:Heap} (_:K.In h):AB:=K
theorem walk_of {l:PySem.W.OpenLaw}{n k:Nat}{q:Program}{loose:List Str}{XP:(Str→Option Value)→Heap→Prop}{YP:World→Heap→Prop}{d:DefRec}{K:Params→AB}{CX:World→CXT}{sp:World→Sp}{x:Str}
  (hn:l.most=some n) (hn2:n≤sizeLine) (hdf:d.params.defaults=[]) (hr:Room k callerA)
  (hY:∀(w:World) (h:Heap),YP w h→(K w.params).In h)
  (F:∀(w:World) (mg:Str→Option Value) (fa:Addr) (h:Heap),(K w.params).In h→h.Ns mainGlobals mg→mg d.name=some (.ref fa)→
   ∃fd:FuncData,(∀(s:Shared) (u:Value),BindsTo s fd ⟨[u],[]⟩ [(x,u)])∧
    ∀base:Heap,(K w.params).In base→base.Ns mainGlobals mg→FnOk l.prog w (K w.params) mg base (CX w) k fa fd [x] (sp w))
  (hsp:∀(w:World) (H:Hp) (a:Addr) (ns:List Int),ns.length≤n→MF H→SqL (K w.params) H a (ns.map V.int)→sp w [.ref a] H (fun v _=>v=.bl true) fun _ _ _=>False)
  (hCX:∀(w:World) (H:Hp) (s:Shared) (e:Value) (s':Shared),CX w [] H s (fun _ _ _=>False) e s'→False):
  PySem.W.WalkO q loose XP YP l.row.toRowW d [] (fun f vs=>Pl f vs):=by
 refine Att.attach_call hn hdf fun w s₀ s₁ mg mb fa o pm cd doc a vs ns G Y ho hd hcd hmg hobj hints hlen hg=>?_
 have KX:=hY w _ Y
 obtain⟨fd,hb,hF⟩:=F w mg fa _ KX G.T.g hmg
 exact Z5 KX G.T.g G.T.b G.T.builtins G.T.nolimit hg hobj hints (Bp hlen hn2) hr hF hb (fun H hO hS=>hsp w H a ns hlen hO hS) fun H e s'=>hCX w H s₁ e s'
end L2
/- THE LAST THEOREM (shape;LID,My.* are yours):
 My.Adr: a structure of the addresses that your layer names (classes,functions);My.Txt K t: a structure (Prop) of the equations over K;
 My.txt_mk:{K} {implicit addresses ..} (e1:nsIn K mainGlobals "law"=some (some (.ref f))) (e2:K.lookup f=some ⟨oc,od,.func (fnOf "law" "law" params body scope dV kV doc pm an cdv ct),sl⟩) (e3:codeIn K cdv "law"=true) ..:∃t,My.Txt K t
set_option maxRecDepth 100000 in
set_option maxHeartbeats 0 in
theorem PySem.Challenge.cw_LID_holds : PySem.Challenge.rw_LID.Holds := by
 w_on;o_law;k_head;(case hw=>w_witness2)
 k_fill
 refine L2.walk_of (l:=PySem.Challenge.rw_LID) (n:=63) (k:=40) (x:="script") (CX:=fun w=>..) (sp:=fun _=>My.sp_law) rfl (by decide) rfl ⟨rfl,by decide,by decide⟩ (fun w h Y=>PySem.W.kIn_of Y) ?F ?S ?C
 case F =>
  intro w mg fa h KX G hmg
  have T:∃t,My.Txt (L2.KOf KX) t:=by
   dsimp only [L2.KOf]                          -- K must stand as «<heap const> w.params» for k_is
   refine' My.txt_mk ?e1 ?e2 ?e3 ..
   (case e1=>PySem.W.k_is)                    -- in the order: a name -> its address -> its object -> its parts
   (case e2=>PySem.W.k_is)
   ..
  obtain⟨t,T⟩:=T
  have e0:=hmg.symm.trans (Gk KX G T.law)
  cases e0                                       -- fa is the law's own address
  exact⟨_,fun s u=>.of_eq rfl,fun base kb nb=>My.law_fn T kb nb⟩     -- if «.of_eq rfl» comes too early: refine' ⟨_,?b,fun base kb nb=>My.law_fn T kb nb⟩;exact fun s u=>.of_eq rfl
 case S=>exact fun w H a ns hl hO hS=>..
 case C=>exact ..
(the tactic k_is has no namespace: write k_is) -/
namespace L2
open PySem PySem.Spec PyProof.Rows
def EU (s:Stmt) (j:Nat):Stmt:=match s with
 | .ClassDef _ _ _ body _ _ _ _ _ _ _=>body.getD j (.Pass ⟨0,0,0,0⟩)
 | _=>.Pass ⟨0,0,0,0⟩
def Cp (s:Stmt):Arguments:=match s with
 | .FunctionDef _ a _ _ _ _ _ _ _ _=>a
 | _=>{ posonlyargs:=[],args:=[],vararg:=none,kwonlyargs:=[],kw_defaults:=[],kwarg:=none,defaults:=[] }
def Bz (s:Stmt):List Stmt:=match s with
 | .FunctionDef _ _ b _ _ _ _ _ _ _=>b
 | _=>[]
def AK (s:Stmt):Scope:=match s with
 | .FunctionDef _ _ _ _ _ _ sc _ _ _=>sc
 | _=>{ kind:=.function,names:=[],isGenerator:=false,isCoroutine:=false }
abbrev CX0:CXT:=fun _ _ _ _ _ _=>False
abbrev E0:XK:=fun _ _ _=>False
theorem HB {X:Cx}:F2 CX0 X E0:=fun _ _ _ _ _ _ _ h=>h.elim
structure Fun (K:AB) (x qual:Str) (st:Stmt) (f:Addr) (fd:FuncData):Prop where
 ex:∃(oc:Value) (od:Option Addr) (kV doc pm:Value) (an:Option Addr) (cdv ct:Value) (osl:Array (Option Value)),
  fd=Hq x qual (Cp st) (Bz st) (AK st) .none kV doc pm an cdv ct∧K.lookup f=some ⟨oc,od,.func fd,osl⟩∧Pd K cdv qual=true
 kp:Gj K (.ref f)=true
section
variable {P:Program}{w:World}{K:AB}{mg:Str→Option Value}{base:Heap}
theorem Fun.ok {x qual:Str}{st:Stmt}{f:Addr}{fd:FuncData}{N ps:List Str}{k:Nat}{sp:Sp} (F:Fun K x qual st f fd) (S:Ab N ps (AK st)) (len:∀vs H Q E,sp vs H Q E→vs.length=ps.length)
  (hbody:∀(cdv:Value) (A:Around) (outer:List Env) (s:Shared) (H:Hp) (vs:List V) (Q:VK) (E:XK),Room k (A.deeper (envOfC qual (AK st) s.heap.objs.size f cdv))→sp vs H Q E→
   ∃t,PSs (El CX0 P w K mg base N qual (AK st) f cdv A outer s H E).nox (Bz st) t∧t { nx:=fun _ H'=>Q .non H',rt:=Q } (start N vs) H):FnOk P w K mg base CX0 (k+1) f fd ps sp:=by
 obtain⟨oc,od,kV,doc,pm,an,cdv,ct,osl,rfl,lk,hcd⟩:=F.ex
 refine RF lk hcd S len fun A outer s H vs Q E hr hsp=>?_
 obtain⟨t,h,q⟩:=hbody cdv A outer s H vs Q E hr hsp
 exact⟨t,h.nox,q⟩
theorem Fun.binds {x qual:Str}{st:Stmt}{f:Addr}{fd:FuncData}{ps:List Str} (F:Fun K x qual st f fd)
  (h:∀(kV doc pm:Value) (an:Option Addr) (cdv ct:Value) (us:List Value),us.length=ps.length→bindArgs (Hq x qual (Cp st) (Bz st) (AK st) .none kV doc pm an cdv ct) ⟨us,[]⟩=pure (ps.zip us)):Binds K fd ps []:=by
 obtain⟨oc,od,kV,doc,pm,an,cdv,ct,osl,rfl,lk,hcd⟩:=F.ex
 exact .all (h kV doc pm an cdv ct)
theorem G2 {x qual:Str}{st:Stmt}{f:Addr}{oc:Value}{od an:Option Addr}{osl:Array (Option Value)}{kV doc pm cdv ct:Value} (l:K.lookup f=some ⟨oc,od,.func (Hq x qual (Cp st) (Bz st) (AK st) .none kV doc pm an cdv ct),osl⟩)
 (c:Pd K cdv qual=true) (k:Gj K (.ref f)=true):Fun K x qual st f (Hq x qual (Cp st) (Bz st) (AK st) .none kV doc pm an cdv ct):=⟨⟨oc,od,kV,doc,pm,an,cdv,ct,osl,rfl,l,c⟩,k⟩
end
theorem F9 {A:Around}{k:Nat} (hr:Room k A):A.units+1 < cLine:=JJ (Hf (by decide:1≤64) _) hr.units
section
variable {X:Cx}
theorem pv (i:Nat) {x:Str}{pos:Pos} (hN:X.N[i]?=some x:=by rfl) (hv:Vis X.env.scope x:=by first | exact AQ rfl | exact De (AQ rfl) | exact De (De rfl)) (hd:(x==("__debug__":Str))=false:=by decide)
 (hcd:(x==("__classdict__":Str))=false:=by decide):PE X (.Name x pos) (CV i):=Sv hN hv hd hcd
end
theorem KA {A B:Prop} (h:B):if false=true then A else B:=by
 rw[if_neg Aj]
 exact h
theorem Rk {A B:Prop} (h:A):if true=true then A else B:=by
 rw[if_pos rfl]
 exact h
theorem FJ {c A B:Prop} [Decidable c] (h1:c→A) (h2:¬c→B):if c then A else B:=by
 by_cases h:c
 ·rw[if_pos h]
  exact h1 h
 ·rw[if_neg h]
  exact h2 h
theorem Zn {c A B:Prop} [Decidable c] (hc:c) (h:B):if (!decide c)=true then A else B:=by
 rw[decide_eq_true hc]
 exact KA h
def Same (H H':Hp):Prop:=∀b o,H b=some o→H' b=some o
theorem Same.refl (H:Hp):Same H H:=fun _ _ h=>h
theorem Same.trans {H H1 H2:Hp} (a:Same H H1) (b:Same H1 H2):Same H H2:=fun c o h=>b c o (a c o h)
theorem Same.free {H H':Hp} (e:Same H H') {l:Addr} (h:H' l=LZ):H l=LZ:=by
 cases q:H l with
 | none=>rfl
 | some o =>
  rw[e l o q] at h
  cases h
theorem Same.seq {K:AB}{H H':Hp}{a:Addr}{xs:List V} (e:Same H H') (h:SqL K H a xs):SqL K H' a xs:=by
 rcases h with (h | ⟨o,h⟩) | h
 ·exact .inl (.inl (e _ _ h))
 ·exact .inl (.inr ⟨o,e _ _ h⟩)
 ·exact .inr h
section
variable {κ:Type} [DecidableEq κ]
end
theorem YQ {xs:List V}{z:Int}{j:Nat}{v:V} (e:z=(j:Int)) (h:xs[j]?=some v):atI xs z=some v:=by
 rw[e]
 exact Bw h
theorem au {α:Type}{l:List α} (hN:l.Nodup) {i j:Nat}{x:α} (a:l[i]?=some x) (b:l[j]?=some x):i=j:=by
 obtain⟨h1,e1⟩:=Be.mp a
 obtain⟨h2,e2⟩:=Be.mp b
 exact(Wi hN).mp (e1.trans e2.symm)
theorem Same.made {H H1:Hp}{x dx C:Addr} (nx:H x=LZ) (nd:H dx=LZ) (k:∀b o,(upd (upd H dx (.own x)) x (.ins C dx [])) b=some o→b≠x→H1 b=some o):Same H H1:=fun b o e =>
 k b o (by rw[AG (Ai e nx),AG (Ai e nd)];exact e) (Ai e nx)
end L2
set_option maxHeartbeats 2000000
namespace L2
open PySem PySem.Spec PyProof.Rows
open PySem.W (WData Codec OpenSpec Well WellAll ReadsW ReadsAllW)
mutual
inductive Dw (K:AB) (H:Hp):V→WData→Prop
 | non:Dw K H .non .none
 | bl (b:Bool):Dw K H (.bl b) (.bool b)
 | int (i:Int):Dw K H (.int i) (.int i)
 | str (x:Str):Dw K H (.str x) (.str x)
 | byt (b:Array UInt8):Dw K H (.byt b) (.bytes b.toList)
 | lst {a:Addr} {xs:List V} {ds:List WData}:SqL K H a xs→DP K H xs ds→Dw K H (.ref a) (.list ds)
 | tup {a:Addr} {xs:List V} {ds:List WData}:SqT K H a xs→DP K H xs ds→Dw K H (.ref a) (.tuple ds)
inductive DP (K:AB) (H:Hp):List V→List WData→Prop
 | nil:DP K H [] []
 | cons {v:V} {vs:List V} {d:WData} {ds:List WData}:Dw K H v d→DP K H vs ds→DP K H (v::vs) (d::ds)
end
theorem dw_ints {K:AB}{H:Hp}:∀ns:List Int,DP K H (ns.map V.int) (ns.map WData.int)
 | []=>.nil
 | n::r=>.cons (.int n) (dw_ints r)
theorem ints_dw {K:AB}{H:Hp}:∀(ns:List Int) (xs:List V),DP K H xs (ns.map WData.int)→xs=ns.map V.int
 | [],xs,h=>by
  cases h
  rfl
 | n::r,xs,h=>by
  cases h with
  | cons h1 h2 =>
   cases h1
   rw[ints_dw r _ h2] <;> rfl
section
variable {P:Program}{w:World}{K:AB}{H:Hp}{h:Heap}{R:Xj}{cl:Str→Option Addr}
theorem dv {a:Addr}{xs:List V} (hok:HOk P w H h) (KX:K.In h) (q:SqL K H a xs):∃(its:List Value) (o:Obj) (n:Nat),Vals xs its∧h.get? a=some o∧o.cls=.type "list"∧o.data=.seq its.toArray n:=by
 rcases q with q | ⟨o,its,n,e,hc,_,hd,_,hv⟩
 ·obtain⟨_,its,n,hv,e⟩:=(show ObjOk P w H h a (.lst xs) from q.ok hok)
  exact⟨its,_,n,hv,e,rfl,rfl⟩
 ·exact⟨its.toList,o,n,hv,KX _ _ e,hc,by simp[hd]⟩
theorem dw {a:Addr}{xs:List V} (hok:HOk P w H h) (KX:K.In h) (q:SqT K H a xs):∃(its:List Value) (o:Obj) (n:Nat),Vals xs its∧h.get? a=some o∧o.cls=.type "tuple"∧o.data=.seq its.toArray n:=by
 rcases q with q | ⟨o,its,n,e,hc,hd,_,hv⟩
 ·obtain⟨_,its,hv,o,e,hc,n,hd⟩:=(show ObjOk P w H h a (.tup xs) from q.ok hok)
  exact⟨its,o,n,hv,e,hc,hd⟩
 ·exact⟨its.toList,o,n,hv,KX _ _ e,hc,by simp[hd]⟩
mutual
theorem Dw.reads (hok:HOk P w H h) (KX:K.In h):∀(d:WData) (v:V) (u:Value),Dw K H v d→RelV v u→∃as,ReadsW R cl h u d as
 | .none,_,_,x,r=>by
  cases x
  cases r
  exact⟨_,ReadsW.none⟩
 | .bool b,_,_,x,r=>by
  cases x
  cases r
  exact⟨_,ReadsW.bool b⟩
 | .int i,_,_,x,r=>by
  cases x
  obtain⟨t,rfl⟩:=r
  exact⟨_,ReadsW.int i t⟩
 | .str s,_,_,x,r=>by
  cases x
  obtain⟨t,rfl⟩:=r
  exact⟨_,ReadsW.str s t⟩
 | .bytes b,_,_,x,r=>by
  cases x
  obtain⟨t,rfl⟩:=r
  exact⟨_,ReadsW.bytes _ t⟩
 | .list ds,_,_,x,r=>by
  cases x with
  | lst hs ha =>
   cases r
   obtain⟨its,o,n,rv,ho,hc,hd⟩:=dv hok KX hs
   obtain⟨as,hr⟩:=Dw.readsAll hok KX ds _ its ha rv
   exact⟨_,ReadsW.list ho hc hd hr⟩
 | .tuple ds,_,_,x,r=>by
  cases x with
  | tup hs ha =>
   cases r
   obtain⟨its,o,n,rv,ho,hc,hd⟩:=dw hok KX hs
   obtain⟨as,hr⟩:=Dw.readsAll hok KX ds _ its ha rv
   exact⟨_,ReadsW.tuple ho hc hd hr⟩
 | .float _,_,_,x,_=>by cases x
 | .dict _,_,_,x,_=>by cases x
 | .bytearray _,_,_,x,_=>by cases x
 | .set _,_,_,x,_=>by cases x
 | .frozenset _,_,_,x,_=>by cases x
 | .obj _ _,_,_,x,_=>by cases x
theorem Dw.readsAll (hok:HOk P w H h) (KX:K.In h):∀(ds:List WData) (vs:List V) (us:List Value),DP K H vs ds→Vals vs us→∃as,ReadsAllW R cl h us ds as
 | [],_,_,x,r=>by
  cases x
  cases r
  exact⟨_,ReadsAllW.nil⟩
 | d::ds,_,_,x,r=>by
  cases x with
  | cons h1 h2 =>
   cases r with
   | cons r1 r2 =>
    obtain⟨as,q1⟩:=Dw.reads hok KX d _ _ h1 r1
    obtain⟨bs,q2⟩:=Dw.readsAll hok KX ds _ _ h2 r2
    exact⟨_,ReadsAllW.cons q1 q2⟩
end
end
mutual
def plW:WData→Bool
 | .none=>true
 | .bool _=>true
 | .int _=>true
 | .str _=>true
 | .bytes _=>true
 | .list xs=>Dq xs
 | .tuple xs=>Dq xs
 | _=>false
def Dq:List WData→Bool
 | []=>true
 | x::r=>plW x&&Dq r
end
theorem Sy {α:Type}{f:α→WData} (h:∀a,plW (f a)=true):∀l:List α,Dq (l.map f)=true
 | []=>rfl
 | x::r=>by
  show(plW (f x)&&Dq (r.map f))=true
  rw[h x,Sy h r] <;> rfl
theorem FV:∀(c:Codec) (a:c.denote),plW (c.enc a)=true
 | .unit,_=>rfl
 | .bool,_=>rfl
 | .int _ _,_=>rfl
 | .nat _ _,_=>rfl
 | .u8,_=>rfl
 | .bytes _ _,_=>rfl
 | .text _ _ _ _,_=>rfl
 | .list _ _ c,a=>Sy (fun x=>FV c x) a
 | .pair c d,a=>by
  show(plW (c.enc a.1)&&(plW (d.enc a.2)&&true))=true
  rw[FV c a.1,FV d a.2] <;> rfl
 | .triple c d e,a=>by
  show(plW (c.enc a.1)&&(plW (d.enc a.2.1)&&(plW (e.enc a.2.2)&&true)))=true
  rw[FV c a.1,FV d a.2.1,FV e a.2.2] <;> rfl
 | .option c,none=>rfl
 | .option c,some x=>FV c x
theorem Sz:∀(cs:List Codec) (a:Codec.denoteAll cs),Dq (Codec.encAll cs a)=true
 | [],_=>rfl
 | c::cs,a=>by
  show(plW (c.enc a.1)&&Dq (Codec.encAll cs a.2))=true
  rw[FV c a.1,Sz cs a.2] <;> rfl
theorem OO:∀{xs:List WData}{d:WData},d∈xs→d.weight≤WData.weightAll xs
 | [],d,h=>absurd h (by simp)
 | x::r,d,h=>by
  show d.weight≤x.weight+1+WData.weightAll r
  rcases AY.mp h with e | m
  ·rw[e]
   omega
  ·have z:=OO m
   omega
def toV:Value→V
 | .none=>.non
 | .bool b=>.bl b
 | .int i _=>.int i
 | .str x _=>.str x
 | .bytes b _=>.byt b
 | .ref a=>.ref a
 | _=>.non
def OkU (A:List Addr):Value→Prop
 | .none=>True
 | .bool _=>True
 | .int _ _=>True
 | .str _ _=>True
 | .bytes _ _=>True
 | .ref a=>a∈A
 | _=>False
theorem OkU.mono {A B:List Addr} (h:∀a∈A,a∈B):∀{u:Value},OkU A u→OkU B u:=fun {u} x=>by
 cases u with
 | ref a=>exact h a x
 | none=>trivial
 | bool b=>trivial
 | int i t=>trivial
 | str s t=>trivial
 | bytes b t=>trivial
 | _=>exact BX x
theorem cf {A:List Addr}{u:Value} (x:OkU A u):RelV (toV u) u:=by
 cases u with
 | ref a=>rfl
 | none=>rfl
 | bool b=>rfl
 | int i t=>exact⟨t,rfl⟩
 | str s t=>exact⟨t,rfl⟩
 | bytes b t=>exact⟨t,rfl⟩
 | _=>exact BX x
theorem HR {A:List Addr}:∀{vs:List Value},(∀u∈vs,OkU A u)→Vals (vs.map toV) vs
 | [],_=>.nil
 | u::r,h=>.cons (cf (h u (AZ ..))) (HR fun x hx=>h x (Ar _ hx))
def ArgOb (h:Heap) (A:List Addr) (a:Addr):Prop:=∃vs:List Value,vs.length≤sizeLine∧(∀u∈vs,OkU A u)∧
 (h.get? a=some { cls:=.type "list",data:=.seq vs.toArray }∨h.get? a=some { cls:=.type "tuple",data:=.seq vs.toArray })
theorem ArgOb.mono {h:Heap}{A B:List Addr}{a:Addr} (k:∀a∈A,a∈B) (x:ArgOb h A a):ArgOb h B a:=by
 obtain⟨vs,h1,h2,h3⟩:=x
 exact⟨vs,h1,fun u hu=>(h2 u hu).mono k,h3⟩
theorem K0 {P:Params}{h:Heap}:∀{vs:List Value}{ds:List WData},WellAll P h vs ds→vs.length=ds.length
 | _,_,.nil=>rfl
 | _,_,.cons _ b=>by
  show _+1=_+1
  rw[K0 b]
theorem WM {P:Params}{h:Heap}{v:Value}{ds:List WData} (x:Well P h v (.list ds)):∃(a:Addr) (vs:List Value),v=.ref a∧h.get? a=some { cls:=.type "list",data:=.seq vs.toArray }∧WellAll P h vs ds:=by
 cases x with
 | list ho hall=>exact⟨_,_,rfl,ho,hall⟩
theorem WN {P:Params}{h:Heap}{v:Value}{ds:List WData} (x:Well P h v (.tuple ds)):∃(a:Addr) (vs:List Value),v=.ref a∧h.get? a=some { cls:=.type "tuple",data:=.seq vs.toArray }∧WellAll P h vs ds:=by
 cases x with
 | tuple ho hall=>exact⟨_,_,rfl,ho,hall⟩
theorem WL {P:Params}{h:Heap}{us:List Value}{d:WData}{ds:List WData} (x:WellAll P h us (d::ds)):∃(v:Value) (vs:List Value),us=v::vs∧Well P h v d∧WellAll P h vs ds:=by
 cases x with
 | cons a b=>exact⟨_,_,rfl,a,b⟩
theorem R8 {n:Nat} (h:n≤1048576):n≤sizeLine:=Bp h (by decide)
section
variable {P:Params}{h:Heap}
mutual
theorem YK:∀(d:WData) (v:Value),Well P h v d→plW d=true→d.weight≤1048576→∃A:List Addr,OkU A v∧∀a∈A,ArgOb h A a
 | .none,_,x,_,_=>by
  cases x
  exact⟨[],trivial,fun a m=>absurd m (by simp)⟩
 | .bool b,_,x,_,_=>by
  cases x
  exact⟨[],trivial,fun a m=>absurd m (by simp)⟩
 | .int i,_,x,_,_=>by
  cases x
  exact⟨[],trivial,fun a m=>absurd m (by simp)⟩
 | .str s,_,x,_,_=>by
  cases x
  exact⟨[],trivial,fun a m=>absurd m (by simp)⟩
 | .bytes b,_,x,_,_=>by
  cases x
  exact⟨[],trivial,fun a m=>absurd m (by simp)⟩
 | .list ds,_,x,p,z=>by
  obtain⟨a,vs,rfl,ho,hall⟩:=WM x
  have z2:WData.weightAll ds≤1048576:=z
  obtain⟨A,h1,h2⟩:=JW ds _ hall p fun d hd=>Bp (OO hd) z2
  have k:∀b∈A,b∈a::A:=fun b hb=>Ar _ hb
  refine⟨a::A,AZ ..,fun b hb=>?_⟩
  rcases AY.mp hb with e | m
  ·rw[e]
   exact⟨vs,R8 (by rw[K0 hall];exact Bp (Xm ds) z2),fun u hu=>(h1 u hu).mono k,.inl ho⟩
  ·exact(h2 b m).mono k
 | .tuple ds,_,x,p,z=>by
  obtain⟨a,vs,rfl,ho,hall⟩:=WN x
  have z2:WData.weightAll ds≤1048576:=z
  obtain⟨A,h1,h2⟩:=JW ds _ hall p fun d hd=>Bp (OO hd) z2
  have k:∀b∈A,b∈a::A:=fun b hb=>Ar _ hb
  refine⟨a::A,AZ ..,fun b hb=>?_⟩
  rcases AY.mp hb with e | m
  ·rw[e]
   exact⟨vs,R8 (by rw[K0 hall];exact Bp (Xm ds) z2),fun u hu=>(h1 u hu).mono k,.inr ho⟩
  ·exact(h2 b m).mono k
 | .float _,_,_,p,_=>DW (show false=true from p)
 | .dict _,_,_,p,_=>DW (show false=true from p)
 | .bytearray _,_,_,p,_=>DW (show false=true from p)
 | .set _,_,_,p,_=>DW (show false=true from p)
 | .frozenset _,_,_,p,_=>DW (show false=true from p)
 | .obj _ _,_,_,p,_=>DW (show false=true from p)
theorem JW:∀(ds:List WData) (vs:List Value),WellAll P h vs ds→Dq ds=true→(∀d∈ds,d.weight≤1048576)→∃A:List Addr,(∀u∈vs,OkU A u)∧∀a∈A,ArgOb h A a
 | [],_,x,_,_=>by
  cases x
  exact⟨[],fun u m=>absurd m (by simp),fun a m=>absurd m (by simp)⟩
 | d::ds,_,x,p,z=>by
  obtain⟨v,vs,rfl,x1,x2⟩:=WL x
  have q:plW d=true∧Dq ds=true:=K1.mp p
  obtain⟨A,a1,a2⟩:=YK d v x1 q.1 (z d (AZ ..))
  obtain⟨B,b1,b2⟩:=JW ds vs x2 q.2 fun e he=>z e (Ar _ he)
  have kA:∀b∈A,b∈A++B:=fun b hb=>Ce.mpr (.inl hb)
  have kB:∀b∈B,b∈A++B:=fun b hb=>Ce.mpr (.inr hb)
  refine⟨A++B,fun u hu=>?_,fun b hb=>?_⟩
  ·rcases AY.mp hu with e | m
   ·rw[e]
    exact a1.mono kA
   ·exact(b1 u m).mono kB
  ·rcases Ce.mp hb with m | m
   ·exact(a2 b m).mono kA
   ·exact(b2 b m).mono kB
end
end
def J7 (o:Obj):Option HO:=match o.data with
 | .seq vs _=>if (o.cls==DL "list")=true then some (.frz o (.lst (vs.toList.map toV))) else some (.frz o (.tup (vs.toList.map toV)))
 | _=>none
def CI (K:AB) (h:Heap) (A:List Addr):Hp:=fun b=>if b∈A then (if (K.lookup b).isNone=true then (h.get? b).bind J7 else none) else none
theorem RY (vs:List Value):J7 { cls:=.type "list",data:=.seq vs.toArray }=some (.frz { cls:=.type "list",data:=.seq vs.toArray } (.lst (vs.map toV))):=by
 show(if (DL "list"==DL "list")=true then some (HO.frz { cls:=.type "list",data:=.seq vs.toArray } (.lst (vs.toArray.toList.map toV))) else some (HO.frz { cls:=.type "list",data:=.seq vs.toArray } (.tup (vs.toArray.toList.map toV))))=_
 rw[if_pos (beq_self_eq_true _)]
theorem RZ (vs:List Value):J7 { cls:=.type "tuple",data:=.seq vs.toArray }=some (.frz { cls:=.type "tuple",data:=.seq vs.toArray } (.tup (vs.map toV))):=by
 show(if (DL "tuple"==DL "list")=true then some (HO.frz { cls:=.type "tuple",data:=.seq vs.toArray } (.lst (vs.toArray.toList.map toV))) else some (HO.frz { cls:=.type "tuple",data:=.seq vs.toArray } (.tup (vs.toArray.toList.map toV))))=_
 rw[if_neg (by decide)]
section
variable {P:Program}{w:World}{K:AB}{h:Heap}{A:List Addr}
theorem JX {b:Addr}{o:Obj} (hb:b∈A) (hk:K.lookup b=none) (e:h.get? b=some o):CI K h A b=J7 o:=by
 unfold CI
 rw[if_pos hb,hk,if_pos (show(none:Option Obj).isNone=true from rfl),e] <;> rfl
theorem bA {b:Addr}{u:HO} (q:CI K h A b=some u):b∈A∧K.lookup b=none:=by
 unfold CI at q
 by_cases hb:b∈A
 ·rw[if_pos hb] at q
  cases hk:K.lookup b with
  | none=>exact⟨hb,rfl⟩
  | some o =>
   rw[hk,if_neg (by simp)] at q
   cases q
 ·rw[if_neg hb] at q
  cases q
theorem MK (ar : ∀ a ∈ A, ArgOb h A a) {b : Addr} {u : HO} (q : CI K h A b = some u) : K.lookup b = none ∧ ∃ vs : List Value, vs.length ≤ sizeLine ∧ (∀ u ∈ vs, OkU A u) ∧
    ((h.get? b = some { cls := .type "list", data := .seq vs.toArray } ∧ u = .frz { cls := .type "list", data := .seq vs.toArray } (.lst (vs.map toV))) ∨
     (h.get? b = some { cls := .type "tuple", data := .seq vs.toArray } ∧ u = .frz { cls := .type "tuple", data := .seq vs.toArray } (.tup (vs.map toV)))) := by
  obtain ⟨hb, hk⟩ := bA q
  obtain ⟨vs, h1, h2, h3⟩ := ar b hb
  refine ⟨hk, vs, h1, h2, ?_⟩
  rcases h3 with e | e
  · rw [JX hb hk e, RY] at q
    exact .inl ⟨e, (AV q).symm⟩
  · rw [JX hb hk e, RZ] at q
    exact .inr ⟨e, (AV q).symm⟩
theorem YL (ar:∀a∈A,ArgOb h A a):HOk P w (CI K h A) h:=fun b u q=>by
 obtain⟨_,vs,h1,h2,⟨e,rfl⟩ | ⟨e,rfl⟩⟩:=MK ar q
 ·exact⟨e,by rw[AF];exact h1,vs,_,HR h2,e⟩
 ·exact⟨e,by rw[AF];exact h1,vs,HR h2,_,e,rfl,_,rfl⟩
theorem Kp {c c':Value}{vs us:List Value} (e:(some { cls:=c,data:=.seq vs.toArray }:Option Obj)=some { cls:=c',data:=.seq us.toArray }):c=c'∧vs=us:=by
 have e1:=AV e
 have e2:c=c':=congrArg Obj.cls e1
 have e3:Data.seq vs.toArray=Data.seq us.toArray:=congrArg Obj.data e1
 injection e3 with e4
 refine⟨e2,?_⟩
 have e5:=congrArg OU e4
 simpa using e5
theorem YM (KX:K.In h) (ar:∀a∈A,ArgOb h A a) {a:Addr}{vs:List Value} (ha:a∈A) (e:h.get? a=some { cls:=.type "list",data:=.seq vs.toArray }):(∀u∈vs,OkU A u)∧SqL K (CI K h A) a (vs.map toV):=by
 obtain⟨us,h1,h2,h3⟩:=ar a ha
 have hu:us=vs:=by
  rcases h3 with q | q
  ·rw[e] at q
   exact(Kp q).2.symm
  ·rw[e] at q
   exact absurd (DL.inj (Kp q).1) (by decide)
 subst hu
 refine⟨h2,?_⟩
 cases hk:K.lookup a with
 | none=>exact .inl (.inr ⟨_,by rw[JX ha hk e,RY]⟩)
 | some o =>
  have e2:=KX a o hk
  rw[e] at e2
  obtain rfl:=AV e2
  exact .inr ⟨_,us.toArray,_,hk,rfl,rfl,rfl,by rw[Bf];exact h1,by simpa using HR h2⟩
theorem YN (KX:K.In h) (ar:∀a∈A,ArgOb h A a) {a:Addr}{vs:List Value} (ha:a∈A) (e:h.get? a=some { cls:=.type "tuple",data:=.seq vs.toArray }):(∀u∈vs,OkU A u)∧SqT K (CI K h A) a (vs.map toV):=by
 obtain⟨us,h1,h2,h3⟩:=ar a ha
 have hu:us=vs:=by
  rcases h3 with q | q
  ·rw[e] at q
   exact absurd (DL.inj (Kp q).1) (by decide)
  ·rw[e] at q
   exact(Kp q).2.symm
 subst hu
 refine⟨h2,?_⟩
 cases hk:K.lookup a with
 | none=>exact .inl (.inr ⟨_,by rw[JX ha hk e,RZ]⟩)
 | some o =>
  have e2:=KX a o hk
  rw[e] at e2
  obtain rfl:=AV e2
  exact .inr ⟨_,us.toArray,_,hk,rfl,rfl,by rw[Bf];exact h1,by simpa using HR h2⟩
mutual
theorem Y7 {Pm:Params} (KX:K.In h) (ar:∀a∈A,ArgOb h A a):∀(d:WData) (v:Value),Well Pm h v d→plW d=true→OkU A v→Dw K (CI K h A) (toV v) d
 | .none,_,x,_,_=>by
  cases x
  exact .non
 | .bool b,_,x,_,_=>by
  cases x
  exact .bl b
 | .int i,_,x,_,_=>by
  cases x
  exact .int i
 | .str s,_,x,_,_=>by
  cases x
  exact .str s
 | .bytes b,_,x,_,_=>by
  cases x
  have z:=Dw.byt (K:=K) (H:=CI K h A) b.toArray
  exact z
 | .list ds,_,x,p,hu=>by
  obtain⟨a,vs,rfl,ho,hall⟩:=WM x
  obtain⟨h2,hs⟩:=YM KX ar hu ho
  exact .lst hs (Jy KX ar ds _ hall p h2)
 | .tuple ds,_,x,p,hu=>by
  obtain⟨a,vs,rfl,ho,hall⟩:=WN x
  obtain⟨h2,hs⟩:=YN KX ar hu ho
  exact .tup hs (Jy KX ar ds _ hall p h2)
 | .float _,_,_,p,_=>DW (show false=true from p)
 | .dict _,_,_,p,_=>DW (show false=true from p)
 | .bytearray _,_,_,p,_=>DW (show false=true from p)
 | .set _,_,_,p,_=>DW (show false=true from p)
 | .frozenset _,_,_,p,_=>DW (show false=true from p)
 | .obj _ _,_,_,p,_=>DW (show false=true from p)
theorem Jy {Pm:Params} (KX:K.In h) (ar:∀a∈A,ArgOb h A a):∀(ds:List WData) (vs:List Value),WellAll Pm h vs ds→Dq ds=true→(∀u∈vs,OkU A u)→DP K (CI K h A) (vs.map toV) ds
 | [],_,x,_,_=>by
  cases x
  exact .nil
 | d::ds,_,x,p,hu=>by
  obtain⟨v,vs,rfl,x1,x2⟩:=WL x
  have q:plW d=true∧Dq ds=true:=K1.mp p
  exact .cons (Y7 KX ar d v x1 q.1 (hu _ (AZ ..))) (Jy KX ar ds vs x2 q.2 fun u m=>hu u (Ar _ m))
end
end
theorem Z6 {ds:List WData} (h:WData.layableAll ds=true):∀d∈ds,d.weight≤1048576:=fun d hd =>
 (PySem.W.layableW_iff.mp (C7.mp h d hd)).2.2
theorem Qv:∀(cs:List Codec) (a:Codec.denoteAll cs),(Codec.encAll cs a).length=cs.length
 | [],_=>rfl
 | c::cs,a=>by
  show(Codec.encAll cs a.2).length+1=cs.length+1
  rw[Qv cs a.2]
end L2
end
section
set_option maxRecDepth 100000
namespace Fm
open Flags
theorem Ie {α:Type}{f g:α→Nat}:∀{l:List α},(∀x∈l,f x≤g x)→(l.map f).sum≤(l.map g).sum
 | [],_=>AO _
 | a::l,h=>by
  have h1:=h a AZ
  have h2:=Ie (l:=l) fun x hx=>h x (Ar _ hx)
  simp only[Am,DJ]
  omega
theorem sum_eq {α:Type}{f g:α→Nat}{l:List α} (h:∀x∈l,f x=g x):(l.map f).sum=(l.map g).sum:=by
 rw[CY h]
theorem HL {α:Type}:∀l:List α,(l.map fun _=>0).sum=0
 | []=>rfl
 | a::l=>by
  have:=HL l
  simp only[Am,DJ]
  omega
theorem V0 {α:Type} (p:α→Bool) (f:α→Nat):∀l:List α,((l.filter p).map f).sum=(l.map fun x=>if p x=true then f x else 0).sum
 | []=>rfl
 | a::l=>by
  have ih:=V0 p f l
  rw[Dc]
  cases h:p a with
  | true=>simp only[if_true,Am,DJ,h,ih]
  | false=>simp only[CW,if_false,Am,DJ,h,ih,Ed]
theorem Q9 {p:Nat→Bool}:∀l:List Nat,l.filter p∈choices l
 | []=>AZ
 | x::r=>by
  have ih:=Q9 (p:=p) r
  rw[Dc]
  unfold choices
  cases p x with
  | true=>exact E6 _ (List.mem_map_of_mem ih)
  | false=>exact JD _ ih
def ZT (c:Nat→Nat) (s i x:Nat) (st:Nat×Nat):Nat×Nat:=if x=s then (if 0 < st.1 then (st.1 - 1+c i,st.2) else (st.1+c i,st.2+1)) else st
def RN (c:Nat→Nat) (s:Nat):Nat→List Nat→Nat×Nat→Nat×Nat
 | _,[],st=>st
 | i,x::r,st=>RN c s (i+1) r (ZT c s i x st)
def cnt (s:Nat):List Nat→Nat
 | []=>0
 | x::r=>(if x=s then 1 else 0)+cnt s r
end Fm
end
section
set_option maxRecDepth 100000
namespace Fm
open Flags
theorem range_cons (n:Nat):A0 (n+1)=0::(A0 n).map (·+1):=Hd
theorem J3 {α:Type}{p q:α→Bool}:∀{l:List α},(∀x∈l,p x=true→q x=true)→(l.filter p).length≤(l.filter q).length
 | [],_=>AO _
 | a::l,h=>by
  have ih:=J3 (l:=l) fun x hx=>h x (Ar _ hx)
  rw[Dc,Dc]
  cases hp:p a with
  | true =>
   rw[h a AZ hp]
   simp;omega
  | false =>
   cases q a <;> simp <;> omega
def mayAt (L:Locker) (r:List Nat) (i:Nat):List Nat:=L.sameKinds.filter fun (f:Nat)=>decide (L.points f≤i)&&r.getD (L.points f - 1) 0==r.getD i 0
theorem spots_one (L:Locker) (r:List Nat):L.spots [r]=(A0 r.length).map fun i=>⟨r.getD i 0,mayAt L r i⟩:=by
 unfold Locker.spots mayAt
 rw[Fj,Iz,CO]
theorem YH (L:Locker) (k:Nat):L.allCopies.getD k 0=L.copies k:=by
 unfold Locker.allCopies Locker.copies
 rw[D5,AX]
def lk (L:Locker) (r:List Nat) (s:Nat):Nat:=cnt s r - L.copies s
def eG (L:Locker) (i:Nat):Nat:=((L.sameKinds.filter fun f=>L.points f==i+1).map L.copies).sum
end Fm
end
section
set_option maxRecDepth 100000
namespace Fm
open Flags
theorem NR:∀(n:Nat) (l:List Nat),l.length≤n→l.eraseDups.Nodup
 | _,[],_=>by simp
 | 0,a::l,h=>by simp at h
 | n+1,a::l,h=>by
  rw[List.eraseDups_cons]
  have hl:(l.filter fun b=>!b==a).length≤n:=Bp (JC _ _) (by simpa using h)
  refine Dd.mpr ⟨fun m=>?_,NR n _ hl⟩
  have:=(C9.mp (JE.mp m)).2
  simp at this
theorem contains_mem {l:List Nat}{x:Nat}:l.contains x=true↔x∈l:=by simp
def flown (L:Locker) (r:List Nat) (s:Nat):Nat:=(RN (eG L) s 0 r (0,0)).2
end Fm
end
section
set_option maxRecDepth 100000
namespace Fb
open Flags (Bytes cutAt isName isSign)
def zs (b:Bytes):List Int:=b.map fun (c:UInt8)=>(c.toNat:Int)
theorem A6 (b:Bytes):(zs b).length=b.length:=AF _
theorem WA {a b:UInt8} (h:(a.toNat:Int)=(b.toNat:Int)):a=b:=UInt8.toNat_inj.mp (by omega)
theorem EY:∀{a b:Bytes},zs a=zs b→a=b
 | [],[],_=>rfl
 | [],_::_,h=>by simp[zs] at h
 | _::_,[],h=>by simp[zs] at h
 | x::a,y::b,h=>by
  have h:(x.toNat:Int)::zs a=(y.toNat:Int)::zs b:=h
  obtain⟨h1,h2⟩:=GW h
  rw[WA h1,EY h2]
theorem WO {a b:Bytes}:zs a=zs b↔a=b:=⟨EY,fun h=>by rw[h]⟩
theorem zs_nil {a:Bytes}:zs a=[]↔a=[]:=by cases a <;> simp[zs]
def Ao (m:Int):List Int→List (List Int)
 | []=>[[]]
 | x::r=>if x=m then []::Ao m r else match Ao m r with
  | []=>[[x]]
  | w::l=>(x::w)::l
theorem Jq (m:Int):∀r:List Int,Ao m r≠[]
 | []=>by simp[Ao]
 | x::r=>by
  unfold Ao
  split
  ·simp
  ·split <;> simp
theorem Ek (m:UInt8):∀r:Bytes,cutAt m r≠[]
 | []=>by simp[cutAt]
 | x::r=>by
  unfold cutAt
  split
  ·simp
  ·split <;> simp
theorem Ju (m:UInt8):∀b:Bytes,Ao (m.toNat:Int) (zs b)=(cutAt m b).map zs
 | []=>rfl
 | x::r=>by
  have ih:=Ju m r
  show Ao (m.toNat:Int) ((x.toNat:Int)::zs r)=_
  unfold Ao cutAt
  by_cases e:x=m
  ·rw[if_pos e,if_pos (by rw[e]),ih]
   rfl
  ·rw[if_neg e,if_neg (fun q=>e (WA q)),ih]
   cases h:cutAt m r with
   | nil=>exact absurd h (Ek m r)
   | cons w l=>rfl
theorem Jr (m v:Int):∀(xs:List Int) (done:List (List Int)) (p:List Int),Ao m xs=done++[p]→Ao m (xs++[v])=if v=m then done++[p]++[[]] else done++[p++[v]]
 | [],done,p,h=>by
  have:done=[]∧p=[]:=by
   cases done with
   | nil=>simp[Ao] at h;exact⟨rfl,h⟩
   | cons a l=>simp[Ao] at h
  obtain⟨rfl,rfl⟩:=this
  by_cases e:v=m
  ·simp[Ao,e]
  ·simp[Ao,e]
 | x::r,done,p,h=>by
  show Ao m (x::(r++[v]))=_
  unfold Ao at h ⊢
  by_cases e:x=m
  ·rw[if_pos e] at h ⊢
   cases done with
   | nil =>
    have:Ao m r=[]:=by simpa using(GW h).2
    exact absurd this (Jq m r)
   | cons d ds =>
    have h1:=GW h
    have ih:=Jr m v r ds p h1.2
    rw[ih,← h1.1]
    split <;> rfl
  ·rw[if_neg e] at h ⊢
   cases hr:Ao m r with
   | nil=>exact absurd hr (Jq m r)
   | cons w l =>
    rw[hr] at h
    have h:(x::w)::l=done++[p]:=h
    cases done with
    | nil =>
     have h1:=GW h
     have hl:l=[]:=h1.2
     subst hl
     have ih:=Jr m v r [] w hr
     rw[ih]
     by_cases ev:v=m
     ·rw[if_pos ev,if_pos ev,← h1.1];rfl
     ·rw[if_neg ev,if_neg ev,← h1.1];rfl
    | cons d ds =>
     have h1:=GW h
     have hl:l=ds++[p]:=h1.2
     have ih:=Jr m v r (w::ds) p (by rw[hr,hl];rfl)
     rw[ih]
     by_cases ev:v=m
     ·rw[if_pos ev,if_pos ev,← h1.1];rfl
     ·rw[if_neg ev,if_neg ev,← h1.1];rfl
theorem Jo (m:Int):∀xs:List Int,(Ao m xs).length=xs.count m+1
 | []=>by simp[Ao]
 | x::r=>by
  have ih:=Jo m r
  unfold Ao
  by_cases e:x=m
  ·rw[if_pos e,A9,ih,e,List.count_cons_self]
  ·rw[if_neg e]
   cases hr:Ao m r with
   | nil=>exact absurd hr (Jq m r)
   | cons w l =>
    rw[hr] at ih
    rw[Of e,← ih]
    rfl
theorem G1 (m:Int) (xs:List Int):(Ao m xs).length≤xs.length+1:=by
 rw[Jo]
 have:=List.count_le_length (a:=m) (l:=xs)
 omega
theorem Eu (m:Int):∀(xs:List Int) (w:List Int),w∈Ao m xs→w.length≤xs.length
 | [],w,h=>by simp[Ao] at h;subst h;simp
 | x::r,w,h=>by
  have ih:=Eu m r
  unfold Ao at h
  split at h
  ·rcases AY.mp h with e | h
   ·subst e;simp
   ·have:=ih w h;simp;omega
  ·split at h
   ·simp at h;subst h;simp
   ·rename_i w' l hr
    rcases AY.mp h with e | h
    ·subst e
     have:=ih w' (by rw[hr];exact AZ)
     simp;omega
    ·have:=ih w (by rw[hr];exact Ar _ h)
     simp;omega
def FO (b:Int):Bool:=(decide (65≤b)&&decide (b≤90)) || (decide (48≤b)&&decide (b≤57))
def ED (l:List Int):Bool:=(decide (1≤l.length)&&decide (l.length≤8))&&l.all FO
theorem CM {p q:Prop} [Decidable p] [Decidable q] (h:p↔q):decide p=decide q:=by
 by_cases x:p
 ·rw[decide_eq_true x,decide_eq_true (h.mp x)]
 ·rw[decide_eq_false x,decide_eq_false fun y=>x (h.mpr y)]
theorem aq (c:UInt8):FO (c.toNat:Int)=isSign c:=by
 unfold FO isSign
 rw[CM (show(65:Int)≤c.toNat↔65≤c.toNat by omega),CM (show(c.toNat:Int)≤90↔c.toNat≤90 by omega),CM (show(48:Int)≤c.toNat↔48≤c.toNat by omega),CM (show(c.toNat:Int)≤57↔c.toNat≤57 by omega)]
theorem QE {p:Int→Bool}{q:UInt8→Bool} (h:∀c:UInt8,p (c.toNat:Int)=q c) (b:Bytes):(zs b).all p=b.all q:=by
 unfold zs
 rw[GV]
 congr 1
 funext c
 exact h c
theorem J9 (b:Bytes):ED (zs b)=isName b:=by
 unfold ED isName
 rw[A6,QE aq,Bool.and_assoc]
def IU (w ns:List Int):Bool:=match Ao 32 ns with
 | [a,b]=>decide (a=w)&&ED b
 | _=>false
theorem G0 (b:Bytes):Ao 32 (zs b)=(cutAt 32 b).map zs:=Ju 32 b
theorem MZ (b:Bytes):Ao 10 (zs b)=(cutAt 10 b).map zs:=Ju 10 b
theorem Jn (b:Bytes):Ao 46 (zs b)=(cutAt 46 b).map zs:=Ju 46 b
theorem NK {w line n:Bytes} (h:CF w line=some n):IU (zs w) (zs line)=true∧(Ao 32 (zs line))[1]?=some (zs n):=by
 unfold CF at h
 unfold IU
 rw[G0]
 split at h
 ·rename_i a b hc
  split at h
  ·rename_i hh
   cases h
   rw[hc]
   show(decide (zs a=zs w)&&ED (zs n))=true∧_
   rw[decide_eq_true (by rw[hh.1]),J9,hh.2]
   exact⟨rfl,rfl⟩
  ·cases h
 ·cases h
theorem NJ {w line:Bytes} (h:CF w line=none):IU (zs w) (zs line)=false:=by
 unfold CF at h
 unfold IU
 rw[G0]
 match hc:cutAt 32 line with
 | [a,b] =>
  rw[hc] at h
  have h:(if a=w∧isName b=true then some b else none)=none:=h
  show(decide (zs a=zs w)&&ED (zs b))=false
  by_cases e:a=w
  ·by_cases e2:isName b=true
   ·rw[if_pos ⟨e,e2⟩] at h;cases h
   ·rw[J9,HS.mpr e2,GO]
  ·rw[decide_eq_false fun q=>e (EY q),Cr]
 | []=>rfl
 | [a]=>rfl
 | a::b::c::l=>rfl
def J8 (l:List Int):Bool:=(decide (l.length≤64)&&l.all fun b=>decide (32≤b)&&decide (b≤126))&&!(decide ([]∈Ao 32 l))
theorem Qe (m x:UInt8) (r:Bytes):[]∈cutAt m (x::r)↔x=m∨[]∈(cutAt m r).tail:=by
 show []∈(if x=m then []::cutAt m r else match cutAt m r with
  | []=>[[x]]
  | w::l=>(x::w)::l)↔_
 by_cases e:x=m
 ·rw[if_pos e]
  exact⟨fun _=>.inl e,fun _=>AZ⟩
 ·rw[if_neg e]
  cases h:cutAt m r with
  | nil=>exact absurd h (Ek m r)
  | cons w l=>simp[e]
theorem Jt (m x:UInt8) (r:Bytes):[]∈(cutAt m (x::r)).tail↔(x=m∧[]∈cutAt m r)∨(x≠m∧[]∈(cutAt m r).tail):=by
 show []∈(if x=m then []::cutAt m r else match cutAt m r with
  | []=>[[x]]
  | w::l=>(x::w)::l).tail↔_
 by_cases e:x=m
 ·rw[if_pos e];simp[e]
 ·rw[if_neg e]
  cases h:cutAt m r with
  | nil=>exact absurd h (Ek m r)
  | cons w l=>simp[e]
open Flags (noTwoBlanks isMeaning) in
theorem QL:∀(x:UInt8) (r:Bytes),[]∈(cutAt 32 (x::r)).tail↔¬((x::r).getLast?≠some 32∧noTwoBlanks (x::r)=true)
 | x,[]=>by
  rw[Jt]
  simp[cutAt,noTwoBlanks]
 | x,y::r=>by
  have ih:=QL y r
  rw[Jt,Qe]
  have e1:(x::y::r).getLast?=(y::r).getLast?:=by rw[List.getLast?_cons_cons]
  have e2:noTwoBlanks (x::y::r)=(!(x==32&&y==32)&&noTwoBlanks (y::r)):=rfl
  rw[e1,e2]
  have e3:[]∈(cutAt 32 r).tail∧y≠32↔[]∈(cutAt 32 (y::r)).tail∧y≠32:=by
   rw[Jt]
   constructor
   ·rintro⟨a,b⟩;exact⟨.inr ⟨b,a⟩,b⟩
   ·rintro⟨a | a,b⟩
    ·exact(b a.1).elim
    ·exact⟨a.2,b⟩
  by_cases hx:x=32
  ·by_cases hy:y=32
   ·simp[hx,hy]
   ·have:[]∈(cutAt 32 r).tail↔[]∈(cutAt 32 (y::r)).tail:=⟨fun a=>(e3.mp ⟨a,hy⟩).1,fun a=>(e3.mpr ⟨a,hy⟩).1⟩
    rw[this,ih]
    simp[hx,hy]
  ·rw[ih]
   simp[hx]
theorem Zm (b:Bytes):J8 (zs b)=Ff b:=by
 unfold J8 Ff
 have hmem:([]∈Ao 32 (zs b))↔[]∈cutAt 32 b:=by
  rw[G0]
  constructor
  ·intro h
   obtain⟨w,hw,e⟩:=BD.mp h
   rw[← zs_nil.mp e];exact hw
  ·intro h
   exact BD.mpr ⟨[],h,rfl⟩
 rw[A6,QE (q:=fun c=>decide (32≤c.toNat)&&decide (c.toNat≤126)) (fun c=>by rw[CM (show(32:Int)≤c.toNat↔32≤c.toNat by omega),CM (show(c.toNat:Int)≤126↔c.toNat≤126 by omega)]),CM hmem]
 cases b with
 | nil=>rfl
 | cons x r =>
  rw[CM (Qe 32 x r)]
  have h2:=QL x r
  by_cases hx:x=32
  ·simp[hx]
  ·have h3:(x=32∨[]∈(cutAt 32 r).tail)↔[]∈(cutAt 32 (x::r)).tail:=by
    rw[Jt]
    simp[hx]
   rw[CM h3,CM h2]
   have e1:(x::r).head?=some x:=rfl
   rw[e1]
   have e4:(some x != some (32:UInt8))=true:=by simp[hx]
   rw[e4]
   have e5:decide (1≤(x::r).length)=true:=by simp
   rw[e5,D0,D0]
   have e6:(!decide (¬((x::r).getLast?≠some 32∧WV (x::r)=true)))=((x::r).getLast? != some 32&&WV (x::r)):=by
    rw[C5]
    simp
   rw[e6,Bool.and_assoc]
theorem Sj {c:UInt8}:∀{l:Bytes},Fh c l=none→cutAt c l=[l]
 | [],_=>rfl
 | x::r,h=>by
  unfold Fh at h
  unfold cutAt
  split at h
  ·cases h
  ·rename_i e
   rw[if_neg e]
   have:Fh c r=none:=by
    cases q:Fh c r with
    | none=>rfl
    | some p=>rw[q] at h;cases h
   rw[Sj this]
theorem Sk {c:UInt8}:∀{l p q:Bytes},Fh c l=some (p,q)→(cutAt c l)[0]?=some p∧l=p++c::q
 | [],_,_,h=>by cases h
 | x::r,p,q,h=>by
  unfold Fh at h
  unfold cutAt
  split at h
  ·rename_i e
   cases h
   rw[if_pos e,e]
   exact⟨rfl,rfl⟩
  ·rename_i e
   rw[if_neg e]
   cases z:Fh c r with
   | none=>rw[z] at h;cases h
   | some y =>
    rw[z] at h
    obtain⟨y1,y2⟩:=y
    have h:some (x::y1,y2)=some (p,q):=h
    cases h
    obtain⟨h1,h2⟩:=Sk z
    cases hr:cutAt c r with
    | nil=>exact absurd hr (Ek c r)
    | cons w l =>
     rw[hr] at h1
     have h1:w=y1:=by simpa using h1
     subst h1
     exact⟨rfl,by rw[h2];rfl⟩
end Fb
end
section
set_option maxRecDepth 100000
namespace Fb
open Flags (Bytes Kind)
theorem R9:∀(ws:List Bytes) (i:Nat) (past ks:List Kind),Fg i past ws=.ok ks→ks.length≤past.length+ws.length
 | [],i,past,ks,h=>by
  unfold Fg at h
  cases h
 | [w],i,past,ks,h=>by
  unfold Fg at h
  split at h
  ·cases h
  ·cases h
   omega
 | w::x::r,i,past,ks,h=>by
  unfold Fg at h
  split at h
  ·cases h
  ·split at h
   ·cases h
   ·have:=R9 (x::r) _ _ ks h
    rw[BL,Cs] at this
    rw[A9]
    omega
theorem Qg (m:UInt8):∀t:Bytes,(A7 m t).length≤t.length+1
 | []=>AO _
 | x::r=>by
  have ih:=Qg m r
  have e:A7 m (x::r)=if x=m then []::A7 m r else match A7 m r with
   | []=>[[x]]
   | w::l=>(x::w)::l:=rfl
  rw[e,A9]
  split
  ·rw[A9];omega
  ·split
   ·rw[Cs];omega
   ·rename_i w l hc
    rw[hc,A9] at ih
    rw[A9]
    omega
theorem Zs {t:Bytes}{L:AU} (h:DX t=.ok L):L.kinds.length≤t.length+1:=by
 unfold DX at h
 have hc:=Qg 10 t
 split at h
 ·rename_i w x r hcut
  rw[hcut,A9] at hc
  split at h
  ·cases hl:Fg 1 [] (x::r) with
   | error e=>rw[hl] at h;cases h
   | ok ks =>
    rw[hl] at h
    cases h
    have:=R9 _ _ _ _ hl
    simp only[Ea] at this
    show ks.length≤_
    omega
  ·cases h
 ·cases h
end Fb
end
section
set_option maxRecDepth 100000
namespace Fb
inductive ZLab where
 | sign (n:List Int)
 | same (k:Int)
 | ans
 deriving DecidableEq
structure ZK where
 lab:ZLab
 copies:Int
 shape:Int
 look:Int
 deriving DecidableEq
def ZLab.rank:ZLab→Int
 | .sign _=>1
 | .same _=>2
 | .ans=>3
def zl:GQ→ZLab
 | .sign n=>.sign (zs n)
 | .same k=>.same (k:Int)
 | .answer=>.ans
def zk (k:AR):ZK:=⟨zl k.role,k.copies,k.shape,k.look⟩
theorem fY:∀{a b:GQ},zl a=zl b→a=b
 | .sign _,.sign _,h=>by injection h with h;rw[EY h]
 | .same _,.same _,h=>by injection h with h;rw[Ip h]
 | .answer,.answer,_=>rfl
 | .sign _,.same _,h=>nomatch h
 | .sign _,.answer,h=>nomatch h
 | .same _,.sign _,h=>nomatch h
 | .same _,.answer,h=>nomatch h
 | .answer,.sign _,h=>nomatch h
 | .answer,.same _,h=>nomatch h
def rk (k:AR):Nat:=match k.role with
 | .sign _=>1
 | .same _=>2
 | .answer=>3
theorem Kg (k:AR):(zk k).lab.rank=(rk k:Int):=by
 unfold zk rk
 cases k.role <;> rfl
structure Wf (ks:List AR):Prop where
 order:ks.Pairwise fun a b=>rk a≤rk b∧rk a≠3
 names:ks.Pairwise fun a b=>∀n,a.role=.sign n→b.role≠.sign n
 sames:ks.Pairwise fun a b=>∀i j,a.role=.same i→b.role=.same j→i < j
 ge:∀k∈ks,∀i,k.role=.same i→1≤i
 few:(ks.filter D1).length≤48
theorem Wf.nil:Wf []:=⟨.nil,.nil,.nil,fun _ h=>absurd h Eb,by decide⟩
theorem isSign_rk (k:AR):k.isSign=decide (rk k=1):=by
 unfold D1 rk
 cases k.role <;> rfl
theorem Gy (k:AR):(k.role==.answer)=decide (rk k=3):=by
 unfold rk
 cases k.role with
 | sign n=>exact beq_eq_false_iff_ne.mpr (fun q=>nomatch q)
 | same n=>exact beq_eq_false_iff_ne.mpr (fun q=>nomatch q)
 | answer=>exact beq_self_eq_true _
theorem Nh (k:AR):1≤rk k∧rk k≤3:=by
 unfold rk
 cases k.role <;> simp
def EA (past:List AR) (x:AR):Bool:=match x.role with
 | .sign _=>past.any fun (k:AR)=>!k.isSign
 | _=>past.any fun (k:AR)=>k.role==.answer
def dup (past:List AR) (x:AR):Bool:=match x.role with
 | .sign _=>past.any fun (k:AR)=>k.role==x.role
 | .same j=>past.any fun (k:AR)=>match k.role with
  | .same i=>decide (j≤i)
  | _=>false
 | .answer=>false
theorem Ik (past:List AR) (x:AR):Fi past x=if EA past x=true then some 1 else if dup past x=true then some 2 else if (x.isSign&&decide (Oa≤past.length))=true then some 3 else
 if (past.any fun (k:AR)=>k.shape==x.shape&&k.look==x.look)=true then some 4 else none:=rfl
theorem MQ {past:List AR}{x:AR}{n:Aq} (h:x.role=.sign n):EA past x=past.any fun (k:AR)=>!k.isSign:=by unfold EA;rw[h]
theorem QV {past:List AR}{x:AR}{n:Nat} (h:x.role=.same n):EA past x=past.any fun (k:AR)=>k.role==.answer:=by unfold EA;rw[h]
theorem QU {past:List AR}{x:AR} (h:x.role=.answer):EA past x=past.any fun (k:AR)=>k.role==.answer:=by unfold EA;rw[h]
def HK (past:List ZK) (z:ZK):Bool:=match past.getLast? with
 | none=>true
 | some b=>!(decide (b.lab.rank=3))&&decide (b.lab.rank≤z.lab.rank)
def EH (past:List ZK) (z:ZK):Bool:=match z.lab with
 | .sign n=>past.any fun b=>decide (b.lab=.sign n)
 | .same k=>past.any fun b=>match b.lab with
  | .same j=>decide (k≤j)
  | _=>false
 | .ans=>false
def Ey (past:List ZK):Nat:=(past.filter fun b=>decide (b.lab.rank=1)).length
def IP (past:List ZK) (z:ZK):Bool:=past.any fun b=>decide (b.shape=z.shape)&&decide (b.look=z.look)
def J2 (past:List ZK) (z:ZK):Int:=if HK past z=false then 1 else if EH past z=true then 2 else if z.lab.rank=1∧Ey past=48 then 3 else if IP past z=true then 4 else 0
theorem M3 {α:Type}{l:List α}{b:α} (h:l.getLast?=some b):∃r,l=r++[b]:=by
 obtain⟨r,e⟩:=List.getLast?_eq_some_iff.mp h
 exact⟨r,e⟩
theorem dy {past:List AR} (w:Wf past) (x:AR):HK (past.map zk) (zk x)=!EA past x:=by
 unfold HK
 rw[List.getLast?_map]
 cases h:past.getLast? with
 | none =>
  have:past=[]:=Ow.mp h
  subst this
  unfold EA
  cases x.role <;> rfl
 | some b =>
  obtain⟨r,e⟩:=M3 h
  subst e
  show(!(decide ((zk b).lab.rank=3))&&decide ((zk b).lab.rank≤(zk x).lab.rank))=_
  rw[Kg,Kg]
  have ord:∀k∈r,rk k≤rk b∧rk k≠3:=fun k hk=>(Ox.mp w.order).2.2 k hk b AZ
  have pb:=Nh b
  cases hx:x.role with
  | sign n =>
   have rx:rk x=1:=by unfold rk;rw[hx]
   rw[rx,MQ hx]
   by_cases hb:rk b=1
   ·have:((r++[b]).any fun (k:AR)=>!k.isSign)=false:=by
     rw[EL]
     intro k hk
     rw[isSign_rk]
     rcases Ce.mp hk with q | q
     ·have:=ord k q
      have:=Nh k
      rw[decide_eq_true (by omega)];simp
     ·rw[A1.mp q,decide_eq_true hb];simp
    show _=!((r++[b]).any fun (k:AR)=>!k.isSign)
    rw[this,hb];rfl
   ·have:((r++[b]).any fun (k:AR)=>!k.isSign)=true:=by
     rw[Iq]
     exact⟨b,by simp,by rw[isSign_rk,decide_eq_false hb];rfl⟩
    show _=!((r++[b]).any fun (k:AR)=>!k.isSign)
    rw[this,decide_eq_false (show ¬((rk b:Nat):Int)≤((1:Nat):Int) by omega),GO];rfl
  | same j =>
   have rx:rk x=2:=by unfold rk;rw[hx]
   rw[rx,QV hx]
   by_cases hb:rk b=3
   ·have:((r++[b]).any fun (k:AR)=>k.role==.answer)=true:=by
     rw[Iq]
     exact⟨b,by simp,by rw[Gy,decide_eq_true hb]⟩
    show _=!((r++[b]).any fun (k:AR)=>k.role==.answer)
    rw[this,hb];rfl
   ·have:((r++[b]).any fun (k:AR)=>k.role==.answer)=false:=by
     rw[EL]
     intro k hk
     rw[Gy]
     rcases Ce.mp hk with q | q
     ·rw[decide_eq_false (ord k q).2];simp
     ·rw[A1.mp q,decide_eq_false hb];simp
    show _=!((r++[b]).any fun (k:AR)=>k.role==.answer)
    rw[this,decide_eq_false (show ¬((rk b:Nat):Int)=3 by omega),decide_eq_true (show((rk b:Nat):Int)≤((2:Nat):Int) by omega)];rfl
  | answer =>
   have rx:rk x=3:=by unfold rk;rw[hx]
   rw[rx,QU hx]
   by_cases hb:rk b=3
   ·have:((r++[b]).any fun (k:AR)=>k.role==.answer)=true:=by
     rw[Iq]
     exact⟨b,by simp,by rw[Gy,decide_eq_true hb]⟩
    show _=!((r++[b]).any fun (k:AR)=>k.role==.answer)
    rw[this,hb];rfl
   ·have:((r++[b]).any fun (k:AR)=>k.role==.answer)=false:=by
     rw[EL]
     intro k hk
     rw[Gy]
     rcases Ce.mp hk with q | q
     ·rw[decide_eq_false (ord k q).2];simp
     ·rw[A1.mp q,decide_eq_false hb];simp
    show _=!((r++[b]).any fun (k:AR)=>k.role==.answer)
    rw[this,decide_eq_false (show ¬((rk b:Nat):Int)=3 by omega),decide_eq_true (show((rk b:Nat):Int)≤((3:Nat):Int) by omega)];rfl
theorem Rv (past:List AR) (x:AR):EH (past.map zk) (zk x)=dup past x:=by
 unfold EH dup
 have el:(zk x).lab=zl x.role:=rfl
 rw[el]
 cases hx:x.role with
 | sign n =>
  show((past.map zk).any fun b=>decide (b.lab=ZLab.sign (zs n)))=past.any fun k=>k.role==GR n
  rw[HZ]
  congr 1
  funext k
  show decide (zl k.role=zl (.sign n))=(k.role==.sign n)
  rw[C5,beq_iff_eq,decide_eq_true_iff]
  exact⟨fY,fun h=>by rw[h]⟩
 | same j =>
  show((past.map zk).any fun b=>match b.lab with
   | .same i=>decide ((j:Int)≤i)
   | _=>false)=past.any fun k=>match k.role with
   | .same i=>decide (j≤i)
   | _=>false
  rw[HZ]
  congr 1
  funext k
  show(match zl k.role with
   | .same i=>decide ((j:Int)≤i)
   | _=>false)=_
  cases k.role with
  | sign n=>rfl
  | same i=>exact CM (by show(j:Int)≤(i:Int)↔_;omega)
  | answer=>rfl
 | answer=>rfl
theorem aG (past:List AR) (x:AR):IP (past.map zk) (zk x)=past.any fun (k:AR)=>k.shape==x.shape&&k.look==x.look:=by
 unfold IP
 rw[HZ]
 congr 1
 funext k
 show(decide ((k.shape:Int)=(x.shape:Int))&&decide ((k.look:Int)=(x.look:Int)))=_
 rw[CM (show(k.shape:Int)=x.shape↔k.shape=x.shape by omega),CM (show(k.look:Int)=x.look↔k.look=x.look by omega)]
 rfl
theorem VH (past:List AR):Ey (past.map zk)=(past.filter D1).length:=by
 unfold Ey
 rw[Oi,AF]
 congr 1
 apply Iw
 intro k _
 show decide ((zk k).lab.rank=1)=k.isSign
 rw[Kg,isSign_rk]
 exact CM (by omega)
theorem ZJ {past:List AR} (w:Wf past) (x:AR):J2 (past.map zk) (zk x)=match Fi past x with
  | none=>0
  | some e=>(e:Int):=by
 unfold J2
 rw[Ik,dy w x,Rv past x,aG past x,VH past]
 cases h1:EA past x with
 | true=>rfl
 | false =>
  simp only[Bool.not_false,Bool.true_eq_false,if_false,CW]
  cases h2:dup past x with
  | true=>rfl
  | false =>
   simp only[CW,if_false]
   have hc:((zk x).lab.rank=1∧(past.filter D1).length=48)↔(x.isSign&&decide (Oa≤past.length))=true:=by
    rw[Kg,BC,isSign_rk,decide_eq_true_iff,decide_eq_true_iff]
    constructor
    ·rintro⟨q1,q2⟩
     refine⟨by omega,?_⟩
     have:=JC D1 past
     show 48≤_
     omega
    ·rintro⟨q1,q2⟩
     refine⟨by omega,?_⟩
     have q2:48≤past.length:=q2
     have few:=w.few
     have all:past.filter D1=past:=by
      apply WZ.mpr
      intro k hk
      cases hx:x.role with
      | sign n =>
       rw[MQ hx] at h1
       have:=(EL.mp h1) k hk
       cases q:k.isSign with
       | true=>rfl
       | false=>rw[q] at this;exact absurd rfl this
      | same n=>unfold rk at q1;rw[hx] at q1;cases q1
      | answer=>unfold rk at q1;rw[hx] at q1;cases q1
     rw[all] at few ⊢
     omega
   by_cases hh:(zk x).lab.rank=1∧(past.filter D1).length=48
   ·rw[if_pos hh,if_pos (hc.mp hh)];rfl
   ·rw[if_neg hh,if_neg fun q=>hh (hc.mpr q)]
    split <;> rfl
theorem Wf.snoc {past:List AR} (w:Wf past) {x:AR} (hx:∀i,x.role=.same i→1≤i) (h:Fi past x=none):Wf (past++[x]):=by
 rw[Ik] at h
 by_cases h1:EA past x=true
 ·rw[if_pos h1] at h;cases h
 rw[if_neg h1] at h
 by_cases h2:dup past x=true
 ·rw[if_pos h2] at h;cases h
 rw[if_neg h2] at h
 by_cases h3:(x.isSign&&decide (Oa≤past.length))=true
 ·rw[if_pos h3] at h;cases h
 replace h1:=HS.mpr h1
 replace h2:=HS.mpr h2
 have one:∀{R:AR→AR→Prop},past.Pairwise R→(∀a∈past,R a x)→(past++[x]).Pairwise R:=fun p q =>
  Ox.mpr ⟨p,Wr _ _,fun a ha b hb=>by rw[A1.mp hb];exact q a ha⟩
 have r1:∀a∈past,rk a≤rk x∧rk a≠3:=fun a ha=>by
  have pa:=Nh a
  cases hr:x.role with
  | sign n =>
   have rx:rk x=1:=by unfold rk;rw[hr]
   rw[MQ hr] at h1
   have:=(EL.mp h1) a ha
   rw[isSign_rk] at this
   have:rk a=1:=by
    by_cases q:rk a=1
    ·exact q
    ·rw[decide_eq_false q] at this;exact absurd rfl this
   omega
  | same n =>
   have rx:rk x=2:=by unfold rk;rw[hr]
   rw[QV hr] at h1
   have:=(EL.mp h1) a ha
   rw[Gy,decide_eq_true_iff] at this
   omega
  | answer =>
   have rx:rk x=3:=by unfold rk;rw[hr]
   rw[QU hr] at h1
   have:=(EL.mp h1) a ha
   rw[Gy,decide_eq_true_iff] at this
   omega
 refine⟨one w.order r1,one w.names fun a ha n e1 e2=>?_,one w.sames fun a ha i j e1 e2=>?_,fun k hk i e=>?_,?_⟩
 ·unfold dup at h2
  rw[e2] at h2
  have:=(EL.mp h2) a ha
  rw[e1] at this
  exact this (beq_self_eq_true _)
 ·unfold dup at h2
  rw[e2] at h2
  have:=(EL.mp h2) a ha
  rw[e1] at this
  have:¬j≤i:=fun q=>this (decide_eq_true q)
  omega
 ·rcases Ce.mp hk with q | q
  ·exact w.ge k q i e
  ·rw[A1.mp q] at e;exact hx i e
 ·rw[Iv,BL,Dc]
  have few:=w.few
  cases q:x.isSign with
  | false=>simp;exact few
  | true =>
   rw[q,D0,decide_eq_true_iff] at h3
   have h3:¬48≤past.length:=h3
   have:=JC D1 past
   simp
   omega
end Fb
end
section
set_option maxRecDepth 100000
namespace Fb
def GA (k:Int) (z:ZK):Bool:=decide (z.lab=.same k)
structure CS where
 L:Int→Int
 F:Int→Int
 keys:List Int
def cs0:CS:=⟨fun _=>0,fun _=>0,[]⟩
def zn (r:List Nat):List Int:=r.map fun (n:Nat)=>(n:Int)
theorem S0 {L:AU} (w:Wf L.kinds):∀f∈L.sameKinds,1≤L.points f:=by
 intro f hf
 obtain⟨h1,h2⟩:=C9.mp hf
 have h1:=E7.mp h1
 unfold OZ
 rw[As h1] at h2 ⊢
 cases hr:L.kinds[f].role with
 | sign n=>rw[Ge,hr] at h2;cases h2
 | same k =>
  rw[Ge,hr]
  exact w.ge _ (GY h1) k hr
 | answer=>rw[Ge,hr] at h2;cases h2
theorem Bl (r:List Nat):(zn r).length=r.length:=AF _
end Fb
end
section
set_option maxRecDepth 100000
namespace Fb
open Flags (Bytes cutAt Fault)
def Bo {S:Type} (step:S→Nat→Bytes→Except Nat S):Nat→S→List Bytes→Except Fault S
 | _,s,[]=>.ok s
 | i,s,w::r=>match step s i w with
  | .error k=>.error (k,i)
  | .ok s'=>Bo step (i+1) s' r
section
variable {S:Type}{step:S→Nat→Bytes→Except Nat S}{i k:Nat}{s s':S}{w:Bytes}{r:List Bytes}
theorem C1 (h:step s i w=.error k):Bo step i s (w::r)=.error (k,i):=by
 unfold Bo;rw[h]
theorem DT (h:step s i w=.ok s'):Bo step i s (w::r)=Bo step (i+1) s' r:=by
 conv=>lhs;unfold Bo
 rw[h]
end
def Al (t:Bytes):List Bytes:=(cutAt 10 t).dropLast
def Bt (t:Bytes):Bytes:=(cutAt 10 t).getLast (Ek 10 t)
theorem IB (t:Bytes):cutAt 10 t=Al t++[Bt t]:=(LB (Ek 10 t)).symm
def Jz {S T:Type} (f:S→Except Fault T):Except Fault S→Except Fault T
 | .error e=>.error e
 | .ok s=>f s
def DG (past:List AR) (line:Bytes):Except Nat (List AR):=match C6 line with
 | none=>.error 1
 | some x=>match Fi past x with
  | some e=>.error e
  | none=>.ok (past++[x])
def Md (w:Bytes) (n:Nat) (p:List AR):Except Fault (List AR):=if w≠[]∨p.all (fun k=>!k.isSign)=true then .error (1,n) else .ok p
theorem Rq:∀(ls:List Bytes) (i:Nat) (past:List AR) (w:Bytes),Fg i past (ls++[w])=Jz (Md w (i+ls.length)) (Bo (fun s _ l=>DG s l) i past ls)
 | [],i,past,w=>rfl
 | x::ls,i,past,w=>by
  have ne:ls++[w]≠[]:=by simp
  have e:Fg i past (x::(ls++[w]))=match C6 x with
    | none=>.error (1,i)
    | some y=>match Fi past y with
     | some e=>.error (e,i)
     | none=>Fg (i+1) (past++[y]) (ls++[w]):=by
   cases h:ls++[w] with
   | nil=>exact absurd h ne
   | cons a b=>rfl
  rw[GX,e]
  cases h1:C6 x with
  | none =>
   rw[C1 (k:=1) (by unfold DG;rw[h1])]
   rfl
  | some y =>
   dsimp only
   cases h2:Fi past y with
   | some e =>
    rw[C1 (k:=e) (by unfold DG;rw[h1];dsimp only;rw[h2])]
    rfl
   | none =>
    dsimp only
    rw[DT (s':=past++[y]) (by unfold DG;rw[h1];dsimp only;rw[h2]),Rq ls (i+1) (past++[y]) w,show i+1+ls.length=i+(ls.length+1) by omega]
    rfl
structure LS where
 name:Bytes
 kinds:List AR
def Bd (s:LS) (i:Nat) (line:Bytes):Except Nat LS:=if i=0 then (match Oc line with
 | none=>.error 1
 | some n=>.ok ⟨n,s.kinds⟩) else (DG s.kinds line).map fun k=>⟨s.name,k⟩
theorem TN (n:Bytes):∀(ls:List Bytes) (i:Nat) (past:List AR),Bo Bd (i+1) ⟨n,past⟩ ls=(Bo (fun s _ l=>DG s l) (i+1) past ls).map fun k=>⟨n,k⟩
 | [],_,_=>rfl
 | w::ls,i,past=>by
  have e:Bd ⟨n,past⟩ (i+1) w=(DG past w).map fun k=>⟨n,k⟩:=by
   unfold Bd
   rw[if_neg (by omega)]
  cases h:DG past w with
  | error k =>
   rw[C1 (k:=k) (by rw[e,h];rfl),C1 (k:=k) h]
   rfl
  | ok p =>
   rw[DT (s':=⟨n,p⟩) (by rw[e,h];rfl),DT (s':=p) h]
   exact TN n ls (i+1) p
def En (w:Bytes) (n:Nat) (s:LS):Except Fault AU:=if w≠[]∨s.kinds.all (fun k=>!k.isSign)=true then .error (1,n) else .ok ⟨s.name,s.kinds⟩
theorem Zr (t:Bytes):DX t=Jz (En (Bt t) (Al t).length) (Bo Bd 0 ⟨[],[]⟩ (Al t)):=by
 unfold DX
 rw[IB]
 generalize Al t=ls
 generalize Bt t=w
 cases ls with
 | nil =>
  show Ck (1,0)=if w≠[]∨true=true then Ck (1,0) else _
  rw[if_pos (.inr rfl)]
 | cons x ls =>
  have e1:(x::ls)++[w]=x::(ls++[w]):=rfl
  rw[e1]
  obtain⟨a,b,h⟩:∃a b,ls++[w]=a::b:=by
   cases ls with
   | nil=>exact⟨w,[],rfl⟩
   | cons a b=>exact⟨a,b++[w],rfl⟩
  have e2:Bd ⟨[],[]⟩ 0 x=match Oc x with
    | none=>.error 1
    | some n=>.ok ⟨n,[]⟩:=by
   unfold Bd
   rw[if_pos rfl]
  rw[h]
  dsimp only
  rw[← h]
  cases hn:Oc x with
  | none =>
   rw[C1 (k:=1) (by rw[e2,hn])]
   rfl
  | some n =>
   dsimp only
   rw[Rq ls 1 [] w,DT (s':=⟨n,[]⟩) (by rw[e2,hn]),TN n ls 0 []]
   cases Bo (fun s _ l=>DG s l) (0+1) [] ls with
   | error e=>rfl
   | ok p =>
    show Except.map _ (Md w (1+ls.length) p)=En w (ls.length+1) ⟨n,p⟩
    unfold Md En
    rw[Nat.add_comm]
    split <;> rfl
structure BS where
 name:Bytes
 entries:List BQ
def Ci (L:AU) (past:List BQ) (line:Bytes):Except Nat (List BQ):=match Fe line with
 | none=>.error 1
 | some (n,m)=>match L.entryRow past n with
  | .error k=>.error k
  | .ok row=>.ok (past++[⟨row,m⟩])
def Me (w:Bytes) (n:Nat) (p:List BQ):Except Fault (List BQ):=if w=[] then .ok p else .error (1,n)
theorem Ro (L:AU):∀(ls:List Bytes) (i:Nat) (past:List BQ) (w:Bytes),L.judgeEntries i past (ls++[w])=Jz (Me w (i+ls.length)) (Bo (fun s _ l=>Ci L s l) i past ls)
 | [],i,past,w=>rfl
 | x::ls,i,past,w=>by
  have ne:ls++[w]≠[]:=by simp
  have e:L.judgeEntries i past (x::(ls++[w]))=match Fe x with
    | none=>.error (1,i)
    | some (n,m)=>match L.entryRow past n with
     | .error k=>.error (k,i)
     | .ok row=>L.judgeEntries (i+1) (past++[⟨row,m⟩]) (ls++[w]):=by
   cases h:ls++[w] with
   | nil=>exact absurd h ne
   | cons a b=>rfl
  rw[GX,e]
  cases h1:Fe x with
  | none =>
   rw[C1 (k:=1) (by unfold Ci;rw[h1])]
   rfl
  | some y =>
   obtain⟨n,m⟩:=y
   dsimp only
   cases h2:L.entryRow past n with
   | error e =>
    rw[C1 (k:=e) (by unfold Ci;rw[h1];dsimp only;rw[h2])]
    rfl
   | ok row =>
    dsimp only
    rw[DT (s':=past++[⟨row,m⟩]) (by unfold Ci;rw[h1];dsimp only;rw[h2]),Ro L ls (i+1) _ w,show i+1+ls.length=i+(ls.length+1) by omega]
    rfl
def BU (L:AU) (s:BS) (i:Nat) (line:Bytes):Except Nat BS :=
 if 2≤i then (Ci L s.entries line).map fun l=>⟨s.name,l⟩
 else if i=0 then (match CF (A8 "book") line with
  | none=>.error 1
  | some n=>.ok ⟨n,s.entries⟩)
 else match CF (A8 "for") line with
  | none=>.error 1
  | some o=>if o≠L.name then .error 2 else .ok s
theorem TM (L:AU) (n:Bytes):∀(ls:List Bytes) (i:Nat) (past:List BQ),Bo (BU L) (i+2) ⟨n,past⟩ ls=(Bo (fun s _ l=>Ci L s l) (i+2) past ls).map fun k=>⟨n,k⟩
 | [],_,_=>rfl
 | w::ls,i,past=>by
  have e:BU L ⟨n,past⟩ (i+2) w=(Ci L past w).map fun k=>⟨n,k⟩:=by
   unfold BU
   rw[if_pos (by omega)]
  cases h:Ci L past w with
  | error k =>
   rw[C1 (k:=k) (by rw[e,h];rfl),C1 (k:=k) h]
   rfl
  | ok p =>
   rw[DT (s':=⟨n,p⟩) (by rw[e,h];rfl),DT (s':=p) h]
   exact TM L n ls (i+1) p
def Em (w:Bytes) (n:Nat) (s:BS):Except Fault GP:=if w≠[] then .error (1,n) else if n < 2 then .error (1,n) else .ok ⟨s.name,s.entries⟩
theorem Zp (L:AU) (t:Bytes):L.judgeBook t=Jz (Em (Bt t) (Al t).length) (Bo (BU L) 0 ⟨[],[]⟩ (Al t)):=by
 unfold WU
 rw[IB]
 generalize Al t=ls
 generalize Bt t=w
 have s0:∀(s:BS) (x:Bytes),BU L s 0 x=match CF (A8 "book") x with
   | none=>.error 1
   | some n=>.ok ⟨n,s.entries⟩:=fun s x=>by
  unfold BU
  rw[if_neg (by omega),if_pos rfl]
 have s1:∀(s:BS) (x:Bytes),BU L s (0+1) x=match CF (A8 "for") x with
   | none=>.error 1
   | some o=>if o≠L.name then .error 2 else .ok s:=fun s x=>by
  unfold BU
  rw[if_neg (by omega),if_neg (by omega)]
 match ls with
 | [] =>
  show Ck (1,0)=if w≠[] then Ck (1,0) else if 0 < 2 then Ck (1,0) else _
  rw[if_pos (by omega:0 < 2)]
  split <;> rfl
 | [x] =>
  show(match CF (A8 "book") x with
   | none=>(Ck (1,0):Except Fault GP)
   | some n=>Ck (1,1))=_
  cases hn:CF (A8 "book") x with
  | none =>
   rw[C1 (k:=1) (by rw[s0,hn])]
   rfl
  | some n =>
   rw[DT (s':=⟨n,[]⟩) (by rw[s0,hn])]
   show Ck (1,1)=if w≠[] then Ck (1,1) else if 1 < 2 then Ck (1,1) else _
   rw[if_pos (by omega:1 < 2)]
   split <;> rfl
 | x::y::ls =>
  have e1:(x::y::ls)++[w]=x::y::(ls++[w]):=rfl
  rw[e1]
  have ne:(ls++[w]).isEmpty=false:=by cases ls <;> rfl
  show(match CF (A8 "book") x with
   | none=>(Ck (1,0):Except Fault GP)
   | some n=>if (ls++[w]).isEmpty=true then Ck (1,1) else match CF (A8 "for") y with
    | none=>Ck (1,1)
    | some o=>if o≠L.name then Ck (2,1) else (L.judgeEntries 2 [] (ls++[w])).map fun l=>(⟨n,l⟩:GP))=_
  cases hn:CF (A8 "book") x with
  | none =>
   rw[C1 (k:=1) (by rw[s0,hn])]
   rfl
  | some n =>
   dsimp only
   rw[ne,if_neg Aj,DT (s':=⟨n,[]⟩) (by rw[s0,hn])]
   cases ho:CF (A8 "for") y with
   | none =>
    rw[C1 (k:=1) (by rw[s1,ho])]
    rfl
   | some o =>
    dsimp only
    by_cases hq:o≠L.name
    ·rw[if_pos hq,C1 (k:=2) (by rw[s1,ho];exact if_pos hq)]
     rfl
    ·rw[if_neg hq,Ro L ls 2 [] w,DT (s':=⟨n,[]⟩) (by rw[s1,ho];exact if_neg hq),TM L n ls 0 []]
     cases Bo (fun s _ l=>Ci L s l) (0+2) [] ls with
     | error e=>rfl
     | ok p =>
      show Except.map _ (Me w (2+ls.length) p)=Em w (ls.length+2) ⟨n,p⟩
      unfold Me Em
      rw[if_neg (show ¬ls.length+2 < 2 by omega)]
      by_cases hw:w=[]
      ·rw[if_pos hw,if_neg (fun q=>q hw)];rfl
      ·rw[if_neg hw,if_pos hw,Nat.add_comm];rfl
end Fb
end
section
set_option maxRecDepth 100000
namespace Fb
open Flags (Bytes cutAt)
def Dx (most:Int):List Int→Int
 | [c]=>if 1≤c - 48∧c - 48≤most then c - 48 else 0
 | _=>0
theorem Nz {most n:Nat}{w:Bytes} (h:Fd most w=some n):Dx (most:Int) (zs w)=(n:Int)∧1≤n:=by
 unfold Fd at h
 split at h
 ·rename_i c
  split at h
  ·rename_i q
   cases h
   show(if 1≤(c.toNat:Int) - 48∧(c.toNat:Int) - 48≤most then (c.toNat:Int) - 48 else 0)=_∧_
   rw[if_pos (by omega)]
   omega
  ·cases h
 ·cases h
theorem VL {most:Nat}{w:Bytes} (h:Fd most w=none):Dx (most:Int) (zs w)=0:=by
 match w,h with
 | [],_=>rfl
 | [c],h =>
  have h:(if 49≤c.toNat∧c.toNat≤48+most then some (c.toNat - 48) else none)=none:=h
  show(if 1≤(c.toNat:Int) - 48∧(c.toNat:Int) - 48≤most then (c.toNat:Int) - 48 else 0)=0
  split at h
  ·cases h
  ·rw[if_neg (by omega)]
 | a::b::l,_=>rfl
def digs:List Int:=[48,49,50,51,52,53,54,55,56,57,97,98,99,100,101,102]
theorem Za:∀n:Nat,n < 256→(if 48≤n∧n≤57 then some (n - 48) else if 97≤n∧n≤102 then some (n - 87) else none)=if (n:Int)∈digs then some (digs.idxOf (n:Int)) else none:=by decide +kernel
theorem Mp (c:UInt8):Io c=if (c.toNat:Int)∈digs then some (digs.idxOf (c.toNat:Int)) else none:=Za c.toNat c.toNat_lt
def FN:List Int→Int
 | []=>0
 | b::r=>FN r * 16+(digs.idxOf b:Nat)
def DR (w:List Int):Int:=if w.length≠16∨¬(w.all fun b=>decide (b∈digs))=true then -1 else FN w
theorem V1 (k:Nat) (f:Nat→Nat):∀l:List Nat,(l.map fun i=>k * f i).sum=k * (l.map f).sum
 | []=>by simp
 | a::l=>by
  have ih:=V1 k f l
  simp only[Am,DJ,ih,Nat.mul_add]
theorem SE:∀(l:List Nat),((A0 l.length).map fun i=>l.getD i 0 % 16 * 16 ^ i).sum=l.foldr (fun d acc=>acc * 16+d % 16) 0
 | []=>rfl
 | d::l=>by
  have ih:=SE l
  rw[A9,Fm.range_cons,Am,DJ,CG,Wc,← ih]
  have e:((A0 l.length).map ((fun i=>(d::l).getD i 0 % 16 * 16 ^ i) ∘ fun x=>x+1)).sum=((A0 l.length).map fun i=>16 * (l.getD i 0 % 16 * 16 ^ i)).sum:=Fm.sum_eq fun i _=>by
   show(d::l).getD (i+1) 0 % 16 * 16 ^ (i+1)=_
   rw[List.getD_cons_succ,LU,← Nat.mul_assoc,Nat.mul_comm]
  rw[e,V1]
  show d % 16 * 16 ^ 0+_=_
  omega
theorem SH {f:UInt8→Option Nat}:∀{w:Bytes},w.mapM f=none→∃c∈w,f c=none
 | [],h=>by simp at h
 | c::w,h=>by
  rw[GZ] at h
  cases hc:f c with
  | none=>exact⟨c,AZ,hc⟩
  | some n =>
   rw[hc] at h
   cases hw:w.mapM f with
   | none =>
    obtain⟨d,hd,e⟩:=SH hw
    exact⟨d,Ar _ hd,e⟩
   | some l=>rw[hw] at h;cases h
theorem SI {f:UInt8→Option Nat}:∀{w:Bytes}{l:List Nat},w.mapM f=some l→l.length=w.length∧(∀c∈w,f c≠none)∧l=w.map fun c=>(f c).getD 0
 | [],l,h=>by simp at h;subst h;simp
 | c::w,l,h=>by
  rw[GZ] at h
  cases hc:f c with
  | none=>rw[hc] at h;cases h
  | some n =>
   rw[hc] at h
   cases hw:w.mapM f with
   | none=>rw[hw] at h;cases h
   | some m =>
    rw[hw] at h
    have h:some (n::m)=some l:=h
    cases h
    obtain⟨h1,h2,h3⟩:=SI hw
    refine⟨by simp[h1],fun d hd=>?_,by rw[Am,hc,← h3];rfl⟩
    rcases AY.mp hd with q | q
    ·rw[q,hc];simp
    ·exact h2 d q
theorem SD:∀w:Bytes,(∀c∈w,Io c≠none)→FN (zs w)=(((w.map fun c=>(Io c).getD 0).foldr (fun d acc=>acc * 16+d % 16) 0:Nat):Int)
 | [],_=>rfl
 | c::w,h=>by
  have ih:=SD w fun d hd=>h d (Ar _ hd)
  have hc:=h c AZ
  show FN ((c.toNat:Int)::zs w)=_
  unfold FN
  rw[ih,Am,Wc]
  rw[Mp] at hc ⊢
  split at hc
  ·rename_i hm
   rw[if_pos hm]
   have:digs.idxOf (c.toNat:Int) < 16:=Wj.mpr hm
   simp only[Option.getD_some]
   omega
  ·exact absurd rfl hc
theorem aI {w:Bytes}{n:Nat} (h:HW w=some n):DR (zs w)=(n:Int):=by
 unfold HW at h
 split at h
 ·cases h
 ·rename_i hl
  have hl:w.length=16:=by omega
  cases hm:w.mapM Io with
  | none=>rw[hm] at h;cases h
  | some l =>
   rw[hm] at h
   have h:some (Ob fun i=>l.getD i 0)=some n:=h
   have h:=AV h
   subst h
   obtain⟨h1,h2,h3⟩:=SI hm
   unfold DR
   rw[if_neg]
   ·rw[SD w h2,← h3,← SE,h1,hl]
    rfl
   ·rintro(q | q)
    ·exact q (by rw[A6,hl])
    ·apply q
     rw[C7]
     intro b hb
     obtain⟨c,hc,rfl⟩:=BD.mp hb
     have:=h2 c hc
     rw[Mp] at this
     split at this
     ·rename_i z;exact decide_eq_true z
     ·exact absurd rfl this
theorem aH {w:Bytes} (h:HW w=none):DR (zs w)=-1:=by
 unfold DR
 unfold HW at h
 split at h
 ·rename_i hl
  exact if_pos (.inl (by rw[A6];exact hl))
 ·cases hm:w.mapM Io with
  | some l=>rw[hm] at h;cases h
  | none =>
   obtain⟨c,hc,e⟩:=SH hm
   refine if_pos (.inr fun q=>?_)
   rw[C7] at q
   have:=of_decide_eq_true (q (c.toNat:Int) (BD.mpr ⟨c,hc,rfl⟩))
   rw[Mp,if_pos this] at e
   cases e
def Bn (line:Bytes):Bytes:=(cutAt 32 line).headD []
def DF (line:Bytes):Bytes:=line.drop ((Bn line).length+1)
def ET (line:Bytes):Bool:=(decide ((cutAt 46 (Bn line)).length≤8)&&(cutAt 46 (Bn line)).all Cm)&&Ff (DF line)
theorem Qw (line:Bytes):Fe line=if ET line=true then some (cutAt 46 (Bn line),DF line) else none:=by
 unfold Fe
 cases h:Fh 32 line with
 | none =>
  have e1:=Sj h
  have e2:Bn line=line:=by unfold Bn;rw[e1];rfl
  have e3:DF line=[]:=by unfold DF;rw[e2];exact Iu (by omega)
  have:ET line=false:=by
   unfold ET
   rw[e3]
   exact GO _
  rw[this]
  rfl
 | some y =>
  obtain⟨p,q⟩:=y
  obtain⟨h1,h2⟩:=Sk h
  have e2:Bn line=p:=by
   unfold Bn
   cases hc:cutAt 32 line with
   | nil=>exact absurd hc (Ek 32 line)
   | cons w l =>
    rw[hc] at h1
    have h1:w=p:=by simpa using h1
    exact h1
  have e3:DF line=q:=by
   unfold DF
   rw[e2,h2,List.drop_append]
   simp
  unfold ET
  rw[e2,e3]
  show((Flags.namesIn p).bind fun l=>if Ff q=true then some (l,q) else none)=_
  unfold Flags.namesIn
  by_cases a:(cutAt 46 p).length≤8∧(cutAt 46 p).all Cm=true
  ·have a':(cutAt 46 p).length≤Flags.LONG∧(cutAt 46 p).all Cm=true:=a
   simp only[if_pos a']
   rw[decide_eq_true a.1,a.2]
   rfl
  ·have a':¬((cutAt 46 p).length≤Flags.LONG∧(cutAt 46 p).all Cm=true):=a
   simp only[if_neg a']
   have:(decide ((cutAt 46 p).length≤8)&&(cutAt 46 p).all Cm)=false:=by
    rw[HS]
    intro z
    rw[BC,decide_eq_true_iff] at z
    exact a z
   rw[this,Cr]
   rfl
end Fb
end
section
set_option maxRecDepth 100000
namespace Fb
open Flags (Bytes Fault)
section
variable {S:Type}{step:S→Nat→Bytes→Except Nat S}
theorem Ni:∀{a:List Bytes} (b:List Bytes) {i:Nat}{s s':S},Bo step i s a=.ok s'→Bo step i s (a++b)=Bo step (i+a.length) s' b
 | [],b,i,s,s',h=>by cases h;rfl
 | w::a,b,i,s,s',h=>by
  cases q:step s i w with
  | error k=>rw[C1 q] at h;cases h
  | ok s1 =>
   rw[DT q] at h
   rw[GX,DT q,Ni b h,A9,show i+1+a.length=i+(a.length+1) by omega]
def FZ (step:S→Nat→Bytes→Except Nat S) (s0:S) (ls:List Bytes) (i:Nat) (s:S):Prop:=i≤ls.length∧Bo step 0 s0 (ls.take i)=.ok s
noncomputable def rAt (step:S→Nat→Bytes→Except Nat S) (s0:S) (ls:List Bytes) (i:Nat):Int:=match Bo step 0 s0 (ls.take i),ls[i]? with
 | .ok s,some w=>(match step s i w with
  | .error k=>(k:Int)
  | .ok _=>0)
 | _,_=>0
theorem Vv {s0:S}{ls:List Bytes}:FZ step s0 ls 0 s0:=⟨Au _,by rw[O0];rfl⟩
theorem Kf {s0 s:S}{ls:List Bytes}{i:Nat}{w:Bytes} (h:FZ step s0 ls i s) (hw:ls[i]?=some w):rAt step s0 ls i=match step s i w with
  | .error k=>(k:Int)
  | .ok _=>0:=by
 unfold rAt
 rw[h.2,hw]
theorem OK:∀{l:List Bytes}{i:Nat}{x:Bytes},l[i]?=some x→l.take (i+1)=l.take i++[x]
 | [],i,x,h=>by simp at h
 | a::l,0,x,h=>by
  have e:a=x:=AV h
  subst e
  rfl
 | a::l,i+1,x,h=>by
  have ih:=OK (l:=l) (i:=i) (x:=x) h
  show a::l.take (i+1)=a::l.take i++[x]
  rw[ih]
  rfl
theorem Vu {s0 s s':S}{ls:List Bytes}{i:Nat}{w:Bytes} (h:FZ step s0 ls i s) (hw:ls[i]?=some w) (hs:step s i w=.ok s'):FZ step s0 ls (i+1) s':=by
 have hl:i < ls.length:=(Be.mp hw).1
 refine⟨hl,?_⟩
 rw[OK hw,Ni [w] h.2,Cn,O3 (by omega),Ed,DT hs]
 rfl
theorem Kk {s0 s:S}{ls:List Bytes} (h:FZ step s0 ls ls.length s):Bo step 0 s0 ls=.ok s:=by
 have:=h.2
 rwa [LI] at this
theorem TU {s0 s:S}{ls:List Bytes}{i k:Nat}{w:Bytes} (h:FZ step s0 ls i s) (hw:ls[i]?=some w) (hs:step s i w=.error k):Bo step 0 s0 ls=.error (k,i):=by
 have hl:i < ls.length:=(Be.mp hw).1
 have e:ls=ls.take i++(w::ls.drop (i+1)):=by
  have q:=List.take_append_drop i ls
  rw[Ir hl] at q
  have:ls[i]=w:=by
   have:=As hl
   rw[hw] at this
   exact(AV this).symm
  rw[this] at q
  exact q.symm
 rw[e,Ni _ h.2,Cn,O3 (by omega),Ed,C1 hs]
end
end Fb
end
section
namespace Fm
open Flags
end Fm
end
section
namespace Fb
end Fb
end
section
set_option maxRecDepth 100000
namespace Fm
open Flags
theorem Cj {α:Type} [DecidableEq α] (f:α→Nat) (a:α):∀{l:List α},l.Nodup→a∈l→(l.map f).sum=f a+((l.filter fun x=>decide (x≠a)).map f).sum
 | x::l,hn,ha=>by
  obtain⟨n1,n2⟩:=Dd.mp hn
  by_cases e:x=a
  ·subst e
   have hf:(l.filter fun y=>decide (y≠x))=l:=WZ.mpr fun y hy=>decide_eq_true fun q=>n1 (q▸hy)
   rw[LC (by simp),hf,Am,DJ]
  ·have ha':a∈l:=(AY.mp ha).elim (fun q=>absurd q.symm e) id
   have ih:=Cj f a n2 ha'
   rw[Oh (by simpa using e),Am,DJ,Am,DJ,ih]
   omega
theorem E2 {α:Type} [DecidableEq α] {f g:α→Nat}{a:α}{l:List α} (h:∀x∈l,x≠a→f x=g x):((l.filter fun x=>decide (x≠a)).map f).sum=((l.filter fun x=>decide (x≠a)).map g).sum :=
 sum_eq fun x hx=>by
  obtain⟨h1,h2⟩:=C9.mp hx
  exact h x h1 (by simpa using h2)
def cs (l:List Spot) (s:Nat):Nat:=(l.filter fun (p:Spot)=>p.sign==s).length
def lkF (c:Nat→Nat) (l:List Spot) (s:Nat):Nat:=cs l s - c s
def nnY (Y:Nat→Bool) (l:List Spot) (s:Nat):Nat:=(l.filter fun (p:Spot)=>p.sign==s&&p.may.any Y).length
def Di (K:List Nat) (Y:Nat→Bool) (c:Nat→Nat):Nat:=(K.map fun k=>if Y k=true then 0 else c k).sum
def Ok (K S:List Nat) (c:Nat→Nat) (l:List Spot):Prop:=∀Y:Nat→Bool,(S.map (lkF c l)).sum≤Di K Y c+(S.map fun s=>min (lkF c l s) (nnY Y l s)).sum
def dec (c:Nat→Nat) (f:Nat):Nat→Nat:=fun k=>if k=f then c f - 1 else c k
theorem IC (c:Nat→Nat) (f:Nat):dec c f f=c f - 1:=if_pos rfl
theorem DQ {c:Nat→Nat}{f k:Nat} (h:k≠f):dec c f k=c k:=if_neg h
theorem IA {p:Spot}{l:List Spot}:cs (p::l) p.sign=cs l p.sign+1:=by
 unfold cs
 rw[Oh (by simp),A9]
theorem Qb {p:Spot}{l:List Spot}{s:Nat} (h:s≠p.sign):cs (p::l) s=cs l s:=by
 unfold cs
 rw[LC (by simpa using fun q=>h q.symm)]
theorem G9 {Y:Nat→Bool}{p:Spot}{l:List Spot}{s:Nat} (h:s≠p.sign):nnY Y (p::l) s=nnY Y l s:=by
 unfold nnY
 rw[LC]
 have:(p.sign==s)=false:=beq_eq_false_iff_ne.mpr fun q=>h q.symm
 rw[this];simp
theorem NP {Y:Nat→Bool}{p:Spot}{l:List Spot} (h:p.may.any Y=true):nnY Y (p::l) p.sign=nnY Y l p.sign+1:=by
 unfold nnY
 rw[Oh (by simpa using h),A9]
theorem IV {Y:Nat→Bool}{p:Spot}{l:List Spot} (h:p.may.any Y=false):nnY Y (p::l) p.sign=nnY Y l p.sign:=by
 unfold nnY
 rw[LC (by rw[h];simp)]
theorem SU {Y:Nat→Bool}{l:List Spot}{s:Nat}:nnY Y l s≤cs l s:=J3 fun p _ h=>by
 rw[BC] at h
 exact h.1
theorem a7 {Y:Nat→Bool}{l:List Spot}{s:Nat} (h:∀p∈l,p.sign=s→p.may.any Y=true):nnY Y l s=cs l s :=
 Wu SU (J3 fun p hp q=>by
  rw[BC]
  exact⟨q,h p hp (by simpa using q)⟩)
theorem NN {Y Z:Nat→Bool}{l:List Spot}{s:Nat} (h:∀p∈l,p.sign=s→p.may.any Y=true→p.may.any Z=true):nnY Y l s≤nnY Z l s:=J3 fun p hp q=>by
 rw[BC] at q ⊢
 exact⟨q.1,h p hp (by simpa using q.1) q.2⟩
theorem any_iff {l:List Nat}{Y:Nat→Bool}:l.any Y=true↔∃k∈l,Y k=true:=Iq
structure Nest (K S:List Nat) (l:List Spot):Prop where
 kn:K.Nodup
 sn:S.Nodup
 inS:∀p∈l,p.sign∈S
 inK:∀p∈l,∀k∈p.may,k∈K
 dis:∀s∈S,s∉K
 up:l.Pairwise fun p q=>p.sign=q.sign→∀k∈p.may,k∈q.may
 one:∀p∈l,∀q∈l,∀k,k∈p.may→k∈q.may→p.sign=q.sign
 asc:∀p∈l,(p.sign::p.may).Pairwise (· < ·)
theorem Nest.tail {K S:List Nat}{p:Spot}{l:List Spot} (h:Nest K S (p::l)):Nest K S l :=
 ⟨h.kn,h.sn,fun q hq=>h.inS q (Ar _ hq),fun q hq=>h.inK q (Ar _ hq),h.dis,(Fp.mp h.up).2,fun q hq r hr=>h.one q (Ar _ hq) r (Ar _ hr),fun q hq=>h.asc q (Ar _ hq)⟩
theorem Nest.out {K S:List Nat}{l:List Spot} (h:Nest K S l) {p:Spot} (hp:p∈l):p.sign∉K:=h.dis _ (h.inS p hp)
theorem Nest.later {K S:List Nat}{p:Spot}{l:List Spot} (h:Nest K S (p::l)) {q:Spot} (hq:q∈l) (e:q.sign=p.sign) {k:Nat} (hk:k∈p.may):k∈q.may:=(Fp.mp h.up).1 q hq e.symm k hk
theorem Hy {K:List Nat} (hn:K.Nodup) {k0:Nat} (hk:k0∈K) (Y:Nat→Bool) (c:Nat→Nat):Di K Y c=(if Y k0=true then 0 else c k0)+((K.filter fun x=>decide (x≠k0)).map fun k=>if Y k=true then 0 else c k).sum:=Cj _ k0 hn hk
theorem MR {K:List Nat}{f:Nat} (h:f∉K) (Y:Nat→Bool) (c:Nat→Nat):Di K Y (dec c f)=Di K Y c:=sum_eq fun k hk=>by
 have e:k≠f:=fun q=>h (by rw[← q];exact hk)
 rw[DQ e]
theorem GG {c:Nat→Nat}{p:Spot}{l:List Spot} (h:0 < c p.sign) (s:Nat):lkF (dec c p.sign) l s=lkF c (p::l) s:=by
 unfold lkF
 by_cases e:s=p.sign
 ·subst e
  rw[IA,IC]
  omega
 ·rw[Qb e,DQ e]
theorem KQ {c:Nat→Nat}{p:Spot}{l:List Spot}{k:Nat} (hk:p.sign≠k):lkF (dec c k) l p.sign=lkF c (p::l) p.sign - 1:=by
 unfold lkF
 rw[IA,DQ hk]
 omega
theorem KP {c:Nat→Nat}{p:Spot}{l:List Spot}{k s:Nat} (hs:s≠p.sign) (hk:s≠k):lkF (dec c k) l s=lkF c (p::l) s:=by
 unfold lkF
 rw[Qb hs,DQ hk]
theorem aE {c:Nat→Nat}{l:List Spot}{s:Nat}:lkF c l s≤cs l s:=Nat.sub_le _ _
def F0:(Nat→Nat)→List Spot→List Nat→Prop
 | _,[],[]=>True
 | c,p::l,f::g=>0 < c f∧(f=p.sign∨(f∈p.may∧0 < lkF c (p::l) p.sign))∧F0 (dec c f) l g
 | _,_,_=>False
theorem Sd {K S:List Nat}{c:Nat→Nat}{p:Spot}{l:List Spot} (N:Nest K S (p::l)) (h0:0 < c p.sign) (h:Ok K S (dec c p.sign) l):Ok K S c (p::l):=fun Y=>by
 have q:=h Y
 rw[MR (N.out AZ)] at q
 have e:(S.map (lkF (dec c p.sign) l))=S.map (lkF c (p::l)):=CY fun s _=>GG h0 s
 rw[e] at q
 refine Bp q (Hf (Ie fun s _=>?_) _)
 rw[GG h0 s]
 have:nnY Y l s≤nnY Y (p::l) s:=by
  by_cases e:s=p.sign
  ·subst e
   cases hy:p.may.any Y with
   | true=>rw[NP hy];omega
   | false=>rw[IV hy];exact AO _
  ·rw[G9 e];exact AO _
 omega
theorem Sb {K S:List Nat}{c:Nat→Nat}{p:Spot}{l:List Spot} (N:Nest K S (p::l)) {k:Nat} (hk:k∈p.may) (h0:0 < c k) (hl:0 < lkF c (p::l) p.sign) (h:Ok K S (dec c k) l):Ok K S c (p::l):=fun Y=>by
 have q:=h Y
 have hkK:=N.inK p AZ k hk
 have hsS:=N.inS p AZ
 have hks:p.sign≠k:=fun e=>N.out AZ (e▸hkK)
 have hsk:∀s∈S,s≠p.sign→lkF (dec c k) l s=lkF c (p::l) s:=fun s hs e=>KP e fun z=>N.dis s hs (z▸hkK)
 have eA:((S.filter fun x=>decide (x≠p.sign)).map (lkF (dec c k) l)).sum=((S.filter fun x=>decide (x≠p.sign)).map (lkF c (p::l))).sum:=E2 hsk
 have eB:((S.filter fun x=>decide (x≠p.sign)).map fun s=>min (lkF (dec c k) l s) (nnY Y l s)).sum=((S.filter fun x=>decide (x≠p.sign)).map fun s=>min (lkF c (p::l) s) (nnY Y (p::l) s)).sum:=E2 fun s hs e=>by rw[hsk s hs e,G9 e]
 have eC:((K.filter fun x=>decide (x≠k)).map fun x=>if Y x=true then 0 else dec c k x).sum=((K.filter fun x=>decide (x≠k)).map fun x=>if Y x=true then 0 else c x).sum:=E2 fun x _ e=>by rw[DQ e]
 rw[Cj _ p.sign N.sn hsS,Cj (fun s=>min (lkF (dec c k) l s) (nnY Y l s)) p.sign N.sn hsS,eA,eB,KQ hks,Hy N.kn hkK,eC,IC] at q
 rw[Cj _ p.sign N.sn hsS,Cj (fun s=>min (lkF c (p::l) s) (nnY Y (p::l) s)) p.sign N.sn hsS,Hy N.kn hkK]
 generalize ((S.filter fun x=>decide (x≠p.sign)).map (lkF c (p::l))).sum=A at q ⊢
 generalize ((S.filter fun x=>decide (x≠p.sign)).map fun s=>min (lkF c (p::l) s) (nnY Y (p::l) s)).sum=B at q ⊢
 generalize ((K.filter fun x=>decide (x≠k)).map fun x=>if Y x=true then 0 else c x).sum=C at q ⊢
 cases hy:Y k with
 | true =>
  rw[hy] at q
  rw[NP (any_iff.mpr ⟨k,hk,hy⟩)]
  simp only[if_true] at q ⊢
  omega
 | false =>
  rw[hy] at q
  have:nnY Y l p.sign≤nnY Y (p::l) p.sign:=by
   cases hz:p.may.any Y with
   | true=>rw[NP hz];omega
   | false=>rw[IV hz];exact AO _
  simp only[CW,if_false] at q ⊢
  omega
theorem KU {K S:List Nat}:∀{l:List Spot}{c:Nat→Nat}{g:List Nat},Nest K S l→F0 c l g→Ok K S c l
 | [],c,[],N,_=>fun Y=>by
  have:(S.map (lkF c [])).sum=0:=by
   rw[show S.map (lkF c [])=S.map fun _=>0 from CY fun s _=>LX _]
   exact HL S
  omega
 | p::l,c,f::g,N,h=>by
  obtain⟨h0,h1,h2⟩:=h
  have ih:=KU N.tail h2
  rcases h1 with rfl | ⟨h1,h3⟩
  ·exact Sd N h0 ih
  ·exact Sb N h1 h0 h3 ih
 | [],c,_::_,_,h=>nomatch h
 | _::_,c,[],_,h=>nomatch h
theorem aX {S:List Nat}{f g:Nat→Nat}:(S.map fun s=>min (f s) (g s)).sum≤(S.map f).sum:=Ie fun s _=>O4 _ _
theorem eE {K S:List Nat}{c:Nat→Nat}{p:Spot}{l:List Spot} (N:Nest K S (p::l)) (h:Ok K S c (p::l)) (hl:lkF c (p::l) p.sign=0):0 < c p.sign∧Ok K S (dec c p.sign) l:=by
 have h0:0 < c p.sign:=by
  unfold lkF at hl
  rw[IA] at hl
  omega
 refine⟨h0,fun Y=>?_⟩
 have q:=h Y
 have e1:S.map (lkF (dec c p.sign) l)=S.map (lkF c (p::l)):=CY fun s _=>GG h0 s
 have e2:(S.map fun s=>min (lkF (dec c p.sign) l s) (nnY Y l s))=S.map fun s=>min (lkF c (p::l) s) (nnY Y (p::l) s):=CY fun s _=>by
  rw[GG h0 s]
  by_cases e:s=p.sign
  ·rw[e,hl,JK,JK]
  ·rw[G9 e]
 rw[MR (N.out AZ),e1,e2]
 exact q
theorem d9 {K S:List Nat}{c:Nat→Nat}{p:Spot}{l:List Spot} (N:Nest K S (p::l)) (h:Ok K S c (p::l)) (hl:0 < lkF c (p::l) p.sign) {k:Nat} (hk:k∈p.may) (h0:0 < c k):Ok K S (dec c k) l:=fun Y=>by
 have hkK:=N.inK p AZ k hk
 have hsS:=N.inS p AZ
 have hks:p.sign≠k:=fun e=>N.out AZ (e▸hkK)
 have hsk:∀s∈S,s≠p.sign→lkF (dec c k) l s=lkF c (p::l) s:=fun s hs e=>KP e fun z=>N.dis s hs (z▸hkK)
 have eA:((S.filter fun x=>decide (x≠p.sign)).map (lkF (dec c k) l)).sum=((S.filter fun x=>decide (x≠p.sign)).map (lkF c (p::l))).sum:=E2 hsk
 have eB:((S.filter fun x=>decide (x≠p.sign)).map fun s=>min (lkF (dec c k) l s) (nnY Y l s)).sum=((S.filter fun x=>decide (x≠p.sign)).map fun s=>min (lkF c (p::l) s) (nnY Y (p::l) s)).sum:=E2 fun s hs e=>by rw[hsk s hs e,G9 e]
 have eC:((K.filter fun x=>decide (x≠k)).map fun x=>if Y x=true then 0 else dec c k x).sum=((K.filter fun x=>decide (x≠k)).map fun x=>if Y x=true then 0 else c x).sum:=E2 fun x _ e=>by rw[DQ e]
 rw[Cj _ p.sign N.sn hsS,Cj (fun s=>min (lkF (dec c k) l s) (nnY Y l s)) p.sign N.sn hsS,eA,eB,KQ hks,Hy N.kn hkK,eC,IC]
 have q:=h Y
 rw[Cj _ p.sign N.sn hsS,Cj (fun s=>min (lkF c (p::l) s) (nnY Y (p::l) s)) p.sign N.sn hsS,Hy N.kn hkK] at q
 have hcs:lkF c (p::l) p.sign≤cs l p.sign+1:=by
  have:=aE (c:=c) (l:=p::l) (s:=p.sign)
  rw[IA] at this
  exact this
 have all:p.may.any Y=true→nnY Y l p.sign=cs l p.sign:=fun z=>a7 fun r hr e=>by
  obtain⟨x,hx,hy⟩:=any_iff.mp z
  exact any_iff.mpr ⟨x,N.later hr e hx,hy⟩
 cases hy:Y k with
 | true =>
  have e:=all (any_iff.mpr ⟨k,hk,hy⟩)
  have m:=O4 (lkF c (p::l) p.sign) (nnY Y (p::l) p.sign)
  rw[hy] at q
  generalize ((S.filter fun x=>decide (x≠p.sign)).map (lkF c (p::l))).sum=A at q ⊢
  generalize ((S.filter fun x=>decide (x≠p.sign)).map fun s=>min (lkF c (p::l) s) (nnY Y (p::l) s)).sum=B at q ⊢
  generalize ((K.filter fun x=>decide (x≠k)).map fun x=>if Y x=true then 0 else c x).sum=C at q ⊢
  simp only[if_true] at q ⊢
  rw[e]
  omega
 | false =>
  have z:=h fun x=>Y x || x==k
  have zB:((S.filter fun x=>decide (x≠p.sign)).map fun s=>min (lkF c (p::l) s) (nnY (fun x=>Y x || x==k) (p::l) s)).sum=((S.filter fun x=>decide (x≠p.sign)).map fun s=>min (lkF c (p::l) s) (nnY Y (p::l) s)).sum:=E2 fun s _ e=>by
   have:nnY (fun x=>Y x || x==k) (p::l) s=nnY Y (p::l) s:=Wu (NN fun r hr es w=>by
    obtain⟨x,hx,hw⟩:=any_iff.mp w
    rcases(K2 _ _).mp hw with hw | hw
    ·exact any_iff.mpr ⟨x,hx,hw⟩
    ·have ex:x=k:=by simpa using hw
     exact absurd ((N.one r hr p AZ k (ex▸hx) hk).symm.trans es) (Af e)) (NN fun r hr es w=>by
    obtain⟨x,hx,hw⟩:=any_iff.mp w
    exact any_iff.mpr ⟨x,hx,by rw[hw];rfl⟩)
   rw[this]
  have zC:((K.filter fun x=>decide (x≠k)).map fun x=>if (Y x || x==k)=true then 0 else c x).sum=((K.filter fun x=>decide (x≠k)).map fun x=>if Y x=true then 0 else c x).sum:=E2 fun x _ e=>by
   have:(x==k)=false:=beq_eq_false_iff_ne.mpr e
   rw[this,OV]
  rw[Cj _ p.sign N.sn hsS,Cj (fun s=>min (lkF c (p::l) s) (nnY (fun x=>Y x || x==k) (p::l) s)) p.sign N.sn hsS,Hy N.kn hkK,zB,zC,if_pos (show(Y k || k==k)=true by simp)] at z
  have m:=O4 (lkF c (p::l) p.sign) (nnY (fun x=>Y x || x==k) (p::l) p.sign)
  rw[hy] at q
  generalize ((S.filter fun x=>decide (x≠p.sign)).map (lkF c (p::l))).sum=A at q z ⊢
  generalize ((S.filter fun x=>decide (x≠p.sign)).map fun s=>min (lkF c (p::l) s) (nnY Y (p::l) s)).sum=B at q z ⊢
  generalize ((K.filter fun x=>decide (x≠k)).map fun x=>if Y x=true then 0 else c x).sum=C at q z ⊢
  simp only[CW,if_false] at q ⊢
  cases hp:p.may.any Y with
  | true =>
   rw[all hp]
   omega
  | false =>
   rw[IV hp] at q
   omega
theorem eD {K S:List Nat}{c:Nat→Nat}{p:Spot}{l:List Spot} (N:Nest K S (p::l)) (h:Ok K S c (p::l)) (hl:0 < lkF c (p::l) p.sign) (hno:∀k∈p.may,c k=0):0 < c p.sign∧Ok K S (dec c p.sign) l:=by
 have hsS:=N.inS p AZ
 have h0:0 < c p.sign:=by
  have q:=h fun x=>!p.may.contains x
  have e1:Di K (fun x=>!p.may.contains x) c=0:=by
   unfold Di
   rw[show(K.map fun k=>if (!p.may.contains k)=true then 0 else c k)=K.map fun _=>0 from CY fun k _=>by
    by_cases hm:k∈p.may
    ·rw[hno k hm];simp
    ·have:p.may.contains k=false:=by simpa using hm
     rw[this];simp]
   exact HL K
  have e2:p.may.any (fun x=>!p.may.contains x)=false:=by
   cases z:p.may.any (fun x=>!p.may.contains x) with
   | false=>rfl
   | true =>
    obtain⟨x,hx,hw⟩:=any_iff.mp z
    have:p.may.contains x=true:=by simpa using hx
    rw[this] at hw
    cases hw
  have e3:((S.filter fun x=>decide (x≠p.sign)).map fun s=>min (lkF c (p::l) s) (nnY (fun x=>!p.may.contains x) (p::l) s)).sum≤((S.filter fun x=>decide (x≠p.sign)).map (lkF c (p::l))).sum:=aX
  rw[Cj _ p.sign N.sn hsS,Cj (fun s=>min (lkF c (p::l) s) (nnY (fun x=>!p.may.contains x) (p::l) s)) p.sign N.sn hsS,e1,IV e2] at q
  have e4:=SU (Y:=fun x=>!p.may.contains x) (l:=l) (s:=p.sign)
  have e5:lkF c (p::l) p.sign=cs l p.sign+1 - c p.sign:=by unfold lkF;rw[IA]
  omega
 refine⟨h0,fun Y=>?_⟩
 have q:=h fun x=>Y x&&!p.may.contains x
 have e1:S.map (lkF (dec c p.sign) l)=S.map (lkF c (p::l)):=CY fun s _=>GG h0 s
 have e2:Di K (fun x=>Y x&&!p.may.contains x) c=Di K Y c:=sum_eq fun k _=>by
  by_cases hm:k∈p.may
  ·rw[hno k hm];simp
  ·have:p.may.contains k=false:=by simpa using hm
   show(if (Y k&&!p.may.contains k)=true then 0 else c k)=_
   rw[this];simp
 have e3:p.may.any (fun x=>Y x&&!p.may.contains x)=false:=by
  cases z:p.may.any (fun x=>Y x&&!p.may.contains x) with
  | false=>rfl
  | true =>
   obtain⟨x,hx,hw⟩:=any_iff.mp z
   have:p.may.contains x=true:=by simpa using hx
   rw[this] at hw
   simp at hw
 rw[MR (N.out AZ),e1]
 rw[e2] at q
 refine Bp q (Hf (Ie fun s _=>?_) _)
 rw[GG h0 s]
 have mono:nnY (fun x=>Y x&&!p.may.contains x) l s≤nnY Y l s:=NN fun r _ _ w=>by
  obtain⟨x,hx,hw⟩:=any_iff.mp w
  exact any_iff.mpr ⟨x,hx,((BC _ _).mp hw).1⟩
 have:nnY (fun x=>Y x&&!p.may.contains x) (p::l) s=nnY (fun x=>Y x&&!p.may.contains x) l s:=by
  by_cases e:s=p.sign
  ·subst e;exact IV e3
  ·exact G9 e
 rw[this]
 omega
theorem Jj {K S:List Nat}:∀{l:List Spot}{c:Nat→Nat},Nest K S l→Ok K S c l→∃g,F0 c l g
 | [],c,_,_=>⟨[],trivial⟩
 | p::l,c,N,h=>by
  by_cases hl:lkF c (p::l) p.sign=0
  ·obtain⟨h0,h1⟩:=eE N h hl
   obtain⟨g,hg⟩:=Jj N.tail h1
   exact⟨p.sign::g,h0,.inl rfl,hg⟩
  ·have hl:0 < lkF c (p::l) p.sign:=Ww hl
   by_cases hk:∃k∈p.may,0 < c k
   ·obtain⟨k,hk,h0⟩:=hk
    obtain⟨g,hg⟩:=Jj N.tail (d9 N h hl hk h0)
    exact⟨k::g,h0,.inr ⟨hk,hl⟩,hg⟩
   ·obtain⟨h0,h1⟩:=eD N h hl fun k hm=>Nat.eq_zero_of_not_pos fun z=>hk ⟨k,hm,z⟩
    obtain⟨g,hg⟩:=Jj N.tail h1
    exact⟨p.sign::g,h0,.inl rfl,hg⟩
end Fm
end
section
set_option maxRecDepth 100000
namespace Fm
open Flags
theorem OD {f:Nat→Nat}:∀{T S:List Nat},S.Nodup→T.Nodup→(∀t∈T,t∈S)→(∀s∈S,s∉T→f s=0)→(S.map f).sum=(T.map f).sum
 | [],S,_,_,_,h=>by
  rw[show S.map f=S.map fun _=>0 from CY fun s hs=>h s hs Eb]
  exact HL S
 | t::T,S,hs,ht,hsub,h=>by
  obtain⟨t1,t2⟩:=Dd.mp ht
  rw[Cj f t hs (hsub t AZ),Am,DJ]
  have e:=OD (f:=f) (T:=T) (S:=S.filter fun x=>decide (x≠t)) (hs.sublist LD) t2 (fun x hx=>C9.mpr ⟨hsub x (Ar _ hx),decide_eq_true (fun (q:x=t)=>t1 (by rw[← q];exact hx))⟩) fun s hs' hn=>by
   obtain⟨m1,m2⟩:=C9.mp hs'
   exact h s m1 fun q=>(AY.mp q).elim (fun z=>(of_decide_eq_true m2) z) hn
  rw[e]
def cOf (left:List Nat):Nat→Nat:=fun k=>left.getD k 0
theorem Yj {l:List Spot}{s:Nat} (h:∀p∈l,p.sign≠s):cs l s=0:=by
 unfold cs
 rw[JB,Iy]
 intro p hp
 simpa using h p hp
theorem Mf {L:Locker}{left:List Nat}{l:List Spot}{S:List Nat} (N:Nest L.sameKinds S l):L.enough left l=true↔Ok L.sameKinds S (cOf left) l:=by
 have hd:((l.map fun (p:Spot)=>p.sign).eraseDups).Nodup:=NR _ _ (AO _)
 have sub:∀t∈(l.map fun (p:Spot)=>p.sign).eraseDups,t∈S:=fun t ht=>by
  obtain⟨p,hp,rfl⟩:=BD.mp (JE.mp ht)
  exact N.inS p hp
 have zero:∀s∈S,s∉(l.map fun (p:Spot)=>p.sign).eraseDups→lkF (cOf left) l s=0:=fun s _ hn=>by
  unfold lkF
  rw[Yj fun p hp e=>hn (JE.mpr (BD.mpr ⟨p,hp,e⟩)),LX]
 have e1:((l.map fun (p:Spot)=>p.sign).eraseDups.map (lacks left l)).sum=(S.map (lkF (cOf left) l)).sum:=(OD N.sn hd sub zero).symm
 have e2:∀Y:Nat→Bool,((l.map fun (p:Spot)=>p.sign).eraseDups.map fun s=>min (lkF (cOf left) l s) (nnY Y l s)).sum=(S.map fun s=>min (lkF (cOf left) l s) (nnY Y l s)).sum:=fun Y=>(OD N.sn hd sub fun s hs hn=>by rw[zero s hs hn,JK]).symm
 have e3:∀Y:Nat→Bool,((L.sameKinds.filter fun k=>!Y k).map fun k=>left.getD k 0).sum=Di L.sameKinds Y (cOf left):=fun Y=>by
  rw[V0]
  refine sum_eq fun k _=>?_
  cases Y k <;> rfl
 unfold Locker.enough
 dsimp only
 rw[C7]
 constructor
 ·intro h Y
  have q:=of_decide_eq_true (h (L.sameKinds.filter Y) (Q9 _))
  rw[e1] at q
  have m:∀k∈L.sameKinds,(L.sameKinds.filter Y).contains k=Y k:=fun k hk=>by
   cases hy:Y k with
   | true=>simpa using C9.mpr ⟨hk,hy⟩
   | false =>
    cases z:(L.sameKinds.filter Y).contains k with
    | false=>rfl
    | true =>
     have:=(C9.mp (contains_mem.mp z)).2
     rw[hy] at this;cases this
  have c1:((L.sameKinds.filter fun k=>!(L.sameKinds.filter Y).contains k).map fun k=>left.getD k 0).sum=Di L.sameKinds Y (cOf left):=by
   rw[← e3 Y]
   congr 2
   exact Iw fun k hk=>by rw[m k hk]
  have c2:((l.map fun (p:Spot)=>p.sign).eraseDups.map fun s=>min (lacks left l s) ((l.filter fun (p:Spot)=>p.sign==s&&p.may.any fun (k:Nat)=>(L.sameKinds.filter Y).contains k).length)).sum=(S.map fun s=>min (lkF (cOf left) l s) (nnY Y l s)).sum:=by
   rw[← e2 Y]
   refine sum_eq fun s _=>?_
   have:(l.filter fun (p:Spot)=>p.sign==s&&p.may.any fun (k:Nat)=>(L.sameKinds.filter Y).contains k)=l.filter fun (p:Spot)=>p.sign==s&&p.may.any Y:=Iw fun p hp=>by
    congr 1
    rw[C5,any_iff,any_iff]
    exact⟨fun ⟨k,hk,z⟩=>⟨k,hk,by rw[← m k (N.inK p hp k hk)];exact z⟩,fun ⟨k,hk,z⟩=>⟨k,hk,by rw[m k (N.inK p hp k hk)];exact z⟩⟩
   rw[this]
   rfl
  rw[c1,c2] at q
  exact q
 ·intro h y _
  have q:=h fun k=>y.contains k
  rw[← e1,← e2,← e3] at q
  exact decide_eq_true q
theorem KL (left:List Nat) (f:Nat):cOf (less1 left f)=dec (cOf left) f:=funext fun k=>by
 unfold cOf less1 dec
 rw[D5,List.getElem?_set]
 by_cases e:f=k
 ·subst e
  rw[if_pos rfl,if_pos rfl]
  by_cases hf:f < left.length
  ·rw[if_pos hf];rfl
  ·rw[if_neg hf]
   show 0=left.getD f 0 - 1
   rw[D5,Wg (by omega)]
   rfl
 ·rw[if_neg e,if_neg fun q=>e q.symm]
  show _=left.getD k 0
  rw[D5]
def G7:List Nat→List Nat→Prop
 | [],[]=>True
 | f::g,f'::g'=>f < f'∨(f=f'∧G7 g g')
 | _,_=>False
theorem R0:∀{g h:List Nat},G7 g h→G7 h g→g=h
 | [],[],_,_=>rfl
 | f::g,f'::g',h1,h2=>by
  rcases h1 with h1 | ⟨e,h1⟩
  ·rcases h2 with h2 | ⟨e,_⟩
   ·omega
   ·omega
  ·rcases h2 with h2 | ⟨_,h2⟩
   ·omega
   ·rw[e,R0 h1 h2]
 | [],_::_,h,_=>nomatch h
 | _::_,[],h,_=>nomatch h
theorem Q7 {L:Locker}{S:List Nat}:∀{l:List Spot}{left:List Nat},Nest L.sameKinds S l→Ok L.sameKinds S (cOf left) l→F0 (cOf left) l (L.fill l left)∧∀g,F0 (cOf left) l g→G7 (L.fill l left) g
 | [],left,_,_=>by
  unfold Locker.fill
  refine⟨trivial,fun g hg=>?_⟩
  cases g with
  | nil=>trivial
  | cons _ _=>exact nomatch hg
 | p::l,left,N,h=>by
  have N':=N.tail
  have cand:∀f,f∈(p.sign::if 0 < lacks left (p::l) p.sign then p.may else []).filter (fun (f:Nat)=>decide (0 < left.getD f 0)&&L.enough (less1 left f) l)↔(0 < cOf left f∧(f=p.sign∨(f∈p.may∧0 < lkF (cOf left) (p::l) p.sign))∧Ok L.sameKinds S (dec (cOf left) f) l):=fun f=>by
   have hl:lacks left (p::l) p.sign=lkF (cOf left) (p::l) p.sign:=rfl
   rw[C9,BC,decide_eq_true_eq,Mf N',KL,AY,hl]
   by_cases z:0 < lkF (cOf left) (p::l) p.sign
   ·rw[if_pos z]
    exact⟨fun ⟨q,a,b⟩=>⟨a,q.imp id fun w=>⟨w,z⟩,b⟩,fun ⟨a,q,b⟩=>⟨q.imp id And.left,a,b⟩⟩
   ·rw[if_neg z]
    exact⟨fun ⟨q,a,b⟩=>⟨a,q.imp id fun w=>(nomatch w),b⟩,fun ⟨a,q,b⟩=>⟨q.imp id fun w=>absurd w.2 z,a,b⟩⟩
  have unf:L.fill (p::l) left=(((p.sign::if 0 < lacks left (p::l) p.sign then p.may else []).filter (fun (f:Nat)=>decide (0 < left.getD f 0)&&L.enough (less1 left f) l)).headD 0)::L.fill l (less1 left (((p.sign::if 0 < lacks left (p::l) p.sign then p.may else []).filter (fun (f:Nat)=>decide (0 < left.getD f 0)&&L.enough (less1 left f) l)).headD 0)):=by
   rw[Locker.fill]
  have asc:((p.sign::if 0 < lacks left (p::l) p.sign then p.may else []).filter (fun (f:Nat)=>decide (0 < left.getD f 0)&&L.enough (less1 left f) l)).Pairwise (· < ·):=by
   refine Oe _ ?_
   have:=N.asc p AZ
   split
   ·exact this
   ·exact Wr _ _
  obtain⟨g0,h0⟩:=Jj N h
  have ne:(p.sign::if 0 < lacks left (p::l) p.sign then p.may else []).filter (fun (f:Nat)=>decide (0 < left.getD f 0)&&L.enough (less1 left f) l)≠[]:=by
   cases g0 with
   | nil=>exact nomatch h0
   | cons f g =>
    obtain⟨a,b,c⟩:=h0
    intro z
    have:=(cand f).mpr ⟨a,b,KU N' c⟩
    rw[z] at this
    cases this
  rw[unf]
  generalize (p.sign::if 0 < lacks left (p::l) p.sign then p.may else []).filter (fun (f:Nat)=>decide (0 < left.getD f 0)&&L.enough (less1 left f) l)=cs0 at cand asc ne ⊢
  cases cs0 with
  | nil=>exact absurd rfl ne
  | cons f fs =>
   obtain⟨a1,_⟩:=Fp.mp asc
   obtain⟨b1,b2,b3⟩:=(cand f).mp AZ
   have e:((f::fs).headD 0)=f:=rfl
   rw[e]
   rw[← KL] at b3
   obtain⟨i1,i2⟩:=Q7 N' b3
   refine⟨⟨b1,b2,by rw[← KL];exact i1⟩,fun g hg=>?_⟩
   cases g with
   | nil=>exact nomatch hg
   | cons f' g' =>
    obtain⟨c1,c2,c3⟩:=hg
    have m:=(cand f').mpr ⟨c1,c2,KU N' c3⟩
    rcases AY.mp m with z | z
    ·subst z
     exact .inr ⟨rfl,i2 g' (by rw[KL];exact c3)⟩
    ·exact .inl (a1 f' z)
end Fm
end
section
set_option maxRecDepth 100000
namespace Fm
open Flags
def CQ:(Nat→Nat)→List Spot→List Nat→Prop
 | _,[],[]=>True
 | c,p::l,f::g=>0 < c f∧(f=p.sign∨f∈p.may)∧CQ (dec c f) l g
 | _,_,_=>False
def ns:List Spot→List Nat→Nat
 | p::l,f::g=>(if f=p.sign then 0 else 1)+ns l g
 | _,_=>0
theorem IS {K S:List Nat}{p:Spot}{l:List Spot} (N:Nest K S (p::l)) {k:Nat} (hk:k∈p.may):k≠p.sign:=fun e=>N.out (AZ (a:=p) (l:=l)) (e▸N.inK p AZ k hk)
theorem M6 {K S:List Nat}{c:Nat→Nat}{p:Spot}{l:List Spot} (h0:0 < c p.sign):(S.map (lkF (dec c p.sign) l)).sum=(S.map (lkF c (p::l))).sum:=sum_eq fun s _=>GG h0 s
theorem M5 {K S:List Nat}{c:Nat→Nat}{p:Spot}{l:List Spot} (N:Nest K S (p::l)) {k:Nat} (hk:k∈p.may):(S.map (lkF c (p::l))).sum=lkF c (p::l) p.sign+((S.filter fun x=>decide (x≠p.sign)).map (lkF c (p::l))).sum∧(S.map (lkF (dec c k) l)).sum=lkF c (p::l) p.sign - 1+((S.filter fun x=>decide (x≠p.sign)).map (lkF c (p::l))).sum:=by
 have hkK:=N.inK p AZ k hk
 have hsS:=N.inS p AZ
 have hks:p.sign≠k:=fun e=>N.out AZ (e▸hkK)
 have hsk:∀s∈S,s≠p.sign→lkF (dec c k) l s=lkF c (p::l) s:=fun s hs e=>KP e fun z=>N.dis s hs (z▸hkK)
 refine⟨Cj _ p.sign N.sn hsS,?_⟩
 rw[Cj _ p.sign N.sn hsS,E2 hsk,KQ hks]
theorem Mi {K S:List Nat}:∀{l:List Spot}{c:Nat→Nat}{g:List Nat},Nest K S l→CQ c l g→(S.map (lkF c l)).sum≤ns l g
 | [],c,[],_,_=>by
  rw[show S.map (lkF c [])=S.map fun _=>0 from CY fun s _=>LX _,HL S]
  exact Au _
 | p::l,c,f::g,N,⟨h0,h1,h2⟩=>by
  have ih:=Mi N.tail h2
  show _≤(if f=p.sign then 0 else 1)+ns l g
  rcases h1 with rfl | h1
  ·rw[M6 (K:=K) h0] at ih
   rw[if_pos rfl]
   omega
  ·obtain⟨e1,e2⟩:=M5 N h1 (c:=c)
   rw[if_neg (IS N h1)]
   omega
 | [],c,_::_,_,h=>nomatch h
 | _::_,c,[],_,h=>nomatch h
theorem MX {K S:List Nat}:∀{l:List Spot}{c:Nat→Nat}{g:List Nat},Nest K S l→CQ c l g→ns l g=(S.map (lkF c l)).sum→F0 c l g
 | [],c,[],_,_,_=>trivial
 | p::l,c,f::g,N,⟨h0,h1,h2⟩,hn=>by
  have hn:(if f=p.sign then 0 else 1)+ns l g=(S.map (lkF c (p::l))).sum:=hn
  have le:=Mi N.tail h2
  rcases h1 with rfl | h1
  ·rw[if_pos rfl,Ed,← M6 (K:=K) h0] at hn
   exact⟨h0,.inl rfl,MX N.tail h2 hn⟩
  ·obtain⟨e1,e2⟩:=M5 N h1 (c:=c)
   rw[if_neg (IS N h1)] at hn
   have hp:0 < lkF c (p::l) p.sign:=by omega
   exact⟨h0,.inr ⟨h1,hp⟩,MX N.tail h2 (by omega)⟩
 | [],c,_::_,_,h,_=>nomatch h
 | _::_,c,[],_,h,_=>nomatch h
theorem RC {K S:List Nat}:∀{l:List Spot}{c:Nat→Nat}{g:List Nat},Nest K S l→F0 c l g→CQ c l g∧ns l g=(S.map (lkF c l)).sum
 | [],c,[],_,_=>⟨trivial,by
  rw[show S.map (lkF c [])=S.map fun _=>0 from CY fun s _=>LX _,HL S]
  rfl⟩
 | p::l,c,f::g,N,⟨h0,h1,h2⟩=>by
  obtain⟨i1,i2⟩:=RC N.tail h2
  rcases h1 with rfl | ⟨h1,hp⟩
  ·refine⟨⟨h0,.inl rfl,i1⟩,?_⟩
   show(if p.sign=p.sign then 0 else 1)+ns l g=_
   rw[if_pos rfl,i2,M6 (K:=K) h0,Ed]
  ·obtain⟨e1,e2⟩:=M5 N h1 (c:=c)
   refine⟨⟨h0,.inr h1,i1⟩,?_⟩
   show(if f=p.sign then 0 else 1)+ns l g=_
   rw[if_neg (IS N h1),i2]
   omega
 | [],c,_::_,_,h=>nomatch h
 | _::_,c,[],_,h=>nomatch h
def Told (c:Nat→Nat) (l:List Spot) (h:List Nat):Prop:=CQ c l h∧∀g,CQ c l g→ns l h < ns l g∨(ns l h=ns l g∧G7 h g)
theorem Told.unique {c:Nat→Nat}{l:List Spot}{g h:List Nat} (a:Told c l g) (b:Told c l h):g=h:=by
 rcases a.2 h b.1 with q | ⟨e,q⟩
 ·rcases b.2 g a.1 with z | ⟨z,_⟩
  ·omega
  ·omega
 ·rcases b.2 g a.1 with z | ⟨_,z⟩
  ·omega
  ·exact R0 q z
theorem Q8 {L:Locker}{S:List Nat}{l:List Spot}{left:List Nat} (N:Nest L.sameKinds S l) (h:L.enough left l=true):Told (cOf left) l (L.fill l left):=by
 obtain⟨h1,h2⟩:=Q7 N ((Mf N).mp h)
 obtain⟨f1,f2⟩:=RC N h1
 refine⟨f1,fun g hg=>?_⟩
 have le:=Mi N hg
 by_cases e:ns l g=(S.map (lkF (cOf left) l)).sum
 ·exact .inr ⟨f2.trans e.symm,h2 g (MX N hg e)⟩
 ·exact .inl (by omega)
theorem bE {K S:List Nat}{c:Nat→Nat}{p:Spot}{l:List Spot} (N:Nest K S (p::l)) {k:Nat} (hk:k∈p.may) (hl:lkF c (p::l) p.sign=0) (h:Ok K S (dec c k) l):Ok K S c (p::l):=fun Y=>by
 have q:=h Y
 have hkK:=N.inK p AZ k hk
 have hks:p.sign≠k:=fun e=>N.out AZ (e▸hkK)
 have hsk:∀s∈S,lkF (dec c k) l s=lkF c (p::l) s:=fun s hs=>by
  by_cases e:s=p.sign
  ·rw[e,KQ hks,hl]
  ·exact KP e fun z=>N.dis s hs (z▸hkK)
 rw[sum_eq hsk] at q
 have e2:(S.map fun s=>min (lkF (dec c k) l s) (nnY Y l s)).sum=(S.map fun s=>min (lkF c (p::l) s) (nnY Y (p::l) s)).sum:=sum_eq fun s hs=>by
  rw[hsk s hs]
  by_cases e:s=p.sign
  ·rw[e,hl,JK,JK]
  ·rw[G9 e]
 have e3:Di K Y (dec c k)≤Di K Y c:=Ie fun x _=>by
  have:dec c k x≤c x:=by
   unfold dec
   split
   ·rename_i z
    rw[z]
    exact Nat.sub_le _ _
   ·exact AO _
  split
  ·exact AO _
  ·exact this
 rw[e2] at q
 omega
theorem Sa {K S:List Nat}:∀{l:List Spot}{c:Nat→Nat}{g:List Nat},Nest K S l→CQ c l g→Ok K S c l
 | [],c,[],N,_=>KU N (g:=[]) trivial
 | p::l,c,f::g,N,⟨h0,h1,h2⟩=>by
  have ih:=Sa N.tail h2
  rcases h1 with rfl | h1
  ·exact Sd N h0 ih
  ·by_cases hl:lkF c (p::l) p.sign=0
   ·exact bE N h1 hl ih
   ·exact Sb N h1 h0 (Ww hl) ih
 | [],c,_::_,_,h=>nomatch h
 | _::_,c,[],_,h=>nomatch h
theorem RB {L:Locker}{S:List Nat}{l:List Spot}{left:List Nat} (N:Nest L.sameKinds S l):L.enough left l=true↔∃g,CQ (cOf left) l g:=by
 constructor
 ·intro h
  exact⟨_,(Q8 N h).1⟩
 ·rintro⟨g,hg⟩
  exact(Mf N).mpr (Sa N hg)
theorem role_at {L:Locker}{s:Nat} (h:L.isSignAt s=true):∃k,L.kinds[s]?=some k∧k.isSign=true:=by
 unfold Locker.isSignAt at h
 cases hk:L.kinds[s]? with
 | none=>rw[hk] at h;cases h
 | some k=>rw[hk] at h;exact⟨k,rfl,h⟩
theorem same_at {L:Locker}{f:Nat} (h:f∈L.sameKinds):∃k j,L.kinds[f]?=some k∧k.role=.same j:=by
 have:=(C9.mp h).2
 cases hk:L.kinds[f]? with
 | none=>rw[hk] at this;cases this
 | some k =>
  rw[hk] at this
  have this:(match some k.role with | some (.same _)=>true | _=>false)=true:=this
  cases hr:k.role with
  | sign n=>rw[hr] at this;cases this
  | same j=>exact⟨k,j,rfl,hr⟩
  | answer=>rw[hr] at this;cases this
theorem VG {L:Locker} (hw:Fb.Wf L.kinds) {s f:Nat} (hs:L.isSignAt s=true) (hf:f∈L.sameKinds):s < f:=by
 obtain⟨k,hk,hs⟩:=role_at hs
 obtain⟨k',j,hk',hr⟩:=same_at hf
 rw[Fb.isSign_rk] at hs
 have r1:Fb.rk k=1:=of_decide_eq_true hs
 have r2:Fb.rk k'=2:=by unfold Fb.rk;rw[hr]
 rcases Nat.lt_trichotomy s f with q | q | q
 ·exact q
 ·subst q
  rw[hk] at hk'
  cases hk'
  omega
 ·exfalso
  obtain⟨lf,ef⟩:=Be.mp hk'
  obtain⟨ls,es⟩:=Be.mp hk
  have:=(Wq.mp hw.order f s lf ls q).1
  rw[ef,es] at this
  omega
theorem NM {L:Locker}{r:List Nat} (hw:Fb.Wf L.kinds) (hr:∀s∈r,L.isSignAt s=true):Nest L.sameKinds r.eraseDups (L.spots [r]):=by
 have mem:∀p∈L.spots [r],∃i,i < r.length∧p=⟨r.getD i 0,mayAt L r i⟩:=fun p hp=>by
  rw[spots_one] at hp
  obtain⟨i,hi,rfl⟩:=BD.mp hp
  exact⟨i,E7.mp hi,rfl⟩
 have inr:∀i,i < r.length→r.getD i 0∈r:=fun i hi=>by
  rw[D5,As hi]
  exact GY hi
 have pts:∀{i k},k∈mayAt L r i→k∈L.sameKinds∧L.points k≤i∧r.getD (L.points k - 1) 0=r.getD i 0:=fun {i k} h=>by
  obtain⟨h1,h2⟩:=C9.mp h
  rw[BC,decide_eq_true_eq,beq_iff_eq] at h2
  exact⟨h1,h2.1,h2.2⟩
 refine⟨List.nodup_range.sublist LD,NR _ _ (AO _),fun p hp=>?_,fun p hp k hk=>?_,fun s hs hk=>?_,?_,fun p hp q hq k hkp hkq=>?_,fun p hp=>?_⟩
 ·obtain⟨i,hi,rfl⟩:=mem p hp
  exact JE.mpr (inr i hi)
 ·obtain⟨i,hi,rfl⟩:=mem p hp
  exact(pts hk).1
 ·exact absurd (VG hw (hr s (JE.mp hs)) hk) (Bu _)
 ·rw[spots_one,List.pairwise_map]
  refine Oy.imp fun {i j} hij e k hk=>?_
  obtain⟨k1,k2,k3⟩:=pts hk
  have e:r.getD i 0=r.getD j 0:=e
  refine C9.mpr ⟨k1,?_⟩
  rw[BC,decide_eq_true_eq,beq_iff_eq]
  exact⟨by omega,k3.trans e⟩
 ·obtain⟨i,hi,rfl⟩:=mem p hp
  obtain⟨j,hj,rfl⟩:=mem q hq
  exact(pts hkp).2.2.symm.trans (pts hkq).2.2
 ·obtain⟨i,hi,rfl⟩:=mem p hp
  refine Fp.mpr ⟨fun k hk=>VG hw (hr _ (inr i hi)) (pts hk).1,?_⟩
  exact(Oy.sublist (LD.trans LD))
theorem MY (L:Locker):cOf L.allCopies=L.copies:=funext fun k=>YH L k
theorem Yz {L:Locker}{r:List Nat} (hw:Fb.Wf L.kinds) (hr:∀s∈r,L.isSignAt s=true) (h:L.canShow r=true):∃g,L.display [r]=some g∧Told L.copies (L.spots [r]) g:=by
 refine⟨L.fill (L.spots [r]) L.allCopies,?_,?_⟩
 ·unfold Locker.display
  exact if_pos h
 ·have:=Q8 (NM hw hr) h
  rw[MY] at this
  exact this
end Fm
end
section
set_option maxRecDepth 100000
namespace Fm
open Flags
def greedy:(Nat→Nat)→List Spot→Option (List Nat)
 | _,[]=>some []
 | c,p::l=>match (p.sign::p.may).find? (fun f=>decide (0 < c f)) with
  | none=>none
  | some f=>(greedy (dec c f) l).map (f::·)
def less (c:Nat→Nat) (g:List Nat):Nat→Nat:=fun k=>c k - g.count k
theorem less_nil (c:Nat→Nat):less c []=c:=funext fun k=>by unfold less;simp
theorem less_snoc (c:Nat→Nat) (g:List Nat) (f:Nat):less c (g++[f])=dec (less c g) f:=funext fun k=>by
 unfold less dec
 rw[WX]
 by_cases e:k=f
 ·subst e
  rw[if_pos rfl]
  simp
  omega
 ·rw[if_neg e,Of (fun q=>e q.symm)]
  simp
theorem Jv (c:Nat→Nat) (a b:Nat):dec (dec c a) b=dec (dec c b) a:=funext fun k=>by
 unfold dec
 by_cases h1:k=a <;> by_cases h2:k=b <;> by_cases h3:a=b <;> simp[h1,h2,h3] <;> first | omega | (subst h1;simp_all) | (subst h2;simp_all) | skip
theorem Mj {s f f':Nat}:∀{l:List Spot}{c:Nat→Nat}{g:List Nat},(∀q∈l,(f=q.sign∨f∈q.may)→f'∈q.may∧q.sign=s)→f≠f'→0 < c f→CQ (dec c f') l g→0 < c f'→∃g',CQ (dec c f) l g'∧ns l g'≤ns l g+(if f=s then 1 else 0)
 | [],c,[],_,_,_,_,_=>⟨[],trivial,Au _⟩
 | p::l,c,x::g,hall,ne,h0,⟨hx0,hx1,hx2⟩,h0'=>by
  by_cases ex:x=f
  ·subst ex
   obtain⟨m1,m2⟩:=hall p AZ hx1
   refine⟨f'::g,⟨?_,.inr m1,?_⟩,?_⟩
   ·rw[DQ ne.symm];exact h0'
   ·rw[Jv];exact hx2
   ·show(if f'=p.sign then 0 else 1)+ns l g≤(if x=p.sign then 0 else 1)+ns l g+_
    rw[m2]
    split <;> split <;> omega
  ·by_cases ex':x=f'
   ·subst ex'
    rw[IC] at hx0
    obtain⟨g',i1,i2⟩:=Mj (s:=s) (f:=f) (f':=x) (l:=l) (c:=dec c x) (g:=g) (fun q hq=>hall q (Ar _ hq)) ne (by rw[DQ ne];exact h0) hx2 (by rw[IC];exact hx0)
    refine⟨x::g',⟨by rw[DQ ne.symm];exact h0',hx1,by rw[Jv];exact i1⟩,?_⟩
    show(if x=p.sign then 0 else 1)+ns l g'≤(if x=p.sign then 0 else 1)+ns l g+_
    omega
   ·rw[DQ ex'] at hx0
    obtain⟨g',i1,i2⟩:=Mj (s:=s) (f:=f) (f':=f') (l:=l) (c:=dec c x) (g:=g) (fun q hq=>hall q (Ar _ hq)) ne (by rw[DQ (fun q=>ex q.symm)];exact h0) (by rw[Jv];exact hx2) (by rw[DQ (fun q=>ex' q.symm)];exact h0')
    refine⟨x::g',⟨by rw[DQ ex];exact hx0,hx1,by rw[Jv];exact i1⟩,?_⟩
    show(if x=p.sign then 0 else 1)+ns l g'≤(if x=p.sign then 0 else 1)+ns l g+_
    omega
 | [],_,_::_,_,_,_,h,_=>nomatch h
 | _::_,_,[],_,_,_,h,_=>nomatch h
theorem Vw {K S:List Nat}{c:Nat→Nat}{p:Spot}{l:List Spot}{f f':Nat}{g:List Nat} (N:Nest K S (p::l)) (hf:f=p.sign∨f∈p.may) (hf':f'∈p.may) (ne:f≠f') (h0:0 < c f) (h:CQ c (p::l) (f'::g)):
  ∃g',CQ (dec c f) l g'∧ns l g'≤ns l g+(if f=p.sign then 1 else 0):=by
 obtain⟨a1,a2,a3⟩:=h
 refine Mj (fun q hq hfq=>?_) ne h0 a3 a1
 have hqm:q∈p::l:=Ar _ hq
 have es:q.sign=p.sign:=by
  rcases hf with hf | hf
  ·rcases hfq with e | e
   ·rw[← e,hf]
   ·exact absurd (N.inK q hqm f e) (hf▸N.out AZ)
  ·rcases hfq with e | e
   ·exact absurd (N.inK p AZ f hf) (e▸N.out hqm)
   ·exact N.one q hqm p AZ f e hf
 exact⟨N.later hq es hf',es⟩
theorem d8 {K S:List Nat}{c:Nat→Nat}{p:Spot}{l:List Spot}{f f':Nat}{g:List Nat} (N:Nest K S (p::l)) (hf:f=p.sign∨f∈p.may) (hf0:0 < c f) (hno:f∈p.may→c p.sign=0) (h:CQ c (p::l) (f'::g)):∃g',CQ (dec c f) l g':=by
 by_cases e:f'=f
 ·exact⟨g,e▸h.2.2⟩
 ·have m:f'∈p.may:=by
   rcases h.2.1 with z | z
   ·rcases hf with w | w
    ·exact absurd (z.trans w.symm) e
    ·have:=hno w
     have:=h.1
     rw[z] at this
     omega
   ·exact z
  obtain⟨g',i,_⟩:=Vw N hf m (Af e) hf0 h
  exact⟨g',i⟩
theorem ZP {c:Nat→Nat}{p:Spot}{f:Nat} (hs:p.sign∉p.may) (h:(p.sign::p.may).find? (fun f=>decide (0 < c f))=some f):f∈p.may→c p.sign=0:=fun hm=>by
 rw[C8] at h
 by_cases z:0 < c p.sign
 ·rw[decide_eq_true z] at h
  have e:=AV h
  exact absurd (e▸hm) hs
 ·omega
theorem RS {K S:List Nat}:∀{l:List Spot}{c:Nat→Nat},Nest K S l→((greedy c l).isSome=true↔∃g,CQ c l g)
 | [],c,_=>⟨fun _=>⟨[],trivial⟩,fun _=>rfl⟩
 | p::l,c,N=>by
  unfold greedy
  cases hfd:(p.sign::p.may).find? (fun f=>decide (0 < c f)) with
  | none =>
   have hn:=Ol.mp hfd
   refine⟨fun z=>(nomatch z),fun ⟨g,hg⟩=>?_⟩
   cases g with
   | nil=>exact nomatch hg
   | cons f g=>exact absurd (decide_eq_true hg.1) (hn f (AY.mpr hg.2.1))
  | some f =>
   have hfm:f=p.sign∨f∈p.may:=AY.mp (JF hfd)
   have hf0:0 < c f:=by
    have:=LF hfd
    exact of_decide_eq_true this
   have ih:=RS (l:=l) (c:=dec c f) N.tail
   show((greedy (dec c f) l).map (f::·)).isSome=true↔_
   rw[Hj,ih]
   constructor
   ·rintro⟨g,hg⟩
    exact⟨f::g,hf0,hfm,hg⟩
   ·rintro⟨g,hg⟩
    cases g with
    | nil=>exact nomatch hg
    | cons f' g=>exact d8 N hfm hf0 (ZP (fun z=>IS N z rfl) hfd) hg
theorem canShow_greedy {L:Locker}{r:List Nat} (hw:Fb.Wf L.kinds) (hr:∀s∈r,L.isSignAt s=true):L.canShow r=(greedy L.copies (L.spots [r])).isSome:=by
 have N:=NM hw hr
 unfold Locker.canShow
 rw[C5,RB N,RS N,MY]
theorem RU {K S:List Nat}:∀{l:List Spot}{c:Nat→Nat},Nest K S l→(greedy c l=none→∀g,¬CQ c l g)∧(∀h,greedy c l=some h→Told c l h)
 | [],c,_=>by
  refine⟨fun h=>(nomatch h),fun h e=>?_⟩
  cases e
  refine⟨trivial,fun g hg=>?_⟩
  cases g with
  | nil=>exact .inr ⟨rfl,trivial⟩
  | cons _ _=>exact nomatch hg
 | p::l,c,N=>by
  have asc:=N.asc p AZ
  unfold greedy
  cases hfd:(p.sign::p.may).find? (fun f=>decide (0 < c f)) with
  | none =>
   have hn:=Ol.mp hfd
   refine⟨fun _ g hg=>?_,fun h e=>(nomatch e)⟩
   cases g with
   | nil=>exact nomatch hg
   | cons f g=>exact hn f (AY.mpr hg.2.1) (decide_eq_true hg.1)
  | some f =>
   have hfm:f=p.sign∨f∈p.may:=AY.mp (JF hfd)
   have hf0:0 < c f:=by
    have:=LF hfd
    exact of_decide_eq_true this
   obtain⟨ih1,ih2⟩:=RU (l:=l) (c:=dec c f) N.tail
   have other:∀{f':Nat} {g:List Nat},CQ c (p::l) (f'::g)→f'=f∨(f'∈p.may∧f < f'):=fun {f' g} hg=>by
    obtain⟨g1,g2,_⟩:=hg
    by_cases e:f'=f
    ·exact .inl e
    ·right
     obtain⟨as,bs,e1,e2⟩:=(List.find?_eq_some_iff_append.mp hfd).2
     have hm:f'∈p.sign::p.may:=AY.mpr g2
     rw[e1] at hm asc
     have hlt:f < f':=by
      rcases Ce.mp hm with z | z
      ·have:=e2 f' z
       simp only[Bool.not_eq_true',decide_eq_false_iff_not] at this
       exact absurd g1 this
      ·rcases AY.mp z with z | z
       ·exact absurd z e
       ·exact(Fp.mp (Ox.mp asc).2.1).1 f' z
     refine⟨?_,hlt⟩
     rcases g2 with z | z
     ·have:f∈p.may∨f=p.sign:=hfm.symm
      rcases this with w | w
      ·have:=(Fp.mp (N.asc p AZ)).1 f w
       omega
      ·omega
     ·exact z
   have move:∀{f':Nat} {g:List Nat},CQ c (p::l) (f'::g)→∃g',CQ (dec c f) l g'∧((f'=f∧g'=g)∨(f < f'∧f'∈p.may∧ns l g'≤ns l g+(if f=p.sign then 1 else 0))):=fun {f' g} hg=>by
    rcases other hg with e | ⟨m,lt⟩
    ·subst e
     exact⟨g,hg.2.2,.inl ⟨rfl,rfl⟩⟩
    ·obtain⟨g',i1,i2⟩:=Vw N hfm m (by omega) hf0 hg
     exact⟨g',i1,.inr ⟨lt,m,i2⟩⟩
   constructor
   ·intro e g hg
    have e:(greedy (dec c f) l).map (f::·)=none:=e
    cases g with
    | nil=>exact nomatch hg
    | cons f' g =>
     obtain⟨g',i1,_⟩:=move hg
     exact ih1 (Option.map_eq_none_iff.mp e) g' i1
   ·intro h e
    have e:(greedy (dec c f) l).map (f::·)=some h:=e
    obtain⟨h',e1,e2⟩:=Gb.mp e
    subst e2
    obtain⟨t1,t2⟩:=ih2 h' e1
    refine⟨⟨hf0,hfm,t1⟩,fun g hg=>?_⟩
    cases g with
    | nil=>exact nomatch hg
    | cons f' g =>
     obtain⟨g',i1,i2⟩:=move hg
     have t:=t2 g' i1
     show(if f=p.sign then 0 else 1)+ns l h' < (if f'=p.sign then 0 else 1)+ns l g∨((if f=p.sign then 0 else 1)+ns l h'=(if f'=p.sign then 0 else 1)+ns l g∧(f < f'∨(f=f'∧G7 h' g)))
     rcases i2 with ⟨e3,e4⟩ | ⟨lt,m,le⟩
     ·subst e3 e4
      rcases t with t | ⟨t,t'⟩
      ·left;omega
      ·right;exact⟨by omega,.inr ⟨rfl,t'⟩⟩
     ·rw[if_neg (IS N m)]
      have:ns l h'≤ns l g':=by rcases t with t | t <;> omega
      by_cases es:f=p.sign
      ·rw[if_pos es] at le ⊢
       by_cases eq:0+ns l h'=1+ns l g
       ·exact .inr ⟨eq,.inl lt⟩
       ·left;omega
      ·rw[if_neg es] at le ⊢
       by_cases eq:1+ns l h'=1+ns l g
       ·exact .inr ⟨eq,.inl lt⟩
       ·left;omega
theorem display_greedy {L:Locker}{r:List Nat} (hw:Fb.Wf L.kinds) (hr:∀s∈r,L.isSignAt s=true):L.display [r]=greedy L.copies (L.spots [r]):=by
 have N:=NM hw hr
 obtain⟨g1,g2⟩:=RU (c:=L.copies) N
 cases hc:L.canShow r with
 | true =>
  obtain⟨g,e1,t1⟩:=Yz hw hr hc
  cases hg:greedy L.copies (L.spots [r]) with
  | none=>exact absurd t1.1 (g1 hg g)
  | some h=>rw[e1,Told.unique t1 (g2 h hg)]
 | false =>
  have e1:L.display [r]=none:=by
   unfold Locker.canShow at hc
   unfold Locker.display
   rw[hc]
   rfl
  rw[e1]
  cases hg:greedy L.copies (L.spots [r]) with
  | none=>rfl
  | some h =>
   have:=(RB (left:=L.allCopies) N).mpr ⟨h,by rw[MY];exact(g2 h hg).1⟩
   unfold Locker.canShow at hc
   rw[hc] at this
   cases this
theorem greedy_len:∀{l:List Spot}{c:Nat→Nat}{h:List Nat},greedy c l=some h→h.length=l.length
 | [],c,h,e=>by cases e;rfl
 | p::l,c,h,e=>by
  unfold greedy at e
  split at e
  ·cases e
  ·obtain⟨h',e1,e2⟩:=Gb.mp e
   subst e2
   rw[A9,A9,greedy_len e1]
end Fm
end
section
set_option maxRecDepth 100000
namespace Fb
open Flags (Bytes Fault cutAt)
end Fb
end
section
set_option maxRecDepth 100000
namespace Fb
open Flags (Bytes Row Entry Act Book rowBefore before putEntry)
end Fb
namespace Fm
open Flags
end Fm
end
section
set_option maxRecDepth 100000
namespace Fb
open Flags (Bytes cutAt)
end Fb
end
section
set_option maxRecDepth 100000
namespace Fb
open Flags (Bytes Entry Act)
abbrev TB:=List Nat×Bytes
end Fb
end
section
set_option maxRecDepth 100000
namespace Fb
open Flags (Bytes Entry Act)
def MG (L:AU) (r:List Nat):Prop:=r≠[]∧r.length≤8∧∀s∈r,∃k n,L.kinds[s]?=some k∧k.role=.sign n∧n.length≤8∧n≠[]
theorem aj {n:Bytes} (h:Cm n=true):n≠[]:=fun e=>by
 rw[e] at h
 exact absurd h (by decide)
theorem SQ {n:Bytes} (h:Cm n=true):n.length≤8:=by
 unfold Cm at h
 rw[BC,BC] at h
 exact of_decide_eq_true h.2.1
theorem ZN {L:AU}{n:Bytes}{i:Nat} (h:L.find n=some i):∃k,L.kinds[i]?=some k∧k.role=.sign n:=by
 unfold K6 at h
 obtain⟨h1,h2,_⟩:=Om.mp h
 exact⟨L.kinds[i],As h1,by simpa using h2⟩
theorem TH {L:AU}:∀{ns:List Bytes}{r:List Nat},L.rowIn ns=some r→(∀n∈ns,Cm n=true)→r.length=ns.length∧∀s∈r,∃k n,L.kinds[s]?=some k∧k.role=.sign n∧n.length≤8∧n≠[]
 | [],r,h,_=>by
  simp[E4] at h
  subst h
  exact⟨rfl,fun s hs=>nomatch hs⟩
 | n::ns,r,h,hn=>by
  unfold E4 at h
  rw[GZ] at h
  cases hf:L.find n with
  | none=>rw[hf] at h;cases h
  | some i =>
   rw[hf] at h
   cases hr:Hb L.find ns with
   | none=>rw[hr] at h;cases h
   | some r' =>
    rw[hr] at h
    have h:some (i::r')=some r:=h
    cases h
    obtain⟨h1,h2⟩:=TH (L:=L) (ns:=ns) (r:=r') hr fun m hm=>hn m (Ar _ hm)
    refine⟨by rw[A9,A9,h1],fun s hs=>?_⟩
    rcases AY.mp hs with e | hs
    ·subst e
     obtain⟨k,k1,k2⟩:=ZN hf
     exact⟨k,n,k1,k2,SQ (hn n AZ),aj (hn n AZ)⟩
    ·exact h2 s hs
theorem cp {L:AU}{w:Bytes}{r:List Nat} (h:L.rowIn (A7 46 w)=some r) (hl:(A7 46 w).length≤8) (hn:(A7 46 w).all Cm=true):MG L r:=by
 obtain⟨h1,h2⟩:=TH h (C7.mp hn)
 refine⟨fun e=>?_,by omega,h2⟩
 rw[e] at h1
 have:A7 46 w=[]:=JB.mp h1.symm
 cases w with
 | nil=>cases this
 | cons x t =>
  have e:A7 46 (x::t)=if x=46 then []::A7 46 t else match A7 46 t with
   | []=>[[x]]
   | w::l=>(x::w)::l:=rfl
  rw[e] at this
  split at this
  ·cases this
  ·split at this <;> cases this
theorem aU {s:Bytes} (h:Ff s=true):s.length≤64∧s≠[]:=by
 unfold Ff at h
 rw[BC,BC] at h
 refine⟨of_decide_eq_true h.2.1,fun e=>?_⟩
 have:=of_decide_eq_true h.1
 rw[e] at this
 exact absurd this (by decide)
def JV (L:AU) (e:Entry):Prop:=MG L e.row∧e.says.length≤64∧e.says≠[]
theorem ZE {r:Bytes} (h:ET r=true):(A7 46 (Bn r)).length≤8∧(A7 46 (Bn r)).all Cm=true∧Ff (DF r)=true:=by
 unfold ET at h
 rw[BC,BC] at h
 exact⟨of_decide_eq_true h.1.1,h.1.2,h.2⟩
theorem ZG {L:AU}{past:List Entry}{w:Bytes}{n:List Bytes}{m:Bytes}{row:List Nat} (he:Fe w=some (n,m)) (hr:L.entryRow past n=.ok row):JV L ⟨row,m⟩:=by
 rw[Qw] at he
 split at he
 ·rename_i hok
  cases he
  obtain⟨h1,h2,h3⟩:=ZE hok
  have hrow:L.rowIn (A7 46 (Bn w))=some row:=by
   unfold K5 at hr
   cases hq:L.rowIn (A7 46 (Bn w)) with
   | none=>rw[hq] at hr;cases hr
   | some r' =>
    rw[hq] at hr
    dsimp only at hr
    split at hr
    ·cases hr
    ·split at hr
     ·cases hr
     ·split at hr
      ·cases hr
      ·cases hr;rfl
  exact⟨cp hrow h1 h2,aU h3⟩
 ·cases he
theorem Rp (L:AU):∀(ls:List Bytes) (i:Nat) (past es:List Entry),L.judgeEntries i past ls=.ok es→(∀e∈past,JV L e)→∀e∈es,JV L e
 | [],i,past,es,h,hp=>by
  unfold OY at h
  cases h
 | [w],i,past,es,h,hp=>by
  unfold OY at h
  split at h
  ·cases h;exact hp
  ·cases h
 | w::x::r,i,past,es,h,hp=>by
  unfold OY at h
  cases he:Fe w with
  | none=>rw[he] at h;cases h
  | some p =>
   obtain⟨n,m⟩:=p
   rw[he] at h
   dsimp only at h
   cases hr:L.entryRow past n with
   | error k=>rw[hr] at h;cases h
   | ok row =>
    rw[hr] at h
    dsimp only at h
    refine Rp L (x::r) (i+1) _ es h fun e hm=>?_
    rcases Ce.mp hm with hm | hm
    ·exact hp e hm
    ·rw[A1.mp hm]
     exact ZG he hr
theorem Zq {L:AU}{t:Bytes}{B:GP} (h:L.judgeBook t=.ok B):(∀e∈B.entries,JV L e)∧B.name.length≤8:=by
 unfold WU at h
 split at h
 ·split at h
  ·cases h
  ·rename_i n hn
   split at h
   ·cases h
   ·split at h
    ·cases h
    ·split at h
     ·cases h
     ·generalize hj:L.judgeEntries 2 [] _=y at h
      cases y with
      | error e=>cases h
      | ok es =>
       cases h
       refine⟨Rp L _ _ _ _ hj (fun e hm=>nomatch hm),?_⟩
       unfold CF at hn
       split at hn
       ·split at hn
        ·rename_i q
         cases hn
         exact SQ q.2
        ·cases hn
       ·cases hn
 ·cases h
end Fb
end
section
set_option maxRecDepth 100000
namespace Fb
open Flags (Bytes Row Entry Act Book rowBefore betweenFrom)
end Fb
end
section
namespace Fb
open Flags
def ES (f:Nat→Nat):Nat→Nat
 | 0=>0
 | n+1=>ES f n+f n % 16 * 16 ^ n
theorem Qp (f:Nat→Nat):∀n,((A0 n).map fun i=>f i % 16 * 16 ^ i).sum=ES f n
 | 0=>rfl
 | n+1=>by
  rw[JI,BG,List.sum_append,Qp f n]
  simp only[Am,Fo,DJ,List.sum_nil,Nat.add_zero]
  rfl
theorem Qo (f:Nat→Nat):∀n,ES f n < 16 ^ n
 | 0=>Nat.one_pos
 | n+1=>by
  have h:=Qo f n
  have m:f n % 16≤15:=Nat.le_of_lt_succ (Nat.mod_lt _ (by decide))
  have:f n % 16 * 16 ^ n≤15 * 16 ^ n:=Nat.mul_le_mul_right _ m
  unfold ES
  rw[LU]
  omega
theorem Qm (f:Nat→Nat):∀n i,i < n→ES f n / 16 ^ i % 16=f i % 16
 | 0,i,h=>absurd h (LR _)
 | n+1,i,h=>by
  unfold ES
  rcases Nat.lt_or_ge i n with q | q
  ·have e:16 ^ n=16 ^ i * (16 * 16 ^ (n - i - 1)):=by
    rw[← Nat.pow_succ',← Nat.pow_add]
    congr 1
    omega
   have:f n % 16 * 16 ^ n=16 ^ i * (16 * (f n % 16 * 16 ^ (n - i - 1))):=by
    rw[e,Wv,Wv (f n % 16)]
   rw[this,Nat.add_mul_div_left _ _ (Nat.pow_pos (by decide)),Nat.add_mul_mod_self_left]
   exact Qm f n i q
  ·have:i=n:=by omega
   subst this
   rw[Nat.add_mul_div_right _ _ (Nat.pow_pos (by decide)),Nat.div_eq_of_lt (Qo f i),Ed,LP]
theorem M7 (f:Nat→Nat):lookOf f=ES f 16:=Qp f 16
theorem Jb (f:Nat→Nat) {i:Nat} (h:i < 16):cell (lookOf f) i=f i % 16:=by
 rw[M7]
 exact Qm f 16 i h
theorem Qn {f g:Nat→Nat}:∀n,(∀i,i < n→f i % 16=g i % 16)→ES f n=ES g n
 | 0,_=>rfl
 | n+1,h=>by
  unfold ES
  rw[Qn n fun i hi=>h i (by omega),h n (by omega)]
theorem SA {f g:Nat→Nat} (h:∀i,i < 16→f i % 16=g i % 16):lookOf f=lookOf g:=by
 rw[M7,M7]
 exact Qn 16 h
theorem Jd (l i:Nat):cell l i < 16:=Nat.mod_lt _ (by decide)
theorem YT (light l:Nat):behind (inLight light l)=inLight light (behind l):=by
 refine SA fun i hi=>?_
 have h1:4 * (i / 4)+(3 - i % 4) < 16:=by omega
 unfold inLight behind
 rw[Jb _ h1,Jb _ hi,LP,O5 (Jd l _)]
theorem YU (f:Nat→Nat):behind (behind (lookOf f))=lookOf f:=by
 refine SA fun i hi=>?_
 have h1:4 * (i / 4)+(3 - i % 4) < 16:=by omega
 unfold behind
 rw[Jb _ h1,LP]
 have e:4 * ((4 * (i / 4)+(3 - i % 4)) / 4)+(3 - (4 * (i / 4)+(3 - i % 4)) % 4)=i:=by omega
 rw[e,Jb _ hi,LP]
def mir (v:List (Nat×Nat)):List (Nat×Nat):=v.map fun p=>(p.1,behind p.2)
theorem MM:behind 0=0:=by decide +kernel
theorem M8 (L:Locker) (light:Nat) (g:Hoist):L.looks light 1 g=mir (L.looks light 0 g):=by
 unfold mir Locker.looks
 rw[CG]
 refine CY fun f _=>?_
 show _=(fun p:Nat×Nat=>(p.1,behind p.2)) (match L.kinds[f]? with | some k=>(k.shape,seenFrom light 0 k.look) | none=>(0,0))
 cases L.kinds[f]? with
 | none=>show(0,0)=(0,behind 0);rw[MM]
 | some k =>
  show(k.shape,inLight light (behind k.look))=(k.shape,behind (inLight light k.look))
  rw[YT]
theorem KR (L:Locker) (light:Nat) (g:Hoist):mir (L.looks light 1 g)=L.looks light 0 g:=by
 rw[M8]
 unfold mir Locker.looks
 rw[CG,CG]
 refine CY fun f _=>?_
 show(fun p:Nat×Nat=>(p.1,behind p.2)) ((fun p:Nat×Nat=>(p.1,behind p.2)) (match L.kinds[f]? with | some k=>(k.shape,seenFrom light 0 k.look) | none=>(0,0)))=_
 cases L.kinds[f]? with
 | none=>show(0,behind (behind 0))=(0,0);rw[MM,MM]
 | some k =>
  show(k.shape,behind (behind (inLight light k.look)))=(k.shape,inLight light k.look)
  rw[show behind (behind (inLight light k.look))=inLight light k.look from YU _]
def Cd (L:Locker) (light side:Nat) (g:Hoist):List (List (Nat×Nat)):=(sides side).map fun d=>L.looks light d g
def Fc (x y:List (List (Nat×Nat))):Bool:=x.any fun a=>y.any fun b=>a==b
theorem et {L:Locker}{light side:Nat} (h:side≠2) (g k:Hoist):Fc (Cd L light side g) (Cd L light side k)=true↔L.looks light side g=L.looks light side k:=by
 unfold Fc Cd sides
 rw[if_neg h]
 simp
theorem eu {L:Locker}{light:Nat} (g k:Hoist):Fc (Cd L light 2 g) (Cd L light 2 k)=true↔L.looks light 0 g=L.looks light 0 k∨L.looks light 0 g=L.looks light 1 k:=by
 have e:Fc (Cd L light 2 g) (Cd L light 2 k)=true↔(L.looks light 0 g=L.looks light 0 k∨L.looks light 0 g=L.looks light 1 k)∨(L.looks light 1 g=L.looks light 0 k∨L.looks light 1 g=L.looks light 1 k):=by
  unfold Fc Cd sides
  rw[if_pos rfl]
  simp
 rw[e]
 refine⟨fun h=>?_,.inl⟩
 rcases h with h | h | h
 ·exact h
 ·have:=congrArg mir h
  rw[KR,← M8] at this
  exact .inr this
 ·have:=congrArg mir h
  rw[KR,KR] at this
  exact .inl this
def DI (L:Locker) (B:Book):List Hoist:=B.entries.map fun e=>(L.display [e.row]).getD []
theorem fW {α:Type} (d:α) (l:List α):l.zipIdx=(A0 l.length).map fun i=>(l.getD i d,i):=by
 refine List.ext_getElem (by simp) fun i h1 h2=>?_
 have hi:i < l.length:=by simpa using h1
 simp[List.getElem_zipIdx,hi]
theorem Y3 (L:Locker) (B:Book) (light side:Nat):L.doubts B light side=(A0 B.entries.length).flatMap fun i=>((A0 B.entries.length).filter fun j=>decide (i < j)&&Fc (Cd L light side ((DI L B).getD i [])) (Cd L light side ((DI L B).getD j []))).map fun j=>(i,j):=by
 have e:((DI L B).map fun g=>Cd L light side g).zipIdx=(A0 B.entries.length).map fun i=>(Cd L light side ((DI L B).getD i []),i):=by
  rw[fW (Cd L light side [])]
  have hl:((DI L B).map fun g=>Cd L light side g).length=B.entries.length:=by simp[DI]
  rw[hl]
  refine CY fun i hi=>?_
  have hi:i < (DI L B).length:=by simpa [DI] using hi
  simp[List.getD,hi]
 have d:L.doubts B light side=(((DI L B).map fun g=>Cd L light side g).zipIdx).flatMap fun x=>((((DI L B).map fun g=>Cd L light side g).zipIdx).filter fun y=>decide (x.2 < y.2)&&Fc x.1 y.1).map fun y=>(x.2,y.2):=by
  unfold DI
  rw[CG]
  rfl
 rw[d,e,Wb]
 congr 1
 funext i
 rw[Oi,CG]
 rfl
end Fb
end
section
namespace Fb
open PySem
def top (i:Nat):Stmt:=Ef.main.body.getD i (.Pass ⟨0,0,0,0⟩)
abbrev Us:Stmt:=top 1
abbrev UY:Stmt:=top 2
abbrev Ua:Stmt:=top 3
abbrev UR:Stmt:=top 4
abbrev Uu:Stmt:=top 10
abbrev VA:Stmt:=top 11
abbrev Ui:Stmt:=top 12
abbrev Uh:Stmt:=top 13
abbrev Uj:Stmt:=top 14
abbrev Ux:Stmt:=top 15
abbrev UX:Stmt:=top 16
abbrev UT:Stmt:=top 17
abbrev UL:Stmt:=top 30
abbrev UK:Stmt:=top 31
abbrev Ug:Stmt:=top 32
abbrev U6:Stmt:=top 33
abbrev Uw:Stmt:=top 34
abbrev Ul:Stmt:=top 35
abbrev Um:Stmt:=top 36
abbrev Uc:Stmt:=top 37
abbrev U8:Stmt:=top 38
abbrev U1:Stmt:=top 39
abbrev Uk:Stmt:=top 40
abbrev U5:Stmt:=top 41
abbrev VB:Stmt:=top 42
abbrev VC:Stmt:=top 43
abbrev U2:Stmt:=top 45
abbrev UU:Stmt:=top 49
abbrev Uy:Stmt:=top 50
abbrev Ub:Stmt:=top 51
abbrev UZ:Stmt:=top 52
abbrev UM:Stmt:=top 65
abbrev UN:Stmt:=top 66
abbrev U9:Stmt:=top 67
abbrev U7:Stmt:=top 68
abbrev Uv:Stmt:=top 69
abbrev Ur:Stmt:=top 70
abbrev Uq:Stmt:=top 71
abbrev US:Stmt:=top 72
abbrev Ud:Stmt:=top 73
abbrev Ue:Stmt:=top 74
abbrev Up:Stmt:=top 75
abbrev UQ:Stmt:=top 76
abbrev VD:Stmt:=top 77
abbrev U3:Stmt:=top 79
abbrev Uo:Stmt:=top 84
abbrev VF:Stmt:=top 85
abbrev VE:Stmt:=top 86
abbrev Ut:Stmt:=top 87
abbrev Uz:Stmt:=top 88
abbrev U0:Stmt:=top 89
abbrev UO:Stmt:=top 96
abbrev U4:Stmt:=top 97
abbrev UW:Stmt:=top 98
end Fb
end
section
set_option maxRecDepth 100000
set_option maxHeartbeats 4000000
namespace Fb
open PySem PySem.Spec PyProof.Rows L2
open PySem.W (Codec)
def Has (P:Program) (w:World) (K:AB) (mg:Str→Option Value) (x:Str) (k:Nat) (ps:List Str) (sp:Sp):Prop :=
 ∃(f:Addr) (fd:FuncData),mg x=some (.ref f)∧Gj K (.ref f)=true∧Binds K fd ps []∧∀base:Heap,FnOk P w K mg base CX0 k f fd ps sp
structure Def (K:AB) (mg:Str→Option Value) (x nm qual:Str) (st:Stmt) (ps:List Str) (f:Addr) (fd:FuncData):Prop where
 fn:Fun K nm qual st f fd
 at_:mg x=some (.ref f)
 bd:Binds K fd ps []
section
variable {P:Program}{w:World}{K:AB}{mg:Str→Option Value}
theorem Def.has {x nm qual:Str}{st:Stmt}{ps:List Str}{f:Addr}{fd:FuncData}{k:Nat}{sp:Sp} (D:Def K mg x nm qual st ps f fd) (h:∀base:Heap,FnOk P w K mg base CX0 k f fd ps sp):Has P w K mg x k ps sp :=
 ⟨f,fd,D.at_,D.fn.kp,D.bd,h⟩
end
theorem AN {X:Cx}{k:Nat}{ps:List Str}{sp:Sp}{x:Str}{p pos:Pos}{e:Expr}{es:List Expr}{t:TA} (h:Has X.prog X.w X.K X.mg x k ps sp) (hr:Room k X.A) (hg:Gl X x) (ha:PA X (e::es) t)
  (hdb:(x==("__debug__":Str))=false:=by decide) (he:starEach (e::es) X.env=(false,eval e X.env)::starEach es X.env:=by rfl) (hpl:(backTo pos (starEach es X.env)).any (·.1)=false:=by rfl):
  PE X (.Call (.Name x p) (e::es) [] pos) (HM sp [] E0 t):=by
 obtain⟨f,fd,h1,h2,h3,h4⟩:=h
 exact Sm (h4 X.base) hr hg h1 h2 h3 .nil HB ha hdb he hpl
theorem _root_.L2.Same.new {H H':Hp} (s:Same H H') {p:Addr}{o:HO} (h:H' p=none):Same H (upd H' p o):=fun b u e=>by
 rw[AG (Ai (s b u e) h)]
 exact s b u e
theorem _root_.L2.Same.wr {H H':Hp} (s:Same H H') {p:Addr}{o:HO} (h:H p=none):Same H (upd H' p o):=fun b u e=>by
 rw[AG (Ai e h)]
 exact s b u e
theorem BN {n:Nat} (h:n < 1000000):n < sizeLine:=Bg h (by decide)
theorem CA {n:Nat} (h:n < 1000000):n≤sizeLine:=Ga (BN h)
theorem Et {α β:Type}{F:α→β→Prop}:∀{l₁:List α}{l₂:List β}{a:α}{b:β},Paired F l₁ l₂→F a b→Paired F (l₁++[a]) (l₂++[b])
 | _,_,_,_,.nil,h=>.cons h .nil
 | _,_,_,_,.cons r t,h=>.cons r (Et t h)
theorem Bb {α β:Type}{F:α→β→Prop}:∀{l₁:List α}{l₂:List β},Paired F l₁ l₂→l₁.length=l₂.length
 | _,_,.nil=>rfl
 | _,_,.cons _ t=>congrArg (·+1) (Bb t)
theorem NW {α β:Type}{F:α→β→Prop}:∀{l₁:List α}{l₂:List β}{a:α},Paired F l₁ l₂→a∈l₁→∃b,b∈l₂∧F a b
 | _,_,_,.nil,h=>by cases h
 | _,_,a,.cons r t,h=>by
  rcases AY.mp h with e | h
  ·subst e;exact⟨_,AZ,r⟩
  ·obtain⟨b,hb,q⟩:=NW t h
   exact⟨b,Ar _ hb,q⟩
theorem IX {α β:Type}{F G:α→β→Prop}:∀{l₁:List α}{l₂:List β},Paired F l₁ l₂→(∀a b,a∈l₁→F a b→G a b)→Paired G l₁ l₂
 | _,_,.nil,_=>.nil
 | _,_,.cons r t,f=>.cons (f _ _ AZ r) (IX t fun a b m=>f a b (Ar _ m))
theorem EK {α:Type}:∀{l:List α}{i:Nat}{x:α},l[i]?=some x→l.take (i+1)=l.take i++[x]
 | [],i,x,h=>by simp at h
 | a::l,0,x,h=>by
  have e:a=x:=AV h
  subst e
  rfl
 | a::l,i+1,x,h=>by
  have ih:=EK (l:=l) (i:=i) (x:=x) h
  show a::l.take (i+1)=a::l.take i++[x]
  rw[ih]
  rfl
theorem Ep {ns:List Int}{i:Nat}{y:V} (h:(ns.map V.int)[i]?=some y):∃z,ns[i]?=some z∧y=V.int z:=by
 rw[AX] at h
 cases e:ns[i]? with
 | none=>rw[e] at h;cases h
 | some z=>rw[e] at h;exact⟨z,rfl,(AV h).symm⟩
abbrev UA:Stmt:=VA
def E1 (K:AB):Sp:=fun vs H Q _=>∃(a:Addr) (m:Int) (ns:List Int),vs=[.int m,.ref a]∧SqL K H a (ns.map V.int)∧ns.length < 100000∧
 ∀(H':Hp) (p:Addr) (as:List Addr),Same H H'→H p=none→(∀b∈as,H b=none)→H' p=some (.lst (as.map V.ref))→Paired (fun a ps=>H' a=some (.lst (ps.map V.int))) as (Ao m ns)→Q (.ref p) H'
theorem scSplit:Ab ["mark","values","parts","part","value"] ["mark","values"] (AK UA):=⟨rfl,rfl,rfl,by decide +kernel,rfl,by decide +kernel,by decide +kernel⟩
section
variable {P:Program}{w:World}{K:AB}{mg:Str→Option Value}{base:Heap}
theorem ok_split {f:Addr}{fd:FuncData} (F:Fun K "split_at" "split_at" UA f fd):FnOk P w K mg base CX0 1 f fd ["mark","values"] (E1 K):=by
 refine F.ok scSplit (fun vs H Q E h=>?_) (fun cdv A outer s H vs Q E hr h=>?_)
 ·obtain⟨a,m,ns,rfl,_⟩:=h
  rfl
 ·obtain⟨a,m,ns,rfl,hS,hlen,k⟩:=h
  refine⟨_,AI (Ap (i:=2) scSplit.nd rfl (AQ rfl) (A5 AD)) (AI (Ap (i:=3) scSplit.nd rfl (AQ rfl) (A5 AD))
   (AI (Ds D7 rfl (Cy (pv 1)) (BJ (i:=4) scSplit.nd rfl (AQ rfl))
    (AJ (Aw (Ag Ba (pv 4) (pv 0) (Ac _))
     (AI (Dr (DS Df E8 E9 Es (pv 2) (AA (pv 3) AD))) (AJ (Ap (i:=3) scSplit.nd rfl (AQ rfl) (A5 AD))))
     (AJ (Dr (DS Df E8 E9 Es (pv 3) (AA (pv 4) AD)))))))
   (AI (Dr (DS Df E8 E9 Es (pv 2) (AA (pv 3) AD)))
   (AJ (AM (pv 2)))))),?_⟩
  refine⟨Au _,fun ap nap=>⟨Au _,fun q nq=>?_⟩⟩
  have s1:Same H (upd (upd H ap (.lst [])) q (.lst [])):=(Same.new (Same.refl H) nap).new nq
  have nq0:H q=none:=(Same.new (Same.refl H) nap).free nq
  have apq:ap≠q:=Ai AH nq
  refine⟨_,rfl,a,rfl,⟨_,s1.seq hS⟩,J4 (K:=K) (a:=a) (xs:=ns.map V.int)
   (fun i σ H'=>∃(v:Option V) (q:Addr) (as:List Addr) (done:List (List Int)) (p:List Int),σ=[some (.int m),some (.ref a),some (.ref ap),some (.ref q),v]∧Ao m (ns.take i)=done++[p]∧H q=none∧ap≠q∧ap∉as∧q∉as∧(∀b∈as,H b=none)∧
    H' ap=some (.lst (as.map V.ref))∧H' q=some (.lst (p.map V.int))∧Paired (fun a ps=>H' a=some (.lst (ps.map V.int))) as done∧Same H H')
   ⟨none,q,[],[],[],rfl,rfl,nq0,apq,by simp,by simp,by simp,by rw[AG apq];exact AH,AH,.nil,s1⟩ (fun i σ H' _ ⟨_,_,_,_,_,_,_,_,_,_,_,_,_,_,_,s5⟩=>s5.seq hS) ?_ ?_⟩
  ·rintro i y σ H' hi ⟨v,q,as,done,p,rfl,hc,nq,hpq,hpas,hqas,fas,hap,hq,hpa,s2⟩
   obtain⟨z,hz,rfl⟩:=Ep hi
   have hlt:i < ns.length:=(Be.mp hz).1
   have ht:(ns.take i).length=i:=by rw[Cn];omega
   have hcl:=G1 m (ns.take i)
   rw[hc,ht] at hcl
   have hpl:=Eu m (ns.take i) p (by rw[hc];simp)
   rw[ht] at hpl
   have hal:=Bb hpa
   have hcs:=Jr m z _ _ _ hc
   rw[← EK hz] at hcs
   refine⟨_,rfl,_,rfl,rfl,_,rfl,?_⟩
   refine FJ (fun hz0=>?_) (fun hz0=>?_)
   ·have ezm:z=m:=by simpa using hz0
    rw[if_pos ezm] at hcs
    refine⟨_,rfl,.inl ⟨rfl,_,SqL.of hap⟩,_,rfl,ap,_,_,rfl,rfl,hap,BN (by simp at hcl ⊢;omega),?_⟩
    refine⟨Au _,fun q' nq'=>?_⟩
    have hq1:upd H' ap (.lst (as.map V.ref++[V.ref q])) q=some (.lst (p.map V.int)):=by rw[AG (Af hpq)];exact hq
    have apn:ap≠q':=Ai AH nq'
    have nqq:q≠q':=Ai hq1 nq'
    have s3:Same H (upd H' ap (.lst (as.map V.ref++[V.ref q]))):=s2.wr nap
    refine⟨some (.int z),q',as++[q],done++[p],[],rfl,hcs,s3.free nq',apn,?_,?_,?_,?_,AH,?_,s3.new nq'⟩
    ·simp;exact⟨hpas,hpq⟩
    ·intro hm
     rcases Ce.mp hm with hm | hm
     ·obtain⟨ps,_,e⟩:=NW hpa hm
      have:q'≠ap:=Af apn
      rw[AG this,e] at nq'
      cases nq'
     ·simp at hm;exact nqq hm.symm
    ·intro b hb
     rcases Ce.mp hb with hb | hb
     ·exact fas b hb
     ·simp at hb;subst hb;exact nq
    ·rw[AG apn,AH,BG];rfl
    ·refine Et (IX hpa fun b ps hb e=>?_) ?_
     ·have b1:b≠ap:=fun z=>hpas (z▸hb)
      have b2:b≠q':=by
       intro z
       rw[← z,AG b1,e] at nq'
       cases nq'
      rw[AG b2,AG b1];exact e
     ·show upd _ _ _ q=_
      rw[AG nqq];exact hq1
   ·have ezm:¬z=m:=by simpa using hz0
    rw[if_neg ezm] at hcs
    refine⟨_,rfl,.inl ⟨rfl,_,SqL.of hq⟩,_,rfl,q,_,_,rfl,rfl,hq,BN (by rw[AF];omega),?_⟩
    refine⟨some (.int z),q,as,done,p++[z],rfl,hcs,nq,hpq,hpas,hqas,fas,?_,?_,?_,s2.wr nq⟩
    ·rw[AG hpq];exact hap
    ·rw[AH,BG];rfl
    ·refine IX hpa fun b ps hb e=>?_
     have b1:b≠q:=fun z=>hqas (z▸hb)
     rw[AG b1];exact e
  ·rintro σ H' ⟨v,q,as,done,p,rfl,hc,nq,hpq,hpas,hqas,fas,hap,hq,hpa,s2⟩
   rw[AF,LI] at hc
   have hcl:=G1 m ns
   rw[hc] at hcl
   have hal:=Bb hpa
   refine⟨_,rfl,.inl ⟨rfl,_,SqL.of hap⟩,_,rfl,ap,_,_,rfl,rfl,hap,BN (by simp at hcl ⊢;omega),?_⟩
   refine⟨_,rfl,k _ ap (as++[q]) (s2.wr nap) nap ?_ ?_ ?_⟩
   ·intro b hb
    rcases Ce.mp hb with hb | hb
    ·exact fas b hb
    ·simp at hb;subst hb;exact nq
   ·rw[AH,BG];rfl
   ·rw[hc]
    refine Et (IX hpa fun b ps hb e=>?_) ?_
    ·have b1:b≠ap:=fun z=>hpas (z▸hb)
     rw[AG b1];exact e
    ·rw[AG (Af hpq)];exact hq
end
end Fb
end
section
set_option maxRecDepth 100000
set_option maxHeartbeats 4000000
namespace Fb
open PySem PySem.Spec PyProof.Rows L2
open PySem.W (Codec)
theorem G6 {J:It}{n:Nat}{g:TG}{tt:TT}{te:TE}{vs:List Nat}{σ:L2.St}{H1:Hp}{D:Addr}{Qd:Hp→Prop} (Pv:Nat→Hp→Prop) (h0:Pv 0 (upd H1 D (.lst [])))
  (hgo:∀i H,i < n→Pv i H→J.go i H) (hst:∀H,Pv n H→J.stop n H)
  (hs:∀i x H H',i < n→Pv i H→J.yld i H x H'→g x (BP σ vs) H' fun σ2 H2=>BP σ2 vs=BP σ vs∧tt σ2 H2 fun b H3 =>
   if b=true then te σ2 H3 fun y H4=>∃acc,H4 D=some (.lst acc)∧acc.length < sizeLine∧Pv (i+1) (upd H4 D (.lst (acc++[y]))) else Pv (i+1) H3) (hd:∀H,Pv n H→Qd H):
  ∃W:Nat→Nat→Hp→Prop,(∃m,W 0 m (upd H1 D (.lst [])))∧∀i m H,W i m H→
   (J.stop i H∧Qd H)∨(J.go i H∧∃Nx:Hp→Prop,(∀H',Nx H'→∃m',m' < m∧W (i+1) m' H')∧∀x H',J.yld i H x H'→g x (BP σ vs) H' fun σ2 H2=>BP σ2 vs=BP σ vs∧tt σ2 H2 fun b H3 =>
    if b=true then te σ2 H3 fun y H4=>∃acc,H4 D=some (.lst acc)∧acc.length < sizeLine∧Nx (upd H4 D (.lst (acc++[y]))) else Nx H3):=by
 refine⟨fun i m H=>i+m=n∧Pv i H,⟨n,by omega,h0⟩,fun i m H ⟨e,p⟩=>?_⟩
 by_cases hi:i < n
 ·refine .inr ⟨hgo i H hi p,Pv (i+1),fun H' q=>⟨m - 1,by omega,by omega,q⟩,fun x H' y=>hs i x H H' hi p y⟩
 ·have:i=n:=by omega
  subst this
  exact .inl ⟨hst H p,hd H p⟩
theorem FG {J:It}{n:Nat}{g:TG}{tb:TS}{D:F1}{σ:L2.St}{H:Hp} (Pv:Nat→L2.St→Hp→Prop) (h0:Pv 0 σ H)
  (hgo:∀i σ H,i < n→Pv i σ H→J.go i H) (hst:∀σ H,Pv n σ H→J.stop n H)
  (hs:∀i x σ H H',i < n→Pv i σ H→J.yld i H x H'→g x σ H' fun σ2 H2=>tb { D with nx:=Pv (i+1),ct:=Pv (i+1),bk:=D.nx } σ2 H2) (hd:∀σ H,Pv n σ H→D.nx σ H):
  ∃W:Nat→Nat→L2.St→Hp→Prop,(∃m,W 0 m σ H)∧∀i m σ H,W i m σ H→
   (J.stop i H∧D.nx σ H)∨(J.go i H∧∃N:L2.St→Hp→Prop,(∀σ' H',N σ' H'→∃m',m' < m∧W (i+1) m' σ' H')∧∀x H',J.yld i H x H'→g x σ H' fun σ2 H2=>tb { D with nx:=N,ct:=N,bk:=D.nx } σ2 H2):=by
 refine⟨fun i m σ H=>i+m=n∧Pv i σ H,⟨n,by omega,h0⟩,fun i m σ H ⟨e,p⟩=>?_⟩
 by_cases hi:i < n
 ·refine .inr ⟨hgo i σ H hi p,Pv (i+1),fun σ' H' q=>⟨m - 1,by omega,by omega,q⟩,fun x H' y=>hs i x σ H H' hi p y⟩
 ·have:i=n:=by omega
  subst this
  exact .inl ⟨hst σ H p,hd σ H p⟩
theorem EW {J:It}{n:Nat}{g:TG}{te:TE}{vs:List Nat}{σ:L2.St}{H1:Hp}{D:Addr}{Qd:Hp→Prop} (ys:List V) (hn:ys.length=n) (hsz:n < sizeLine) (hD:H1 D=none)
  (hgo:∀i H,i < n→Same H1 H→J.go i H) (hst:∀H,Same H1 H→J.stop n H)
  (hs:∀i x y H H',ys[i]?=some y→Same H1 H→J.yld i H x H'→∀R:VK,(∀H4,Same H H4→R y H4)→g x (BP σ vs) H' fun σ2 H2=>BP σ2 vs=BP σ vs∧te σ2 H2 R) (hd:∀H,Same H1 H→H D=some (.lst ys)→Qd H):
  ∃W:Nat→Nat→Hp→Prop,(∃m,W 0 m (upd H1 D (.lst [])))∧∀i m H,W i m H→
   (J.stop i H∧Qd H)∨(J.go i H∧∃Nx:Hp→Prop,(∀H',Nx H'→∃m',m' < m∧W (i+1) m' H')∧∀x H',J.yld i H x H'→g x (BP σ vs) H' fun σ2 H2=>BP σ2 vs=BP σ vs∧DH σ2 H2 fun b H3 =>
    if b=true then te σ2 H3 fun y H4=>∃acc,H4 D=some (.lst acc)∧acc.length < sizeLine∧Nx (upd H4 D (.lst (acc++[y]))) else Nx H3):=by
 refine G6 (n:=n) (tt:=DH) (te:=te) (fun i H=>Same H1 H∧H D=some (.lst (ys.take i))) ⟨(Same.refl H1).new hD,AH⟩ (fun i H hi p=>hgo i H hi p.1) (fun H p=>hst H p.1) (fun i x H H' hi p y=>?_) (fun H p=>hd H p.1 ?_)
 ·obtain⟨z,hz⟩:∃z,ys[i]?=some z:=⟨_,As (by omega)⟩
  have q:=hs i x z H H' hz p.1 y (fun y H4=>∃acc,H4 D=some (.lst acc)∧acc.length < sizeLine∧(Same H1 (upd H4 D (.lst (acc++[y])))∧upd H4 D (.lst (acc++[y])) D=some (.lst (ys.take (i+1))))) fun H4 s4=>?_
  ·have e2:(fun σ2 H2=>BP σ2 vs=BP σ vs∧DH σ2 H2 fun b H3=>if b=true then te σ2 H3 fun y H4=>∃acc,H4 D=some (.lst acc)∧acc.length < sizeLine∧(Same H1 (upd H4 D (.lst (acc++[y])))∧upd H4 D (.lst (acc++[y])) D=some (.lst (ys.take (i+1)))) else (Same H1 H3∧H3 D=some (.lst (ys.take (i+1)))))=
     fun σ2 H2=>BP σ2 vs=BP σ vs∧te σ2 H2 fun y H4=>∃acc,H4 D=some (.lst acc)∧acc.length < sizeLine∧(Same H1 (upd H4 D (.lst (acc++[y])))∧upd H4 D (.lst (acc++[y])) D=some (.lst (ys.take (i+1)))):=by
    funext σ2 H2
    simp only[DH,if_true]
   rw[e2]
   exact q
  ·refine⟨_,s4 _ _ p.2,by rw[Cn];omega,(p.1.trans s4).wr hD,?_⟩
   rw[AH,EK hz]
 ·have:=p.2
  rw[← hn,LI] at this
  exact this
theorem EE {K:AB}{a:Addr}{xs:List V}{i:Nat}{H:Hp} (h:SqL K H a xs) (hi:i < xs.length):(Itl K a).go i H:=by
 first | exact⟨xs,_,h,As hi⟩ | exact⟨xs,h,hi⟩
theorem EF {K:AB}{a:Addr}{xs:List V}{H:Hp} (h:SqL K H a xs):(Itl K a).stop xs.length H:=⟨xs,h,AO _⟩
end Fb
end
section
set_option maxRecDepth 100000
set_option maxHeartbeats 4000000
namespace Fb
open PySem PySem.Spec PyProof.Rows L2
open PySem.AutoSeq1 (wpAny_loadPart')
theorem QZ (k:Int):∀{ns:List Int}{us:List Value},Vals (ns.map V.int) us→us.countP (eqU (.int k))=ns.count k
 | [],_,r=>by rw[Fo] at r;cases r;rfl
 | n::ns,_,r=>by
  rw[Am] at r
  cases r with
  | cons h t =>
   rw[List.countP_cons,List.count_cons,QZ k t,IE h rfl]
   rfl
theorem aa {X:Cx}:MtR X "list.count" (fun x xs H Q=>∃(a:Addr) (ns:List Int) (k:Int),x=.ref a∧xs=[.int k]∧SqL X.K H a (ns.map V.int)∧Q (.int (ns.count k:Nat)) H):=by
 intro pins s σ H x xs v us Q I rx rxs h
 obtain⟨a,ns,k,rfl,rfl,hs,q⟩:=h
 cases rx
 obtain⟨uy,rfl,ry⟩:=Ii rxs
 obtain⟨its,rv,⟨⟨cls,dd,data,sl⟩,n,ho,hc,hdn,hd⟩,hlen⟩:=I.list hs
 simp only at hc hd
 subst hc hd
 refine Lr XT ⟨_,ho,rfl⟩ PySem.F.entry_list_count (PySem.F.args_list_count_2 _ _)
  (SeqAt.list_countAt a its.toArray n dd sl uy (eqU (.int k))) ⟨ho,fun u' hu'=>IT ry rfl rv (by simp[Cq]) u' (by simpa using hu'),?_⟩
 rw[show its.toArray.toList=its from rfl,QZ k rv]
 exact⟨.int (ns.count k:Nat),H,I.tok _,⟨_,rfl⟩,q⟩
theorem ZY (l b:Addr) (U W:Array Value) (n n2:Nat) (e1 e2:Option Addr) (c1 c2:Array (Option Value)) (ns ms:List Int) (hi:IntsAre U.toList ns) (hj:IntsAre W.toList ms) (k:Nat):
  ∀i:Nat,U.size - i=k→i≤U.size→i≤W.size→Meets (Builtin.«list.__eq__.loop» ⟨[.ref l,.ref b,rawInt i,rawInt 4],[]⟩)
   (fun A R s=>s.heap.get? l=some { cls:=.type "list",dict:=e1,data:=.seq U n,slots:=c1 }∧s.heap.get? b=some { cls:=.type "list",dict:=e2,data:=.seq W n2,slots:=c2 }∧
    R (.ok (.ret (.bool (HT.lexLt (ms.drop i) (ns.drop i))))) s):=by
 have z1:U.size=ns.length:=by rw[← hi.length];simp
 have z2:W.size=ms.length:=by rw[← hj.length];simp
 induction k with
 | zero =>
  intro i hk hiU hiW prog w A R s h
  obtain⟨hp,g,d,tk,os⟩:=s
  obtain⟨hl,hb,h⟩:=h
  wp_walk using Bv hl,Bv hb
  have q1:U[((i:Nat):Int).toNat]?=none:=by simp;omega
  have q2:ns.drop i=[]:=by apply Iu;omega
  rw[q2] at h
  rw[q1]
  have e:HT.lexLt (ms.drop i) []=false:=by cases ms.drop i <;> rfl
  rw[e] at h
  have q3:decide (U.size > W.size)=false:=decide_eq_false (by omega)
  split
  ·rename_i heq;cases heq
  ·wp_walk using Bv hl,Bv hb
   show R (.ok (.ret (.bool (decide (U.size > W.size))))) _
   rw[q3];exact h
 | succ k ih =>
  intro i hk hiU hiW prog w A R s h
  obtain⟨hp,g,d,tk,os⟩:=s
  obtain⟨hl,hb,h⟩:=h
  have l1:i < U.size:=by omega
  have q1:U[((i:Nat):Int).toNat]?=some U[i]:=by simp[l1]
  have d1:ns.drop i=ns[i]'(by omega)::ns.drop (i+1):=Ir (by omega)
  have hc:((i:Int)+1)=((i+1:Nat):Int):=by omega
  obtain⟨a,t,ua,ha⟩:=PyProof.Rows.IntsAre.at hi i U[i] (by simp[l1])
  have ha':ns[i]'(by omega)=a:=by
   have q:=ha
   rw[As (by omega)] at q
   exact AV q
  by_cases l2:i < W.size
  ·have q2:W[((i:Nat):Int).toNat]?=some W[i]:=by simp[l2]
   obtain⟨c,u,uc,hcm⟩:=PyProof.Rows.IntsAre.at hj i W[i] (by simp[l2])
   have hc':ms[i]'(by omega)=c:=by
    have q:=hcm
    rw[As (by omega)] at q
    exact AV q
   have d2:ms.drop i=ms[i]'(by omega)::ms.drop (i+1):=Ir (by omega)
   rw[d1,d2,HT.lexLt_cons,ha',hc'] at h
   wp_walk using Bv hl,Bv hb
   rw[q1,q2,ua,uc]
   obtain⟨e,he,hiff⟩:=HT.eqAt_int A.in1 ⟨hp,g,d,tk,os⟩ a t c u
   refine AE (he prog w _ _ ?_)
   cases e with
   | true =>
    rw[if_pos (hiff.mp rfl).symm] at h
    wp_walk
    rw[hc]
    exact⟨Fw Ll _,JP Xa (by
     rw[JL Ll _]
     exact ih (i+1) (by omega) (by omega) (by omega) prog w A R _ ⟨hl,hb,h⟩)⟩
   | false =>
    rw[if_neg (fun q=>absurd (hiff.mpr q.symm) Aj)] at h
    have hri:∀(E:Value→Shared→Prop) (Q:Value→Shared→Prop),Q (.bool (decide (c < a))) ⟨hp,g,d,tk,os⟩→wpAny (model prog w) A.in1 (richCompare .Gt (.int a t) (.int c u)) Q E ⟨hp,g,d,tk,os⟩:=fun E Q z =>
     (W0 z:wpAny (model prog w) A.in1 (compareOp .Gt (.int a t) (.int c u)) Q E _)
    wp_walk using Bv hl,Bv hb
    rw[q1,q2,ua,uc]
    wp_walk using hri
    exact h
  ·have q2:W[((i:Nat):Int).toNat]?=none:=by simp;omega
   have d2:ms.drop i=[]:=Iu (by omega)
   rw[d1,d2,HT.lexLt_nil_cons] at h
   wp_walk using Bv hl,Bv hb
   rw[q1,q2]
   have q3:decide (U.size > W.size)=true:=decide_eq_true (by omega)
   wp_walk using Bv hl,Bv hb
   show R (.ok (.ret (.bool (decide (U.size > W.size))))) _
   rw[q3];exact h
theorem aC (l b:Addr) (U W:Array Value) (n n2:Nat) (e1 e2:Option Addr) (c1 c2:Array (Option Value)) (ns ms:List Int) (hi:IntsAre U.toList ns) (hj:IntsAre W.toList ms):
  Meets (Builtin.«list.__gt__» ⟨[.ref l,.ref b],[]⟩)
   (fun A R s=>s.heap.get? l=some { cls:=.type "list",dict:=e1,data:=.seq U n,slots:=c1 }∧s.heap.get? b=some { cls:=.type "list",dict:=e2,data:=.seq W n2,slots:=c2 }∧
    R (.ok (.ret (.bool (HT.lexLt ms ns)))) s):=by
 intro prog w A R s h
 obtain⟨hp,g,d,tk,os⟩:=s
 obtain⟨hl,hb,h⟩:=h
 have f3:=AutoSeq1.sub_list_list
 wp_walk using Bv hl,Bv hb
 exact⟨Fw Ll _,JP Xa (by
  rw[JL Ll _]
  exact ZY l b U W n n2 e1 e2 c1 c2 ns ms hi hj _ 0 rfl (Au _) (Au _) prog w A R _ ⟨hl,hb,h⟩)⟩
theorem QQ {X:Cx}:EO X (.builtin "len") (fun xs H Q=>∃a kvs,xs=[V.ref a]∧H a=some (.dT kvs)∧Q (.int kvs.length) H):=by
 intro pins s σ H xs us Q I r h
 obtain⟨a,kvs,rfl,ha,q⟩:=h
 obtain⟨u,rfl,ru⟩:=Ii r
 cases ru
 obtain⟨z,hd,xs,rel,o,es,ep,ho,hc,hdat,hk,_⟩:=Qs I.hok ha
 have hl:es.size=kvs.length:=by
  rw[← Il,hk,AF]
  exact(Bb rel).symm
 have ty:s.TypeIs (.ref a) "dict":=⟨o,ho,hc.1⟩
 refine Calls.call_function_entry kind_len plain_len entry_len (args_len1 _) ?_
 unfold Builtin.«len»
 refine AE (m:=oneArg "len" _) (AL ?_)
 refine AE (m:=callSpecial? (.ref a) (Eh "__len__")) (Hr (name:=Eh "__len__") ty XS
  (JO XS ty F.entry_dict_len (F.args_dict_len_1 _) (S:=fun _ R s'=>s'=s∧R (.ok (.ret (.int kvs.length s.toks))) { s with toks:=s.toks+1 }) (.of_wp fun A R s' ⟨e,h⟩=>?_) ⟨rfl,?_⟩))
 ·subst e
  show wpAny _ _ (dictSize a >>= _) _ _ s'
  unfold dictSize
  refine AE (AE (Lu ho hdat (AL ?_)))
  show wpAny _ _ (Builtin.Dict.pendingCount a >>= _) _ _ s'
  refine AE (wpAny_pendingCount_other hd (X7 ?_))
  rw[Nat.add_zero,hl];exact h
 ·show wpAny _ _ _ _ _ { s with toks:=s.toks+1 }
  refine AE (Gq (AL (AE (Gr ?_))))
  have hz:(kvs.length:Int) < 2 ^ 63:=by rw[JQ] at z;omega
  show wpAny _ _ (if ((kvs.length:Nat):Int) < 0 then _ else _) _ _ _
  rw[if_neg (by omega)]
  show wpAny _ _ (if ((kvs.length:Nat):Int) ≥ 2 ^ 63 then _ else _) _ _ _
  rw[if_neg (by omega)]
  exact AE (wpAny_mkInt (AL ⟨_,rfl,⟨.int kvs.length,H,(I.tok _).tok _,⟨_,rfl⟩,q⟩⟩))
end Fb
end
section
set_option maxRecDepth 100000
set_option maxHeartbeats 4000000
namespace Fb
open PySem PySem.Spec PyProof.Rows L2
open PySem.AutoSeq1 (wpAny_loadPart')
section
variable {prog:Program}{w:World}{A:Around}{E:Value→Shared→Prop}{s:Shared}
theorem ay {j t:Addr}{i:Nat}{us:Array Value}{x:Value}{Q:Value→Shared→Prop} (hj:s.heap.IsTupleIter j t i) (ht:s.heap.IsTuple t us) (hx:us[i]?=some x)
  (hQ:∀g,g.IsTupleIter j t (i+1)→Gg j s.heap g→Q x { s with heap:=g }):wpAny (model prog w) A (Le (.ref j)) Q E s:=by
 obtain⟨o,p1,p2,p3⟩:=id hj
 obtain⟨ol,t1,_,nl,t2⟩:=ht
 unfold Le
 refine AE (Hr (name:=Eh "__next__") hj.typeIs Lj (Ei Lj hj.typeIs XI ?_ (XF _)))
 show wpAny _ _ (field (.ref j) 0 >>= _) _ _ s
 refine AE (Gn p1 p3 (x:=.ref t) rfl ?_)
 show wpAny _ _ (if (Ak t==Co)=true then _ else _) _ _ s
 rw[if_neg (show ¬((Ak t==Co)=true) by exact Aj)]
 show wpAny _ _ (field (.ref j) 1 >>= _) _ _ s
 refine AE (Gn p1 p3 (x:=.int i 0) rfl ?_)
 show wpAny _ _ (seqItems? (.ref t) >>= _) _ _ s
 refine AE (Ej t1 t2 ?_)
 simp only[GU,hx]
 refine AE (Ly p1 p3 (by simp) (AL ⟨x,rfl,AL (hQ _ ?_ (Lk ..))⟩))
 exact⟨_,Gh _ p1 (Xc (Lm p3 _)),(Xb ..).trans p2,by rw[Lm p3];simp[rawInt]⟩
theorem az {j t:Addr}{i:Nat}{us:Array Value}{Q:Value→Shared→Prop} (hh:A.handled=none) (hj:s.heap.IsTupleIter j t i) (ht:s.heap.IsTuple t us) (hx:us[i]?=none)
  (hE:∀g e,Heap.ExtBut j s.heap g→(∃o,g.get? e=some o∧o.cls=.type "StopIteration")→E (.ref e) { s with heap:=g }):wpAny (model prog w) A (Le (.ref j)) Q E s:=by
 obtain⟨o,p1,p2,p3⟩:=id hj
 obtain⟨ol,t1,_,nl,t2⟩:=ht
 unfold Le
 refine AE (Hr (name:=Eh "__next__") hj.typeIs Lj (Ei Lj hj.typeIs XI ?_ (XF _)))
 show wpAny _ _ (field (.ref j) 0 >>= _) _ _ s
 refine AE (Gn p1 p3 (x:=.ref t) rfl ?_)
 show wpAny _ _ (if (Ak t==Co)=true then _ else _) _ _ s
 rw[if_neg (show ¬((Ak t==Co)=true) by exact Aj)]
 show wpAny _ _ (field (.ref j) 1 >>= _) _ _ s
 refine AE (Gn p1 p3 (x:=.int i 0) rfl ?_)
 show wpAny _ _ (seqItems? (.ref t) >>= _) _ _ s
 refine AE (Ej t1 t2 ?_)
 simp only[GU,hx]
 refine AE (JU (AE (Ly p1 p3 (by simp) ?_)))
 show wpAny _ _ (newExc (.type "StopIteration") [] >>= _) _ _ _
 refine AE ?_
 simp only[newExc,newTuple]
 refine AE (Gs ?_ (by size_fits))
 refine AE (m:=firstArgMember _ _) (Lv (a:=Co) (by first | rfl | (simp only[firstArgMember] <;> rfl)) ?_)
 refine Gs ?_ (by size_fits)
 simp only[raiseNew]
 refine AE (wpAny_handled ?_)
 first | rw[show A.in1.handled=none by exact hh] | rw[hh]
 refine AE (AL (wpAny_throw ?_))
 exact hE _ _ (((Lk ..).extBut.push _).push _) ⟨_,BH _ rfl,rfl⟩
theorem Qr (hh:A.handled=none) (j t:Addr) (hne:t≠j) (us:Array Value):Draws prog w A j [j,t] us.size (fun i v=>us[i]?=some v) (fun i h=>h.IsTupleIter j t i∧h.IsTuple t us) where
 live:=fun i h ⟨⟨o,e,_⟩,_⟩=>⟨o,e⟩
 frame:=fun i h h' st k=>⟨st.1.at fun o e=>k j (by simp) o e,st.2.at fun o e=>k t (by simp) o e⟩
 item:=fun i s Q E hi st hQ=>ay st.1 st.2 (x:=us[i]) (by simp[hi]) fun g g1 g2=>hQ _ g s.toks (by simp[hi]) ⟨g1,st.2.extBut g2.extBut hne⟩ g2
 done:=fun s Q E st hE=>az hh st.1 st.2 (by simp) fun g e g1 g2=>hE g e g1 g2
theorem ZH (l:Addr) (us:Array Value) (n:Nat) (dct:Option Addr) (sl:Array (Option Value)):
  Meets (Builtin.«enumerate.__new__» ⟨[.type "enumerate",.ref l],[]⟩) (fun _ R s=>s.heap.get? l=some { cls:=.type "tuple",dict:=dct,data:=.seq us n,slots:=sl }∧
   R (.ok (.ret (.ref (s.heap.push { cls:=.type "tuple_iterator",data:=.fields #[.ref l,.int 0 0] }).objs.size)))
    { s with heap:=(s.heap.push { cls:=.type "tuple_iterator",data:=.fields #[.ref l,.int 0 0] }).push { cls:=.type "enumerate",data:=.fields #[.none,.bool false,.ref s.heap.objs.size,rawInt 0,.none,.none] } }) :=
 .of_wp fun prog w A R s h=>by
  obtain⟨hp,g,d,tk,os⟩:=s;obtain⟨t1,h⟩:=h
  have hsub:=sub_enumerate
  have t2:Heap.IsTuple (Shared.heap ⟨hp,g,d,tk,os⟩) l us:=⟨_,t1,rfl,n,rfl⟩
  wp_walk using Bv t1
  refine wpAny_stack_any fun st=>AL ?_
  split
  ·rename_i c _ _ _ _ _
   cases (c==DL "enumerate")
   ·wp_walk using Bv t1,Lx t2
    exact⟨_,rfl,h⟩
   ·wp_walk using Bv t1,Lx t2
    exact⟨_,rfl,h⟩
  ·wp_walk using Bv t1,Lx t2
   exact⟨_,rfl,h⟩
theorem Yb {l:Addr}{us:Array Value}{Q:Value→Shared→Prop} (hL:s.heap.IsTuple l us)
  (h:∀h',IsEnum h' (s.heap.objs.size+1) s.heap.objs.size 0 .none→h'.IsTupleIter s.heap.objs.size l 0→h'.objs.size=s.heap.objs.size+2→(∀b o,s.heap.get? b=some o→h'.get? b=some o)→Q (.ref (s.heap.objs.size+1)) { s with heap:=h' }):
  wpAny (model prog w) A (call (.type "enumerate") [.ref l]) Q E s:=by
 obtain⟨⟨c,dct,dt,sl⟩,t1,t3,n,t4⟩:=hL
 replace t3:c=.type "tuple":=t3
 replace t4:dt=.seq us n:=t4
 subst t3 t4
 refine callType_new F.called_enumerate (by decide) (F.typeCall_enumerate_1 _) (F.newCall_enumerate_1 _) (fun obj=>F.args_object_init_2 obj _) F.entry_enumerate_new (ZH l us n dct sl) ⟨t1,?_⟩
 have hz:(s.heap.push { cls:=.type "tuple_iterator",data:=.fields #[.ref l,.int 0 0] }).objs.size=s.heap.objs.size+1:=Ct ..
 show _∧_
 rw[hz]
 have he:IsEnum ((s.heap.push { cls:=.type "tuple_iterator",data:=.fields #[.ref l,.int 0 0] }).push
   { cls:=.type "enumerate",data:=.fields #[.none,.bool false,.ref s.heap.objs.size,rawInt 0,.none,.none] }) (s.heap.objs.size+1) s.heap.objs.size 0 .none:=by
  have:=BH (s.heap.push { cls:=.type "tuple_iterator",data:=.fields #[.ref l,.int 0 0] }) (o:={ cls:=.type "enumerate",data:=.fields #[.none,.bool false,.ref s.heap.objs.size,rawInt 0,.none,.none] }) rfl
  rw[hz] at this
  exact this
 exact⟨⟨_,he,rfl⟩,h _ he ⟨_,A2 _ (BH _ rfl),rfl,rfl⟩ (by rw[Ct,hz]) fun b o x=>A2 _ (A2 _ x)⟩
end
def P7 (K:AB) (a:Addr):It :=
 ⟨fun i H=>∃(xs:List V) (x:V),SqT K H a xs∧xs[i]?=some x,fun i H v H'=>∃T x,v=.ref T∧H T=none∧H'=upd H T (.tup [.int (i:Nat),x])∧∀xs,SqT K H a xs→xs[i]?=some x,fun i H=>∃xs:List V,SqT K H a xs∧xs.length=i⟩
theorem fG {P:Program}{w:World}{K:AB}{elts:List Expr}{kk:Nat}{tpos:Pos} (a e it:Addr):
  Dh P w K (.Tuple elts kk tpos) (P7 K a) [e,it] e (fun i h=>(∃old,IsEnum h e it ((i:Nat):Int) old)∧h.IsTupleIter it a i∧e≠it∧a≠it∧e≠a) where
 mem:=by simp
 obj:=fun i h st b hb=>by
  obtain⟨⟨old,he⟩,⟨o,ho,hc,hd⟩,_⟩:=st
  have e':b=e∨b=it:=by simpa using hb
  rcases e' with z | z
  ·rw[z];exact⟨_,he,fun v q=>nomatch q⟩
  ·rw[z];exact⟨o,ho,fun v q=>by rw[hd] at q;cases q⟩
 keep:=fun i h h' st k=>let ⟨⟨old,he⟩,hi,hne⟩:=st;⟨⟨old,k e (by simp) _ he⟩,hi.at fun o q=>k it (by simp) o q,hne⟩
 item:=by
  intro X hP hw hK hc i pins s σ H E I hf st hg
  subst hP hw hK
  obtain⟨⟨old,he⟩,hit,hne,hai,hea⟩:=st
  obtain⟨xs,x,hq,hx⟩:=hg
  obtain⟨its,rv,p,hz⟩:=I.tuple hq
  obtain⟨u,hu,ru⟩:=rv.get hx
  have hel:e < s.heap.objs.size:=Ah he
  have hil:it < s.heap.objs.size:=by obtain⟨_,q,_⟩:=hit;exact Ah q
  have hlt:i < its.toArray.size:=by
   have:=(Be.mp hu).1
   simpa using this
  refine wpAny_pyNext_enum_itemD (Qr (prog:=X.prog) (w:=X.w) (A:=X.A.in1) (show X.A.in1.handled=none from I.ok.hd hc) it a hai its.toArray) he ⟨hit,p⟩ hlt hne (by simp[hne,hea]) fun y h' tk hy ho hit' hT hsz hk=>?_
  have ey:y=u:=by
   have:its.toArray[i]?=some u:=by simpa using hu
   exact AV (hy.symm.trans this)
  subst ey
  refine⟨_,rfl,X2 (s:={ s with heap:=h',toks:=tk+1 }) ho fun h'' he' sb=>?_⟩
  have hT2:h''.get? s.heap.objs.size=some { cls:=.type "tuple",data:=.seq #[.int i tk,y] }:=(sb.2 _ (LQ hel)).trans hT
  have new:ObjOk X.prog X.w (upd H s.heap.objs.size (.tup [.int (i:Nat),x])) h'' s.heap.objs.size (.tup [.int (i:Nat),x]) :=
   ⟨by show 2≤sizeLine;decide,[.int i tk,y],.cons ⟨_,rfl⟩ (.cons ru .nil),⟨_,hT2,rfl,_,rfl⟩⟩
  have I1:Inv X pins σ (upd H s.heap.objs.size (.tup [.int (i:Nat),x])) { s with heap:=h'',toks:=tk+1 } :=
   I.turnedNew (ch:=[e,it]) (fun b ob hb q=>(sb.2 b (fun z=>hb (by simp[z]))).trans (hk b ob (fun z=>hb (by simp[z])) (fun z=>hb (by simp[z])) q)) hf (AO _) new
  refine⟨.ref s.heap.objs.size,_,I1,rfl,⟨_,x,rfl,I.hok.fresh (AO _),rfl,fun ys hy=>by rw[I.tuple_inj hy hq];exact hx⟩,⟨⟨y,?_⟩,hit'.1.at fun o q=>(sb.2 it (Af hne)).trans q,hne,hai,hea⟩,fun b hb=>?_⟩
  ·have e1:((i+1:Nat):Int)=(i:Int)+1:=by omega
   rw[e1];exact he'
  ·have hb':b < s.heap.objs.size:=by
    have e':b=e∨b=it:=by simpa using hb
    rcases e' with z | z
    ·rw[z];exact hel
    ·rw[z];exact hil
   rw[AG (BO hb')]
   exact(hf b hb).1
 done:=by
  intro X hP hw hK hc i pins s σ H E I hf st hg
  subst hP hw hK
  obtain⟨⟨old,he⟩,hit,hne,hai,hea⟩:=st
  obtain⟨xs,hq,hx⟩:=hg
  obtain⟨its,rv,p,hz⟩:=I.tuple hq
  obtain⟨f0,f1,f2,f3,f4,f5⟩:=hf it (by simp)
  have hl:=rv.length
  have ei:i=its.toArray.size:=by simp;omega
  exact wpAny_pyNext_enum_endD (Qr (prog:=X.prog) (w:=X.w) (A:=X.A.in1) (show X.A.in1.handled=none from I.ok.hd hc) it a hai its.toArray) he ⟨by rw[← ei];exact hit,p⟩ fun h' eb=>⟨rfl,I.turned (t':=s.toks) (fun b o hb q=>eb b o hb q) f0 f1 f3 f4 f5⟩
 self:=fun A i s Q E st h=>let ⟨⟨_,he⟩,_⟩:=st;Lw he h
def Ze (K:AB) (ta:TA):TI:=fun σ H R=>ta σ H fun vs H1=>∃a xs,vs=[.ref a]∧SqT K H1 a xs∧R (P7 K a) H1
theorem bh {X:Cx}{e:Expr}{ta:TA}{p pos tpos:Pos}{elts:List Expr}{kk:Nat} (hg:Gl X "enumerate") (hm:X.mg "enumerate"=none) (ha:PA X [e] ta) (hs:starEach [e] X.env=[(false,eval e X.env)]:=by rfl):
  PI X (.Tuple elts kk tpos) (.Call (.Name "enumerate" p) [e] [] pos) (Ze X.K ta):=by
 intro pins s σ H R I h
 refine Call_ (Er I hg hm boot_enumerate (Fq (thn (ha pos pins s σ H _ I h) fun us s1 ⟨vs,H1,I1,r1,q1⟩=>?_) hs rfl))
 obtain⟨a,xs,ex,hq,q⟩:=q1
 subst ex
 cases r1 with
 | cons r rr =>
  cases rr
  cases r
  obtain⟨its,rv,p',hz⟩:=I1.tuple hq
  have al:a < s1.heap.objs.size:=by obtain⟨_,z,_⟩:=p';exact Ah z
  refine Yb p' fun h' he hit hsz hk=>Lw he ?_
  have I2:Inv X pins σ H1 { s1 with heap:=h' }:=I1.kept (t':=s1.toks) hk
  refine⟨s1.heap.objs.size+1,[s1.heap.objs.size+1,s1.heap.objs.size],_,_,H1,rfl,I2,fG a (s1.heap.objs.size+1) s1.heap.objs.size,⟨⟨.none,he⟩,hit,Wx _,BO al,LQ (LN al)⟩,fun b hb=>?_,q⟩
  have e':b=s1.heap.objs.size+1∨b=s1.heap.objs.size:=by simpa using hb
  have hle:s1.heap.objs.size≤b:=by
   rcases e' with z | z
   ·rw[z];exact LK _ _
   ·rw[z];exact AO _
  exact I1.fpOk hle (I1.hok.fresh hle)
end Fb
end
section
set_option maxRecDepth 100000
set_option maxHeartbeats 4000000
namespace Fb
open PySem PySem.Spec PyProof.Rows L2
def Cst (mg:Str→Option Value) (x:Str) (v:V):Prop:=∃u,mg x=some u∧RelV v u
theorem AW {X:Cx}{x:Str}{v:V}{pos:Pos} (h:Cst X.mg x v) (hg:Gl X x) (hd:(x==("__debug__":Str))=false:=by decide):PE X (.Name x pos) (tC v):=by
 obtain⟨u,h1,h2⟩:=h
 exact bY hg h1 h2 hd
structure Blt (mg:Str→Option Value):Prop where
 ord:mg "ord"=none
 len:mg "len"=none
 all:mg "all"=none
 any:mg "any"=none
 enumerate:mg "enumerate"=none
 reversed:mg "reversed"=none
 tuple:mg "tuple"=none
 range:mg "range"=none
def FF (H:Hp) (Q:VK) (ns:List Int):Prop:=∀(H':Hp) (p:Addr),Same H H'→H p=none→H' p=some (.lst (ns.map V.int))→Q (.ref p) H'
abbrev Nq:Stmt:=Uu
def BW (x:Str):List Int:=x.cps.toList.map fun (c:Nat)=>(c:Int)
def Ic:Sp:=fun vs H Q _=>∃x:Str,vs=[.str x]∧x.cps.size < 1000∧FF H Q (BW x)
theorem scLetters:Ab ["word","letter"] ["word"] (AK Nq):=⟨rfl,rfl,rfl,by decide +kernel,rfl,by decide +kernel,by decide +kernel⟩
section
variable {P:Program}{w:World}{K:AB}{mg:Str→Option Value}{base:Heap}
theorem ok_letters {f:Addr}{fd:FuncData} (F:Fun K "letters" "letters" Nq f fd) (B:Blt mg):FnOk P w K mg base CX0 1 f fd ["word"] Ic:=by
 refine F.ok scLetters (fun vs H Q E h=>?_) (fun cdv A outer s H vs Q E hr h=>?_)
 ·obtain⟨x,rfl,_⟩:=h
  rfl
 ·obtain⟨x,rfl,hx,k⟩:=h
  refine⟨_,AJ (AM (DA (own:=[("letter",1)]) rfl scLetters.nd (bq (pv 0)) (Cu (N:=["word","letter"]) (sc:=AK Nq) (by decide +kernel)) (fun s H C cl fp=>BJ (i:=1) scLetters.nd rfl (AQ rfl)) (fun s H C cl fp=>DC)
   (fun s H C cl fp=>A4 Gz (by rfl) B.ord Hk (AA (pv 1) AD)))),?_⟩
  refine⟨_,rfl,x,rfl,fun D hD=>?_⟩
  refine EW (n:=x.cps.size) ((BW x).map V.int) (by simp[BW]) (BN (by omega)) hD (fun i H hi _=>hi) (fun H _=>AO _) ?_ ?_
  ·rintro i y z H1 H2 hz s1 ⟨rfl,c,hc,rfl⟩ R hR
   refine⟨rfl,_,rfl,_,rfl,rfl,?_⟩
   have:z=V.int ((c:Nat):Int):=by
    simp[BW] at hz
    obtain⟨c',hc',rfl⟩:=hz
    rw[hc] at hc'
    cases hc'
    rfl
   subst this
   exact hR _ (Same.refl _)
  ·intro H' s1 hd
   exact k H' D s1 hD hd
theorem nf {b:Bool} (h:¬b=true):b=false:=by
 cases b with
 | false=>rfl
 | true=>exact(h rfl).elim
def Pur (H:Hp) (Q:VK) (v:V):Prop:=∀H':Hp,Same H H'→Q v H'
abbrev Tw:Stmt:=Ui
def Vg:Sp:=fun vs H Q _=>∃b:Int,vs=[.int b]∧Pur H Q (.bl (FO b))
theorem dJ:Ab ["byte"] ["byte"] (AK Tw):=⟨rfl,rfl,rfl,by decide +kernel,rfl,by decide +kernel,by decide +kernel⟩
theorem ok_nameByte {f:Addr}{fd:FuncData} (F:Fun K "is_name_byte" "is_name_byte" Tw f fd) (B:Blt mg):FnOk P w K mg base CX0 1 f fd ["byte"] Vg:=by
 refine F.ok dJ (fun vs H Q E h=>?_) (fun cdv A outer s H vs Q E hr h=>?_)
 ·obtain⟨x,rfl,_⟩:=h
  rfl
 ·obtain⟨b,rfl,k⟩:=h
  refine⟨_,AJ (AM (bg (HC Cg Cg (A4 Gz (by rfl) B.ord Hk (AA EJ AD)) (pv 0) (A4 Gz (by rfl) B.ord Hk (AA EJ AD)))
   (FR (HC Cg Cg (A4 Gz (by rfl) B.ord Hk (AA EJ AD)) (pv 0) (A4 Gz (by rfl) B.ord Hk (AA EJ AD)))))),?_⟩
  have kk:=k H (Same.refl H)
  unfold FO at kk
  have two:∀R:VK,R (.bl (decide (48≤b)&&decide (b≤57))) H→OE (rI0 fun i j=>V.bl (decide (i≤j))) (rI0 fun i j=>V.bl (decide (i≤j)))
    (tCB (fun xs H Q=>∃x,xs=[V.str x]∧x.length=1∧Q (V.int ((x.cps.getD 0 0:Nat):Int)) H) (C2 (tC (V.str (Eh "0"))) Dy)) (CV 0)
    (tCB (fun xs H Q=>∃x,xs=[V.str x]∧x.length=1∧Q (V.int ((x.cps.getD 0 0:Nat):Int)) H) (C2 (tC (V.str (Eh "9"))) Dy)) (L2.start ["byte"] [V.int b]) H R:=fun R hR=>by
   refine⟨_,rfl,rfl,_,rfl,_,_,rfl,rfl,_,rfl,FJ (fun h1=>?_) (fun h1=>?_)⟩
   ·refine⟨_,rfl,rfl,_,_,rfl,rfl,?_⟩
    have e:decide (48≤b)=true:=h1
    rw[e] at hR
    exact hR
   ·have e:decide (48≤b)=false:=nf h1
    rw[e] at hR
    exact hR
  refine⟨_,rfl,rfl,_,rfl,_,_,rfl,rfl,_,rfl,FJ (fun h1=>?_) (fun h1=>?_)⟩
  ·have e:decide (65≤b)=true:=h1
   rw[e] at kk
   refine⟨_,rfl,rfl,_,_,rfl,rfl,_,rfl,FJ (fun h2=>?_) (fun h2=>?_)⟩
   ·have e2:decide (b≤90)=true:=h2
    rw[e2] at kk
    exact kk
   ·have e2:decide (b≤90)=false:=nf h2
    rw[e2] at kk
    exact two Q kk
  ·have e:decide (65≤b)=false:=nf h1
   rw[e] at kk
   exact⟨_,rfl,KA (two Q kk)⟩
end
end Fb
end
section
set_option maxRecDepth 100000
set_option maxHeartbeats 4000000
namespace Fb
open PySem PySem.Spec PyProof.Rows L2
theorem e0 {X:Cx}:F2 CX0 X E0:=HB
theorem Cb {α β:Type}{F:α→β→Prop}:∀{l₁:List α}{l₂:List β}{i:Nat}{b:β},Paired F l₁ l₂→l₂[i]?=some b→∃a,l₁[i]?=some a∧F a b
 | _,_,_,_,.nil,h=>by simp at h
 | _,_,0,_,.cons r t,h=>by simp at h;subst h;exact⟨_,rfl,r⟩
 | _,_,i+1,b,.cons r t,h=>by
  obtain⟨a,h1,h2⟩:=Cb (i:=i) (b:=b) t (by simpa using h)
  exact⟨a,by simpa using h1,h2⟩
theorem FQ {X:Cx}{e:Expr}{f:Str}{pos:Pos}{ta:TE} (K:AB) (hK:X.K=K) (he:PE X e ta) (hb:attributeBase e f X.env (eval e X.env)=eval e X.env):PE X (.Attribute e f pos) (Kx K ta f):=by
 subst hK
 exact An he hb
theorem Na {X:Cx}{a b:Expr}{pos:Pos}{ta tb:TE} (K:AB) (hK:X.K=K) (ha:PE X a ta) (hb:PE X b tb) (hs:QA b):PE X (.Subscript a b pos) (tOp (S5 K) ta tb):=by
 subst hK
 exact CC B1 ha hb hs
theorem BM {K:AB}{H:Hp}{a:Addr}{ns:List Int} (h:SqL K H a (ns.map V.int)):Dp K H (.ref a) (.list (ns.map DK)):=by
 refine .lst h ?_
 clear h
 induction ns with
 | nil=>exact .nil
 | cons n r ih=>exact .cons (.int n) ih
theorem QT:∀ns:List Int,PY (ns.map DK)=true
 | []=>rfl
 | n::r=>by
  show(PyData.canLay0 (.int n)&&PY (r.map DK))=true
  rw[QT r]
  rfl
theorem Ql:∀ns:List Int,PZ (ns.map DK)=0
 | []=>rfl
 | n::r=>by
  show max (PyData.depth (.int n)) (PZ (r.map DK))=0
  rw[Ql r]
  rfl
theorem BF (ns:List Int):JN (.list (ns.map DK))=true:=by
 show(PY (ns.map DK)&&decide (PZ (ns.map DK)+1≤64))=true
 rw[QT,Ql]
 rfl
theorem Cw:∀a b:List Int,Fu (.list (a.map DK)) (.list (b.map DK))=decide (a=b):=by
 have key:∀a b:List Int,PyData.eqvAll (a.map DK) (b.map DK)=decide (a=b):=by
  intro a
  induction a with
  | nil =>
   intro b
   cases b with
   | nil=>rfl
   | cons y s=>rfl
  | cons x r ih =>
   intro b
   cases b with
   | nil=>rfl
   | cons y s =>
    show(Fu (.int x) (.int y)&&PyData.eqvAll (r.map DK) (s.map DK))=_
    rw[ih s]
    have:Fu (.int x) (.int y)=decide (x=y):=by
     first | rfl | (unfold Fu;simp) | (simp[Fu])
    rw[this,C5]
    simp
 intro a b
 first | exact key a b | (unfold Fu;exact key a b)
abbrev Nl:Stmt:=Uh
def Ks (K:AB):Sp:=fun vs H Q _=>∃(a:Addr) (ns:List Int),vs=[.ref a]∧SqL K H a (ns.map V.int)∧ns.length < 100000∧Pur H Q (.bl (ED ns))
theorem scIsName:Ab ["word","byte"] ["word"] (AK Nl):=⟨rfl,rfl,rfl,by decide +kernel,rfl,by decide +kernel,by decide +kernel⟩
section
variable {P:Program}{w:World}{K:AB}{mg:Str→Option Value}{base:Heap}
theorem ok_isName {f:Addr}{fd:FuncData} (F:Fun K "is_name" "is_name" Nl f fd) (B:Blt mg) (c1:Cst mg "LONGEST_NAME" (.int 8)) (g1:Has P w K mg "is_name_byte" 1 ["byte"] Vg):FnOk P w K mg base CX0 2 f fd ["word"] (Ks K):=by
 refine F.ok scIsName (fun vs H Q E h=>?_) (fun cdv A outer s H vs Q E hr h=>?_)
 ·obtain⟨a,x,rfl,_⟩:=h
  rfl
 ·obtain⟨a,ns,rfl,hS,hlen,k⟩:=h
  refine⟨_,AJ (AM (FP (HC Cg Cg AS (A4 Bx (by rfl) B.len Bq (AA (pv 0) AD)) (AW c1 rfl))
   (FR (A4 (Jk rfl) (by rfl) B.all La (AA (DA (own:=[("byte",1)]) rfl scIsName.nd (Cy (pv 0)) (Cu (N:=["word","byte"]) (sc:=AK Nl) (by decide +kernel)) (fun s H C cl fp=>BJ (i:=1) scIsName.nd rfl (AQ rfl)) (fun s H C cl fp=>DC)
    (fun s H C cl fp=>AN g1 hr (by rfl) (AA (pv 1) AD))) AD))))),?_⟩
  refine⟨_,rfl,a,_,rfl,.inl hS,_,_,rfl,rfl,_,rfl,FJ (fun h1=>?_) (fun h1=>?_)⟩
  ·have h1':1≤ns.length:=by
    have:(1:Int)≤((ns.map V.int).length:Nat):=of_decide_eq_true h1
    rw[AF] at this
    omega
   refine⟨_,_,rfl,rfl,_,rfl,FJ (fun h2=>?_) (fun h2=>?_)⟩
   ·have h2':ns.length≤8:=by
     have:(((ns.map V.int).length:Nat):Int)≤8:=of_decide_eq_true h2
     rw[AF] at this
     omega
    refine⟨_,rfl,a,rfl,⟨_,hS⟩,fun D hD=>?_⟩
    refine EW (n:=(ns.map V.int).length) ((ns.map FO).map V.bl) (by simp) (BN (by rw[AF];omega)) hD (fun i H hi s1=>EE (s1.seq hS) hi) (fun H s1=>EF (s1.seq hS)) ?_ ?_
    ·rintro i y z H1 H2 hz s1 ⟨rfl,hy⟩ R hR
     obtain⟨n,hn,rfl⟩:=Ep (hy _ (s1.seq hS))
     refine⟨rfl,_,rfl,n,rfl,?_⟩
     have:z=V.bl (FO n):=by
      rw[AX,AX,hn] at hz
      exact(AV hz).symm
     subst this
     exact hR
    ·intro H' s1 hd
     refine⟨D,ns.map FO,rfl,SqL.of hd,?_⟩
     have:=k H' s1
     unfold ED at this
     rw[decide_eq_true h1',decide_eq_true h2'] at this
     rw[GV]
     exact this
   ·have h2':¬ns.length≤8:=fun q=>h2 (decide_eq_true (by rw[AF];show((ns.length:Nat):Int)≤8;omega))
    have:=k H (Same.refl H)
    unfold ED at this
    rw[decide_eq_false h2',GO] at this
    exact this
  ·have h1':¬1≤ns.length:=fun q=>h1 (decide_eq_true (by rw[AF];show(1:Int)≤((ns.length:Nat):Int);omega))
   have:=k H (Same.refl H)
   unfold ED at this
   rw[decide_eq_false h1',Cr] at this
   exact⟨_,rfl,KA this⟩
abbrev Tz:Stmt:=Uj
def G8 (x:Str) (ns:List Int):Bool:=match Ao 32 ns with
 | [a,b]=>decide (a=BW x)&&ED b
 | _=>false
def N9 (K:AB):Sp:=fun vs H Q _=>∃(a:Addr) (ns:List Int) (x:Str),vs=[.ref a,.str x]∧SqL K H a (ns.map V.int)∧ns.length < 100000∧x.cps.size < 1000∧Pur H Q (.bl (G8 x ns))
theorem scNaming:Ab ["line","first","words"] ["line","first"] (AK Tz):=⟨rfl,rfl,rfl,by decide +kernel,rfl,by decide +kernel,by decide +kernel⟩
theorem ok_naming {f:Addr}{fd:FuncData} (F:Fun K "is_naming_line" "is_naming_line" Tz f fd) (B:Blt mg) (c1:Cst mg "BLANK" (.int 32)) (g1:Has P w K mg "split_at" 1 ["mark","values"] (E1 K))
  (g2:Has P w K mg "letters" 1 ["word"] Ic) (g3:Has P w K mg "is_name" 2 ["word"] (Ks K)):FnOk P w K mg base CX0 3 f fd ["line","first"] (N9 K):=by
 refine F.ok scNaming (fun vs H Q E h=>?_) (fun cdv A outer s H vs Q E hr h=>?_)
 ·obtain⟨a,ns,x,rfl,_⟩:=h
  rfl
 ·obtain⟨a,ns,x,rfl,hS,hlen,hx,k⟩:=h
  have hr1:Room 1 _:=hr.mono (by decide)
  refine⟨_,AI (Ap (i:=2) scNaming.nd rfl (AQ rfl) (AN g1 hr1 (by rfl) (AA (AW c1 rfl) (AA (pv 0) AD))))
   (AJ (AM (FP (Dm Ba (A4 Bx (by rfl) B.len Bq (AA (pv 2) AD)) AS (Ac _))
    (FP (Dm (GI hr.units) (CC B1 (pv 2) AS (fun _ _=>rfl)) (AN g2 hr1 (by rfl) (AA (pv 1) AD)) (Ac _))
    (FR (AN g3 hr (by rfl) (AA (CC B1 (pv 2) AS (fun _ _=>rfl)) AD))))))),?_⟩
  refine⟨_,rfl,a,32,ns,rfl,hS,hlen,fun H1 p as s1 np nas hp hpa=>?_⟩
  refine⟨_,rfl,p,_,rfl,.inl (SqL.of hp),rfl,_,rfl,FJ (fun h1=>?_) (fun h1=>?_)⟩
  ·have h1':as.length=2:=by
    have:V.int ((as.map V.ref).length:Nat)=V.int 2:=of_decide_eq_true h1
    injection this with this
    rw[AF] at this
    omega
   have hl:=Bb hpa
   match as,h1',hc:Ao 32 ns with
   | [a0,a1],_,cz =>
    rw[hc] at hpa
    match cz,hpa with
    | [w0,w1],.cons p0 (.cons p1 .nil) =>
     have ez:G8 x ns=(decide (w0=BW x)&&ED w1):=by unfold G8;rw[hc]
     have hw0:=Eu 32 ns w0 (by rw[hc];simp)
     have hw1:=Eu 32 ns w1 (by rw[hc];simp)
     refine⟨_,rfl,p,_,_,_,rfl,rfl,SqL.of hp,Bw (j:=0) rfl,_,rfl,x,rfl,hx,fun H2 q s2 nq hq=>?_⟩
     refine⟨_,_,BM (SqL.of (s2 _ _ p0)),BM (SqL.of hq),BF _,BF _,?_⟩
     rw[Cw]
     refine⟨_,rfl,FJ (fun h2=>?_) (fun h2=>?_)⟩
     ·refine⟨_,rfl,p,_,_,_,rfl,rfl,SqL.of (s2 _ _ hp),Bw (j:=1) rfl,a1,w1,rfl,SqL.of (s2 _ _ p1),by omega,fun H3 s3=>?_⟩
      have:=k H3 ((s1.trans s2).trans s3)
      rw[ez,show decide (w0=BW x)=true from h2,D0] at this
      exact this
     ·have:=k H2 (s1.trans s2)
      rw[ez,nf h2,Cr] at this
      exact this
  ·have hl:=Bb hpa
   have ez:G8 x ns=false:=by
    unfold G8
    split
    ·rename_i b c hc
     rw[hc] at hl
     exact absurd (decide_eq_true (by rw[AF,hl];rfl)) h1
    ·rfl
   have:=k H1 s1
   rw[ez] at this
   exact this
abbrev Tx:Stmt:=Ux
def N8 (K:AB):Sp:=fun vs H Q _=>∃(a:Addr) (ns n:List Int),vs=[.ref a]∧SqL K H a (ns.map V.int)∧ns.length < 100000∧(Ao 32 ns)[1]?=some n∧FF H Q n
theorem dM:Ab ["line"] ["line"] (AK Tx):=⟨rfl,rfl,rfl,by decide +kernel,rfl,by decide +kernel,by decide +kernel⟩
theorem ok_named {f:Addr}{fd:FuncData} (F:Fun K "named" "named" Tx f fd) (c1:Cst mg "BLANK" (.int 32)) (g1:Has P w K mg "split_at" 1 ["mark","values"] (E1 K)):FnOk P w K mg base CX0 2 f fd ["line"] (N8 K):=by
 refine F.ok dM (fun vs H Q E h=>?_) (fun cdv A outer s H vs Q E hr h=>?_)
 ·obtain⟨a,ns,n,rfl,_⟩:=h
  rfl
 ·obtain⟨a,ns,n,rfl,hS,hlen,hn,k⟩:=h
  refine⟨_,AJ (AM (CC B1 (AN g1 hr (by rfl) (AA (AW c1 rfl) (AA (pv 0) AD))) AS (fun _ _=>rfl))),?_⟩
  refine⟨_,rfl,a,32,ns,rfl,hS,hlen,fun H1 p as s1 np nas hp hpa=>?_⟩
  obtain⟨b,hb,hbn⟩:=Cb hpa hn
  refine⟨p,_,_,_,rfl,rfl,SqL.of hp,Bw (j:=1) (v:=V.ref b) (by rw[AX,hb];rfl),?_⟩
  exact k H1 b s1 (nas b (CZ hb)) hbn
abbrev Tb:Stmt:=UT
def N0 (K:AB):Sp:=fun vs H Q _=>∃(a:Addr) (ns:List Int),vs=[.ref a]∧SqL K H a (ns.map V.int)∧Pur H Q (.int (ns.count 10:Nat))
theorem c9:Ab ["text"] ["text"] (AK Tb):=⟨rfl,rfl,rfl,by decide +kernel,rfl,by decide +kernel,by decide +kernel⟩
theorem ok_count {f:Addr}{fd:FuncData} (F:Fun K "count_lines" "count_lines" Tb f fd) (c1:Cst mg "LINE_END" (.int 10)):FnOk P w K mg base CX0 1 f fd ["text"] (N0 K):=by
 refine F.ok c9 (fun vs H Q E h=>?_) (fun cdv A outer s H vs Q E hr h=>?_)
 ·obtain⟨a,ns,rfl,_⟩:=h
  rfl
 ·obtain⟨a,ns,rfl,hS,k⟩:=h
  refine⟨_,AJ (AM (DS Df XT PySem.F.type_list_count aa (pv 0) (AA (AW c1 rfl) AD))),?_⟩
  exact⟨_,rfl,.inl ⟨rfl,_,hS⟩,a,ns,10,rfl,rfl,hS,k H (Same.refl H)⟩
end
end Fb
end
section
set_option maxRecDepth 100000
set_option maxHeartbeats 4000000
namespace Fb
open PySem PySem.Spec PyProof.Rows L2
def kf (r:Int) (l:V) (c s k:Int):List (Str×V):=[("rank",.int r),("label",l),("copies",.int c),("shape",.int s),("look",.int k)]
def MC (H:Hp) (lv:V):ZLab→Prop
 | .sign n=>∃t,lv=.ref t∧H t=some (.tup (n.map V.int))
 | .same k=>lv=.int k
 | .ans=>lv=.int 0
def KindAt (CK:Addr) (H:Hp) (a:Addr) (z:ZK):Prop:=∃(dx:Addr) (lv:V),H a=some (.ins CK dx (kf z.lab.rank lv z.copies z.shape z.look))∧MC H lv z.lab
theorem KindAt.same {CK:Addr}{H H':Hp}{a:Addr}{z:ZK} (s:∀b o,H b=some o→(∀xs,o≠.lst xs)→(∀xs,o≠.dK xs)→(∀xs,o≠.dT xs)→(∀C dx fs,o=.ins C dx fs→C=CK)→H' b=some o) (h:KindAt CK H a z):KindAt CK H' a z:=by
 obtain⟨dx,lv,h1,h2⟩:=h
 refine⟨dx,lv,s _ _ h1 (by intro xs q;cases q) (by intro xs q;cases q) (by intro xs q;cases q) (by intro C dx fs q;cases q;rfl),?_⟩
 revert h2
 cases z.lab with
 | sign n =>
  rintro⟨t,e,ht⟩
  exact⟨t,e,s _ _ ht (by intro xs q;cases q) (by intro xs q;cases q) (by intro xs q;cases q) (by intro C dx fs q;cases q)⟩
 | same k=>exact fun h=>h
 | ans=>exact fun h=>h
theorem KindAt.mono {CK:Addr}{H H':Hp}{a:Addr}{z:ZK} (s:Same H H') (h:KindAt CK H a z):KindAt CK H' a z:=h.same fun b o e _ _ _ _=>s b o e
structure KindC (K:AB) (CK:Addr):Prop where
 cl:Cls K CK
 rank:NoAttr K CK "rank"
 label:NoAttr K CK "label"
 copies:NoAttr K CK "copies"
 shape:NoAttr K CK "shape"
 look:NoAttr K CK "look"
def BB (l:List Int):List Key:=l.map Av
theorem Mv (l:List Int):(BB l).map kV=l.map V.int:=by
 unfold BB
 rw[CG]
 rfl
def CD:Nat→List ZK→List (List Key×V)
 | _,[]=>[]
 | i,z::r=>match z.lab with
  | .sign n=>(BB n,.int (i:Nat))::CD (i+1) r
  | _=>CD (i+1) r
def BR:Nat→List ZK→List (Key×V)
 | _,[]=>[]
 | i,z::r=>match z.lab with
  | .same k=>(Av k,.int (i:Nat))::BR (i+1) r
  | _=>BR (i+1) r
theorem HJ (i:Nat) (z:ZK) (r:List ZK):CD i (z::r)=match z.lab with
 | .sign n=>(BB n,.int (i:Nat))::CD (i+1) r
 | _=>CD (i+1) r:=rfl
theorem HI (i:Nat) (z:ZK) (r:List ZK):BR i (z::r)=match z.lab with
 | .same k=>(Av k,.int (i:Nat))::BR (i+1) r
 | _=>BR (i+1) r:=rfl
def lf (an ak sg sm af:Addr):List (Str×V):=[("name",.ref an),("kinds",.ref ak),("signs",.ref sg),("sames",.ref sm),("fault",.ref af)]
structure LA where
 an:Addr
 ak:Addr
 sg:Addr
 sm:Addr
 af:Addr
structure LockAt (CL CK:Addr) (H:Hp) (a:Addr) (p:LA) (name:List Int) (kinds:List ZK) (fault:List Int):Prop where
 ob:∃dx,H a=some (.ins CL dx (lf p.an p.ak p.sg p.sm p.af))
 nm:H p.an=some (.lst (name.map V.int))
 ks:∃as:List Addr,H p.ak=some (.lst (as.map V.ref))∧Paired (KindAt CK H) as kinds
 sg:H p.sg=some (.dT (CD 0 kinds))
 sm:H p.sm=some (.dK (BR 0 kinds))
 af:H p.af=some (.lst (fault.map V.int))
theorem LockAt.mono {CL CK:Addr}{H H':Hp}{a:Addr}{p:LA}{name:List Int}{kinds:List ZK}{fault:List Int} (s:Same H H') (h:LockAt CL CK H a p name kinds fault):LockAt CL CK H' a p name kinds fault:=by
 obtain⟨⟨dx,h1⟩,h2,⟨as,h3,h4⟩,h5,h6,h7⟩:=h
 exact⟨⟨dx,s _ _ h1⟩,s _ _ h2,⟨as,s _ _ h3,Paired.mapP h4 fun a z q=>q.mono s⟩,s _ _ h5,s _ _ h6,s _ _ h7⟩
structure LockC (K:AB) (CL:Addr):Prop where
 cl:Cls K CL
 name:NoAttr K CL "name"
 kinds:NoAttr K CL "kinds"
 signs:NoAttr K CL "signs"
 sames:NoAttr K CL "sames"
 fault:NoAttr K CL "fault"
theorem WH (k:Int):∀(kinds:List ZK) (i:Nat),(Az (BR i kinds) (Av k)=none∧kinds.find? (GA k)=none)∨∃(j:Nat) (z:ZK),Az (BR i kinds) (Av k)=some (.int ((i+j:Nat):Int))∧kinds[j]?=some z∧kinds.find? (GA k)=some z
 | [],i=>.inl ⟨rfl,rfl⟩
 | z::r,i=>by
  have ih:=WH k r (i+1)
  have other:GA k z=false→Az (BR i (z::r)) (Av k)=Az (BR (i+1) r) (Av k):=fun h=>by
   rw[HI]
   split
   ·rename_i k' hk
    have ne:¬k'=k:=by
     intro q
     rw[GA,hk,q] at h
     simp at h
    exact C3 (p:=(Av k',V.int ((i:Nat):Int))) fun q=>ne (Ht q)
   ·rfl
  cases hz:GA k z with
  | true =>
   have hk:z.lab=.same k:=of_decide_eq_true hz
   refine .inr ⟨0,z,?_,rfl,?_⟩
   ·unfold BR
    rw[hk]
    exact C4 rfl
   ·rw[C8,hz]
  | false =>
   have hf:(z::r).find? (GA k)=r.find? (GA k):=by rw[C8,hz]
   rw[other hz,hf]
   rcases ih with ih | ⟨j,z',h1,h2,h3⟩
   ·exact .inl ih
   ·exact .inr ⟨j+1,z',by rw[h1];congr 2;omega,h2,h3⟩
section
variable {CL CK:Addr}
theorem aB {p:LA}:(lf p.an p.ak p.sg p.sm p.af).lookup ("name":Str)=some (.ref p.an):=rfl
theorem GF {p:LA}:(lf p.an p.ak p.sg p.sm p.af).lookup ("kinds":Str)=some (.ref p.ak):=rfl
theorem IM {p:LA}:(lf p.an p.ak p.sg p.sm p.af).lookup ("signs":Str)=some (.ref p.sg):=rfl
theorem KN {p:LA}:(lf p.an p.ak p.sg p.sm p.af).lookup ("sames":Str)=some (.ref p.sm):=rfl
theorem R6 {p:LA}:(lf p.an p.ak p.sg p.sm p.af).lookup ("fault":Str)=some (.ref p.af):=rfl
theorem EG {r c s k:Int}{l:V}:(kf r l c s k).lookup ("rank":Str)=some (.int r):=rfl
theorem KC {r c s k:Int}{l:V}:(kf r l c s k).lookup ("label":Str)=some l:=rfl
theorem Z1 {r c s k:Int}{l:V}:(kf r l c s k).lookup ("copies":Str)=some (.int c):=rfl
theorem M0 {r c s k:Int}{l:V}:(kf r l c s k).lookup ("shape":Str)=some (.int s):=rfl
theorem KD {r c s k:Int}{l:V}:(kf r l c s k).lookup ("look":Str)=some (.int k):=rfl
end
end Fb
end
section
set_option maxRecDepth 100000
set_option maxHeartbeats 4000000
namespace L2
open PySem PySem.Spec PyProof.Rows
open PySem.W (CodeHd tabObj kla_obj kla_fn envX)
abbrev KO (a:Addr) (o:Obj):HO:=.ext fun h=>h.get? a=some o
section
variable {P:Program}{w:World}{H H':Hp}{h h':Heap}{a:Addr}{o:Obj}
theorem IK (e:h.get? a=some o):ObjOk P w H h a (KO a o):=⟨e,⟨o,e⟩,fun _ _ p k=>k _ p⟩
theorem GD (hok:HOk P w H h) (e:H a=some (KO a o)):h.get? a=some o:=(hok a _ e).1
end
def DO (H:Hp) (c:Addr) (v:V):Prop:=∃(o:Obj) (u:Value),H c=some (KO c o)∧o.data=.cell (some u)∧RelV v u
def CodeO (H:Hp) (c:Addr) (qual:Str):Prop:=∃(o:Obj) (vs:Array Value) (t:Tok),H c=some (KO c o)∧o.data=.fields vs∧vs[1]?=some (.str qual t)
theorem CodeO.rec_of {P:Program}{w:World}{H:Hp}{h:Heap}{c:Addr}{qual:Str} (x:CodeO H c qual) (hok:HOk P w H h):h.CodeRec (.ref c) qual:=by
 obtain⟨o,vs,t,e,d,q⟩:=x
 exact⟨c,o,vs,t,rfl,GD hok e,d,q⟩
def hid (cs:List Addr) (H:Hp):Hp:=fun b=>if b∈cs then none else H b
def DV (cs:List Addr) (H0 H:Hp):Hp:=fun b=>if b∈cs then H0 b else H b
theorem Dj {cs:List Addr}{H:Hp}{b:Addr} (h:b∈cs):hid cs H b=none:=if_pos h
theorem Ax {cs:List Addr}{H:Hp}{b:Addr} (h:b∉cs):hid cs H b=H b:=if_neg h
theorem Ig {cs:List Addr}{H0 H:Hp}{b:Addr} (h:b∈cs):DV cs H0 H b=H0 b:=if_pos h
theorem Dz {cs:List Addr}{H0 H:Hp}{b:Addr} (h:b∉cs):DV cs H0 H b=H b:=if_neg h
theorem G3 {cs:List Addr}{H:Hp}{b:Addr} (h:H b=none):hid cs H b=none:=by
 unfold hid
 split
 ·rfl
 ·exact h
def Plain (cs:List Addr) (H:Hp):Prop:=∀b∈cs,∀u,H b=some u→∃φ,u=.ext φ
theorem Plain.out {cs:List Addr}{H:Hp} (p:Plain cs H) {b:Addr}{u:HO} (h:H b=some u) (n:∀φ,u≠.ext φ):b∉cs:=fun m=>by
 obtain⟨φ,e⟩:=p b m u h
 exact n φ e
theorem HOk.hid {P:Program}{w:World}{cs:List Addr}{H:Hp}{h:Heap} (p:Plain cs H) (x:HOk P w H h):HOk P w (L2.hid cs H) h:=fun a o e=>by
 by_cases m:a∈cs
 ·rw[Dj m] at e;cases e
 ·rw[Ax m] at e
  exact(x a o e).stay (fun _ _ _ q=>q) (fun b q=>by rw[Ax (p.out q fun φ z=>nomatch z)];exact q) fun b xs q=>by rw[Ax (p.out q fun φ z=>nomatch z)];exact q
structure MD (N ps:List Str) (sc:Scope) (cl:List (Str×Addr)):Prop where
 kind:sc.kind=.function
 co:sc.isCoroutine=false
 gen:sc.isGenerator=false
 nd:N.Nodup
 pre:N.take ps.length=ps
 par:∀x∈ps,sc.names.lookup x=some .local
 nocell:∀y∈sc.names,y.2≠.cell
 fr:N.drop ps.length=cl.map (·.1)
 frk:∀x∈cl.map (·.1),sc.names.lookup x=some .free
 all:∀y,sc.names.lookup y=some .free→y∈cl.map (·.1)
 cnd:(cl.map (·.2)).Nodup
def Ma (P:Program) (w:World) (K:AB) (mg:Str→Option Value) (base:Heap) (N:List Str) (qual:Str) (scope:Scope) (f c':Addr) (cl:List (Str×Addr)) (A:Around) (outer:List Env) (s:Shared) (H:Hp):Cx where
 prog:=P
 w:=w
 K:=K
 mg:=mg
 base:=base
 A:=A.deeper (envX qual scope s.heap.objs.size f (.ref c') cl)
 N:=N
 s_0:=s
 H_0:=hid (cl.map (·.2)) H
 env:=envX qual scope s.heap.objs.size f (.ref c') cl
 outer:=outer
 stack:=envX qual scope s.heap.objs.size f (.ref c') cl::outer
 ex:=[]
 calm:=true
 fn:=fun _=>false
 pn:=[]
 xe:=fun _ _=>False
theorem IQ:∀{cl:List (Str×Addr)}{i:Nat}{x:Str}{c:Addr},(cl.map (·.1)).Nodup→cl[i]?=some (x,c)→cl.lookup x=some c
 | [],_,_,_,_,h=>by simp at h
 | (y,d)::cl,0,x,c,_,h=>by
  simp at h
  obtain⟨rfl,rfl⟩:=h
  simp
 | (y,d)::cl,i+1,x,c,nd,h=>by
  obtain⟨h1,h2⟩:=Dd.mp (show(y::cl.map (·.1)).Nodup from nd)
  have h':cl[i]?=some (x,c):=by simpa using h
  have hm:x∈cl.map (·.1):=BD.mpr ⟨(x,c),CZ h',rfl⟩
  have ne:(x==y)=false:=beq_eq_false_iff_ne.mpr fun q=>h1 (q▸hm)
  rw[EM,ne]
  exact IQ h2 h'
theorem fX:∀{ps:List Str}{us:List Value}{i:Nat}{x:Str}{u:Value},ps.Nodup→ps[i]?=some x→us[i]?=some u→(ps.zip us).reverse.lookup x=some u:=by
 have out:∀(l:List (Str×Value)) (x:Str),(∀v,(x,v)∉l)→l.lookup x=none:=fun l x h=>by
  cases q:l.lookup x with
  | none=>rfl
  | some v=>exact(h v (CH q)).elim
 have app:∀(l m:List (Str×Value)) (x:Str),(l++m).lookup x=(l.lookup x).or (m.lookup x):=fun l m x=>by
  induction l with
  | nil=>simp
  | cons p l ih =>
   obtain⟨y,v⟩:=p
   rw[GX,EM,EM,ih]
   cases x==y <;> rfl
 intro ps
 induction ps with
 | nil=>intro us i x u _ h;simp at h
 | cons p ps ih =>
  intro us i x u nd h1 h2
  cases us with
  | nil=>simp at h2
  | cons w us =>
   obtain⟨n1,n2⟩:=Dd.mp nd
   rw[He,List.reverse_cons,app]
   cases i with
   | zero =>
    simp at h1 h2
    subst h1 h2
    rw[out _ p fun v hv=>n1 (JH (List.mem_reverse.mp hv)).1]
    simp
   | succ i =>
    rw[ih n2 (by simpa using h1) (by simpa using h2)]
    rfl
section
variable {P:Program}{w:World}{K:AB}{mg:Str→Option Value}{base:Heap}
def FreeAt (H:Hp) (cl:List (Str×Addr)) (fvs:List V):Prop:=Paired (fun (p:Str×Addr) v=>DO H p.2 v) cl fvs
theorem FreeAt.at_:∀{H:Hp}{cl:List (Str×Addr)}{fvs:List V}{i:Nat}{p:Str×Addr},FreeAt H cl fvs→cl[i]?=some p→∃v,fvs[i]?=some v∧DO H p.2 v
 | _,_,_,_,_,.nil,h=>by simp at h
 | _,_,_,0,p,.cons r _,h=>by
  simp at h
  subst h
  exact⟨_,rfl,r⟩
 | _,_,_,i+1,p,.cons _ t,h=>FreeAt.at_ (i:=i) t (by simpa using h)
theorem Rx {k:Nat}{f c':Addr}{qual:Str}{params:Arguments}{body:Expr}{scope:Scope}{cl:List (Str×Addr)}{pm ctv:Value}{N ps:List Str}{sp:Sp} (S:MD N ps scope cl)
  (len:∀vs H Q E,sp vs H Q E→vs.length=ps.length)
  (hsp:∀vs H Q E,sp vs H Q E→H f=some (KO f (kla_obj "<lambda>" qual params body scope cl pm c' ctv))∧CodeO H c' qual∧∃fvs,FreeAt H cl fvs∧
   ∀(A:Around) (outer:List Env) (s:Shared),Room k (A.deeper (envX qual scope s.heap.objs.size f (.ref c') cl))→
    ∃t,PE (Ma P w K mg base N qual scope f c' cl A outer s H) body t∧t ((vs++fvs).map some) (hid (cl.map (·.2)) H) fun v H'=>(∀c∈cl.map (·.2),H' c=none)→Q v (DV (cl.map (·.2)) H H')):
  FnOk P w K mg base CX0 (k+1) f (kla_fn "<lambda>" qual params body scope cl pm (.ref c') ctv) ps sp:=by
 refine⟨len,fun A outer s H args us vs Q E hr e0 hb r h=>?_⟩
 have hl:=len _ _ _ _ h
 obtain⟨hf,hc,fvs,hfv,hbody⟩:=hsp _ _ _ _ h
 have lim:s.heap.NoLimit:=e0.mod.nolimit.keeps fun b o e=>(e0.bs b o e).1
 have ndP:ps.Nodup:=by rw[← S.pre];exact S.nd.sublist (Oz _ _)
 have ndC:(cl.map (·.1)).Nodup:=by rw[← S.fr];exact S.nd.sublist (List.drop_sublist _ _)
 have hcs:∀c∈cl.map (·.2),∃v,DO H c v:=fun c hc=>by
  obtain⟨p,hp,rfl⟩:=BD.mp hc
  obtain⟨i,hi⟩:=Hc.mp hp
  obtain⟨v,_,q⟩:=hfv.at_ hi
  exact⟨v,q⟩
 have hpl:Plain (cl.map (·.2)) H:=fun b hb u e=>by
  obtain⟨v,o,_,q,_⟩:=hcs b hb
  rw[q] at e;cases e
  exact⟨_,rfl⟩
 have luc:∀x c,cl.lookup x=some c→(x,c)∈cl:=fun x c e=>CH e
 refine PySem.W.kla_callFunE hr.depth (GD e0.hok hf) rfl S.co S.gen rfl (hc.rec_of e0.hok) (hb _ _ _ _ ?_)
 refine wpAny_newFunctionEnv S.nocell (fun y hy=>S.par y.1 (JH hy).1) (fun h₁ hns hsb=>⟨lim.fresh _ hsb,?_⟩) S.kind
 show codeAny _ _ (.expr body (envX qual scope s.heap.objs.size f (.ref c') cl)) _ _
 have hk:∀b o,s.heap.get? b=some o→h₁.get? b=some o:=fun b o e=>hsb.extBut b o (BO (Ah e)) (A2 _ e)
 obtain⟨t,ht,hq⟩:=hbody A outer s (hr.deeper _)
 have noA:∀b:Addr,b∉(Ma P w K mg base N qual scope f c' cl A outer s H).ex:=fun b z=>absurd (show b∈([]:List Addr) from z) (by simp)
 have I:Inv (Ma P w K mg base N qual scope f c' cl A outer s H) [] ((vs++fvs).map some) (hid (cl.map (·.2)) H) { s with heap:=h₁,toks:=s.toks+(ps.zip us).length }:=by
  refine⟨⟨e0.mod,S.kind,rfl,rfl,AO _,fun x y c h1 h2=>?_,fun x hx=>?_,fun x c z _=>absurd (show false=true from z) Aj,fun _=>hr.hd,W3 e0.frames,.inr ⟨rfl,rfl⟩,fun b z=>absurd z (noA b),fun b o e=>⟨(e0.bs b o e).1,G3 (e0.bs b o e).2⟩,e0.bsz,fun b _ _=>noA b,fun b z=>absurd z (noA b),e0.funs,fun b hb=>G3 (e0.frf b hb)⟩,
   rfl,e0.bare,Un.kept hk,⟨_,hns,fun i x v h1 h2 h3=>?_⟩,fun x c e=>?_,G3 (e0.hok.fresh (AO _)),fun x c e=>?_,fun p hp=>absurd (show p∈([]:List (Addr×Obj)) from hp) (by simp),(e0.hok.hid hpl).kept hk,?_⟩
  ·have m1:=luc x c h1
   have m2:=luc y c h2
   obtain⟨i,hi⟩:=Hc.mp m1
   obtain⟨j,hj⟩:=Hc.mp m2
   have e:=au (l:=cl.map (·.2)) S.cnd (i:=i) (j:=j) (x:=c) (by rw[AX,hi];rfl) (by rw[AX,hj];rfl)
   subst e
   rw[hi] at hj
   cases hj
   rfl
  ·have hx:scope.names.lookup x=some .cell∨scope.names.lookup x=some .free:=hx
   rcases hx with hx | hx
   ·exact absurd rfl (S.nocell _ (CH hx))
   ·obtain⟨p,hp,rfl⟩:=BD.mp (S.all x hx)
    obtain⟨i,hi⟩:=Hc.mp hp
    exact⟨p.2,IQ ndC hi⟩
  ·have h1:N[i]?=some x:=h1
   have lps:ps.length≤N.length:=by have:=congrArg Ha S.pre;rw[Cn] at this;omega
   by_cases hi:i < ps.length
   ·have hp:ps[i]?=some x:=by rw[← S.pre,Ov hi];exact h1
    have hv:vs[i]?=some v:=by
     rw[AX,LG (by omega)] at h2
     cases e:vs[i]? with
     | none=>rw[e] at h2;cases h2
     | some z=>rw[e] at h2;cases h2;rfl
    obtain⟨u,hu,rv⟩:=r.get hv
    exact⟨u,rv,.inl ⟨S.par x (CZ hp),fX ndP hp hu⟩⟩
   ·have hd:(cl.map (·.1))[i - ps.length]?=some x:=by rw[← S.fr,List.getElem?_drop,show ps.length+(i - ps.length)=i by omega];exact h1
    rw[AX] at hd
    cases hp:cl[i - ps.length]? with
    | none=>rw[hp] at hd;cases hd
    | some p =>
     rw[hp] at hd
     have hd:p.1=x:=AV hd
     obtain⟨v',hv',o,u,q1,q2,q3⟩:=hfv.at_ hp
     have hv:v'=v:=by
      rw[AX,JA (by omega),hl,hv'] at h2
      cases h2;rfl
     subst hv hd
     refine⟨u,q3,.inr ⟨.inr (S.frk _ (BD.mpr ⟨p,CZ hp,rfl⟩)),p.2,IQ ndC hp,o,hk _ _ (GD e0.hok q1),q2⟩⟩
  ·obtain⟨v,o,u,q1,q2,q3⟩:=hcs c (BD.mpr ⟨(x,c),luc x c e,rfl⟩)
   exact⟨some u,o,hk _ _ (GD e0.hok q1),q2⟩
  ·exact Dj (BD.mpr ⟨(x,c),luc x c e,rfl⟩)
  ·show((vs++fvs).map some).length=N.length
   have l1:=congrArg Ha S.fr
   have l2:=FA hfv
   have l3:=congrArg Ha S.pre
   rw[LH,AF] at l1
   rw[Cn] at l3
   rw[AF,BL]
   omega
 refine PySem.W.kla_codeExpr (DM (ht [] _ _ _ _ I hq) (fun u s' hs=>?_) fun _ _ z=>BX z)
 obtain⟨v,H',J,rv,q⟩:=hs
 have free':∀c∈cl.map (·.2),H' c=none:=fun c hc=>by
  obtain⟨p,hp,rfl⟩:=BD.mp hc
  obtain⟨i,hi⟩:=Hc.mp hp
  exact J.freeC p.1 p.2 (IQ ndC hi)
 have nofr:∀c∈cl.map (·.2),c∉frs outer:=fun c hc z=>by
  obtain⟨v,o,_,q1,_⟩:=hcs c hc
  rw[e0.frf c z] at q1;cases q1
 have outH:∀{b:Addr} {u:HO},H b=some u→(∀φ,u≠.ext φ)→b∉cl.map (·.2):=fun e n=>hpl.out e n
 have base:=J.base
 show CE outer P w H s Q u s'
 refine⟨v,DV (cl.map (·.2)) H H',J.os,J.bare,⟨fun b o e n hb hx=>base.keep b o e (G3 n) hb hx,fun b o e n hb hx=>base.slot b o e (G3 n) hb hx,fun b o e n hx=>?_,fun b o e hx=>base.there b o e hx,fun b xs e=>?_,fun b o u e=>?_,fun b ps e=>?_⟩,fun a o e=>?_,rv,q free'⟩
 ·have hb:b∉cl.map (·.2):=fun z=>by
   obtain⟨v,o,_,q1,_⟩:=hcs b z
   rw[n] at q1;cases q1
  rw[Dz hb]
  exact base.free b o e (G3 n) hx
 ·have hb:=outH e fun φ z=>nomatch z
  rw[Dz hb]
  exact base.tups b xs (by show hid _ H b=_;rw[Ax hb];exact e)
 ·have hb:=outH e fun φ z=>nomatch z
  rw[Dz hb]
  exact base.frzs b o u (by show hid _ H b=_;rw[Ax hb];exact e)
 ·have hb:=outH e fun φ z=>nomatch z
  rw[Dz hb]
  exact base.tbls b ps (by show hid _ H b=_;rw[Ax hb];exact e)
 ·by_cases m:a∈cl.map (·.2)
  ·rw[Ig m] at e
   obtain⟨v,ob,_,q1,_⟩:=hcs a m
   rw[q1] at e;cases e
   exact IK (base.keep a ob (GD e0.hok q1) (Dj m) (nofr a m) (noA a))
  ·rw[Dz m] at e
   refine(J.hok a o e).stay (fun _ _ _ q=>q) (fun b q=>?_) fun b xs q=>?_
   ·rw[Dz fun z=>by rw[free' b z] at q;cases q];exact q
   ·rw[Dz fun z=>by rw[free' b z] at q;cases q];exact q
end
end L2
end
section
set_option maxRecDepth 100000
set_option maxHeartbeats 4000000
namespace L2
open PySem PySem.Spec PyProof.Rows
open PySem.W (CodeHd tabObj kla_obj kla_fn envX)
def BY (H:Hp) (Pt:Addr) (pos:Pos) (qual:Str):Prop:=H Pt=some (.tbl #[])∨∃c',H Pt=some (.tbl #[rawInt pos.line,rawInt pos.col,.ref c'])∧CodeO H c' qual
def Fz (mg:Str→Option Value) (h:Heap):Prop:=∃bm ob,mg "__builtins__"=some (.ref bm)∧bm≠builtinsNs∧h.get? bm=some ob∧ob.cls=.type "module"∧ob.dict=some builtinsNs∧ob.data=.plain
def eW (Pt:Addr) (pos:Pos) (qual:Str) (mk:Value→Addr→Value→Obj):TE:=fun _ H Q=>BY H Pt pos qual∧
 ∀(H':Hp) (f c':Addr) (pm ctv:Value),(∀b o,H b=some o→b≠Pt→H' b=some o)→H f=none→H' f=some (KO f (mk pm c' ctv))→H' Pt=some (.tbl #[rawInt pos.line,rawInt pos.col,.ref c'])→CodeO H' c' qual→Q (.ref f) H'
section
variable {X:Cx}
theorem Sr {params:Arguments}{body:Expr}{scope:Scope}{pos:Pos}{c Pt:Addr}{qual:Str}{clos:List (Str×Addr)} (hcode:X.env.code=.ref c) (C:CodeHd X.base c Pt) (hbm:Fz X.mg X.base) (hq:X.env.qual++"<lambda>"=qual)
  (hcl:closureFor scope X.env=pure clos) (hdef:defaultsOf params X.env=([],[])):PE X (.Lambda params body scope pos) (eW Pt pos qual fun pm c' ctv=>kla_obj "<lambda>" qual params body scope clos pm c' ctv):=by
 intro pins s σ H Q I h
 obtain⟨hT,k⟩:=h
 refine PySem.W.kla_eval hdef ?_
 rw[hq]
 have hg:s.heap.Ns mainGlobals X.mg:=I.mod.glob.keeps I.bk
 obtain⟨bm,ob,b1,b2,b3,b4,b5,b6⟩:=hbm
 have hsP:∃ps,H Pt=some (.tbl ps):=by
  rcases hT with e | ⟨c',e,_⟩
  ·exact⟨_,e⟩
  ·exact⟨_,e⟩
 obtain⟨ps0,hH0⟩:=hsP
 have hP0:s.heap.get? Pt=some (tabObj ps0):=I.hok Pt _ hH0
 have hgP:mainGlobals≠Pt:=fun q=>by
  obtain⟨o,es,ep,e,hd,_⟩:=hg
  rw[q,hP0] at e;cases e;cases hd
 have hbP:bm≠Pt:=fun q=>by
  have e:=I.bk _ _ b3
  rw[q,hP0] at e;cases e;cases b4
 have hbG:bm≠mainGlobals:=fun q=>by
  obtain⟨o,es,ep,e,hd,_⟩:=hg
  rw[← q,I.bk _ _ b3] at e;cases e;rw[hd] at b6;cases b6
 have hbm':s.heap.BuiltinsAt X.mg Pt:=⟨bm,ob,b1,b2,hbG,hbP,I.bk _ _ b3,b4,b5,b6⟩
 have hLP:X.env.locals≠Pt:=fun q=>by
  have:=I.free
  rw[q,hH0] at this;cases this
 rcases hT with hH | ⟨c',hH,hc'⟩
 ·have hP:s.heap.get? Pt=some (tabObj #[]):=I.hok Pt _ hH
  refine PySem.W.kla_makeFunction (mg:=X.mg) hcl I.ok.glob hg hcode (C.keeps I.bk) hP trivial rfl hgP hbm' fun c' ctv h' tk hx hge hlt hrec htb=>?_
  obtain⟨c₂,oc,vs,t,e2,hoc,hd,hv⟩:=hrec
  cases e2
  have szP:Pt < s.heap.objs.size:=Ah hP
  have nPc:Pt≠c':=BO (Bg szP hge)
  have sz':s.heap.objs.size≤h'.objs.size:=Bp hge (Ga hlt)
  have nPf:Pt≠h'.objs.size:=BO (Bg szP sz')
  have ncf:c'≠h'.objs.size:=BO hlt
  generalize ho:kla_obj "<lambda>" qual params body scope clos ((X.mg "__name__").getD .none) c' ctv=fo
  have kp:∀b o,b≠Pt→s.heap.get? b=some o→(h'.push fo).get? b=some o:=fun b o hb e=>A2 _ (hx b o hb e)
  have fresh:∀b,s.heap.objs.size≤b→H b=none:=fun b hb=>I.hok.fresh hb
  have tb:(h'.push fo).get? Pt=some (tabObj #[rawInt pos.line,rawInt pos.col,.ref c']):=A2 _ (by rw[htb];simp)
  let H':Hp:=upd (upd (upd H Pt (.tbl #[rawInt pos.line,rawInt pos.col,.ref c'])) c' (KO c' oc)) h'.objs.size (KO h'.objs.size fo)
  have H'o:∀b o,H b=some o→b≠Pt→H' b=some o:=fun b o e hb=>by
   show upd _ _ _ b=_
   rw[AG (Ai e (fresh _ sz')),AG (Ai e (fresh _ hge)),AG hb]
   exact e
  have H'P:H' Pt=some (.tbl #[rawInt pos.line,rawInt pos.col,.ref c']):=by
   show upd _ _ _ Pt=_
   rw[AG nPf,AG nPc,AH]
  have H'c:H' c'=some (KO c' oc):=by
   show upd _ _ _ c'=_
   rw[AG ncf,AH]
  have H'f:H' h'.objs.size=some (KO h'.objs.size fo):=AH
  have I':Inv X pins σ H' { s with heap:=h'.push fo,toks:=tk }:=by
   refine I.step (ch:=[]) (fun _ z=>nomatch z) (fun b o _ _ _ e n=>kp b o (fun z=>by rw[z,hH] at n;cases n) e) (fun b o _ _ _ e n=>⟨o.slots,kp b o (fun z=>by rw[z,hH] at n;cases n) e⟩) (fun b o _ e n=>?_) (fun b o _ e=>?_)
    (fun b xs e=>H'o b _ e fun z=>by rw[z,hH] at e;cases e) (fun b o u e=>H'o b _ e fun z=>by rw[z,hH] at e;cases e) (fun b qs e=>?_) (fun m hm=>?_) (fun a o e=>?_) I.bare
   ·have hb:b < s.heap.objs.size:=Ah e
    show upd _ _ _ b=_
    rw[AG (BO (Bg hb sz')),AG (BO (Bg hb hge)),AG (fun z=>by rw[z,hH] at n;cases n)]
    exact n
   ·by_cases hb:b=Pt
    ·subst hb;exact⟨_,tb⟩
    ·exact⟨o,kp b o hb e⟩
   ·by_cases hb:b=Pt
    ·subst hb
     rw[hH] at e;cases e
     exact⟨#[rawInt pos.line,rawInt pos.col,.ref c'],by rw[H'P];simp⟩
    ·exact⟨#[],by rw[H'o b _ e hb];simp⟩
   ·exact(hm.extBut hx hLP).push _
   ·by_cases h1:a=h'.objs.size
    ·subst h1
     rw[H'f] at e;cases e
     exact IK (BH _ (by rw[← ho];rfl))
    ·by_cases h2:a=c'
     ·subst h2
      rw[H'c] at e;cases e
      exact IK (A2 _ hoc)
     ·by_cases h3:a=Pt
      ·subst h3
       rw[H'P] at e;cases e
       exact tb
      ·have e:upd _ _ _ a=some o:=e
       rw[AG h1,AG h2,AG h3] at e
       refine(I.hok a o e).stay (fun b u hb q=>kp b u ?_ q) (fun b q=>H'o b _ q fun z=>by rw[z,hH] at q;cases q) fun b xs q=>H'o b _ q fun z=>by rw[z,hH] at q;cases q
       rcases hb with z | z
       ·rw[z];exact h3
       ·exact fun y=>by rw[y,hH] at z;cases z
  refine⟨.ref h'.objs.size,H',I',rfl,k H' h'.objs.size c' ((X.mg "__name__").getD .none) ctv H'o (fresh _ sz') (H'f.trans (congrArg (fun z=>some (KO h'.objs.size z)) ho.symm)) H'P ⟨oc,vs,t,H'c,hd,hv⟩⟩
 ·have hP:s.heap.get? Pt=some (tabObj #[rawInt pos.line,rawInt pos.col,.ref c']):=I.hok Pt _ hH
  refine PySem.W.kla_makeFunctionHit (cv:=.ref c') (mg:=X.mg) hcl I.ok.glob hg hcode (C.keeps I.bk) hP trivial (by simp[codeAmong,rawInt]) hbm' fun ctv h' tk hx hsz=>?_
  generalize ho:({ cls:=.type "function",data:=.func (kla_fn "<lambda>" qual params body scope clos ((X.mg "__name__").getD .none) (.ref c') ctv) }:Obj)=fo
  have fresh:H h'.objs.size=none:=I.hok.fresh hsz
  have I':Inv X pins σ (upd H h'.objs.size (KO h'.objs.size fo)) { s with heap:=h'.push fo,toks:=tk } :=
   I.laid (fun b u e=>A2 _ (hx b u e)) hsz (IK (BH _ (by rw[← ho];rfl)))
  have H'o:∀b o,H b=some o→upd H h'.objs.size (KO h'.objs.size fo) b=some o:=fun b o e=>by rw[AG (Ai e fresh)];exact e
  refine⟨.ref h'.objs.size,_,I',rfl,k _ h'.objs.size c' ((X.mg "__name__").getD .none) ctv (fun b o e _=>H'o b o e) fresh (by rw[AH];exact congrArg (fun z=>some (KO h'.objs.size z)) ho.symm) (H'o _ _ hH) ?_⟩
  obtain⟨oc,vs,t,q1,q2,q3⟩:=hc'
  exact⟨oc,vs,t,H'o _ _ q1,q2,q3⟩
def FnO (H:Hp) (f:Addr):Prop:=∃(o:Obj) (fd:FuncData),H f=some (KO f o)∧o.data=.func fd
theorem FnO.at_ {P:Program}{w:World}{H:Hp}{h:Heap}{f:Addr} (x:FnO H f) (hok:HOk P w H h):PySem.W.FnAt f h:=by
 obtain⟨⟨oc,od,dt,sl⟩,fd,e,d⟩:=x
 have d:dt=.func fd:=d
 subst d
 exact⟨oc,od,fd,sl,GD hok e⟩
def eM (X:Cx) (k i:Nat) (t:TA):TE:=fun σ H Q=>∃(f:Addr) (fd:FuncData) (ps:List Str) (sp:Sp),σ[i]?=some (some (.ref f))∧FnO H f∧FnOk X.prog X.w X.K X.mg X.base CX0 k f fd ps sp∧Binds X.K fd ps []∧t σ H fun vs H1=>FnO H1 f∧sp vs H1 Q E0
theorem bR {k i:Nat}{x:Str}{p pos:Pos}{e:Expr}{es:List Expr}{t:TA} (hr:Room k X.A) (ha:PA X (e::es) t) (hN:X.N[i]?=some x:=by rfl) (hv:Vis X.env.scope x:=by first | exact AQ rfl | exact De (AQ rfl) | exact De (De rfl))
  (hdb:(x==("__debug__":Str))=false:=by decide) (hcd:(x==("__classdict__":Str))=false:=by decide) (he:starEach (e::es) X.env=(false,eval e X.env)::starEach es X.env:=by rfl) (hpl:(backTo pos (starEach es X.env)).any (·.1)=false:=by rfl):
  PE X (.Call (.Name x p) (e::es) [] pos) (eM X k i t):=by
 intro pins s σ H Q I h
 obtain⟨f,fd,ps,sp,hi,hf,F,hb,h⟩:=h
 refine FD (thn (Sv hN hv hdb hcd pins s σ H (fun v H1=>v=.ref f∧H1=H) I ⟨_,hi,rfl,rfl⟩) fun u s1 ⟨v,H1,I1,r,e1,e2⟩=>?_)
 subst e1 e2
 obtain rfl:u=.ref f:=r
 refine PySem.W.callWith_F (hf.at_ I1.hok) (thn (ha pos pins s1 σ H1 _ I1 h) fun us s2 ⟨vs,H2,I2,r2,hf2,q⟩=>⟨hf2.at_ I2.hok,?_⟩) he hpl
 refine TV F hr hb .nil HB I2 r2 ?_
 rw[CO]
 exact q
def Br (X:Cx):List Addr:=X.env.cells.map (·.2)
def eL (X:Cx) (sp:Sp) (t:TA):TE:=fun σ H Q=>t σ H fun vs H1=>∀H2:Hp,(∀b,b∉Br X→H2 b=H1 b)→(∀b∈Br X,H1 b=none)→
 (∀(i:Nat) (x:Str) (v:V) (c:Addr),X.N[i]?=some x→σ[i]?=some (some v)→X.env.kindOf x=some .cell→X.env.cells.lookup x=some c→DO H2 c v)→
 sp vs H2 (fun v H'=>(∀c∈Br X,H' c=H2 c)∧Q v (hid (Br X) H')) E0
theorem Sn {k:Nat}{f:Addr}{fd:FuncData}{ps:List Str}{sp:Sp}{x:Str}{p pos:Pos}{e:Expr}{es:List Expr}{t:TA} (F:FnOk X.prog X.w X.K X.mg X.base CX0 k f fd ps sp) (hr:Room k X.A) (hg:Gl X x) (hm:X.mg x=some (.ref f)) (hk:Gj X.K (.ref f)=true)
  (hb:Binds X.K fd ps []) (hfn:∀y,X.fn y=true) (hnd:(X.env.cells.map (·.1)).Nodup) (ha:PA X (e::es) t) (hdb:(x==("__debug__":Str))=false:=by decide) (he:starEach (e::es) X.env=(false,eval e X.env)::starEach es X.env:=by rfl) (hpl:(backTo pos (starEach es X.env)).any (·.1)=false:=by rfl):
  PE X (.Call (.Name x p) (e::es) [] pos) (eL X sp t):=by
 intro pins s0 σ H0 Q I0 h0
 refine FD (IL I0 hg hm ?_ hdb)
 refine Pc (h₀:=X.base) I0.ok.mod.kin hk (thn (ha pos pins s0 σ H0 _ I0 h0) fun us s ⟨vs,H,I,r,h⟩=>⟨I.kIn,?_⟩) he hpl
 have look:∀c∈Br X,∃y,X.env.cells.lookup y=some c:=fun c hc=>by
  obtain⟨q,hq,rfl⟩:=BD.mp hc
  obtain⟨i,hi⟩:=Hc.mp hq
  exact⟨q.1,IQ hnd hi⟩
 have cin:∀{y:Str} {c:Addr},X.env.cells.lookup y=some c→c∈Br X:=fun {y c} e=>BD.mpr ⟨(y,c),CH e,rfl⟩
 have hobj:∀c∈Br X,∃o,s.heap.get? c=some o:=fun c hc=>by
  obtain⟨y,e⟩:=look c hc
  obtain⟨v,o,ho,_⟩:=I.cell y c e
  exact⟨o,ho⟩
 have hnone:∀c∈Br X,H c=none:=fun c hc=>by
  obtain⟨y,e⟩:=look c hc
  exact I.freeC y c e
 let H2:Hp:=fun b=>if b∈Br X then (s.heap.get? b).map (KO b) else H b
 have H2i:∀{c:Addr} {o:Obj},c∈Br X→s.heap.get? c=some o→H2 c=some (KO c o):=fun {c o} hc e=>by
  show(if c∈Br X then (s.heap.get? c).map (KO c) else H c)=_
  rw[if_pos hc,e];rfl
 have H2o:∀{b:Addr},b∉Br X→H2 b=H b:=fun hb=>if_neg hb
 have outc:∀{b:Addr} {u:HO},H b=some u→b∉Br X:=fun e z=>by rw[hnone _ z] at e;cases e
 have nofr:∀c∈Br X,c∉frs X.stack:=fun c hc z=>by
  obtain⟨y,e⟩:=look c hc
  rcases AY.mp (I.stkSub c z) with q | q
  ·exact I.cne y c e q
  ·obtain⟨_,o,ho,_⟩:=I.ok.funs.mem q
   exact absurd (Bg (Ah ho) (I.ok.cab y c (hfn y) e)) (Bu _)
 have e0:Env0 X.prog X.w X.K X.mg X.base X.A X.stack s H2:=by
  have z:=I.env0
  refine⟨z.frames,z.mod,fun b o e=>⟨(z.bs b o e).1,?_⟩,z.bsz,z.funs,fun b hb=>?_,fun a o e=>?_,z.bare⟩
  ·rw[H2o fun hc=>?_]
   ·exact(z.bs b o e).2
   ·obtain⟨y,q⟩:=look b hc
    exact absurd (Bg (Ah e) (Bp I.ok.bsz (I.ok.cab y b (hfn y) q))) (Bu _)
  ·rw[H2o fun hc=>nofr b hc hb]
   exact z.frf b hb
  ·by_cases hc:a∈Br X
   ·obtain⟨ob,ho⟩:=hobj a hc
    rw[H2i hc ho] at e;cases e
    exact IK ho
   ·rw[H2o hc] at e
    exact(I.hok a o e).stay (fun _ _ _ q=>q) (fun b q=>by rw[H2o (outc q)];exact q) fun b xs q=>by rw[H2o (outc q)];exact q
 have hsp:=h H2 (fun b hb=>H2o hb) hnone fun i y v c h1 h2 h3 h4=>by
  obtain⟨m,hn,hl⟩:=I.loc
  obtain⟨u,rv,lk⟩:=hl i y v h1 h2 (.inr (.inl h3))
  rcases lk with ⟨q,_⟩ | ⟨_,c₂,q1,o,ho,hd⟩
  ·rw[h3] at q;cases q
  ·rw[h4] at q1;cases q1
   exact⟨o,u,H2i (cin h4) ho,hd,rv⟩
 have hl:us.length=ps.length:=by rw[← r.length];exact F.len _ _ _ _ hsp
 refine Pu (Gm (F.run X.A X.stack s H2 ⟨us,[]⟩ us vs _ E0 hr e0 (by have:=hb s us I.kIn (by rw[CO];exact hl);rw[CO] at this;exact this) r hsp) fun r' s' hq=>?_)
 cases r' with
 | error e=>exact BX hq
 | ok fl =>
  cases fl with
  | next=>exact BX hq
  | brk=>exact BX hq
  | cont=>exact BX hq
  | ret u =>
   obtain⟨v,H',os,bare,un,hok,rv,hc',q⟩:=hq
   have kept:∀c o,c∈Br X→s.heap.get? c=some o→s'.heap.get? c=some o∧H' c=some (KO c o):=fun c o hc e=>by
    have e2:=(hc' c hc).trans (H2i hc e)
    exact⟨GD hok e2,e2⟩
   refine I.after ⟨v,hid (Br X) H',os,bare,⟨fun b o e n hb hx=>?_,fun b o e n hb hx=>?_,fun b o e n hx=>?_,fun b o e hx=>un.there b o e hx,fun b xs e=>?_,fun b o u e=>?_,fun b qs e=>?_⟩,hok.hid fun b hb u e=>?_,rv,q⟩
   ·by_cases hc:b∈Br X
    ·exact(kept b o hc e).1
    ·exact un.keep b o e (by rw[H2o hc];exact n) hb hx
   ·have hc:b∉Br X:=fun z=>nofr b z hb
    exact un.slot b o e (by rw[H2o hc];exact n) hb hx
   ·by_cases hc:b∈Br X
    ·exact Dj hc
    ·rw[Ax hc]
     exact un.free b o e (by rw[H2o hc];exact n) hx
   ·rw[Ax (outc e)]
    exact un.tups b xs (by rw[H2o (outc e)];exact e)
   ·rw[Ax (outc e)]
    exact un.frzs b o u (by rw[H2o (outc e)];exact e)
   ·rw[Ax (outc e)]
    exact un.tbls b qs (by rw[H2o (outc e)];exact e)
   ·obtain⟨o,ho⟩:=hobj b hb
    rw[(kept b o hb ho).2] at e
    cases e
    exact⟨_,rfl⟩
end
end L2
end
section
set_option maxRecDepth 100000
set_option maxHeartbeats 4000000
namespace Fb
open PySem PySem.Spec PyProof.Rows L2
abbrev Tf:Stmt:=UX
def YD (H H1 H2:Hp):Prop:=∀b o,H b=none→H1 b=some o→H2 b=some o
theorem Yn (xs:List V) (v:V):CJ (xs++[v]) none (some (-1))=xs:=by
 unfold CJ
 have e1:HT.sIx (xs++[v]).length 0 none=0:=rfl
 have e2:HT.sIx (xs++[v]).length (xs++[v]).length (some (-1))=xs.length:=by
  show(if (-1:Int) < 0 then ((-1:Int)+((xs++[v]).length:Nat)).toNat else min (-1:Int).toNat (xs++[v]).length)=_
  rw[if_pos (by decide),BL]
  simp only[Cs]
  omega
 rw[e1,e2]
 simp
structure MH (P:Program) (w:World) (K:AB) (mg:Str→Option Value) (kT:Nat) (H:Hp) (f:Addr) (full:List (List Int)) (J:Nat→Hp→Prop) (R:Nat→Int):Prop where
 st:J 0 H
 mono:∀i H1 H2,J i H1→Same H1 H2→J i H2
 fn:∀i H1,J i H1→FnO H1 f
 ok:∃(fd:FuncData) (sp':Sp),(∀base:Heap,FnOk P w K mg base CX0 kT f fd ["number","line"] sp')∧Binds K fd ["number","line"] []∧
  ∀(i:Nat) (la:Addr) (ln:List Int) (H1:Hp) (Q1:VK),full[i]?=some ln→J i H1→H la=none→H1 la=some (.lst (ln.map V.int))→
   (∀H2,YD H H1 H2→(R i=0→J (i+1) H2)→(R i≠0→J i H2)→Q1 (.int (R i)) H2)→sp' [.int (i:Nat),.ref la] H1 Q1 E0
def Told (full:List (List Int)) (rest:List Int) (R:Nat→Int) (j:Nat) (res:List Int):Prop :=
 (j < full.length∧(∀i < j,R i=0)∧R j≠0∧res=[R j,(j:Int)])∨(j=full.length∧(∀i < j,R i=0)∧res=if rest=[] then [] else [1,(j:Int)])
def N2 (P:Program) (w:World) (K:AB) (mg:Str→Option Value) (kT:Nat):Sp:=fun vs H Q _=>∃(a f:Addr) (ns:List Int) (full:List (List Int)) (rest:List Int) (J:Nat→Hp→Prop) (R:Nat→Int),
 vs=[.ref a,.ref f]∧SqL K H a (ns.map V.int)∧ns.length < 100000∧Ao 10 ns=full++[rest]∧MH P w K mg kT H f full J R∧
 ∀(H':Hp) (p:Addr) (j:Nat) (res:List Int),J j H'→H' p=none→Told full rest R j res→Q (.ref p) (upd H' p (.lst (res.map V.int)))
theorem scFirst:Ab ["text","take","lines","number","line","kind"] ["text","take"] (AK Tf):=⟨rfl,rfl,rfl,by decide +kernel,rfl,by decide +kernel,by decide +kernel⟩
section
variable {P:Program}{w:World}{K:AB}{mg:Str→Option Value}{base:Heap}
theorem ok_first {f0:Addr}{fd0:FuncData}{kT:Nat} (F:Fun K "first_fault" "first_fault" Tf f0 fd0) (B:Blt mg) (c1:Cst mg "LINE_END" (.int 10)) (c2:Cst mg "NO_SUCH_LINE" (.int 1)) (g1:Has P w K mg "split_at" 1 ["mark","values"] (E1 K)):
  FnOk P w K mg base CX0 (kT+2) f0 fd0 ["text","take"] (N2 P w K mg kT):=by
 refine F.ok (k:=kT+1) scFirst (fun vs H Q E h=>?_) (fun cdv A outer s H vs Q E hr h=>?_)
 ·obtain⟨a,f,ns,full,rest,J,R,rfl,_⟩:=h
  rfl
 ·obtain⟨a,f,ns,full,rest,J,R,rfl,hS,hlen,hcut,T,k⟩:=h
  have hr1:Room 1 _:=hr.mono (by omega)
  have hrT:Room kT _:=hr.mono (by omega)
  obtain⟨fd,sp',hF,hB,hstep⟩:=T.ok
  refine⟨_,AI (Ap (i:=2) scFirst.nd rfl (AQ rfl) (AN g1 hr1 (by rfl) (AA (AW c1 rfl) (AA (pv 0) AD))))
   (AI (Ds D7 rfl (Nc (by rfl) B.enumerate (AA (FT FY (pv 2) GJ (Ew (HE HQ AS))) AD)) (Kd rfl (FU (BJ (i:=3) scFirst.nd rfl (AQ rfl)) (FU (BJ (i:=4) scFirst.nd rfl (AQ rfl)) Ke)))
    (AI (Ap (i:=5) scFirst.nd rfl (AQ rfl) (bR (k:=kT) (i:=1) hrT (AA (pv 3) (AA (pv 4) AD))))
     (AJ (Aw (Ag Ka (pv 5) AS (Ac _)) (AJ (AM (A5 (AA (pv 5) (AA (pv 3) AD))))) Ay))))
   (AI (Aw (Ag HA (A4 Bx (by rfl) B.len Bq (AA (CC B1 (pv 2) (HE HQ AS) (fun _ _=>rfl)) AD)) AS (Ac _))
     (AJ (AM (A5 (AA (AW c2 rfl) (AA (DB NV (A4 Bx (by rfl) B.len Bq (AA (pv 2) AD)) AS) AD))))) Ay)
   (AJ (AM (A5 AD))))),?_⟩
  refine⟨_,rfl,a,10,ns,rfl,hS,hlen,fun H1 p as s1 np nas hp hpa=>?_⟩
  rw[hcut] at hpa
  have hal:=Bb hpa
  rw[BL,Cs] at hal
  obtain⟨asF,aR,rfl⟩:∃asF aR,as=asF++[aR]:=by
   have ne:as≠[]:=by intro q;rw[q] at hal;simp at hal
   exact⟨as.dropLast,as.getLast ne,(LB ne).symm⟩
  have hlF:asF.length=full.length:=by rw[BL,Cs] at hal;omega
  have hcl:=G1 10 ns
  rw[hcut,BL,Cs] at hcl
  refine⟨_,rfl,_,rfl,_,rfl,p,_,rfl,SqL.of hp,fun q nq=>?_⟩
  have emap:(asF++[aR]).map V.ref=asF.map V.ref++[V.ref aR]:=BG
  have ecut:CJ ((asF++[aR]).map V.ref) none (some (-1))=asF.map V.ref:=by rw[emap];exact Yn _ _
  rw[ecut]
  have s2:Same H1 (upd H1 q (.lst (asF.map V.ref))):=(Same.refl H1).new nq
  have nq0:H q=none:=s1.free nq
  have hq1:upd H1 q (.lst (asF.map V.ref)) q=some (.lst (asF.map V.ref)):=AH
  have hp1:=s2 _ _ hp
  have hpa1:Paired (fun a ps=>upd H1 q (.lst (asF.map V.ref)) a=some (.lst (ps.map V.int))) (asF++[aR]) (full++[rest]):=Paired.mapP hpa fun a b e=>s2 _ _ e
  have J0:J 0 (upd H1 q (.lst (asF.map V.ref))):=T.mono 0 _ _ T.st (s1.trans s2)
  generalize upd H1 q (.lst (asF.map V.ref))=H2 at hq1 hp1 hpa1 J0 ⊢
  refine⟨q,_,rfl,SqL.of hq1,?_⟩
  refine FG (n:=full.length) (fun i σ H'=>∃(v3 v4 v5:Option V),σ=[some (.ref a),some (.ref f),some (.ref p),v3,v4,v5]∧J i H'∧(∀i' < i,R i'=0)∧H' q=some (.lst (asF.map V.ref))∧
    H' p=some (.lst ((asF++[aR]).map V.ref))∧Paired (fun a ps=>H' a=some (.lst (ps.map V.int))) (asF++[aR]) (full++[rest]))
   ⟨none,none,none,rfl,J0,fun i' h=>absurd h (LR _),hq1,hp1,hpa1⟩ ?_ ?_ ?_ ?_
  ·rintro i σ H' hi ⟨_,_,_,_,_,_,h,_⟩
   exact⟨_,_,SqL.of h,As (by rw[AF,hlF];exact hi)⟩
  ·rintro σ H' ⟨_,_,_,_,_,_,h,_⟩
   exact⟨_,SqL.of h,by rw[AF,hlF];exact AO _⟩
  ·rintro i y σ H' H3 hi ⟨v3,v4,v5,rfl,hJ,hR,hq,hp,hpa⟩ ⟨Tp,x,rfl,nT,rfl,hx⟩
   have hxi:=hx _ (SqL.of hq)
   rw[AX] at hxi
   cases hla:asF[i]? with
   | none=>rw[hla] at hxi;cases hxi
   | some la =>
   rw[hla] at hxi
   have ex:V.ref la=x:=AV hxi
   subst ex
   have hlaA:(asF++[aR])[i]?=some la:=by rw[LG (by omega)];exact hla
   obtain⟨ln,hln⟩:∃ln,full[i]?=some ln:=⟨_,As hi⟩
   have hlnA:(full++[rest])[i]?=some ln:=by rw[LG hi];exact hln
   have nla:H la=none:=nas la (CZ hlaA)
   have hlaH:H' la=some (.lst (ln.map V.int)):=by
    obtain⟨la',e1,e2⟩:=Cb hpa hlnA
    rw[hlaA] at e1
    cases e1
    exact e2
   have s3:Same H' (upd H' Tp (.tup [.int (i:Nat),.ref la])):=(Same.refl H').new nT
   have hT:upd H' Tp (.tup [.int (i:Nat),.ref la]) Tp=some (.tup [.int (i:Nat),.ref la]):=AH
   generalize upd H' Tp (.tup [.int (i:Nat),.ref la])=H3 at s3 hT ⊢
   have hJ3:=T.mono i _ _ hJ s3
   refine⟨Tp,_,rfl,.inl (.inl hT),rfl,_,_,rfl,_,_,rfl,rfl,?_⟩
   refine⟨f,fd,["number","line"],sp',rfl,T.fn i _ hJ3,hF _,hB,_,rfl,_,rfl,T.fn i _ hJ3,?_⟩
   refine hstep i la ln H3 _ hln hJ3 nla (s3 _ _ hlaH) fun H4 nk z nz=>?_
   refine⟨_,rfl,rfl,_,rfl,?_⟩
   by_cases hz:R i=0
   ·refine Zn (congrArg V.int hz) ?_
    refine⟨_,_,_,rfl,z hz,fun i' h'=>?_,nk _ _ nq0 (s3 _ _ hq),nk _ _ np (s3 _ _ hp),?_⟩
    ·rcases O2.mp h' with q | q
     ·exact hR i' q
     ·rw[q];exact hz
    ·exact IX hpa fun b ps hb e=>nk _ _ (nas b hb) (s3 _ _ e)
   ·have hne:¬V.int (R i)=V.int 0:=fun q=>hz (by injection q)
    rw[decide_eq_false hne]
    refine Rk ?_
    refine⟨_,rfl,_,rfl,(show 2≤sizeLine from CA (by decide)),fun l nl=>?_⟩
    exact k H4 l i [R i,(i:Int)] (nz hz) nl (.inl ⟨hi,hR,hz,rfl⟩)
  ·rintro σ H' ⟨v3,v4,v5,rfl,hJ,hR,hq,hp,hpa⟩
   have hRest:H' aR=some (.lst (rest.map V.int)):=by
    obtain⟨la',e1,e2⟩:=Cb hpa (i:=full.length) (b:=rest) (by simp)
    rw[JA (by omega)] at e1
    rw[hlF,LV] at e1
    cases e1
    exact e2
   refine⟨_,rfl,_,rfl,p,_,_,_,rfl,rfl,SqL.of hp,by rw[emap];exact ML _ _,aR,_,rfl,.inl (SqL.of hRest),_,_,rfl,rfl,_,rfl,?_⟩
   by_cases hz:rest=[]
   ·have:¬(0:Int) < (((rest.map V.int).length:Nat):Int):=by rw[hz];simp
    rw[decide_eq_false this]
    refine KA ?_
    refine⟨CA (by decide),fun l nl=>?_⟩
    refine k H' l full.length [] hJ nl (.inr ⟨rfl,hR,?_⟩)
    rw[if_pos hz]
   ·have:(0:Int) < (((rest.map V.int).length:Nat):Int):=by
     rw[AF]
     cases rest with
     | nil=>exact absurd rfl hz
     | cons a b=>simp
    rw[decide_eq_true this]
    refine Rk ?_
    refine⟨_,rfl,p,_,rfl,.inl (SqL.of hp),_,_,rfl,rfl,(show 2≤sizeLine from CA (by decide)),fun l nl=>?_⟩
    have e9:(((asF++[aR]).map V.ref).length:Int) - 1=(full.length:Int):=by
     rw[AF,BL,Cs,hlF]
     omega
    show Q (.ref l) (upd H' l (.lst [V.int 1,V.int ((((asF++[aR]).map V.ref).length:Int) - 1)]))
    rw[e9]
    refine k H' l full.length [1,(full.length:Int)] hJ nl (.inr ⟨rfl,hR,?_⟩)
    rw[if_neg hz]
end
end Fb
end
section
set_option maxRecDepth 100000
set_option maxHeartbeats 4000000
namespace Fb
open PySem PySem.Spec PyProof.Rows L2
theorem bT {b:Bool}{A C:Prop} (h:b=true) (k:A):if b=true then A else C:=by rw[if_pos h];exact k
theorem bF {b:Bool}{A C:Prop} (h:b=false) (k:C):if b=true then A else C:=by rw[if_neg (by rw[h];exact Aj)];exact k
theorem Kz {a b:Int} (h:V.int a=V.int b):a=b:=by injection h
theorem BV {a b:Int} (h:a≠b):¬V.int a=V.int b:=fun q=>h (Kz q)
abbrev T9:Stmt:=U9
def OA (K:AB):Sp:=fun vs H Q _=>∃(a:Addr) (ns:List Int) (m:Int),vs=[.ref a,.int m]∧SqL K H a (ns.map V.int)∧Pur H Q (.int (Dx m ns))
theorem scSmall:Ab ["word","most","number"] ["word","most"] (AK T9):=⟨rfl,rfl,rfl,by decide +kernel,rfl,by decide +kernel,by decide +kernel⟩
section
variable {P:Program}{w:World}{K:AB}{mg:Str→Option Value}{base:Heap}
theorem ok_small {f:Addr}{fd:FuncData} (F:Fun K "small_number" "small_number" T9 f fd) (B:Blt mg):FnOk P w K mg base CX0 1 f fd ["word","most"] (OA K):=by
 refine F.ok scSmall (fun vs H Q E h=>?_) (fun cdv A outer s H vs Q E hr h=>?_)
 ·obtain⟨a,ns,m,rfl,_⟩:=h
  rfl
 ·obtain⟨a,ns,m,rfl,hS,k⟩:=h
  have kk:=k H (Same.refl H)
  refine⟨_,AI (Aw (Ag Ka (A4 Bx (by rfl) B.len Bq (AA (pv 0) AD)) AS (Ac _)) (AJ (AM AS)) Ay)
   (AI (Ap (i:=2) scSmall.nd rfl (AQ rfl) (DB NV (CC B1 (pv 0) AS (fun _ _=>rfl)) (A4 Gz (by rfl) B.ord Hk (AA EJ AD))))
   (AJ (AM (Kb (bz Cg Cg AS (pv 2) (pv 1)) (pv 2) AS)))),?_⟩
  refine⟨_,rfl,a,_,rfl,.inl hS,rfl,_,rfl,?_⟩
  match ns,hS,kk with
  | [],hS,kk=>exact bT rfl kk
  | c::d::r,hS,kk =>
   refine bT ?_ kk
   rw[decide_eq_false (BV (by simp;omega))];rfl
  | [c],hS,kk =>
   refine bF (by rw[decide_eq_true (show V.int ((([c]:List Int).map V.int).length:Nat)=V.int 1 from rfl)];rfl) ?_
   refine⟨_,rfl,a,_,_,_,rfl,rfl,hS,Bw (j:=0) rfl,_,rfl,rfl,_,_,rfl,rfl,_,rfl,_,_,rfl,rfl,_,rfl,?_⟩
   have e48:((Eh "0").cps.getD 0 0:Nat)=48:=rfl
   unfold Dx at kk
   have kk:Q (.int (if 1≤c - 48∧c - 48≤m then c - 48 else 0)) H:=kk
   by_cases h1:1≤c - 48
   ·refine bT (decide_eq_true h1) ?_
    refine⟨_,rfl,_,_,rfl,rfl,_,rfl,?_⟩
    by_cases h2:c - 48≤m
    ·rw[if_pos ⟨h1,h2⟩] at kk
     exact bT (decide_eq_true h2) ⟨_,rfl,kk⟩
    ·rw[if_neg fun q=>h2 q.2] at kk
     exact bF (decide_eq_false h2) kk
   ·rw[if_neg fun q=>h1 q.1] at kk
    exact bF (decide_eq_false h1) ⟨_,rfl,bF rfl kk⟩
end
abbrev T7:Stmt:=U7
def DE (ns:List Int):Int:=if ns=BW "square" then 0 else if ns=BW "tails" then 1 else if ns=BW "long" then 2 else -1
def shps:List Str:=["square","tails","long"]
def MB (K:AB) (mg:Str→Option Value) (x:Str) (xs:List V):Prop:=∃t:Addr,mg x=some (.ref t)∧∀H:Hp,SqT K H t xs
def Vn (K:AB):Sp:=fun vs H Q _=>∃(a:Addr) (ns:List Int),vs=[.ref a]∧SqL K H a (ns.map V.int)∧Pur H Q (.int (DE ns))
theorem scShape:Ab ["word","number","shape"] ["word"] (AK T7):=⟨rfl,rfl,rfl,by decide +kernel,rfl,by decide +kernel,by decide +kernel⟩
section
variable {P:Program}{w:World}{K:AB}{mg:Str→Option Value}{base:Heap}
theorem ok_shape {f:Addr}{fd:FuncData} (F:Fun K "shape_told" "shape_told" T7 f fd) (B:Blt mg) (c1:MB K mg "SHAPES" (shps.map V.str)) (g1:Has P w K mg "letters" 1 ["word"] Ic):FnOk P w K mg base CX0 2 f fd ["word"] (Vn K):=by
 refine F.ok scShape (fun vs H Q E h=>?_) (fun cdv A outer s H vs Q E hr h=>?_)
 ·obtain⟨a,ns,rfl,_⟩:=h
  rfl
 ·obtain⟨a,ns,rfl,hS,k⟩:=h
  obtain⟨t,hmg,hSh⟩:=c1
  refine⟨_,AI (Ds D7 rfl (bh (by rfl) B.enumerate (AA (AW (v:=.ref t) ⟨_,hmg,rfl⟩ rfl) AD)) (Kd rfl (FU (BJ (i:=1) scShape.nd rfl (AQ rfl)) (FU (BJ (i:=2) scShape.nd rfl (AQ rfl)) Ke)))
    (AJ (Aw (Ag (GI hr.units) (pv 0) (AN g1 hr (by rfl) (AA (pv 2) AD)) (Ac _)) (AJ (AM (pv 1))) Ay)))
   (AJ (AM (HE HQ AS))),?_⟩
  refine⟨t,_,rfl,hSh _,?_⟩
  refine FG (n:=3) (fun i σ H'=>∃(v1 v2:Option V),σ=[some (.ref a),v1,v2]∧Same H H'∧∀j x,j < i→shps[j]?=some x→ns≠BW x) ⟨none,none,rfl,Same.refl H,fun j x h=>absurd h (LR _)⟩ ?_ ?_ ?_ ?_
  ·rintro i σ H' hi _
   exact⟨_,_,hSh _,As (by rw[AF];exact hi)⟩
  ·rintro σ H' _
   exact⟨_,hSh _,rfl⟩
  ·rintro i y σ H' H2 hi ⟨v1,v2,rfl,s1,hno⟩ ⟨T,x,rfl,nT,rfl,hx⟩
   have hxi:=hx _ (hSh _)
   rw[AX] at hxi
   cases hs:shps[i]? with
   | none=>rw[hs] at hxi;cases hxi
   | some z =>
   rw[hs] at hxi
   have ex:V.str z=x:=AV hxi
   subst ex
   have s2:Same H' (upd H' T (.tup [.int (i:Nat),.str z])):=(Same.refl H').new nT
   have hT:upd H' T (.tup [.int (i:Nat),.str z]) T=some (.tup [.int (i:Nat),.str z]):=AH
   generalize upd H' T (.tup [.int (i:Nat),.str z])=H2 at s2 hT ⊢
   refine⟨T,_,rfl,.inl (.inl hT),rfl,_,_,rfl,_,_,rfl,rfl,?_⟩
   have hzs:z.cps.size < 1000:=by
    have:i=0∨i=1∨i=2:=by omega
    rcases this with rfl | rfl | rfl <;> (cases hs;decide)
   refine⟨_,rfl,_,rfl,z,rfl,hzs,fun H3 q s3 nq hq=>?_⟩
   refine⟨_,_,BM (s3.seq (s2.seq (s1.seq hS))),BM (SqL.of hq),BF _,BF _,?_⟩
   rw[Cw]
   refine⟨_,rfl,?_⟩
   have s4:=(s1.trans s2).trans s3
   by_cases e:ns=BW z
   ·refine bT (decide_eq_true e) ⟨_,rfl,?_⟩
    have ev:DE ns=(i:Int):=by
     unfold DE
     have hi':i=0∨i=1∨i=2:=by omega
     rcases hi' with rfl | rfl | rfl
     ·cases hs;rw[if_pos e];rfl
     ·cases hs;rw[if_neg (hno 0 "square" (by decide) rfl),if_pos e];rfl
     ·cases hs;rw[if_neg (hno 0 "square" (by decide) rfl),if_neg (hno 1 "tails" (by decide) rfl),if_pos e];rfl
    have:=k H3 s4
    rw[ev] at this
    exact this
   ·refine bF (decide_eq_false e) ⟨_,_,rfl,s4,fun j x hj hx=>?_⟩
    rcases O2.mp hj with q | q
    ·exact hno j x q hx
    ·rw[q,hs] at hx;cases hx;exact e
  ·rintro σ H' ⟨v1,v2,rfl,s1,hno⟩
   have ev:DE ns=-1:=by
    unfold DE
    rw[if_neg (hno 0 "square" (by decide) rfl),if_neg (hno 1 "tails" (by decide) rfl),if_neg (hno 2 "long" (by decide) rfl)]
   have:=k H' s1
   rw[ev] at this
   exact⟨_,rfl,this⟩
end
end Fb
end
section
set_option maxRecDepth 100000
set_option maxHeartbeats 4000000
namespace Fb
open PySem PySem.Spec PyProof.Rows L2
def FI (k:Option AR):Bool:=match k.map WS with
 | some (.same _)=>true
 | _=>false
def IZ (k:Option AR):Nat:=match k.map WS with
 | some (.same k)=>k
 | _=>0
theorem UJ:∀(ks:List AR) (i:Nat),BR i (ks.map zk)=((A0 ks.length).filter fun f=>FI ks[f]?).map fun f=>(Av ((IZ ks[f]?:Nat):Int),V.int ((i+f:Nat):Int))
 | [],i=>rfl
 | k::ks,i=>by
  rw[Am,HI,A9,Hd,Dc]
  have e:((A0 ks.length).map LW).filter (fun f=>FI (k::ks)[f]?)=((A0 ks.length).filter fun f=>FI ks[f]?).map LW:=by
   rw[Oi]
   rfl
  have e2:(((A0 ks.length).filter fun f=>FI ks[f]?).map LW).map (fun f=>(((Av ((IZ (k::ks)[f]?:Nat):Int):Key),V.int ((i+f:Nat):Int))))=BR (i+1) (ks.map zk):=by
   rw[UJ ks (i+1),CG]
   apply CY
   intro f _
   show(Av ((IZ ks[f]?:Nat):Int),V.int ((i+(f+1):Nat):Int))=(Av ((IZ ks[f]?:Nat):Int),V.int ((i+1+f:Nat):Int))
   rw[show i+(f+1)=i+1+f by omega]
  rw[e]
  cases hr:k.role with
  | same j =>
   have h1:(zk k).lab=.same (j:Int):=by show zl k.role=_;rw[hr];rfl
   have h2:FI (k::ks)[0]?=true:=by show(match some k.role with | some (.same _)=>true | _=>false)=true;rw[hr]
   have h3:IZ (k::ks)[0]?=j:=by show(match some k.role with | some (.same k)=>k | _=>0)=j;rw[hr]
   rw[h1,h2,if_pos rfl,Am,e2,h3]
   rfl
  | sign n =>
   have h1:(zk k).lab=.sign (zs n):=by show zl k.role=_;rw[hr];rfl
   have h2:FI (k::ks)[0]?=false:=by show(match some k.role with | some (.same _)=>true | _=>false)=false;rw[hr]
   rw[h1,h2,if_neg Aj,e2]
  | answer =>
   have h1:(zk k).lab=.ans:=by show zl k.role=_;rw[hr];rfl
   have h2:FI (k::ks)[0]?=false:=by show(match some k.role with | some (.same _)=>true | _=>false)=false;rw[hr]
   rw[h1,h2,if_neg Aj,e2]
theorem cy (L:AU):BR 0 (L.kinds.map zk)=L.sameKinds.map fun f=>(Av ((L.points f:Nat):Int),V.int ((f:Nat):Int)):=by
 rw[UJ]
 show _=(((A0 L.kinds.length).filter fun f=>FI L.kinds[f]?)).map _
 apply CY
 intro f _
 rw[Ed]
 rfl
theorem S2 {L:AU} (w:Wf L.kinds):L.sameKinds.Pairwise fun f g=>L.points f < L.points g:=by
 have h0:(A0 L.kinds.length).Pairwise (· < ·):=Oy
 have h1:L.sameKinds.Pairwise (· < ·):=Oe _ h0
 refine WW.imp_of_mem ?_ h1
 intro f g hf hg hlt
 obtain⟨k,j,e1,e2⟩:=Fm.same_at hf
 obtain⟨k',j',e3,e4⟩:=Fm.same_at hg
 have p1:L.points f=j:=by unfold OZ;rw[e1];show(match some k.role with | some (.same k)=>k | _=>0)=j;rw[e2]
 have p2:L.points g=j':=by unfold OZ;rw[e3];show(match some k'.role with | some (.same k)=>k | _=>0)=j';rw[e4]
 rw[p1,p2]
 obtain⟨l1,e1'⟩:=Be.mp e1
 obtain⟨l2,e3'⟩:=Be.mp e3
 have:=Wq.mp w.sames f g l1 l2 hlt j j'
 rw[e1',e3'] at this
 exact this e2 e4
theorem S9 {F:Nat→Nat}:∀{l:List Nat}{a b:Nat},l.Pairwise (fun f g=>F f < F g)→(∀f∈l,a < F f∧F f≤b)→l.length≤b - a
 | [],_,_,_,_=>Au _
 | f::l,a,b,h,hb=>by
  obtain⟨h1,h2⟩:=Fp.mp h
  have hf:=hb f AZ
  have:=S9 (l:=l) (a:=F f) (b:=b) h2 fun g hg=>⟨h1 g hg,(hb g (Ar _ hg)).2⟩
  rw[A9]
  omega
theorem SJ {L:AU} (w:Wf L.kinds) (r:List Nat) (i:Nat) (fs:List Nat) (hs:fs.Sublist L.sameKinds):(fs.filter fun (f:Nat)=>decide (L.points f≤i)&&r.getD (L.points f - 1) 0==r.getD i 0).length≤i:=by
 have:=S9 (F:=L.points) (l:=fs.filter fun (f:Nat)=>decide (L.points f≤i)&&r.getD (L.points f - 1) 0==r.getD i 0) (a:=0) (b:=i) (Oe _ ((S2 w).sublist hs)) fun f hf=>by
  obtain⟨h1,h2⟩:=C9.mp hf
  rw[BC,decide_eq_true_eq] at h2
  exact⟨S0 w f (hs.subset h1),h2.1⟩
 omega
theorem WG {L:AU}:∀{fs:List Nat},fs.Pairwise (fun f g=>L.points f < L.points g)→∀{f:Nat},f∈fs→Az (fs.map fun f=>((Av ((L.points f:Nat):Int):Key),V.int ((f:Nat):Int))) (Av ((L.points f:Nat):Int))=some (.int (f:Nat))
 | g::fs,h,f,hf=>by
  obtain⟨h1,h2⟩:=Fp.mp h
  rw[Am]
  rcases AY.mp hf with e | e
  ·subst e
   exact C4 rfl
  ·rw[C3]
   ·exact WG h2 e
   ·intro q
    have q:((L.points g:Nat):Int)=((L.points f:Nat):Int):=Ht q
    have:=h1 f e
    omega
theorem ZL {p:Nat→Bool}{l:List Nat}{i x:Nat} (h:l[i]?=some x):(l.take (i+1)).filter p=(l.take i).filter p++if p x=true then [x] else []:=by
 rw[EK h,Iv,Dc,Oj]
theorem RR {r:List Nat}{i:Nat} (h:i < r.length):((zn r).map V.int)[i]?=some (.int ((r.getD i 0:Nat):Int)):=by
 unfold zn
 rw[CG,AX,As h,D5,As h]
 rfl
theorem dX {K:AB}{H:Hp}{a d:Addr}{xs:List V}{kvs:List (Key×V)}{o:HO} (hd:H d=some (.dK kvs)) (h:SqL K H a xs):SqL K (upd H d o) a xs:=by
 rcases h with (h | ⟨u,h⟩) | h
 ·exact .inl (.inl (by rw[AG (BE h hd (by intro q;cases q))];exact h))
 ·exact .inl (.inr ⟨u,by rw[AG (BE h hd (by intro q;cases q))];exact h⟩)
 ·exact .inr h
abbrev Nn:Stmt:=Us
def VX (K:AB) (CL CK:Addr):Sp:=fun vs H Q _=>∃(a b:Addr) (i:Nat) (p:LA) (L:AU) (fl:List Int) (r:List Nat),vs=[.ref a,.ref b,.int (i:Nat)]∧LockAt CL CK H a p (zs L.name) (L.kinds.map zk) fl∧Wf L.kinds∧SqL K H b ((zn r).map V.int)∧i < r.length∧r.length < 1000∧
 FF H Q (zn (r.getD i 0::Fm.mayAt L r i))
theorem scKTM:Ab ["locker","signs","place","sign","k"] ["locker","signs","place"] (AK Nn):=⟨rfl,rfl,rfl,by decide +kernel,rfl,by decide +kernel,by decide +kernel⟩
section
variable {P:Program}{w:World}{K:AB}{mg:Str→Option Value}{base:Heap}{CL CK:Addr}
theorem ok_ktm {f:Addr}{fd:FuncData} (F:Fun K "kinds_that_mean" "kinds_that_mean" Nn f fd) (TL:LockC K CL):FnOk P w K mg base CX0 1 f fd ["locker","signs","place"] (VX K CL CK):=by
 refine F.ok scKTM (fun vs H Q E h=>?_) (fun cdv A outer s H vs Q E hr h=>?_)
 ·obtain⟨a,b,i,p,L,fl,r,rfl,_⟩:=h
  rfl
 ·obtain⟨a,b,i,p,L,fl,r,rfl,hL,hW,hS,hi,hlen,k⟩:=h
  have hu:=F9 hr
  refine⟨_,AI (Ap (i:=3) scKTM.nd rfl (De rfl) (CC B1 (pv 1) (pv 2) (fun _ _=>rfl)))
   (AJ (AM (DB NU (A5 (AA (pv 3) AD)) (Ss (DA (own:=[("k",4)]) rfl scKTM.nd (Sw (An (pv 0) rfl)) (Cu (N:=["locker","signs","place","sign","k"]) (sc:=AK Nn) (by decide +kernel))
    (fun s H C cl fp=>BJ (i:=4) scKTM.nd rfl (AQ rfl)) (fun s H C cl fp=>b9 (PW.pt (EX (Ag Cg (pv 4) (pv 2) (Ac _)) (FW (Ag Ba (Na K rfl (pv 1) (DB NV (pv 4) AS) (fun _ _=>rfl)) (pv 3) (Ac _))))))
    (fun s H C cl fp=>bU hu (FQ K rfl (pv 0) rfl) (pv 4) (fun _ _=>rfl))))))),?_⟩
  obtain⟨dx,ho⟩:=hL.ob
  have hsm:=hL.sm
  rw[cy] at hsm
  generalize hfs:L.sameKinds=fs at hsm
  have hri:fs.Pairwise (fun f g=>L.points f < L.points g):=hfs▸S2 hW
  generalize hkv:(fs.map fun f=>((Av ((L.points f:Nat):Int):Key),V.int ((f:Nat):Int)))=kvs at hsm
  refine⟨_,rfl,_,rfl,b,_,(i:Nat),_,rfl,rfl,hS,Bw (RR hi),?_⟩
  refine⟨_,rfl,(show 1≤sizeLine from CA (by decide)),fun l1 n1=>?_⟩
  have s1:Same H (upd H l1 (.lst [.int ((r.getD i 0:Nat):Int)])):=(Same.refl H).new n1
  have hl1:upd H l1 (.lst [.int ((r.getD i 0:Nat):Int)]) l1=some (.lst [.int ((r.getD i 0:Nat):Int)]):=AH
  generalize upd H l1 (.lst [.int ((r.getD i 0:Nat):Int)])=H1 at s1 hl1
  have hsm1:=s1 _ _ hsm
  refine⟨p.sm,_,hsm1,trivial,fun od=>?_⟩
  have hfz:upd H1 p.sm (.frz od (.dK kvs)) p.sm=some (.frz od (.dK kvs)):=AH
  have s0:∀x o,H1 x=some o→x≠p.sm→upd H1 p.sm (.frz od (.dK kvs)) x=some o:=fun x o e n=>by rw[AG n];exact e
  have nap:a≠p.sm:=BE ho hsm (by intro q;cases q)
  have nb:∀xs,∀x,H1 x=some (.lst xs)→x≠p.sm:=fun xs x e=>BE e hsm1 (by intro q;cases q)
  have hS0:SqL K (upd H1 p.sm (.frz od (.dK kvs))) b ((zn r).map V.int):=dX hsm1 (s1.seq hS)
  generalize hH0:upd H1 p.sm (.frz od (.dK kvs))=H0 at hfz s0 hS0
  refine⟨_,rfl,a,CL,dx,_,_,rfl,s0 _ _ (s1 _ _ ho) nap,TL.cl,TL.sames,KN,p.sm,od,rfl,.inl ⟨_,hfz,fun D hD=>?_⟩⟩
  refine G6 (n:=kvs.length) (fun j H'=>Same H0 H'∧H' D=some (.lst ((zn ((fs.take j).filter fun (f:Nat)=>decide (L.points f≤i)&&r.getD (L.points f - 1) 0==r.getD i 0)).map V.int))) ⟨(Same.refl _).new hD,AH⟩
   (fun j H' hj q=>⟨q.1 _ _ hfz,hj⟩) (fun H' q=>⟨q.1 _ _ hfz,AO _⟩) ?_ ?_
  ·rintro j y H2 H3 hj ⟨s2,hD2⟩ ⟨rfl,kk,vv,hkk,rfl⟩
   have hjl:j < fs.length:=by rw[← hkv,AF] at hj;exact hj
   have hfj:fs[j]?=some fs[j]:=As hjl
   generalize fs[j]=f at hfj
   rw[← hkv,AX,hfj] at hkk
   have hkk:=AV hkk
   injection hkk with e1 e2
   subst e1
   have hfm:f∈fs:=CZ hfj
   have hge:1≤L.points f:=S0 hW f (by rw[hfs];exact hfm)
   have efil:=ZL (p:=fun (f:Nat)=>decide (L.points f≤i)&&r.getD (L.points f - 1) 0==r.getD i 0) hfj
   have hlen2:=SJ hW r i (fs.take j) (by rw[hfs];exact Oz _ _)
   refine⟨rfl,_,rfl,_,rfl,_,_,rfl,rfl,_,rfl,?_⟩
   by_cases h1:L.points f≤i
   ·refine bT (decide_eq_true (Int.ofNat_le.mpr h1)) ?_
    refine⟨_,rfl,_,rfl,_,_,rfl,rfl,b,_,_,_,rfl,rfl,s2.seq hS0,YQ (j:=L.points f - 1) (by omega) (RR (by omega)),_,rfl,rfl,_,rfl,?_⟩
    by_cases h2:r.getD (L.points f - 1) 0=r.getD i 0
    ·refine bT (decide_eq_true (by rw[h2])) ?_
     rw[if_pos (by rw[decide_eq_true h1,h2,beq_self_eq_true];rfl)] at efil
     refine⟨_,rfl,a,CL,dx,_,_,rfl,s2 _ _ (s0 _ _ (s1 _ _ ho) nap),TL.cl,TL.sames,KN,_,rfl,p.sm,_,rfl,(by
      have:=WG hri hfm
      rw[hkv] at this
      rw[← this]
      exact .inl ⟨kvs,_,.inr ⟨od,s2 _ _ hfz⟩,rfl,rfl⟩),_,hD2,?_,s2.wr hD,?_⟩
     ·rw[AF,Bl]
      exact BN (by omega)
     ·rw[AH,efil]
      unfold zn
      rw[BG,BG]
      rfl
    ·refine bF (decide_eq_false fun q=>h2 (Ip (Kz q))) ?_
     rw[if_neg (by rw[BC,beq_iff_eq];exact fun q=>h2 q.2),CO] at efil
     exact⟨s2,by rw[efil];exact hD2⟩
   ·refine bF (decide_eq_false fun q=>h1 (Int.ofNat_le.mp q)) ?_
    refine bF rfl ?_
    rw[if_neg (by rw[BC,decide_eq_true_eq];exact fun q=>h1 q.1),CO] at efil
    exact⟨s2,by rw[efil];exact hD2⟩
  ·rintro H2 ⟨s2,hD2⟩
   have ekl:kvs.length=fs.length:=by rw[← hkv,AF]
   rw[ekl,LI] at hD2
   have emay:(fs.filter fun (f:Nat)=>decide (L.points f≤i)&&r.getD (L.points f - 1) 0==r.getD i 0)=Fm.mayAt L r i:=by unfold Fm.mayAt;rw[hfs]
   have hml:=SJ hW r i fs (by rw[hfs];exact List.Sublist.refl _)
   rw[emay] at hD2 hml
   have nD:D≠p.sm:=Af (Ai hfz hD)
   have key:Same H1 (upd H2 p.sm (.dK kvs)):=fun x o e=>by
    by_cases n:x=p.sm
    ·subst n
     rw[AH,← hsm1]
     exact e
    ·rw[AG n]
     exact s2 _ _ (s0 _ _ e n)
   refine⟨s2 _ _ hfz,l1,D,_,_,rfl,rfl,key _ _ hl1,by rw[AG nD];exact hD2,?_,fun l3 n3=>?_⟩
   ·rw[AF,Bl]
    exact CA (by show 1+_ < _;omega)
   ·refine k _ l3 ((s1.trans key).new n3) ((s1.trans key).free n3) ?_
    rw[AH]
    rfl
end
end Fb
end
section
set_option maxRecDepth 100000
set_option maxHeartbeats 4000000
namespace Fb
open PySem PySem.Spec PyProof.Rows L2
abbrev Tg:Stmt:=UY
def bM:Option Nat→V
 | none=>.non
 | some f=>.int (f:Nat)
theorem QY {L:AU}{f:Nat}{k:AR} (h:L.kinds[f]?=some k):L.copies f=k.copies:=by
 unfold AU.copies
 rw[h]
 rfl
def P5 (kw:List (Key×V)) (n:Nat→Nat):Prop:=∀f:Nat,(Az kw (Av (f:Int))).getD (.int 0)=.int (n f:Nat)
def VP (K:AB) (CL CK:Addr):Sp:=fun vs H Q _=>∃(a d b:Addr) (p:LA) (L:AU) (fl:List Int) (kw:List (Key×V)) (n:Nat→Nat) (fs:List Nat),vs=[.ref a,.ref d,.ref b]∧LockAt CL CK H a p (zs L.name) (L.kinds.map zk) fl∧H d=some (.dK kw)∧P5 kw n∧SqL K H b ((zn fs).map V.int)∧(∀f∈fs,f < L.kinds.length)∧
 Pur H Q (bM (fs.find? fun f=>decide (n f < L.copies f)))
theorem scFirstL:Ab ["locker","flown","kinds","number"] ["locker","flown","kinds"] (AK Tg):=⟨rfl,rfl,rfl,by decide +kernel,rfl,by decide +kernel,by decide +kernel⟩
theorem RA {p:Nat→Bool}:∀{l:List Nat}{i x:Nat},l[i]?=some x→p x=true→(∀j < i,∀y,l[j]?=some y→p y=false)→l.find? p=some x
 | y::l,0,x,h,hp,_=>by
  cases h
  rw[C8,hp]
 | y::l,i+1,x,h,hp,hn=>by
  rw[C8,hn 0 (by omega) y rfl]
  exact RA (l:=l) (i:=i) h hp fun j hj z hz=>hn (j+1) (by omega) z hz
section
variable {P:Program}{w:World}{K:AB}{mg:Str→Option Value}{base:Heap}{CL CK:Addr}
theorem ok_firstL {f:Addr}{fd:FuncData} (F:Fun K "first_left" "first_left" Tg f fd) (TL:LockC K CL) (TK:KindC K CK):FnOk P w K mg base CX0 1 f fd ["locker","flown","kinds"] (VP K CL CK):=by
 refine F.ok scFirstL (fun vs H Q E h=>?_) (fun cdv A outer s H vs Q E hr h=>?_)
 ·obtain⟨a,d,b,p,L,fl,kw,n,fs,rfl,_⟩:=h
  rfl
 ·obtain⟨a,d,b,p,L,fl,kw,n,fs,rfl,hL,hd,hn,hS,hin,k⟩:=h
  have hu:=F9 hr
  refine⟨_,AI (Ds D7 rfl (Cy (pv 2)) (BJ (i:=3) scFirstL.nd rfl (AQ rfl))
    (AJ (Aw (Ag KZ (So hu (pv 1) (pv 3) AS ⟨rfl,rfl,rfl,rfl⟩) (An (CC B1 (An (pv 0) rfl) (pv 3) (fun _ _=>rfl)) rfl) (Ac _)) (AJ (AM (pv 3))) Ay)))
   (AJ (AM Dn)),?_⟩
  obtain⟨dx,ho⟩:=hL.ob
  obtain⟨as,hak,hpk⟩:=hL.ks
  refine⟨_,rfl,b,rfl,⟨_,hS⟩,J4 (K:=K) (a:=b) (xs:=(zn fs).map V.int)
   (fun i σ H'=>∃v:Option V,σ=[some (.ref a),some (.ref d),some (.ref b),v]∧H'=H∧∀j < i,∀y,fs[j]?=some y→decide (n y < L.copies y)=false) ⟨none,rfl,rfl,fun j hj=>absurd hj (LR _)⟩ (fun i σ H' _ ⟨_,_,e,_⟩=>by rw[e];exact hS) ?_ ?_⟩
  ·rintro i y σ H' hi ⟨v,rfl,rfl,hno⟩
   obtain⟨z,hz,rfl⟩:=Ep hi
   unfold zn at hz
   rw[AX] at hz
   cases hfi:fs[i]? with
   | none=>rw[hfi] at hz;cases hz
   | some g =>
   rw[hfi] at hz
   have ez:((g:Nat):Int)=z:=AV hz
   subst ez
   have hg:=hin g (CZ hfi)
   have hkg:L.kinds[g]?=some L.kinds[g]:=As hg
   generalize L.kinds[g]=kd at hkg
   obtain⟨ka,hka,dz,lv,hko,_⟩:=Cb hpk (i:=g) (b:=zk kd) (by rw[AX,hkg];rfl)
   refine⟨_,rfl,d,rfl,.inl ⟨kw,.inl hd⟩,_,rfl,_,DGet.k (k:=Av (g:Int)) hd,?_⟩
   refine⟨_,rfl,a,CL,dx,_,_,rfl,ho,TL.cl,TL.kinds,GF,_,rfl,p.ak,_,_,_,rfl,rfl,SqL.of hak,Bw (j:=g) (v:=V.ref ka) (by rw[AX,hka];rfl),ka,CK,dz,_,_,rfl,hko,TK.cl,TK.copies,Z1,?_⟩
   refine⟨_,_,hn g,rfl,_,rfl,?_⟩
   by_cases hlt:n g < L.copies g
   ·refine bT (decide_eq_true (by show((n g:Nat):Int) < (kd.copies:Nat);rw[← QY hkg];exact Int.ofNat_lt.mpr hlt)) ?_
    refine⟨_,rfl,?_⟩
    have:=k _ (Same.refl _)
    rw[RA hfi (decide_eq_true hlt) hno] at this
    exact this
   ·refine bF (decide_eq_false (by show ¬((n g:Nat):Int) < (kd.copies:Nat);rw[← QY hkg];exact fun q=>hlt (Int.ofNat_lt.mp q))) ?_
    refine⟨_,rfl,rfl,fun j hj y hy=>?_⟩
    rcases O2.mp hj with q | q
    ·exact hno j q y hy
    ·subst q
     rw[hfi] at hy
     cases hy
     exact decide_eq_false hlt
  ·rintro σ H' ⟨v,rfl,rfl,hno⟩
   have:=k _ (Same.refl _)
   have e:fs.find? (fun f=>decide (n f < L.copies f))=none:=by
    rw[Ol]
    intro x hx
    obtain⟨j,hj,e⟩:=List.getElem_of_mem hx
    have:=hno j (by rw[AF,Bl];exact hj) x (by rw[As hj,e])
    rw[this]
    exact Aj
   rw[e] at this
   exact this
end
abbrev Ti:Stmt:=Ua
def Ca (L:AU) (r:List Nat):List Nat:=(Fm.greedy L.copies (L.spots [r])).getD []
def N3 (K:AB) (CL CK:Addr):Sp:=fun vs H Q _=>∃(a b:Addr) (p:LA) (L:AU) (fl:List Int) (r:List Nat),vs=[.ref a,.ref b]∧LockAt CL CK H a p (zs L.name) (L.kinds.map zk) fl∧Wf L.kinds∧SqL K H b ((zn r).map V.int)∧r.length < 1000∧(∀s∈r,L.isSignAt s=true)∧
 FF H Q (zn (Ca L r))
theorem scHoist:Ab ["locker","signs","hoist","flown","place","number"] ["locker","signs"] (AK Ti):=⟨rfl,rfl,rfl,by decide +kernel,rfl,by decide +kernel,by decide +kernel⟩
theorem ZX {L:AU}{r:List Nat}{i:Nat} (hi:i < r.length) (h:List Nat):Fm.greedy (Fm.less L.copies h) ((L.spots [r]).drop i)=match (r.getD i 0::Fm.mayAt L r i).find? (fun f=>decide (h.count f < L.copies f)) with
  | none=>none
  | some f=>(Fm.greedy (Fm.less L.copies (h++[f])) ((L.spots [r]).drop (i+1))).map (f::·):=by
 have hl:i < (L.spots [r]).length:=by rw[Fm.spots_one,AF,Fl];exact hi
 have e:(L.spots [r]).drop i=⟨r.getD i 0,Fm.mayAt L r i⟩::(L.spots [r]).drop (i+1):=by
  rw[Ir hl]
  congr 1
  simp only[Fm.spots_one,List.getElem_map,List.getElem_range]
 rw[e,Fm.greedy]
 have ep:(fun f=>decide (0 < Fm.less L.copies h f))=fun f=>decide (h.count f < L.copies f):=funext fun f=>by
  unfold Fm.less
  rw[C5,decide_eq_true_iff,decide_eq_true_iff]
  omega
 simp only[ep]
 cases (r.getD i 0::Fm.mayAt L r i).find? (fun f=>decide (h.count f < L.copies f)) with
 | none=>rfl
 | some f=>simp only[Fm.less_snoc]
theorem Ru {L:AU}{r:List Nat} (hr:∀s∈r,L.isSignAt s=true) {i:Nat} (hi:i < r.length):∀f∈r.getD i 0::Fm.mayAt L r i,f < L.kinds.length:=fun f hf=>by
 rcases AY.mp hf with e | e
 ·have hm:r.getD i 0∈r:=by
   rw[D5,As hi]
   exact GY hi
  obtain⟨k,h1,_⟩:=Fm.role_at (e▸hr _ hm)
  exact(Be.mp h1).1
 ·obtain⟨k,j,h1,_⟩:=Fm.same_at (C9.mp e).1
  exact(Be.mp h1).1
section
variable {P:Program}{w:World}{K:AB}{mg:Str→Option Value}{base:Heap}{CL CK:Addr}
theorem ok_hoist {f:Addr}{fd:FuncData} (F:Fun K "hoist_told" "hoist_told" Ti f fd) (B:Blt mg) (g1:Has P w K mg "kinds_that_mean" 1 ["locker","signs","place"] (VX K CL CK)) (g2:Has P w K mg "first_left" 1 ["locker","flown","kinds"] (VP K CL CK)):FnOk P w K mg base CX0 2 f fd ["locker","signs"] (N3 K CL CK):=by
 refine F.ok scHoist (fun vs H Q E h=>?_) (fun cdv A outer s H vs Q E hr h=>?_)
 ·obtain⟨a,b,p,L,fl,r,rfl,_⟩:=h
  rfl
 ·obtain⟨a,b,p,L,fl,r,rfl,hL,hW,hS,hlen,hin,k⟩:=h
  have hu:=F9 hr
  refine⟨_,AI (Ap (i:=2) scHoist.nd rfl (AQ rfl) (A5 AD)) (AI (Ap (i:=3) scHoist.nd rfl (AQ rfl) Sq)
   (AI (Ds D7 rfl (Sx (by rfl) B.range (AA (A4 Bx (by rfl) B.len Bq (AA (pv 1) AD)) AD)) (BJ (i:=4) scHoist.nd rfl (AQ rfl))
    (AI (Ap (i:=5) scHoist.nd rfl (AQ rfl) (AN g2 hr (by rfl) (AA (pv 0) (AA (pv 3) (AA (AN g1 hr (by rfl) (AA (pv 0) (AA (pv 1) (AA (pv 4) AD)))) AD)))))
    (AI (Aw (Ag Sh (pv 5) Dn (Ac _)) (AJ (AM (A5 AD))) Ay)
    (AI (Nd hu (pv 3) (pv 5) (DB KY (So hu (pv 3) (pv 5) AS ⟨rfl,rfl,rfl,rfl⟩) AS) rfl)
    (AJ (Dr (DS Df E8 E9 Es (pv 2) (AA (pv 5) AD))))))))
   (AJ (AM (pv 2))))),?_⟩
  refine⟨Au _,fun l nl=>?_⟩
  intro df ndf
  have s1:Same H (upd (upd H l (.lst [])) df (.dK [])):=((Same.refl H).new nl).new ndf
  have ndf0:H df=none:=((Same.refl H).new nl).free ndf
  have dlf:l≠df:=Ai AH ndf
  refine⟨_,rfl,b,_,rfl,.inl (s1.seq hS),(((zn r).map V.int).length:Nat),rfl,by omega,by rw[AF,Bl];omega,?_⟩
  refine FG (n:=r.length) (fun i σ H'=>∃(v4 v5:Option V) (kw:List (Key×V)) (h:List Nat),σ=[some (.ref a),some (.ref b),some (.ref l),some (.ref df),v4,v5]∧Same H H'∧H' l=some (.lst ((zn h).map V.int))∧H' df=some (.dK kw)∧P5 kw (fun f=>h.count f)∧kw.length≤i∧h.length=i∧
    Fm.greedy L.copies (L.spots [r])=(Fm.greedy (Fm.less L.copies h) ((L.spots [r]).drop i)).map (h++·))
   ⟨none,none,[],[],rfl,s1,by rw[AG dlf];exact AH,AH,fun f=>rfl,Au _,rfl,by
    rw[Fm.less_nil,List.drop_zero]
    cases Fm.greedy L.copies (L.spots [r]) <;> rfl⟩ ?_ ?_ ?_ ?_
  ·rintro i σ H' hi _
   show i < _
   rw[AF,Bl]
   omega
  ·rintro σ H' _
   show _≤r.length
   rw[AF,Bl]
   omega
  ·rintro i y σ H' H2 hi ⟨v4,v5,kw,h,rfl,s2,hl,hdf,hct,hkw,hhl,hg⟩ ⟨rfl,rfl⟩
   rw[Int.zero_add]
   refine⟨_,rfl,_,rfl,_,rfl,_,rfl,_,rfl,a,b,i,p,L,fl,r,rfl,hL.mono s2,hW,s2.seq hS,hi,hlen,fun H3 kl s3 nkl hkl=>?_⟩
   refine⟨a,df,kl,p,L,fl,kw,_,_,rfl,(hL.mono s2).mono s3,s3 _ _ hdf,hct,SqL.of hkl,Ru hin hi,fun H4 s4=>?_⟩
   have s34:=s3.trans s4
   have s24:=s2.trans s34
   rw[ZX hi] at hg
   cases hfd:(r.getD i 0::Fm.mayAt L r i).find? (fun f=>decide (h.count f < L.copies f)) with
   | none =>
    rw[hfd] at hg
    refine⟨_,rfl,rfl,_,rfl,bT rfl ⟨Au _,fun l2 nl2=>?_⟩⟩
    refine k _ l2 (s24.new nl2) (s24.free nl2) ?_
    unfold Ca
    rw[hg]
    exact AH
   | some g =>
    rw[hfd] at hg
    have hdf4:=s34 _ _ hdf
    have hl4:=s34 _ _ hl
    refine⟨_,rfl,rfl,_,rfl,bF (decide_eq_false fun q=>nomatch q) ?_⟩
    refine⟨_,rfl,df,rfl,.inl ⟨kw,.inl hdf4⟩,_,rfl,_,DGet.k (k:=Av (g:Int)) hdf4,_,_,hct g,rfl,_,rfl,_,rfl,df,_,rfl,DPut.k (k:=Av (g:Int)) hdf4 (BN (by omega)),?_⟩
    refine⟨_,rfl,.inl ⟨rfl,_,SqL.of (by rw[AG dlf];exact hl4)⟩,_,rfl,l,_,_,rfl,rfl,by rw[AG dlf];exact hl4,by rw[AF,Bl];exact BN (by omega),?_⟩
    refine⟨_,_,_,h++[g],rfl,(s24.wr ndf0).wr nl,?_,by rw[AG (Af dlf)];exact AH,fun x=>?_,Bp (M4 _ _ _) (by omega),by rw[BL,hhl];rfl,?_⟩
    ·rw[AH]
     unfold zn
     rw[BG,BG]
     rfl
    ·have ec:(h++[g]).count x=h.count x+[g].count x:=WX
     show _=V.int (((h++[g]).count x:Nat):Int)
     rw[fS,ec]
     by_cases e:x=g
     ·subst e
      rw[if_pos rfl,List.count_singleton_self]
      rfl
     ·rw[if_neg (show ¬(Av (x:Int):Key)=Av (g:Int) from fun q=>e (Ip (Ht q))),Of (fun q=>e q.symm)]
      exact hct x
    ·rw[hg,Option.map_map]
     congr 1
     funext t
     simp
  ·rintro σ H' ⟨v4,v5,kw,h,rfl,s2,hl,hdf,hct,hkw,hhl,hg⟩
   have ed:(L.spots [r]).drop r.length=[]:=Iu (by rw[Fm.spots_one,AF,Fl];exact AO _)
   rw[ed] at hg
   refine⟨_,rfl,k H' l s2 nl ?_⟩
   unfold Ca
   rw[hg]
   show H' l=some (.lst ((zn (h++[])).map V.int))
   rw[CO]
   exact hl
end
abbrev T8:Stmt:=UR
def Vo (K:AB) (CL CK:Addr):Sp:=fun vs H Q _=>∃(a b:Addr) (p:LA) (L:AU) (fl:List Int) (r:List Nat),vs=[.ref a,.ref b]∧LockAt CL CK H a p (zs L.name) (L.kinds.map zk) fl∧Wf L.kinds∧SqL K H b ((zn r).map V.int)∧r.length < 1000∧(∀s∈r,L.isSignAt s=true)∧r≠[]∧
 Pur H Q (.bl (L.canShow r))
theorem dS:Ab ["locker","signs"] ["locker","signs"] (AK T8):=⟨rfl,rfl,rfl,by decide +kernel,rfl,by decide +kernel,by decide +kernel⟩
theorem Zc {L:AU}{r:List Nat} (hW:Wf L.kinds) (hr:∀s∈r,L.isSignAt s=true) (hne:r≠[]):(!decide (zn (Ca L r)=[]))=L.canShow r:=by
 rw[Fm.canShow_greedy hW hr]
 unfold Ca
 cases hd:Fm.greedy L.copies (L.spots [r]) with
 | none=>rfl
 | some h =>
  have hl:=Fm.greedy_len hd
  rw[Fm.spots_one,AF,Fl] at hl
  have:¬zn h=[]:=fun q=>by
   have:=congrArg Ha q
   rw[Bl,hl] at this
   exact hne (JB.mp this)
  show(!decide (zn h=[]))=true
  rw[decide_eq_false this]
  rfl
section
variable {P:Program}{w:World}{K:AB}{mg:Str→Option Value}{base:Heap}{CL CK:Addr}
theorem ok_show {f:Addr}{fd:FuncData} (F:Fun K "can_show" "can_show" T8 f fd) (g1:Has P w K mg "hoist_told" 2 ["locker","signs"] (N3 K CL CK)):FnOk P w K mg base CX0 3 f fd ["locker","signs"] (Vo K CL CK):=by
 refine F.ok dS (fun vs H Q E h=>?_) (fun cdv A outer s H vs Q E hr h=>?_)
 ·obtain⟨a,b,p,L,fl,r,rfl,_⟩:=h
  rfl
 ·obtain⟨a,b,p,L,fl,r,rfl,hL,hW,hS,hlen,hin,hne,k⟩:=h
  refine⟨_,AJ (AM (Dm (IW hr.units) (AN g1 hr (by rfl) (AA (pv 0) (AA (pv 1) AD))) (A5 AD) (Ac _))),?_⟩
  refine⟨_,rfl,_,rfl,a,b,p,L,fl,r,rfl,hL,hW,hS,hlen,hin,fun H1 l1 s1 n1 h1=>⟨Au _,fun l2 n2=>?_⟩⟩
  have s2:Same H1 (upd H1 l2 (.lst [])):=(Same.refl _).new n2
  have h2:upd H1 l2 (.lst []) l2=some (.lst (([]:List Int).map V.int)):=AH
  refine⟨_,_,BM (SqL.of (s2 _ _ h1)),BM (SqL.of h2),BF _,BF _,?_⟩
  rw[Cw,Zc hW hin hne]
  exact k _ (s1.trans s2)
end
end Fb
end
section
set_option maxRecDepth 100000
set_option maxHeartbeats 4000000
namespace Fb
open PySem PySem.Spec PyProof.Rows L2
theorem bI {X:Cx} (K:AB) (hK:X.K=K):OpR X (compareOp .In) (rIn K false):=by
 subst hK
 exact Sg
theorem Mm:∀ns:List Int,(ns.map V.int).all Cq=true
 | []=>rfl
 | n::r=>by rw[Am,HY,Mm r];rfl
theorem Mg (a b:Int):eqV (.int a) (.int b)=decide (a=b):=by
 first | rfl | (unfold eqV;rw[C5];simp) | (simp[eqV])
theorem Rh (b:Int):∀ns:List Int,inV (.int b) (ns.map V.int)=decide (b∈ns)
 | []=>rfl
 | n::r=>by
  have ih:=Rh b r
  unfold inV at ih ⊢
  rw[Am,D4,ih,Mg]
  rw[C5,K2,decide_eq_true_iff,decide_eq_true_iff,decide_eq_true_iff,AY]
  exact⟨fun h=>h.elim (fun q=>.inl q.symm) .inr,fun h=>h.elim (fun q=>.inl q.symm) .inr⟩
abbrev T1:Stmt:=Uy
def Eo:List Int→Int
 | []=>0
 | d::r=>Eo r * 16+d
theorem Y4 {α:Type}{l:List α}{i:Nat}{x:α} (h:l[i]?=some x):l.drop i=x::l.drop (i+1):=by
 obtain⟨hi,e⟩:=Be.mp h
 rw[Ir hi,e]
theorem Ra:∀ns:List Int,Eo (ns.map fun b=>((digs.idxOf b:Nat):Int))=FN ns
 | []=>rfl
 | b::r=>by
  rw[Am,Eo,Ra r,FN]
def Kt (K:AB):Sp:=fun vs H Q _=>∃(a:Addr) (ns:List Int),vs=[.ref a]∧SqL K H a (ns.map V.int)∧Pur H Q (.int (Eo ns))
theorem scNumOf:Ab ["told","number","digit"] ["told"] (AK T1):=⟨rfl,rfl,rfl,by decide +kernel,rfl,by decide +kernel,by decide +kernel⟩
section
variable {P:Program}{w:World}{K:AB}{mg:Str→Option Value}{base:Heap}
theorem ok_numOf {f:Addr}{fd:FuncData} (F:Fun K "number_of" "number_of" T1 f fd) (B:Blt mg):FnOk P w K mg base CX0 1 f fd ["told"] (Kt K):=by
 refine F.ok scNumOf (fun vs H Q E h=>?_) (fun cdv A outer s H vs Q E hr h=>?_)
 ·obtain⟨a,ns,rfl,_⟩:=h
  rfl
 ·obtain⟨a,ns,rfl,hS,k⟩:=h
  refine⟨_,AI (Ap (i:=1) scNumOf.nd rfl (AQ rfl) AS)
   (AI (Ds D7 rfl (bp (by rfl) B.reversed (AA (pv 0) AD)) (BJ (i:=2) scNumOf.nd rfl (AQ rfl))
    (AJ (Ap (i:=1) scNumOf.nd rfl (AQ rfl) (DB KY (DB bK (pv 1) AS) (pv 2)))))
   (AJ (AM (pv 1)))),?_⟩
  refine⟨_,rfl,a,_,rfl,hS,?_⟩
  refine FG (n:=(ns.map V.int).length) (fun i σ H'=>∃v3:Option V,σ=[some (.ref a),some (.int (Eo (ns.drop (ns.length - i)))),v3]∧Same H H') ⟨none,by rw[Nat.sub_zero,WY];rfl,Same.refl H⟩ ?_ ?_ ?_ ?_
  ·rintro i σ H' hi ⟨_,_,s3⟩
   refine⟨hi,_,_,s3.seq hS,As (by omega)⟩
  ·rintro σ H' _
   exact AO _
  ·rintro i y σ H' H3 hi ⟨v3,rfl,s3⟩ ⟨rfl,hy⟩
   rw[AF] at hi
   obtain⟨n,hn,rfl⟩:=Ep (hy _ (s3.seq hS))
   rw[AF] at hn
   refine⟨_,rfl,_,_,rfl,rfl,.inr ⟨by decide,by decide⟩,_,rfl,_,_,rfl,rfl,?_⟩
   refine⟨some (.int n),?_,s3⟩
   have e:ns.drop (ns.length - (i+1))=n::ns.drop (ns.length - i):=by
    have:=Y4 hn
    rw[show ns.length - 1 - i=ns.length - (i+1) by omega] at this
    rw[this,show ns.length - (i+1)+1=ns.length - i by omega]
   rw[e]
   rfl
  ·rintro σ H' ⟨v3,rfl,s3⟩
   refine⟨_,rfl,?_⟩
   rw[AF,LV,List.drop_zero]
   exact k H' s3
end
abbrev Kl:Stmt:=Uv
def Ve (K:AB):Sp:=fun vs H Q _=>∃(a:Addr) (ns:List Int),vs=[.ref a]∧SqL K H a (ns.map V.int)∧ns.length < 100000∧Pur H Q (.int (DR ns))
theorem scLook:Ab ["word","colours","byte"] ["word"] (AK Kl):=⟨rfl,rfl,rfl,by decide +kernel,rfl,by decide +kernel,by decide +kernel⟩
theorem Yy:BW "0123456789abcdef"=digs:=by decide +kernel
theorem bZ {X:Cx}{o e:Expr}{apos cpos:Pos}{to:TE}{t:TA} (K:AB) (hK:X.K=K) (ho:PE X o to) (ha:PA X [e] t) (hbase:attributeBase o "index" X.env (eval o X.env)=eval o X.env:=by rfl)
  (hfew:((backTo cpos (starEach [e] X.env)).all (fun x=>!x.1)&&(backToKw cpos (keywordEach [] X.env)).all (fun x=>x.1.isSome)&&decide ([e].length+([]:List Keyword).length+(if ([]:List Keyword).isEmpty then 0 else 1) < 30))=true:=by rfl)
  (hline:(apos.endLine==cpos.line)=true:=by rfl) (hs:starEach [e] X.env=(false,eval e X.env)::starEach [] X.env:=by rfl) (hplain:(backTo cpos (starEach [] X.env)).any (·.1)=false:=by rfl):PE X (.Call (.Attribute o "index" apos) [e] [] cpos) (tBM K "list" (S4 K) to t):=by
 subst hK
 exact DS Df XW PySem.F.type_list_index ab ho ha hbase hfew hline hs hplain
section
variable {P:Program}{w:World}{K:AB}{mg:Str→Option Value}{base:Heap}
theorem ok_look {f:Addr}{fd:FuncData} (F:Fun K "look_told" "look_told" Kl f fd) (B:Blt mg) (c1:Cst mg "COLOURS" (.str "0123456789abcdef")) (c2:Cst mg "DIGITS" (.int 16)) (g1:Has P w K mg "letters" 1 ["word"] Ic) (g2:Has P w K mg "number_of" 1 ["told"] (Kt K)):FnOk P w K mg base CX0 2 f fd ["word"] (Ve K):=by
 refine F.ok scLook (fun vs H Q E h=>?_) (fun cdv A outer s H vs Q E hr h=>?_)
 ·obtain⟨a,ns,rfl,_⟩:=h
  rfl
 ·obtain⟨a,ns,rfl,hS,hlen,k⟩:=h
  refine⟨_,AI (Ap (i:=1) scLook.nd rfl (De rfl) (AN g1 hr (by rfl) (AA (AW c1 rfl) AD)))
   (AI (Aw (PW.pt (HG (Ag Ka (A4 Bx (by rfl) B.len Bq (AA (pv 0) AD)) (AW c2 rfl) (Ac _))
     (Ia (Ex (Dt (A4 (Jk rfl) (by rfl) B.all La (AA (DA (own:=[("byte",2)]) rfl scLook.nd (Cy (pv 0)) (Cu (N:=["word","colours","byte"]) (sc:=AK Kl) (by decide +kernel)) (fun s H C cl fp=>BJ (i:=2) scLook.nd rfl (AQ rfl)) (fun s H C cl fp=>DC)
      (fun s H C cl fp=>Dm (bI K rfl) (pv 2) (pv 1) (by rfl))) AD)))))))
    (AJ (AM (HE HQ AS))) Ay)
   (AJ (AM (AN g2 hr (by rfl) (AA (DA (own:=[("byte",2)]) rfl scLook.nd (Cy (pv 0)) (Cu (N:=["word","colours","byte"]) (sc:=AK Kl) (by decide +kernel)) (fun s H C cl fp=>BJ (i:=2) scLook.nd rfl (AQ rfl)) (fun s H C cl fp=>DC)
      (fun s H C cl fp=>bZ K rfl (pv 1) (AA (pv 2) AD))) AD))))),?_⟩
  refine⟨_,rfl,by decide,fun H1 dg s1 nd hd=>?_⟩
  rw[Yy] at hd
  have hS1:=s1.seq hS
  refine⟨_,rfl,a,_,rfl,.inl hS1,rfl,_,rfl,?_⟩
  by_cases hl:ns.length=16
  ·refine bF (by rw[decide_eq_true (show V.int ((ns.map V.int).length:Nat)=V.int 16 by rw[AF,hl];rfl)];rfl) ?_
   refine⟨_,rfl,a,rfl,⟨_,hS1⟩,fun D hD=>?_⟩
   refine EW (n:=(ns.map V.int).length) ((ns.map fun b=>decide (b∈digs)).map V.bl) (by simp) (BN (by rw[AF];omega)) hD (fun i H hi s2=>EE (s2.seq hS1) hi) (fun H s2=>EF (s2.seq hS1)) ?_ ?_
   ·rintro i y z H2 H3 hz s2 ⟨rfl,hy⟩ R hR
    obtain⟨n,hn,rfl⟩:=Ep (hy _ (s2.seq hS1))
    refine⟨rfl,_,rfl,_,rfl,dg,_,rfl,.inl (SqL.of (s2 _ _ hd)),rfl,Mm _,?_⟩
    have:z=V.bl (decide (n∈digs)):=by
     rw[AX,AX,hn] at hz
     exact(AV hz).symm
    subst this
    rw[if_neg Aj,Rh]
    exact hR _ (Same.refl _)
   ·intro H2 s2 hd2
    refine⟨D,ns.map fun b=>decide (b∈digs),rfl,SqL.of hd2,_,rfl,?_⟩
    rw[GV]
    have s12:=s1.trans s2
    by_cases ha:(ns.all fun b=>decide (b∈digs))=true
    ·refine bF (by show(!(ns.all fun b=>decide (b∈digs)))=false;rw[ha];rfl) ?_
     have hk:DR ns=FN ns:=if_neg (fun q=>q.elim (fun z=>z hl) (fun z=>z ha))
     have hS2:=s2.seq hS1
     refine⟨_,rfl,a,rfl,⟨_,hS2⟩,fun D2 hD2=>?_⟩
     refine EW (n:=(ns.map V.int).length) ((ns.map fun b=>((digs.idxOf b:Nat):Int)).map V.int) (by simp) (BN (by rw[AF];omega)) hD2 (fun i H hi s3=>EE (s3.seq hS2) hi) (fun H s3=>EF (s3.seq hS2)) ?_ ?_
     ·rintro i y z H3 H4 hz s3 ⟨rfl,hy⟩ R hR
      obtain⟨n,hn,rfl⟩:=Ep (hy _ (s3.seq hS2))
      have hm:n∈digs:=of_decide_eq_true (C7.mp ha n (CZ hn))
      have hix:digs.idxOf n < digs.length:=Wj.mpr hm
      have:z=V.int ((digs.idxOf n:Nat):Int):=by
       rw[AX,AX,hn] at hz
       exact(AV hz).symm
      subst this
      refine⟨rfl,_,rfl,.inl ⟨rfl,_,SqL.of (s3 _ _ (s2 _ _ hd))⟩,_,rfl,dg,_,_,digs.idxOf n,V.int n,rfl,rfl,SqL.of (s3 _ _ (s2 _ _ hd)),rfl,Mm _,?_,?_,?_,hR _ (Same.refl _)⟩
      ·rw[AX,As hix,List.getElem_idxOf];rfl
      ·rw[Mg];exact decide_eq_true rfl
      ·intro m z' hm' hz'
       obtain⟨q,hq,rfl⟩:=Ep hz'
       rw[Mg]
       apply decide_eq_false
       intro e
       have h5:=List.not_of_lt_findIdx (xs:=digs) (p:=(·==n)) (i:=m) hm'
       rw[As (LO hm' hix)] at hq
       have hq:=AV hq
       rw[hq,e] at h5
       simp at h5
     ·intro H3 s3 hd3
      refine⟨D2,_,rfl,SqL.of hd3,fun H4 s4=>?_⟩
      rw[Ra,← hk]
      exact k H4 ((s12.trans s3).trans s4)
    ·refine bT (by show(!(ns.all fun b=>decide (b∈digs)))=true;rw[HS.mpr ha];rfl) ?_
     have hk:DR ns=-1:=if_pos (.inr ha)
     have:=k H2 s12
     rw[hk] at this
     exact⟨_,rfl,this⟩
  ·refine bT (by rw[decide_eq_false (BV (by rw[AF];omega))];rfl) ?_
   refine bT rfl ?_
   have hk:DR ns=-1:=if_pos (.inl hl)
   have:=k H1 s1
   rw[hk] at this
   exact⟨_,rfl,this⟩
end
end Fb
end
section
set_option maxRecDepth 100000
set_option maxHeartbeats 4000000
namespace Fb
open PySem PySem.Spec PyProof.Rows L2
def FE (P:Program) (w:World) (K:AB) (mg:Str→Option Value) (x:Str) (C:Addr) (k:Nat) (ps:List Str) (sp:Sp):Prop :=
 mg x=some (.ref C)∧∃(f:Addr) (fd:FuncData),Mk K C f∧Binds K fd ps []∧∀base:Heap,FnOk P w K mg base CX0 k f fd ps sp
theorem HD {X:Cx}{k:Nat}{ps:List Str}{sp:Sp}{x:Str}{C:Addr}{p pos:Pos}{e:Expr}{es:List Expr}{t:TA} (h:FE X.prog X.w X.K X.mg x C k ps sp) (hr:Room (k+1) X.A) (hg:Gl X x) (ha:PA X (e::es) t)
  (hdb:(x==("__debug__":Str))=false:=by decide) (he:starEach (e::es) X.env=(false,eval e X.env)::starEach es X.env:=by rfl) (hpl:(backTo pos (starEach es X.env)).any (·.1)=false:=by rfl):
  PE X (.Call (.Name x p) (e::es) [] pos) (Ky C sp [] E0 t):=by
 obtain⟨h1,f,fd,M,hb,F⟩:=h
 exact bb M (F X.base) hr hg h1 hb .nil HB ha hdb he hpl
theorem Su {X:Cx}{k:Nat}{ps:List Str}{sp:Sp}{x:Str}{C:Addr}{p pos:Pos} (h:FE X.prog X.w X.K X.mg x C k ps sp) (hr:Room (k+1) X.A) (hg:Gl X x) (hdb:(x==("__debug__":Str))=false:=by decide):
  PE X (.Call (.Name x p) [] [] pos) (Ky C sp [] E0 Dy):=by
 obtain⟨h1,f,fd,M,hb,F⟩:=h
 exact bc M (F X.base) hr hg h1 hb .nil HB hdb
def P9 (C:Addr) (fs:List (Str×V)) (H:Hp) (Q:VK):Prop:=∀(H':Hp) (x dx:Addr),Same H H'→H x=none→H' x=some (.ins C dx fs)→Q (.ref x) H'
def Ez (C:Addr) (fs:List V→Option (List (Str×V))):Sp:=fun vs H Q _=>∃(p dx:Addr) (us:List V) (l:List (Str×V)),vs=.ref p::us∧fs us=some l∧H p=some (.ins C dx [])∧
 ∀H',H' p=some (.ins C dx l)→(∀b o,H b=some o→b≠p→H' b=some o)→Q .non H'
theorem aO {C:Addr}{fs:List V→Option (List (Str×V))}{us:List V}{l:List (Str×V)}{H:Hp}{Q:VK} (hf:fs us=some l) (h:P9 C l H Q):∀x dx,H x=none→H dx=none→dx≠x→
  Ez C fs (.ref x::(us++[])) (upd (upd H dx (.own x)) x (.ins C dx [])) (fun v H2=>v=.non∧Q (.ref x) H2) E0:=fun x dx nx nd ne=>by
 rw[CO]
 exact⟨x,dx,us,l,rfl,hf,AH,fun H' hx kp=>⟨rfl,h H' x dx (Same.made nx nd kp) nx hx⟩⟩
abbrev Ts:Stmt:=EU UM 0
def KG:List V→Option (List (Str×V))
 | [.int r,lv,.int c,.int s,.int k]=>some (kf r lv c s k)
 | _=>none
theorem dE:Ab ["self","rank","label","copies","shape","look"] ["self","rank","label","copies","shape","look"] (AK Ts):=⟨rfl,rfl,rfl,by decide +kernel,rfl,by decide +kernel,by decide +kernel⟩
section
variable {P:Program}{w:World}{K:AB}{mg:Str→Option Value}{base:Heap}{CK:Addr}
theorem ok_kindI {f:Addr}{fd:FuncData} (F:Fun K "__init__" "Kind.__init__" Ts f fd) (T:KindC K CK):FnOk P w K mg base CX0 1 f fd ["self","rank","label","copies","shape","look"] (Ez CK KG):=by
 have inv:∀us l,KG us=some l→∃r lv c s k,us=[.int r,lv,.int c,.int s,.int k]∧l=kf r lv c s k:=by
  intro us l h
  unfold KG at h
  split at h
  ·cases h;exact⟨_,_,_,_,_,rfl,rfl⟩
  ·cases h
 refine F.ok dE (fun vs H Q E h=>?_) (fun cdv A outer s H vs Q E hr h=>?_)
 ·obtain⟨p,dx,us,l,rfl,hf,_⟩:=h
  obtain⟨_,_,_,_,_,rfl,_⟩:=inv _ _ hf
  rfl
 ·obtain⟨p,dx,us,l,rfl,hf,hp,k⟩:=h
  obtain⟨r,lv,c,s,lk,rfl,rfl⟩:=inv _ _ hf
  refine⟨_,AI (Bj (pv 0) (pv 1) rfl) (AI (Bj (pv 0) (pv 2) rfl) (AI (Bj (pv 0) (pv 3) rfl) (AI (Bj (pv 0) (pv 4) rfl) (AJ (Bj (pv 0) (pv 5) rfl))))),?_⟩
  refine⟨_,rfl,_,rfl,p,CK,dx,[],rfl,hp,T.cl,T.rank,(by show 0 < 1000;decide),?_⟩
  refine⟨_,rfl,_,rfl,p,CK,dx,_,rfl,AH,T.cl,T.label,(by show 1 < 1000;decide),?_⟩
  refine⟨_,rfl,_,rfl,p,CK,dx,_,rfl,AH,T.cl,T.copies,(by show 2 < 1000;decide),?_⟩
  refine⟨_,rfl,_,rfl,p,CK,dx,_,rfl,AH,T.cl,T.shape,(by show 3 < 1000;decide),?_⟩
  refine⟨_,rfl,_,rfl,p,CK,dx,_,rfl,AH,T.cl,T.look,(by show 4 < 1000;decide),?_⟩
  rw[GL,GL,GL,GL]
  exact k _ AH fun b o e hb=>by rw[AG hb];exact e
end
end Fb
end
section
set_option maxRecDepth 100000
set_option maxHeartbeats 4000000
namespace Fb
open PySem PySem.Spec PyProof.Rows L2
abbrev Tr:Stmt:=Ur
def KH (c s l:List Int):Prop:=Dx 8 c=0∨DE s < 0∨DR l < 0
def N5 (K:AB) (CK:Addr):Sp:=fun vs H Q _=>∃(r:Int) (lv:V) (ws ac as al:Addr) (c s l:List Int),vs=[.int r,lv,.ref ws]∧SqL K H ws [.ref ac,.ref as,.ref al]∧SqL K H ac (c.map V.int)∧SqL K H as (s.map V.int)∧SqL K H al (l.map V.int)∧l.length < 100000∧
 (KH c s l→Pur H Q .non)∧(¬KH c s l→P9 CK (kf r lv (Dx 8 c) (DE s) (DR l)) H Q)
theorem scKWith:Ab ["rank","label","words","copies","shape","look"] ["rank","label","words"] (AK Tr):=⟨rfl,rfl,rfl,by decide +kernel,rfl,by decide +kernel,by decide +kernel⟩
section
variable {P:Program}{w:World}{K:AB}{mg:Str→Option Value}{base:Heap}{CK:Addr}
theorem ok_kwith {f:Addr}{fd:FuncData} (F:Fun K "kind_with" "kind_with" Tr f fd) (c1:Cst mg "MOST_COPIES" (.int 8)) (g1:Has P w K mg "small_number" 1 ["word","most"] (OA K)) (g2:Has P w K mg "shape_told" 2 ["word"] (Vn K)) (g3:Has P w K mg "look_told" 2 ["word"] (Ve K))
  (g4:FE P w K mg "Kind" CK 1 ["self","rank","label","copies","shape","look"] (Ez CK KG)):FnOk P w K mg base CX0 3 f fd ["rank","label","words"] (N5 K CK):=by
 refine F.ok scKWith (fun vs H Q E h=>?_) (fun cdv A outer s H vs Q E hr h=>?_)
 ·obtain⟨r,lv,ws,ac,as,al,c,s,l,rfl,_⟩:=h
  rfl
 ·obtain⟨r,lv,ws,ac,as,al,c,s,l,rfl,hw,hc,hs,hl,hlen,kb,kg⟩:=h
  have hr1:Room 1 _:=hr.mono (by decide)
  refine⟨_,AI (Ap (i:=3) scKWith.nd rfl (AQ rfl) (AN g1 hr1 (by rfl) (AA (CC B1 (pv 2) AS (fun _ _=>rfl)) (AA (AW c1 rfl) AD))))
   (AI (Ap (i:=4) scKWith.nd rfl (AQ rfl) (AN g2 hr (by rfl) (AA (CC B1 (pv 2) AS (fun _ _=>rfl)) AD)))
   (AI (Ap (i:=5) scKWith.nd rfl (AQ rfl) (AN g3 hr (by rfl) (AA (CC B1 (pv 2) AS (fun _ _=>rfl)) AD)))
   (AI (Aw (PW.pt (HG (Ag Ba (pv 3) AS (Ac _)) (HG (Ag KZ (pv 4) AS (Ac _)) (Ia (Ag KZ (pv 5) AS (Ac _)))))) (AJ (AM Dn)) Ay)
   (AJ (AM (HD g4 hr (by rfl) (AA (pv 0) (AA (pv 1) (AA (pv 3) (AA (pv 4) (AA (pv 5) AD))))))))))),?_⟩
  refine⟨_,rfl,ws,_,_,_,rfl,rfl,hw,Bw (j:=0) rfl,ac,c,8,rfl,hc,fun H1 s1=>?_⟩
  refine⟨_,rfl,ws,_,_,_,rfl,rfl,s1.seq hw,Bw (j:=1) rfl,as,s,rfl,s1.seq hs,fun H2 s2=>?_⟩
  refine⟨_,rfl,ws,_,_,_,rfl,rfl,s2.seq (s1.seq hw),Bw (j:=2) rfl,al,l,rfl,s2.seq (s1.seq hl),hlen,fun H3 s3=>?_⟩
  have sA:=(s1.trans s2).trans s3
  refine⟨_,rfl,rfl,_,rfl,?_⟩
  by_cases h1:Dx 8 c=0
  ·exact bT (decide_eq_true (congrArg V.int h1)) (bT rfl (kb (.inl h1) H3 sA))
  ·refine bF (decide_eq_false (BV h1)) ⟨_,rfl,_,_,rfl,rfl,_,rfl,?_⟩
   by_cases h2:DE s < 0
   ·exact bT (decide_eq_true h2) (bT rfl (kb (.inr (.inl h2)) H3 sA))
   ·refine bF (decide_eq_false h2) ⟨_,rfl,_,_,rfl,rfl,_,rfl,?_⟩
    by_cases h3:DR l < 0
    ·exact bT (decide_eq_true h3) (kb (.inr (.inr h3)) H3 sA)
    ·refine bF (decide_eq_false h3) ?_
     refine⟨_,rfl,_,rfl,_,rfl,_,rfl,_,rfl,?_⟩
     exact aO (us:=[.int r,lv,.int (Dx 8 c),.int (DE s),.int (DR l)]) rfl fun H' x dx s4 nx hx=>kg (fun q=>q.elim h1 fun q=>q.elim h2 h3) H' x dx (sA.trans s4) (sA.free nx) hx
end
theorem de {w:Aq}{n:Nat} (h:HX w=some n):DE (zs w)=(n:Int):=by
 have e0:BW "square"=zs (A8 "square"):=by decide +kernel
 have e1:BW "tails"=zs (A8 "tails"):=by decide +kernel
 have e2:BW "long"=zs (A8 "long"):=by decide +kernel
 unfold HX at h
 unfold DE
 rw[e0,e1,e2]
 simp only[WO]
 split at h
 ·rename_i q;cases h;rw[if_pos q];rfl
 ·rename_i q
  rw[if_neg q]
  split at h
  ·rename_i q2;cases h;rw[if_pos q2];rfl
  ·rename_i q2
   rw[if_neg q2]
   split at h
   ·rename_i q3;cases h;rw[if_pos q3];rfl
   ·cases h
theorem dc {w:Aq} (h:HX w=none):DE (zs w)=-1:=by
 have e0:BW "square"=zs (A8 "square"):=by decide +kernel
 have e1:BW "tails"=zs (A8 "tails"):=by decide +kernel
 have e2:BW "long"=zs (A8 "long"):=by decide +kernel
 unfold HX at h
 unfold DE
 rw[e0,e1,e2]
 simp only[WO]
 split at h
 ·cases h
 ·rename_i q
  rw[if_neg q]
  split at h
  ·cases h
  ·rename_i q2
   rw[if_neg q2]
   split at h
   ·cases h
   ·rename_i q3;rw[if_neg q3]
theorem Rt {r:GQ}{c s l:Aq} (h:DY r c s l=none):KH (zs c) (zs s) (zs l):=by
 unfold DY at h
 cases h1:Fd 8 c with
 | none=>exact .inl (VL h1)
 | some n =>
  cases h2:HX s with
  | none=>exact .inr (.inl (by rw[dc h2];decide))
  | some m =>
   cases h3:HW l with
   | none=>exact .inr (.inr (by rw[aH h3];decide))
   | some k=>rw[h1,h2,h3] at h;cases h
theorem GC {r:GQ}{c s l:Aq}{x:AR} (h:DY r c s l=some x):¬KH (zs c) (zs s) (zs l)∧zk x=⟨zl r,Dx 8 (zs c),DE (zs s),DR (zs l)⟩∧x.role=r:=by
 unfold DY at h
 cases h1:Fd 8 c with
 | none=>rw[h1] at h;cases h
 | some n =>
  cases h2:HX s with
  | none=>rw[h1,h2] at h;cases h
  | some m =>
   cases h3:HW l with
   | none=>rw[h1,h2,h3] at h;cases h
   | some k =>
    rw[h1,h2,h3] at h
    have h:some (⟨r,n,m,k⟩:AR)=some x:=h
    have h:=AV h
    subst h
    obtain⟨q1,q2⟩:=Nz h1
    have q3:=de h2
    have q4:=aI h3
    have q1':Dx 8 (zs c)=(n:Int):=q1
    refine⟨?_,?_,rfl⟩
    ·rintro(q | q | q)
     ·rw[q1'] at q;omega
     ·rw[q3] at q;omega
     ·rw[q4] at q;omega
    ·rw[q1',q3,q4];rfl
end Fb
end
section
set_option maxRecDepth 100000
set_option maxHeartbeats 4000000
namespace Fb
open PySem PySem.Spec PyProof.Rows L2
abbrev Tq:Stmt:=Uq
def VY (K:AB) (CK:Addr):Sp:=fun vs H Q _=>∃(a:Addr) (b:Aq),vs=[.ref a]∧SqL K H a ((zs b).map V.int)∧b.length < 100000∧
 (C6 b=none→Pur H Q .non)∧∀x,C6 b=some x→∀(H':Hp) (p:Addr),Same H H'→H p=none→KindAt CK H' p (zk x)→Q (.ref p) H'
theorem scKTold:Ab ["line","words"] ["line"] (AK Tq):=⟨rfl,rfl,rfl,by decide +kernel,rfl,by decide +kernel,by decide +kernel⟩
theorem Yo (k:Nat) (xs:List V) (h:k≤xs.length):CJ xs (some (k:Int)) none=xs.drop k:=by
 unfold CJ
 have e1:HT.sIx xs.length 0 (some (k:Int))=k:=by
  show(if (k:Int) < 0 then ((k:Int)+(xs.length:Int)).toNat else min (k:Int).toNat xs.length)=k
  rw[if_neg (by omega),GU,O3 h]
 have e2:HT.sIx xs.length xs.length none=xs.length:=rfl
 rw[e1,e2]
 exact Ec (by rw[LH];exact AO _)
theorem ZD:BW "sign"=zs (A8 "sign"):=by decide +kernel
theorem Qt:BW "same"=zs (A8 "same"):=by decide +kernel
theorem Y8:BW "answer"=zs (A8 "answer"):=by decide +kernel
section
variable {P:Program}{w:World}{K:AB}{mg:Str→Option Value}{base:Heap}{CK:Addr}
theorem ok_ktold {f:Addr}{fd:FuncData} (F:Fun K "kind_told" "kind_told" Tq f fd) (B:Blt mg) (c1:Cst mg "BLANK" (.int 32)) (c2:Cst mg "SIGN" (.int 1)) (c3:Cst mg "SAME" (.int 2)) (c4:Cst mg "ANSWER" (.int 3)) (c5:Cst mg "HIGHEST_SAME" (.int 4))
  (g1:Has P w K mg "split_at" 1 ["mark","values"] (E1 K)) (g2:Has P w K mg "letters" 1 ["word"] Ic) (g3:Has P w K mg "is_name" 2 ["word"] (Ks K)) (g4:Has P w K mg "small_number" 1 ["word","most"] (OA K))
  (g5:Has P w K mg "kind_with" 3 ["rank","label","words"] (N5 K CK)):FnOk P w K mg base CX0 4 f fd ["line"] (VY K CK):=by
 refine F.ok scKTold (fun vs H Q E h=>?_) (fun cdv A outer s H vs Q E hr h=>?_)
 ·obtain⟨a,b,rfl,_⟩:=h
  rfl
 ·obtain⟨a,b,rfl,hS,hlen,kn,ks⟩:=h
  have hr1:Room 1 _:=hr.mono (by decide)
  have hr2:Room 2 _:=hr.mono (by decide)
  have hu:=hr.units
  refine⟨_,AI (Ap (i:=1) scKTold.nd rfl (AQ rfl) (AN g1 hr1 (by rfl) (AA (AW c1 rfl) (AA (pv 0) AD))))
   (AI (Aw (PW.pt (EX (Ag Ba (A4 Bx (by rfl) B.len Bq (AA (pv 1) AD)) AS (Ac _))
     (EX (Ag (GI hu) (CC B1 (pv 1) AS (fun _ _=>rfl)) (AN g2 hr1 (by rfl) (AA EJ AD)) (Ac _))
     (FW (Dt (AN g3 hr2 (by rfl) (AA (CC B1 (pv 1) AS (fun _ _=>rfl)) AD)))))))
    (AJ (AM (AN g5 hr (by rfl) (AA (AW c2 rfl) (AA (NY QS (by rfl) B.tuple (by decide +kernel) (AA (CC B1 (pv 1) AS (fun _ _=>rfl)) AD)) (AA (FT FY (pv 1) (Ew AS) GJ) AD)))))) Ay)
   (AI (Aw (PW.pt (EX (Ag Ba (A4 Bx (by rfl) B.len Bq (AA (pv 1) AD)) AS (Ac _))
     (EX (Ag (GI hu) (CC B1 (pv 1) AS (fun _ _=>rfl)) (AN g2 hr1 (by rfl) (AA EJ AD)) (Ac _))
     (FW (Ag HA (AN g4 hr1 (by rfl) (AA (CC B1 (pv 1) AS (fun _ _=>rfl)) (AA (AW c5 rfl) AD))) AS (Ac _))))))
    (AJ (AM (AN g5 hr (by rfl) (AA (AW c3 rfl) (AA (AN g4 hr1 (by rfl) (AA (CC B1 (pv 1) AS (fun _ _=>rfl)) (AA (AW c5 rfl) AD))) (AA (FT FY (pv 1) (Ew AS) GJ) AD)))))) Ay)
   (AI (Aw (PW.pt (EX (Ag Ba (A4 Bx (by rfl) B.len Bq (AA (pv 1) AD)) AS (Ac _))
     (FW (Ag (GI hu) (CC B1 (pv 1) AS (fun _ _=>rfl)) (AN g2 hr1 (by rfl) (AA EJ AD)) (Ac _)))))
    (AJ (AM (AN g5 hr (by rfl) (AA (AW c4 rfl) (AA AS (AA (FT FY (pv 1) (Ew AS) GJ) AD)))))) Ay)
   (AJ (AM Dn))))),?_⟩
  refine⟨_,rfl,a,32,zs b,rfl,hS,by rw[A6];exact hlen,fun H1 p as s1 np nas hp hpa=>?_⟩
  rw[G0] at hpa
  have hl:=Bb hpa
  rw[AF] at hl
  have hlen':((as.map V.ref).length:Int)=((A7 32 b).length:Int):=by rw[AF,hl]
  have part:∀x∈A7 32 b,x.length < 100000:=fun x hx=>by
   have:=Eu 32 (zs b) (zs x) (by rw[G0];exact BD.mpr ⟨x,hx,rfl⟩)
   rw[A6,A6] at this
   omega
  have len5:∀{n:Int} {A C:Prop},((A7 32 b).length:Int)≠n→C→if decide (V.int ((as.map V.ref).length:Nat)=V.int n)=true then A else C:=fun h c=>bF (decide_eq_false (BV (by rw[hlen'];exact h))) c
  have lenT:∀{n:Int} {A C:Prop},((A7 32 b).length:Int)=n→A→if decide (V.int ((as.map V.ref).length:Nat)=V.int n)=true then A else C:=fun h c=>bT (decide_eq_true (congrArg V.int (by rw[hlen'];exact h))) c
  by_cases h5:(A7 32 b).length=5
  ·match hc:A7 32 b,as,hpa,h5 with
   | [w,n,c,s,l],[aw,an,ac,as,al],.cons pw (.cons pn (.cons pc (.cons ps (.cons pl .nil)))),_ =>
    have hp:H1 p=some (.lst [.ref aw,.ref an,.ref ac,.ref as,.ref al]):=hp
    have len5:∀{n:Int} {A C:Prop},(5:Int)≠n→C→if decide (V.int (([V.ref aw,V.ref an,V.ref ac,V.ref as,V.ref al]:List V).length:Nat)=V.int n)=true then A else C:=fun h c=>bF (decide_eq_false (BV h)) c
    have lw:=part w (by rw[hc];simp)
    have ln:=part n (by rw[hc];simp)
    have ll:=part l (by rw[hc];simp)
    have hk:C6 b=if w=A8 "sign"∧Cm n=true then DY (.sign n) c s l else if w=A8 "same" then (Fd 4 n).bind (fun (j:Nat)=>DY (.same j) c s l) else none:=by
     unfold C6
     rw[hc]
    have fin:∀(r:GQ) (lv:V) (H2:Hp) (q2:Addr),Same H1 H2→MC H2 lv (zl r)→H2 q2=some (.lst [.ref ac,.ref as,.ref al])→C6 b=DY r c s l→N5 K CK [.int (zl r).rank,lv,.ref q2] H2 Q E0:=fun r lv H2 q2 s2 hlab hq2 e=>by
     refine⟨_,lv,q2,ac,as,al,zs c,zs s,zs l,rfl,SqL.of hq2,SqL.of (s2 _ _ pc),SqL.of (s2 _ _ ps),SqL.of (s2 _ _ pl),by rw[A6];exact ll,fun bad H3 s3=>?_,fun good H3 x dx s3 nx hx=>?_⟩
     ·refine kn ?_ H3 ((s1.trans s2).trans s3)
      rw[e]
      cases q:DY r c s l with
      | none=>rfl
      | some y=>exact absurd bad (GC q).1
     ·cases q:DY r c s l with
      | none=>exact absurd (Rt q) good
      | some y =>
       obtain⟨_,ez,_⟩:=GC q
       refine ks y (by rw[e,q]) H3 x ((s1.trans s2).trans s3) (s1.free (s2.free nx)) ?_
       rw[ez]
       refine⟨dx,lv,hx,?_⟩
       cases r with
       | sign m =>
        obtain⟨tp,e1,e2⟩:=hlab
        exact⟨tp,e1,s3 _ _ e2⟩
       | same m=>exact hlab
       | answer=>exact hlab
    refine⟨_,rfl,p,_,rfl,.inl (SqL.of hp),rfl,_,rfl,bT rfl ?_⟩
    refine⟨_,rfl,p,_,_,_,rfl,rfl,SqL.of hp,Bw (j:=0) rfl,_,rfl,by decide,fun H2 q s2 nq hq=>?_⟩
    refine⟨_,_,BM (SqL.of (s2 _ _ pw)),BM (SqL.of hq),BF _,BF _,?_⟩
    rw[Cw,ZD]
    refine⟨_,rfl,?_⟩
    by_cases hw:w=A8 "sign"
    ·refine bT (decide_eq_true (by rw[hw])) ?_
     refine⟨_,rfl,p,_,_,_,rfl,rfl,SqL.of (s2 _ _ hp),Bw (j:=1) rfl,an,zs n,rfl,SqL.of (s2 _ _ pn),by rw[A6];exact ln,fun H3 s3=>⟨_,rfl,?_⟩⟩
     have s13:=s2.trans s3
     rw[J9]
     by_cases hn:Cm n=true
     ·rw[if_pos ⟨hw,hn⟩] at hk
      refine bT hn ?_
      refine⟨_,rfl,p,_,_,_,rfl,rfl,SqL.of (s13 _ _ hp),Bw (j:=1) rfl,an,_,rfl,.inl ⟨SqL.of (s13 _ _ pn),fun tp ntp=>?_⟩⟩
      have s4:Same H3 (upd H3 tp (.tup ((zs n).map V.int))):=(Same.refl H3).new ntp
      have htp:upd H3 tp (.tup ((zs n).map V.int)) tp=some (.tup ((zs n).map V.int)):=AH
      generalize upd H3 tp (.tup ((zs n).map V.int))=H4 at s4 htp ⊢
      refine⟨_,rfl,_,rfl,p,_,rfl,SqL.of (s4 _ _ (s13 _ _ hp)),fun q2 nq2=>?_⟩
      have s5:=(Same.refl H4).new (o:=.lst (CJ [V.ref aw,V.ref an,V.ref ac,V.ref as,V.ref al] (some 2) none)) nq2
      exact fin (.sign n) (.ref tp) _ q2 ((s13.trans s4).trans s5) ⟨tp,rfl,s5 _ _ htp⟩ AH hk
     ·have hw2:¬w=A8 "same":=fun z=>by rw[z] at hw;exact absurd hw (by decide +kernel)
      rw[if_neg fun z=>hn z.2,if_neg hw2] at hk
      refine bF (HS.mpr hn) ?_
      refine⟨_,rfl,p,_,rfl,.inl (SqL.of (s13 _ _ hp)),rfl,_,rfl,bT rfl ?_⟩
      refine⟨_,rfl,p,_,_,_,rfl,rfl,SqL.of (s13 _ _ hp),Bw (j:=0) rfl,_,rfl,by decide,fun H4 q4 s4 nq4 hq4=>?_⟩
      refine⟨_,_,BM (SqL.of (s4 _ _ (s13 _ _ pw))),BM (SqL.of hq4),BF _,BF _,?_⟩
      rw[Cw,Qt]
      refine⟨_,rfl,bF (decide_eq_false fun z=>hw2 (EY z)) (bF rfl ?_)⟩
      refine⟨_,rfl,p,_,rfl,.inl (SqL.of (s4 _ _ (s13 _ _ hp))),rfl,_,rfl,len5 (by decide) (bF rfl ?_)⟩
      exact kn hk H4 ((s1.trans s13).trans s4)
    ·rw[if_neg fun z=>hw z.1] at hk
     refine bF (decide_eq_false fun z=>hw (EY z)) (bF rfl ?_)
     refine⟨_,rfl,p,_,rfl,.inl (SqL.of (s2 _ _ hp)),rfl,_,rfl,bT rfl ?_⟩
     refine⟨_,rfl,p,_,_,_,rfl,rfl,SqL.of (s2 _ _ hp),Bw (j:=0) rfl,_,rfl,by decide,fun H3 q3 s3 nq3 hq3=>?_⟩
     refine⟨_,_,BM (SqL.of (s3 _ _ (s2 _ _ pw))),BM (SqL.of hq3),BF _,BF _,?_⟩
     rw[Cw,Qt]
     refine⟨_,rfl,?_⟩
     have s13:=s2.trans s3
     by_cases hw2:w=A8 "same"
     ·rw[if_pos hw2] at hk
      refine bT (decide_eq_true (by rw[hw2])) ?_
      refine⟨_,rfl,p,_,_,_,rfl,rfl,SqL.of (s13 _ _ hp),Bw (j:=1) rfl,an,zs n,4,rfl,SqL.of (s13 _ _ pn),fun H4 s4=>⟨_,_,rfl,rfl,_,rfl,?_⟩⟩
      have s14:=s13.trans s4
      cases hd:Fd 4 n with
      | none =>
       rw[hd] at hk
       have e0:Dx 4 (zs n)=0:=VL hd
       refine bF (decide_eq_false (by rw[e0];decide)) ?_
       refine⟨_,rfl,p,_,rfl,.inl (SqL.of (s14 _ _ hp)),rfl,_,rfl,len5 (by decide) (bF rfl ?_)⟩
       exact kn hk H4 (s1.trans s14)
      | some j =>
       rw[hd] at hk
       obtain⟨e0,e1⟩:=Nz hd
       have e0:Dx 4 (zs n)=(j:Int):=e0
       refine bT (decide_eq_true (by rw[e0];omega)) ?_
       refine⟨_,rfl,p,_,_,_,rfl,rfl,SqL.of (s14 _ _ hp),Bw (j:=1) rfl,an,zs n,4,rfl,SqL.of (s14 _ _ pn),fun H5 s5=>?_⟩
       have s15:=s14.trans s5
       refine⟨_,rfl,_,rfl,p,_,rfl,SqL.of (s15 _ _ hp),fun q2 nq2=>?_⟩
       have s6:=(Same.refl H5).new (o:=.lst (CJ [V.ref aw,V.ref an,V.ref ac,V.ref as,V.ref al] (some 2) none)) nq2
       rw[e0]
       exact fin (.same j) (.int j) _ q2 (s15.trans s6) rfl AH hk
     ·rw[if_neg hw2] at hk
      refine bF (decide_eq_false fun z=>hw2 (EY z)) (bF rfl ?_)
      refine⟨_,rfl,p,_,rfl,.inl (SqL.of (s13 _ _ hp)),rfl,_,rfl,len5 (by decide) (bF rfl ?_)⟩
      exact kn hk H3 (s1.trans s13)
  ·by_cases h4:(A7 32 b).length=4
   ·match hc:A7 32 b,as,hpa,h4 with
    | [w,c,s,l],[aw,ac,as,al],.cons pw (.cons pc (.cons ps (.cons pl .nil))),_ =>
     have hp:H1 p=some (.lst [.ref aw,.ref ac,.ref as,.ref al]):=hp
     have ll:=part l (by rw[hc];simp)
     have hk:C6 b=if w=A8 "answer" then DY .answer c s l else none:=by
      unfold C6
      rw[hc]
     have len4:∀{A C:Prop},C→if decide (V.int (([V.ref aw,V.ref ac,V.ref as,V.ref al]:List V).length:Nat)=V.int 5)=true then A else C:=fun c=>bF (decide_eq_false (BV (show(4:Int)≠5 by decide))) c
     refine⟨_,rfl,p,_,rfl,.inl (SqL.of hp),rfl,_,rfl,len4 (bF rfl ?_)⟩
     refine⟨_,rfl,p,_,rfl,.inl (SqL.of hp),rfl,_,rfl,len4 (bF rfl ?_)⟩
     refine⟨_,rfl,p,_,rfl,.inl (SqL.of hp),rfl,_,rfl,bT rfl ?_⟩
     refine⟨_,rfl,p,_,_,_,rfl,rfl,SqL.of hp,Bw (j:=0) rfl,_,rfl,by decide,fun H2 q s2 nq hq=>?_⟩
     refine⟨_,_,BM (SqL.of (s2 _ _ pw)),BM (SqL.of hq),BF _,BF _,?_⟩
     rw[Cw,Y8]
     refine⟨_,rfl,?_⟩
     by_cases hw:w=A8 "answer"
     ·rw[if_pos hw] at hk
      refine bT (decide_eq_true (by rw[hw])) ?_
      refine⟨_,rfl,_,rfl,p,_,rfl,SqL.of (s2 _ _ hp),fun q2 nq2=>?_⟩
      have s3:=(Same.refl H2).new (o:=.lst (CJ [V.ref aw,V.ref ac,V.ref as,V.ref al] (some 1) none)) nq2
      have s13:=s2.trans s3
      refine⟨_,.int 0,q2,ac,as,al,zs c,zs s,zs l,rfl,SqL.of AH,SqL.of (s13 _ _ pc),SqL.of (s13 _ _ ps),SqL.of (s13 _ _ pl),by rw[A6];exact ll,fun bad H3 s4=>?_,fun good H3 x dx s4 nx hx=>?_⟩
      ·refine kn ?_ H3 ((s1.trans s13).trans s4)
       rw[hk]
       cases q:DY .answer c s l with
       | none=>rfl
       | some y=>exact absurd bad (GC q).1
      ·cases q:DY .answer c s l with
       | none=>exact absurd (Rt q) good
       | some y =>
        obtain⟨_,ez,_⟩:=GC q
        refine ks y (by rw[hk,q]) H3 x ((s1.trans s13).trans s4) (s1.free (s13.free nx)) ?_
        rw[ez]
        exact⟨dx,.int 0,hx,rfl⟩
     ·rw[if_neg hw] at hk
      refine bF (decide_eq_false fun z=>hw (EY z)) ?_
      exact kn hk H2 (s1.trans s2)
   ·have hk:C6 b=none:=by
     unfold C6
     split
     ·rename_i q;rw[q] at h5;exact absurd rfl h5
     ·rename_i q;rw[q] at h4;exact absurd rfl h4
     ·rfl
    refine⟨_,rfl,p,_,rfl,.inl (SqL.of hp),rfl,_,rfl,?_⟩
    refine len5 (by omega) (bF rfl ?_)
    refine⟨_,rfl,p,_,rfl,.inl (SqL.of hp),rfl,_,rfl,?_⟩
    refine len5 (by omega) (bF rfl ?_)
    refine⟨_,rfl,p,_,rfl,.inl (SqL.of hp),rfl,_,rfl,?_⟩
    refine len5 (by omega) (bF rfl ?_)
    exact kn hk H1 s1
end
end Fb
end
section
set_option maxRecDepth 100000
set_option maxHeartbeats 4000000
namespace Fb
open PySem PySem.Spec PyProof.Rows L2
abbrev UB:Stmt:=US
def Vq (CL CK:Addr):Sp:=fun vs H Q _=>∃(a b:Addr) (p:LA) (name:List Int) (kinds:List ZK) (fault:List Int) (z:ZK),vs=[.ref a,.ref b]∧LockAt CL CK H a p name kinds fault∧KindAt CK H b z∧Pur H Q (.bl (HK kinds z))
theorem scStand:Ab ["locker","kind","before"] ["locker","kind"] (AK UB):=⟨rfl,rfl,rfl,by decide +kernel,rfl,by decide +kernel,by decide +kernel⟩
section
variable {P:Program}{w:World}{K:AB}{mg:Str→Option Value}{base:Heap}{CL CK:Addr}
theorem ok_stand {f:Addr}{fd:FuncData} (F:Fun K "can_stand" "can_stand" UB f fd) (B:Blt mg) (TL:LockC K CL) (TK:KindC K CK) (c1:Cst mg "ANSWER" (.int 3)):FnOk P w K mg base CX0 1 f fd ["locker","kind"] (Vq CL CK):=by
 refine F.ok scStand (fun vs H Q E h=>?_) (fun cdv A outer s H vs Q E hr h=>?_)
 ·obtain⟨a,b,p,nm,ks,fl,z,rfl,_⟩:=h
  rfl
 ·obtain⟨a,b,p,nm,ks,fl,z,rfl,L,⟨dz,lz,hz,_⟩,k⟩:=h
  have kk:=k H (Same.refl H)
  obtain⟨dx,ho⟩:=L.ob
  obtain⟨as,hk,hp⟩:=L.ks
  have hl:=Bb hp
  refine⟨_,AI (Aw (Ag Ba (A4 Bx (by rfl) B.len Bq (AA (An (pv 0) rfl) AD)) AS (Ac _)) (AJ (AM Sl)) Ay)
   (AI (Ap (i:=2) scStand.nd rfl (AQ rfl) (CC B1 (An (pv 0) rfl) (HE HQ AS) (fun _ _=>rfl)))
   (AJ (AM (FP (Dm Ka (An (pv 2) rfl) (AW c1 rfl) (Ac _)) (FR (Dm Cg (An (pv 2) rfl) (An (pv 1) rfl) (Ac _))))))),?_⟩
  refine⟨_,rfl,a,CL,dx,_,_,rfl,ho,TL.cl,TL.kinds,GF,p.ak,_,rfl,.inl (SqL.of hk),rfl,_,rfl,?_⟩
  cases hlast:ks.getLast? with
  | none =>
   have:ks=[]:=Ow.mp hlast
   subst this
   have:as=[]:=by cases as with | nil=>rfl | cons _ _=>simp at hl
   subst this
   exact bT rfl kk
  | some q =>
   obtain⟨r,e⟩:=M3 hlast
   subst e
   rw[BL,Cs] at hl
   obtain⟨asR,aQ,rfl⟩:∃asR aQ,as=asR++[aQ]:=by
    have ne:as≠[]:=by intro q;rw[q] at hl;simp at hl
    exact⟨as.dropLast,as.getLast ne,(LB ne).symm⟩
   have hlR:asR.length=r.length:=by rw[BL,Cs] at hl;omega
   obtain⟨aq',e1,dq,lq,hq,_⟩:=Cb hp (i:=r.length) (b:=q) (by simp)
   rw[JA (by omega),hlR,LV] at e1
   cases e1
   refine bF (decide_eq_false (BV (by rw[AF,BL,Cs];omega))) ?_
   refine⟨_,rfl,a,CL,dx,_,_,rfl,ho,TL.cl,TL.kinds,GF,_,rfl,p.ak,_,_,_,rfl,rfl,SqL.of hk,by rw[BG];exact ML _ _,?_⟩
   refine⟨_,rfl,_,CK,dq,_,_,rfl,hq,TK.cl,TK.rank,EG,rfl,_,rfl,?_⟩
   unfold HK at kk
   rw[hlast] at kk
   have kk:Q (.bl (!(decide (q.lab.rank=3))&&decide (q.lab.rank≤z.lab.rank))) H:=kk
   by_cases h3:q.lab.rank=3
   ·rw[decide_eq_true h3] at kk
    exact bF (by rw[decide_eq_true (congrArg V.int h3)];rfl) kk
   ·rw[decide_eq_false h3] at kk
    refine bT (by rw[decide_eq_false (BV h3)];rfl) ?_
    exact⟨_,rfl,_,CK,dq,_,_,rfl,hq,TK.cl,TK.rank,EG,_,rfl,b,CK,dz,_,_,rfl,hz,TK.cl,TK.rank,EG,_,_,rfl,rfl,kk⟩
end
abbrev Np:Stmt:=Ud
def VZ (CL CK:Addr):Sp:=fun vs H Q _=>∃(a b:Addr) (p:LA) (name:List Int) (kinds:List ZK) (fault:List Int) (z:ZK),vs=[.ref a,.ref b]∧LockAt CL CK H a p name kinds fault∧KindAt CK H b z∧kinds.length < 100000∧Pur H Q (.bl (EH kinds z))
theorem scLabel:Ab ["locker","kind","before"] ["locker","kind"] (AK Np):=⟨rfl,rfl,rfl,by decide +kernel,rfl,by decide +kernel,by decide +kernel⟩
theorem Mw:∀{a b:List Int},BB a=BB b→a=b
 | [],[],_=>rfl
 | [],_::_,h=>by simp[BB] at h
 | _::_,[],h=>by simp[BB] at h
 | x::a,y::b,h=>by
  have h:(Av x:Key)::BB a=Av y::BB b:=h
  obtain⟨h1,h2⟩:=GW h
  rw[Ht h1,Mw h2]
theorem ON (n:List Int):∀(kinds:List ZK) (i:Nat),(Az (CD i kinds) (BB n)).isSome=kinds.any fun b=>decide (b.lab=.sign n)
 | [],i=>rfl
 | z::r,i=>by
  have ih:=ON n r (i+1)
  rw[HJ,D4]
  cases hz:z.lab with
  | sign m =>
   by_cases e:m=n
   ·subst e
    rw[decide_eq_true rfl,OW]
    show(Az ((BB m,V.int (i:Nat))::CD (i+1) r) (BB m)).isSome=true
    rw[C4 rfl]
    rfl
   ·rw[decide_eq_false (fun q=>e (by injection q)),HU,← ih]
    show(Az ((BB m,V.int (i:Nat))::CD (i+1) r) (BB n)).isSome=_
    rw[C3 (p:=(BB m,V.int ((i:Nat):Int))) fun q=>e (Mw q)]
  | same k=>rw[decide_eq_false (fun q=>nomatch q),HU,← ih]
  | ans=>rw[decide_eq_false (fun q=>nomatch q),HU,← ih]
def Dv:List ZK→List Int
 | []=>[]
 | z::r=>match z.lab with
  | .same k=>k::Dv r
  | _=>Dv r
theorem Nw:∀(kinds:List ZK) (i:Nat),(BR i kinds).map (·.1)=(Dv kinds).map Av
 | [],_=>rfl
 | z::r,i=>by
  have ih:=Nw r (i+1)
  rw[HI]
  unfold Dv
  cases z.lab with
  | sign n=>exact ih
  | same k=>show Av k::_=Av k::_;rw[ih]
  | ans=>exact ih
theorem UI (kinds:List ZK) (i:Nat):(BR i kinds).length=(Dv kinds).length:=by
 have:=congrArg Ha (Nw kinds i)
 rwa [AF,AF] at this
theorem Nv:∀kinds:List ZK,(Dv kinds).length≤kinds.length
 | []=>AO _
 | z::r=>by
  have ih:=Nv r
  unfold Dv
  split
  ·simp;omega
  ·simp;omega
theorem MJ (k:Int):∀kinds:List ZK,((Dv kinds).any fun j=>decide (k≤j))=kinds.any fun b=>match b.lab with
  | .same j=>decide (k≤j)
  | _=>false
 | []=>rfl
 | z::r=>by
  have ih:=MJ k r
  unfold Dv
  rw[D4]
  cases z.lab with
  | sign n=>rw[← ih];simp
  | same j=>rw[← ih];simp
  | ans=>rw[← ih];simp
section
variable {P:Program}{w:World}{K:AB}{mg:Str→Option Value}{base:Heap}{CL CK:Addr}
theorem ok_label {f:Addr}{fd:FuncData} (F:Fun K "is_label_taken" "is_label_taken" Np f fd) (B:Blt mg) (TL:LockC K CL) (TK:KindC K CK) (c1:Cst mg "SIGN" (.int 1)) (c2:Cst mg "SAME" (.int 2)):FnOk P w K mg base CX0 1 f fd ["locker","kind"] (VZ CL CK):=by
 refine F.ok scLabel (fun vs H Q E h=>?_) (fun cdv A outer s H vs Q E hr h=>?_)
 ·obtain⟨a,b,p,nm,ks,fl,z,rfl,_⟩:=h
  rfl
 ·obtain⟨a,b,p,nm,ks,fl,z,rfl,L,⟨dz,lz,hz,hlab⟩,hlen,k⟩:=h
  have kk:=k H (Same.refl H)
  have hu:=F9 hr
  obtain⟨dx,ho⟩:=L.ob
  refine⟨_,AI (Aw (Ag Ba (An (pv 1) rfl) (AW c1 rfl) (Ac _)) (AJ (AM (bS (bP hu (An (pv 1) rfl) (An (pv 0) rfl))))) Ay)
   (AJ (AM (FP (Dm Ba (An (pv 1) rfl) (AW c2 rfl) (Ac _)) (FR (A4 (Qa rfl) (by rfl) B.any boot_any (AA (Ss (DA (own:=[("before",2)]) rfl scLabel.nd (Sw (An (pv 0) rfl)) (Cu (N:=["locker","kind","before"]) (sc:=AK Np) (by decide +kernel))
    (fun s H C cl fp=>BJ (i:=2) scLabel.nd rfl (AQ rfl)) (fun s H C cl fp=>DC) (fun s H C cl fp=>Dm Cg (FQ K rfl (pv 1) rfl) (pv 2) (Ac _)))) AD)))))),?_⟩
  refine⟨_,rfl,b,CK,dz,_,_,rfl,hz,TK.cl,TK.rank,EG,rfl,_,rfl,?_⟩
  unfold EH at kk
  cases hl:z.lab with
  | sign n =>
   rw[hl] at kk hlab
   obtain⟨tp,e1,htp⟩:=hlab
   subst e1
   refine bT (decide_eq_true rfl) ?_
   have htp':H tp=some (.tup ((BB n).map kV)):=by rw[Mv];exact htp
   refine⟨_,rfl,b,CK,dz,_,_,rfl,hz,TK.cl,TK.label,KC,_,rfl,a,CL,dx,_,_,rfl,ho,TL.cl,TL.signs,IM,p.sg,_,rfl,DGet.t (k:=BB n) L.sg htp',?_⟩
   rw[ON]
   exact kk
  | ans =>
   rw[hl] at kk
   refine bF (decide_eq_false (BV (by decide))) ?_
   refine⟨_,rfl,b,CK,dz,_,_,rfl,hz,TK.cl,TK.rank,EG,rfl,_,rfl,?_⟩
   rw[hl]
   exact bF (decide_eq_false (BV (by decide))) kk
  | same j =>
   rw[hl] at kk hlab
   have hlab:lz=.int j:=hlab
   subst hlab
   refine bF (decide_eq_false (BV (show(2:Int)≠1 by decide))) ?_
   refine⟨_,rfl,b,CK,dz,_,_,rfl,hz,TK.cl,TK.rank,EG,rfl,_,rfl,?_⟩
   rw[hl]
   refine bT (decide_eq_true rfl) ?_
   have kk:Q (.bl (ks.any fun b=>match b.lab with
    | .same i=>decide (j≤i)
    | _=>false)) H:=kk
   rw[← MJ] at kk
   have hkl:=UI ks 0
   have hle:=Nv ks
   refine⟨p.sm,_,L.sm,trivial,fun od=>?_⟩
   have hfz:upd H p.sm (.frz od (.dK (BR 0 ks))) p.sm=some (.frz od (.dK (BR 0 ks))):=AH
   have nap:a≠p.sm:=BE ho L.sm (by intro q;cases q)
   have nbp:b≠p.sm:=BE hz L.sm (by intro q;cases q)
   have s0:∀x o,H x=some o→x≠p.sm→upd H p.sm (.frz od (.dK (BR 0 ks))) x=some o:=fun x o e n=>by rw[AG n];exact e
   refine⟨_,rfl,a,CL,dx,_,_,rfl,s0 _ _ ho nap,TL.cl,TL.sames,KN,p.sm,od,rfl,.inl ⟨_,hfz,fun D hD=>?_⟩⟩
   refine EW (n:=(BR 0 ks).length) (((Dv ks).map fun i=>decide (j≤i)).map V.bl) (by simp[hkl]) (BN (by omega)) hD (fun i H hi s1=>⟨s1 _ _ hfz,hi⟩) (fun H s1=>⟨s1 _ _ hfz,AO _⟩) ?_ ?_
   ·rintro i y v H1 H2 hv s1 ⟨rfl,kk',vv,hkk,rfl⟩ R hR
    have hks':((BR 0 ks).map (·.1))[i]?=some kk':=by rw[AX,hkk];rfl
    rw[Nw,AX] at hks'
    cases hq:(Dv ks)[i]? with
    | none=>rw[hq] at hks';cases hks'
    | some q =>
     rw[hq] at hks'
     have ez:Av q=kk':=AV hks'
     subst ez
     have ev:v=V.bl (decide (j≤q)):=by
      rw[AX,AX,hq] at hv
      exact(AV hv).symm
     subst ev
     exact⟨rfl,_,rfl,b,CK,dz,_,_,rfl,s1 _ _ (s0 _ _ hz nbp),TK.cl,TK.label,KC,_,rfl,_,_,rfl,rfl,hR _ (Same.refl _)⟩
   ·intro H2 s5 hD2
    refine⟨s5 _ _ hfz,D,(Dv ks).map fun i=>decide (j≤i),rfl,SqL.of ?_,?_⟩
    ·rw[AG (Af (Ai hfz hD))]
     exact hD2
    ·rw[HZ]
     have key:Same H (upd H2 p.sm (.dK (BR 0 ks))):=fun x o e=>by
      by_cases n:x=p.sm
      ·subst n
       rw[AH,← L.sm]
       exact e
      ·rw[AG n]
       exact s5 _ _ (s0 _ _ e n)
     have:=k _ key
     unfold EH at this
     rw[hl] at this
     have this:Q (.bl (ks.any fun b=>match b.lab with
      | .same i=>decide (j≤i)
      | _=>false)) _:=this
     rw[← MJ] at this
     exact this
end
abbrev Nr:Stmt:=Ue
def N6 (CL CK:Addr):Sp:=fun vs H Q _=>∃(a b:Addr) (p:LA) (name:List Int) (kinds:List ZK) (fault:List Int) (z:ZK),vs=[.ref a,.ref b]∧LockAt CL CK H a p name kinds fault∧KindAt CK H b z∧kinds.length < 100000∧Pur H Q (.bl (IP kinds z))
theorem scLookT:Ab ["locker","kind","before"] ["locker","kind"] (AK Nr):=⟨rfl,rfl,rfl,by decide +kernel,rfl,by decide +kernel,by decide +kernel⟩
section
variable {P:Program}{w:World}{K:AB}{mg:Str→Option Value}{base:Heap}{CL CK:Addr}
theorem ok_lookT {f:Addr}{fd:FuncData} (F:Fun K "is_look_taken" "is_look_taken" Nr f fd) (B:Blt mg) (TL:LockC K CL) (TK:KindC K CK):FnOk P w K mg base CX0 1 f fd ["locker","kind"] (N6 CL CK):=by
 refine F.ok scLookT (fun vs H Q E h=>?_) (fun cdv A outer s H vs Q E hr h=>?_)
 ·obtain⟨a,b,p,nm,ks,fl,z,rfl,_⟩:=h
  rfl
 ·obtain⟨a,b,p,nm,ks,fl,z,rfl,L,⟨dz,lz,hz,hlab⟩,hlen,k⟩:=h
  obtain⟨dx,ho⟩:=L.ob
  obtain⟨as,hk,hp⟩:=L.ks
  have hl:=Bb hp
  refine⟨_,AJ (AM (A4 (Qa rfl) (by rfl) B.any boot_any (AA (DA (own:=[("before",2)]) rfl scLookT.nd (Cy (An (pv 0) rfl)) (Cu (N:=["locker","kind","before"]) (sc:=AK Nr) (by decide +kernel))
    (fun s H C cl fp=>BJ (i:=2) scLookT.nd rfl (AQ rfl)) (fun s H C cl fp=>DC) (fun s H C cl fp=>FP (Dm Ba (FQ K rfl (pv 2) rfl) (FQ K rfl (pv 1) rfl) (Ac _)) (FR (Dm Ba (FQ K rfl (pv 2) rfl) (FQ K rfl (pv 1) rfl) (Ac _))))) AD))),?_⟩
  refine⟨_,rfl,a,CL,dx,_,_,rfl,ho,TL.cl,TL.kinds,GF,p.ak,rfl,⟨_,SqL.of hk⟩,fun D hD=>?_⟩
  refine EW (n:=(as.map V.ref).length) ((ks.map fun q=>decide (q.shape=z.shape)&&decide (q.look=z.look)).map V.bl) (by simp[hl]) (BN (by rw[AF,hl];omega)) hD (fun i H hi s1=>EE (SqL.of (s1 _ _ hk)) hi) (fun H s1=>EF (SqL.of (s1 _ _ hk))) ?_ ?_
  ·rintro i y v H1 H2 hv s1 ⟨rfl,hy⟩ R hR
   have hy:=hy _ (SqL.of (s1 _ _ hk))
   rw[AX,AX] at hv
   cases hq:ks[i]? with
   | none=>rw[hq] at hv;cases hv
   | some q =>
    rw[hq] at hv
    have ev:V.bl (decide (q.shape=z.shape)&&decide (q.look=z.look))=v:=AV hv
    subst ev
    obtain⟨c,hc,dq,lq,hqq,_⟩:=Cb hp hq
    rw[AX,hc] at hy
    have ey:V.ref c=y:=AV hy
    subst ey
    have r0:=hR _ (Same.refl _)
    refine⟨rfl,_,rfl,c,CK,dq,_,_,rfl,s1 _ _ hqq,TK.cl,TK.shape,M0,_,rfl,b,CK,dz,_,_,rfl,s1 _ _ hz,TK.cl,TK.shape,M0,rfl,_,rfl,?_⟩
    by_cases h1:q.shape=z.shape
    ·rw[decide_eq_true h1,D0] at r0
     refine bT (decide_eq_true (congrArg V.int h1)) ?_
     refine⟨_,rfl,c,CK,dq,_,_,rfl,s1 _ _ hqq,TK.cl,TK.look,KD,_,rfl,b,CK,dz,_,_,rfl,s1 _ _ hz,TK.cl,TK.look,KD,rfl,?_⟩
     rw[show decide (V.int q.look=V.int z.look)=decide (q.look=z.look) from CM ⟨Kz,fun h=>congrArg V.int h⟩]
     exact r0
    ·rw[decide_eq_false h1,Cr] at r0
     exact bF (decide_eq_false (BV h1)) r0
  ·intro H2 s5 hD2
   refine⟨D,ks.map fun q=>decide (q.shape=z.shape)&&decide (q.look=z.look),rfl,SqL.of hD2,?_⟩
   rw[HZ]
   exact k H2 s5
end
end Fb
end
section
set_option maxRecDepth 100000
set_option maxHeartbeats 4000000
namespace Fb
open PySem PySem.Spec PyProof.Rows L2
abbrev To:Stmt:=Up
def VV (CL CK:Addr):Sp:=fun vs H Q _=>∃(a:Addr) (kv:V) (p:LA) (name:List Int) (kinds:List ZK) (fault:List Int) (R:Int),vs=[.ref a,kv]∧LockAt CL CK H a p name kinds fault∧kinds.length < 100000∧
 ((kv=.non∧R=1)∨∃b z,kv=.ref b∧KindAt CK H b z∧R=J2 kinds z)∧Pur H Q (.int R)
theorem dD:Ab ["locker","kind"] ["locker","kind"] (AK To):=⟨rfl,rfl,rfl,by decide +kernel,rfl,by decide +kernel,by decide +kernel⟩
theorem Kr:∀(kinds:List ZK) (i:Nat),(CD i kinds).length=Ey kinds
 | [],_=>rfl
 | z::r,i=>by
  have ih:=Kr r (i+1)
  rw[HJ]
  unfold Ey at ih ⊢
  rw[Dc]
  cases hz:z.lab with
  | sign n=>simp[ZLab.rank,ih]
  | same k=>simp[ZLab.rank,ih]
  | ans=>simp[ZLab.rank,ih]
section
variable {P:Program}{w:World}{K:AB}{mg:Str→Option Value}{base:Heap}{CL CK:Addr}
theorem ok_kfault {f:Addr}{fd:FuncData} (F:Fun K "kind_fault" "kind_fault" To f fd) (B:Blt mg) (TL:LockC K CL) (TK:KindC K CK) (c1:Cst mg "NO_SUCH_LINE" (.int 1)) (c2:Cst mg "TOLD_BEFORE" (.int 2)) (c3:Cst mg "TOO_MANY_SIGNS" (.int 3)) (c4:Cst mg "LOOK_TOLD_BEFORE" (.int 4)) (c5:Cst mg "SIGN" (.int 1)) (c6:Cst mg "MOST_SIGNS" (.int 48))
  (g1:Has P w K mg "can_stand" 1 ["locker","kind"] (Vq CL CK)) (g2:Has P w K mg "is_label_taken" 1 ["locker","kind"] (VZ CL CK)) (g3:Has P w K mg "is_look_taken" 1 ["locker","kind"] (N6 CL CK)):FnOk P w K mg base CX0 2 f fd ["locker","kind"] (VV CL CK):=by
 refine F.ok dD (fun vs H Q E h=>?_) (fun cdv A outer s H vs Q E hr h=>?_)
 ·obtain⟨a,kv,p,nm,ks,fl,R,rfl,_⟩:=h
  rfl
 ·obtain⟨a,kv,p,nm,ks,fl,R,rfl,L,hlen,hkv,k⟩:=h
  refine⟨_,AI (Aw (PW.pt (HG (Ag Sh (pv 1) Dn (Ac _)) (Ia (Ex (Dt (AN g1 hr (by rfl) (AA (pv 0) (AA (pv 1) AD)))))))) (AJ (AM (AW c1 rfl))) Ay)
   (AI (Aw (Dt (AN g2 hr (by rfl) (AA (pv 0) (AA (pv 1) AD)))) (AJ (AM (AW c2 rfl))) Ay)
   (AI (Aw (PW.pt (EX (Ag Ba (An (pv 1) rfl) (AW c5 rfl) (Ac _)) (FW (Ag Ba (A4 QQ (by rfl) B.len Bq (AA (An (pv 0) rfl) AD)) (AW c6 rfl) (Ac _))))) (AJ (AM (AW c3 rfl))) Ay)
   (AI (Aw (Dt (AN g3 hr (by rfl) (AA (pv 0) (AA (pv 1) AD)))) (AJ (AM (AW c4 rfl))) Ay)
   (AJ (AM AS))))),?_⟩
  rcases hkv with ⟨rfl,rfl⟩ | ⟨b,z,rfl,hz,rfl⟩
  ·exact⟨_,rfl,rfl,_,rfl,bT rfl (bT rfl (k H (Same.refl H)))⟩
  ·unfold J2 at k
   refine⟨_,rfl,rfl,_,rfl,bF (decide_eq_false fun q=>nomatch q) ?_⟩
   refine⟨_,rfl,_,rfl,a,b,p,nm,ks,fl,z,rfl,L,hz,fun H1 s1=>⟨_,rfl,?_⟩⟩
   cases h1:HK ks z with
   | false =>
    rw[if_pos h1] at k
    exact bT rfl (k H1 s1)
   | true =>
    rw[if_neg (by rw[h1];decide)] at k
    refine bF rfl ?_
    refine⟨_,rfl,_,rfl,a,b,p,nm,ks,fl,z,rfl,L.mono s1,hz.mono s1,hlen,fun H2 s2=>⟨_,rfl,?_⟩⟩
    have s12:=s1.trans s2
    cases h2:EH ks z with
    | true =>
     rw[if_pos h2] at k
     exact bT rfl (k H2 s12)
    | false =>
     rw[if_neg (by rw[h2];decide)] at k
     refine bF rfl ?_
     obtain⟨dz,lz,hz2,hlab2⟩:=hz.mono s12
     have L2:=L.mono s12
     obtain⟨dx,ho⟩:=L2.ob
     refine⟨_,rfl,b,CK,dz,_,_,rfl,hz2,TK.cl,TK.rank,EG,rfl,_,rfl,?_⟩
     have last:(¬(z.lab.rank=1∧Ey ks=48))→OH (OF (tB (HM (N6 CL CK) [] E0 (C2 (CV 0) (C2 (CV 1) Dy)))) (HN (tC (V.int 4))) OG) (HN (tC (V.int 0))) { nx:=fun x H'=>Q V.non H',rt:=Q } (_root_.L2.start ["locker","kind"] [V.ref a,V.ref b]) H2:=fun hn=>by
      rw[if_neg hn] at k
      refine⟨_,rfl,_,rfl,a,b,p,nm,ks,fl,z,rfl,L2,hz.mono s12,hlen,fun H3 s3=>⟨_,rfl,?_⟩⟩
      have s13:=s12.trans s3
      cases h3:IP ks z with
      | true =>
       rw[if_pos h3] at k
       exact bT rfl (k H3 s13)
      | false =>
       rw[if_neg (by rw[h3];decide)] at k
       exact bF rfl (k H3 s13)
     by_cases h3:z.lab.rank=1
     ·refine bT (decide_eq_true (congrArg V.int h3)) ?_
      refine⟨_,rfl,a,CL,dx,_,_,rfl,ho,TL.cl,TL.signs,IM,p.sg,_,rfl,L2.sg,rfl,_,rfl,?_⟩
      rw[Kr]
      by_cases h4:Ey ks=48
      ·rw[if_pos ⟨h3,h4⟩] at k
       exact bT (decide_eq_true (by rw[h4];rfl)) (k H2 s12)
      ·exact bF (decide_eq_false (BV (by omega))) (last fun q=>h4 q.2)
     ·exact bF (decide_eq_false (BV h3)) (bF rfl (last fun q=>h3 q.1))
end
end Fb
end
section
set_option maxRecDepth 100000
set_option maxHeartbeats 4000000
namespace Fb
open PySem PySem.Spec PyProof.Rows L2
abbrev TY:Stmt:=UQ
def L7 (p:LA):Prop:=p.an≠p.ak∧p.af≠p.ak
def KeepBut (xs:List Addr) (H H':Hp):Prop:=∀x o,H x=some o→x∉xs→H' x=some o
theorem KeepBut.trans {xs:List Addr}{H H1 H2:Hp} (a:KeepBut xs H H1) (b:KeepBut xs H1 H2):KeepBut xs H H2:=fun x o e n=>b x o (a x o e n) n
theorem KeepBut.of {xs:List Addr}{H H':Hp} (s:Same H H'):KeepBut xs H H':=fun x o e _=>s x o e
theorem KeepBut.mono {xs ys:List Addr}{H H':Hp} (a:KeepBut xs H H') (h:∀x∈xs,x∈ys):KeepBut ys H H':=fun x o e n=>a x o e fun z=>n (h x z)
def VM (CL CK:Addr):Sp:=fun vs H Q _=>∃(a b:Addr) (p:LA) (name:List Int) (kinds:List ZK) (fault:List Int) (z:ZK),vs=[.ref a,.ref b]∧LockAt CL CK H a p name kinds fault∧KindAt CK H b z∧L7 p∧kinds.length < 100000∧EH kinds z=false∧
 ∀H',LockAt CL CK H' a p name (kinds++[z]) fault→KeepBut [p.ak,p.sg,p.sm] H H'→Q .non H'
theorem scAddK:Ab ["locker","kind","number"] ["locker","kind"] (AK TY):=⟨rfl,rfl,rfl,by decide +kernel,rfl,by decide +kernel,by decide +kernel⟩
theorem Kq (z:ZK):∀(ks:List ZK) (i:Nat),CD i (ks++[z])=CD i ks++(match z.lab with
  | .sign n=>[(BB n,V.int ((i+ks.length:Nat):Int))]
  | _=>[])
 | [],i=>by
  rw[Wn,HJ]
  cases z.lab <;> rfl
 | y::ks,i=>by
  rw[GX,HJ,HJ,Kq z ks (i+1),A9,show i+1+ks.length=i+(ks.length+1) by omega]
  cases y.lab <;> rfl
theorem Ko (z:ZK):∀(ks:List ZK) (i:Nat),BR i (ks++[z])=BR i ks++(match z.lab with
  | .same n=>[(Av n,V.int ((i+ks.length:Nat):Int))]
  | _=>[])
 | [],i=>by
  rw[Wn,HI]
  cases z.lab <;> rfl
 | y::ks,i=>by
  rw[GX,HI,HI,Ko z ks (i+1),A9,show i+1+ks.length=i+(ks.length+1) by omega]
  cases y.lab <;> rfl
theorem dk (ks:List ZK) (i:Nat):(CD i ks).length≤ks.length:=by
 rw[Kr]
 exact JC _ _
theorem cx (ks:List ZK) (i:Nat):(BR i ks).length≤ks.length:=by
 rw[UI]
 exact Nv ks
theorem fU {ks:List ZK}{j:Int} (i:Nat) (h:(ks.any fun b=>match b.lab with
  | .same i=>decide (j≤i)
  | _=>false)=false):Az (BR i ks) (Av j)=none:=by
 rcases WH j ks i with ⟨h1,_⟩ | ⟨m,z,_,h2,h3⟩
 ·exact h1
 ·have hz:=LF h3
  have hm:=JF h3
  have:=(EL.mp h) z hm
  have e:z.lab=.same j:=of_decide_eq_true hz
  rw[e] at this
  exact absurd (decide_eq_true (Int.le_refl j)) this
section
variable {P:Program}{w:World}{K:AB}{mg:Str→Option Value}{base:Heap}{CL CK:Addr}
theorem ok_addK {f:Addr}{fd:FuncData} (F:Fun K "add_kind" "add_kind" TY f fd) (B:Blt mg) (TL:LockC K CL) (TK:KindC K CK) (c1:Cst mg "SIGN" (.int 1)) (c2:Cst mg "SAME" (.int 2)):FnOk P w K mg base CX0 1 f fd ["locker","kind"] (VM CL CK):=by
 refine F.ok scAddK (fun vs H Q E h=>?_) (fun cdv A outer s H vs Q E hr h=>?_)
 ·obtain⟨a,b,p,nm,ks,fl,z,rfl,_⟩:=h
  rfl
 ·obtain⟨a,b,p,nm,ks,fl,z,rfl,L,hK,⟨ap1,ap2⟩,hlen,hlz,k⟩:=h
  have hu:=F9 hr
  obtain⟨dx,ho⟩:=L.ob
  obtain⟨as,hk,hp⟩:=L.ks
  obtain⟨dz,lz,hz,hlab⟩:=id hK
  have hl:=Bb hp
  refine⟨_,AI (Ap (i:=2) scAddK.nd rfl (AQ rfl) (A4 Bx (by rfl) B.len Bq (AA (An (pv 0) rfl) AD)))
   (AI (Dr (DS Df E8 E9 Es (An (pv 0) rfl) (AA (pv 1) AD)))
   (AI (Aw (Ag Ba (An (pv 1) rfl) (AW c1 rfl) (Ac _)) (AJ (Nd hu (An (pv 0) rfl) (An (pv 1) rfl) (pv 2) rfl)) Ay)
   (AJ (Aw (Ag Ba (An (pv 1) rfl) (AW c2 rfl) (Ac _)) (AJ (Nd hu (An (pv 0) rfl) (An (pv 1) rfl) (pv 2) rfl)) Ay)))),?_⟩
  refine⟨_,rfl,a,CL,dx,_,_,rfl,ho,TL.cl,TL.kinds,GF,p.ak,_,rfl,.inl (SqL.of hk),?_⟩
  refine⟨_,rfl,a,CL,dx,_,_,rfl,ho,TL.cl,TL.kinds,GF,.inl ⟨rfl,_,SqL.of hk⟩,_,rfl,p.ak,_,_,rfl,rfl,hk,BN (by rw[AF,hl];omega),?_⟩
  have nak:∀{x:Addr} {o:HO},H x=some o→(∀xs,o≠.lst xs)→x≠p.ak:=fun e n=>BE e hk (n _)
  have k1:∀x o,H x=some o→x≠p.ak→upd H p.ak (.lst (as.map V.ref++[V.ref b])) x=some o:=fun x o e n=>by rw[AG n];exact e
  have ho1:=k1 _ _ ho (nak ho fun _ q=>nomatch q)
  have hz1:=k1 _ _ hz (nak hz fun _ q=>nomatch q)
  have hsg1:=k1 _ _ L.sg (nak L.sg fun _ q=>nomatch q)
  have hsm1:=k1 _ _ L.sm (nak L.sm fun _ q=>nomatch q)
  have hnm1:=k1 _ _ L.nm ap1
  have haf1:=k1 _ _ L.af ap2
  have hak1:upd H p.ak (.lst (as.map V.ref++[V.ref b])) p.ak=some (.lst ((as++[b]).map V.ref)):=by rw[AH,BG];rfl
  have hlab1:MC (upd H p.ak (.lst (as.map V.ref++[V.ref b]))) lz z.lab:=by
   cases hh:z.lab with
   | sign n =>
    rw[hh] at hlab
    obtain⟨tp,e1,e2⟩:=hlab
    exact⟨tp,e1,k1 _ _ e2 (nak e2 fun _ q=>nomatch q)⟩
   | same n=>rw[hh] at hlab;exact hlab
   | ans=>rw[hh] at hlab;exact hlab
  have hp1:Paired (KindAt CK (upd H p.ak (.lst (as.map V.ref++[V.ref b])))) (as++[b]) (ks++[z]):=by
   have key:∀x y,KindAt CK H x y→KindAt CK (upd H p.ak (.lst (as.map V.ref++[V.ref b]))) x y:=fun x y q=>q.same fun x o e n1 _ _ _=>k1 x o e (nak e n1)
   exact Et (Paired.mapP hp key) (key _ _ hK)
  have kb1:KeepBut [p.ak,p.sg,p.sm] H (upd H p.ak (.lst (as.map V.ref++[V.ref b]))):=fun x o e n=>k1 x o e fun q=>n (by simp[q])
  generalize upd H p.ak (.lst (as.map V.ref++[V.ref b]))=H1 at ho1 hz1 hsg1 hsm1 hnm1 haf1 hak1 hlab1 hp1 kb1 ⊢
  refine⟨_,rfl,b,CK,dz,_,_,rfl,hz1,TK.cl,TK.rank,EG,rfl,_,rfl,?_⟩
  cases hh:z.lab with
  | ans =>
   refine bF (decide_eq_false (BV (by decide))) ?_
   refine⟨_,rfl,b,CK,dz,_,_,rfl,hz1,TK.cl,TK.rank,EG,rfl,_,rfl,?_⟩
   rw[hh]
   refine bF (decide_eq_false (BV (by decide))) ?_
   refine k H1 ⟨⟨dx,ho1⟩,hnm1,⟨_,hak1,hp1⟩,?_,?_,haf1⟩ kb1
   ·rw[Kq,hh,CO];exact hsg1
   ·rw[Ko,hh,CO];exact hsm1
  | sign n =>
   rw[hh] at hlab1
   obtain⟨tp,e1,htp⟩:=hlab1
   subst e1
   refine bT (decide_eq_true rfl) ?_
   have htp':H1 tp=some (.tup ((BB n).map kV)):=by rw[Mv];exact htp
   have hv:Az (CD 0 ks) (BB n)=none:=by
    have h1:=ON n ks 0
    unfold EH at hlz
    rw[hh] at hlz
    have hlz:(ks.any fun b=>decide (b.lab=.sign n))=false:=hlz
    rw[hlz] at h1
    cases q:Az (CD 0 ks) (BB n) with
    | none=>rfl
    | some v=>rw[q] at h1;cases h1
   refine⟨_,rfl,_,rfl,a,CL,dx,_,_,rfl,ho1,TL.cl,TL.signs,IM,_,rfl,b,CK,dz,_,_,rfl,hz1,TK.cl,TK.label,KC,p.sg,_,rfl,DPut.t (k:=BB n) hsg1 htp' (BN (by have:=dk ks 0;omega)),?_⟩
   have nsg:∀{x:Addr} {o:HO},H1 x=some o→(∀xs,o≠.dT xs)→x≠p.sg:=fun e n=>BE e hsg1 (n _)
   have k2:∀x o,H1 x=some o→x≠p.sg→upd H1 p.sg (.dT (Cc (CD 0 ks) (BB n) (V.int ((as.map V.ref).length:Nat)))) x=some o:=fun x o e n=>by rw[AG n];exact e
   have hz2:=k2 _ _ hz1 (nsg hz1 fun _ q=>nomatch q)
   refine⟨_,rfl,b,CK,dz,_,_,rfl,hz2,TK.cl,TK.rank,EG,rfl,_,rfl,?_⟩
   rw[hh]
   refine bF (decide_eq_false (BV (show(1:Int)≠2 by decide))) ?_
   refine k _ ⟨⟨dx,k2 _ _ ho1 (nsg ho1 fun _ q=>nomatch q)⟩,k2 _ _ hnm1 (nsg hnm1 fun _ q=>nomatch q),⟨_,k2 _ _ hak1 (nsg hak1 fun _ q=>nomatch q),Paired.mapP hp1 fun x y q=>q.same fun x o e _ _ n3 _=>k2 x o e (nsg e n3)⟩,?_,?_,k2 _ _ haf1 (nsg haf1 fun _ q=>nomatch q)⟩ ?_
   ·rw[AH,Kq,hh,S3 _ hv,AF,hl,Ed]
   ·rw[Ko,hh,CO]
    exact k2 _ _ hsm1 (nsg hsm1 fun _ q=>nomatch q)
   ·exact kb1.trans fun x o e n=>k2 x o e fun q=>n (by simp[q])
  | same j =>
   rw[hh] at hlab1
   have hlab1:lz=.int j:=hlab1
   subst hlab1
   refine bF (decide_eq_false (BV (show(2:Int)≠1 by decide))) ?_
   refine⟨_,rfl,b,CK,dz,_,_,rfl,hz1,TK.cl,TK.rank,EG,rfl,_,rfl,?_⟩
   rw[hh]
   refine bT (decide_eq_true rfl) ?_
   have hv:Az (BR 0 ks) (Av j)=none:=by
    unfold EH at hlz
    rw[hh] at hlz
    exact fU 0 hlz
   refine⟨_,rfl,_,rfl,a,CL,dx,_,_,rfl,ho1,TL.cl,TL.sames,KN,_,rfl,b,CK,dz,_,_,rfl,hz1,TK.cl,TK.label,KC,p.sm,_,rfl,DPut.k (k:=Av j) hsm1 (BN (by have:=cx ks 0;omega)),?_⟩
   have nsm:∀{x:Addr} {o:HO},H1 x=some o→(∀xs,o≠.dK xs)→x≠p.sm:=fun e n=>BE e hsm1 (n _)
   have k2:∀x o,H1 x=some o→x≠p.sm→upd H1 p.sm (.dK (Cc (BR 0 ks) (Av j) (V.int ((as.map V.ref).length:Nat)))) x=some o:=fun x o e n=>by rw[AG n];exact e
   refine k _ ⟨⟨dx,k2 _ _ ho1 (nsm ho1 fun _ q=>nomatch q)⟩,k2 _ _ hnm1 (nsm hnm1 fun _ q=>nomatch q),⟨_,k2 _ _ hak1 (nsm hak1 fun _ q=>nomatch q),Paired.mapP hp1 fun x y q=>q.same fun x o e _ n2 _ _=>k2 x o e (nsm e n2)⟩,?_,?_,k2 _ _ haf1 (nsm haf1 fun _ q=>nomatch q)⟩ ?_
   ·rw[Kq,hh,CO]
    exact k2 _ _ hsg1 (nsm hsg1 fun _ q=>nomatch q)
   ·rw[AH,Ko,hh,S3 _ hv,AF,hl,Ed]
   ·exact kb1.trans fun x o e n=>k2 x o e fun q=>n (by simp[q])
end
end Fb
end
section
set_option maxRecDepth 100000
set_option maxHeartbeats 4000000
namespace Fb
open PySem PySem.Spec PyProof.Rows L2
theorem Z2 {b:Aq}{x:AR} (h:C6 b=some x):∀j,x.role=.same j→1≤j:=by
 intro j hj
 unfold C6 at h
 split at h
 ·rename_i w n c s l _
  split at h
  ·have:=(GC h).2.2
   rw[this] at hj;cases hj
  ·split at h
   ·cases hd:Fd 4 n with
    | none=>rw[hd] at h;cases h
    | some m =>
     rw[hd] at h
     have h:DY (.same m) c s l=some x:=h
     have:=(GC h).2.2
     rw[this] at hj
     cases hj
     exact(Nz hd).2
   ·cases h
 ·split at h
  ·have:=(GC h).2.2
   rw[this] at hj;cases hj
  ·cases h
 ·cases h
theorem NI (x:Str) (ns:List Int):G8 x ns=IU (BW x) ns:=rfl
theorem ZC:BW "locker"=zs (A8 "locker"):=by decide +kernel
abbrev UE:Stmt:=VD
structure LockS (CL CK:Addr) (H:Hp) (a:Addr) (p:LA) (s:LS) (fl:List Int) (i:Nat):Prop where
 at_:LockAt CL CK H a p (zs s.name) (s.kinds.map zk) fl
 wf:Wf s.kinds
 ap:L7 p
 le:s.kinds.length≤i
theorem LockS.mono {CL CK:Addr}{H H':Hp}{a:Addr}{p:LA}{s:LS}{fl:List Int}{i:Nat} (x:LockS CL CK H a p s fl i) (h:Same H H'):LockS CL CK H' a p s fl i:=⟨x.at_.mono h,x.wf,x.ap,x.le⟩
def QC (p p':LA):Prop:=p'.ak=p.ak∧p'.sg=p.sg∧p'.sm=p.sm∧p'.af=p.af
def Kw (K:AB) (CL CK:Addr):Sp:=fun vs H Q _=>∃(a la:Addr) (p:LA) (s:LS) (fl:List Int) (i:Nat) (b:Aq),vs=[.ref a,.int (i:Nat),.ref la]∧LockS CL CK H a p s fl i∧i < 90000∧SqL K H la ((zs b).map V.int)∧b.length < 100000∧
 (∀k,Bd s i b=.error k→∀H',Same H H'→Q (.int k) H')∧
 (∀s',Bd s i b=.ok s'→∀H' p',LockS CL CK H' a p' s' fl (i+1)→QC p p'→KeepBut [a,p.ak,p.sg,p.sm] H H'→Q (.int 0) H')
theorem scTakeL:Ab ["locker","number","line","kind","fault"] ["locker","number","line"] (AK UE):=⟨rfl,rfl,rfl,by decide +kernel,rfl,by decide +kernel,by decide +kernel⟩
section
variable {P:Program}{w:World}{K:AB}{mg:Str→Option Value}{base:Heap}{CL CK:Addr}
theorem ok_takeL {f:Addr}{fd:FuncData} (F:Fun K "take_line" "take_line" UE f fd) (hne:CL≠CK) (TL:LockC K CL) (c1:Cst mg "NO_SUCH_LINE" (.int 1)) (g1:Has P w K mg "is_naming_line" 3 ["line","first"] (N9 K)) (g2:Has P w K mg "named" 2 ["line"] (N8 K))
  (g3:Has P w K mg "kind_told" 4 ["line"] (VY K CK)) (g4:Has P w K mg "kind_fault" 2 ["locker","kind"] (VV CL CK)) (g5:Has P w K mg "add_kind" 1 ["locker","kind"] (VM CL CK)):FnOk P w K mg base CX0 5 f fd ["locker","number","line"] (Kw K CL CK):=by
 refine F.ok scTakeL (fun vs H Q E h=>?_) (fun cdv A outer s H vs Q E hr h=>?_)
 ·obtain⟨a,la,p,s,fl,i,b,rfl,_⟩:=h
  rfl
 ·obtain⟨a,la,p,st,fl,i,b,rfl,L,hi,hS,hlen,ke,ko⟩:=h
  have hr1:Room 1 _:=hr.mono (by decide)
  have hr2:Room 2 _:=hr.mono (by decide)
  have hr3:Room 3 _:=hr.mono (by decide)
  have zl:(zs b).length < 100000:=by rw[A6];exact hlen
  refine⟨_,AI (Aw (Ag Ba (pv 1) AS (Ac _))
    (AI (Aw (Ex (Dt (AN g1 hr3 (by rfl) (AA (pv 2) (AA EJ AD))))) (AJ (AM (AW c1 rfl))) Ay)
    (AI (Bj (pv 0) (AN g2 hr2 (by rfl) (AA (pv 2) AD)) rfl) (AJ (AM AS)))) Ay)
   (AI (Ap (i:=3) scTakeL.nd rfl (AQ rfl) (AN g3 hr (by rfl) (AA (pv 2) AD)))
   (AI (Ap (i:=4) scTakeL.nd rfl (AQ rfl) (AN g4 hr2 (by rfl) (AA (pv 0) (AA (pv 3) AD))))
   (AI (Aw (Ag Ba (pv 4) AS (Ac _)) (AJ (Dr (AN g5 hr1 (by rfl) (AA (pv 0) (AA (pv 3) AD))))) Ay)
   (AJ (AM (pv 4)))))),?_⟩
  refine⟨_,rfl,rfl,_,rfl,?_⟩
  by_cases h0:i=0
  ·subst h0
   refine bT (decide_eq_true rfl) ?_
   have hstep:Bd st 0 b=match CF (A8 "locker") b with
     | none=>.error 1
     | some n=>.ok ⟨n,st.kinds⟩:=by
    unfold Bd
    rw[if_pos rfl]
    rfl
   refine⟨_,rfl,la,zs b,"locker",rfl,hS,zl,by decide,fun H1 s1=>⟨_,rfl,?_⟩⟩
   rw[NI,ZC]
   cases hn:CF (A8 "locker") b with
   | none =>
    rw[hn] at hstep
    rw[NJ hn]
    exact bT rfl (ke 1 hstep H1 s1)
   | some n =>
    rw[hn] at hstep
    obtain⟨q1,q2⟩:=NK hn
    rw[q1]
    refine bF rfl ?_
    refine⟨_,rfl,la,zs b,zs n,rfl,s1.seq hS,zl,q2,fun H2 q s2 nq hq=>?_⟩
    have s12:=s1.trans s2
    have L2:=L.at_.mono s12
    obtain⟨dx,ho⟩:=L2.ob
    refine⟨_,rfl,a,CL,dx,_,rfl,ho,TL.cl,TL.name,(by show 5 < 1000;decide),?_⟩
    have na:∀{x:Addr} {o:HO},H2 x=some o→(∀C dx fs,o≠.ins C dx fs)→x≠a:=fun e n=>BE e ho (n _ _ _)
    have k1:∀x o,H2 x=some o→x≠a→upd H2 a (.ins CL dx (BK "name" (V.ref q) (lf p.an p.ak p.sg p.sm p.af))) x=some o:=fun x o e n=>by rw[AG n];exact e
    have nq0:H q=none:=s1.free nq
    refine ko ⟨n,st.kinds⟩ hstep _ ⟨q,p.ak,p.sg,p.sm,p.af⟩ ⟨⟨⟨dx,AH⟩,k1 _ _ hq (na hq fun _ _ _ z=>nomatch z),?_,k1 _ _ L2.sg (na L2.sg fun _ _ _ z=>nomatch z),k1 _ _ L2.sm (na L2.sm fun _ _ _ z=>nomatch z),k1 _ _ L2.af (na L2.af fun _ _ _ z=>nomatch z)⟩,L.wf,⟨?_,L.ap.2⟩,Nat.le_succ_of_le L.le⟩ ⟨rfl,rfl,rfl,rfl⟩ ?_
    ·obtain⟨as,hk,hp⟩:=L2.ks
     refine⟨as,k1 _ _ hk (na hk fun _ _ _ z=>nomatch z),Paired.mapP hp fun x y qq=>qq.same fun x o e _ _ _ n4=>k1 x o e fun z=>?_⟩
     rw[z,ho] at e
     cases e
     exact hne (n4 _ _ _ rfl)
    ·obtain⟨as,hk,_⟩:=L.at_.ks
     exact fun z=>by rw[show q=p.ak from z,hk] at nq0;cases nq0
    ·intro x o e n
     exact k1 x o (s12 x o e) fun z=>n (by simp[z])
  ·refine bF (decide_eq_false (BV (by omega))) ?_
   have hstep:Bd st i b=(DG st.kinds b).map fun k=>⟨st.name,k⟩:=by
    unfold Bd
    rw[if_neg h0]
   have hle:=L.le
   refine⟨_,rfl,la,b,rfl,hS,hlen,fun hk H1 s1=>?_,fun x hk H1 kp s1 nkp hKp=>?_⟩
   ·have hst:Bd st i b=.error 1:=by rw[hstep];unfold DG;rw[hk];rfl
    refine⟨_,rfl,_,rfl,a,.non,p,_,_,fl,1,rfl,L.at_.mono s1,by rw[AF];omega,.inl ⟨rfl,rfl⟩,fun H2 s2=>?_⟩
    refine⟨_,rfl,rfl,_,rfl,bF (decide_eq_false (BV (by decide))) ?_⟩
    exact⟨_,rfl,ke 1 hst H2 (s1.trans s2)⟩
   ·refine⟨_,rfl,_,rfl,a,.ref kp,p,_,_,fl,_,rfl,L.at_.mono s1,by rw[AF];omega,.inr ⟨kp,zk x,rfl,hKp,rfl⟩,fun H2 s2=>?_⟩
    have s12:=s1.trans s2
    rw[ZJ L.wf x]
    cases hw:Fi st.kinds x with
    | some e =>
     have hst:Bd st i b=.error e:=by rw[hstep];unfold DG;rw[hk];dsimp only;rw[hw];rfl
     have epos:e≠0:=by
      rw[Ik] at hw
      intro q
      subst q
      split at hw
      ·cases hw
      ·split at hw
       ·cases hw
       ·split at hw
        ·cases hw
        ·split at hw <;> cases hw
     refine⟨_,rfl,rfl,_,rfl,bF (decide_eq_false (BV (by show(e:Int)≠0;omega))) ?_⟩
     exact⟨_,rfl,ke e hst H2 s12⟩
    | none =>
     have hst:Bd st i b=.ok ⟨st.name,st.kinds++[x]⟩:=by rw[hstep];unfold DG;rw[hk];dsimp only;rw[hw];rfl
     have hlz:EH (st.kinds.map zk) (zk x)=false:=by
      rw[Rv]
      rw[Ik] at hw
      cases hd:dup st.kinds x with
      | false=>rfl
      | true =>
       rw[hd] at hw
       split at hw
       ·cases hw
       ·rw[if_pos rfl] at hw;cases hw
     refine⟨_,rfl,rfl,_,rfl,bT (decide_eq_true rfl) ?_⟩
     refine⟨_,rfl,_,rfl,a,kp,p,_,_,fl,zk x,rfl,L.at_.mono s12,hKp.mono s2,L.ap,by rw[AF];omega,hlz,fun H3 L3 kb=>?_⟩
     refine⟨_,rfl,?_⟩
     have e1:(st.kinds++[x]).map zk=st.kinds.map zk++[zk x]:=BG
     refine ko _ hst H3 p ⟨by rw[e1];exact L3,L.wf.snoc (Z2 hk) hw,L.ap,by rw[BL];simp;omega⟩ ⟨rfl,rfl,rfl,rfl⟩ ?_
     intro y o e n
     exact kb y o (s12 y o e) fun z=>n (by simp at z ⊢;exact .inr z)
end
end Fb
end
section
set_option maxRecDepth 100000
set_option maxHeartbeats 4000000
namespace L2
open PySem PySem.Spec PyProof.Rows
open PySem.W (CodeHd tabObj kla_obj kla_fn envX)
theorem Fun.okC {P:Program}{w:World}{K:AB}{mg:Str→Option Value}{base:Heap}{x qual:Str}{st:Stmt}{f c:Addr}{fd:FuncData}{N ps:List Str}{k:Nat}{sp:Sp} (F:Fun K x qual st f fd) (hc:fd.code=.ref c) (S:Ab N ps (AK st)) (len:∀vs H Q E,sp vs H Q E→vs.length=ps.length)
  (hbody:∀(A:Around) (outer:List Env) (s:Shared) (H:Hp) (vs:List V) (Q:VK) (E:XK),Room k (A.deeper (envOfC qual (AK st) s.heap.objs.size f (.ref c)))→sp vs H Q E→
   ∃t,PSs (El CX0 P w K mg base N qual (AK st) f (.ref c) A outer s H E).nox (Bz st) t∧t { nx:=fun _ H'=>Q .non H',rt:=Q } (start N vs) H):FnOk P w K mg base CX0 (k+1) f fd ps sp:=by
 obtain⟨oc,od,kV,doc,pm,an,cdv,ct,osl,rfl,lk,hcd⟩:=F.ex
 have e:cdv=.ref c:=hc
 subst e
 refine RF lk hcd S len fun A outer s H vs Q E hr hsp=>?_
 obtain⟨t,h,q⟩:=hbody A outer s H vs Q E hr hsp
 exact⟨t,h.nox,q⟩
def Rw (st:Stmt):Expr:=match (Bz st).getD 1 (.Pass ⟨0,0,0,0⟩) with
 | .Assign _ (.Call _ [_,l] _ _) _=>l
 | _=>.Constant .none 0 ⟨0,0,0,0⟩
def KI (e:Expr):Arguments:=match e with
 | .Lambda a _ _ _=>a
 | _=>{ posonlyargs:=[],args:=[],vararg:=none,kwonlyargs:=[],kw_defaults:=[],kwarg:=none,defaults:=[] }
def KJ (e:Expr):Expr:=match e with
 | .Lambda _ b _ _=>b
 | _=>e
def FL (e:Expr):Scope:=match e with
 | .Lambda _ _ sc _=>sc
 | _=>{ kind:=.function,names:=[],isGenerator:=false,isCoroutine:=false }
def Bs (e:Expr):Pos:=match e with
 | .Lambda _ _ _ p=>p
 | _=>⟨0,0,0,0⟩
theorem WB {cs:List Addr}{H0 H:Hp} (h:∀c∈cs,H c=none):Same H (DV cs H0 H):=fun b o e=>by
 rw[Dz fun m=>by rw[h b m] at e;cases e]
 exact e
def F3 (H H':Hp):Prop:=∀b o,H b=some o→(∀φ,o≠.ext φ)→H' b=some o
theorem J6 {cs:List Addr}{H:Hp} (p:Plain cs H):F3 H (hid cs H):=fun b o e n=>by
 rw[Ax (p.out e n)]
 exact e
end L2
namespace Fb
open PySem PySem.Spec PyProof.Rows L2
theorem KindAt.monoN {CK:Addr}{H H':Hp}{a:Addr}{z:ZK} (s:F3 H H') (h:KindAt CK H a z):KindAt CK H' a z:=by
 obtain⟨dx,lv,h1,h2⟩:=h
 refine⟨dx,lv,s _ _ h1 (fun _ q=>nomatch q),?_⟩
 cases hz:z.lab with
 | sign n =>
  rw[hz] at h2
  obtain⟨t,e,ht⟩:=h2
  exact⟨t,e,s _ _ ht (fun _ q=>nomatch q)⟩
 | same k=>rw[hz] at h2;exact h2
 | ans=>rw[hz] at h2;exact h2
theorem LockAt.monoN {CL CK:Addr}{H H':Hp}{a:Addr}{p:LA}{name:List Int}{kinds:List ZK}{fault:List Int} (s:F3 H H') (h:LockAt CL CK H a p name kinds fault):LockAt CL CK H' a p name kinds fault:=by
 obtain⟨⟨dx,h1⟩,h2,⟨as,h3,h4⟩,h5,h6,h7⟩:=h
 exact⟨⟨dx,s _ _ h1 (fun _ q=>nomatch q)⟩,s _ _ h2 (fun _ q=>nomatch q),⟨as,s _ _ h3 (fun _ q=>nomatch q),Paired.mapP h4 fun a z q=>q.monoN s⟩,s _ _ h5 (fun _ q=>nomatch q),s _ _ h6 (fun _ q=>nomatch q),s _ _ h7 (fun _ q=>nomatch q)⟩
abbrev Tt:Stmt:=EU UN 0
def Vd (CL:Addr):Sp:=fun vs H Q _=>∃(a dx:Addr),vs=[.ref a]∧H a=some (.ins CL dx [])∧
 ∀(H':Hp) (p:LA),H' a=some (.ins CL dx (lf p.an p.ak p.sg p.sm p.af))→H' p.an=some (.lst [])→H' p.ak=some (.lst [])→H' p.sg=some (.dT [])→H' p.sm=some (.dK [])→H' p.af=some (.lst [])→L7 p→(∀b o,H b=some o→b≠a→H' b=some o)→(∀x∈[p.an,p.ak,p.sg,p.sm,p.af],H x=none)→Q .non H'
theorem dH:Ab ["self"] ["self"] (AK Tt):=⟨rfl,rfl,rfl,by decide +kernel,rfl,by decide +kernel,by decide +kernel⟩
section
variable {P:Program}{w:World}{K:AB}{mg:Str→Option Value}{base:Heap}{CL CK:Addr}
theorem ok_lockI {f:Addr}{fd:FuncData} (F:Fun K "__init__" "Locker.__init__" Tt f fd) (T:LockC K CL):FnOk P w K mg base CX0 1 f fd ["self"] (Vd CL):=by
 refine F.ok dH (fun vs H Q E h=>?_) (fun cdv A outer s H vs Q E hr h=>?_)
 ·obtain⟨a,dx,rfl,_⟩:=h
  rfl
 ·obtain⟨a,dx,rfl,ha,k⟩:=h
  refine⟨_,AI (Bj (pv 0) (A5 AD) rfl) (AI (Bj (pv 0) (A5 AD) rfl) (AI (Bj (pv 0) bX rfl) (AI (Bj (pv 0) Sq rfl) (AJ (Bj (pv 0) (A5 AD) rfl))))),?_⟩
  have step:∀{H1:Hp} {fs:List (Str×V)} {q:Addr} {o:HO} {fs':List (Str×V)},H1 a=some (.ins CL dx fs)→H1 q=none→a≠q∧(upd (upd H1 q o) a (.ins CL dx fs')) a=some (.ins CL dx fs')∧(upd (upd H1 q o) a (.ins CL dx fs')) q=some o∧
    (upd H1 q o) a=some (.ins CL dx fs)∧(∀b u,H1 b=some u→b≠a→(upd (upd H1 q o) a (.ins CL dx fs')) b=some u):=fun {H1 fs q o fs'} h1 h2=>by
   have ne:a≠q:=Ai h1 h2
   refine⟨ne,AH,by rw[AG (Af ne),AH],by rw[AG ne];exact h1,fun b u e n=>?_⟩
   rw[AG n,AG (Ai e h2)]
   exact e
  refine⟨Au _,fun q1 n1=>?_⟩
  obtain⟨ne1,a1,b1,i1,k1⟩:=step (fs':=[("name",.ref q1)]) (o:=.lst []) ha n1
  refine⟨_,rfl,a,CL,dx,_,rfl,i1,T.cl,T.name,(by show 0 < 1000;decide),?_⟩
  refine⟨Au _,fun q2 n2=>?_⟩
  obtain⟨ne2,a2,b2,i2,k2⟩:=step (fs':=[("name",.ref q1),("kinds",.ref q2)]) (o:=.lst []) a1 n2
  refine⟨_,rfl,a,CL,dx,_,rfl,i2,T.cl,T.kinds,(by show 1 < 1000;decide),?_⟩
  intro q3 n3
  obtain⟨ne3,a3,b3,i3,k3⟩:=step (fs':=[("name",.ref q1),("kinds",.ref q2),("signs",.ref q3)]) (o:=.dT []) a2 n3
  refine⟨_,rfl,a,CL,dx,_,rfl,i3,T.cl,T.signs,(by show 2 < 1000;decide),?_⟩
  intro q4 n4
  obtain⟨ne4,a4,b4,i4,k4⟩:=step (fs':=[("name",.ref q1),("kinds",.ref q2),("signs",.ref q3),("sames",.ref q4)]) (o:=.dK []) a3 n4
  refine⟨_,rfl,a,CL,dx,_,rfl,i4,T.cl,T.sames,(by show 3 < 1000;decide),?_⟩
  refine⟨Au _,fun q5 n5=>?_⟩
  obtain⟨ne5,a5,b5,i5,k5⟩:=step (fs':=lf q1 q2 q3 q4 q5) (o:=.lst []) a4 n5
  refine⟨_,rfl,a,CL,dx,_,rfl,i5,T.cl,T.fault,(by show 4 < 1000;decide),?_⟩
  have c2:=k2 _ _ b1 (Af ne1)
  have c3:=k3 _ _ c2 (Af ne1)
  have c4:=k4 _ _ c3 (Af ne1)
  have c5:=k5 _ _ c4 (Af ne1)
  have d3:=k3 _ _ b2 (Af ne2)
  have d4:=k4 _ _ d3 (Af ne2)
  have d5:=k5 _ _ d4 (Af ne2)
  have e4:=k4 _ _ b3 (Af ne3)
  have e5:=k5 _ _ e4 (Af ne3)
  have f5:=k5 _ _ b4 (Af ne4)
  have kA:∀b u,H b=some u→b≠a→(upd (upd (upd (upd (upd (upd (upd (upd (upd (upd H q1 (.lst [])) a (.ins CL dx [("name",.ref q1)])) q2 (.lst [])) a (.ins CL dx [("name",.ref q1),("kinds",.ref q2)])) q3 (.dT [])) a (.ins CL dx [("name",.ref q1),("kinds",.ref q2),("signs",.ref q3)])) q4 (.dK [])) a
    (.ins CL dx [("name",.ref q1),("kinds",.ref q2),("signs",.ref q3),("sames",.ref q4)])) q5 (.lst [])) a (.ins CL dx (lf q1 q2 q3 q4 q5))) b=some u:=fun b u e n=>k5 _ _ (k4 _ _ (k3 _ _ (k2 _ _ (k1 _ _ e n) n) n) n) n
  have fr:∀{H1:Hp} {q:Addr},H1 q=none→(∀b u,H b=some u→b≠a→H1 b=some u)→a≠q→H q=none:=fun {H1 q} n k ne=>by
   cases z:H q with
   | none=>rfl
   | some u=>rw[k q u z (Af ne)] at n;cases n
  refine k _ ⟨q1,q2,q3,q4,q5⟩ a5 c5 d5 e5 f5 b5 ⟨Ai b1 n2,Af (Ai d4 n5)⟩ kA ?_
  intro x hx
  simp only[AY,Eb,or_false] at hx
  rcases hx with rfl | rfl | rfl | rfl | rfl
  ·exact n1
  ·exact fr n2 (fun b u e n=>k1 _ _ e n) ne2
  ·exact fr n3 (fun b u e n=>k2 _ _ (k1 _ _ e n) n) ne3
  ·exact fr n4 (fun b u e n=>k3 _ _ (k2 _ _ (k1 _ _ e n) n) n) ne4
  ·exact fr n5 (fun b u e n=>k4 _ _ (k3 _ _ (k2 _ _ (k1 _ _ e n) n) n) n) ne5
end
end Fb
end
section
set_option maxRecDepth 100000
set_option maxHeartbeats 4000000
namespace Fb
open PySem PySem.Spec PyProof.Rows L2
open PySem.W (CodeHd tabObj kla_obj kla_fn envX)
abbrev Kn:Stmt:=U3
abbrev CU:Expr:=Rw Kn
abbrev C0:Str:="read_locker.<locals>.<lambda>"
def SX (cell:Addr) (pm:Value) (c':Addr) (ctv:Value):Obj:=kla_obj "<lambda>" C0 (KI CU) (KJ CU) (FL CU) [("locker",cell)] pm c' ctv
theorem frL:∀y∈(FL CU).names,y.2=Ft→y.1∈(["locker"]:List Str):=by decide +kernel
theorem dG (cell:Addr):MD ["number","line","locker"] ["number","line"] (FL CU) [("locker",cell)] :=
 ⟨rfl,rfl,rfl,by decide +kernel,rfl,by decide +kernel,by decide +kernel,rfl,fun x hx=>by
  have:x="locker":=A1.mp hx
  subst this
  decide +kernel,fun y hy=>frL _ (CH hy) rfl,Dd.mpr ⟨Eb,JG⟩⟩
def Vb (K:AB) (CL CK f c' cell:Addr) (pm ctv:Value):Sp:=fun vs H Q _=>∃(i:Nat) (la a:Addr),vs=[.int (i:Nat),.ref la]∧H f=some (KO f (SX cell pm c' ctv))∧CodeO H c' C0∧DO H cell (.ref a)∧
 Kw K CL CK [.ref a,.int (i:Nat),.ref la] (hid [cell] H) (fun v H'=>H' cell=none→Q v (DV [cell] H H')) E0
section
variable {P:Program}{w:World}{K:AB}{mg:Str→Option Value}{base:Heap}{CL CK:Addr}
theorem bD {f c' cell:Addr}{pm ctv:Value} (g:Has P w K mg "take_line_lockers" 6 ["locker","number","line"] (Kw K CL CK)):
  FnOk P w K mg base CX0 7 f (kla_fn "<lambda>" C0 (KI CU) (KJ CU) (FL CU) [("locker",cell)] pm (.ref c') ctv) ["number","line"] (Vb K CL CK f c' cell pm ctv):=by
 refine Rx (dG cell) (fun vs H Q E h=>?_) (fun vs H Q E h=>?_)
 ·obtain⟨i,la,a,rfl,_⟩:=h
  rfl
 ·obtain⟨i,la,a,rfl,hf,hc,hv,hsp⟩:=h
  refine⟨hf,hc,[.ref a],.cons hv .nil,fun A outer s hr=>?_⟩
  refine⟨_,AN g hr (by rfl) (AA (pv 2) (AA (pv 0) (AA (pv 1) AD))),?_⟩
  refine⟨_,rfl,_,rfl,_,rfl,?_⟩
  obtain⟨a',la',p,st,fl,i',b,e,r1,r2,r3,r4,k1,k2⟩:=hsp
  refine⟨a',la',p,st,fl,i',b,e,r1,r2,r3,r4,fun k hk H' s' hn=>k1 k hk H' s' (hn _ (by simp)),fun s' hs H' p' q1 q2 q3 hn=>k2 s' hs H' p' q1 q2 q3 (hn _ (by simp))⟩
end
end Fb
end
section
set_option maxRecDepth 100000
set_option maxHeartbeats 4000000
namespace Fb
open PySem PySem.Spec PyProof.Rows L2
open PySem.W (CodeHd tabObj kla_obj kla_fn envX)
def SameT (H H':Hp):Prop:=∀b o,H b=some o→(∀ps,o≠.tbl ps)→H' b=some o
theorem Same.t {H H':Hp} (s:Same H H'):SameT H H':=fun b o e _=>s b o e
theorem SameT.trans {H H1 H2:Hp} (a:SameT H H1) (b:SameT H1 H2):SameT H H2:=fun c o e n=>b c o (a c o e n) n
theorem SameT.seq {K:AB}{H H':Hp}{a:Addr}{xs:List V} (e:SameT H H') (h:SqL K H a xs):SqL K H' a xs:=by
 rcases h with (h | ⟨o,h⟩) | h
 ·exact .inl (.inl (e _ _ h fun _ q=>nomatch q))
 ·exact .inl (.inr ⟨o,e _ _ h fun _ q=>nomatch q⟩)
 ·exact .inr h
theorem MA {H H':Hp}{c:Addr}{q:Str} (s:SameT H H') (h:CodeO H c q):CodeO H' c q:=by
 obtain⟨o,vs,t,e,d,r⟩:=h
 exact⟨o,vs,t,s _ _ e (fun _ z=>nomatch z),d,r⟩
theorem Bm {H H':Hp}{Pt:Addr}{pos:Pos}{q:Str} (s:Same H H') (h:BY H Pt pos q):BY H' Pt pos q:=by
 rcases h with h | ⟨c',h,hc⟩
 ·exact .inl (s _ _ h)
 ·exact .inr ⟨c',s _ _ h,MA (Same.t s) hc⟩
theorem LockAt.monoT {CL CK:Addr}{H H':Hp}{a:Addr}{p:LA}{name:List Int}{kinds:List ZK}{fault:List Int} (s:SameT H H') (h:LockAt CL CK H a p name kinds fault):LockAt CL CK H' a p name kinds fault:=by
 obtain⟨⟨dx,h1⟩,h2,⟨as,h3,h4⟩,h5,h6,h7⟩:=h
 refine⟨⟨dx,s _ _ h1 (fun _ q=>nomatch q)⟩,s _ _ h2 (fun _ q=>nomatch q),⟨as,s _ _ h3 (fun _ q=>nomatch q),Paired.mapP h4 fun a z q=>?_⟩,s _ _ h5 (fun _ q=>nomatch q),s _ _ h6 (fun _ q=>nomatch q),s _ _ h7 (fun _ q=>nomatch q)⟩
 obtain⟨dz,lv,q1,q2⟩:=q
 refine⟨dz,lv,s _ _ q1 (fun _ q=>nomatch q),?_⟩
 cases hz:z.lab with
 | sign n =>
  rw[hz] at q2
  obtain⟨t,e,ht⟩:=q2
  exact⟨t,e,s _ _ ht (fun _ q=>nomatch q)⟩
 | same k=>rw[hz] at q2;exact q2
 | ans=>rw[hz] at q2;exact q2
theorem d7 {s:LS}{i k:Nat}{b:Aq} (h:Bd s i b=.error k):k≠0:=by
 unfold Bd at h
 split at h
 ·split at h
  ·cases h;decide
  ·cases h
 ·unfold DG at h
  cases hk:C6 b with
  | none=>rw[hk] at h;cases h;decide
  | some x =>
   rw[hk] at h
   dsimp only at h
   cases hw:Fi s.kinds x with
   | none=>rw[hw] at h;cases h
   | some e =>
    rw[hw] at h
    have h:(Ck e:Except Nat LS)=.error k:=h
    cases h
    rw[Ik] at hw
    intro q
    subst q
    split at hw
    ·cases hw
    ·split at hw
     ·cases hw
     ·split at hw
      ·cases hw
      ·split at hw <;> cases hw
theorem LockAt.fault {CL CK:Addr}{H H':Hp}{a q dx:Addr}{p:LA}{name:List Int}{kinds:List ZK}{fault fl:List Int} (hne:CL≠CK) (h:LockAt CL CK H a p name kinds fault) (hd:H a=some (.ins CL dx (lf p.an p.ak p.sg p.sm p.af))) (hq:H q=some (.lst (fl.map V.int)))
  (e:H'=upd H a (.ins CL dx (BK "fault" (.ref q) (lf p.an p.ak p.sg p.sm p.af)))):LockAt CL CK H' a ⟨p.an,p.ak,p.sg,p.sm,q⟩ name kinds fl:=by
 subst e
 have na:∀{x:Addr} {o:HO},H x=some o→(∀C dx fs,o≠.ins C dx fs)→upd H a (.ins CL dx (BK "fault" (.ref q) (lf p.an p.ak p.sg p.sm p.af))) x=some o:=fun {x o} e n=>by
  rw[AG (BE e hd (n _ _ _))]
  exact e
 refine⟨⟨dx,AH⟩,na h.nm (fun _ _ _ z=>nomatch z),?_,na h.sg (fun _ _ _ z=>nomatch z),na h.sm (fun _ _ _ z=>nomatch z),na hq (fun _ _ _ z=>nomatch z)⟩
 obtain⟨as,hk,hp⟩:=h.ks
 refine⟨as,na hk (fun _ _ _ z=>nomatch z),Paired.mapP hp fun x y qq=>qq.same fun x o e _ _ _ n4=>?_⟩
 rw[AG]
 ·exact e
 ·intro z
  rw[z,hd] at e
  cases e
  exact hne (n4 _ _ _ rfl)
def Hw (t:Aq) (nm:List Int) (ks:List ZK) (fl:List Int):Prop:=match DX t with
 | .error _=>fl≠[]
 | .ok L=>fl=[]∧nm=zs L.name∧ks=L.kinds.map zk∧Wf L.kinds
def Vk (K:AB) (CL CK Pt:Addr):Sp:=fun vs H Q _=>∃(a:Addr) (t:Aq),vs=[.ref a]∧SqL K H a ((zs t).map V.int)∧t.length < 80000∧BY H Pt (Bs CU) C0∧
 ∀(H':Hp) (x:Addr) (p:LA) (nm:List Int) (ks:List ZK) (fl:List Int),KeepBut [Pt] H H'→BY H' Pt (Bs CU) C0→LockAt CL CK H' x p nm ks fl→Hw t nm ks fl→Q (.ref x) H'
theorem scReadL:Ab ["text","locker"] ["text"] (AK Kn):=⟨rfl,rfl,rfl,by decide +kernel,rfl,by decide +kernel,by decide +kernel⟩
section
variable {P:Program}{w:World}{K:AB}{mg:Str→Option Value}{base:Heap}{CL CK Pt:Addr}
theorem ok_readL {f c:Addr}{fd:FuncData} (F:Fun K "read_locker" "read_locker" Kn f fd) (hc:fd.code=.ref c) (C:CodeHd base c Pt) (hbm:Fz mg base) (B:Blt mg) (hne:CL≠CK) (TL:LockC K CL) (c1:Cst mg "NO_SUCH_LINE" (.int 1)) (g0:FE P w K mg "Locker" CL 1 ["self"] (Vd CL))
  (g1:Has P w K mg "first_fault" 9 ["text","take"] (N2 P w K mg 7)) (g2:Has P w K mg "take_line_lockers" 6 ["locker","number","line"] (Kw K CL CK)) (g3:Has P w K mg "count_lines" 1 ["text"] (N0 K)):
  FnOk P w K mg base CX0 10 f fd ["text"] (Vk K CL CK Pt):=by
 refine F.okC hc scReadL (fun vs H Q E h=>?_) (fun A outer s H vs Q E hr h=>?_)
 ·obtain⟨a,t,rfl,_⟩:=h
  rfl
 ·obtain⟨a,t,rfl,hS,hlen,hT,k⟩:=h
  have hr2:Room 2 _:=hr.mono (by decide)
  have hr1:Room 1 _:=hr.mono (by decide)
  obtain⟨f1,fd1,h1,h2,h3,h4⟩:=g1
  refine⟨_,AI (Ap (i:=1) scReadL.nd rfl (De rfl) (Su g0 hr2 (by rfl)))
   (AI (Bj (pv 1) (Sn (h4 base) hr (by rfl) h1 h2 h3 (fun _=>rfl) (by show(["locker"]:List Str).Nodup;decide) (AA (pv 0) (AA (Sr (clos:=[("locker",s.heap.objs.size+1)]) (qual:=C0) rfl C hbm (by rfl) (by rfl) (by rfl)) AD))) rfl)
   (AI (Aw (PW.pt (EX (Ag (GI hr.units) (An (pv 1) rfl) (A5 AD) (Ac _)) (FW (Ag Ba (A4 QQ (by rfl) B.len Bq (AA (An (pv 1) rfl) AD)) AS (Ac _)))))
    (AJ (Bj (pv 1) (A5 (AA (AW c1 rfl) (AA (AN g3 hr1 (by rfl) (AA (pv 0) AD)) AD))) rfl)) Ay)
   (AJ (AM (pv 1))))),?_⟩
  intro x dx nx ndx nex
  refine⟨x,dx,rfl,AH,fun H1 p hx1 han hak hsg hsm haf hap kp hfr=>⟨rfl,?_⟩⟩
  have s1:Same H H1:=Same.made nx ndx kp
  have fr:∀q∈[p.an,p.ak,p.sg,p.sm,p.af],H q=none:=fun q hq=>by
   have:=hfr q hq
   cases z:H q with
   | none=>rfl
   | some u =>
    have e1:q≠x:=Ai z nx
    have e2:q≠dx:=Ai z ndx
    rw[AG e1,AG e2,z] at this
    cases this
  have hx1':LockAt CL CK H1 x p [] [] []:=⟨⟨dx,hx1⟩,han,⟨[],hak,.nil⟩,hsg,hsm,haf⟩
  refine⟨_,rfl,Bm s1 hT,fun H2 fL c' pm ctv kp2 nf hf hPt hco=>?_⟩
  intro H3 ho3 hn3 hcell
  have ho3:∀b,b∉[s.heap.objs.size+1]→H3 b=H2 b:=ho3
  have hn3:∀b∈[s.heap.objs.size+1],H2 b=none:=hn3
  have hcv:DO H3 (s.heap.objs.size+1) (.ref x):=hcell 1 "locker" (.ref x) (s.heap.objs.size+1) rfl rfl rfl rfl
  clear hcell
  generalize hcl:s.heap.objs.size+1=cell at hf ho3 hn3 hcv
  have nc2:H2 cell=none:=hn3 cell (AZ ..)
  have s23:Same H2 H3:=fun b o e=>by
   rw[ho3 b fun m=>by rw[A1.mp m,nc2] at e;cases e]
   exact e
  have hTb:∃ps,H1 Pt=some (.tbl ps):=by
   rcases Bm s1 hT with e | ⟨c2,e,_⟩
   ·exact⟨_,e⟩
   ·exact⟨_,e⟩
  obtain⟨ps1,hPt1⟩:=hTb
  have s12:SameT H1 H2:=fun b o e n=>kp2 b o e fun z=>by rw[z,hPt1] at e;cases e;exact n _ rfl
  have s13:SameT H1 H3:=s12.trans (Same.t s23)
  have L3:LockAt CL CK H3 x p [] [] []:=hx1'.monoT s13
  have hS3:SqL K H3 a ((zs t).map V.int):=s13.seq (s1.seq hS)
  have hf3:=s23 _ _ hf
  have hPt3:=s23 _ _ hPt
  have hco3:CodeO H3 c' C0:=MA (Same.t s23) hco
  obtain⟨dx3,hx3⟩:=L3.ob
  obtain⟨as3,hak3,_⟩:=L3.ks
  have out:∀{b:Addr} {o:HO},H3 b=some o→(∀C d fs,o≠.ins C d fs)→(∀xs,o≠.lst xs)→(∀xs,o≠.dT xs)→(∀xs,o≠.dK xs)→b∉[x,p.ak,p.sg,p.sm]:=fun {b o} e n1 n2 n3 n4 m=>by
   simp only[AY,Eb,or_false] at m
   rcases m with rfl | rfl | rfl | rfl
   ·rw[hx3] at e;cases e;exact n1 _ _ _ rfl
   ·rw[hak3] at e;cases e;exact n2 _ rfl
   ·rw[L3.sg] at e;cases e;exact n3 _ rfl
   ·rw[L3.sm] at e;cases e;exact n4 _ rfl
  have ourN:∀b∈[x,p.ak,p.sg,p.sm],H b=none∧H3 b≠none:=fun b m=>by
   simp only[AY,Eb,or_false] at m
   rcases m with rfl | rfl | rfl | rfl
   ·exact⟨nx,by rw[hx3];simp⟩
   ·exact⟨fr _ (by simp),by rw[hak3];simp⟩
   ·exact⟨fr _ (by simp),by rw[L3.sg];simp⟩
   ·exact⟨fr _ (by simp),by rw[L3.sm];simp⟩
  have hcut:Ao 10 (zs t)=(Al t).map zs++[zs (Bt t)]:=by rw[MZ,IB,BG];rfl
  have hfl:(Al t).length≤t.length:=by
   have:=G1 10 (zs t)
   rw[hcut,BL,AF,A6] at this
   simp at this
   omega
  have part:∀y∈Al t,y.length < 100000:=fun y hy=>by
   have:=Eu 10 (zs t) (zs y) (by rw[hcut];exact JD _ (BD.mpr ⟨y,hy,rfl⟩))
   rw[A6,A6] at this
   omega
  let J:Nat→Hp→Prop:=fun i H'=>∃(p':LA) (st:LS),FZ Bd ⟨[],[]⟩ (Al t) i st∧LockS CL CK H' x p' st [] i∧QC p p'∧KeepBut [x,p.ak,p.sg,p.sm] H3 H'
  have Jf:∀{i H'},J i H'→H' fL=some (KO fL (SX cell pm c' ctv)):=fun ⟨_,_,_,_,_,kb⟩=>kb _ _ hf3 (out hf3 (fun _ _ _ q=>nomatch q) (fun _ q=>nomatch q) (fun _ q=>nomatch q) (fun _ q=>nomatch q))
  have Jc:∀{i H'},J i H'→CodeO H' c' C0:=fun ⟨_,_,_,_,_,kb⟩=>by
   obtain⟨o,vs,tt,e,d,r⟩:=hco3
   exact⟨o,vs,tt,kb _ _ e (out e (fun _ _ _ q=>nomatch q) (fun _ q=>nomatch q) (fun _ q=>nomatch q) (fun _ q=>nomatch q)),d,r⟩
  have Jl:∀{i H'},J i H'→H' cell=H3 cell:=fun ⟨_,_,_,_,_,kb⟩=>by
   obtain⟨o,u,e,_⟩:=hcv
   rw[kb _ _ e (out e (fun _ _ _ q=>nomatch q) (fun _ q=>nomatch q) (fun _ q=>nomatch q) (fun _ q=>nomatch q)),e]
  have Jp:∀{i H'},J i H'→H' Pt=some (.tbl #[rawInt (Bs CU).line,rawInt (Bs CU).col,.ref c']):=fun ⟨_,_,_,_,_,kb⟩=>kb _ _ hPt3 (out hPt3 (fun _ _ _ q=>nomatch q) (fun _ q=>nomatch q) (fun _ q=>nomatch q) (fun _ q=>nomatch q))
  have Jm:∀i H1 H2,J i H1→Same H1 H2→J i H2:=fun i H1 H2 ⟨p',st,h1,h2,h3,h4⟩ ss=>⟨p',st,h1,h2.mono ss,h3,h4.trans (KeepBut.of ss)⟩
  have TC:MH P w K mg 7 H3 fL ((Al t).map zs) J (rAt Bd ⟨[],[]⟩ (Al t)):=by
   refine⟨⟨p,⟨[],[]⟩,Vv,⟨L3,Wf.nil,hap,AO _⟩,⟨rfl,rfl,rfl,rfl⟩,fun b o e _=>e⟩,Jm,fun i H' j=>⟨_,_,Jf j,rfl⟩,_,Vb K CL CK fL c' cell pm ctv,fun base=>bD g2,.all (fun us hl=>match us,hl with | [_,_],_=>rfl),?_⟩
   intro i la ln H4 Q1 hln hJ nla hla hq
   have hf4:=Jf hJ
   have hc4:=Jc hJ
   have hl4:=Jl hJ
   obtain⟨p',st,hst,LS4,hsl,kb⟩:=id hJ
   rw[AX] at hln
   cases hb:(Al t)[i]? with
   | none=>rw[hb] at hln;cases hln
   | some b =>
   rw[hb] at hln
   have eb:zs b=ln:=AV hln
   subst eb
   have hi:i < (Al t).length:=(Be.mp hb).1
   have hR:=Kf (step:=Bd) hst hb
   have hcv4:DO H4 cell (.ref x):=by
    obtain⟨o,u,e,r,r2⟩:=hcv
    exact⟨o,u,by rw[hl4];exact e,r,r2⟩
   have plain:Plain [cell] H4:=fun y hy u e=>by
    obtain⟨o,_,q,_⟩:=hcv4
    rw[A1.mp hy,q] at e
    cases e
    exact⟨_,rfl⟩
   have sN:=J6 plain
   refine⟨i,la,x,rfl,hf4,hc4,hcv4,x,la,p',st,[],i,b,rfl,⟨LS4.at_.monoN sN,LS4.wf,LS4.ap,LS4.le⟩,by omega,SqL.of (sN _ _ hla fun _ q=>nomatch q),part b (CZ hb),fun kk hk H' s' hn=>?_,fun st' hs H' p'' q1 q2 q3 hn=>?_⟩
   ·rw[hk] at hR
    have hR:rAt Bd ⟨[],[]⟩ (Al t) i=(kk:Int):=hR
    have su:Same H4 (DV [cell] H4 H'):=fun y o e=>by
     by_cases m:y∈[cell]
     ·rw[Ig m];exact e
     ·rw[Dz m];exact s' y o (by rw[Ax m];exact e)
    have kpos:=d7 hk
    rw[← hR]
    refine hq _ (fun y o _ e=>su y o e) (fun z=>?_) fun _=>Jm i _ _ hJ su
    rw[hR] at z
    exact absurd (show kk=0 by omega) kpos
   ·rw[hs] at hR
    have hR:rAt Bd ⟨[],[]⟩ (Al t) i=0:=hR
    have su:Same H' (DV [cell] H4 H'):=WB fun y hy=>by rw[A1.mp hy];exact hn
    have ku:KeepBut [x,p.ak,p.sg,p.sm] H4 (DV [cell] H4 H'):=fun y o e n=>by
     by_cases m:y∈[cell]
     ·rw[Ig m];exact e
     ·rw[Dz m]
      refine q3 y o (by rw[Ax m];exact e) ?_
      rw[hsl.1,hsl.2.1,hsl.2.2.1]
      exact n
    rw[← hR]
    refine hq _ (fun y o n e=>ku y o e fun m=>(ourN y m).2 n) (fun _=>⟨p'',st',Vu hst hb hs,q1.mono su,?_,kb.trans ku⟩) fun z=>absurd hR z
    obtain⟨w1,w2,w3,w4⟩:=q2
    obtain⟨v1,v2,v3,v4⟩:=hsl
    exact⟨w1.trans v1,w2.trans v2,w3.trans v3,w4.trans v4⟩
  refine⟨a,fL,zs t,(Al t).map zs,zs (Bt t),J,rAt Bd ⟨[],[]⟩ (Al t),rfl,hS3,by rw[A6];omega,hcut,TC,fun H0 pR j res hJ0 np0 hTold=>?_⟩
  have hJ:=Jm j _ _ hJ0 ((Same.refl H0).new (o:=.lst (res.map V.int)) np0)
  have hpR:upd H0 pR (.lst (res.map V.int)) pR=some (.lst (res.map V.int)):=AH
  generalize upd H0 pR (.lst (res.map V.int))=H' at hJ hpR ⊢
  have hl':=Jl hJ
  have hP':=Jp hJ
  have hc':=Jc hJ
  obtain⟨p',st,hst,LS',hsl,kb⟩:=id hJ
  refine⟨fun c2 hc2=>by
   have:c2=s.heap.objs.size+1:=A1.mp hc2
   rw[this,hcl];exact hl',?_⟩
  show CV 1 _ _ _
  have ecs:Br ((El CX0 P w K mg base ["text","locker"] "read_locker" (AK Kn) f (Ak c) A outer s H E).nox)=[cell]:=by rw[← hcl];rfl
  rw[ecs]
  have plain:Plain [cell] H':=fun y hy u e=>by
   obtain⟨o,_,q,_⟩:=hcv
   rw[A1.mp hy,hl',q] at e
   cases e
   exact⟨_,rfl⟩
  have sN:=J6 plain
  have Lh:=LS'.at_.monoN sN
  obtain⟨dx4,hx4⟩:=Lh.ob
  have hpR4:=sN _ _ hpR fun _ q=>nomatch q
  have kpH:KeepBut [Pt] H (hid [cell] H'):=fun b o e n=>by
   have n:b≠Pt:=fun z=>n (by simp[z])
   have e2:=kp2 b o (s1 b o e) n
   have nb:b∉[cell]:=fun m=>by rw[A1.mp m,nc2] at e2;cases e2
   rw[Ax nb]
   exact kb b o (s23 b o e2) fun m=>by rw[(ourN b m).1] at e;cases e
  have tabH:BY (hid [cell] H') Pt (Bs CU) C0:=by
   refine .inr ⟨c',sN _ _ hP' (fun _ q=>nomatch q),?_⟩
   obtain⟨o,vs,tt,e,d,r⟩:=hc'
   have:c'∉[cell]:=fun m=>by
    obtain⟨o2,_,_,e2,_⟩:=hco
    rw[A1.mp m,nc2] at e2
    cases e2
   exact⟨o,vs,tt,by rw[Ax this];exact e,d,r⟩
  have hSh:SqL K (hid [cell] H') a ((zs t).map V.int):=by
   rcases hS with (h | ⟨o,h⟩) | h
   ·exact .inl (.inl (kpH _ _ h fun m=>by
     have hT':=hT
     rw[A1.mp m] at h
     rcases hT' with q | ⟨_,q,_⟩ <;> (rw[h] at q;cases q)))
   ·exact .inl (.inr ⟨o,kpH _ _ h fun m=>by
     have hT':=hT
     rw[A1.mp m] at h
     rcases hT' with q | ⟨_,q,_⟩ <;> (rw[h] at q;cases q)⟩)
   ·exact .inr h
  generalize hid [cell] H'=Hh at Lh hx4 hpR4 kpH tabH hSh ⊢
  refine⟨_,rfl,x,CL,dx4,_,rfl,hx4,TL.cl,TL.fault,(by show 5 < 1000;decide),?_⟩
  have L5:=Lh.fault (fl:=res) hne hx4 hpR4 rfl
  have nxP:x≠Pt:=fun z=>by
   rcases tabH with q | ⟨_,q,_⟩ <;> (rw[← z,hx4] at q;cases q)
  have kp5:KeepBut [Pt] H (upd Hh x (.ins CL dx4 (BK "fault" (V.ref pR) (lf p'.an p'.ak p'.sg p'.sm p'.af)))):=fun b o e n=>by
   rw[AG (Ai e nx)]
   exact kpH b o e n
  have tab_upd:∀{G:Hp} {o:HO},BY G Pt (Bs CU) C0→(∃d fs,G x=some (.ins CL d fs))→BY (upd G x o) Pt (Bs CU) C0:=fun {G o} h hx=>by
   obtain⟨d,fs,hx⟩:=hx
   rcases h with q | ⟨c2,q,o2,vs,tt,e,r⟩
   ·exact .inl (by rw[AG (Af nxP)];exact q)
   ·exact .inr ⟨c2,by rw[AG (Af nxP)];exact q,o2,vs,tt,by rw[AG (BE e hx (by intro z;cases z))];exact e,r⟩
  have tab5:=tab_upd (o:=.ins CL dx4 (BK "fault" (V.ref pR) (lf p'.an p'.ak p'.sg p'.sm p'.af))) tabH ⟨_,_,hx4⟩
  have hS5:SqL K (upd Hh x (.ins CL dx4 (BK "fault" (V.ref pR) (lf p'.an p'.ak p'.sg p'.sm p'.af)))) a ((zs t).map V.int):=by
   rcases hSh with (h | ⟨o,h⟩) | h
   ·exact .inl (.inl (by rw[AG (BE h hx4 (by intro z;cases z))];exact h))
   ·exact .inl (.inr ⟨o,by rw[AG (BE h hx4 (by intro z;cases z))];exact h⟩)
   ·exact .inr h
  generalize upd Hh x (.ins CL dx4 (BK "fault" (V.ref pR) (lf p'.an p'.ak p'.sg p'.sm p'.af)))=H5 at L5 kp5 tab5 hS5 ⊢
  obtain⟨dx5,hx5⟩:=L5.ob
  refine⟨_,rfl,x,CL,dx5,_,_,rfl,hx5,TL.cl,TL.fault,R6 (p:=⟨p'.an,p'.ak,p'.sg,p'.sm,pR⟩),Au _,fun l nl=>?_⟩
  have s56:Same H5 (upd H5 l (.lst [])):=(Same.refl H5).new nl
  have L6:=L5.mono s56
  have kp6:KeepBut [Pt] H (upd H5 l (.lst [])):=kp5.trans (KeepBut.of s56)
  have tab6:=Bm s56 tab5
  have hS6:=s56.seq hS5
  refine⟨_,_,BM (SqL.of L6.af),BM (ns:=[]) (SqL.of AH),BF _,BF _,?_⟩
  rw[Cw]
  generalize upd H5 l (.lst [])=H6 at L6 kp6 tab6 hS6 ⊢
  obtain⟨dx6,hx6⟩:=L6.ob
  refine⟨_,rfl,?_⟩
  have jud:=Zr t
  by_cases hres:res=[]
  ·refine bT (decide_eq_true hres) ?_
   subst hres
   have hj:j=((Al t).map zs).length∧zs (Bt t)=[]:=by
    rcases hTold with ⟨_,_,_,q⟩ | ⟨q1,_,q2⟩
    ·cases q
    ·refine⟨q1,?_⟩
     by_cases z:zs (Bt t)=[]
     ·exact z
     ·rw[if_neg z] at q2;cases q2
   have hr0:Bt t=[]:=zs_nil.mp hj.2
   have hjn:j=(Al t).length:=by rw[hj.1,AF]
   subst hjn
   rw[Kk hst] at jud
   refine⟨_,rfl,x,CL,dx6,_,_,rfl,hx6,TL.cl,TL.signs,IM (p:=⟨p'.an,p'.ak,p'.sg,p'.sm,pR⟩),p'.sg,_,rfl,L6.sg,rfl,_,rfl,?_⟩
   rw[Kr]
   have hz:Ey (st.kinds.map zk)=0↔st.kinds.all (fun k=>!k.isSign)=true:=by
    rw[VH,JB,Iy,C7]
    exact⟨fun h y hy=>by have:=h y hy;cases q:y.isSign with | false=>rfl | true=>exact absurd q this,fun h y hy q=>by have:=h y hy;rw[q] at this;cases this⟩
   by_cases h0:Ey (st.kinds.map zk)=0
   ·refine bT (decide_eq_true (by rw[h0];rfl)) ?_
    refine⟨_,rfl,a,zs t,rfl,hS6,fun H7 s7=>⟨(show 2≤sizeLine from CA (by decide)),fun l2 nl2=>?_⟩⟩
    have s78:Same H7 (upd H7 l2 (.lst [.int 1,.int ((zs t).count 10:Nat)])):=(Same.refl H7).new nl2
    have s68:=s7.trans s78
    have L8:=L6.mono s68
    have hl8:upd H7 l2 (.lst [.int 1,.int ((zs t).count 10:Nat)]) l2=some (.lst (([1,(((zs t).count 10:Nat):Int)]:List Int).map V.int)):=AH
    have hx8:=s68 _ _ hx6
    have kp8:=kp6.trans (KeepBut.of (xs:=[Pt]) s68)
    have tab8:=Bm s68 tab6
    generalize upd H7 l2 (.lst [.int 1,.int ((zs t).count 10:Nat)])=H8 at L8 hl8 hx8 kp8 tab8 ⊢
    refine⟨_,rfl,x,CL,dx6,_,rfl,hx8,TL.cl,TL.fault,(by show 5 < 1000;decide),?_⟩
    have L9:=L8.fault (p:=⟨p'.an,p'.ak,p'.sg,p'.sm,pR⟩) hne hx8 hl8 rfl
    refine⟨_,rfl,k _ x _ _ _ _ (fun b o e n=>?_) (tab_upd tab8 ⟨_,_,hx8⟩) L9 ?_⟩
    ·rw[AG (Ai e nx)]
     exact kp8 b o e n
    ·unfold Hw
     rw[jud]
     show match En (Bt t) (Al t).length st with
      | .error _=>_
      | .ok L=>_
     unfold En
     rw[if_pos (.inr (hz.mp h0))]
     simp
   ·refine bF (decide_eq_false (BV (by omega))) ?_
    refine⟨_,rfl,k _ x _ _ _ _ kp6 tab6 L6 ?_⟩
    unfold Hw
    rw[jud]
    show match En (Bt t) (Al t).length st with
     | .error _=>_
     | .ok L=>_
    unfold En
    rw[if_neg (by rintro(q | q);exact q hr0;exact h0 (hz.mpr q))]
    exact⟨rfl,rfl,rfl,LS'.wf⟩
  ·refine bF (decide_eq_false hres) ?_
   refine bF rfl ?_
   refine⟨_,rfl,k _ x _ _ _ _ kp6 tab6 L6 ?_⟩
   unfold Hw
   rw[jud]
   rcases hTold with ⟨q1,_,q3,_⟩ | ⟨q1,_,q2⟩
   ·rw[AF] at q1
    obtain⟨b,hb⟩:∃b,(Al t)[j]?=some b:=⟨_,As q1⟩
    have hR:=Kf (step:=Bd) hst hb
    cases hs:Bd st j b with
    | ok s2=>rw[hs] at hR;exact absurd hR q3
    | error kk =>
     rw[TU hst hb hs]
     exact hres
   ·rw[AF] at q1
    subst q1
    rw[Kk hst]
    show match En (Bt t) (Al t).length st with
     | .error _=>_
     | .ok L=>_
    unfold En
    rw[if_pos (.inl fun z=>hres (by rw[q2,if_pos (zs_nil.mpr z)]))]
    exact hres
end
end Fb
end
section
set_option maxRecDepth 100000
set_option maxHeartbeats 4000000
namespace Fb
open PySem PySem.Spec PyProof.Rows L2
open PySem.AutoSeq1 (wpAny_loadPart')
def eqL (H:Hp) (lx:List Int) (u:Value):Bool:=match u with
 | .ref a=>(match H a with
  | some (.lst xs)=>decide (xs=lx.map V.int)
  | _=>false)
 | _=>false
theorem WJ:∀{a b:List Int},a.map V.int=b.map V.int→a=b
 | [],[],_=>rfl
 | [],_::_,h=>by simp at h
 | _::_,[],h=>by simp at h
 | x::a,y::b,h=>by
  rw[Am,Am] at h
  obtain⟨h1,h2⟩:=GW h
  rw[Kz h1,WJ h2]
theorem Qx {H:Hp}{lx ps:List Int}{a:Addr} (h:H a=some (.lst (ps.map V.int))):eqL H lx (.ref a)=decide (ps=lx):=by
 unfold eqL
 dsimp only
 rw[h]
 exact CM ⟨WJ,fun e=>by rw[e]⟩
theorem QF {H:Hp}{lx:List Int}:∀{as:List Addr}{pss:List (List Int)}{us:List Value},Paired (fun a ps=>H a=some (.lst (ps.map V.int))) as pss→Vals (as.map V.ref) us→us.any (eqL H lx)=pss.any fun ps=>decide (ps=lx)
 | _,_,us,.nil,r=>by
  rw[Fo] at r
  cases r
  rfl
 | _,_,us,.cons h t,r=>by
  rw[Am] at r
  cases r with
  | cons r1 r2 =>
   cases r1
   rw[D4,D4,Qx h,QF t r2]
theorem SM:∀{as:List Addr}{us:List Value},Vals (as.map V.ref) us→∀u∈us,∃a∈as,u=.ref a
 | [],_,r=>fun u hu=>by
  rw[Fo] at r
  cases r
  cases hu
 | a::as,_,r=>fun u hu=>by
  rw[Am] at r
  cases r with
  | cons r1 r2 =>
   cases r1
   rcases AY.mp hu with e | hu
   ·exact⟨a,AZ,e⟩
   ·obtain⟨b,hb,e⟩:=SM r2 u hu
    exact⟨b,Ar _ hb,e⟩
def cK:R2:=fun x y H Q=>∃(b p:Addr) (as:List Addr) (pss:List (List Int)) (lx:List Int),x=.ref b∧H b=some (.lst (lx.map V.int))∧y=.ref p∧H p=some (.lst (as.map V.ref))∧Paired (fun a ps=>H a=some (.lst (ps.map V.int))) as pss∧Q (.bl (!(pss.any fun ps=>decide (ps=lx)))) H
theorem bL {X:Cx} (hu:X.A.units+70 < cLine):OpR X (compareOp .NotIn) cK:=by
 intro pins s σ H x y v u Q I rx ry h
 obtain⟨b,p,as,pss,lx,rfl,hb,rfl,hp,hpa,q⟩:=h
 cases rx
 cases ry
 obtain⟨its,r,pl,hz⟩:=I.list (SqL.of hp)
 obtain⟨bs,rb⟩:=Dp.reads I _ (.ref b) (.ref b) (BM (SqL.of hb)) rfl
 refine SeqAt.notIn_listAt (eqL H lx) pl.isList (fun w hw=>?_) ⟨.bl _,H,I,rfl,?_⟩
 ·obtain⟨a,ha,rfl⟩:=SM r w (by simpa using hw)
  obtain⟨ps,_,hps⟩:=NW hpa ha
  obtain⟨cs,ra⟩:=Dp.reads I _ (.ref a) (.ref a) (BM (SqL.of hps)) rfl
  rw[Qx hps,← Cw]
  exact Xg _ _ _ _ _ _ _ _ ra rb (Ln (BF _)) (Ln (BF _)) (Xh (BF _) (by show X.A.units+1+64 < cLine;omega))
 ·rw[show its.toArray.any (eqL H lx)=its.any (eqL H lx) by simp,QF hpa r]
  exact q
def P6 (A:Around) (s:Shared) (x y:Value) (r:Bool):Prop:=∀(prog:Program) (w:World) (E:Value→Shared→Prop) (Q:Value→Shared→Prop),Q (.bool r) s→wpAny (model prog w) A (richCompare .Gt x y) Q E s
theorem fD (l b:Addr) (u0 u1 w0 w1:Value) (n n2:Nat) (d1 d2:Option Addr) (c1 c2:Array (Option Value)) (e0 e1 r0 r1:Bool):Meets (Builtin.«tuple.__gt__» ⟨[.ref l,.ref b],[]⟩)
  (fun A R s=>s.heap.get? l=some { cls:=.type "tuple",dict:=d1,data:=.seq #[u0,u1] n,slots:=c1 }∧s.heap.get? b=some { cls:=.type "tuple",dict:=d2,data:=.seq #[w0,w1] n2,slots:=c2 }∧
   CP A.in1 s u0 w0 e0∧CP A.in1 s u1 w1 e1∧(e0=false→P6 A.in1 s u0 w0 r0)∧(e1=false→P6 A.in1 s u1 w1 r1)∧R (.ok (.ret (.bool (if e0=true then (if e1=true then false else r1) else r0)))) s) :=
 .of_wp fun prog w A R s h=>by
  obtain⟨hp,g,d,tk,os⟩:=s
  obtain⟨hl,hb,q0,q1,k0,k1,h⟩:=h
  have f2:=PF
  wp_walk using Bv hl,Bv hb,Gp _ (fun rest b s'=>b.1=none∧s'=⟨hp,g,d,tk,os⟩∧(rest=[(u0,w0),(u1,w1)]∨(e0=true∧rest=[(u1,w1)])∨(e0=true∧e1=true∧rest=[]))) _
  case turn =>
   rintro⟨y,x⟩ rest b s' ⟨hb',rfl,hz⟩
   rcases hz with hz | ⟨z,hz⟩ | ⟨_,_,hz⟩
   ·injection hz with hy hrest
    injection hy with hy hx
    subst hy hx hrest
    refine AE (q0 prog w _ _ ?_)
    cases e0 with
    | true =>
     wp_walk
     exact⟨rfl,rfl,.inr (.inl ⟨rfl,rfl⟩)⟩
    | false =>
     have k0:=k0 rfl prog w
     wp_walk using k0
     exact⟨_,rfl,h⟩
   ·injection hz with hy hrest
    injection hy with hy hx
    subst hy hx hrest
    refine AE (q1 prog w _ _ ?_)
    cases e1 with
    | true =>
     wp_walk
     exact⟨rfl,rfl,.inr (.inr ⟨z,rfl,rfl⟩)⟩
    | false =>
     have k1:=k1 rfl prog w
     rw[z] at h
     wp_walk using k1
     exact⟨_,rfl,h⟩
   ·cases hz
  case fin =>
   rintro⟨b1,b2⟩ s' ⟨hb',rfl,hz⟩
   simp only at hb'
   subst hb'
   rcases hz with hz | ⟨z,hz⟩ | ⟨z,z2,hz⟩
   ·cases hz
   ·cases hz
   ·rw[z,z2] at h
    wp_walk
    exact⟨_,rfl,h⟩
  case h =>
   exact⟨rfl,rfl,.inl rfl⟩
def cH (K:AB):R2:=fun x y H Q=>∃(a b:Addr) (n m:Int) (c d:Addr) (ns ms:List Int),x=.ref a∧y=.ref b∧H a=some (.tup [.int n,.ref c])∧H b=some (.tup [.int m,.ref d])∧SqL K H c (ns.map V.int)∧SqL K H d (ms.map V.int)∧Q (.bl (if n≠m then decide (m < n) else HT.lexLt ms ns)) H
theorem R5:∀(l:List Int),HT.lexLt l l=false
 | []=>rfl
 | a::l=>by rw[HT.lexLt_cons,if_pos rfl];exact R5 l
theorem RV (n m:Int) (ns ms:List Int):(if decide (n=m)=true then (if decide (ns=ms)=true then false else HT.lexLt ms ns) else decide (m < n))=(if n≠m then decide (m < n) else HT.lexLt ms ns):=by
 by_cases h1:n=m
 ·rw[if_pos (decide_eq_true h1),if_neg (show ¬n≠m from fun z=>z h1)]
  by_cases h2:ns=ms
  ·rw[if_pos (decide_eq_true h2),h2,R5]
  ·rw[if_neg (show ¬decide (ns=ms)=true by rw[decide_eq_false h2];decide)]
 ·rw[if_neg (show ¬decide (n=m)=true by rw[decide_eq_false h1];decide),if_pos h1]
theorem bH {X:Cx} (hu:X.A.units+70 < cLine):OpR X (compareOp .Gt) (cH X.K):=by
 intro pins s σ H x y v u Q I rx ry h
 obtain⟨a,b,n,m,c,d,ns,ms,rfl,rfl,ha,hb,hc,hd,q⟩:=h
 cases rx
 cases ry
 obtain⟨its,r1,⟨⟨k1,f1,t1,l1⟩,o1,g1,n1,z1⟩,_⟩:=I.tuple (SqT.of ha)
 obtain⟨its2,r2,⟨⟨k2,f2,t2,l2⟩,o2,g2,n2,z2⟩,_⟩:=I.tuple (SqT.of hb)
 simp only at g1 g2 z1 z2
 subst g1 g2 z1 z2
 cases r1 with
 | cons p1 r1 =>
 cases r1 with
 | cons p2 r1 =>
 cases r1
 cases r2 with
 | cons p3 r2 =>
 cases r2 with
 | cons p4 r2 =>
 cases r2
 obtain⟨tn,rfl⟩:=p1
 obtain⟨tm,rfl⟩:=p3
 cases p2
 cases p4
 obtain⟨cs,rc⟩:=Dp.reads I _ (.ref c) (.ref c) (BM hc) rfl
 obtain⟨ds,rd⟩:=Dp.reads I _ (.ref d) (.ref d) (BM hd) rfl
 obtain⟨itc,rcv,⟨⟨k3,f3,t3,l3⟩,n3,o3,g3,_,z3⟩,_⟩:=I.list hc
 obtain⟨itd,rdv,⟨⟨k4,f4,t4,l4⟩,n4,o4,g4,_,z4⟩,_⟩:=I.list hd
 simp only at g3 g4 z3 z4
 subst g3 g4 z3 z4
 have q0:CP X.A.in1 s (.int n tn) (.int m tm) (decide (n=m)):=by
  obtain⟨e,he,hiff⟩:=HT.eqAt_int X.A.in1 s n tn m tm
  have:e=decide (n=m):=by
   cases e with
   | true=>exact(decide_eq_true (hiff.mp rfl)).symm
   | false=>exact(decide_eq_false fun z=>absurd (hiff.mpr z) Aj).symm
  rw[← this]
  exact he
 have q1:CP X.A.in1 s (.ref c) (.ref d) (decide (ns=ms)):=by
  rw[← Cw]
  exact Xg _ _ _ _ _ _ _ _ rc rd (Ln (BF _)) (Ln (BF _)) (Xh (BF _) (by show X.A.units+1+64 < cLine;omega))
 refine Pp (op:=.Gt) ⟨_,o1,rfl⟩ ⟨_,o2,rfl⟩ PySem.F.slot_tuple_gt PySem.F.entry_tuple_gt (PySem.F.args_tuple_gt_2 _ _) (fD a b (.int n tn) (.ref c) (.int m tm) (.ref d) n1 n2 f1 f2 l1 l2 (decide (n=m)) (decide (ns=ms)) (decide (m < n)) (HT.lexLt ms ns))
  ⟨o1,o2,q0,q1,fun _ prog w E Q z=>(W0 z:wpAny (model prog w) X.A.in1 (compareOp .Gt (.int n tn) (.int m tm)) Q E _),fun _ prog w E Q z=>?_,⟨(fun x=>nomatch x),⟨.bl (if n≠m then decide (m < n) else HT.lexLt ms ns),H,I,?_,q⟩⟩⟩ (by omega)
 ·exact Pp (op:=.Gt) ⟨_,o3,rfl⟩ ⟨_,o4,rfl⟩ PySem.F.slot_list_gt PySem.F.entry_list_gt (PySem.F.args_list_gt_2 _ _) (aC c d itc.toArray itd.toArray n3 n4 f3 f4 l3 l4 ns ms (Mt rcv) (Mt rdv))
   ⟨o3,o4,show Dg (HT.lexLt ms ns)≠Xi∧_ from⟨(fun x=>nomatch x),z⟩⟩ (by show X.A.units+1 < cLine;omega)
 ·first | exact congrArg Dg (RV n m ns ms) | exact congrArg Dg (RV n m ns ms).symm
theorem Rf {A:Around}{k:Nat} (hr:Room k A):A.units+70 < cLine:=by have:=hr.un;omega
end Fb
end
section
set_option maxRecDepth 100000
set_option maxHeartbeats 4000000
namespace Fb
open PySem PySem.Spec PyProof.Rows L2
abbrev Nk:Stmt:=Ug
def VS (K:AB):Sp:=fun vs H Q _=>∃(a:Addr) (ns:List Int),vs=[.ref a]∧SqL K H a (ns.map V.int)∧ns.length < 100000∧Pur H Q (.bl (J8 ns))
theorem scIsMean:Ab ["told","byte"] ["told"] (AK Nk):=⟨rfl,rfl,rfl,by decide +kernel,rfl,by decide +kernel,by decide +kernel⟩
theorem YI (pss:List (List Int)):(pss.any fun ps=>decide (ps=[]))=decide ([]∈pss):=by
 rw[C5,Iq,decide_eq_true_iff]
 exact⟨fun ⟨x,hx,e⟩=>by rw[← of_decide_eq_true e];exact hx,fun h=>⟨[],h,decide_eq_true rfl⟩⟩
theorem Qc (k:Nat) (xs:List V):CJ xs (some (k:Int)) none=xs.drop k:=by
 by_cases h:k≤xs.length
 ·exact Yo k xs h
 ·unfold CJ
  have e1:HT.sIx xs.length 0 (some (k:Int))=xs.length:=by
   show(if (k:Int) < 0 then ((k:Int)+(xs.length:Int)).toNat else min (k:Int).toNat xs.length)=_
   rw[if_neg (by omega),GU,Nat.min_eq_right (by omega)]
  rw[e1,WY,Iu (by omega)]
  simp
section
variable {P:Program}{w:World}{K:AB}{mg:Str→Option Value}{base:Heap}
theorem ok_isMean {f:Addr}{fd:FuncData} (F:Fun K "is_meaning" "is_meaning" Nk f fd) (B:Blt mg) (c1:Cst mg "BLANK" (.int 32)) (c2:Cst mg "LAST_PRINTED" (.int 126)) (c3:Cst mg "LONGEST_MEANING" (.int 64)) (g1:Has P w K mg "split_at" 1 ["mark","values"] (E1 K)):FnOk P w K mg base CX0 2 f fd ["told"] (VS K):=by
 refine F.ok scIsMean (fun vs H Q E h=>?_) (fun cdv A outer s H vs Q E hr h=>?_)
 ·obtain⟨a,ns,rfl,_⟩:=h
  rfl
 ·obtain⟨a,ns,rfl,hS,hlen,k⟩:=h
  unfold J8 at k
  refine⟨_,AI (Aw (PW.pt (HG (Ag HA (A4 Bx (by rfl) B.len Bq (AA (pv 0) AD)) (AW c3 rfl) (Ac _))
     (Ia (Ex (Dt (A4 (Jk rfl) (by rfl) B.all La (AA (DA (own:=[("byte",1)]) rfl scIsMean.nd (Cy (pv 0)) (Cu (N:=["told","byte"]) (sc:=AK Nk) (by decide +kernel)) (fun s H C cl fp=>BJ (i:=1) scIsMean.nd rfl (AQ rfl)) (fun s H C cl fp=>DC)
      (fun s H C cl fp=>HC Cg Cg (AW c1 rfl) (pv 1) (AW c2 rfl))) AD)))))))
    (AJ (AM Sl)) Ay)
   (AJ (AM (Dm (bL (Rf hr)) (A5 AD) (AN g1 hr (by rfl) (AA (AW c1 rfl) (AA (pv 0) AD))) (by rfl)))),?_⟩
  refine⟨_,rfl,a,_,rfl,.inl hS,_,_,rfl,rfl,_,rfl,?_⟩
  by_cases hl:ns.length≤64
  ·refine bF (decide_eq_false (by rw[AF];omega)) ?_
   rw[decide_eq_true hl,D0] at k
   refine⟨_,rfl,a,rfl,⟨_,hS⟩,fun D hD=>?_⟩
   refine EW (n:=(ns.map V.int).length) ((ns.map fun b=>decide (32≤b)&&decide (b≤126)).map V.bl) (by simp) (BN (by rw[AF];omega)) hD (fun i H hi s2=>EE (s2.seq hS) hi) (fun H s2=>EF (s2.seq hS)) ?_ ?_
   ·rintro i y z H2 H3 hz s2 ⟨rfl,hy⟩ R hR
    obtain⟨n,hn,rfl⟩:=Ep (hy _ (s2.seq hS))
    have:z=V.bl (decide (32≤n)&&decide (n≤126)):=by
     rw[AX,AX,hn] at hz
     exact(AV hz).symm
    subst this
    have r0:=hR _ (Same.refl _)
    refine⟨rfl,_,rfl,_,_,rfl,rfl,_,rfl,?_⟩
    by_cases h1:(32:Int)≤n
    ·rw[decide_eq_true h1,D0] at r0
     exact bT (decide_eq_true h1) ⟨_,_,rfl,rfl,r0⟩
    ·rw[decide_eq_false h1,Cr] at r0
     exact bF (decide_eq_false h1) r0
   ·intro H2 s2 hd2
    refine⟨D,ns.map fun b=>decide (32≤b)&&decide (b≤126),rfl,SqL.of hd2,_,rfl,?_⟩
    rw[GV]
    cases ha:ns.all fun b=>decide (32≤b)&&decide (b≤126) with
    | false =>
     rw[ha,Cr] at k
     exact bT (by show(!(ns.all fun b=>decide (32≤b)&&decide (b≤126)))=true;rw[ha];rfl) (k H2 s2)
    | true =>
     rw[ha,D0] at k
     refine bF (by show(!(ns.all fun b=>decide (32≤b)&&decide (b≤126)))=false;rw[ha];rfl) ?_
     refine⟨Au _,fun l nl=>?_⟩
     have s3:Same H2 (upd H2 l (.lst [])):=(Same.refl H2).new nl
     refine⟨_,rfl,a,32,ns,rfl,s3.seq (s2.seq hS),hlen,fun H4 p as s4 np nas hp hpa=>?_⟩
     refine⟨l,p,as,_,[],rfl,s4 _ _ AH,rfl,hp,hpa,?_⟩
     rw[YI]
     exact k H4 ((s2.trans s3).trans s4)
  ·rw[decide_eq_false hl,Cr,Cr] at k
   exact bT (decide_eq_true (by rw[AF];omega)) (bT rfl (k H (Same.refl H)))
end
abbrev T6:Stmt:=U6
abbrev Tu:Stmt:=Uw
def EC (ns:List Int):List Int:=(Ao 32 ns).headD []
def Ku (K:AB):Sp:=fun vs H Q _=>∃(a:Addr) (ns:List Int),vs=[.ref a]∧SqL K H a (ns.map V.int)∧ns.length < 100000∧FF H Q (EC ns)
def N7 (K:AB):Sp:=fun vs H Q _=>∃(a:Addr) (ns:List Int),vs=[.ref a]∧SqL K H a (ns.map V.int)∧ns.length < 100000∧FF H Q (ns.drop ((EC ns).length+1))
theorem dR:Ab ["line"] ["line"] (AK T6):=⟨rfl,rfl,rfl,by decide +kernel,rfl,by decide +kernel,by decide +kernel⟩
theorem dI:Ab ["line"] ["line"] (AK Tu):=⟨rfl,rfl,rfl,by decide +kernel,rfl,by decide +kernel,by decide +kernel⟩
theorem RH (ns:List Int):(Ao 32 ns)[0]?=some (EC ns):=by
 unfold EC
 cases h:Ao 32 ns with
 | nil=>exact absurd h (Jq 32 ns)
 | cons w l=>rfl
theorem ZQ (ns:List Int):(EC ns).length≤ns.length:=Eu 32 ns _ (CZ (RH ns))
theorem J5 (b:Aq):EC (zs b)=zs (Bn b):=by
 unfold EC Bn
 rw[G0]
 cases h:A7 32 b with
 | nil=>exact absurd h (Ek 32 b)
 | cons w l=>rfl
section
variable {P:Program}{w:World}{K:AB}{mg:Str→Option Value}{base:Heap}
theorem ok_rowW {f:Addr}{fd:FuncData} (F:Fun K "row_word" "row_word" T6 f fd) (c1:Cst mg "BLANK" (.int 32)) (g1:Has P w K mg "split_at" 1 ["mark","values"] (E1 K)):FnOk P w K mg base CX0 2 f fd ["line"] (Ku K):=by
 refine F.ok dR (fun vs H Q E h=>?_) (fun cdv A outer s H vs Q E hr h=>?_)
 ·obtain⟨a,ns,rfl,_⟩:=h
  rfl
 ·obtain⟨a,ns,rfl,hS,hlen,k⟩:=h
  refine⟨_,AJ (AM (CC B1 (AN g1 hr (by rfl) (AA (AW c1 rfl) (AA (pv 0) AD))) AS (fun _ _=>rfl))),?_⟩
  refine⟨_,rfl,a,32,ns,rfl,hS,hlen,fun H1 p as s1 np nas hp hpa=>?_⟩
  obtain⟨b,hb,hbn⟩:=Cb hpa (RH ns)
  exact⟨p,_,_,_,rfl,rfl,SqL.of hp,Bw (j:=0) (v:=V.ref b) (by rw[AX,hb];rfl),k H1 b s1 (nas b (CZ hb)) hbn⟩
theorem ok_meanT {f:Addr}{fd:FuncData} (F:Fun K "meaning_told" "meaning_told" Tu f fd) (B:Blt mg) (g1:Has P w K mg "row_word" 2 ["line"] (Ku K)):FnOk P w K mg base CX0 3 f fd ["line"] (N7 K):=by
 refine F.ok dI (fun vs H Q E h=>?_) (fun cdv A outer s H vs Q E hr h=>?_)
 ·obtain⟨a,ns,rfl,_⟩:=h
  rfl
 ·obtain⟨a,ns,rfl,hS,hlen,k⟩:=h
  refine⟨_,AJ (AM (FT FY (pv 0) (Ew (DB KY (A4 Bx (by rfl) B.len Bq (AA (AN g1 hr (by rfl) (AA (pv 0) AD)) AD)) AS)) GJ)),?_⟩
  refine⟨_,rfl,_,rfl,a,ns,rfl,hS,hlen,fun H1 b s1 nb hbn=>?_⟩
  refine⟨b,_,rfl,.inl (SqL.of hbn),_,_,rfl,rfl,_,rfl,a,_,rfl,s1.seq hS,fun q nq=>?_⟩
  have e:CJ (ns.map V.int) (some ((((EC ns).map V.int).length:Int)+1)) none=(ns.drop ((EC ns).length+1)).map V.int:=by
   have:=Qc ((EC ns).length+1) (ns.map V.int)
   rw[← List.map_drop] at this
   rw[AF]
   exact this
  refine k _ q (s1.trans ((Same.refl H1).new nq)) (s1.free nq) ?_
  rw[AH]
  exact congrArg (fun z=>some (HO.lst z)) e
end
end Fb
end
section
set_option maxRecDepth 100000
set_option maxHeartbeats 4000000
namespace Fb
open PySem PySem.Spec PyProof.Rows L2
abbrev T5:Stmt:=Ul
def Vm:Sp:=fun vs H Q _=>∃n:Int,vs=[.int n]∧Pur H Q (.bl (decide (1≤n)&&decide (n≤8)))
theorem dQ:Ab ["length"] ["length"] (AK T5):=⟨rfl,rfl,rfl,by decide +kernel,rfl,by decide +kernel,by decide +kernel⟩
section
variable {P:Program}{w:World}{K:AB}{mg:Str→Option Value}{base:Heap}
theorem ok_rowLen {f:Addr}{fd:FuncData} (F:Fun K "is_row_length" "is_row_length" T5 f fd) (c1:Cst mg "LONGEST_ROW" (.int 8)):FnOk P w K mg base CX0 1 f fd ["length"] Vm:=by
 refine F.ok dQ (fun vs H Q E h=>?_) (fun cdv A outer s H vs Q E hr h=>?_)
 ·obtain⟨x,rfl,_⟩:=h
  rfl
 ·obtain⟨n,rfl,k⟩:=h
  have kk:=k H (Same.refl H)
  refine⟨_,AJ (AM (HC Cg Cg AS (pv 0) (AW c1 rfl))),?_⟩
  refine⟨_,rfl,_,_,rfl,rfl,_,rfl,?_⟩
  by_cases h1:(1:Int)≤n
  ·rw[decide_eq_true h1,D0] at kk
   exact bT (decide_eq_true h1) ⟨_,_,rfl,rfl,kk⟩
  ·rw[decide_eq_false h1,Cr] at kk
   exact bF (decide_eq_false h1) kk
end
abbrev Nm:Stmt:=Um
abbrev Tj:Stmt:=Uc
def Kh (b:Aq):Bool:=decide ((A7 46 b).length≤8)&&(A7 46 b).all Cm
def VT (K:AB):Sp:=fun vs H Q _=>∃(a:Addr) (b:Aq),vs=[.ref a]∧SqL K H a ((zs b).map V.int)∧b.length < 100000∧Pur H Q (.bl (Kh b))
def VR (K:AB):Sp:=fun vs H Q _=>∃(a:Addr) (b:Aq),vs=[.ref a]∧SqL K H a ((zs b).map V.int)∧b.length < 100000∧Pur H Q (.bl (ET b))
theorem scIsRowW:Ab ["word","names","name"] ["word"] (AK Nm):=⟨rfl,rfl,rfl,by decide +kernel,rfl,by decide +kernel,by decide +kernel⟩
theorem dB:Ab ["line"] ["line"] (AK Tj):=⟨rfl,rfl,rfl,by decide +kernel,rfl,by decide +kernel,by decide +kernel⟩
theorem RG (b:Aq):(Bn b).length≤b.length:=by
 have:=ZQ (zs b)
 rw[J5,A6,A6] at this
 exact this
theorem SK (b:Aq):(zs b).drop ((EC (zs b)).length+1)=zs (DF b):=by
 rw[J5,A6]
 unfold DF zs
 rw[List.map_drop]
theorem du (b:Aq):(DF b).length≤b.length:=by
 unfold DF
 rw[LH]
 omega
theorem SR (b:Aq):(A7 46 b).length≤b.length+1∧1≤(A7 46 b).length:=by
 have h1:=G1 46 (zs b)
 have h2:=Jo 46 (zs b)
 rw[Jn,AF] at h1 h2
 rw[A6] at h1
 omega
section
variable {P:Program}{w:World}{K:AB}{mg:Str→Option Value}{base:Heap}
theorem ok_isRowW {f:Addr}{fd:FuncData} (F:Fun K "is_row_word" "is_row_word" Nm f fd) (B:Blt mg) (c1:Cst mg "FULL_STOP" (.int 46)) (g0:Has P w K mg "is_row_length" 1 ["length"] Vm) (g1:Has P w K mg "split_at" 1 ["mark","values"] (E1 K)) (g2:Has P w K mg "is_name" 2 ["word"] (Ks K)):
  FnOk P w K mg base CX0 3 f fd ["word"] (VT K):=by
 refine F.ok scIsRowW (fun vs H Q E h=>?_) (fun cdv A outer s H vs Q E hr h=>?_)
 ·obtain⟨a,b,rfl,_⟩:=h
  rfl
 ·obtain⟨a,b,rfl,hS,hlen,k⟩:=h
  have zl:(zs b).length < 100000:=by rw[A6];exact hlen
  unfold Kh at k
  have hr1:Room 1 _:=hr.mono (by decide)
  refine⟨_,AI (Ap (i:=1) scIsRowW.nd rfl (AQ rfl) (AN g1 hr1 (by rfl) (AA (AW c1 rfl) (AA (pv 0) AD))))
   (AJ (AM (FP (AN g0 hr1 (by rfl) (AA (A4 Bx (by rfl) B.len Bq (AA (pv 1) AD)) AD))
    (FR (A4 (Jk rfl) (by rfl) B.all La (AA (DA (own:=[("name",2)]) rfl scIsRowW.nd (Cy (pv 1)) (Cu (N:=["word","names","name"]) (sc:=AK Nm) (by decide +kernel)) (fun s H C cl fp=>BJ (i:=2) scIsRowW.nd rfl (AQ rfl)) (fun s H C cl fp=>DC)
      (fun s H C cl fp=>AN g2 hr (by rfl) (AA (pv 2) AD))) AD)))))),?_⟩
  refine⟨_,rfl,a,46,zs b,rfl,hS,zl,fun H1 p as s1 np nas hp hpa=>?_⟩
  rw[Jn] at hpa
  have hl:=Bb hpa
  rw[AF] at hl
  obtain⟨hb46,hpos⟩:=SR b
  refine⟨_,rfl,p,_,rfl,.inl (SqL.of hp),_,rfl,fun H1' s1'=>?_⟩
  have s1:=s1.trans s1'
  have hp:=s1' _ _ hp
  have hpa:=Paired.mapP hpa fun _ _ e=>s1' _ _ e
  clear s1'
  generalize H1'=H1 at s1 hp hpa ⊢
  rw[show decide ((1:Int)≤(((as.map V.ref).length:Nat):Int))=true from decide_eq_true (by rw[AF,hl];omega),D0]
  by_cases h1:(A7 46 b).length≤8
  ·rw[decide_eq_true h1,D0] at k
   refine⟨_,rfl,bT (decide_eq_true (by rw[AF,hl];omega)) ?_⟩
   refine⟨_,rfl,p,rfl,⟨_,SqL.of hp⟩,fun D hD=>?_⟩
   refine EW (n:=(as.map V.ref).length) (((A7 46 b).map Cm).map V.bl) (by rw[AF,AF,AF,hl]) (BN (by rw[AF,hl];omega)) hD (fun i H hi s2=>EE (SqL.of (s2 _ _ hp)) hi) (fun H s2=>EF (SqL.of (s2 _ _ hp))) ?_ ?_
   ·rintro i y z H2 H3 hz s2 ⟨rfl,hy⟩ R hR
    have hy:=hy _ (SqL.of (s2 _ _ hp))
    rw[AX,AX] at hz
    cases hn:(A7 46 b)[i]? with
    | none=>rw[hn] at hz;cases hz
    | some nm =>
     rw[hn] at hz
     have ez:V.bl (Cm nm)=z:=AV hz
     subst ez
     obtain⟨c,hc,hcc⟩:=Cb hpa (i:=i) (b:=zs nm) (by rw[AX,hn];rfl)
     rw[AX,hc] at hy
     have ey:V.ref c=y:=AV hy
     subst ey
     have h2:=Eu 46 (zs b) (zs nm) (by rw[Jn];exact BD.mpr ⟨nm,CZ hn,rfl⟩)
     rw[A6,A6] at h2
     refine⟨rfl,_,rfl,c,zs nm,rfl,SqL.of (s2 _ _ hcc),by rw[A6];omega,?_⟩
     rw[J9]
     exact hR
   ·intro H2 s2 hd2
    refine⟨D,(A7 46 b).map Cm,rfl,SqL.of hd2,?_⟩
    rw[GV]
    exact k H2 (s1.trans s2)
  ·rw[decide_eq_false h1,Cr] at k
   exact⟨_,rfl,bF (decide_eq_false (by rw[AF,hl];omega)) (k H1 s1)⟩
theorem ok_isEnt {f:Addr}{fd:FuncData} (F:Fun K "is_entry_line" "is_entry_line" Tj f fd) (g1:Has P w K mg "row_word" 2 ["line"] (Ku K)) (g2:Has P w K mg "is_row_word" 3 ["word"] (VT K)) (g3:Has P w K mg "is_meaning" 2 ["told"] (VS K)) (g4:Has P w K mg "meaning_told" 3 ["line"] (N7 K)):
  FnOk P w K mg base CX0 4 f fd ["line"] (VR K):=by
 refine F.ok dB (fun vs H Q E h=>?_) (fun cdv A outer s H vs Q E hr h=>?_)
 ·obtain⟨a,b,rfl,_⟩:=h
  rfl
 ·obtain⟨a,b,rfl,hS,hlen,k⟩:=h
  have zl:(zs b).length < 100000:=by rw[A6];exact hlen
  have hr2:Room 2 _:=hr.mono (by decide)
  have e:ET b=(Kh (Bn b)&&Ff (DF b)):=rfl
  rw[e] at k
  refine⟨_,AJ (AM (FP (AN g2 hr (by rfl) (AA (AN g1 hr2 (by rfl) (AA (pv 0) AD)) AD))
    (FR (AN g3 hr2 (by rfl) (AA (AN g4 hr (by rfl) (AA (pv 0) AD)) AD))))),?_⟩
  refine⟨_,rfl,a,zs b,rfl,hS,zl,fun H1 p s1 np hp=>?_⟩
  rw[J5] at hp
  have:=RG b
  refine⟨p,Bn b,rfl,SqL.of hp,by omega,fun H2 s2=>⟨_,rfl,?_⟩⟩
  have s12:=s1.trans s2
  cases hw:Kh (Bn b) with
  | false =>
   rw[hw,Cr] at k
   exact bF rfl (k H2 s12)
  | true =>
   rw[hw,D0] at k
   refine bT rfl ?_
   refine⟨_,rfl,a,zs b,rfl,s12.seq hS,zl,fun H3 q s3 nq hq=>?_⟩
   rw[SK] at hq
   have:=du b
   refine⟨q,zs (DF b),rfl,SqL.of hq,by rw[A6];omega,fun H4 s4=>?_⟩
   rw[Zm]
   exact k H4 ((s12.trans s3).trans s4)
end
abbrev TZ:Stmt:=Uk
def JZ (ns ms:List Int):Bool:=if ns.length≠ms.length then decide (ms.length < ns.length) else HT.lexLt ms ns
def VN (K:AB):Sp:=fun vs H Q _=>∃(a b:Addr) (ns ms:List Int),vs=[.ref a,.ref b]∧SqL K H a (ns.map V.int)∧SqL K H b (ms.map V.int)∧Pur H Q (.bl (JZ ns ms))
theorem c7:Ab ["row","before"] ["row","before"] (AK TZ):=⟨rfl,rfl,rfl,by decide +kernel,rfl,by decide +kernel,by decide +kernel⟩
theorem R4:∀(a b:List Nat),a.length=b.length→HT.lexLt (zn a) (zn b)=Flags.before a b
 | [],[],_=>rfl
 | [],_::_,h=>by simp at h
 | _::_,[],h=>by simp at h
 | x::a,y::b,h=>by
  have ih:=R4 a b (by simpa using h)
  show HT.lexLt ((x:Int)::zn a) ((y:Int)::zn b)=(decide (x < y) || (x==y&&Flags.before a b))
  rw[HT.lexLt_cons]
  by_cases e:x=y
  ·subst e
   rw[if_pos rfl,ih]
   simp
  ·rw[if_neg (by omega),CM (show(x:Int) < y↔x < y by omega)]
   simp[e]
theorem YS (r e:List Nat):JZ (zn r) (zn e)=GS e r:=by
 unfold JZ GS
 rw[Bl,Bl]
 by_cases h:r.length=e.length
 ·rw[if_neg (fun q=>q h),R4 e r h.symm,decide_eq_false (by omega),HU]
  simp[h]
 ·rw[if_pos h]
  have:(e.length==r.length)=false:=beq_eq_false_iff_ne.mpr fun q=>h q.symm
  rw[this,Cr,OV]
abbrev T2:Stmt:=U1
def Vi (K:AB):Sp:=fun vs H Q _=>∃(a:Addr) (xs:List V),vs=[.ref a]∧(SqL K H a xs∨SqT K H a xs)∧∀t,H t=none→Q (.ref t) (upd H t (.tup [.int (xs.length:Nat),.ref a]))
theorem dN:Ab ["row"] ["row"] (AK T2):=⟨rfl,rfl,rfl,by decide +kernel,rfl,by decide +kernel,by decide +kernel⟩
section
variable {P:Program}{w:World}{K:AB}{mg:Str→Option Value}{base:Heap}
theorem ok_place {f:Addr}{fd:FuncData} (F:Fun K "place_in_order" "place_in_order" T2 f fd) (B:Blt mg):FnOk P w K mg base CX0 1 f fd ["row"] (Vi K):=by
 refine F.ok dN (fun vs H Q E h=>?_) (fun cdv A outer s H vs Q E hr h=>?_)
 ·obtain⟨a,xs,rfl,_⟩:=h
  rfl
 ·obtain⟨a,xs,rfl,hA,k⟩:=h
  refine⟨_,AJ (AM (Kc (AA (A4 Bx (by rfl) B.len Bq (AA (pv 0) AD)) (AA (pv 0) AD)))),?_⟩
  exact⟨_,rfl,a,xs,rfl,hA,_,rfl,(show 2≤sizeLine from CA (by decide)),fun t nt=>k t nt⟩
theorem ok_behind {f:Addr}{fd:FuncData} (F:Fun K "is_row_behind" "is_row_behind" TZ f fd) (g1:Has P w K mg "place_in_order" 1 ["row"] (Vi K)):FnOk P w K mg base CX0 2 f fd ["row","before"] (VN K):=by
 refine F.ok c7 (fun vs H Q E h=>?_) (fun cdv A outer s H vs Q E hr h=>?_)
 ·obtain⟨a,b,ns,ms,rfl,_⟩:=h
  rfl
 ·obtain⟨a,b,ns,ms,rfl,hA,hB,k⟩:=h
  refine⟨_,AJ (AM (Dm (bH (Rf hr)) (AN g1 hr (by rfl) (AA (pv 0) AD)) (AN g1 hr (by rfl) (AA (pv 1) AD)) (Ac _))),?_⟩
  refine⟨_,rfl,a,_,rfl,.inl hA,fun t nt=>?_⟩
  have s1:Same H (upd H t (.tup [.int ((ns.map V.int).length:Nat),.ref a])):=(Same.refl H).new nt
  have h1:upd H t (.tup [.int ((ns.map V.int).length:Nat),.ref a]) t=some (.tup [.int ((ns.map V.int).length:Nat),.ref a]):=AH
  generalize upd H t (.tup [.int ((ns.map V.int).length:Nat),.ref a])=H1 at s1 h1 ⊢
  refine⟨_,rfl,b,_,rfl,.inl (s1.seq hB),fun t2 nt2=>?_⟩
  have s2:Same H1 (upd H1 t2 (.tup [.int ((ms.map V.int).length:Nat),.ref b])):=(Same.refl H1).new nt2
  have h2:upd H1 t2 (.tup [.int ((ms.map V.int).length:Nat),.ref b]) t2=some (.tup [.int ((ms.map V.int).length:Nat),.ref b]):=AH
  generalize upd H1 t2 (.tup [.int ((ms.map V.int).length:Nat),.ref b])=H2 at s2 h2 ⊢
  refine⟨t,t2,_,_,a,b,ns,ms,rfl,rfl,s2 _ _ h1,h2,(s1.trans s2).seq hA,(s1.trans s2).seq hB,?_⟩
  have kk:=k H2 (s1.trans s2)
  unfold JZ at kk
  have e:(if ((((ns.map V.int).length:Nat):Int)≠(((ms.map V.int).length:Nat):Int)) then decide ((((ms.map V.int).length:Nat):Int) < (((ns.map V.int).length:Nat):Int)) else HT.lexLt ms ns)=(if ns.length≠ms.length then decide (ms.length < ns.length) else HT.lexLt ms ns):=by
   rw[AF,AF]
   by_cases q:ns.length=ms.length
   ·rw[if_neg (fun z=>z (by omega)),if_neg (fun z=>z q)]
   ·rw[if_pos (by omega),if_pos q]
    exact CM (by omega)
  rw[e]
  exact kk
end
end Fb
end
section
set_option maxRecDepth 100000
set_option maxHeartbeats 4000000
namespace Fb
open PySem PySem.Spec PyProof.Rows L2
def ef (ar am:Addr):List (Str×V):=[("row",.ref ar),("meaning",.ref am)]
def bfB (bn be bf:Addr):List (Str×V):=[("name",.ref bn),("entries",.ref be),("fault",.ref bf)]
theorem Qu {ar am:Addr}:(ef ar am).lookup ("row":Str)=some (.ref ar):=rfl
structure BA where
 bn:Addr
 be:Addr
 bf:Addr
theorem Hx {q:BA}:(bfB q.bn q.be q.bf).lookup ("entries":Str)=some (.ref q.be):=rfl
theorem MN {q:BA}:(bfB q.bn q.be q.bf).lookup ("fault":Str)=some (.ref q.bf):=rfl
def EntAt (CE:Addr) (H:Hp) (a:Addr) (e:BQ):Prop:=∃(dx ar am:Addr),H a=some (.ins CE dx (ef ar am))∧H ar=some (.lst ((zn e.row).map V.int))∧H am=some (.lst ((zs e.says).map V.int))
structure BookAt (CB CE:Addr) (H:Hp) (b:Addr) (q:BA) (name:List Int) (entries:List BQ) (fault:List Int):Prop where
 ob:∃dx,H b=some (.ins CB dx (bfB q.bn q.be q.bf))
 nm:hid [q.be] H q.bn=some (.lst (name.map V.int))
 es:∃as:List Addr,H q.be=some (.lst (as.map V.ref))∧Paired (EntAt CE (hid [q.be] H)) as entries
 bf:hid [q.be] H q.bf=some (.lst (fault.map V.int))
theorem IJ {cs:List Addr}{H:Hp}:Same (hid cs H) H:=fun b o e=>by
 by_cases m:b∈cs
 ·rw[Dj m] at e;cases e
 ·rw[Ax m] at e;exact e
theorem F8 {cs:List Addr}{H H':Hp} (s:Same H H'):Same (hid cs H) (hid cs H'):=fun b o e=>by
 by_cases m:b∈cs
 ·rw[Dj m] at e;cases e
 ·rw[Ax m] at e ⊢;exact s b o e
theorem Mq {cs:List Addr}{H H':Hp} (s:F3 H H'):F3 (hid cs H) (hid cs H'):=fun b o e n=>by
 by_cases m:b∈cs
 ·rw[Dj m] at e;cases e
 ·rw[Ax m] at e ⊢;exact s b o e n
theorem II {cs:List Addr}{H H':Hp} (s:SameT H H'):SameT (hid cs H) (hid cs H'):=fun b o e n=>by
 by_cases m:b∈cs
 ·rw[Dj m] at e;cases e
 ·rw[Ax m] at e ⊢;exact s b o e n
theorem EntAt.mono {CE:Addr}{H H':Hp}{a:Addr}{e:BQ} (s:Same H H') (h:EntAt CE H a e):EntAt CE H' a e:=by
 obtain⟨dx,ar,am,h1,h2,h3⟩:=h
 exact⟨dx,ar,am,s _ _ h1,s _ _ h2,s _ _ h3⟩
theorem BookAt.mono {CB CE:Addr}{H H':Hp}{b:Addr}{q:BA}{name:List Int}{entries:List BQ}{fault:List Int} (s:Same H H') (h:BookAt CB CE H b q name entries fault):BookAt CB CE H' b q name entries fault:=by
 obtain⟨⟨dx,h1⟩,h2,⟨as,h3,h4⟩,h5⟩:=h
 exact⟨⟨dx,s _ _ h1⟩,F8 s _ _ h2,⟨as,s _ _ h3,Paired.mapP h4 fun a z q=>q.mono (F8 s)⟩,F8 s _ _ h5⟩
theorem BookAt.ents {CB CE:Addr}{H:Hp}{b:Addr}{q:BA}{name:List Int}{entries:List BQ}{fault:List Int} (h:BookAt CB CE H b q name entries fault):∃as:List Addr,H q.be=some (.lst (as.map V.ref))∧Paired (EntAt CE H) as entries:=by
 obtain⟨as,h3,h4⟩:=h.es
 exact⟨as,h3,Paired.mapP h4 fun a z q=>q.mono IJ⟩
theorem BookAt.bf' {CB CE:Addr}{H:Hp}{b:Addr}{q:BA}{name:List Int}{entries:List BQ}{fault:List Int} (h:BookAt CB CE H b q name entries fault):H q.bf=some (.lst (fault.map V.int)):=IJ _ _ h.bf
theorem EntAt.monoN {CE:Addr}{H H':Hp}{a:Addr}{e:BQ} (s:F3 H H') (h:EntAt CE H a e):EntAt CE H' a e:=by
 obtain⟨dx,ar,am,h1,h2,h3⟩:=h
 exact⟨dx,ar,am,s _ _ h1 (fun _ q=>nomatch q),s _ _ h2 (fun _ q=>nomatch q),s _ _ h3 (fun _ q=>nomatch q)⟩
theorem BookAt.monoN {CB CE:Addr}{H H':Hp}{b:Addr}{q:BA}{name:List Int}{entries:List BQ}{fault:List Int} (s:F3 H H') (h:BookAt CB CE H b q name entries fault):BookAt CB CE H' b q name entries fault:=by
 obtain⟨⟨dx,h1⟩,h2,⟨as,h3,h4⟩,h5⟩:=h
 exact⟨⟨dx,s _ _ h1 (fun _ q=>nomatch q)⟩,Mq s _ _ h2 (fun _ q=>nomatch q),⟨as,s _ _ h3 (fun _ q=>nomatch q),Paired.mapP h4 fun a z q=>q.monoN (Mq s)⟩,Mq s _ _ h5 (fun _ q=>nomatch q)⟩
theorem BookAt.monoT {CB CE:Addr}{H H':Hp}{b:Addr}{q:BA}{name:List Int}{entries:List BQ}{fault:List Int} (s:SameT H H') (h:BookAt CB CE H b q name entries fault):BookAt CB CE H' b q name entries fault:=by
 obtain⟨⟨dx,h1⟩,h2,⟨as,h3,h4⟩,h5⟩:=h
 refine⟨⟨dx,s _ _ h1 (fun _ q=>nomatch q)⟩,II s _ _ h2 (fun _ q=>nomatch q),⟨as,s _ _ h3 (fun _ q=>nomatch q),Paired.mapP h4 fun a z q=>?_⟩,II s _ _ h5 (fun _ q=>nomatch q)⟩
 obtain⟨dx,ar,am,h1,h2,h3⟩:=q
 exact⟨dx,ar,am,II s _ _ h1 (fun _ q=>nomatch q),II s _ _ h2 (fun _ q=>nomatch q),II s _ _ h3 (fun _ q=>nomatch q)⟩
structure EntC (K:AB) (CE:Addr):Prop where
 cl:Cls K CE
 row:NoAttr K CE "row"
 meaning:NoAttr K CE "meaning"
structure BookC (K:AB) (CB:Addr):Prop where
 cl:Cls K CB
 name:NoAttr K CB "name"
 entries:NoAttr K CB "entries"
 fault:NoAttr K CB "fault"
abbrev Te:Stmt:=EU UL 0
def J1:List V→Option (List (Str×V))
 | [.ref r,.ref m]=>some (ef r m)
 | _=>none
theorem dA:Ab ["self","row","meaning"] ["self","row","meaning"] (AK Te):=⟨rfl,rfl,rfl,by decide +kernel,rfl,by decide +kernel,by decide +kernel⟩
section
variable {P:Program}{w:World}{K:AB}{mg:Str→Option Value}{base:Heap}{CB CE CL CK:Addr}
theorem ok_entI {f:Addr}{fd:FuncData} (F:Fun K "__init__" "Entry.__init__" Te f fd) (T:EntC K CE):FnOk P w K mg base CX0 1 f fd ["self","row","meaning"] (Ez CE J1):=by
 have inv:∀us l,J1 us=some l→∃r m,us=[.ref r,.ref m]∧l=ef r m:=by
  intro us l h
  unfold J1 at h
  split at h
  ·cases h;exact⟨_,_,rfl,rfl⟩
  ·cases h
 refine F.ok dA (fun vs H Q E h=>?_) (fun cdv A outer s H vs Q E hr h=>?_)
 ·obtain⟨p,dx,us,l,rfl,hf,_⟩:=h
  obtain⟨_,_,rfl,_⟩:=inv _ _ hf
  rfl
 ·obtain⟨p,dx,us,l,rfl,hf,hp,k⟩:=h
  obtain⟨r,m,rfl,rfl⟩:=inv _ _ hf
  refine⟨_,AI (Bj (pv 0) (pv 1) rfl) (AJ (Bj (pv 0) (pv 2) rfl)),?_⟩
  refine⟨_,rfl,_,rfl,p,CE,dx,[],rfl,hp,T.cl,T.row,(by show 0 < 1000;decide),?_⟩
  refine⟨_,rfl,_,rfl,p,CE,dx,_,rfl,AH,T.cl,T.meaning,(by show 1 < 1000;decide),?_⟩
  rw[GL]
  exact k _ AH fun b o e hb=>by rw[AG hb];exact e
end
abbrev Ta:Stmt:=EU UK 0
def VO (CB:Addr):Sp:=fun vs H Q _=>∃(a dx:Addr),vs=[.ref a]∧H a=some (.ins CB dx [])∧
 ∀(H':Hp) (q:BA),H' a=some (.ins CB dx (bfB q.bn q.be q.bf))→H' q.bn=some (.lst [])→H' q.be=some (.lst [])→H' q.bf=some (.lst [])→q.bn≠q.be→q.bf≠q.be→(∀b o,H b=some o→b≠a→H' b=some o)→(∀x∈[q.bn,q.be,q.bf],H x=none)→Q .non H'
theorem c8:Ab ["self"] ["self"] (AK Ta):=⟨rfl,rfl,rfl,by decide +kernel,rfl,by decide +kernel,by decide +kernel⟩
section
variable {P:Program}{w:World}{K:AB}{mg:Str→Option Value}{base:Heap}{CB CE CL CK:Addr}
theorem ok_bookI {f:Addr}{fd:FuncData} (F:Fun K "__init__" "Book.__init__" Ta f fd) (T:BookC K CB):FnOk P w K mg base CX0 1 f fd ["self"] (VO CB):=by
 refine F.ok c8 (fun vs H Q E h=>?_) (fun cdv A outer s H vs Q E hr h=>?_)
 ·obtain⟨a,dx,rfl,_⟩:=h
  rfl
 ·obtain⟨a,dx,rfl,ha,k⟩:=h
  refine⟨_,AI (Bj (pv 0) (A5 AD) rfl) (AI (Bj (pv 0) (A5 AD) rfl) (AJ (Bj (pv 0) (A5 AD) rfl))),?_⟩
  have step:∀{H1:Hp} {fs:List (Str×V)} {q:Addr} {o:HO} {fs':List (Str×V)},H1 a=some (.ins CB dx fs)→H1 q=none→a≠q∧(upd (upd H1 q o) a (.ins CB dx fs')) a=some (.ins CB dx fs')∧(upd (upd H1 q o) a (.ins CB dx fs')) q=some o∧
    (upd H1 q o) a=some (.ins CB dx fs)∧(∀b u,H1 b=some u→b≠a→(upd (upd H1 q o) a (.ins CB dx fs')) b=some u):=fun {H1 fs q o fs'} h1 h2=>by
   have ne:a≠q:=Ai h1 h2
   refine⟨ne,AH,by rw[AG (Af ne),AH],by rw[AG ne];exact h1,fun b u e n=>?_⟩
   rw[AG n,AG (Ai e h2)]
   exact e
  refine⟨Au _,fun q1 n1=>?_⟩
  obtain⟨ne1,a1,b1,i1,k1⟩:=step (fs':=[("name",.ref q1)]) (o:=.lst []) ha n1
  refine⟨_,rfl,a,CB,dx,_,rfl,i1,T.cl,T.name,(by show 0 < 1000;decide),?_⟩
  refine⟨Au _,fun q2 n2=>?_⟩
  obtain⟨ne2,a2,b2,i2,k2⟩:=step (fs':=[("name",.ref q1),("entries",.ref q2)]) (o:=.lst []) a1 n2
  refine⟨_,rfl,a,CB,dx,_,rfl,i2,T.cl,T.entries,(by show 1 < 1000;decide),?_⟩
  refine⟨Au _,fun q3 n3=>?_⟩
  obtain⟨ne3,a3,b3,i3,k3⟩:=step (fs':=bfB q1 q2 q3) (o:=.lst []) a2 n3
  refine⟨_,rfl,a,CB,dx,_,rfl,i3,T.cl,T.fault,(by show 2 < 1000;decide),?_⟩
  have c2:=k2 _ _ b1 (Af ne1)
  have c3:=k3 _ _ c2 (Af ne1)
  have d3:=k3 _ _ b2 (Af ne2)
  have fr:∀{H1:Hp} {q:Addr},H1 q=none→(∀b u,H b=some u→b≠a→H1 b=some u)→a≠q→H q=none:=fun {H1 q} n k ne=>by
   cases z:H q with
   | none=>rfl
   | some u=>rw[k q u z (Af ne)] at n;cases n
  refine k _ ⟨q1,q2,q3⟩ a3 c3 d3 b3 (Ai b1 n2) (Af (Ai b2 n3)) (fun b u e n=>k3 _ _ (k2 _ _ (k1 _ _ e n) n) n) ?_
  intro x hx
  simp only[AY,Eb,or_false] at hx
  rcases hx with rfl | rfl | rfl
  ·exact n1
  ·exact fr n2 (fun b u e n=>k1 _ _ e n) ne2
  ·exact fr n3 (fun b u e n=>k2 _ _ (k1 _ _ e n) n) ne3
end
abbrev T4:Stmt:=U5
def Du (L:AU) (past:List BQ) (r:List Nat):Nat:=if L.canShow r=false then 4 else if (past.getLast?.any fun (e:BQ)=>!GS e.row r)=true then 5 else if Flags.ENTRIES≤past.length then 6 else 0
def Vl (K:AB) (CL CK CB CE:Addr):Sp:=fun vs H Q _=>∃(a b c:Addr) (p:LA) (q:BA) (L:AU) (fl nm bfl:List Int) (past:List BQ) (r:List Nat),vs=[.ref a,.ref b,.ref c]∧LockAt CL CK H a p (zs L.name) (L.kinds.map zk) fl∧Wf L.kinds∧BookAt CB CE H b q nm past bfl∧
 SqL K H c ((zn r).map V.int)∧r.length < 1000∧(∀s∈r,L.isSignAt s=true)∧r≠[]∧past.length≤2048∧Pur H Q (.int (Du L past r:Nat))
theorem dP:Ab ["locker","book","row"] ["locker","book","row"] (AK T4):=⟨rfl,rfl,rfl,by decide +kernel,rfl,by decide +kernel,by decide +kernel⟩
section
variable {P:Program}{w:World}{K:AB}{mg:Str→Option Value}{base:Heap}{CB CE CL CK:Addr}
theorem ok_rowF {f:Addr}{fd:FuncData} (F:Fun K "row_fault" "row_fault" T4 f fd) (B:Blt mg) (TB:BookC K CB) (TE:EntC K CE) (c1:Cst mg "NOT_SHOWN" (.int 4)) (c2:Cst mg "NOT_BEHIND" (.int 5)) (c3:Cst mg "TOO_MANY_ENTRIES" (.int 6)) (c4:Cst mg "MOST_ENTRIES" (.int 2048))
  (g1:Has P w K mg "can_show" 3 ["locker","signs"] (Vo K CL CK)) (g2:Has P w K mg "is_row_behind" 2 ["row","before"] (VN K)):FnOk P w K mg base CX0 4 f fd ["locker","book","row"] (Vl K CL CK CB CE):=by
 refine F.ok dP (fun vs H Q E h=>?_) (fun cdv A outer s H vs Q E hr h=>?_)
 ·obtain⟨a,b,c,p,q,L,fl,nm,bfl,past,r,rfl,_⟩:=h
  rfl
 ·obtain⟨a,b,c,p,q,L,fl,nm,bfl,past,r,rfl,hL,hW,hB,hc,hlr,hin,hne,hpl,k⟩:=h
  have hr1:Room 1 _:=hr.mono (by decide)
  have hr2:Room 2 _:=hr.mono (by decide)
  unfold Du at k
  refine⟨_,AI (Aw (Ex (Dt (AN g1 hr (by rfl) (AA (pv 0) (AA (pv 2) AD))))) (AJ (AM (AW c1 rfl))) Ay)
   (AI (Aw (PW.pt (EX (Ag HA (A4 Bx (by rfl) B.len Bq (AA (An (pv 1) rfl) AD)) AS (Ac _))
     (FW (Ex (Dt (AN g2 hr2 (by rfl) (AA (pv 2) (AA (An (CC B1 (An (pv 1) rfl) (HE HQ AS) (fun _ _=>rfl)) rfl) AD)))))))) (AJ (AM (AW c2 rfl))) Ay)
   (AI (Aw (Ag Ba (A4 Bx (by rfl) B.len Bq (AA (An (pv 1) rfl) AD)) (AW c4 rfl) (Ac _)) (AJ (AM (AW c3 rfl))) Ay)
   (AJ (AM AS)))),?_⟩
  refine⟨_,rfl,_,rfl,a,c,p,L,fl,r,rfl,hL,hW,hc,hlr,hin,hne,fun H1 s1=>⟨_,rfl,?_⟩⟩
  cases h1:L.canShow r with
  | false =>
   rw[if_pos h1] at k
   exact bT rfl (k H1 s1)
  | true =>
   rw[if_neg (by rw[h1];decide)] at k
   refine bF rfl ?_
   have hB1:=hB.mono s1
   obtain⟨dx,ho⟩:=hB1.ob
   obtain⟨as,he,hp⟩:=hB1.ents
   have hl:=Bb hp
   refine⟨_,rfl,b,CB,dx,_,_,rfl,ho,TB.cl,TB.entries,Hx,q.be,_,rfl,.inl (SqL.of he),_,_,rfl,rfl,_,rfl,?_⟩
   have last:∀(H2:Hp),Same H1 H2→(past.getLast?.any fun (e:BQ)=>!GS e.row r)=false→OH (OF (OI (tOp rEq (tCB (fun xs H_1 Q=>∃p ys,xs=[V.ref p]∧(SqL K H_1 p ys∨SqT K H_1 p ys)∧Q (V.int ys.length) H_1) (C2 (Kx K (CV 1) "entries") Dy)) (tC (V.int 2048)))) (HN (tC (V.int 6))) OG) (HN (tC (V.int 0)))
     { nx:=fun x H'=>Q V.non H',rt:=Q } (L2.start ["locker","book","row"] [V.ref a,V.ref b,V.ref c]) H2:=fun H2 s2 hn=>by
    rw[hn,if_neg Aj] at k
    refine⟨_,rfl,b,CB,dx,_,_,rfl,s2 _ _ ho,TB.cl,TB.entries,Hx,q.be,_,rfl,.inl (SqL.of (s2 _ _ he)),rfl,_,rfl,?_⟩
    by_cases h6:Flags.ENTRIES≤past.length
    ·rw[if_pos h6] at k
     have h6:2048≤past.length:=h6
     exact bT (decide_eq_true (congrArg V.int (by rw[AF,hl];omega))) (k H2 (s1.trans s2))
    ·rw[if_neg h6] at k
     have h6:¬2048≤past.length:=h6
     exact bF (decide_eq_false (BV (by rw[AF,hl];omega))) (k H2 (s1.trans s2))
   cases hlast:past.getLast? with
   | none =>
    have:past=[]:=Ow.mp hlast
    subst this
    have:as=[]:=by cases as with | nil=>rfl | cons _ _=>simp at hl
    subst this
    exact bF rfl (bF rfl (last H1 (Same.refl H1) rfl))
   | some e =>
    obtain⟨r',e'⟩:=M3 hlast
    subst e'
    rw[BL,Cs] at hl
    obtain⟨asR,aQ,rfl⟩:∃asR aQ,as=asR++[aQ]:=by
     have ne:as≠[]:=by intro q;rw[q] at hl;simp at hl
     exact⟨as.dropLast,as.getLast ne,(LB ne).symm⟩
    have hlR:asR.length=r'.length:=by rw[BL,Cs] at hl;omega
    obtain⟨aq',e1,dq,ar,am,hq,har,ham⟩:=Cb hp (i:=r'.length) (b:=e) (by simp)
    rw[JA (by omega),hlR,LV] at e1
    cases e1
    refine bT (decide_eq_true (by rw[AF,BL,Cs];omega)) ?_
    refine⟨_,rfl,_,rfl,b,CB,dx,_,_,rfl,ho,TB.cl,TB.entries,Hx,_,rfl,q.be,_,_,_,rfl,rfl,SqL.of he,by rw[BG];exact ML _ _,_,CE,dq,_,_,rfl,hq,TE.cl,TE.row,Qu,c,ar,zn r,zn e.row,rfl,s1.seq hc,SqL.of har,fun H2 s2=>⟨_,rfl,?_⟩⟩
    rw[YS]
    have elast:((r'++[e]).getLast?.any fun (e:BQ)=>!GS e.row r)=!GS e.row r:=by rw[hlast];rfl
    cases hbf:GS e.row r with
    | false =>
     rw[elast,hbf,if_pos (show(!false)=true from rfl)] at k
     exact bT rfl (k H2 (s1.trans s2))
    | true=>exact bF rfl (last H2 s2 (by rw[elast,hbf];rfl))
end
end Fb
end
section
set_option maxRecDepth 100000
set_option maxHeartbeats 4000000
namespace Fb
open PySem PySem.Spec PyProof.Rows L2
theorem WE (n:Aq):∀(ks:List AR) (i:Nat),Az (CD i (ks.map zk)) (BB (zs n))=(ks.findIdx? fun k=>k.role==.sign n).map fun j=>V.int ((i+j:Nat):Int)
 | [],i=>rfl
 | k::ks,i=>by
  have ih:=WE n ks (i+1)
  rw[Am,HJ,List.findIdx?_cons]
  have el:(zk k).lab=zl k.role:=rfl
  rw[el]
  have step:∀r:Option Nat,((r.map fun j=>j+1).map fun j=>V.int ((i+j:Nat):Int))=r.map fun j=>V.int ((i+1+j:Nat):Int):=fun r=>by
   cases r with
   | none=>rfl
   | some j=>show some (V.int ((i+(j+1):Nat):Int))=some (V.int ((i+1+j:Nat):Int));rw[show i+(j+1)=i+1+j by omega]
  cases hr:k.role with
  | sign m =>
   by_cases e:m=n
   ·subst e
    rw[show((GR m==GR m)=true) from beq_self_eq_true _,if_pos rfl]
    show Az ((BB (zs m),V.int ((i:Nat):Int))::CD (i+1) (ks.map zk)) (BB (zs m))=_
    rw[C4 rfl]
    rfl
   ·have ne:(GR m==GR n)=false:=beq_eq_false_iff_ne.mpr fun q=>e (by injection q)
    rw[ne,if_neg Aj,step,← ih]
    show Az ((BB (zs m),V.int ((i:Nat):Int))::CD (i+1) (ks.map zk)) (BB (zs n))=_
    exact C3 (p:=(BB (zs m),V.int ((i:Nat):Int))) fun q=>e (EY (Mw q))
  | same m =>
   have ne:(GQ.same m==GR n)=false:=beq_eq_false_iff_ne.mpr fun q=>nomatch q
   rw[ne,if_neg Aj,step,← ih]
   rfl
  | answer =>
   have ne:(GQ.answer==GR n)=false:=beq_eq_false_iff_ne.mpr fun q=>nomatch q
   rw[ne,if_neg Aj,step,← ih]
   rfl
theorem fT (L:AU) (n:Aq):Az (CD 0 (L.kinds.map zk)) (BB (zs n))=(L.find n).map fun (j:Nat)=>V.int (j:Int):=by
 rw[WE]
 unfold K6
 cases L.kinds.findIdx? fun k=>k.role==.sign n with
 | none=>rfl
 | some j=>show some (V.int ((0+j:Nat):Int))=some (V.int (j:Int));rw[Ed]
theorem QP:bootBuiltins "tuple"=some (.type "tuple"):=by decide +kernel
theorem QR {X:Cx} (K:AB) (hK:X.K=K):EO X (.type "tuple") (fun xs H Q=>∃p ys,xs=[V.ref p]∧SqL K H p ys∧∀l,H l=none→Q (.ref l) (upd H l (.tup ys))):=by
 subst hK
 intro pins s σ H xs us Q I r h
 obtain⟨p,ys,e,h1,h2⟩:=h
 exact QS pins s σ H xs us Q I r ⟨p,ys,e,.inl ⟨h1,h2⟩⟩
theorem TJ {L:AU}:∀{ns:List Aq}{r:List Nat},L.rowIn ns=some r→(ns.all fun n=>(L.find n).isSome)=true∧r=ns.map (fun n=>(L.find n).getD 0)∧∀s∈r,s < L.kinds.length
 | [],r,h=>by
  simp[E4] at h
  subst h
  exact⟨rfl,rfl,fun s hs=>by cases hs⟩
 | n::ns,r,h=>by
  unfold E4 at h
  rw[GZ] at h
  rw[HY,Am]
  cases hf:L.find n with
  | none=>rw[hf] at h;cases h
  | some i =>
   rw[hf] at h
   cases hr:Hb L.find ns with
   | none=>rw[hr] at h;cases h
   | some r' =>
    rw[hr] at h
    have h:some (i::r')=some r:=h
    cases h
    obtain⟨h1,h2,h3⟩:=TJ (L:=L) (ns:=ns) (r:=r') hr
    refine⟨by rw[h1];rfl,by rw[← h2];rfl,fun s hs=>?_⟩
    rcases AY.mp hs with e | hs
    ·subst e
     unfold K6 at hf
     exact(Om.mp hf).1
    ·exact h3 s hs
theorem TF {L:AU}:∀{ns:List Aq}{r:List Nat},L.rowIn ns=some r→∀s∈r,L.isSignAt s=true
 | [],r,h,s,hs=>by
  simp[E4] at h
  subst h
  cases hs
 | n::ns,r,h,s,hs=>by
  unfold E4 at h
  rw[GZ] at h
  cases hf:L.find n with
  | none=>rw[hf] at h;cases h
  | some i =>
   rw[hf] at h
   cases hr:Hb L.find ns with
   | none=>rw[hr] at h;cases h
   | some r' =>
    rw[hr] at h
    have h:some (i::r')=some r:=h
    cases h
    rcases AY.mp hs with e | hs
    ·subst e
     unfold K6 at hf
     obtain⟨h1,h2,_⟩:=Om.mp hf
     unfold WT
     rw[As h1]
     show D1 _=true
     unfold D1
     rw[eq_of_beq h2]
    ·exact TF (L:=L) (ns:=ns) (r:=r') hr s hs
theorem ZF (L:AU) (past:List BQ) (names:List Aq) {r:List Nat} (h:L.rowIn names=some r):L.entryRow past names=if Du L past r=0 then .ok r else .error (Du L past r):=by
 unfold K5 Du
 rw[h]
 dsimp only
 split
 ·rfl
 ·split
  ·rfl
  ·split
   ·rfl
   ·rfl
theorem G4 {z:Addr}{H:Hp}{o:HO}:hid [z] (upd H z o)=hid [z] H:=by
 funext b
 by_cases m:b∈[z]
 ·rw[Dj m,Dj m]
 ·rw[Ax m,Ax m,AG fun q=>m (by simp[q])]
theorem cn {L:AU}{past:List BQ}{r:List Nat} (h:Du L past r=0):past.length < 2048:=by
 unfold Du at h
 split at h
 ·cases h
 ·split at h
  ·cases h
  ·split at h
   ·cases h
   ·rename_i q
    have q:¬2048≤past.length:=q
    omega
abbrev Nt:Stmt:=U8
def DU (L:AU) (n:Aq):V:=match L.find n with
 | some j=>.int (j:Nat)
 | none=>.non
def Ib (L:AU) (b:Aq):List V:=(A7 46 b).map (DU L)
theorem dh (L:AU) (n:Aq):(Az (CD 0 (L.kinds.map zk)) (BB (zs n))).getD .non=DU L n:=by
 rw[fT]
 unfold DU
 cases L.find n <;> rfl
theorem dj (L:AU) (b:Aq):(Ib L b).all Cq=true:=by
 unfold Ib
 rw[GV,C7]
 intro n _
 show Cq (DU L n)=true
 unfold DU
 cases L.find n <;> rfl
theorem VI {L:AU}:∀{ns:List Aq},inV .non (ns.map (DU L))=(L.rowIn ns).isNone
 | []=>rfl
 | n::ns=>by
  have ih:=VI (L:=L) (ns:=ns)
  show(eqV (DU L n) .non || inV .non (ns.map (DU L)))=_
  rw[ih]
  unfold E4 DU
  rw[GZ]
  cases hf:L.find n with
  | none=>rfl
  | some i =>
   show(false || (Hb L.find ns).isNone)=_
   rw[HU]
   cases hr:Hb L.find ns with
   | none=>rfl
   | some r=>rfl
theorem VJ {L:AU}:∀{ns:List Aq}{r:List Nat},L.rowIn ns=some r→ns.map (DU L)=(zn r).map V.int
 | [],r,h=>by
  simp[E4] at h
  subst h
  rfl
 | n::ns,r,h=>by
  unfold E4 at h
  rw[GZ] at h
  cases hf:L.find n with
  | none=>rw[hf] at h;cases h
  | some i =>
   rw[hf] at h
   cases hr:Hb L.find ns with
   | none=>rw[hr] at h;cases h
   | some r' =>
    rw[hr] at h
    have h:some (i::r')=some r:=h
    cases h
    have e:DU L n=V.int (i:Nat):=by unfold DU;rw[hf]
    rw[Am,VJ (L:=L) (ns:=ns) (r:=r') hr,e]
    rfl
def Vp (K:AB) (CL CK:Addr):Sp:=fun vs H Q _=>∃(a c:Addr) (p:LA) (L:AU) (fl:List Int) (b:Aq),vs=[.ref a,.ref c]∧LockAt CL CK H a p (zs L.name) (L.kinds.map zk) fl∧SqL K H c ((zs b).map V.int)∧b.length < 100000∧
 ∀(H':Hp) (x:Addr),Same H H'→H x=none→H' x=some (.lst (Ib L b))→Q (.ref x) H'
theorem scSigns:Ab ["locker","word","name"] ["locker","word"] (AK Nt):=⟨rfl,rfl,rfl,by decide +kernel,rfl,by decide +kernel,by decide +kernel⟩
section
variable {P:Program}{w:World}{K:AB}{mg:Str→Option Value}{base:Heap}{CB CE CL CK:Addr}
theorem ok_signs {f:Addr}{fd:FuncData} (F:Fun K "signs_told" "signs_told" Nt f fd) (B:Blt mg) (TL:LockC K CL) (c1:Cst mg "FULL_STOP" (.int 46)) (g1:Has P w K mg "split_at" 1 ["mark","values"] (E1 K)):FnOk P w K mg base CX0 2 f fd ["locker","word"] (Vp K CL CK):=by
 refine F.ok scSigns (fun vs H Q E h=>?_) (fun cdv A outer s H vs Q E hr h=>?_)
 ·obtain⟨a,c,p,L,fl,b,rfl,_⟩:=h
  rfl
 ·obtain⟨a,c,p,L,fl,b,rfl,hL,hS,hlen,k⟩:=h
  have hu:=F9 hr
  have zl:(zs b).length < 100000:=by rw[A6];exact hlen
  refine⟨_,AJ (AM (DA (own:=[("name",2)]) rfl scSigns.nd (Cy (AN g1 hr (by rfl) (AA (AW c1 rfl) (AA (pv 1) AD)))) (Cu (N:=["locker","word","name"]) (sc:=AK Nt) (by decide +kernel))
    (fun s H C cl fp=>BJ (i:=2) scSigns.nd rfl (AQ rfl)) (fun s H C cl fp=>DC) (fun s H C cl fp=>bV hu (FQ K rfl (pv 0) rfl) (NY (QR K rfl) (by rfl) B.tuple QP (AA (pv 2) AD)) ⟨rfl,rfl,rfl,rfl⟩))),?_⟩
  refine⟨_,rfl,c,46,zs b,rfl,hS,zl,fun H2 pn an s2 npn nan hpn hpan=>?_⟩
  rw[Jn] at hpan
  have hal:=Bb hpan
  rw[AF] at hal
  obtain⟨hb46,_⟩:=SR b
  refine⟨pn,rfl,⟨_,SqL.of hpn⟩,fun D hD=>?_⟩
  have L2:=hL.mono s2
  obtain⟨dxL,hoL⟩:=L2.ob
  unfold Ib at k
  generalize A7 46 b=names at hpan hal hb46 k
  refine G6 (n:=(an.map V.ref).length) (tt:=DH) (fun i H'=>Same H2 H'∧H' D=some (.lst ((names.take i).map (DU L)))) ⟨(Same.refl H2).new hD,AH⟩
   (fun i H' hi p=>EE (SqL.of (p.1 _ _ hpn)) hi) (fun H' p=>EF (SqL.of (p.1 _ _ hpn))) ?_ ?_
  ·rintro i y H3 H3' hi ⟨sH,hDH⟩ ⟨rfl,hy⟩
   have hy:=hy _ (SqL.of (sH _ _ hpn))
   rw[AF] at hi
   obtain⟨nm',hnm⟩:∃nm',names[i]?=some nm':=⟨_,As (by omega)⟩
   obtain⟨cc,hc,hcc⟩:=Cb hpan (i:=i) (b:=zs nm') (by rw[AX,hnm];rfl)
   rw[AX,hc] at hy
   have ey:V.ref cc=y:=AV hy
   subst ey
   refine⟨rfl,?_⟩
   simp only[DH,if_true]
   refine⟨_,rfl,a,CL,dxL,_,_,rfl,sH _ _ hoL,TL.cl,TL.signs,IM,p.sg,rfl,.inr ⟨_,Rd.of (sH _ _ L2.sg)⟩,_,rfl,cc,_,rfl,SqL.of (sH _ _ hcc),fun tp ntp=>?_⟩
   have nDtp:D≠tp:=Ai hDH ntp
   have s3:Same H3' (upd H3' tp (.tup ((zs nm').map V.int))):=(Same.refl _).new ntp
   have ht:upd H3' tp (.tup ((zs nm').map V.int)) tp=some (.tup ((BB (zs nm')).map kV)):=by rw[Mv];exact AH
   refine⟨_,DGet.t (k:=BB (zs nm')) (s3 _ _ (sH _ _ L2.sg)) ht,?_⟩
   rw[dh]
   refine⟨_,s3 _ _ hDH,BN (by rw[AF,Cn];omega),(sH.trans s3).wr hD,?_⟩
   rw[AH,OK hnm,BG]
   rfl
  ·rintro H3 ⟨s3,hD3⟩
   rw[AF,Ec (show names.length≤an.length by omega)] at hD3
   exact k H3 D (s2.trans s3) (s2.free hD) hD3
end
abbrev UD:Stmt:=VB
def Vr (K:AB) (CL CK CB CE:Addr):Sp:=fun vs H Q _=>∃(a b la:Addr) (p:LA) (q:BA) (L:AU) (fl nm bfl:List Int) (past:List BQ) (ln:Aq),vs=[.ref a,.ref b,.ref la]∧LockAt CL CK H a p (zs L.name) (L.kinds.map zk) fl∧Wf L.kinds∧BookAt CB CE H b q nm past bfl∧
 past.length≤2048∧SqL K H la ((zs ln).map V.int)∧ln.length < 100000∧
 (∀k,Ci L past ln=.error k→∀H',Same H H'→Q (.int k) H')∧
 (∀past',Ci L past ln=.ok past'→∀H',BookAt CB CE H' b q nm past' bfl→past'.length≤2048→KeepBut [q.be] H H'→Q (.int 0) H')
theorem scTakeE:Ab ["locker","book","line","row","fault"] ["locker","book","line"] (AK UD):=⟨rfl,rfl,rfl,by decide +kernel,rfl,by decide +kernel,by decide +kernel⟩
section
variable {P:Program}{w:World}{K:AB}{mg:Str→Option Value}{base:Heap}{CB CE CL CK:Addr}
theorem ok_takeE {f:Addr}{fd:FuncData} (F:Fun K "take_entry" "take_entry" UD f fd) (TB:BookC K CB) (c1:Cst mg "NO_SUCH_LINE" (.int 1)) (c2:Cst mg "NO_SIGN" (.int 3)) (g1:Has P w K mg "is_entry_line" 4 ["line"] (VR K)) (g2:Has P w K mg "row_word" 2 ["line"] (Ku K)) (g6:Has P w K mg "signs_told" 2 ["locker","word"] (Vp K CL CK))
  (g3:Has P w K mg "row_fault" 4 ["locker","book","row"] (Vl K CL CK CB CE)) (g4:FE P w K mg "Entry" CE 1 ["self","row","meaning"] (Ez CE J1)) (g5:Has P w K mg "meaning_told" 3 ["line"] (N7 K)):FnOk P w K mg base CX0 5 f fd ["locker","book","line"] (Vr K CL CK CB CE):=by
 refine F.ok scTakeE (fun vs H Q E h=>?_) (fun cdv A outer s H vs Q E hr h=>?_)
 ·obtain⟨a,b,la,p,q,L,fl,nm,bfl,past,ln,rfl,_⟩:=h
  rfl
 ·obtain⟨a,b,la,p,q,L,fl,nm,bfl,past,ln,rfl,hL,hW,hB,hpl,hS,hlen,ke,ko⟩:=h
  have hr2:Room 2 _:=hr.mono (by decide)
  have hr3:Room 3 _:=hr.mono (by decide)
  have hu:=F9 hr
  have zl:(zs ln).length < 100000:=by rw[A6];exact hlen
  refine⟨_,AI (Aw (Ex (Dt (AN g1 hr (by rfl) (AA (pv 2) AD)))) (AJ (AM (AW c1 rfl))) Ay)
   (AI (Ap (i:=3) scTakeE.nd rfl (AQ rfl) (AN g6 hr2 (by rfl) (AA (pv 0) (AA (AN g2 hr2 (by rfl) (AA (pv 2) AD)) AD))))
   (AI (Aw (Ag Sg Dn (pv 3) (by rfl)) (AJ (AM (AW c2 rfl))) Ay)
   (AI (Ap (i:=4) scTakeE.nd rfl (AQ rfl) (AN g3 hr (by rfl) (AA (pv 0) (AA (pv 1) (AA (pv 3) AD)))))
   (AI (Aw (Ag Ba (pv 4) AS (Ac _)) (AJ (Dr (DS Df E8 E9 Es (An (pv 1) rfl) (AA (HD g4 hr2 (by rfl) (AA (pv 3) (AA (AN g5 hr3 (by rfl) (AA (pv 2) AD)) AD))) AD)))) Ay)
   (AJ (AM (pv 4))))))),?_⟩
  refine⟨_,rfl,la,ln,rfl,hS,hlen,fun H1 s1=>⟨_,rfl,?_⟩⟩
  have hent:=Qw ln
  cases hok:ET ln with
  | false =>
   rw[hok,if_neg Aj] at hent
   exact bT rfl (ke 1 (by unfold Ci;rw[hent]) H1 s1)
  | true =>
  rw[hok,if_pos rfl] at hent
  refine bF rfl ?_
  have hn8:(A7 46 (Bn ln)).length≤8:=by
   unfold ET at hok
   rw[BC,BC] at hok
   exact of_decide_eq_true hok.1.1
  refine⟨_,rfl,_,rfl,la,zs ln,rfl,s1.seq hS,zl,fun H2 pw s2 npw hpw=>?_⟩
  rw[J5] at hpw
  have:=RG ln
  have s12:=s1.trans s2
  refine⟨a,pw,p,L,fl,Bn ln,rfl,hL.mono s12,SqL.of hpw,by omega,fun H4 D3 s4 hD3 hd4=>?_⟩
  have s14:=s12.trans s4
  have hsf:=dj L (Bn ln)
  unfold Ib at hd4 hsf
  generalize hnames:A7 46 (Bn ln)=names at hent hn8 hd4 hsf
  refine⟨_,rfl,D3,_,rfl,.inl (SqL.of hd4),rfl,hsf,_,rfl,?_⟩
  rw[if_neg Aj,VI]
  cases hrow:L.rowIn names with
  | none =>
   refine bT rfl ?_
   refine ke 3 ?_ H4 s14
   unfold Ci
   rw[hent]
   dsimp only
   unfold K5
   rw[hrow]
  | some r =>
   obtain⟨ra,rm,rlt⟩:=TJ hrow
   have hrl:r.length=names.length:=by rw[rm,AF]
   refine bF rfl ?_
   rw[VJ hrow] at hd4
   refine⟨_,rfl,_,rfl,_,rfl,a,b,D3,p,q,L,fl,nm,bfl,past,r,rfl,hL.mono s14,hW,hB.mono s14,SqL.of hd4,by omega,TF hrow,(fun z=>Ek 46 (Bn ln) (by rw[hnames];rw[z] at hrl;exact JB.mp hrl.symm)),hpl,fun H6 s6=>?_⟩
   have s16:=s14.trans s6
   have hrow2:=ZF L past names hrow
   have hstep:Ci L past ln=if Du L past r=0 then .ok (past++[⟨r,DF ln⟩]) else .error (Du L past r):=by
    unfold Ci
    rw[hent]
    dsimp only
    rw[hrow2]
    by_cases z:Du L past r=0
    ·rw[if_pos z,if_pos z]
    ·rw[if_neg z,if_neg z]
   refine⟨_,rfl,rfl,_,rfl,?_⟩
   by_cases h0:Du L past r=0
   ·rw[if_pos h0] at hstep
    refine bT (decide_eq_true (by rw[h0];rfl)) ?_
    have B6:=hB.mono s16
    obtain⟨dxB,hoB⟩:=B6.ob
    obtain⟨as,hbe,hpe⟩:=B6.es
    have hael:=Bb hpe
    have nD3:D3≠q.be:=fun z=>by
     obtain⟨as4,h4,_⟩:=(hB.mono s12).es
     rw[z,h4] at hD3;cases hD3
    refine⟨_,rfl,b,CB,dxB,_,_,rfl,hoB,TB.cl,TB.entries,Hx,.inl ⟨rfl,_,SqL.of hbe⟩,?_⟩
    refine⟨_,rfl,_,rfl,la,zs ln,rfl,s16.seq hS,zl,fun H7 pm s7 npm hpm=>?_⟩
    rw[SK] at hpm
    have npmq:pm≠q.be:=fun z=>by rw[z,hbe] at npm;cases npm
    intro x dx nx nd0 ne0
    refine⟨x,dx,[.ref D3,.ref pm],ef D3 pm,rfl,rfl,AH,fun H8 hx kp8=>⟨rfl,?_⟩⟩
    have s8:Same H7 H8:=Same.made nx nd0 kp8
    have s68:=s7.trans s8
    have nxq:x≠q.be:=fun z=>by rw[z,s7 _ _ hbe] at nx;cases nx
    have hbe8:=s68 _ _ hbe
    refine⟨q.be,_,_,rfl,rfl,hbe8,BN (by rw[AF];omega),?_⟩
    have h0':(0:Int)=((Du L past r:Nat):Int):=by rw[h0];rfl
    refine⟨_,rfl,?_⟩
    rw[← h0']
    have nbq:b≠q.be:=BE hoB hbe (by intro z;cases z)
    have B8:=B6.mono s68
    refine ko _ hstep _ ⟨⟨dxB,by rw[AG nbq];exact s68 _ _ hoB⟩,by rw[G4];exact B8.nm,⟨as++[x],by rw[AH,BG];rfl,?_⟩,by rw[G4];exact B8.bf⟩ (by rw[BL];have:=cn h0;simp;omega) ?_
    ·rw[G4]
     refine Et (Paired.mapP hpe fun y e qq=>qq.mono (F8 s68)) ⟨dx,D3,pm,?_,?_,?_⟩
     ·rw[Ax (by simpa using nxq)];exact hx
     ·rw[Ax (by simpa using nD3)];exact s68 _ _ (s6 _ _ hd4)
     ·rw[Ax (by simpa using npmq)];exact s8 _ _ hpm
    ·intro y o e n
     rw[AG fun z=>n (by simp[z])]
     exact s68 _ _ (s16 _ _ e)
   ·rw[if_neg h0] at hstep
    refine bF (decide_eq_false (BV (by omega))) ?_
    exact⟨_,rfl,ke _ hstep H6 s16⟩
end
end Fb
end
section
set_option maxRecDepth 100000
set_option maxHeartbeats 4000000
namespace Fb
open PySem PySem.Spec PyProof.Rows L2
theorem Y9:BW "book"=zs (A8 "book"):=by decide +kernel
theorem ZA:BW "for"=zs (A8 "for"):=by decide +kernel
abbrev UC:Stmt:=VC
def QB (q q':BA):Prop:=q'.be=q.be∧q'.bf=q.bf
def Kv (K:AB) (CL CK CB CE:Addr):Sp:=fun vs H Q _=>∃(a b la:Addr) (p:LA) (q:BA) (L:AU) (fl bfl:List Int) (st:BS) (i:Nat) (ln:Aq),vs=[.ref a,.ref b,.int (i:Nat),.ref la]∧LockAt CL CK H a p (zs L.name) (L.kinds.map zk) fl∧Wf L.kinds∧
 BookAt CB CE H b q (zs st.name) st.entries bfl∧st.entries.length≤2048∧SqL K H la ((zs ln).map V.int)∧ln.length < 100000∧
 (∀k,BU L st i ln=.error k→∀H',Same H H'→Q (.int k) H')∧
 (∀st',BU L st i ln=.ok st'→∀H' q',BookAt CB CE H' b q' (zs st'.name) st'.entries bfl→QB q q'→st'.entries.length≤2048→KeepBut [b,q.be] H H'→Q (.int 0) H')
theorem dU:Ab ["locker","book","number","line"] ["locker","book","number","line"] (AK UC):=⟨rfl,rfl,rfl,by decide +kernel,rfl,by decide +kernel,by decide +kernel⟩
section
variable {P:Program}{w:World}{K:AB}{mg:Str→Option Value}{base:Heap}{CB CE CL CK:Addr}
theorem ok_takeB {f:Addr}{fd:FuncData} (F:Fun K "take_line" "take_line" UC f fd) (hne:CB≠CE) (TL:LockC K CL) (TB:BookC K CB) (c1:Cst mg "NO_SUCH_LINE" (.int 1)) (c2:Cst mg "OTHER_LOCKER" (.int 2)) (c3:Cst mg "HEAD_LINES" (.int 2)) (g1:Has P w K mg "is_naming_line" 3 ["line","first"] (N9 K)) (g2:Has P w K mg "named" 2 ["line"] (N8 K))
  (g3:Has P w K mg "take_entry" 5 ["locker","book","line"] (Vr K CL CK CB CE)):FnOk P w K mg base CX0 6 f fd ["locker","book","number","line"] (Kv K CL CK CB CE):=by
 refine F.ok dU (fun vs H Q E h=>?_) (fun cdv A outer s H vs Q E hr h=>?_)
 ·obtain⟨a,b,la,p,q,L,fl,bfl,st,i,ln,rfl,_⟩:=h
  rfl
 ·obtain⟨a,b,la,p,q,L,fl,bfl,st,i,ln,rfl,hL,hW,hB,hpl,hS,hlen,ke,ko⟩:=h
  have hr2:Room 2 _:=hr.mono (by decide)
  have hr3:Room 3 _:=hr.mono (by decide)
  have zl:(zs ln).length < 100000:=by rw[A6];exact hlen
  refine⟨_,AI (Aw (Ag bG (pv 2) (AW c3 rfl) (Ac _)) (AJ (AM (AN g3 hr (by rfl) (AA (pv 0) (AA (pv 1) (AA (pv 3) AD)))))) Ay)
   (AI (Aw (Ex (Dt (AN g1 hr3 (by rfl) (AA (pv 3) (AA (Kb (Ag Ba (pv 2) AS (Ac _)) EJ EJ) AD))))) (AJ (AM (AW c1 rfl))) Ay)
   (AI (Aw (Ag Ba (pv 2) AS (Ac _)) (AJ (Bj (pv 1) (AN g2 hr2 (by rfl) (AA (pv 3) AD)) rfl))
    (AJ (Aw (Ag (IW hr.units) (AN g2 hr2 (by rfl) (AA (pv 3) AD)) (An (pv 0) rfl) (Ac _)) (AJ (AM (AW c2 rfl))) Ay)))
   (AJ (AM AS)))),?_⟩
  refine⟨_,rfl,_,_,rfl,rfl,_,rfl,?_⟩
  by_cases h2:2≤i
  ·have hstep:BU L st i ln=(Ci L st.entries ln).map fun l=>⟨st.name,l⟩:=by
    unfold BU
    rw[if_pos h2]
   refine bT (decide_eq_true (by omega)) ?_
   refine⟨_,rfl,_,rfl,_,rfl,a,b,la,p,q,L,fl,_,bfl,st.entries,ln,rfl,hL,hW,hB,hpl,hS,hlen,fun k hk H' s'=>?_,fun past' hp H' hB' hl' kb=>?_⟩
   ·exact ke k (by rw[hstep,hk];rfl) H' s'
   ·exact ko ⟨st.name,past'⟩ (by rw[hstep,hp];rfl) H' q hB' ⟨rfl,rfl⟩ hl' (kb.mono fun y hy=>Ar _ hy)
  ·refine bF (decide_eq_false (by omega)) ?_
   by_cases h0:i=0
   ·subst h0
    have hstep:BU L st 0 ln=match CF (A8 "book") ln with
      | none=>.error 1
      | some n=>.ok ⟨n,st.entries⟩:=by
     unfold BU
     rw[if_neg (by omega),if_pos rfl]
     try rfl
    refine⟨_,rfl,_,rfl,rfl,_,rfl,bT (decide_eq_true rfl) ?_⟩
    refine⟨la,zs ln,"book",rfl,hS,zl,by decide,fun H1 s1=>⟨_,rfl,?_⟩⟩
    rw[NI,Y9]
    cases hn:CF (A8 "book") ln with
    | none =>
     rw[hn] at hstep
     rw[NJ hn]
     exact bT rfl (ke 1 hstep H1 s1)
    | some n =>
     rw[hn] at hstep
     obtain⟨q1,q2⟩:=NK hn
     rw[q1]
     refine bF rfl ?_
     refine⟨_,rfl,rfl,_,rfl,bT (decide_eq_true rfl) ?_⟩
     refine⟨_,rfl,la,zs ln,zs n,rfl,s1.seq hS,zl,q2,fun H2 z s2 nz hz=>?_⟩
     have s12:=s1.trans s2
     have B2:=hB.mono s12
     obtain⟨dx,ho⟩:=B2.ob
     obtain⟨as,hbe,hpe⟩:=B2.es
     refine⟨_,rfl,b,CB,dx,_,rfl,ho,TB.cl,TB.name,(by show 3 < 1000;decide),?_⟩
     have nzq:z≠q.be:=fun e=>by
      obtain⟨as1,h1,_⟩:=(hB.mono s1).es
      rw[e,h1] at nz;cases nz
     have nb:∀{x:Addr} {o:HO},H2 x=some o→(∀dx fs,o≠.ins CB dx fs)→x≠b:=fun e n=>BE e ho (n _ _)
     have k1:∀x o,H2 x=some o→x≠b→upd H2 b (.ins CB dx (BK "name" (V.ref z) (bfB q.bn q.be q.bf))) x=some o:=fun x o e n=>by rw[AG n];exact e
     have kh:∀x o,hid [q.be] H2 x=some o→(∀dx fs,o≠.ins CB dx fs)→hid [q.be] (upd H2 b (.ins CB dx (BK "name" (V.ref z) (bfB q.bn q.be q.bf)))) x=some o:=fun x o e n=>by
      have nx:x∉[q.be]:=fun m=>by rw[Dj m] at e;cases e
      rw[Ax nx] at e ⊢
      exact k1 x o e (nb e n)
     refine ko ⟨n,st.entries⟩ hstep _ ⟨z,q.be,q.bf⟩ ⟨⟨dx,AH⟩,kh _ _ (by rw[Ax (by simpa using nzq)];exact hz) (fun _ _ e=>nomatch e),⟨as,k1 _ _ hbe (nb hbe fun _ _ e=>nomatch e),Paired.mapP hpe fun y e qq=>?_⟩,kh _ _ B2.bf (fun _ _ e=>nomatch e)⟩ ⟨rfl,rfl⟩ hpl ?_
     ·obtain⟨d2,ar,am,w1,w2,w3⟩:=qq
      exact⟨d2,ar,am,kh _ _ w1 (fun _ _ e=>by cases e;exact hne rfl),kh _ _ w2 (fun _ _ e=>nomatch e),kh _ _ w3 (fun _ _ e=>nomatch e)⟩
     ·intro y o e n
      exact k1 y o (s12 y o e) fun w=>n (by simp[w])
   ·have h1:i=1:=by omega
    subst h1
    have hstep:BU L st 1 ln=match CF (A8 "for") ln with
      | none=>.error 1
      | some o=>if o≠L.name then .error 2 else .ok st:=by
     unfold BU
     rw[if_neg (by omega),if_neg (by omega)]
     try rfl
    refine⟨_,rfl,_,rfl,rfl,_,rfl,bF (decide_eq_false (BV (by decide))) ?_⟩
    refine⟨la,zs ln,"for",rfl,hS,zl,by decide,fun H1 s1=>⟨_,rfl,?_⟩⟩
    rw[NI,ZA]
    cases hn:CF (A8 "for") ln with
    | none =>
     rw[hn] at hstep
     rw[NJ hn]
     exact bT rfl (ke 1 hstep H1 s1)
    | some n =>
     rw[hn] at hstep
     obtain⟨q1,q2⟩:=NK hn
     rw[q1]
     refine bF rfl ?_
     refine⟨_,rfl,rfl,_,rfl,bF (decide_eq_false (BV (by decide))) ?_⟩
     refine⟨_,rfl,la,zs ln,zs n,rfl,s1.seq hS,zl,q2,fun H2 z s2 nz hz=>?_⟩
     have s12:=s1.trans s2
     have L2:=hL.mono s12
     obtain⟨dx,ho⟩:=L2.ob
     refine⟨_,rfl,a,CL,dx,_,_,rfl,ho,TL.cl,TL.name,aB,?_⟩
     refine⟨_,_,BM (SqL.of hz),BM (SqL.of L2.nm),BF _,BF _,?_⟩
     rw[Cw]
     refine⟨_,rfl,?_⟩
     have hstep:BU L st 1 ln=if n≠L.name then .error 2 else .ok st:=hstep
     by_cases hq:n=L.name
     ·rw[if_neg fun w=>w hq] at hstep
      refine bF (by rw[decide_eq_true (by rw[hq])];rfl) ?_
      exact ko st hstep H2 q (hB.mono s12) ⟨rfl,rfl⟩ hpl (KeepBut.of s12)
     ·rw[if_pos hq] at hstep
      refine bT (by rw[decide_eq_false fun w=>hq (EY w)];rfl) ?_
      exact ke 2 hstep H2 s12
end
end Fb
end
section
set_option maxRecDepth 100000
set_option maxHeartbeats 4000000
namespace Fb
open PySem PySem.Spec PyProof.Rows L2
open PySem.W (CodeHd tabObj kla_obj kla_fn envX)
abbrev Km:Stmt:=U2
abbrev CT:Expr:=Rw Km
abbrev Cz:Str:="read_book.<locals>.<lambda>"
def SW (cL cB:Addr) (pm:Value) (c':Addr) (ctv:Value):Obj:=kla_obj "<lambda>" Cz (KI CT) (KJ CT) (FL CT) [("locker",cL),("book",cB)] pm c' ctv
theorem frB:∀y∈(FL CT).names,y.2=Ft→y.1∈(["locker","book"]:List Str):=by decide +kernel
theorem dF {cL cB:Addr} (h:cL≠cB):MD ["number","line","locker","book"] ["number","line"] (FL CT) [("locker",cL),("book",cB)] :=
 ⟨rfl,rfl,rfl,by decide +kernel,rfl,by decide +kernel,by decide +kernel,rfl,fun x hx=>by
  have:x="locker"∨x="book":=by
   rcases AY.mp hx with q | q
   ·exact .inl q
   ·exact .inr (A1.mp q)
  rcases this with rfl | rfl
  ·decide +kernel
  ·decide +kernel,fun y hy=>frB _ (CH hy) rfl,Dd.mpr ⟨fun m=>h (A1.mp m),Dd.mpr ⟨Eb,JG⟩⟩⟩
def Va (K:AB) (CL CK CB CE f c' cL cB:Addr) (pm ctv:Value):Sp:=fun vs H Q _=>∃(i:Nat) (la a b:Addr),vs=[.int (i:Nat),.ref la]∧H f=some (KO f (SW cL cB pm c' ctv))∧CodeO H c' Cz∧DO H cL (.ref a)∧DO H cB (.ref b)∧
 Kv K CL CK CB CE [.ref a,.ref b,.int (i:Nat),.ref la] (hid [cL,cB] H) (fun v H'=>(H' cL=none∧H' cB=none)→Q v (DV [cL,cB] H H')) E0
section
variable {P:Program}{w:World}{K:AB}{mg:Str→Option Value}{base:Heap}{CL CK CB CE:Addr}
theorem bC {f c' cL cB:Addr}{pm ctv:Value} (hcc:cL≠cB) (g:Has P w K mg "take_line_books" 6 ["locker","book","number","line"] (Kv K CL CK CB CE)):
  FnOk P w K mg base CX0 7 f (kla_fn "<lambda>" Cz (KI CT) (KJ CT) (FL CT) [("locker",cL),("book",cB)] pm (.ref c') ctv) ["number","line"] (Va K CL CK CB CE f c' cL cB pm ctv):=by
 refine Rx (dF hcc) (fun vs H Q E h=>?_) (fun vs H Q E h=>?_)
 ·obtain⟨i,la,a,b,rfl,_⟩:=h
  rfl
 ·obtain⟨i,la,a,b,rfl,hf,hc,hv,hv2,hsp⟩:=h
  refine⟨hf,hc,[.ref a,.ref b],.cons hv (.cons hv2 .nil),fun A outer s hr=>?_⟩
  refine⟨_,AN g hr (by rfl) (AA (pv 2) (AA (pv 3) (AA (pv 0) (AA (pv 1) AD)))),?_⟩
  refine⟨_,rfl,_,rfl,_,rfl,_,rfl,?_⟩
  obtain⟨a',b',la',p,q,L,fl,bfl,st,i',ln,e,r1,r2,r3,r4,r5,r6,k1,k2⟩:=hsp
  have two:∀{H':Hp},(∀c∈([("locker",cL),("book",cB)]:List (Str×Addr)).map (·.2),H' c=none)→H' cL=none∧H' cB=none:=fun hn=>⟨hn _ (by simp),hn _ (by simp)⟩
  exact⟨a',b',la',p,q,L,fl,bfl,st,i',ln,e,r1,r2,r3,r4,r5,r6,fun k hk H' s' hn=>k1 k hk H' s' (two hn),fun s' hs H' p' q1 q2 q3 q4 hn=>k2 s' hs H' p' q1 q2 q3 q4 (two hn)⟩
end
theorem d6 {L:AU}{s:BS}{i k:Nat}{b:Aq} (h:BU L s i b=.error k):k≠0:=by
 unfold BU at h
 split at h
 ·unfold Ci at h
  cases hk:Fe b with
  | none =>
   rw[hk] at h
   have h:(Ck 1:Except Nat BS)=.error k:=h
   cases h;decide
  | some x =>
   obtain⟨n,m⟩:=x
   rw[hk] at h
   dsimp only at h
   cases hr:L.entryRow s.entries n with
   | ok r=>rw[hr] at h;cases h
   | error e =>
    rw[hr] at h
    have h:(Ck e:Except Nat BS)=.error k:=h
    cases h
    unfold K5 at hr
    intro q
    subst q
    split at hr
    ·cases hr
    ·split at hr
     ·cases hr
     ·split at hr
      ·cases hr
      ·split at hr <;> cases hr
 ·split at h
  ·split at h
   ·cases h;decide
   ·cases h
  ·split at h
   ·cases h;decide
   ·split at h
    ·cases h;decide
    ·cases h
theorem BookAt.faultB {CB CE:Addr}{H H':Hp}{b z dx:Addr}{q:BA}{name:List Int}{es:List BQ}{fault fl:List Int} (hne:CB≠CE) (h:BookAt CB CE H b q name es fault) (hd:H b=some (.ins CB dx (bfB q.bn q.be q.bf))) (hz:H z=some (.lst (fl.map V.int))) (nz:z≠q.be)
  (e:H'=upd H b (.ins CB dx (BK "fault" (.ref z) (bfB q.bn q.be q.bf)))):BookAt CB CE H' b ⟨q.bn,q.be,z⟩ name es fl:=by
 subst e
 have kh:∀x o,hid [q.be] H x=some o→(∀dx fs,o≠.ins CB dx fs)→hid [q.be] (upd H b (.ins CB dx (BK "fault" (V.ref z) (bfB q.bn q.be q.bf)))) x=some o:=fun x o e n=>by
  have nx:x∉[q.be]:=fun m=>by rw[Dj m] at e;cases e
  rw[Ax nx] at e ⊢
  rw[AG (BE e hd (n _ _))]
  exact e
 obtain⟨as,hbe,hpe⟩:=h.es
 refine⟨⟨dx,AH⟩,kh _ _ h.nm (fun _ _ e=>nomatch e),⟨as,?_,Paired.mapP hpe fun y e qq=>?_⟩,kh _ _ (by rw[Ax (by simpa using nz)];exact hz) (fun _ _ e=>nomatch e)⟩
 ·rw[AG (BE hbe hd (by intro z;cases z))];exact hbe
 ·obtain⟨d2,ar,am,w1,w2,w3⟩:=qq
  exact⟨d2,ar,am,kh _ _ w1 (fun _ _ e=>by cases e;exact hne rfl),kh _ _ w2 (fun _ _ e=>nomatch e),kh _ _ w3 (fun _ _ e=>nomatch e)⟩
theorem Yh (t:Aq):(zs t).count 10=(Al t).length:=by
 have h1:=Jo 10 (zs t)
 rw[MZ,IB,AF,BL,Cs] at h1
 omega
def Hv (L:AU) (t:Aq) (nm:List Int) (es:List BQ) (fl:List Int):Prop:=match L.judgeBook t with
 | .error e=>fl=[(e.1:Int),(e.2:Int)]
 | .ok B=>fl=[]∧nm=zs B.name∧es=B.entries∧es.length≤2048
def Vj (K:AB) (CL CK CB CE Pt:Addr):Sp:=fun vs H Q _=>∃(l a:Addr) (p:LA) (L:AU) (lfl:List Int) (t:Aq),vs=[.ref l,.ref a]∧LockAt CL CK H l p (zs L.name) (L.kinds.map zk) lfl∧Wf L.kinds∧SqL K H a ((zs t).map V.int)∧t.length < 80000∧BY H Pt (Bs CT) Cz∧
 ∀(H':Hp) (x:Addr) (q:BA) (nm:List Int) (es:List BQ) (fl:List Int),KeepBut [Pt] H H'→BY H' Pt (Bs CT) Cz→BookAt CB CE H' x q nm es fl→Hv L t nm es fl→Q (.ref x) H'
theorem scReadB:Ab ["locker","text","book"] ["locker","text"] (AK Km):=⟨rfl,rfl,rfl,by decide +kernel,rfl,by decide +kernel,by decide +kernel⟩
section
variable {P:Program}{w:World}{K:AB}{mg:Str→Option Value}{base:Heap}{CL CK CB CE Pt:Addr}
theorem ok_readB {f c:Addr}{fd:FuncData} (F:Fun K "read_book" "read_book" Km f fd) (hc:fd.code=.ref c) (C:CodeHd base c Pt) (hbm:Fz mg base) (hne:CB≠CE) (TB:BookC K CB) (c1:Cst mg "NO_SUCH_LINE" (.int 1)) (c2:Cst mg "HEAD_LINES" (.int 2)) (g0:FE P w K mg "Book" CB 1 ["self"] (VO CB))
  (g1:Has P w K mg "first_fault" 9 ["text","take"] (N2 P w K mg 7)) (g2:Has P w K mg "take_line_books" 6 ["locker","book","number","line"] (Kv K CL CK CB CE)) (g3:Has P w K mg "count_lines" 1 ["text"] (N0 K)):
  FnOk P w K mg base CX0 10 f fd ["locker","text"] (Vj K CL CK CB CE Pt):=by
 refine F.okC hc scReadB (fun vs H Q E h=>?_) (fun A outer s H vs Q E hr h=>?_)
 ·obtain⟨l,a,p,L,lfl,t,rfl,_⟩:=h
  rfl
 ·obtain⟨l,a,p,L,lfl,t,rfl,hL,hW,hS,hlen,hT,k⟩:=h
  have hr2:Room 2 _:=hr.mono (by decide)
  have hr1:Room 1 _:=hr.mono (by decide)
  obtain⟨f1,fd1,h1,h2,h3,h4⟩:=g1
  refine⟨_,AI (Ap (i:=2) scReadB.nd rfl (De rfl) (Su g0 hr2 (by rfl)))
   (AI (Bj (pv 2) (Sn (h4 base) hr (by rfl) h1 h2 h3 (fun _=>rfl) (by show(["book","locker"]:List Str).Nodup;decide) (AA (pv 1) (AA (Sr (clos:=[("locker",s.heap.objs.size+1),("book",s.heap.objs.size+1+1)]) (qual:=Cz) rfl C hbm (by rfl) (by rfl) (by rfl)) AD))) rfl)
   (AI (Aw (PW.pt (EX (Ag (GI hr.units) (An (pv 2) rfl) (A5 AD) (Ac _)) (FW (Ag KZ (AN g3 hr1 (by rfl) (AA (pv 1) AD)) (AW c2 rfl) (Ac _)))))
    (AJ (Bj (pv 2) (A5 (AA (AW c1 rfl) (AA (AN g3 hr1 (by rfl) (AA (pv 1) AD)) AD))) rfl)) Ay)
   (AJ (AM (pv 2))))),?_⟩
  intro x dx nx ndx nex
  refine⟨x,dx,rfl,AH,fun H1 q hx1 hbn hbe hbf nq1 nq2 kp hfr=>⟨rfl,?_⟩⟩
  have s1:Same H H1:=Same.made nx ndx kp
  have fr:∀y∈[q.bn,q.be,q.bf],H y=none:=fun y hy=>by
   have:=hfr y hy
   cases z:H y with
   | none=>rfl
   | some u =>
    have e1:y≠x:=Ai z nx
    have e2:y≠dx:=Ai z ndx
    rw[AG e1,AG e2,z] at this
    cases this
  have hB1:BookAt CB CE H1 x q [] [] []:=⟨⟨dx,hx1⟩,by rw[Ax (by simpa using nq1)];exact hbn,⟨[],hbe,.nil⟩,by rw[Ax (by simpa using nq2)];exact hbf⟩
  refine⟨_,rfl,Bm s1 hT,fun H2 fL c' pm ctv kp2 nf hf hPt hco=>?_⟩
  intro H3 ho3 hn3 hcell
  have ho3:∀b,b∉[s.heap.objs.size+1+1,s.heap.objs.size+1]→H3 b=H2 b:=ho3
  have hn3:∀b∈[s.heap.objs.size+1+1,s.heap.objs.size+1],H2 b=none:=hn3
  have hcvL:DO H3 (s.heap.objs.size+1) (.ref l):=hcell 0 "locker" (.ref l) (s.heap.objs.size+1) rfl rfl rfl rfl
  have hcvB:DO H3 (s.heap.objs.size+1+1) (.ref x):=hcell 2 "book" (.ref x) (s.heap.objs.size+1+1) rfl rfl rfl rfl
  clear hcell
  have hcc:s.heap.objs.size+1≠s.heap.objs.size+1+1:=by omega
  generalize hclB:s.heap.objs.size+1+1=cB at hf ho3 hn3 hcvB hcc
  generalize hclL:s.heap.objs.size+1=cL at hf ho3 hn3 hcvL hcc
  have ncB:H2 cB=none:=hn3 cB (AZ ..)
  have ncL:H2 cL=none:=hn3 cL (Ar _ (AZ ..))
  have s23:Same H2 H3:=fun b o e=>by
   rw[ho3 b fun m=>by
    rcases AY.mp m with m | m
    ·rw[m,ncB] at e;cases e
    ·rw[A1.mp m,ncL] at e;cases e]
   exact e
  have hTb:∃ps,H1 Pt=some (.tbl ps):=by
   rcases Bm s1 hT with e | ⟨c2,e,_⟩
   ·exact⟨_,e⟩
   ·exact⟨_,e⟩
  obtain⟨ps1,hPt1⟩:=hTb
  have s12:SameT H1 H2:=fun b o e n=>kp2 b o e fun z=>by rw[z,hPt1] at e;cases e;exact n _ rfl
  have s13:SameT H1 H3:=s12.trans (Same.t s23)
  have s03:SameT H H3:=(Same.t s1).trans s13
  have B3:BookAt CB CE H3 x q [] [] []:=hB1.monoT s13
  have hS3:SqL K H3 a ((zs t).map V.int):=s03.seq hS
  have hf3:=s23 _ _ hf
  have hPt3:=s23 _ _ hPt
  have hco3:CodeO H3 c' Cz:=MA (Same.t s23) hco
  obtain⟨dx3,hx3⟩:=B3.ob
  obtain⟨as3,hbe3,_⟩:=B3.es
  have out:∀{b:Addr} {o:HO},H3 b=some o→(∀C d fs,o≠.ins C d fs)→(∀xs,o≠.lst xs)→b∉[x,q.be]:=fun {b o} e n1 n2 m=>by
   simp only[AY,Eb,or_false] at m
   rcases m with rfl | rfl
   ·rw[hx3] at e;cases e;exact n1 _ _ _ rfl
   ·rw[hbe3] at e;cases e;exact n2 _ rfl
  have ourN:∀b∈[x,q.be],H b=none∧H3 b≠none:=fun b m=>by
   simp only[AY,Eb,or_false] at m
   rcases m with rfl | rfl
   ·exact⟨nx,by rw[hx3];simp⟩
   ·exact⟨fr _ (by simp),by rw[hbe3];simp⟩
  have hcut:Ao 10 (zs t)=(Al t).map zs++[zs (Bt t)]:=by rw[MZ,IB,BG];rfl
  have hfl:(Al t).length≤t.length:=by
   have:=G1 10 (zs t)
   rw[hcut,BL,AF,A6] at this
   simp at this
   omega
  have part:∀y∈Al t,y.length < 100000:=fun y hy=>by
   have:=Eu 10 (zs t) (zs y) (by rw[hcut];exact JD _ (BD.mpr ⟨y,hy,rfl⟩))
   rw[A6,A6] at this
   omega
  let J:Nat→Hp→Prop:=fun i H'=>∃(q':BA) (st:BS),FZ (BU L) ⟨[],[]⟩ (Al t) i st∧BookAt CB CE H' x q' (zs st.name) st.entries []∧st.entries.length≤2048∧QB q q'∧KeepBut [x,q.be] H3 H'
  have Jf:∀{i H'},J i H'→H' fL=some (KO fL (SW cL cB pm c' ctv)):=fun ⟨_,_,_,_,_,_,kb⟩=>kb _ _ hf3 (out hf3 (fun _ _ _ q=>nomatch q) (fun _ q=>nomatch q))
  have Jc:∀{i H'},J i H'→CodeO H' c' Cz:=fun ⟨_,_,_,_,_,_,kb⟩=>by
   obtain⟨o,vs,tt,e,d,r⟩:=hco3
   exact⟨o,vs,tt,kb _ _ e (out e (fun _ _ _ q=>nomatch q) (fun _ q=>nomatch q)),d,r⟩
  have JlL:∀{i H'},J i H'→H' cL=H3 cL:=fun ⟨_,_,_,_,_,_,kb⟩=>by
   obtain⟨o,u,e,_⟩:=hcvL
   rw[kb _ _ e (out e (fun _ _ _ q=>nomatch q) (fun _ q=>nomatch q)),e]
  have JlB:∀{i H'},J i H'→H' cB=H3 cB:=fun ⟨_,_,_,_,_,_,kb⟩=>by
   obtain⟨o,u,e,_⟩:=hcvB
   rw[kb _ _ e (out e (fun _ _ _ q=>nomatch q) (fun _ q=>nomatch q)),e]
  have Jp:∀{i H'},J i H'→H' Pt=some (.tbl #[rawInt (Bs CT).line,rawInt (Bs CT).col,.ref c']):=fun ⟨_,_,_,_,_,_,kb⟩=>kb _ _ hPt3 (out hPt3 (fun _ _ _ q=>nomatch q) (fun _ q=>nomatch q))
  have Jm:∀i H1 H2,J i H1→Same H1 H2→J i H2:=fun i H1 H2 ⟨q',st,h1,h2,h3,h4,h5⟩ ss=>⟨q',st,h1,h2.mono ss,h3,h4,h5.trans (KeepBut.of ss)⟩
  have Js:∀{i H'},J i H'→SameT H H':=fun ⟨_,_,_,_,_,_,kb⟩ b o e n=>kb b o (s03 b o e n) fun m=>by rw[(ourN b m).1] at e;cases e
  have TC:MH P w K mg 7 H3 fL ((Al t).map zs) J (rAt (BU L) ⟨[],[]⟩ (Al t)):=by
   refine⟨⟨q,⟨[],[]⟩,Vv,B3,Au _,⟨rfl,rfl⟩,fun b o e _=>e⟩,Jm,fun i H' j=>⟨_,_,Jf j,rfl⟩,_,Va K CL CK CB CE fL c' cL cB pm ctv,fun base=>bC hcc g2,.all (fun us hl=>match us,hl with | [_,_],_=>rfl),?_⟩
   intro i la ln H4 Q1 hln hJ nla hla hq
   have hf4:=Jf hJ
   have hc4:=Jc hJ
   have hlL4:=JlL hJ
   have hlB4:=JlB hJ
   have hs4:=Js hJ
   obtain⟨q',st,hst,B4,hel,hsb,kb⟩:=id hJ
   rw[AX] at hln
   cases hb:(Al t)[i]? with
   | none=>rw[hb] at hln;cases hln
   | some b =>
   rw[hb] at hln
   have eb:zs b=ln:=AV hln
   subst eb
   have hi:i < (Al t).length:=(Be.mp hb).1
   have hR:=Kf (step:=BU L) hst hb
   have hcvL4:DO H4 cL (.ref l):=by
    obtain⟨o,u,e,r⟩:=hcvL
    exact⟨o,u,by rw[hlL4];exact e,r⟩
   have hcvB4:DO H4 cB (.ref x):=by
    obtain⟨o,u,e,r⟩:=hcvB
    exact⟨o,u,by rw[hlB4];exact e,r⟩
   have plain:Plain [cL,cB] H4:=fun y hy u e=>by
    rcases AY.mp hy with m | m
    ·obtain⟨o,_,z,_⟩:=hcvL4
     rw[m,z] at e
     cases e
     exact⟨_,rfl⟩
    ·obtain⟨o,_,z,_⟩:=hcvB4
     rw[A1.mp m,z] at e
     cases e
     exact⟨_,rfl⟩
   have sN:=J6 plain
   refine⟨i,la,l,x,rfl,hf4,hc4,hcvL4,hcvB4,l,x,la,p,q',L,lfl,[],st,i,b,rfl,(hL.monoT hs4).monoN sN,hW,B4.monoN sN,hel,SqL.of (sN _ _ hla fun _ z=>nomatch z),part b (CZ hb),fun kk hk H' s' hn=>?_,fun st' hs H' q'' q1 q2 q3 q4 hn=>?_⟩
   ·rw[hk] at hR
    have hR:rAt (BU L) ⟨[],[]⟩ (Al t) i=(kk:Int):=hR
    have su:Same H4 (DV [cL,cB] H4 H'):=fun y o e=>by
     by_cases m:y∈[cL,cB]
     ·rw[Ig m];exact e
     ·rw[Dz m];exact s' y o (by rw[Ax m];exact e)
    have kpos:=d6 hk
    rw[← hR]
    refine hq _ (fun y o _ e=>su y o e) (fun z=>?_) fun _=>Jm i _ _ hJ su
    rw[hR] at z
    exact absurd (show kk=0 by omega) kpos
   ·rw[hs] at hR
    have hR:rAt (BU L) ⟨[],[]⟩ (Al t) i=0:=hR
    have su:Same H' (DV [cL,cB] H4 H'):=WB fun y hy=>by
     rcases AY.mp hy with m | m
     ·rw[m];exact hn.1
     ·rw[A1.mp m];exact hn.2
    have ku:KeepBut [x,q.be] H4 (DV [cL,cB] H4 H'):=fun y o e n=>by
     by_cases m:y∈[cL,cB]
     ·rw[Ig m];exact e
     ·rw[Dz m]
      refine q4 y o (by rw[Ax m];exact e) ?_
      rw[hsb.1]
      exact n
    rw[← hR]
    refine hq _ (fun y o n e=>ku y o e fun m=>(ourN y m).2 n) (fun _=>⟨q'',st',Vu hst hb hs,q1.mono su,q3,⟨q2.1.trans hsb.1,q2.2.trans hsb.2⟩,kb.trans ku⟩) fun z=>absurd hR z
  refine⟨a,fL,zs t,(Al t).map zs,zs (Bt t),J,rAt (BU L) ⟨[],[]⟩ (Al t),rfl,hS3,by rw[A6];omega,hcut,TC,fun H0 pR j res hJ0 np0 hTold=>?_⟩
  have hJ:=Jm j _ _ hJ0 ((Same.refl H0).new (o:=.lst (res.map V.int)) np0)
  have hpR:upd H0 pR (.lst (res.map V.int)) pR=some (.lst (res.map V.int)):=AH
  have npq:pR≠q.be:=fun z=>by
   obtain⟨q0,_,_,B0,_,hsb0,_⟩:=hJ0
   obtain⟨as0,h0,_⟩:=B0.es
   rw[hsb0.1,← z,np0] at h0
   cases h0
  generalize upd H0 pR (.lst (res.map V.int))=H' at hJ hpR ⊢
  have hlL':=JlL hJ
  have hlB':=JlB hJ
  have hP':=Jp hJ
  have hc':=Jc hJ
  obtain⟨q',st,hst,B',hel,hsb,kb⟩:=id hJ
  have ecs:Br ((El CX0 P w K mg base ["locker","text","book"] "read_book" (AK Km) f (Ak c) A outer s H E).nox)=[cB,cL]:=by rw[← hclB,← hclL];rfl
  refine⟨fun c2 hc2=>by
   rw[ecs] at hc2
   rcases AY.mp hc2 with m | m
   ·rw[m];exact hlB'
   ·rw[A1.mp m];exact hlL',?_⟩
  show CV 2 _ _ _
  rw[ecs]
  have plain:Plain [cB,cL] H':=fun y hy u e=>by
   rcases AY.mp hy with m | m
   ·obtain⟨o,_,z,_⟩:=hcvB
    rw[m,hlB',z] at e
    cases e
    exact⟨_,rfl⟩
   ·obtain⟨o,_,z,_⟩:=hcvL
    rw[A1.mp m,hlL',z] at e
    cases e
    exact⟨_,rfl⟩
  have sN:=J6 plain
  have Bh:=B'.monoN sN
  obtain⟨dx4,hx4⟩:=Bh.ob
  have hpR4:=sN _ _ hpR fun _ z=>nomatch z
  have notc:∀{b:Addr} {o:HO},H2 b=some o→b∉[cB,cL]:=fun e m=>by
   rcases AY.mp m with m | m
   ·rw[m,ncB] at e;cases e
   ·rw[A1.mp m,ncL] at e;cases e
  have kpH:KeepBut [Pt] H (hid [cB,cL] H'):=fun b o e n=>by
   have n:b≠Pt:=fun z=>n (by simp[z])
   have e2:=kp2 b o (s1 b o e) n
   rw[Ax (notc e2)]
   exact kb b o (s23 b o e2) fun m=>by rw[(ourN b m).1] at e;cases e
  have tabH:BY (hid [cB,cL] H') Pt (Bs CT) Cz:=by
   refine .inr ⟨c',sN _ _ hP' (fun _ z=>nomatch z),?_⟩
   obtain⟨o,vs,tt,e,d,r⟩:=hc'
   obtain⟨o2,_,_,e2,_⟩:=hco
   exact⟨o,vs,tt,by rw[Ax (notc e2)];exact e,d,r⟩
  have hSh:SqL K (hid [cB,cL] H') a ((zs t).map V.int):=by
   rcases hS with (h | ⟨o,h⟩) | h
   ·exact .inl (.inl (kpH _ _ h fun m=>by
     have hT':=hT
     rw[A1.mp m] at h
     rcases hT' with z | ⟨_,z,_⟩ <;> (rw[h] at z;cases z)))
   ·exact .inl (.inr ⟨o,kpH _ _ h fun m=>by
     have hT':=hT
     rw[A1.mp m] at h
     rcases hT' with z | ⟨_,z,_⟩ <;> (rw[h] at z;cases z)⟩)
   ·exact .inr h
  have npR:pR≠q'.be:=by rw[hsb.1];exact npq
  generalize hid [cB,cL] H'=Hh at Bh hx4 hpR4 kpH tabH hSh ⊢
  refine⟨_,rfl,x,CB,dx4,_,rfl,hx4,TB.cl,TB.fault,(by show 3 < 1000;decide),?_⟩
  have B5:=Bh.faultB (fl:=res) hne hx4 hpR4 npR rfl
  have nxP:x≠Pt:=fun z=>by
   rcases tabH with w | ⟨_,w,_⟩ <;> (rw[← z,hx4] at w;cases w)
  have kp5:KeepBut [Pt] H (upd Hh x (.ins CB dx4 (BK "fault" (V.ref pR) (bfB q'.bn q'.be q'.bf)))):=fun b o e n=>by
   rw[AG (Ai e nx)]
   exact kpH b o e n
  have tab_upd:∀{G:Hp} {o:HO},BY G Pt (Bs CT) Cz→(∃d fs,G x=some (.ins CB d fs))→BY (upd G x o) Pt (Bs CT) Cz:=fun {G o} h hx=>by
   obtain⟨d,fs,hx⟩:=hx
   rcases h with z | ⟨c2,z,o2,vs,tt,e,r⟩
   ·exact .inl (by rw[AG (Af nxP)];exact z)
   ·exact .inr ⟨c2,by rw[AG (Af nxP)];exact z,o2,vs,tt,by rw[AG (BE e hx (by intro z;cases z))];exact e,r⟩
  have tab5:=tab_upd (o:=.ins CB dx4 (BK "fault" (V.ref pR) (bfB q'.bn q'.be q'.bf))) tabH ⟨_,_,hx4⟩
  have hS5:SqL K (upd Hh x (.ins CB dx4 (BK "fault" (V.ref pR) (bfB q'.bn q'.be q'.bf)))) a ((zs t).map V.int):=by
   rcases hSh with (h | ⟨o,h⟩) | h
   ·exact .inl (.inl (by rw[AG (BE h hx4 (by intro z;cases z))];exact h))
   ·exact .inl (.inr ⟨o,by rw[AG (BE h hx4 (by intro z;cases z))];exact h⟩)
   ·exact .inr h
  generalize upd Hh x (.ins CB dx4 (BK "fault" (V.ref pR) (bfB q'.bn q'.be q'.bf)))=H5 at B5 kp5 tab5 hS5 ⊢
  obtain⟨dx5,hx5⟩:=B5.ob
  refine⟨_,rfl,x,CB,dx5,_,_,rfl,hx5,TB.cl,TB.fault,MN (q:=⟨q'.bn,q'.be,pR⟩),Au _,fun l5 nl=>?_⟩
  have s56:Same H5 (upd H5 l5 (.lst [])):=(Same.refl H5).new nl
  have B6:=B5.mono s56
  have kp6:KeepBut [Pt] H (upd H5 l5 (.lst [])):=kp5.trans (KeepBut.of s56)
  have tab6:=Bm s56 tab5
  have hS6:=s56.seq hS5
  refine⟨_,_,BM (SqL.of B6.bf'),BM (ns:=[]) (SqL.of AH),BF _,BF _,?_⟩
  rw[Cw]
  generalize upd H5 l5 (.lst [])=H6 at B6 kp6 tab6 hS6 ⊢
  obtain⟨dx6,hx6⟩:=B6.ob
  refine⟨_,rfl,?_⟩
  have jud:=Zp L t
  have hcnt:=Yh t
  by_cases hres:res=[]
  ·refine bT (decide_eq_true hres) ?_
   subst hres
   have hj:j=((Al t).map zs).length∧zs (Bt t)=[]:=by
    rcases hTold with ⟨_,_,_,z⟩ | ⟨q1,_,q2⟩
    ·cases z
    ·refine⟨q1,?_⟩
     by_cases z:zs (Bt t)=[]
     ·exact z
     ·rw[if_neg z] at q2;cases q2
   have hr0:Bt t=[]:=zs_nil.mp hj.2
   have hjn:j=(Al t).length:=by rw[hj.1,AF]
   subst hjn
   rw[Kk hst] at jud
   refine⟨_,rfl,a,zs t,rfl,hS6,fun H7 s7=>⟨_,_,rfl,rfl,_,rfl,?_⟩⟩
   rw[hcnt]
   have B7:=B6.mono s7
   have kp7:=kp6.trans (KeepBut.of (xs:=[Pt]) s7)
   have tab7:=Bm s7 tab6
   by_cases h0:(Al t).length < 2
   ·refine bT (decide_eq_true (by omega)) ?_
    refine⟨_,rfl,a,zs t,rfl,s7.seq hS6,fun H8 s8=>⟨(show 2≤sizeLine from CA (by decide)),fun l2 nl2=>?_⟩⟩
    have s89:Same H8 (upd H8 l2 (.lst [.int 1,.int ((zs t).count 10:Nat)])):=(Same.refl H8).new nl2
    have s79:=s8.trans s89
    have B9:=B7.mono s79
    have hl9:upd H8 l2 (.lst [.int 1,.int ((zs t).count 10:Nat)]) l2=some (.lst (([1,(((zs t).count 10:Nat):Int)]:List Int).map V.int)):=AH
    have hx9:=s79 _ _ (s7 _ _ hx6)
    have kp9:=kp7.trans (KeepBut.of (xs:=[Pt]) s79)
    have tab9:=Bm s79 tab7
    have nl2q:l2≠q'.be:=fun z=>by
     obtain⟨as8,h8,_⟩:=(B7.mono s8).es
     rw[z,h8] at nl2;cases nl2
    generalize upd H8 l2 (.lst [.int 1,.int ((zs t).count 10:Nat)])=H9 at B9 hl9 hx9 kp9 tab9 ⊢
    refine⟨_,rfl,x,CB,dx6,_,rfl,hx9,TB.cl,TB.fault,(by show 3 < 1000;decide),?_⟩
    have B10:=B9.faultB (q:=⟨q'.bn,q'.be,pR⟩) hne hx9 hl9 nl2q rfl
    refine⟨_,rfl,k _ x _ _ _ _ (fun b o e n=>?_) (tab_upd tab9 ⟨_,_,hx9⟩) B10 ?_⟩
    ·rw[AG (Ai e nx)]
     exact kp9 b o e n
    ·unfold Hv
     rw[jud]
     show match Em (Bt t) (Al t).length st with
      | .error e=>_
      | .ok B=>_
     unfold Em
     rw[if_neg fun z=>z hr0,if_pos h0,hcnt]
     rfl
   ·refine bF (decide_eq_false (by omega)) ?_
    refine⟨_,rfl,k _ x _ _ _ _ kp7 tab7 B7 ?_⟩
    unfold Hv
    rw[jud]
    show match Em (Bt t) (Al t).length st with
     | .error e=>_
     | .ok B=>_
    unfold Em
    rw[if_neg fun z=>z hr0,if_neg h0]
    exact⟨rfl,rfl,rfl,hel⟩
  ·refine bF (decide_eq_false hres) ?_
   refine bF rfl ?_
   refine⟨_,rfl,k _ x _ _ _ _ kp6 tab6 B6 ?_⟩
   unfold Hv
   rw[jud]
   rcases hTold with ⟨q1,_,q3,q4⟩ | ⟨q1,_,q2⟩
   ·rw[AF] at q1
    obtain⟨b,hb⟩:∃b,(Al t)[j]?=some b:=⟨_,As q1⟩
    have hR:=Kf (step:=BU L) hst hb
    cases hs:BU L st j b with
    | ok s2=>rw[hs] at hR;exact absurd hR q3
    | error kk =>
     rw[hs] at hR
     have hR:rAt (BU L) ⟨[],[]⟩ (Al t) j=(kk:Int):=hR
     rw[TU hst hb hs]
     show res=[(kk:Int),(j:Int)]
     rw[q4,hR]
   ·rw[AF] at q1
    subst q1
    rw[Kk hst]
    have hr0:¬Bt t=[]:=fun z=>hres (by rw[q2,if_pos (zs_nil.mpr z)])
    show match Em (Bt t) (Al t).length st with
     | .error e=>_
     | .ok B=>_
    unfold Em
    rw[if_pos hr0]
    show res=[((1:Nat):Int),(((Al t).length:Nat):Int)]
    rw[q2,if_neg fun z=>hr0 (zs_nil.mp z)]
    rfl
end
end Fb
end
section
set_option maxRecDepth 100000
set_option maxHeartbeats 4000000
namespace Fb
open PySem PySem.Spec PyProof.Rows L2
open PySem.W (CodeHd tabObj kla_obj kla_fn envX)
abbrev T3:Stmt:=EU UO 0
def rdf (r:Addr) (l b:V):List (Str×V):=[("refusal",.ref r),("locker",l),("book",b)]
def HH:List V→Option (List (Str×V))
 | [.ref r,l,b]=>some (rdf r l b)
 | _=>none
theorem S7 {r:Addr}{l b:V}:(rdf r l b).lookup ("refusal":Str)=some (.ref r):=rfl
theorem cY {r:Addr}{l b:V}:(rdf r l b).lookup ("locker":Str)=some l:=rfl
theorem cX {r:Addr}{l b:V}:(rdf r l b).lookup ("book":Str)=some b:=rfl
structure ReadC (K:AB) (CR:Addr):Prop where
 cl:Cls K CR
 refusal:NoAttr K CR "refusal"
 locker:NoAttr K CR "locker"
 book:NoAttr K CR "book"
theorem dO:Ab ["self","refusal","locker","book"] ["self","refusal","locker","book"] (AK T3):=⟨rfl,rfl,rfl,by decide +kernel,rfl,by decide +kernel,by decide +kernel⟩
section
variable {P:Program}{w:World}{K:AB}{mg:Str→Option Value}{base:Heap}{CR:Addr}
theorem ok_readI {f:Addr}{fd:FuncData} (F:Fun K "__init__" "Reading.__init__" T3 f fd) (T:ReadC K CR):FnOk P w K mg base CX0 1 f fd ["self","refusal","locker","book"] (Ez CR HH):=by
 have inv:∀us l,HH us=some l→∃r k b,us=[.ref r,k,b]∧l=rdf r k b:=by
  intro us l h
  unfold HH at h
  split at h
  ·cases h;exact⟨_,_,_,rfl,rfl⟩
  ·cases h
 refine F.ok dO (fun vs H Q E h=>?_) (fun cdv A outer s H vs Q E hr h=>?_)
 ·obtain⟨p,dx,us,l,rfl,hf,_⟩:=h
  obtain⟨_,_,_,rfl,_⟩:=inv _ _ hf
  rfl
 ·obtain⟨p,dx,us,l,rfl,hf,hp,k⟩:=h
  obtain⟨r,c,m,rfl,rfl⟩:=inv _ _ hf
  refine⟨_,AI (Bj (pv 0) (pv 1) rfl) (AI (Bj (pv 0) (pv 2) rfl) (AJ (Bj (pv 0) (pv 3) rfl))),?_⟩
  refine⟨_,rfl,_,rfl,p,CR,dx,[],rfl,hp,T.cl,T.refusal,(by show 0 < 1000;decide),?_⟩
  refine⟨_,rfl,_,rfl,p,CR,dx,_,rfl,AH,T.cl,T.locker,(by show 1 < 1000;decide),?_⟩
  refine⟨_,rfl,_,rfl,p,CR,dx,_,rfl,AH,T.cl,T.book,(by show 2 < 1000;decide),?_⟩
  rw[GL,GL]
  exact k _ AH fun b o e hb=>by rw[AG hb];exact e
end
abbrev UG:Stmt:=U4
def ER (CL CK CB CE:Addr) (H:Hp) (t u:Aq) (rf:List Int) (lv bv:V):Prop :=
 if 65536 < t.length∨65536 < u.length then rf=[-2] else match DX t with
  | .error _=>rf=[-6]
  | .ok L=>match L.judgeBook u with
   | .error e=>rf=[-9,(e.1:Int),(e.2:Int)]
   | .ok B=>rf=[]∧∃(x:Addr) (q:BA),bv=.ref x∧BookAt CB CE H x q (zs B.name) B.entries []∧B.entries.length≤2048∧∃(y:Addr) (p:LA),lv=.ref y∧LockAt CL CK H y p (zs L.name) (L.kinds.map zk) []∧Wf L.kinds
def Vs (K:AB) (CL CK CB CE CR PL PB:Addr):Sp:=fun vs H Q _=>∃(a b:Addr) (t u:Aq),vs=[.ref a,.ref b]∧SqL K H a ((zs t).map V.int)∧SqL K H b ((zs u).map V.int)∧t.length < 80000∧u.length < 80000∧BY H PL (Bs CU) C0∧BY H PB (Bs CT) Cz∧
 ∀(H':Hp) (x dx r:Addr) (rf:List Int) (lv bv:V),KeepBut [PL,PB] H H'→BY H' PL (Bs CU) C0→BY H' PB (Bs CT) Cz→H' x=some (.ins CR dx (rdf r lv bv))→H' r=some (.lst (rf.map V.int))→ER CL CK CB CE H' t u rf lv bv→Q (.ref x) H'
theorem scTexts:Ab ["t","b","locker","book"] ["t","b"] (AK UG):=⟨rfl,rfl,rfl,by decide +kernel,rfl,by decide +kernel,by decide +kernel⟩
theorem V5 {H H':Hp}{Pt Po:Addr}{pos:Pos}{q:Str} (hne:Pt≠Po) (hPo:∃ps,H Po=some (.tbl ps)) (kb:KeepBut [Po] H H') (h:BY H Pt pos q):BY H' Pt pos q:=by
 obtain⟨ps,hPo⟩:=hPo
 rcases h with h | ⟨c',h,o,vs,t,e,r⟩
 ·exact .inl (kb _ _ h (by simpa using hne))
 ·refine .inr ⟨c',kb _ _ h (by simpa using hne),o,vs,t,kb _ _ e fun m=>?_,r⟩
  rw[A1.mp m,hPo] at e
  cases e
theorem OJ {H:Hp}{Pt:Addr}{pos:Pos}{q:Str} (h:BY H Pt pos q):∃ps,H Pt=some (.tbl ps):=by
 rcases h with h | ⟨c',h,_⟩
 ·exact⟨_,h⟩
 ·exact⟨_,h⟩
theorem Rr {H H':Hp}{Pt:Addr}{pos:Pos}{q:Str} (h:BY H Pt pos q) (kb:KeepBut [Pt] H H'):SameT H H':=fun b o e n=>kb b o e fun m=>by
 obtain⟨ps,hp⟩:=OJ h
 rw[A1.mp m,hp] at e
 cases e
 exact n _ rfl
section
variable {P:Program}{w:World}{K:AB}{mg:Str→Option Value}{base:Heap}{CL CK CB CE CR PL PB:Addr}
def Hu (P:Program) (w:World) (K:AB) (mg:Str→Option Value) (base:Heap) (x:Str) (k:Nat) (ps:List Str) (sp:Sp):Prop :=
 ∃(f:Addr) (fd:FuncData),mg x=some (.ref f)∧Gj K (.ref f)=true∧Binds K fd ps []∧FnOk P w K mg base CX0 k f fd ps sp
theorem NZ {X:Cx}{k:Nat}{ps:List Str}{sp:Sp}{x:Str}{p pos:Pos}{e:Expr}{es:List Expr}{t:TA} (h:Hu X.prog X.w X.K X.mg X.base x k ps sp) (hr:Room k X.A) (hg:Gl X x) (ha:PA X (e::es) t)
  (hdb:(x==("__debug__":Str))=false:=by decide) (he:starEach (e::es) X.env=(false,eval e X.env)::starEach es X.env:=by rfl) (hpl:(backTo pos (starEach es X.env)).any (·.1)=false:=by rfl):
  PE X (.Call (.Name x p) (e::es) [] pos) (HM sp [] E0 t):=by
 obtain⟨f,fd,h1,h2,h3,h4⟩:=h
 exact Sm h4 hr hg h1 h2 h3 .nil HB ha hdb he hpl
theorem ok_texts {f:Addr}{fd:FuncData} (F:Fun K "read_texts" "read_texts" UG f fd) (B:Blt mg) (hPP:PL≠PB) (TL:LockC K CL) (TB:BookC K CB) (c1:Cst mg "LONGEST_TEXT" (.int 65536)) (c2:Cst mg "TOO_LONG" (.int (-2))) (c3:Cst mg "NO_LOCKER" (.int (-6))) (c4:Cst mg "NO_BOOK" (.int (-9)))
  (g1:Hu P w K mg base "read_locker" 10 ["text"] (Vk K CL CK PL)) (g2:Hu P w K mg base "read_book" 10 ["locker","text"] (Vj K CL CK CB CE PB)) (g3:FE P w K mg "Reading" CR 1 ["self","refusal","locker","book"] (Ez CR HH)):FnOk P w K mg base CX0 11 f fd ["t","b"] (Vs K CL CK CB CE CR PL PB):=by
 refine F.ok scTexts (fun vs H Q E h=>?_) (fun cdv A outer s H vs Q E hr h=>?_)
 ·obtain⟨a,b,t,u,rfl,_⟩:=h
  rfl
 ·obtain⟨a,b,t,u,rfl,hA,hB,hlt,hlu,hTL,hTB,k⟩:=h
  have hr2:Room 2 _:=hr.mono (by decide)
  refine⟨_,AI (Aw (PW.pt (HG (Ag HA (A4 Bx (by rfl) B.len Bq (AA (pv 0) AD)) (AW c1 rfl) (Ac _)) (Ia (Ag HA (A4 Bx (by rfl) B.len Bq (AA (pv 1) AD)) (AW c1 rfl) (Ac _)))))
    (AJ (AM (HD g3 hr2 (by rfl) (AA (A5 (AA (AW c2 rfl) AD)) (AA Dn (AA Dn AD)))))) Ay)
   (AI (Ap (i:=2) scTexts.nd rfl (AQ rfl) (NZ g1 hr (by rfl) (AA (pv 0) AD)))
   (AI (Aw (Ag (IW hr.units) (An (pv 2) rfl) (A5 AD) (Ac _)) (AJ (AM (HD g3 hr2 (by rfl) (AA (A5 (AA (AW c3 rfl) AD)) (AA Dn (AA Dn AD)))))) Ay)
   (AI (Ap (i:=3) scTexts.nd rfl (AQ rfl) (NZ g2 hr (by rfl) (AA (pv 2) (AA (pv 1) AD))))
   (AI (Aw (Ag (IW hr.units) (An (pv 3) rfl) (A5 AD) (Ac _)) (AJ (AM (HD g3 hr2 (by rfl) (AA (DB NU (A5 (AA (AW c4 rfl) AD)) (An (pv 3) rfl)) (AA Dn (AA Dn AD)))))) Ay)
   (AJ (AM (HD g3 hr2 (by rfl) (AA (A5 AD) (AA (pv 2) (AA (pv 3) AD)))))))))),?_⟩
  have fin:∀(G:Hp) (r:Addr) (rf:List Int) (lv bv:V),KeepBut [PL,PB] H G→BY G PL (Bs CU) C0→BY G PB (Bs CT) Cz→G r=some (.lst (rf.map V.int))→(∀G',Same G G'→ER CL CK CB CE G' t u rf lv bv)→
    ∀x dx,G x=none→G dx=none→dx≠x→Ez CR HH [.ref x,.ref r,lv,bv] (upd (upd G dx (.own x)) x (.ins CR dx [])) (fun v H2=>v=.non∧Q (.ref x) H2) E0:=fun G r rf lv bv kb t1 t2 hr hx x dx nx nd ne=>by
   refine⟨x,dx,[.ref r,lv,bv],rdf r lv bv,rfl,rfl,AH,fun H' hx' kp=>⟨rfl,?_⟩⟩
   have ss:Same G H':=Same.made nx nd kp
   exact k H' x dx r rf lv bv (kb.trans (KeepBut.of ss)) (Bm ss t1) (Bm ss t2) hx' (ss _ _ hr) (hx H' ss)
  have much:(65536 < t.length∨65536 < u.length)→∀l,H l=none→∀x dx,upd H l (.lst [.int (-2)]) x=none→upd H l (.lst [.int (-2)]) dx=none→dx≠x→Ez CR HH [.ref x,.ref l,.non,.non] (upd (upd (upd H l (.lst [.int (-2)])) dx (.own x)) x (.ins CR dx [])) (fun v H2=>v=.non∧Q (.ref x) H2) E0:=fun hm l nl=>by
   have ss:=(Same.refl H).new (o:=.lst [.int (-2)]) nl
   refine fin _ l [-2] .non .non (KeepBut.of ss) (Bm ss hTL) (Bm ss hTB) AH fun G' _=>?_
   unfold ER
   rw[if_pos hm]
  refine⟨_,rfl,a,_,rfl,.inl hA,_,_,rfl,rfl,_,rfl,?_⟩
  by_cases ht:65536 < t.length
  ·refine bT (decide_eq_true (by rw[AF,A6];omega)) (bT rfl ?_)
   exact⟨(show 1≤sizeLine from CA (by decide)),fun l nl=>much (.inl ht) l nl⟩
  ·refine bF (decide_eq_false (by rw[AF,A6];omega)) ?_
   refine⟨_,rfl,b,_,rfl,.inl hB,_,_,rfl,rfl,_,rfl,?_⟩
   by_cases hu:65536 < u.length
   ·refine bT (decide_eq_true (by rw[AF,A6];omega)) ?_
    exact⟨(show 1≤sizeLine from CA (by decide)),fun l nl=>much (.inr hu) l nl⟩
   ·refine bF (decide_eq_false (by rw[AF,A6];omega)) ?_
    have hmuch:¬(65536 < t.length∨65536 < u.length):=fun z=>z.elim ht hu
    refine⟨_,rfl,a,t,rfl,hA,by omega,hTL,fun H1 xl p nm ks fl kb1 tab1 L1 rl=>?_⟩
    have sT1:=Rr hTL kb1
    have tabB1:=V5 (Af hPP) (OJ hTL) kb1 hTB
    have kbL1:KeepBut [PL,PB] H H1:=kb1.mono fun y hy=>by simp at hy;simp[hy]
    obtain⟨dx1,ho1⟩:=L1.ob
    refine⟨_,rfl,xl,CL,dx1,_,_,rfl,ho1,TL.cl,TL.fault,R6,Au _,fun l1 nl1=>?_⟩
    have s12:Same H1 (upd H1 l1 (.lst [])):=(Same.refl H1).new nl1
    have hl1:upd H1 l1 (.lst []) l1=some (.lst (([]:List Int).map V.int)):=AH
    generalize upd H1 l1 (.lst [])=H2 at s12 hl1 ⊢
    have L2:=L1.mono s12
    refine⟨_,_,BM (SqL.of L2.af),BM (SqL.of hl1),BF _,BF _,?_⟩
    rw[Cw]
    refine⟨_,rfl,?_⟩
    unfold Hw at rl
    have kb2:=kbL1.trans (KeepBut.of (xs:=[PL,PB]) s12)
    have tab2:=Bm s12 tab1
    have tabB2:=Bm s12 tabB1
    cases hj:DX t with
    | error e =>
     rw[hj] at rl
     have rl:fl≠[]:=rl
     refine bT (by rw[decide_eq_false rl];rfl) ?_
     refine⟨(show 1≤sizeLine from CA (by decide)),fun l nl=>?_⟩
     have ss:=(Same.refl H2).new (o:=.lst [.int (-6)]) nl
     refine fin _ l [-6] .non .non (kb2.trans (KeepBut.of ss)) (Bm ss tab2) (Bm ss tabB2) AH fun G' _=>?_
     unfold ER
     rw[if_neg hmuch,hj]
    | ok L =>
     rw[hj] at rl
     obtain⟨rfl,rfl,rfl,hW⟩:=rl
     refine bF (by rw[decide_eq_true rfl];rfl) ?_
     refine⟨_,rfl,_,rfl,xl,b,p,L,[],u,rfl,L2,hW,(sT1.trans (Same.t s12)).seq hB,by omega,tabB2,fun H3 xb q nm es bfl kb3 tab3 B3 rb=>?_⟩
     have tabL3:=V5 hPP (OJ tabB2) kb3 tab2
     have kb13:KeepBut [PL,PB] H H3:=kb2.trans (kb3.mono fun y hy=>by simp at hy;simp[hy])
     obtain⟨dx3,ho3⟩:=B3.ob
     refine⟨_,rfl,xb,CB,dx3,_,_,rfl,ho3,TB.cl,TB.fault,MN,Au _,fun l3 nl3=>?_⟩
     have s34:Same H3 (upd H3 l3 (.lst [])):=(Same.refl H3).new nl3
     have hl3:upd H3 l3 (.lst []) l3=some (.lst (([]:List Int).map V.int)):=AH
     generalize upd H3 l3 (.lst [])=H4 at s34 hl3 ⊢
     have B4:=B3.mono s34
     have kb4:=kb13.trans (KeepBut.of (xs:=[PL,PB]) s34)
     have tabL4:=Bm s34 tabL3
     have tabB4:=Bm s34 tab3
     refine⟨_,_,BM (SqL.of B4.bf'),BM (SqL.of hl3),BF _,BF _,?_⟩
     rw[Cw]
     refine⟨_,rfl,?_⟩
     unfold Hv at rb
     cases hjb:L.judgeBook u with
     | error e =>
      rw[hjb] at rb
      have rb:bfl=[(e.1:Int),(e.2:Int)]:=rb
      refine bT (by rw[decide_eq_false (by rw[rb];simp)];rfl) ?_
      refine⟨(show 1≤sizeLine from CA (by decide)),fun l nl=>?_⟩
      have ss:=(Same.refl H4).new (o:=.lst [.int (-9)]) nl
      have hl:upd H4 l (.lst [.int (-9)]) l=some (.lst [.int (-9)]):=AH
      generalize upd H4 l (.lst [.int (-9)])=H5 at ss hl ⊢
      have ho5:=ss _ _ (s34 _ _ ho3)
      have hbf5:=ss _ _ B4.bf'
      refine⟨_,rfl,xb,CB,dx3,_,_,rfl,ho5,TB.cl,TB.fault,MN,l,q.bf,_,_,rfl,rfl,hl,hbf5,?_,fun l6 nl6=>?_⟩
      ·rw[rb]
       exact(show 3≤sizeLine from CA (by decide))
      have s6:=(Same.refl H5).new (o:=.lst ([V.int (-9)]++bfl.map V.int)) nl6
      refine fin _ l6 [-9,(e.1:Int),(e.2:Int)] .non .non (kb4.trans (KeepBut.of (ss.trans s6))) (Bm (ss.trans s6) tabL4) (Bm (ss.trans s6) tabB4) ?_ fun G' _=>?_
      ·rw[AH,rb];rfl
      ·unfold ER
       rw[if_neg hmuch,hj]
       dsimp only
       rw[hjb]
     | ok Bk =>
      rw[hjb] at rb
      obtain⟨rfl,rfl,rfl,hle⟩:=rb
      refine bF (by rw[decide_eq_true rfl];rfl) ?_
      refine⟨Au _,fun l nl=>⟨_,rfl,_,rfl,?_⟩⟩
      have ss:=(Same.refl H4).new (o:=.lst []) nl
      refine fin _ l [] (.ref xl) (.ref xb) (kb4.trans (KeepBut.of ss)) (Bm ss tabL4) (Bm ss tabB4) AH fun G' s'=>?_
      unfold ER
      rw[if_neg hmuch,hj]
      dsimp only
      rw[hjb]
      exact⟨rfl,xb,q,rfl,B4.mono (ss.trans s'),hle,xl,p,rfl,(L2.monoT (Rr tabB2 kb3)).mono (s34.trans (ss.trans s')),hW⟩
end
end Fb
end
section
set_option maxRecDepth 100000
set_option maxHeartbeats 4000000
namespace Fb
open PySem PySem.Spec PyProof.Rows L2
open PySem.W (CodeHd tabObj kla_obj kla_fn envX)
structure YE (K:AB) (PL PB:Addr) (H:Hp) (a b:Addr) (t u:Aq):Prop where
 ta:SqL K H a ((zs t).map V.int)
 ub:SqL K H b ((zs u).map V.int)
 lt:t.length < 80000
 lu:u.length < 80000
 pl:BY H PL (Bs CU) C0
 pb:BY H PB (Bs CT) Cz
theorem fA {CL CK CB CE:Addr}{H:Hp}{t u:Aq}{lv bv:V} (h:ER CL CK CB CE H t u [] lv bv):¬(65536 < t.length∨65536 < u.length)∧∃L B,DX t=.ok L∧L.judgeBook u=.ok B∧∃(x:Addr) (q:BA),bv=.ref x∧BookAt CB CE H x q (zs B.name) B.entries []∧B.entries.length≤2048∧∃(y:Addr) (p:LA),lv=.ref y∧LockAt CL CK H y p (zs L.name) (L.kinds.map zk) []∧Wf L.kinds:=by
 unfold ER at h
 by_cases hm:65536 < t.length∨65536 < u.length
 ·rw[if_pos hm] at h;cases h
 ·rw[if_neg hm] at h
  refine⟨hm,?_⟩
  cases hj:DX t with
  | error e=>rw[hj] at h;cases h
  | ok L =>
   rw[hj] at h
   dsimp only at h
   cases hb:L.judgeBook u with
   | error e=>rw[hb] at h;cases h
   | ok B=>rw[hb] at h;exact⟨L,B,rfl,hb,h.2⟩
theorem fB {CL CK CB CE:Addr}{H:Hp}{t u:Aq}{rf:List Int}{lv bv:V} (ok:AU→GP→List Int) (h:ER CL CK CB CE H t u rf lv bv) (hr:rf≠[]):
  CJ (rf.map V.int) none (some 1)=(if 65536 < t.length∨65536 < u.length then [-2] else match DX t with
  | .error _=>[-6]
  | .ok L=>match L.judgeBook u with
   | .error _=>[-9]
   | .ok B=>ok L B).map V.int:=by
 unfold ER at h
 by_cases hm:65536 < t.length∨65536 < u.length
 ·rw[if_pos hm] at h ⊢;rw[h];rfl
 ·rw[if_neg hm] at h ⊢
  cases hj:DX t with
  | error e=>rw[hj] at h;have h:rf=[-6]:=h;rw[h];rfl
  | ok L =>
   rw[hj] at h
   dsimp only at h ⊢
   cases hb:L.judgeBook u with
   | error e=>rw[hb] at h;have h:rf=[-9,(e.1:Int),(e.2:Int)]:=h;rw[h];rfl
   | ok B=>rw[hb] at h;exact absurd h.1 hr
end Fb
end
section
set_option maxRecDepth 100000
set_option maxHeartbeats 4000000
namespace Fb
open PySem PySem.Spec PyProof.Rows L2
section
variable {P:Program}{w:World}
abbrev tk2 (P:Program) (w:World):HeapKind P w (List Key):=tupleKind (CN P w)
inductive NIt (P:Program) (w:World) (h:Heap):List (List Key)→List Value→Prop
 | nil:NIt P w h [] []
 | cons {k:List Key} {q:Addr} {ks:List (List Key)} {us:List Value}:(tk2 P w).is h k q→NIt P w h ks us→NIt P w h (k::ks) (.ref q::us)
def IsN (P:Program) (w:World) (h:Heap) (ks:List (List Key)) (a:Addr):Prop:=∃ob its m,h.get? a=some ob∧ob.cls=.type "tuple"∧ob.data=.seq its m∧NIt P w h ks its.toList
theorem NIt.inj {h:Heap}{x:List (List Key)}{us:List Value} (hx:NIt P w h x us):∀{y:List (List Key)},NIt P w h y us→x=y:=by
 induction hx with
 | nil=>intro y hy;cases hy;rfl
 | cons h1 _ ih =>
  intro y hy
  cases hy with
  | cons h2 t2=>rw[(tk2 P w).inj h1 h2,ih t2]
theorem NIt.map {h h':Heap} (hk:∀k q,(tk2 P w).is h k q→(tk2 P w).is h' k q) {x:List (List Key)}{us:List Value} (hx:NIt P w h x us):NIt P w h' x us:=by
 induction hx with
 | nil=>exact .nil
 | cons h1 _ ih=>exact .cons (hk _ _ h1) ih
theorem IsN.ty {s:Shared}{ks:List (List Key)}{a:Addr} (x:IsN P w s.heap ks a):s.TypeIs (.ref a) "tuple":=by
 obtain⟨ob,_,_,ho,hc,_⟩:=x
 exact⟨ob,ho,hc⟩
theorem IsN.inj {h:Heap}{a:Addr}{x y:List (List Key)} (hx:IsN P w h x a) (hy:IsN P w h y a):x=y:=by
 obtain⟨ob,its,m,e1,_,d1,i1⟩:=hx
 obtain⟨ob',its',m',e2,_,d2,i2⟩:=hy
 cases AV (e1.symm.trans e2)
 rw[d1] at d2
 injection d2 with h1 _
 subst h1
 exact i1.inj i2
theorem IsN.keeps {h h':Heap}{ks:List (List Key)}{a d:Addr}{o:Obj}{es:Array DictEntry}{ep:Nat} (x:IsN P w h ks a) (ho:h.get? d=some o) (hd:o.data=.dict es ep) (hs:Gg d h h'):IsN P w h' ks a:=by
 obtain⟨ob,its,m,e1,c1,d1,i1⟩:=x
 have ne:a≠d:=fun z=>by
  subst z
  cases AV (e1.symm.trans ho)
  rw[hd] at d1
  cases d1
 exact⟨ob,its,m,(hs.2 a ne).trans e1,c1,d1,i1.map fun k q z=>(tk2 P w).keeps z ho hd hs⟩
def NF (P:Program) (w:World) (ks:List (List Key)):Int:=reduceHash (Hl (ks.map (tk2 P w).hash))
def ND (P:Program) (w:World) (ks:List (List Key)):Nat:=(ks.map (tk2 P w).draws).sum+1
variable {A:Around}{E:Value→Shared→Prop}{s:Shared}
theorem ah {ks:List (List Key)}{a:Addr}{Q:Int→Shared→Prop} (hu:A.units+4 < cLine) (hk:IsN P w s.heap ks a) (h:Q (NF P w ks) { s with toks:=s.toks+ND P w ks }):wpAny (model P w) A (pyHash (.ref a)) Q E s:=by
 have ty:=hk.ty
 obtain⟨ob,its,m,ho,_,hd,hi⟩:=hk
 unfold pyHash
 first | unfold pyHashByItsType | skip
 first | refine AE (wpAny_cRoomFor_or (.inr (JJ (LK _ 4) hu)) ?_) | skip
 refine AE (Fx ty Li.lookup ?_)
 show wpAny _ _ (ite ((some (Value.builtin "tuple.__hash__")==some Co)=true) _ _) Q E s
 rw[if_neg (by rw[beq_builtin_none];decide)]
 refine AE (Fx ty Li.lookup ?_)
 show wpAny _ _ (bind (callSpecialIfBoundUnlessNone? (.ref a) "__hash__" _) _) Q E s
 refine AE (wpAny_callSpecialIfBoundUnlessNone?_slot ty Li (Ei Li ty F.entry_tuple_hash ?_ (F.args_tuple_hash_1 _)))
 show wpAny _ _ (bind (Builtin.Tuple.tupleItemsOf (.ref a)) _) _ _ s
 refine AE (P1 ho hd (AE ?_))
 rw[← OT]
 refine Gp _ (fun rest (b:Array Int) s'=>∃done left,ks=done++left∧NIt P w s.heap left rest∧b.toList=done.map (tk2 P w).hash∧s'={ s with toks:=s.toks+(done.map (tk2 P w).draws).sum }) _ ?_ ?_ _ _ ⟨[],ks,rfl,hi,rfl,rfl⟩
 ·rintro x rest b s' ⟨done,left,rfl,hl,hb,rfl⟩
  cases hl with
  | @cons k q ks' _ h1 hl' =>
   refine AE ((tk2 P w).pyHash (show _ < cLine from ?_) h1 ?_)
   ·show A.units+1 < cLine
    omega
   ·first
     | exact AL ⟨done++[k],ks',by simp,hl',by simp[hb],by simp[LJ]⟩
     | exact AE (AL (AL ⟨done++[k],ks',by simp,hl',by simp[hb],by simp[LJ]⟩))
 ·rintro b s' ⟨done,left,rfl,hl,hb,rfl⟩
  cases hl
  rw[CO] at h
  show wpAny _ _ (retInt (Hl b.toList)) _ _ _
  rw[hb]
  refine X7 ?_
  show wpAny _ _ (ite ((decide (-(2:Int) ^ 63≤Hl (done.map (tk2 P w).hash))&&decide (Hl (done.map (tk2 P w).hash) < 2 ^ 63))=true) _ _) Q E _
  unfold NF reduceHash ND at h
  by_cases hr:(decide (-(2:Int) ^ 63≤Hl (done.map (tk2 P w).hash))&&decide (Hl (done.map (tk2 P w).hash) < 2 ^ 63))=true
  ·rw[if_pos hr] at h ⊢
   exact AL (by simpa [LJ] using h)
  ·rw[if_neg hr] at h ⊢
   exact AE (JU (AL (by simpa [LJ] using h)))
theorem ag {x y:List (List Key)}{a b:Addr}{R:PySem.Fin→Shared→Prop} (hu:A.units+2 < cLine) (hx:IsN P w s.heap x a) (hy:IsN P w s.heap y b) (h:R (.done (.ret (.bool (decide (x=y))))) s):wpAny (model P w) A (Builtin.«tuple.__eq__» ⟨[.ref a,.ref b],[]⟩) R E s:=by
 have tyb:=hy.ty
 obtain⟨oa,xs,na,hoa,_,hda,hia⟩:=hx
 obtain⟨ob,ys,nb,hob,_,hdb,hib⟩:=hy
 show wpAny _ _ (bind (isInstance (.ref b) (.type "tuple")) _) _ _ s
 refine AE (JS tyb Pn ?_)
 simp only[HV,CW,if_false]
 refine AE (P1 hoa hda (AE (P1 hob hdb (AE ?_))))
 refine Gp _ (fun rest r s'=>r.1=none∧s'=s∧∃x' y' xs' ys',rest=List.zip xs' ys'∧NIt P w s.heap x' xs'∧NIt P w s.heap y' ys'∧decide (x'=y')=decide (x=y)∧(xs'.length==ys'.length)=(xs.size==ys.size)) _ ?_ ?_ _ _ ⟨rfl,rfl,x,y,xs.toList,ys.toList,rfl,hia,hib,rfl,by simp⟩
 ·rintro⟨u,v⟩ rest r s' ⟨hr,rfl,x',y',xs',ys',hz,hx',hy',hdec,hlen⟩
  cases hx' with
  | nil=>simp at hz
  | @cons k1 q1 x2 us2 h1 hx2 =>
   cases hy' with
   | nil=>simp at hz
   | @cons k2 q2 y2 vs2 h2 hy2 =>
    simp only[He,List.cons.injEq,Prod.mk.injEq] at hz
    obtain⟨⟨rfl,rfl⟩,rfl⟩:=hz
    refine AE ((tk2 P w).eqBool (x:=k1) (y:=k2) (show A.units < cLine by omega) h1 h2 ?_)
    by_cases hk:k1=k2
    ·subst hk
     rw[decide_eq_true rfl]
     simp only[HV,CW,if_false]
     refine AL ⟨rfl,rfl,x2,y2,us2,vs2,rfl,hx2,hy2,?_,by simpa using hlen⟩
     rw[← hdec]
     by_cases hxy:x2=y2 <;> simp[hxy]
    ·rw[decide_eq_false hk]
     simp only[Bool.not_false,if_true]
     have hf:decide (x=y)=false:=by rw[← hdec];simp[hk]
     rw[hf] at h
     exact AE (AL (AL (AL h)))
 ·rintro⟨r1,r2⟩ s' ⟨hr,rfl,x',y',xs',ys',hz,hx',hy',hdec,hlen⟩
  simp only at hr
  subst hr
  refine AL ?_
  have hfin:(xs.size==ys.size)=decide (x=y):=by
   rw[← hdec,← hlen]
   cases hx' with
   | nil=>cases hy' <;> simp
   | cons _ _ =>
    cases hy' with
    | nil=>simp
    | cons _ _=>simp at hz
  show R (.done (.ret (.bool (xs.size==ys.size)))) s'
  rw[hfin]
  exact h
theorem ae {x y:List (List Key)}{a b:Addr}{Q:Bool→Shared→Prop} (hu:A.units+4 < cLine) (hx:IsN P w s.heap x a) (hy:IsN P w s.heap y b) (h:Q (decide (x=y)) s):wpAny (model P w) A (eqBool (.ref a) (.ref b)) Q E s:=by
 unfold eqBool
 try with_reducible refine Gq ?_
 show wpAny _ _ (ite ((Ak a==Ak b)=true) _ _) Q E s
 by_cases hab:(Ak a==Ak b)=true
 ·rw[if_pos hab]
  have e:a=b:=by have:=eq_of_beq hab;injection this
  subst e
  cases hx.inj hy
  exact AE (JU (AL (by simpa using h)))
 ·rw[if_neg hab]
  exact AE (X8 (op:=.Eq) hx.ty hy.ty Lg (Ei Lg hx.ty F.entry_tuple_eq (ag (show _+2 < cLine by show A.units+1+2 < cLine;omega) hx hy ⟨_,rfl,(fun e=>nomatch e),EN h⟩) (F.args_tuple_eq_2 _ _)) (by omega))
theorem er {ks:List Key}{a:Addr}{n:Nat}{Q:Bool→Shared→Prop} (hk:IsTupleKey (CN P w) s.heap ks a) (h:Q true s):wpAny (model P w) A (eqIsQuiet (n+1) (.ref a)) Q E s:=by
 have ty:=hk.typeIs
 obtain⟨o,its,m,ho,_,hd,hi⟩:=hk
 unfold eqIsQuiet
 refine AE (Fx ty Lg.lookup ?_)
 show wpAny _ _ (bind (isInstance (.ref a) (.type "tuple")) _) _ _ s
 refine AE (JS ty Pn ?_)
 simp only[HV,CW,if_false]
 refine AE (Ej ho hd (AE ?_))
 show wpAny _ _ (forIn its _ _) _ _ s
 rw[← OT]
 refine Gp _ (fun rest r s'=>r.1=none∧s'=s∧∀v∈rest,carriedByValue v=true) _ ?_ ?_ _ _ ⟨rfl,rfl,hi.byValue⟩
 ·rintro v rest r s' ⟨hr,rfl,hall⟩
  rw[eqIsQuiet_byValue _ (hall v AZ)]
  refine AE (AL ?_)
  simp only[HV,CW,if_false]
  exact AL ⟨rfl,rfl,fun u hu'=>hall u (Ar _ hu')⟩
 ·rintro⟨r1,r2⟩ s' ⟨hr,rfl,_⟩
  simp only at hr
  subst hr
  exact AL h
theorem ai {ks:List (List Key)}{a:Addr}{Q:Bool→Shared→Prop} (hk:IsN P w s.heap ks a) (h:Q true s):wpAny (model P w) A (eqIsQuiet 8 (.ref a)) Q E s:=by
 have ty:=hk.ty
 obtain⟨o,its,m,ho,_,hd,hi⟩:=hk
 unfold eqIsQuiet
 refine AE (Fx ty Lg.lookup ?_)
 show wpAny _ _ (bind (isInstance (.ref a) (.type "tuple")) _) _ _ s
 refine AE (JS ty Pn ?_)
 simp only[HV,CW,if_false]
 refine AE (Ej ho hd (AE ?_))
 show wpAny _ _ (forIn its _ _) _ _ s
 rw[← OT]
 refine Gp _ (fun rest r s'=>r.1=none∧s'=s∧∃ks',NIt P w s.heap ks' rest) _ ?_ ?_ _ _ ⟨rfl,rfl,ks,hi⟩
 ·rintro v rest r s' ⟨hr,rfl,ks',hn⟩
  cases hn with
  | cons h1 h2 =>
   refine AE (er (n:=6) h1 ?_)
   simp only[HV,CW,if_false]
   exact AL ⟨rfl,rfl,_,h2⟩
 ·rintro⟨r1,r2⟩ s' ⟨hr,rfl,_⟩
  simp only at hr
  subst hr
  exact AL h
end
def GH (P:Program) (w:World):HeapKind P w (List (List Key)) where
 is:=IsN P w
 hash:=NF P w
 draws:=ND P w
 room:=fun A=>A.units+4 < cLine
 inj:=fun hx hy=>hx.inj hy
 keeps:=fun x ho hd hs=>x.keeps ho hd hs
 pyHash:=fun hu hk h=>ah hu hk h
 eqBool:=fun hu hx hy h=>ae hu hx hy h
 quiet:=fun hk h=>ai hk h
end Fb
end
section
set_option maxRecDepth 100000
set_option maxHeartbeats 4000000
namespace Fb
open PySem PySem.Spec PyProof.Rows L2
def Bi:List (List Int)→List (List Int)→Bool
 | [],[]=>false
 | [],_::_=>true
 | _::_,[]=>false
 | x::xs,y::ys=>if x=y then Bi xs ys else HT.lexLt x y
def kL (l:List Int):List Key:=l.map Av
theorem Mu:∀{a b:List Int},kL a=kL b→a=b
 | [],[],_=>rfl
 | [],_::_,h=>by cases h
 | _::_,[],h=>by cases h
 | x::a,y::b,h=>by
  have h:(Av x:Key)::kL a=Av y::kL b:=h
  injection h with h1 h2
  rw[Ht h1,Mu h2]
theorem Mx:∀{a b:List (List Int)},a.map kL=b.map kL→a=b
 | [],[],_=>rfl
 | [],_::_,h=>by cases h
 | _::_,[],h=>by cases h
 | x::a,y::b,h=>by
  injection h with h1 h2
  rw[Mu h1,Mx h2]
theorem R1:∀{a b:List Int},a≠b→HT.lexLt a b=!HT.lexLt b a
 | [],[],h=>absurd rfl h
 | [],_::_,_=>rfl
 | _::_,[],_=>rfl
 | x::a,y::b,h=>by
  rw[HT.lexLt_cons,HT.lexLt_cons]
  by_cases e:x=y
  ·subst e
   rw[if_pos rfl,if_pos rfl]
   exact R1 fun z=>h (by rw[z])
  ·rw[if_neg e,if_neg (Af e)]
   by_cases z:x < y
   ·rw[decide_eq_true z,decide_eq_false (by omega)];rfl
   ·rw[decide_eq_false z,decide_eq_true (by omega)];rfl
theorem R3:∀{a b:List (List Int)},a≠b→Bi a b=!Bi b a
 | [],[],h=>absurd rfl h
 | [],_::_,_=>rfl
 | _::_,[],_=>rfl
 | x::a,y::b,h=>by
  show(if x=y then Bi a b else HT.lexLt x y)=!(if y=x then Bi b a else HT.lexLt y x)
  by_cases e:x=y
  ·subst e
   rw[if_pos rfl,if_pos rfl]
   exact R3 fun z=>h (by rw[z])
  ·rw[if_neg e,if_neg (Af e)]
   exact R1 e
section
variable {P:Program}{w:World}{A:Around}{E:Value→Shared→Prop}{s:Shared}
def TI (P:Program) (w:World) (h:Heap) (k:List Int) (v:Value):Prop:=∃q its,v=.ref q∧IsTup h q its∧IntsAre its.toList k∧(tk2 P w).is h (kL k) q
theorem aL {a b:Addr}{va vb:Array Value}{xs ys:List (List Int)}{Q:Value→Shared→Prop} (ha:IsTup s.heap a va) (hb:IsTup s.heap b vb) (h1:Paired (fun v k=>TI P w s.heap k v) va.toList xs) (h2:Paired (fun v k=>TI P w s.heap k v) vb.toList ys)
  (hu:A.units+8 < cLine) (h:Q (.bool (Bi xs ys)) s):wpAny (model P w) A (richCompare .Lt (.ref a) (.ref b)) Q E s:=by
 obtain⟨⟨cls,dd,data,sl⟩,ho,hc,n,hd⟩:=id ha
 obtain⟨⟨cls2,dd2,data2,sl2⟩,ho2,hc2,n2,hd2⟩:=id hb
 simp only at hc hd hc2 hd2
 subst hc hd hc2 hd2
 refine X8 (op:=.Lt) ⟨_,ho,rfl⟩ ⟨_,ho2,rfl⟩ PV (Ei PV ⟨_,ho,rfl⟩ XJ ?_ (XG _ _)) (by omega)
 obtain⟨hp,g,d,tk,os⟩:=s
 have f2:=PF
 have z1:va.size=xs.length:=by rw[← FA h1];simp
 have z2:vb.size=ys.length:=by rw[← FA h2];simp
 wp_walk using W4 ho,W4 ho2,Gp _ (fun rest b s'=>b.1=none∧s'=⟨hp,g,d,tk,os⟩∧∃(vs ws:List Value) (ks js:List (List Int)),rest=vs.zip ws∧
   Paired (fun v k=>TI P w hp k v) vs ks∧Paired (fun v k=>TI P w hp k v) ws js∧ks.length+vb.size=js.length+va.size∧Q (.bool (Bi ks js)) ⟨hp,g,d,tk,os⟩) _
 case turn =>
  rintro⟨y,x⟩ rest r s' ⟨hr,rfl,vs,ws,ks,js,hz,hv,hw,hlen,hR⟩
  cases hv with
  | nil=>rw[Ws] at hz;cases hz
  | @cons v k vs' ks' hv1 hv' =>
   cases hw with
   | nil=>rw[Wt] at hz;cases hz
   | @cons u j ws' js' hw1 hw' =>
    rw[He] at hz
    injection hz with hyx hrest
    injection hyx with hy hx
    subst hy hx
    obtain⟨q1,i1,rfl,t1,n1,k1⟩:=hv1
    obtain⟨q2,i2,rfl,t2,n2,k2⟩:=hw1
    have hR:Q (.bool (if k=j then Bi ks' js' else HT.lexLt k j)) ⟨hp,g,d,tk,os⟩:=hR
    simp only[A9] at hlen
    refine AE ((tk2 P w).eqBool (x:=kL k) (y:=kL j) (show _ < cLine by show A.units+1 < cLine;omega) k1 k2 ?_)
    by_cases e:k=j
    ·rw[decide_eq_true (show kL k=kL j by rw[e])]
     rw[if_pos e] at hR
     wp_walk
     exact⟨rfl,rfl,_,_,_,_,hrest,hv',hw',by omega,hR⟩
    ·rw[decide_eq_false (show ¬kL k=kL j from fun z=>e (Mu z))]
     rw[if_neg e] at hR
     have hri:∀(Q':Value→Shared→Prop) (E':Value→Shared→Prop),Q' (.bool (HT.lexLt k j)) ⟨hp,g,d,tk,os⟩→wpAny (model P w) A.in1 (richCompare .Lt (.ref q1) (.ref q2)) Q' E' ⟨hp,g,d,tk,os⟩:=fun Q' E' hq=>HT.lt_tupInts t1 t2 n1 n2 (show A.units+1 < cLine by omega) hq
     wp_walk using hri
     exact⟨_,rfl,(fun z=>nomatch z),by simpa using hR⟩
 case fin =>
  rintro⟨r1,r2⟩ s' ⟨hr,rfl,vs,ws,ks,js,hz,hv,hw,hlen,hR⟩
  simp only at hr
  subst hr
  have hv0:Bi ks js=decide (va.size < vb.size):=by
   cases hv with
   | nil =>
    cases hw with
    | nil =>
     simp only[Ea] at hlen
     exact(decide_eq_false (by omega)).symm
    | cons _ _ =>
     simp only[Ea,A9] at hlen
     exact(decide_eq_true (by omega)).symm
   | cons _ _ =>
    cases hw with
    | nil =>
     simp only[Ea,A9] at hlen
     exact(decide_eq_false (by omega)).symm
    | cons _ _=>rw[He] at hz;cases hz
  rw[hv0] at hR
  wp_walk
  exact⟨_,rfl,(fun z=>nomatch z),by first | exact hR | simpa using hR⟩
 ·exact⟨rfl,rfl,_,_,xs,ys,rfl,h1,h2,by omega,h⟩
theorem aW {I S:Addr}{fp wr:List Addr}{n:Nat}{Pv:Nat→Value→Prop}{St:Nat→Heap→Prop}{R:Result→Shared→Prop}{h0:Heap} (W:Walks P w A.in1 I fp wr n Pv St) (bt:Nat→Nat→Bool)
  (hc:∀i j vi vj (s':Shared) (Q':Value→Shared→Prop) (E':Value→Shared→Prop),(∀b o,h0.get? b=some o→s'.heap.get? b=some o)→Pv i vi→Pv j vj→Q' (.bool (bt i j)) s'→wpAny (model P w) A.in1 (richCompare .Lt vi vj) Q' E' s')
  (hS0:S∉fp) (h0S:h0.get? S=none) (h0w:∀b∈wr,h0.get? b=none):
  ∀(k j:Nat) (s:Shared) (vb:Value) (c:Nat),n - (j+1)=k→j+1≤n→St (j+1) s.heap→Pv (argBest bt j) vb→(∀b o,h0.get? b=some o→s.heap.get? b=some o)→s.heap.get? S=some { cls:=.type "list",dict:=none,data:=.seq #[vb,vb] c,slots:=#[] }→
  (∀v h' tk,Pv (argBest bt (n - 1)) v→(∀b o,h0.get? b=some o→h'.get? b=some o)→R (.ok (.ret v)) { s with heap:=h',toks:=tk })→codeAny (model P w) A (.builtin "min.loop" ⟨[.ref I,.none,.ref S],[]⟩) R s:=by
 have hSw:S∉wr:=fun z=>hS0 (W.sub _ z)
 have hnm:(toString "min"++toString ".loop":String)="min.loop":=by decide
 have keepW:∀{h1 h2:Heap},(∀b o,h0.get? b=some o→h1.get? b=some o)→(∀b o,b∉wr→h1.get? b=some o→h2.get? b=some o)→∀b o,h0.get? b=some o→h2.get? b=some o:=fun k1 k2 b o e=>k2 b o (fun m=>by rw[h0w b m] at e;cases e) (k1 b o e)
 have keepS:∀{h1:Heap} {f:Obj→Obj},(∀b o,h0.get? b=some o→h1.get? b=some o)→∀b o,h0.get? b=some o→(h1.update S f).get? b=some o:=fun k1 b o e=>(Fs _ _ (fun z=>by rw[← z,h0S] at e;cases e)).trans (k1 b o e)
 intro k
 induction k with
 | zero =>
  intro j s vb c hk hj st hb hG hS hR
  have hin:j+1=n:=by omega
  refine JP PU ?_
  rw[JL Gf _]
  show wpAny _ _ (bind (seqItems? (.ref S)) _) _ _ s
  refine AE (Ej hS rfl ?_)
  show wpAny _ _ (bind (tryCatch (pyNext (.ref I)) _) _) _ _ s
  refine AE (Lz (W.done s _ _ (hin▸st) fun h' tk hk'=>?_))
  have hS':=hk' S _ hSw hS
  show wpAny _ _ (bind (updateSeq S (fun _=>#[])) _) _ _ _
  refine AE (Gu hS' rfl (AE (Gr (AL ?_))))
  exact hR vb _ tk (by rw[← hin];exact hb) (keepS (keepW hG hk'))
 | succ k ih =>
  intro j s vb c hk hj st hb hG hS hR
  have hlt:j+1 < n:=by omega
  refine JP PU ?_
  rw[JL Gf _]
  show wpAny _ _ (bind (seqItems? (.ref S)) _) _ _ s
  refine AE (Ej hS rfl ?_)
  show wpAny _ _ (bind (tryCatch (pyNext (.ref I)) _) _) _ _ s
  refine AE (Lz (W.item (j+1) s _ _ hlt st fun v h' tk hP st' hk'=>?_))
  have hS':=hk' S _ hSw hS
  have hG':=keepW hG hk'
  show wpAny _ _ (bind (tryCatch (holding [v,v] (bind (richCompare .Lt v vb) _)) _) _) _ _ _
  refine AE (Lz (Gq (AE (hc (j+1) (argBest bt j) v vb _ _ _ hG' hP hb ?_))))
  refine AE (Gq (EN (AE (Gr (AL ?_)))))
  cases hbt:bt (j+1) (argBest bt j) with
  | true =>
   simp only[if_true]
   refine AE (Gu hS' rfl (AE (Gr ?_)))
   rw[hnm]
   refine AL ⟨Fw Gf _,ih (j+1) _ v _ (by omega) hlt (W.frame _ _ _ st' fun b hbf o e=>?_) (by simp only[argBest,hbt,if_true];exact hP) (keepS hG') (Gh _ hS' rfl) fun v' h2 tk2 hP' hk2=>hR v' h2 tk2 hP' hk2⟩
   exact(Fs _ _ (fun z:S=b=>hS0 (by rw[z];exact hbf))).trans e
  | false =>
   simp only[CW,if_false]
   refine AE (Gr ?_)
   rw[hnm]
   exact AL ⟨Fw Gf _,ih (j+1) _ vb c (by omega) hlt st' (by simp only[argBest,hbt,CW,if_false];exact hb) hG' hS' fun v' h2 tk2 hP' hk2=>hR v' h2 tk2 hP' hk2⟩
theorem SN {l:Addr}{items:Array Value}{Q:Value→Shared→Prop} (hh:A.handled=none) (hl:s.heap.IsList l items) (hne:0 < items.size) (bt:Nat→Nat→Bool)
  (hc:∀i j vi vj (s':Shared) (Q':Value→Shared→Prop) (E':Value→Shared→Prop),(∀b o,s.heap.get? b=some o→s'.heap.get? b=some o)→items[i]?=some vi→items[j]?=some vj→Q' (.bool (bt i j)) s'→wpAny (model P w) A.in1 (richCompare .Lt vi vj) Q' E' s')
  (h:∀v h' tk,items[argBest bt (items.size - 1)]?=some v→(∀b o,s.heap.get? b=some o→h'.get? b=some o)→Q v { s with heap:=h',toks:=tk }):wpAny (model P w) A (call (.builtin "min") [.ref l]) Q E s:=by
 have hnm:(toString "min"++toString ".loop":String)="min.loop":=by decide
 have hll:l < s.heap.objs.size:=by obtain⟨_,e,_⟩:=hl;exact Ah e
 refine call_function_tree F.kind_min F.plain_min F.entry_min (F.args_min1 _) ?_
 show wpAny _ _ (bind (W5 "min" ["key","default"] 0 ⟨[],[]⟩) _) _ _ s
 refine AE (Lv (show W5 "min" ["key","default"] 0 ⟨[],[]⟩=pure [none,none] from rfl) (AE (AL (AE ?_))))
 refine Pz hl ?_
 have st:(s.heap.push { cls:=.type "list_iterator",data:=.fields #[.ref l,.int 0 0] }).IsListIter s.heap.objs.size l 0∧(s.heap.push { cls:=.type "list_iterator",data:=.fields #[.ref l,.int 0 0] }).IsList l items:=⟨⟨_,BH _ rfl,rfl,rfl⟩,hl.push _⟩
 refine AE (Gs ?_)
 generalize hh1:s.heap.push { cls:=.type "list_iterator",data:=.fields #[.ref l,.int 0 0] }=h1 at st
 have hsz1:h1.objs.size=s.heap.objs.size+1:=by rw[← hh1];exact Ct ..
 have W:=Pk (prog:=P) (w:=w) (A:=A.in1) hh s.heap.objs.size l (BO hll) items
 have k1:∀b o,s.heap.get? b=some o→h1.get? b=some o:=fun b o e=>by rw[← hh1];exact A2 _ e
 have free:∀b,s.heap.objs.size≤b→s.heap.get? b=none:=fun b hb=>by
  cases e:s.heap.get? b with
  | none=>rfl
  | some o=>exact absurd (Bg (Ah e) hb) (Bu _)
 have hSf:h1.objs.size∉[s.heap.objs.size,l]:=fun m=>by
  rcases AY.mp m with z | z
  ·rw[hsz1] at z
   exact Bu _ (O1 (Hi _) z)
  ·have z:=A1.mp z
   rw[hsz1] at z
   exact Bu _ (LO (O1 (Hi _) z) hll)
 rw[hnm]
 refine AL ⟨Fw Gf _,JP PU ?_⟩
 rw[JL Gf _]
 show wpAny _ _ (bind (seqItems? (.ref h1.objs.size)) _) _ _ _
 refine AE (Ej (BH _ rfl) rfl ?_)
 show wpAny _ _ (bind (tryCatch (pyNext (.ref s.heap.objs.size)) _) _) _ _ _
 refine AE (Lz (W.item 0 _ _ _ hne (W.frame _ _ _ st fun b _ o e=>A2 _ e) fun v h' tk hP st' hk'=>?_))
 have hS':=hk' h1.objs.size _ (fun m=>hSf (W.sub _ m)) (BH _ rfl)
 show wpAny _ _ (bind (updateSeq h1.objs.size (fun _=>#[v,v])) _) _ _ _
 refine AE (Gu hS' rfl ?_)
 rw[hnm]
 refine AL ⟨Fw Gf _,aW (h0:=s.heap) W bt hc hSf (free _ (by rw[hsz1];exact LM _)) (fun b m=>by rw[A1.mp m];exact free _ (AO _)) _ 0 _ v _ rfl hne (W.frame _ _ _ st' fun b hbf o e=>?_) hP (fun b o e=>?_) (Gh _ hS' rfl) fun v' h2 tk2 hP' hk2=>h v' h2 tk2 hP' hk2⟩
 ·exact(Fs _ _ (fun z:h1.objs.size=b=>hSf (by rw[z];exact hbf))).trans e
 ·have hb:=Ah e
  refine(Fs _ _ (fun z:h1.objs.size=b=>?_)).trans (hk' b o (fun m=>?_) (A2 _ (k1 b o e)))
  ·rw[hsz1] at z
   exact Bu _ (LO (O1 (Hi _) z) hb)
  ·rw[A1.mp m] at hb
   exact Bu _ hb
end
end Fb
end
section
set_option maxRecDepth 100000
set_option maxHeartbeats 4000000
namespace Fb
open PySem PySem.Spec PyProof.Rows L2
theorem aK:typeLookup (.type "list_reverseiterator") "__len__"=pure none:=by rw[Xu,Xp];kernel_rfl
theorem aJ:typeLookup (.type "list_reverseiterator") "__length_hint__"=pure (some (.builtin "list_reverseiterator.__length_hint__")):=by rw[Xu,Xp];kernel_rfl
section
variable {P:Program}{w:World}{A:Around}{E:Value→Shared→Prop}{s:Shared}
theorem Zb {r:Addr}{Q:Bool→Shared→Prop} (ty:s.TypeIs (.ref r) "list_reverseiterator") (h:Q false s):wpAny (model P w) A (W9 (.ref r)) Q E s:=by
 unfold W9
 refine AE (Fx ty aK ?_)
 refine Hs (fun hab=>absurd hab (by decide)) (fun _=>?_)
 refine Hs (fun hab=>absurd hab (by decide)) (fun _=>?_)
 refine AE (Fx ty aJ ?_)
 generalize hid:("list_reverseiterator.__length_hint__":String)=id0
 wp_delta
 rw[show splitId id0=some ("list_reverseiterator","__length_hint__") from by subst hid;decide +kernel]
 subst hid
 refine AE (JS (T:="list_reverseiterator") (b:=true) ty (by rw[isSubtype_type];kernel_rfl) ?_)
 refine Hs (fun hab=>absurd hab (by decide)) (fun _=>?_)
 refine Hs (fun _=>?_) (fun hab=>absurd (by decide +kernel) hab)
 refine Hs (fun hab=>absurd hab (by decide +kernel)) (fun _=>?_)
 exact AL h
theorem aD {it l:Addr}{items:Array Value}{Q:Value→Shared→Prop} (hh:A.handled=none) (hit:s.heap.IsRevIter it l ((items.size:Int) - 1)) (hl:s.heap.IsList l items) (hne:l≠it) (hsz:items.size≤sizeLine)
  (hQ:∀h' tk acc c,(∀b o,b≠it→s.heap.get? b=some o→h'.get? b=some o)→h'.get? s.heap.objs.size=some { cls:=.type "list",dict:=none,data:=.seq acc c,slots:=#[] }→ItemsOf (fun i v=>items[items.size - 1 - i]?=some v) acc items.size→Q (.ref s.heap.objs.size) { s with heap:=h',toks:=tk }):
  wpAny (model P w) A (call (.type "list") [.ref it]) Q E s:=by
 have hlt:it < s.heap.objs.size:=by obtain⟨_,e,_⟩:=hit;exact Ah e
 have hll:l < s.heap.objs.size:=by obtain⟨_,e,_⟩:=hl;exact Ah e
 refine callType_codes (Q₁:=fun obj s₁=>obj=.ref s.heap.objs.size∧s₁={ s with heap:=s.heap.push { cls:=.type "list",data:=.seq #[] } }) PySem.F.called_list (PySem.F.typeCall_list_1 _) PySem.F.entry_list_init (code_list_new _ ⟨rfl,rfl⟩) fun obj s₁ h₁=>?_
 obtain⟨rfl,rfl⟩:=h₁
 generalize hS0:s.heap.objs.size=S at *
 have hS:(s.heap.push { cls:=.type "list",data:=.seq #[] }).get? S=some { cls:=.type "list",data:=.seq #[] }:=by rw[← hS0];exact BH _ rfl
 refine⟨⟨_,hS,rfl⟩,PySem.F.args_list_init_2 _ _,?_⟩
 show wpAny _ _ (do let old ← PJ (.ref S);Builtin.List.listUpdate (.ref S) (fun _=>#[]);letGo old.toList.reverse;PH (.ref S) (.ref it) .none) _ _ _
 refine AE ?_
 unfold PJ
 refine AE (Ej hS rfl (AL ?_))
 show wpAny _ _ (bind (updateSeq S (fun _=>#[])) fun _=>bind (letGo (#[]:Array Value).toList.reverse) fun _=>PH (.ref S) (.ref it) .none) _ _ _
 refine AE (Gu hS rfl (AE (Gr ?_)))
 have hS2:=Gh (Eg (fun _=>(#[]:Array Value))) hS rfl
 have nS:∀b o,s.heap.get? b=some o→b≠S:=fun b o e z=>by
  have:=Ah e
  rw[z,← hS0] at this
  exact Bu _ this
 have oth:∀b o,s.heap.get? b=some o→((s.heap.push { cls:=.type "list",data:=.seq #[] }).update S (Eg (fun _=>(#[]:Array Value)))).get? b=some o:=fun b o e=>(Fs _ _ (Af (nS b o e))).trans (A2 _ e)
 generalize (s.heap.push { cls:=.type "list",data:=.seq #[] }).update S (Eg (fun _=>(#[]:Array Value)))=h2 at hS2 oth
 have hit2:h2.IsRevIter it l ((items.size:Int) - 1):=hit.at fun o e=>oth _ _ e
 have hl2:h2.IsList l items:=hl.at fun o e=>oth _ _ e
 have hSit:S≠it:=fun z=>Bu _ (z▸hlt)
 have hSl:S≠l:=fun z=>Bu _ (z▸hll)
 have hSf:S∉[it,l]:=fun m=>by
  rcases AY.mp m with z | z
  ·exact hSit z
  ·exact hSl (A1.mp z)
 have W:=Walks.listRev (prog:=P) (w:=w) (A:=A.in1.in1) hh it l hne items
 unfold PH
 refine AE (P2 (T:="list_reverseiterator") hit2.typeIs ?_)
 have e1:Ld (.ref S) (.ref it)=false:=by simp[Ld,hSit]
 have e2:(DL "list_reverseiterator"==DL "list")=false:=by decide
 have e3:(DL "list_reverseiterator"==DL "tuple")=false:=by decide
 simp only[e1,e2,e3,OV,CW,if_false]
 refine AE (P0 hit2 (AE (Gq (Zb hit2.typeIs ?_))))
 have key:∀(h:Heap) (c₁ tk:Nat),h.IsRevIter it l ((items.size:Int) - 1)→h.IsList l items→(∀b o,s.heap.get? b=some o→h.get? b=some o)→h.get? S=some { cls:=.type "list",data:=.seq #[] c₁ }→
   codeAny (model P w) A.in1 (.builtin "list.extend.loop" ⟨[.ref S,.ref it,.none],[]⟩) (wants (fun r s₂=>r=Co∧Q (Ak S) s₂) E) { s with heap:=h,toks:=tk }:=fun h c₁ tk hi hll' hk hSh=>by
  refine codeAny_extend_loopS W.toS hsz S hSf .none items.size 0 _ #[] c₁ rfl (Au _) ⟨Au _,by simpa using hi,hll'⟩ hSh (ItemsOf.nil _) fun s' acc' c' hm hS' hacc=>?_
  rw[Moved.eq_with hm]
  exact⟨rfl,hQ s'.heap s'.toks acc' c' (fun b o hb e=>hm.heap b o (fun hmem=>by
   rcases AY.mp hmem with z | z
   ·exact nS b o e z
   ·exact hb (A1.mp z)) (hk b o e)) hS' hacc⟩
 refine Hs (fun _=>?_) (fun _=>AL ⟨Fw XN _,key _ _ _ hit2 hl2 oth hS2⟩)
 refine AE (JU (AE ?_))
 show wpAny _ _ (bind (updateSeq S (·.push .none)) fun _=>updateSeq S (·.pop)) _ _ _
 refine AE (Gu hS2 rfl ?_)
 have hS3:=Gh (Eg (·.push Co)) hS2 rfl
 refine Gu (hz:=by seq_fits) hS3 rfl ?_
 have hS4:=Gh (Eg (·.pop)) hS3 rfl
 have oth4:∀b o,b≠S→h2.get? b=some o→((h2.update S (Eg (·.push Co))).update S (Eg (·.pop))).get? b=some o:=fun b o hb e=>(Fs _ _ (Af hb)).trans ((Fs _ _ (Af hb)).trans e)
 exact AL ⟨Fw XN _,key _ _ _ (hit2.at fun o e=>oth4 _ _ (Af hSit) e) (hl2.at fun o e=>oth4 _ _ (Af hSl) e) (fun b o e=>oth4 _ _ (nS b o e) (oth b o e)) hS4⟩
end
def tLR (K:AB) (te:TE):TE:=fun σ H Q=>te σ H fun x H1=>∃(a:Addr) (xs:List V),x=.ref a∧SqL K H1 a xs∧∀l,H1 l=none→Q (.ref l) (upd H1 l (.lst xs.reverse))
theorem YY:bootBuiltins "list"=some (.type "list"):=by decide +kernel
theorem fV {xs:List V}{us:List Value} (r:Vals xs us):∀{ys:List V}{vs:List Value},ys.length=xs.length→vs.length=us.length→(∀i:Nat,i < xs.length→ys[i]?=xs[xs.length - 1 - i]?)→(∀i:Nat,i < us.length→vs[i]?=us[us.length - 1 - i]?)→Vals ys vs:=by
 have at_:∀{xs:List V} {us:List Value},Vals xs us→∀{i:Nat} {x:V} {u:Value},xs[i]?=some x→us[i]?=some u→RelV x u:=by
  intro xs us r
  induction r with
  | nil=>intro i x u h;cases h
  | cons r1 _ ih =>
   intro i x u h1 h2
   cases i with
   | zero=>cases h1;cases h2;exact r1
   | succ i=>exact ih h1 h2
 have mk:∀{ys:List V} {vs:List Value},ys.length=vs.length→(∀(i:Nat) (x:V) (u:Value),ys[i]?=some x→vs[i]?=some u→RelV x u)→Vals ys vs:=by
  intro ys
  induction ys with
  | nil =>
   intro vs hl _
   cases vs with
   | nil=>exact .nil
   | cons _ _=>cases hl
  | cons y ys ih =>
   intro vs hl h
   cases vs with
   | nil=>cases hl
   | cons v vs=>exact .cons (h 0 y v rfl rfl) (ih (by simpa using hl) fun i x u h1 h2=>h (i+1) x u h1 h2)
 intro ys vs h1 h2 h3 h4
 have hl:=r.length
 refine mk (by omega) fun i x u e1 e2=>?_
 have hi:i < xs.length:=by rw[← h1];exact(Be.mp e1).1
 rw[h3 i hi] at e1
 rw[h4 i (by omega),show us.length - 1 - i=xs.length - 1 - i by omega] at e2
 exact at_ r e1 e2
section
variable {X:Cx}
theorem ba {e:Expr}{te:TE}{p p2 pos pos2:Pos} (hc:X.calm=true) (hgl:Gl X "list") (hml:X.mg "list"=none) (hgr:Gl X "reversed") (hmr:X.mg "reversed"=none) (he:PE X e te) (hs:starEach [e] X.env=[(false,eval e X.env)]:=by rfl)
  (hs2:starEach [Expr.Call (.Name "reversed" p2) [e] [] pos2] X.env=[(false,eval (.Call (.Name "reversed" p2) [e] [] pos2) X.env)]:=by rfl):PE X (.Call (.Name "list" p) [.Call (.Name "reversed" p2) [e] [] pos2] [] pos) (tLR X.K te):=by
 intro pins s σ H Q I h
 refine FD (Er I hgl hml YY ?_)
 refine Fq ?_ hs2 rfl
 rw[hs2]
 show wpAny _ _ (spliced [(false,eval (.Call (.Name "reversed" p2) [e] [] pos2) X.env)]) _ _ s
 refine Hm (FD (Er I hgr hmr QO (Fq ?_ hs rfl)))
 rw[hs]
 show wpAny _ _ (spliced [(false,eval e X.env)]) _ _ s
 refine Hm (thn (he pins s σ H _ I h) fun u s1 ⟨x,H1,I1,r1,a,xs,ex,hq,q⟩=>JM ?_)
 subst ex
 cases r1
 obtain⟨its,rv,pl,hz⟩:=I1.list hq
 have hl:=rv.length
 have hsz:its.toArray.size=xs.length:=by rw[Bf];omega
 have hal:a < s1.heap.objs.size:=by obtain⟨_,z,_⟩:=pl.isList;exact Ah z
 refine Xq pl.isList (JM ?_)
 refine aD (items:=its.toArray) (l:=a) (I1.ok.hd hc) ⟨_,BH _ rfl,rfl,rfl⟩ (pl.isList.push _) (BO hal) (by rw[hsz];exact hz) fun h' tk acc c hk hD hacc=>?_
 have hS:(s1.heap.push (revObj a ((its.toArray.size:Int) - 1))).objs.size=s1.heap.objs.size+1:=Ct ..
 have kp:∀b o,s1.heap.get? b=some o→h'.get? b=some o:=fun b o z=>hk b o (BO (Ah z)) (A2 _ z)
 have hacl:acc.toList.length=its.length:=by rw[Il,hacc.1,Bf]
 have hv:Vals xs.reverse acc.toList:=by
  refine fV rv Wk hacl (fun i hi=>?_) (fun i hi=>?_)
  ·rw[List.getElem?_reverse hi]
  ·have hx:acc.toList[i]?=some (acc.toList[i]'(by omega)):=As (by omega)
   have:=hacc.2 i _ (by rw[← Array.getElem?_toList];exact hx)
   rw[hx,← this,Bf,List.getElem?_toArray]
 refine⟨.ref _,upd H1 _ (.lst xs.reverse),I1.laid (t':=tk) kp (by rw[hS];exact LM _) ⟨by rw[Wk];exact hz,acc.toList,c,hv,by rw[Array.toArray_toList];exact hD⟩,rfl,q _ (I1.hok.fresh (by rw[hS];exact LM _))⟩
end
end Fb
end
section
set_option maxRecDepth 100000
set_option maxHeartbeats 4000000
namespace Fb
open PySem PySem.Spec PyProof.Rows L2
def NAt (H:Hp) (a:Addr) (v:List (List Int)):Prop:=∃qs:List Addr,H a=some (.tup (qs.map V.ref))∧Paired (fun q k=>H q=some (.tup (k.map V.int))) qs v
theorem NAt.mono {H H':Hp}{a:Addr}{v:List (List Int)} (s:Same H H') (h:NAt H a v):NAt H' a v:=by
 obtain⟨qs,h1,h2⟩:=h
 exact⟨qs,s _ _ h1,Paired.mapP h2 fun q k z=>s _ _ z⟩
theorem Zt (l:List Int):(kL l).map kV=l.map V.int:=by
 unfold kL
 rw[CG]
 rfl
theorem OM {h h':Heap}{a:Addr}{its:Array Value} (k:∀b o,h.get? b=some o→h'.get? b=some o) (x:IsTup h a its):IsTup h' a its:=by
 obtain⟨o,e,r⟩:=x
 exact⟨o,k _ _ e,r⟩
theorem TI.keep {P:Program}{w:World}{h h':Heap}{k:List Int}{v:Value} (kp:∀b o,h.get? b=some o→h'.get? b=some o) (x:TI P w h k v):TI P w h' k v:=by
 obtain⟨q,its,e,t,n,⟨o,is,m,h1,h2⟩⟩:=x
 exact⟨q,its,e,OM kp t,n,⟨o,is,m,kp _ _ h1,h2⟩⟩
section
variable {X:Cx}{pins:List (Addr×Obj)}{σ:L2.St}{H:Hp}{s:Shared}
theorem NG (I:Inv X pins σ H s) {a:Addr}{v:List (List Int)} (h:NAt H a v):∃its:Array Value,IsTup s.heap a its∧Paired (fun u k=>TI X.prog X.w s.heap k u) its.toList v:=by
 obtain⟨qs,h1,h2⟩:=h
 obtain⟨its,rv,tp,_⟩:=I.tuple (SqT.of h1)
 refine⟨its.toArray,tp,?_⟩
 have go:∀{qs:List Addr} {v:List (List Int)},Paired (fun q k=>H q=some (.tup (k.map V.int))) qs v→∀{us:List Value},Vals (qs.map V.ref) us→Paired (fun u k=>TI X.prog X.w s.heap k u) us v:=by
  intro qs v hp
  induction hp with
  | nil=>intro us r;cases r;exact .nil
  | @cons q k qs v hq _ ih =>
   intro us r
   cases r with
   | cons r1 r2 =>
    cases r1
    obtain⟨i2,v2,t2,_⟩:=I.tuple (SqT.of hq)
    exact .cons ⟨q,i2.toArray,rfl,t2,Mt v2,GB I.hok (by rw[Zt];exact hq)⟩ (ih r2)
 exact go h2 rv
theorem KS (I:Inv X pins σ H s) {a:Addr}{v:List (List Int)} (h:NAt H a v):(GH X.prog X.w).is s.heap (v.map kL) a:=by
 obtain⟨its,⟨o,e,c,m,d⟩,hp⟩:=NG I h
 refine⟨o,its,m,e,c,d,?_⟩
 generalize its.toList=us at hp
 clear e d h
 induction hp with
 | nil=>exact .nil
 | @cons u k us v hu _ ih =>
  obtain⟨q,_,rfl,_,_,hk⟩:=hu
  exact .cons hk ih
end
def cI (K:AB):List V→Hp→VK→Prop:=fun vs H Q=>∃(l:Addr) (as:List Addr) (ws:List (List (List Int))),vs=[V.ref l]∧SqL K H l (as.map V.ref)∧Paired (NAt H) as ws∧
 ((∃a v,as=[a]∧ws=[v]∧Q (.ref a) H)∨(∃a b v u,as=[a,b]∧ws=[v,u]∧(Bi u v=true→Q (.ref b) H)∧(Bi u v=false→Q (.ref a) H)))
theorem Yi {X:Cx} (K:AB) (hK:X.K=K) (hc:X.calm=true) (hu:X.A.units+20 < cLine):EO X (.builtin "min") (cI K):=by
 subst hK
 intro pins s σ H vs us Q I r h
 obtain⟨l,as,ws,rfl,hl,hp,h⟩:=h
 obtain⟨its,rv,pl,_⟩:=I.list hl
 rw[Vals.ref1 r]
 have cmp:∀{a b:Addr} {v u:List (List Int)} (s':Shared) (Q':Value→Shared→Prop) (E':Value→Shared→Prop),NAt H a v→NAt H b u→(∀b o,s.heap.get? b=some o→s'.heap.get? b=some o)→Q' (.bool (Bi v u)) s'→wpAny (model X.prog X.w) X.A.in1 (richCompare .Lt (.ref a) (.ref b)) Q' E' s':=fun {a b v u} s' Q' E' ha hb kp hq=>by
  obtain⟨ia,ta,pa⟩:=NG I ha
  obtain⟨ib,tb,pb⟩:=NG I hb
  exact aL (OM kp ta) (OM kp tb) (Paired.mapP pa fun u k z=>z.keep kp) (Paired.mapP pb fun u k z=>z.keep kp) (show X.A.units+1+8 < cLine by omega) hq
 rcases h with ⟨a,v,rfl,rfl,q⟩ | ⟨a,b,v,u,rfl,rfl,q1,q2⟩
 ·cases rv with
  | cons r1 r2 =>
   cases r1
   cases r2
   cases hp with
   | cons h1 h2 =>
    refine SN (I.ok.hd hc) pl.isList (by simp) (fun _ _=>false) (fun i j vi vj s' Q' E' kp e1 e2 hq=>?_) fun w h' tk hw kp=>?_
    ·have hi:vi=.ref a:=by
      cases i with
      | zero=>exact(AV e1).symm
      | succ i=>cases e1
     have hj:vj=.ref a:=by
      cases j with
      | zero=>exact(AV e2).symm
      | succ j=>cases e2
     subst hi hj
     refine cmp s' Q' E' h1 h1 kp ?_
     have:Bi v v=false:=by
      clear q h1 cmp
      induction v with
      | nil=>rfl
      | cons x v ih=>show(if x=x then Bi v v else _)=false;rw[if_pos rfl];exact ih
     rw[this]
     exact hq
    ·have hw:w=.ref a:=(AV hw).symm
     subst hw
     exact⟨.ref a,H,I.kept kp,rfl,q⟩
 ·cases rv with
  | cons r1 r2 =>
   cases r1
   cases r2 with
   | cons r2 r3 =>
    cases r2
    cases r3
    cases hp with
    | cons h1 h2 =>
     cases h2 with
     | cons h2 _ =>
      have self:∀z:List (List Int),Bi z z=false:=fun z=>by
       induction z with
       | nil=>rfl
       | cons x v ih=>show(if x=x then Bi v v else _)=false;rw[if_pos rfl];exact ih
      refine SN (I.ok.hd hc) pl.isList (by simp) (fun i j=>if i=1∧j=0 then Bi u v else if i=0∧j=1 then Bi v u else false) (fun i j vi vj s' Q' E' kp e1 e2 hq=>?_) fun w h' tk hw kp=>?_
      ·match i,j,e1,e2 with
       | 0,0,e1,e2 =>
        cases e1
        cases e2
        refine cmp s' Q' E' h1 h1 kp ?_
        rw[self]
        exact hq
       | 0,1,e1,e2 =>
        cases e1
        cases e2
        exact cmp s' Q' E' h1 h2 kp hq
       | 1,0,e1,e2 =>
        cases e1
        cases e2
        exact cmp s' Q' E' h2 h1 kp hq
       | 1,1,e1,e2 =>
        cases e1
        cases e2
        refine cmp s' Q' E' h2 h2 kp ?_
        rw[self]
        exact hq
       | i+2,_,e1,_=>cases e1
       | _,j+2,_,e2=>cases e2
      ·have hw:(#[Ak a,Ak b])[if Bi u v=true then 1 else 0]?=some w:=hw
       cases hlt:Bi u v with
       | true =>
        rw[hlt] at hw
        have hw:w=.ref b:=(AV hw).symm
        subst hw
        exact⟨.ref b,H,I.kept kp,rfl,q1 hlt⟩
       | false =>
        rw[hlt] at hw
        have hw:w=.ref a:=(AV hw).symm
        subst hw
        exact⟨.ref a,H,I.kept kp,rfl,q2 hlt⟩
end Fb
end
section
set_option maxRecDepth 100000
set_option maxHeartbeats 4000000
namespace Fb
open PySem PySem.Spec PyProof.Rows L2
abbrev Tc:Stmt:=UU
def Cv (n:Nat):List Nat:=(A0 16).map (E5 n)
theorem Jg (n:Nat):(Cv n).length=16:=by unfold Cv;rw[AF,Fl]
theorem MS (n:Nat) {i:Nat} (h:i < 16):(Cv n)[i]?=some (E5 n i):=by
 unfold Cv
 rw[AX,Wh h]
 rfl
def N1:Sp:=fun vs H Q _=>∃n:Nat,vs=[.int (n:Nat)]∧FF H Q (zn (Cv n))
theorem scDigits:Ab ["number","told","rest","place"] ["number"] (AK Tc):=⟨rfl,rfl,rfl,by decide +kernel,rfl,by decide +kernel,by decide +kernel⟩
theorem Rc:∀(n:Nat) (f:Nat→Nat),Eo (zn ((A0 n).map f))=(((A0 n).map fun i=>f i * 16 ^ i).sum:Nat)
 | 0,f=>rfl
 | n+1,f=>by
  have ih:=Rc n fun i=>f (i+1)
  have e1:(A0 (n+1)).map f=f 0::(A0 n).map fun i=>f (i+1):=by rw[Hd,Am,CG];rfl
  have e2:(A0 (n+1)).map (fun i=>f i * 16 ^ i)=f 0 * 16 ^ 0::(A0 n).map fun i=>f (i+1) * 16 ^ (i+1):=by rw[Hd,Am,CG];rfl
  have e3:∀l:List Nat,(l.map fun i=>f (i+1) * 16 ^ (i+1)).sum=(l.map fun i=>f (i+1) * 16 ^ i).sum * 16:=by
   intro l
   induction l with
   | nil=>rfl
   | cons x l ih =>
    rw[Am,DJ,Am,DJ,ih,LU,Nat.add_mul,Nat.mul_assoc]
  rw[e1,e2,DJ,e3]
  show Eo (zn ((A0 n).map fun i=>f (i+1))) * 16+((f 0:Nat):Int)=_
  rw[ih,Nat.pow_zero,Nat.mul_one]
  push_cast
  omega
theorem Rb {f:Nat→Nat} (h:∀i,f i < 16):Eo (zn ((A0 16).map f))=(Ob f:Nat):=by
 rw[Rc]
 unfold Ob
 congr 2
 refine CY fun i _=>?_
 rw[O5 (h i)]
section
variable {P:Program}{w:World}{K:AB}{mg:Str→Option Value}{base:Heap}
theorem ok_digits {f:Addr}{fd:FuncData} (F:Fun K "digits" "digits" Tc f fd) (B:Blt mg) (c1:Cst mg "DIGITS" (.int 16)):FnOk P w K mg base CX0 1 f fd ["number"] N1:=by
 refine F.ok scDigits (fun vs H Q E h=>?_) (fun cdv A outer s H vs Q E hr h=>?_)
 ·obtain⟨n,rfl,_⟩:=h
  rfl
 ·obtain⟨n,rfl,k⟩:=h
  refine⟨_,AI (Ap (i:=1) scDigits.nd rfl (AQ rfl) (A5 AD)) (AI (Ap (i:=2) scDigits.nd rfl (AQ rfl) (pv 0))
   (AI (Ds D7 rfl (Sx (by rfl) B.range (AA (AW c1 rfl) AD)) (BJ (i:=3) scDigits.nd rfl (AQ rfl))
    (AI (Dr (DS Df E8 E9 Es (pv 1) (AA (DB bJ (pv 2) AS) AD)))
     (AJ (Ap (i:=2) scDigits.nd rfl (AQ rfl) (DB Sf (pv 2) AS)))))
   (AJ (AM (pv 1))))),?_⟩
  refine⟨Au _,fun l nl=>?_⟩
  have s1:Same H (upd H l (.lst [])):=(Same.refl H).new nl
  refine⟨_,rfl,16,rfl,by decide,by decide,?_⟩
  refine FG (n:=16) (fun i σ H'=>∃v:Option V,σ=[some (.int (n:Nat)),some (.ref l),some (.int ((n / 16 ^ i:Nat):Int)),v]∧Same H H'∧H' l=some (.lst ((zn ((Cv n).take i)).map V.int)))
   ⟨none,by rw[Nat.pow_zero,Nat.div_one];rfl,s1,AH⟩ (fun i σ H' hi _=>hi) (fun σ H' _=>AO _) ?_ ?_
  ·rintro i y σ H' H2 hi ⟨v,rfl,s2,hl⟩ ⟨rfl,rfl⟩
   have hlen:((Cv n).take i).length≤16:=by rw[Cn,Jg];omega
   refine⟨_,rfl,.inl ⟨rfl,_,SqL.of hl⟩,_,rfl,_,_,rfl,rfl,(show(0:Int) < 16 by decide),l,_,_,rfl,rfl,hl,by rw[AF,Bl];exact BN (by omega),?_⟩
   refine⟨_,rfl,_,_,rfl,rfl,⟨by decide,by decide⟩,some (.int (0+((i:Nat):Int))),?_,s2.wr nl,?_⟩
   ·rw[LU,← Nat.div_div_eq_div_mul]
    rfl
   ·rw[AH,EK (MS n hi)]
    unfold zn
    rw[BG,BG]
    rfl
  ·rintro σ H' ⟨v,rfl,s2,hl⟩
   rw[Ec (by rw[Jg];exact AO _)] at hl
   exact⟨_,rfl,k H' l s2 nl hl⟩
end
abbrev Nj:Stmt:=Ub
def N4:Sp:=fun vs H Q _=>∃n m:Nat,vs=[.int (n:Nat),.int (m:Nat)]∧Pur H Q (.int (Flags.inLight m n:Nat))
theorem scInL:Ab ["look","light","classes","colour"] ["look","light"] (AK Nj):=⟨rfl,rfl,rfl,by decide +kernel,rfl,by decide +kernel,by decide +kernel⟩
section
variable {P:Program}{w:World}{K:AB}{mg:Str→Option Value}{base:Heap}
theorem ok_inL {f:Addr}{fd:FuncData} (F:Fun K "in_light" "in_light" Nj f fd) (g1:Has P w K mg "digits" 1 ["number"] N1) (g2:Has P w K mg "number_of" 1 ["told"] (Kt K)):FnOk P w K mg base CX0 2 f fd ["look","light"] N4:=by
 refine F.ok scInL (fun vs H Q E h=>?_) (fun cdv A outer s H vs Q E hr h=>?_)
 ·obtain⟨n,m,rfl,_⟩:=h
  rfl
 ·obtain⟨n,m,rfl,k⟩:=h
  refine⟨_,AI (Ap (i:=2) scInL.nd rfl (De rfl) (AN g1 hr (by rfl) (AA (pv 1) AD)))
   (AJ (AM (AN g2 hr (by rfl) (AA (DA (own:=[("colour",3)]) rfl scInL.nd (Cy (AN g1 hr (by rfl) (AA (pv 0) AD))) (Cu (N:=["look","light","classes","colour"]) (sc:=AK Nj) (by decide +kernel))
    (fun s H C cl fp=>BJ (i:=3) scInL.nd rfl (AQ rfl)) (fun s H C cl fp=>DC) (fun s H C cl fp=>Na K rfl (pv 2) (pv 3) (fun _ _=>rfl))) AD)))),?_⟩
  refine⟨_,rfl,m,rfl,fun H1 l1 s1 n1 h1=>?_⟩
  refine⟨_,rfl,n,rfl,fun H2 l2 s2 n2 h2=>?_⟩
  have h12:=s2 _ _ h1
  refine⟨l2,rfl,⟨_,SqL.of h2⟩,fun D hD=>?_⟩
  refine EW (n:=((zn (Cv n)).map V.int).length) ((zn ((A0 16).map fun i=>E5 m (E5 n i))).map V.int) (by simp[zn,Cv]) (BN (by rw[AF,Bl,Jg];decide)) hD (fun i H hi s3=>EE (SqL.of (s3 _ _ h2)) hi) (fun H s3=>EF (SqL.of (s3 _ _ h2))) ?_ ?_
  ·rintro i y z H3 H4 hz s3 ⟨rfl,hy⟩ R hR
   have hy:=hy _ (SqL.of (s3 _ _ h2))
   have hi:i < 16:=by
    have:=(Be.mp hy).1
    rw[AF,Bl,Jg] at this
    exact this
   have ey:y=V.int (E5 n i:Nat):=by
    unfold zn at hy
    rw[CG,AX,MS n hi] at hy
    exact(AV hy).symm
   have ez:z=V.int (E5 m (E5 n i):Nat):=by
    unfold zn at hz
    rw[CG,AX,AX,Wh hi] at hz
    exact(AV hz).symm
   subst ey ez
   refine⟨rfl,_,rfl,_,rfl,l1,_,_,_,rfl,rfl,SqL.of (s3 _ _ h12),Bw (j:=E5 n i) ?_,hR _ (Same.refl _)⟩
   unfold zn
   rw[CG,AX,MS m (Jd n i)]
   rfl
  ·intro H3 s3 hd3
   refine⟨D,_,rfl,SqL.of hd3,fun H4 s4=>?_⟩
   rw[Rb fun i=>Jd m _]
   exact k H4 (((s1.trans s2).trans s3).trans s4)
end
abbrev Th:Stmt:=UZ
def VQ:Sp:=fun vs H Q _=>∃n:Nat,vs=[.int (n:Nat)]∧Pur H Q (.int (K7 n:Nat))
theorem scFromB:Ab ["look","colours","turned","start"] ["look"] (AK Th):=⟨rfl,rfl,rfl,by decide +kernel,rfl,by decide +kernel,by decide +kernel⟩
def E3 (n:Nat):List Nat:=(A0 16).map fun i=>E5 n (4 * (i / 4)+(3 - i % 4))
theorem fP (n i:Nat) (h:i < 4):(((Cv n).drop (4 * i)).take 4).reverse=((E3 n).drop (4 * i)).take 4:=by
 match i,h with
 | 0,_=>rfl
 | 1,_=>rfl
 | 2,_=>rfl
 | 3,_=>rfl
section
variable {P:Program}{w:World}{K:AB}{mg:Str→Option Value}{base:Heap}
theorem ok_fromB {f:Addr}{fd:FuncData} (F:Fun K "from_behind" "from_behind" Th f fd) (B:Blt mg) (hm:mg "list"=none) (c1:Cst mg "DIGITS" (.int 16)) (c2:Cst mg "CELLS_IN_ROW" (.int 4)) (g1:Has P w K mg "digits" 1 ["number"] N1) (g2:Has P w K mg "number_of" 1 ["told"] (Kt K)):FnOk P w K mg base CX0 2 f fd ["look"] VQ:=by
 refine F.ok scFromB (fun vs H Q E h=>?_) (fun cdv A outer s H vs Q E hr h=>?_)
 ·obtain⟨n,rfl,_⟩:=h
  rfl
 ·obtain⟨n,rfl,k⟩:=h
  refine⟨_,AI (Ap (i:=1) scFromB.nd rfl (AQ rfl) (AN g1 hr (by rfl) (AA (pv 0) AD))) (AI (Ap (i:=2) scFromB.nd rfl (AQ rfl) (A5 AD))
   (AI (Ds D7 rfl (bo (by rfl) B.range (AA AS (AA (AW c1 rfl) (AA (AW c2 rfl) AD)))) (BJ (i:=3) scFromB.nd rfl (AQ rfl))
    (AJ (Dr (DS Df XU XY SO (pv 2) (AA (ba rfl (by rfl) hm (by rfl) B.reversed (FT FY (pv 1) (Ew (pv 3)) (Ew (DB KY (pv 3) (AW c2 rfl))))) AD)))))
   (AJ (AM (AN g2 hr (by rfl) (AA (pv 2) AD)))))),?_⟩
  refine⟨_,rfl,n,rfl,fun H1 l1 s1 n1 h1=>⟨Au _,fun l nl=>?_⟩⟩
  have s2:Same H1 (upd H1 l (.lst [])):=(Same.refl H1).new nl
  have nlH:H l=none:=s1.free nl
  refine⟨0,16,4,4,rfl,⟨by decide,by decide,by decide,by decide⟩,?_⟩
  refine FG (n:=4) (fun i σ H'=>∃v:Option V,σ=[some (.int (n:Nat)),some (.ref l1),some (.ref l),v]∧Same H1 H'∧H' l=some (.lst ((zn ((E3 n).take (4 * i))).map V.int)))
   ⟨none,rfl,s2,AH⟩ (fun i σ H' hi _=>hi) (fun σ H' _=>AO _) ?_ ?_
  ·rintro i y σ H' H2 hi ⟨v,rfl,s3,hl⟩ ⟨rfl,rfl⟩
   have hl1:=s3 _ _ h1
   have nll:l≠l1:=fun z=>by rw[← z] at h1;rw[h1] at nl;cases nl
   refine⟨_,rfl,.inl ⟨rfl,_,SqL.of hl⟩,_,rfl,_,rfl,_,rfl,_,rfl,_,_,rfl,rfl,_,rfl,l1,_,rfl,SqL.of hl1,fun l5 n5=>?_⟩
   have s5:Same H2 (upd H2 l5 (.lst (CJ ((zn (Cv n)).map V.int) (some (0+((i:Nat):Int) * 4)) (some (0+((i:Nat):Int) * 4+4))))):=(Same.refl _).new n5
   have h5:upd H2 l5 (.lst (CJ ((zn (Cv n)).map V.int) (some (0+((i:Nat):Int) * 4)) (some (0+((i:Nat):Int) * 4+4)))) l5=some (.lst ((zn (((Cv n).drop (4 * i)).take 4)).map V.int)):=by
    rw[AH]
    congr 2
    match i,hi with
    | 0,_=>rfl
    | 1,_=>rfl
    | 2,_=>rfl
    | 3,_=>rfl
   generalize upd H2 l5 (.lst (CJ ((zn (Cv n)).map V.int) (some (0+((i:Nat):Int) * 4)) (some (0+((i:Nat):Int) * 4+4))))=H5 at s5 h5
   refine⟨l5,_,rfl,SqL.of h5,fun l6 n6=>?_⟩
   rw[← Wl]
   have e6:(zn (((Cv n).drop (4 * i)).take 4)).reverse=zn (((E3 n).drop (4 * i)).take 4):=by
    unfold zn
    rw[← Wl,fP n i hi]
   rw[e6]
   have s6:Same H5 (upd H5 l6 (.lst ((zn (((E3 n).drop (4 * i)).take 4)).map V.int))):=(Same.refl _).new n6
   have hlen:((E3 n).take (4 * i)).length≤16:=by unfold E3;rw[Cn,AF,Fl];omega
   refine⟨l,l6,_,_,rfl,rfl,s6 _ _ (s5 _ _ hl),AH,?_,?_⟩
   ·have h4:(((E3 n).drop (4 * i)).take 4).length≤4:=by rw[Cn];omega
    rw[AF,AF,Bl,Bl]
    exact CA (by omega)
   ·refine⟨_,rfl,((s3.trans s5).trans s6).wr nl,?_⟩
    rw[AH,← BG]
    congr 3
    unfold zn
    rw[← BG,show 4 * (i+1)=4 * i+4 by omega,List.take_add]
  ·rintro σ H' ⟨v,rfl,s3,hl⟩
   rw[Ec (by unfold E3;rw[AF,Fl];exact AO _)] at hl
   refine⟨_,rfl,l,_,rfl,SqL.of hl,fun H4 s4=>?_⟩
   have e:Eo (zn (E3 n))=(K7 n:Nat):=Rb fun i=>Jd n _
   rw[e]
   exact k H4 ((s1.trans s3).trans s4)
end
end Fb
end
section
set_option maxRecDepth 100000
set_option maxHeartbeats 4000000
namespace Fb
open PySem PySem.Spec PyProof.Rows L2
abbrev Tn:Stmt:=Uo
def VU:Sp:=fun vs H Q _=>∃n:Nat,vs=[.int (n:Nat)]∧Pur H Q (.bl (decide (n≤2)))
theorem dC:Ab ["number"] ["number"] (AK Tn):=⟨rfl,rfl,rfl,by decide +kernel,rfl,by decide +kernel,by decide +kernel⟩
section
variable {P:Program}{w:World}{K:AB}{mg:Str→Option Value}{base:Heap}
theorem ok_isSide {f:Addr}{fd:FuncData} (F:Fun K "is_side" "is_side" Tn f fd) (c1:Cst mg "FRONT" (.int 0)) (c2:Cst mg "EITHER" (.int 2)):FnOk P w K mg base CX0 1 f fd ["number"] VU:=by
 refine F.ok dC (fun vs H Q E h=>?_) (fun cdv A outer s H vs Q E hr h=>?_)
 ·obtain⟨n,rfl,_⟩:=h
  rfl
 ·obtain⟨n,rfl,k⟩:=h
  have kk:=k H (Same.refl H)
  refine⟨_,AJ (AM (HC Cg Cg (AW c1 rfl) (pv 0) (AW c2 rfl))),?_⟩
  refine⟨_,rfl,_,_,rfl,rfl,_,rfl,?_⟩
  refine bT (decide_eq_true (Int.natCast_nonneg n)) ⟨_,_,rfl,rfl,?_⟩
  have e:decide (((n:Nat):Int)≤2)=decide (n≤2):=CM (by omega)
  show Q (.bl (decide (((n:Nat):Int)≤2))) H
  rw[e]
  exact kk
end
abbrev UH:Stmt:=VF
def vwK (light d:Nat) (k:AR):List Int:=[(k.shape:Int),(Flags.seenFrom light d k.look:Int)]
def VAt (L:AU) (light:Nat) (H:Hp) (l:Addr) (d:Nat):Prop:=∃ts:List Addr,H l=some (.lst (ts.map V.ref))∧Paired (fun t k=>H t=some (.tup ((vwK light d k).map V.int))) ts L.kinds
theorem VAt.mono {L:AU}{light:Nat}{H H':Hp}{l:Addr}{d:Nat} (s:Same H H') (h:VAt L light H l d):VAt L light H' l d:=by
 obtain⟨ts,h1,h2⟩:=h
 exact⟨ts,s _ _ h1,Paired.mapP h2 fun t k z=>s _ _ z⟩
theorem VAt.hd {L:AU}{light:Nat}{H:Hp}{l D:Addr}{d:Nat}{xs:List V} (h:VAt L light H l d) (hD:H D=some (.lst xs)) (ne:l≠D):VAt L light (hid [D] H) l d:=by
 obtain⟨ts,h1,h2⟩:=h
 refine⟨ts,by rw[Ax (by simpa using ne)];exact h1,Paired.mapP h2 fun t k z=>?_⟩
 rw[Ax (by simpa using BE z hD (by intro w;cases w))]
 exact z
def OB (CL CK:Addr):Sp:=fun vs H Q _=>∃(a:Addr) (p:LA) (L:AU) (fl:List Int) (light d:Nat),vs=[.ref a,.int (light:Nat),.int (d:Nat)]∧LockAt CL CK H a p (zs L.name) (L.kinds.map zk) fl∧L.kinds.length < 90000∧d < 2∧
 ∀(H':Hp) (l:Addr),Same H H'→H l=none→VAt L light H' l d→Q (.ref l) H'
theorem scVOK:Ab ["locker","light","side","views","kind","look"] ["locker","light","side"] (AK UH):=⟨rfl,rfl,rfl,by decide +kernel,rfl,by decide +kernel,by decide +kernel⟩
section
variable {P:Program}{w:World}{K:AB}{mg:Str→Option Value}{base:Heap}{CL CK:Addr}
theorem ok_vok {f:Addr}{fd:FuncData} (F:Fun K "views_of_kinds" "views_of_kinds" UH f fd) (TL:LockC K CL) (TK:KindC K CK) (c1:Cst mg "BEHIND" (.int 1)) (g1:Has P w K mg "from_behind" 2 ["look"] VQ) (g2:Has P w K mg "in_light" 2 ["look","light"] N4):FnOk P w K mg base CX0 3 f fd ["locker","light","side"] (OB CL CK):=by
 refine F.ok scVOK (fun vs H Q E h=>?_) (fun cdv A outer s H vs Q E hr h=>?_)
 ·obtain⟨a,p,L,fl,light,d,rfl,_⟩:=h
  rfl
 ·obtain⟨a,p,L,fl,light,d,rfl,hL,hkl,hd2,k⟩:=h
  refine⟨_,AI (Ap (i:=3) scVOK.nd rfl (AQ rfl) (A5 AD))
   (AI (Ds D7 rfl (Cy (An (pv 0) rfl)) (BJ (i:=4) scVOK.nd rfl (AQ rfl))
    (AI (Ap (i:=5) scVOK.nd rfl (AQ rfl) (Kb (Ag Ba (pv 2) (AW c1 rfl) (Ac _)) (AN g1 hr (by rfl) (AA (An (pv 4) rfl) AD)) (An (pv 4) rfl)))
     (AJ (Dr (DS Df E8 E9 Es (pv 3) (AA (Kc (AA (An (pv 4) rfl) (AA (AN g2 hr (by rfl) (AA (pv 5) (AA (pv 1) AD))) AD))) AD))))))
   (AJ (AM (pv 3)))),?_⟩
  obtain⟨dx,ho⟩:=hL.ob
  obtain⟨as,hak,hpk⟩:=hL.ks
  have hal:=Bb hpk
  rw[AF] at hal
  refine⟨Au _,fun l nl=>?_⟩
  have s1:Same H (upd H l (.lst [])):=(Same.refl H).new nl
  refine⟨_,rfl,a,CL,dx,_,_,rfl,s1 _ _ ho,TL.cl,TL.kinds,GF,p.ak,rfl,⟨_,SqL.of (s1 _ _ hak)⟩,J4 (K:=K) (a:=p.ak) (xs:=as.map V.ref)
   (fun i σ H'=>∃(v4 v5:Option V) (ts:List Addr),σ=[some (.ref a),some (.int (light:Nat)),some (.int (d:Nat)),some (.ref l),v4,v5]∧Same H H'∧H' l=some (.lst (ts.map V.ref))∧Paired (fun t k=>H' t=some (.tup ((vwK light d k).map V.int))) ts (L.kinds.take i))
   ⟨none,none,[],rfl,s1,AH,.nil⟩ (fun i σ H' _ ⟨_,_,_,_,s2,_⟩=>SqL.of (s2 _ _ hak)) ?_ ?_⟩
  ·rintro i y σ H' hi ⟨v4,v5,ts,rfl,s2,hl,hp⟩
   rw[AX] at hi
   cases hai:as[i]? with
   | none=>rw[hai] at hi;cases hi
   | some ka =>
   rw[hai] at hi
   have ey:V.ref ka=y:=AV hi
   subst ey
   have hlt:i < L.kinds.length:=by rw[← hal];exact(Be.mp hai).1
   have hki:L.kinds[i]?=some L.kinds[i]:=As hlt
   generalize L.kinds[i]=kd at hki
   obtain⟨ka',he1,dz,lv,hko,_⟩:=Cb hpk (i:=i) (b:=zk kd) (by rw[AX,hki];rfl)
   rw[hai] at he1
   cases he1
   have htl:=Bb hp
   have hti:(L.kinds.take i).length≤L.kinds.length:=by rw[Cn];omega
   have rest:∀(H3:Hp) (m:Nat),Same H' H3→m=(if d=0 then kd.look else K7 kd.look)→
     tBM K "list" Nf (CV 3) (C2 (V4 (C2 (Kx K (CV 4) "shape") (C2 (HM N4 [] E0 (C2 (CV 5) (C2 (CV 1) Dy))) Dy))) Dy) [some (.ref a),some (.int (light:Nat)),some (.int (d:Nat)),some (.ref l),some (.ref ka),some (.int (m:Nat))] H3
      fun x H4=>∃(v4 v5:Option V) (ts:List Addr),[some (V.ref a),some (.int (light:Nat)),some (.int (d:Nat)),some (.ref l),some (.ref ka),some (.int (m:Nat))]=[some (.ref a),some (.int (light:Nat)),some (.int (d:Nat)),some (.ref l),v4,v5]∧Same H H4∧H4 l=some (.lst (ts.map V.ref))∧Paired (fun t k=>H4 t=some (.tup ((vwK light d k).map V.int))) ts (L.kinds.take (i+1)):=fun H3 m s3 hm=>by
    refine⟨_,rfl,.inl ⟨rfl,_,SqL.of (s3 _ _ hl)⟩,_,rfl,ka,CK,dz,_,_,rfl,s3 _ _ (s2 _ _ hko),TK.cl,TK.shape,M0,_,rfl,_,rfl,m,light,rfl,fun H4 s4=>⟨(show 2≤sizeLine from CA (by decide)),fun t nt=>?_⟩⟩
    have s5:Same H4 (upd H4 t (.tup [.int ((kd.shape:Nat):Int),.int (Flags.inLight light m:Nat)])):=(Same.refl _).new nt
    have s35:=s4.trans s5
    have nlt:l≠t:=Ai (s4 _ _ (s3 _ _ hl)) nt
    refine⟨l,_,_,rfl,rfl,s35 _ _ (s3 _ _ hl),by rw[AF,htl];exact BN (by omega),?_⟩
    refine⟨_,_,ts++[t],rfl,((s2.trans s3).trans s35).wr nl,by rw[AH,BG];rfl,?_⟩
    rw[EK hki]
    refine Et (Paired.mapP hp fun q k z=>?_) ?_
    ·rw[AG (BE z hl (by intro w;cases w))]
     exact s35 _ _ (s3 _ _ z)
    ·rw[AG (Af nlt),AH,hm]
     rfl
   refine⟨_,rfl,rfl,_,rfl,?_⟩
   by_cases hd:d=1
   ·refine bT (decide_eq_true (by rw[hd];rfl)) ?_
    refine⟨_,rfl,ka,CK,dz,_,_,rfl,s2 _ _ hko,TK.cl,TK.look,KD,kd.look,rfl,fun H3 s3=>?_⟩
    exact rest H3 (K7 kd.look) s3 (by rw[if_neg (by omega)])
   ·refine bF (decide_eq_false (BV (by omega))) ?_
    refine⟨_,rfl,ka,CK,dz,_,_,rfl,s2 _ _ hko,TK.cl,TK.look,KD,?_⟩
    exact rest H' kd.look (Same.refl _) (by rw[if_pos (by omega)])
  ·rintro σ H' ⟨v4,v5,ts,rfl,s2,hl,hp⟩
   rw[AF,hal,Ec (AO _)] at hp
   exact⟨_,rfl,k H' l s2 nl ⟨ts,hl,hp⟩⟩
end
abbrev Nu:Stmt:=VE
def Vt (CL CK:Addr):Sp:=fun vs H Q _=>∃(a:Addr) (p:LA) (L:AU) (fl:List Int) (light side:Nat),vs=[.ref a,.int (light:Nat),.int (side:Nat)]∧LockAt CL CK H a p (zs L.name) (L.kinds.map zk) fl∧L.kinds.length < 90000∧side≤2∧
 ∀(H':Hp) (l:Addr) (ls:List Addr),Same H H'→H l=none→H' l=some (.lst (ls.map V.ref))→Paired (VAt L light H') ls (DZ side)→Q (.ref l) H'
theorem scVBS:Ab ["locker","light","side","sides","seen_from"] ["locker","light","side"] (AK Nu):=⟨rfl,rfl,rfl,by decide +kernel,rfl,by decide +kernel,by decide +kernel⟩
theorem bj {X:Cx}{tg l:Expr}{tl:TE} (K:AB) (hK:X.K=K) (hl:PE X l tl):PI X tg l (Rg K tl):=by
 subst hK
 exact Cy hl
theorem bu {X:Cx}{tg l:Expr}{tl:TE} (K:AB) (hK:X.K=K) (hl:PE X l tl):PI X tg l (Ms K tl):=by
 subst hK
 exact br hl
section
variable {P:Program}{w:World}{K:AB}{mg:Str→Option Value}{base:Heap}{CL CK:Addr}
theorem ok_vbs {f:Addr}{fd:FuncData} (F:Fun K "views_by_side" "views_by_side" Nu f fd) (c0:Cst mg "FRONT" (.int 0)) (c1:Cst mg "BEHIND" (.int 1)) (c2:Cst mg "EITHER" (.int 2)) (g1:Has P w K mg "views_of_kinds" 3 ["locker","light","side"] (OB CL CK)):FnOk P w K mg base CX0 4 f fd ["locker","light","side"] (Vt CL CK):=by
 refine F.ok scVBS (fun vs H Q E h=>?_) (fun cdv A outer s H vs Q E hr h=>?_)
 ·obtain⟨a,p,L,fl,light,side,rfl,_⟩:=h
  rfl
 ·obtain⟨a,p,L,fl,light,side,rfl,hL,hkl,hs2,k⟩:=h
  refine⟨_,AI (Ap (i:=3) scVBS.nd rfl (AQ rfl) (Kb (Ag Ba (pv 2) (AW c2 rfl) (Ac _)) (Kc (AA (AW c0 rfl) (AA (AW c1 rfl) AD))) (Kc (AA (pv 2) AD))))
   (AJ (AM (DA (own:=[("seen_from",4)]) rfl scVBS.nd (bu K rfl (pv 3)) (Cu (N:=["locker","light","side","sides","seen_from"]) (sc:=AK Nu) (by decide +kernel))
    (fun s H C cl fp=>BJ (i:=4) scVBS.nd rfl (AQ rfl)) (fun s H C cl fp=>DC) (fun s H C cl fp=>AN g1 hr (by rfl) (AA (pv 0) (AA (pv 1) (AA (pv 4) AD))))))),?_⟩
  have main:∀(H1:Hp) (T:Addr) (ds:List Nat),Same H H1→H1 T=some (.tup ((zn ds).map V.int))→(∀d∈ds,d < 2)→ds.length≤2→ds=DZ side→
    HN (tLc (Ms K (CV 3)) (IH 4) DH (HM (OB CL CK) [] E0 (C2 (CV 0) (C2 (CV 1) (C2 (CV 4) Dy)))) [4]) { nx:=fun x H'=>Q V.non H',rt:=Q } [some (.ref a),some (.int (light:Nat)),some (.int (side:Nat)),some (.ref T),none] H1:=fun H1 T ds s1 hT hds hdl hsd=>by
   refine⟨_,rfl,T,rfl,⟨_,SqT.of hT⟩,fun D hD=>?_⟩
   refine G6 (n:=ds.length) (tt:=DH) (fun i H'=>Same H1 H'∧∃ls:List Addr,H' D=some (.lst (ls.map V.ref))∧Paired (VAt L light (hid [D] H')) ls (ds.take i)) ⟨(Same.refl H1).new hD,[],AH,.nil⟩
    (fun i H' hi q=>⟨_,_,SqT.of (q.1 _ _ hT),As (by rw[AF,Bl];exact hi)⟩) (fun H' q=>⟨_,SqT.of (q.1 _ _ hT),by rw[AF,Bl];exact AO _⟩) ?_ ?_
   ·rintro i y H2 H3 hi ⟨s2,ls,hls,hp⟩ ⟨rfl,hy⟩
    have hy:=hy _ (SqT.of (s2 _ _ hT))
    have hdi:ds[i]?=some ds[i]:=As hi
    generalize ds[i]=d at hdi
    have ey:y=V.int (d:Nat):=by
     unfold zn at hy
     rw[CG,AX,hdi] at hy
     exact(AV hy).symm
    subst ey
    refine⟨rfl,?_⟩
    simp only[DH,if_true]
    refine⟨_,rfl,_,rfl,_,rfl,a,p,L,fl,light,d,rfl,(hL.mono s1).mono s2,hkl,hds d (CZ hdi),fun H4 l s4 nl hv=>?_⟩
    have hls4:=s4 _ _ hls
    have nlD:l≠D:=fun z=>by rw[z,hls] at nl;cases nl
    have hll:=Bb hp
    rw[Cn] at hll
    refine⟨ls.map V.ref,hls4,BN (by rw[AF];omega),(s2.trans s4).wr hD,ls++[l],by rw[AH,BG];rfl,?_⟩
    rw[G4,EK hdi]
    exact Et (Paired.mapP hp fun q d z=>z.mono (F8 s4)) (hv.hd hls4 nlD)
   ·rintro H2 ⟨s2,ls,hls,hp⟩
    rw[Ec (AO _),hsd] at hp
    exact k H2 D ls (s1.trans s2) (s1.free hD) hls (Paired.mapP hp fun q d z=>z.mono IJ)
  refine⟨_,rfl,rfl,_,rfl,?_⟩
  by_cases h2:side=2
  ·refine bT (decide_eq_true (by rw[h2];rfl)) ?_
   refine⟨(show 2≤sizeLine from CA (by decide)),fun T nT=>?_⟩
   exact main _ T [0,1] ((Same.refl H).new nT) AH (by decide) (by decide) (by rw[h2];rfl)
  ·refine bF (decide_eq_false (BV (by omega))) ?_
   refine⟨_,rfl,(show 1≤sizeLine from CA (by decide)),fun T nT=>?_⟩
   exact main _ T [side] ((Same.refl H).new nT) AH (fun d hd=>by have:=A1.mp hd;omega) (show 1≤2 by decide) (by unfold DZ;rw[if_neg h2])
end
abbrev FX:Stmt:=Ut
def aN:Scope:=match (Bz FX).getLast? with
 | some (.Return (some (.Call _ [.ListComp _ _ sc _] _ _)) _)=>sc
 | _=>AK FX
def aM:Scope:=match (Bz FX).getLast? with
 | some (.Return (some (.Call _ [.ListComp (.Call _ [.ListComp _ _ sc _] _ _) _ _ _] _ _)) _)=>sc
 | _=>AK FX
def vwH (L:AU) (light d:Nat) (g:List Nat):List (List Int):=g.map fun f=>((L.kinds[f]?).map (vwK light d)).getD []
def Dk (L:AU) (light side:Nat) (g:List Nat):List (List Int):=if side=2 then (if Bi (vwH L light 1 g) (vwH L light 0 g)=true then vwH L light 1 g else vwH L light 0 g) else vwH L light side g
def Vc (K:AB):Sp:=fun vs H Q _=>∃(a b:Addr) (L:AU) (light side:Nat) (g:List Nat) (ls:List Addr),vs=[.ref a,.ref b]∧H a=some (.lst ((zn g).map V.int))∧g.length≤1000∧(∀f∈g,f < L.kinds.length)∧H b=some (.lst (ls.map V.ref))∧Paired (VAt L light H) ls (DZ side)∧side≤2∧
 ∀(H':Hp) (x:Addr),Same H H'→NAt H' x (Dk L light side g)→Q (.ref x) H'
theorem scLeast:Ab ["hoist","sides","views","number"] ["hoist","sides"] (AK FX):=⟨rfl,rfl,rfl,by decide +kernel,rfl,by decide +kernel,by decide +kernel⟩
section
variable {P:Program}{w:World}{K:AB}{mg:Str→Option Value}{base:Heap}
theorem ok_least {f:Addr}{fd:FuncData} (F:Fun K "least_view" "least_view" FX f fd) (B:Blt mg) (hmin:mg "min"=none):FnOk P w K mg base CX0 1 f fd ["hoist","sides"] (Vc K):=by
 refine F.ok scLeast (fun vs H Q E h=>?_) (fun cdv A outer s H vs Q E hr h=>?_)
 ·obtain⟨a,b,L,light,side,g,ls,rfl,_⟩:=h
  rfl
 ·obtain⟨a,b,L,light,side,g,ls,rfl,ha,hgl,hgk,hb,hp,hs2,k⟩:=h
  have hu6:=hr.units
  refine⟨_,AJ (AM (A4 (Yi K rfl rfl (JJ (Hf (show 20≤64 by decide) _) hu6)) (by rfl) hmin PyProof.Rows.boot_min (AA (DA (own:=[("views",2)]) rfl scLeast.nd (Cy (pv 1)) (Cu (N:=["hoist","sides","views","number"]) (sc:=AK FX) (by decide +kernel))
    (fun s H C cl fp=>BJ (i:=2) scLeast.nd rfl (De rfl)) (fun s H C cl fp=>DC)
    (fun s H C cl fp=>NY (QR K rfl) (by rfl) B.tuple QP (AA (DA (own:=[("number",3)]) rfl scLeast.nd (bj K rfl (pv 0)) (show Gw ["hoist","sides","views","number"] (relabel aN (envOfC "least_view" (AK FX) 0 0 .none)) aM [("number",3)] from Cu (by decide +kernel))
     (fun s H C cl fp=>BJ (i:=3) scLeast.nd rfl (AQ rfl)) (fun s H C cl fp=>DC) (fun s H C cl fp=>Na K rfl (pv 2) (pv 3) (fun _ _=>rfl))) AD))) AD))),?_⟩
  have hlp:=Bb hp
  have hsl:(DZ side).length≤2:=by unfold DZ;split <;> simp
  refine⟨_,rfl,b,rfl,⟨_,SqL.of hb⟩,fun D hD=>?_⟩
  have nDa:a≠D:=Ai ha hD
  refine G6 (n:=(ls.map V.ref).length) (tt:=DH) (fun i H'=>Same H H'∧∃xs:List Addr,H' D=some (.lst (xs.map V.ref))∧Paired (NAt (hid [D] H')) xs (((DZ side).take i).map fun d=>vwH L light d g)) ⟨(Same.refl H).new hD,[],AH,.nil⟩
   (fun i H' hi q=>EE (SqL.of (q.1 _ _ hb)) hi) (fun H' q=>EF (SqL.of (q.1 _ _ hb))) ?_ ?_
  ·rintro i y H2 H3 hi ⟨s2,xs,hxs,hpx⟩ ⟨rfl,hy⟩
   have hy:=hy _ (SqL.of (s2 _ _ hb))
   rw[AF] at hi
   have hdi:(DZ side)[i]?=some (DZ side)[i]:=As (by omega)
   generalize (DZ side)[i]=d at hdi
   obtain⟨la,hla,ts,htl,htp⟩:=Cb hp hdi
   rw[AX,hla] at hy
   have ey:V.ref la=y:=AV hy
   subst ey
   have hts:=Bb htp
   refine⟨rfl,?_⟩
   simp only[DH,if_true]
   refine⟨_,rfl,a,rfl,⟨_,SqL.of (s2 _ _ ha)⟩,fun D2 hD2=>?_⟩
   have hgt:∀j,j < g.length→∃(f:Nat) (t:Addr) (kd:AR),g[j]?=some f∧ts[f]?=some t∧L.kinds[f]?=some kd∧H t=some (.tup ((vwK light d kd).map V.int)):=fun j hj=>by
    have h1:g[j]?=some g[j]:=As hj
    have h2:L.kinds[g[j]]?=some (L.kinds[g[j]]'(hgk _ (GY hj))):=As _
    obtain⟨t,h3,h4⟩:=Cb htp h2
    exact⟨_,t,_,h1,h3,h2,h4⟩
   have e0:(g.map fun f=>ts.getD f 0).length=g.length:=AF _
   refine EW (n:=((zn g).map V.int).length) ((g.map fun f=>ts.getD f 0).map V.ref) (by simp[zn]) (BN (by rw[AF,Bl];omega)) hD2 (fun j H hj s3=>EE (SqL.of (s3 _ _ (s2 _ _ ha))) hj) (fun H s3=>EF (SqL.of (s3 _ _ (s2 _ _ ha)))) ?_ ?_
   ·rintro j y z H4 H5 hz s3 ⟨rfl,hy2⟩ R hR
    have hy2:=hy2 _ (SqL.of (s3 _ _ (s2 _ _ ha)))
    have hj:j < g.length:=by
     have:=(Be.mp hy2).1
     rwa [AF,Bl] at this
    obtain⟨f,t,kd,g1,g2,g3,g4⟩:=hgt j hj
    have ey2:y=V.int (f:Nat):=by
     unfold zn at hy2
     rw[CG,AX,g1] at hy2
     exact(AV hy2).symm
    have ez:z=V.ref t:=by
     rw[CG,AX,g1] at hz
     have hz:some (V.ref (ts.getD f 0))=some z:=hz
     rw[D5,g2] at hz
     exact(AV hz).symm
    subst ey2 ez
    exact⟨rfl,_,rfl,_,rfl,la,_,_,_,rfl,rfl,SqL.of (s3 _ _ (s2 _ _ htl)),Bw (j:=f) (by rw[AX,g2];rfl),hR _ (Same.refl _)⟩
   ·intro H4 s4 hd4
    refine⟨D2,_,rfl,SqL.of hd4,fun x nx=>?_⟩
    have s5:Same H4 (upd H4 x (.tup ((g.map fun f=>ts.getD f 0).map V.ref))):=(Same.refl _).new nx
    have s25:=s4.trans s5
    have hxs5:=s25 _ _ hxs
    have nxD:x≠D:=fun z=>by rw[z,s4 _ _ hxs] at nx;cases nx
    have hxl:=Bb hpx
    rw[AF,Cn] at hxl
    refine⟨xs.map V.ref,hxs5,BN (by rw[AF];omega),(s2.trans s25).wr hD,xs++[x],by rw[AH,BG];rfl,?_⟩
    rw[G4,EK hdi,BG]
    refine Et (Paired.mapP hpx fun q d z=>z.mono (F8 s25)) ⟨g.map fun f=>ts.getD f 0,?_,?_⟩
    ·rw[Ax (by simpa using nxD)]
     exact AH
    ·unfold vwH
     have go:∀(gs:List Nat),(∀f∈gs,f < L.kinds.length)→Paired (fun q k=>hid [D] (upd H4 x (.tup ((g.map fun f=>ts.getD f 0).map V.ref))) q=some (.tup (k.map V.int))) (gs.map fun f=>ts.getD f 0) (gs.map fun f=>((L.kinds[f]?).map (vwK light d)).getD []):=fun gs=>by
      induction gs with
      | nil=>exact fun _=>.nil
      | cons f gs ih =>
       intro hgs
       have h2:L.kinds[f]?=some (L.kinds[f]'(hgs f AZ)):=As _
       obtain⟨t,h3,h4⟩:=Cb htp h2
       rw[Am,Am]
       refine .cons ?_ (ih fun f' hf'=>hgs f' (Ar _ hf'))
       rw[D5,h3,h2]
       show hid [D] _ t=some (.tup ((vwK light d _).map V.int))
       rw[Ax (by simpa using Ai h4 hD)]
       exact s25 _ _ (s2 _ _ h4)
     exact go g hgk
  ·rintro H2 ⟨s2,xs,hxs,hpx⟩
   rw[AF,hlp,Ec (AO _)] at hpx
   have hpx:=Paired.mapP hpx fun q v (z:NAt (hid [D] H2) q v)=>z.mono IJ
   refine⟨D,xs,_,rfl,SqL.of hxs,hpx,?_⟩
   by_cases h2:side=2
   ·subst h2
    have e:((DZ 2).map fun d=>vwH L light d g)=[vwH L light 0 g,vwH L light 1 g]:=rfl
    rw[e] at hpx ⊢
    cases hpx with
    | @cons x0 _ xs' _ p0 hpx =>
     cases hpx with
     | @cons x1 _ xs' _ p1 hpx =>
      cases hpx
      refine .inr ⟨x0,x1,_,_,rfl,rfl,fun hlt=>?_,fun hlt=>?_⟩
      ·refine k H2 x1 s2 ?_
       unfold Dk
       rw[if_pos rfl,if_pos hlt]
       exact p1
      ·refine k H2 x0 s2 ?_
       unfold Dk
       rw[if_pos rfl,if_neg (by rw[hlt];exact Aj)]
       exact p0
   ·have e:((DZ side).map fun d=>vwH L light d g)=[vwH L light side g]:=by unfold DZ;rw[if_neg h2];rfl
    rw[e] at hpx ⊢
    cases hpx with
    | @cons x0 _ xs' _ p0 hpx =>
     cases hpx
     refine .inl ⟨x0,_,rfl,rfl,k H2 x0 s2 ?_⟩
     unfold Dk
     rw[if_neg h2]
     exact p0
end
end Fb
end
section
set_option maxRecDepth 100000
set_option maxHeartbeats 4000000
namespace Fb
open PySem PySem.Spec PyProof.Rows L2
abbrev NE:=List (List Int)×Addr×Addr
def EB (xs:List NE):List (List (List Key)×Addr×Value):=xs.map fun x=>(x.1.map kL,x.2.1,.ref x.2.2)
def BZ (xs:List NE) (v:List (List Int)):Option NE:=xs.find? fun x=>decide (x.1=v)
def GK (xs:List NE) (v:List (List Int)) (a l:Addr):List NE:=if (BZ xs v).isSome=true then xs.map (fun x=>if x.1=v then (x.1,x.2.1,l) else x) else xs++[(v,a,l)]
def DNO (P:Program) (w:World) (d:Addr) (xs:List NE):HO:=.ext fun h=>(d==sysModules)=false∧∃o es ep,h.get? d=some o∧o.ExactDict∧o.data=.dict es ep∧es.toList=(EB xs).map (entryOfKey (GH P w))∧((EB xs).map (·.1)).Nodup
structure DN (P:Program) (w:World) (H:Hp) (d:Addr) (xs:List NE):Prop where
 at_:H d=some (DNO P w d xs)
 keys:∀x∈xs,NAt H x.2.1 x.1
theorem DN.mono {P:Program}{w:World}{H H':Hp}{d:Addr}{xs:List NE} (s:Same H H') (h:DN P w H d xs):DN P w H' d xs:=⟨s _ _ h.at_,fun x hx=>(h.keys x hx).mono s⟩
theorem Z3 (a b:List (List Int)):decide (a.map kL=b.map kL)=decide (a=b):=by
 rw[C5,decide_eq_true_iff,decide_eq_true_iff]
 exact⟨Mx,fun e=>by rw[e]⟩
theorem JY (v:List (List Int)):∀xs:List NE,atKey (EB xs) (v.map kL)=(BZ xs v).map fun x=>(x.2.1,Ak x.2.2)
 | []=>rfl
 | x::xs=>by
  have ih:=JY v xs
  unfold atKey EB BZ at ih ⊢
  rw[Am,C8,C8,Z3]
  cases decide (x.1=v) with
  | true=>rfl
  | false=>exact ih
theorem eF (xs:List NE) (v:List (List Int)) (a l:Addr):storedH (EB xs) (v.map kL) a (.ref l)=EB (GK xs v a l):=by
 unfold storedH GK
 rw[JY,Hj]
 by_cases h:(BZ xs v).isSome=true
 ·rw[if_pos h,if_pos h]
  unfold EB
  rw[CG,CG]
  refine CY fun x _=>?_
  show putAt (v.map kL) (Ak l) (x.1.map kL,x.2.1,.ref x.2.2)=_
  unfold putAt
  by_cases e:x.1=v
  ·rw[if_pos (show(x.1.map kL,x.2.1,Ak x.2.2).1=v.map kL by rw[← e])]
   show _=((if x.1=v then (x.1,x.2.1,l) else x).1.map kL,(if x.1=v then (x.1,x.2.1,l) else x).2.1,Ak (if x.1=v then (x.1,x.2.1,l) else x).2.2)
   rw[if_pos e]
  ·rw[if_neg (show ¬(x.1.map kL,x.2.1,Ak x.2.2).1=v.map kL from fun z=>e (Mx z))]
   show _=((if x.1=v then (x.1,x.2.1,l) else x).1.map kL,(if x.1=v then (x.1,x.2.1,l) else x).2.1,Ak (if x.1=v then (x.1,x.2.1,l) else x).2.2)
   rw[if_neg e]
 ·rw[if_neg h,if_neg h]
  unfold EB
  rw[BG]
  rfl
section
variable {X:Cx}{pins:List (Addr×Obj)}{σ:L2.St}{H:Hp}{s:Shared}
theorem Mc (I:Inv X pins σ H s) {d:Addr}{xs:List NE} (h:DN X.prog X.w H d xs):(d==sysModules)=false∧s.heap.DictOfH (GH X.prog X.w) d (EB xs):=by
 obtain⟨⟨hs,o,es,ep,h1,h2,h3,h4,h5⟩,_⟩:=I.hok d _ h.at_
 refine⟨hs,o,es,ep,h1,h2,h3,h4,fun x hx=>?_,h5⟩
 obtain⟨y,hy,rfl⟩:=BD.mp hx
 exact KS I (h.keys y hy)
theorem Qq {h':Heap}{d:Addr}{xs:List NE} (hs:(d==sysModules)=false) (dd:h'.DictOfH (GH X.prog X.w) d (EB xs)) (H':Hp):ObjOk X.prog X.w H' h' d (DNO X.prog X.w d xs):=by
 obtain⟨o,es,ep,h1,h2,h3,h4,_,h5⟩:=dd
 exact⟨⟨hs,o,es,ep,h1,h2,h3,h4,h5⟩,⟨o,h1⟩,fun ha hb ⟨q0,o',es',ep',q1,q2,q3,q4,q5⟩ k=>⟨q0,o',es',ep',k _ q1,q2,q3,q4,q5⟩⟩
end
def eS (P:Program) (w:World):TE:=fun _ H Q=>∀p,H p=none→Q (.ref p) (upd H p (DNO P w p []))
def eZ (P:Program) (w:World) (ty td:TE):TE:=fun σ H Q=>ty σ H fun y H1=>td σ H1 fun x H2=>∃(d b:Addr) (v:List (List Int)) (xs:List NE),x=.ref d∧y=.ref b∧DN P w H2 d xs∧NAt H2 b v∧Q (.bl (!(BZ xs v).isSome)) H2
def V3 (P:Program) (w:World) (td ty:TE):TE:=fun σ H Q=>td σ H fun x H1=>ty σ H1 fun y H2=>∃(d b:Addr) (v:List (List Int)) (xs:List NE) (e:NE),x=.ref d∧y=.ref b∧DN P w H2 d xs∧NAt H2 b v∧BZ xs v=some e∧Q (.ref e.2.2) H2
def cw (P:Program) (w:World) (td ty tv:TE):TS:=fun D σ H=>tv σ H fun z H1=>td σ H1 fun x H2=>ty σ H2 fun y H3=>∃(d b l:Addr) (v:List (List Int)) (xs:List NE),x=.ref d∧y=.ref b∧z=.ref l∧DN P w H3 d xs∧NAt H3 b v∧xs.length < sizeLine∧D.nx σ (upd H3 d (DNO P w d (GK xs v b l)))
section
variable {X:Cx}{pos pos':Pos}{o i value:Expr}{td ty tv:TE} (P:Program) (w:World) (hP:X.prog=P) (hw:X.w=w)
include hP hw
theorem bW:PE X (.Dict [] [] pos) (eS P w):=by
 subst hP hw
 exact fun pins s σ H Q I h=>Pq ⟨.ref s.heap.objs.size,_,I.laid (a:=s.heap.objs.size) (o:=DNO X.prog X.w s.heap.objs.size []) (t':=s.toks) (fun _ _ q=>A2 _ q) (AO _) (Qq (beq_eq_false_iff_ne.mpr (Af (BO I.big))) (Heap.DictOfH.new s.heap) _),rfl,h _ (I.hok.fresh (AO _))⟩
theorem bQ (hu:X.A.units+20 < cLine) (hi:PE X i ty) (ho:PE X o td):PC X .NotIn i o (eZ P w ty td):=by
 subst hP hw
 intro pins s σ H Q I h
 refine thn (hi pins s σ H _ I h) fun iv s1 ⟨y,H1,I1,ry,q1⟩=>thn (ho pins s1 σ H1 _ I1 q1) fun u s2 ⟨x,H2,I2,rx,d,b,v,xs,ex,ey,g,hk,q2⟩=>?_
 subst ex ey
 cases rx
 cases ry
 obtain⟨hd,dd⟩:=Mc I2 g
 refine wpAny_notIn_heap (knd:=GH X.prog X.w) (show X.A.units+1+4 < cLine by omega) (KS I2 hk) hd dd ?_
 rw[JY,Hj]
 exact⟨.bl (!(BZ xs v).isSome),H2,I2.tok _,rfl,q2⟩
theorem Nb (hu:X.A.units+20 < cLine) (ho:PE X o td) (hi:PE X i ty) (hs:ME i):PE X (.Subscript o i pos) (V3 P w td ty):=by
 subst hP hw
 intro pins s σ H Q I h
 refine Vz XO.lookup hs (thn (ho pins s σ H _ I h) fun u s1 ⟨x,H1,I1,rx,q1⟩=>thn (hi pins s1 σ H1 _ I1 q1) fun iv s2 ⟨y,H2,I2,ry,d,b,v,xs,e,ex,ey,g,hk,hf,q2⟩=>?_)
 subst ex ey
 cases rx
 cases ry
 obtain⟨hd,dd⟩:=Mc I2 g
 refine⟨dd.typeIs,Xz (knd:=GH X.prog X.w) (p:=(e.2.1,Ak e.2.2)) (show X.A.units+1+4 < cLine by omega) (KS I2 hk) dd ?_ ?_⟩
 ·rw[JY,hf];rfl
 ·exact⟨.ref e.2.2,H2,I2.tok _,rfl,q2⟩
theorem S1 (hu:X.A.units+20 < cLine) (ho:PE X o td) (hi:PE X i ty) (hv:PE X value tv) (hs:swapsWith value (some (.Subscript o i pos')) pos.line X.env=pure false):PS X (.Assign [.Subscript o i pos'] value pos) (cw P w td ty tv):=by
 subst hP hw
 intro pins s σ H D I h
 refine Xv (thn (hv pins s σ H _ I h) fun r s1 ⟨z,H1,I1,rv,q1⟩=>thn (ho pins s1 σ H1 _ I1 q1) fun u s2 ⟨x,H2,I2,rx,q2⟩=>thn (hi pins s2 σ H2 _ I2 q2) fun iv s3 ⟨y,H3,I3,ry,d,b,l,v,xs,ex,ey,ez,g,hk,hl,q3⟩=>?_) hs
 subst ex ey ez
 cases rx
 cases ry
 cases rv
 obtain⟨hd,dd⟩:=Mc I3 g
 refine X9 (knd:=GH X.prog X.w) (hsz:=by unfold EB;rw[AF];omega) (show X.A.units+1+4 < cLine by omega) (KS I3 hk) dd fun h' dd' hs'=>?_
 rw[eF] at dd'
 have he:∃q,h'.get? d=some q:=let ⟨q,_,_,hq,_⟩:=dd';⟨q,hq⟩
 exact⟨σ,_,Mb I3 (by rw[g.at_];exact Gv) hs' he (Qq hd dd' _),q3⟩
end
end Fb
end
section
set_option maxRecDepth 100000
set_option maxHeartbeats 4000000
namespace Fb
open PySem PySem.Spec PyProof.Rows L2
abbrev VW:=List (List Int)
def Bc (vs:List VW) (v:VW) (i n:Nat):List Nat:=(A0 n).filter fun j=>decide (i≤j)&&decide (vs[j]?=some v)
theorem S8 {vs:List VW}{v:VW}{i:Nat}:Bc vs v 0 (i+1)=Bc vs v 0 i++if vs[i]?=some v then [i] else []:=by
 unfold Bc
 rw[JI,Iv,Dc,Oj]
 by_cases h:vs[i]?=some v
 ·rw[if_pos h,decide_eq_true h]
  simp
 ·rw[if_neg h,decide_eq_false h]
  simp
theorem cg {vs:List VW}{v:VW}{i:Nat} (h:v∉vs.take i):Bc vs v 0 i=[]:=by
 unfold Bc
 rw[Iy]
 intro j hj
 rw[BC,decide_eq_true_eq,decide_eq_true_eq]
 rintro⟨_,e⟩
 refine h (CZ (i:=j) ?_)
 rw[Ov (E7.mp hj)]
 exact e
theorem Ng {vs:List VW}{v:VW}{i n:Nat}:(Bc vs v i n).length≤n:=by
 have:=JC (fun j=>decide (i≤j)&&decide (vs[j]?=some v)) (A0 n)
 rwa [Fl] at this
theorem Mh {xs:List NE}{v:VW}{e:NE} (h:BZ xs v=some e):e∈xs∧e.1=v:=by
 refine⟨JF h,?_⟩
 have:=LF h
 exact of_decide_eq_true this
theorem ZM {xs:List NE}{e:NE} (h:e∈xs):(BZ xs e.1).isSome=true:=by
 unfold BZ
 rw[List.find?_isSome]
 exact⟨e,h,decide_eq_true rfl⟩
theorem ZO {xs:List NE}{v u:VW}{a l:Addr}:(BZ (xs++[(v,a,l)]) u).isSome=true↔(BZ xs u).isSome=true∨u=v:=by
 unfold BZ
 rw[Wa,Option.isSome_or,K2,C8,List.find?_nil]
 refine or_congr_right ?_
 by_cases e:v=u
 ·rw[decide_eq_true (show(v,a,l).1=u from e)]
  exact⟨fun _=>e.symm,fun _=>rfl⟩
 ·rw[decide_eq_false (show ¬(v,a,l).1=u from e)]
  exact⟨fun z=>(nomatch z),fun z=>absurd z.symm e⟩
theorem NL {α β:Type}{f:α→β}:∀{l:List α},(l.map f).Nodup→∀{x y:α},x∈l→y∈l→f x=f y→x=y
 | z::l,h,x,y,hx,hy,e=>by
  rw[Am,Dd] at h
  rcases AY.mp hx with a | a <;> rcases AY.mp hy with b | b
  ·rw[a,b]
  ·exact absurd (BD.mpr ⟨y,b,by rw[← e,a]⟩) h.1
  ·exact absurd (BD.mpr ⟨x,a,by rw[e,b]⟩) h.1
  ·exact NL h.2 a b e
abbrev Tv:Stmt:=Uz
structure NB (P:Program) (w:World) (H0 H:Hp) (d:Addr) (vs:List VW) (i:Nat) (xs:List NE):Prop where
 dn:DN P w H d xs
 val:∀x∈xs,H x.2.2=some (.lst ((zn (Bc vs x.1 0 i)).map V.int))∧H0 x.2.2=none
 has:∀v,(BZ xs v).isSome=true↔v∈vs.take i
 one:(xs.map fun (x:NE)=>x.2.2).Nodup
 kd:(xs.map fun (x:NE)=>x.1).Nodup
 few:xs.length≤i
def Vf (P:Program) (w:World) (K:AB):Sp:=fun ws H Q _=>∃(a:Addr) (as:List Addr) (vs:List VW),ws=[.ref a]∧H a=some (.lst (as.map V.ref))∧Paired (NAt H) as vs∧vs.length≤5000∧
 ∀(H':Hp) (d:Addr) (xs:List NE),Same H H'→H d=none→NB P w H H' d vs vs.length xs→Q (.ref d) H'
theorem scNBV:Ab ["seen","numbers","number","view"] ["seen"] (AK Tv):=⟨rfl,rfl,rfl,by decide +kernel,rfl,by decide +kernel,by decide +kernel⟩
section
variable {P:Program}{w:World}{K:AB}{mg:Str→Option Value}{base:Heap}
theorem ok_nbv {f:Addr}{fd:FuncData} (F:Fun K "numbers_by_view" "numbers_by_view" Tv f fd) (B:Blt mg):FnOk P w K mg base CX0 1 f fd ["seen"] (Vf P w K):=by
 refine F.ok scNBV (fun vs H Q E h=>?_) (fun cdv A outer s H vs Q E hr h=>?_)
 ·obtain⟨a,as,vs,rfl,_⟩:=h
  rfl
 ·obtain⟨a,as,vs,rfl,ha,hp,hvl,k⟩:=h
  have hu:=JJ (Hf (show 20≤64 by decide) _) hr.units
  refine⟨_,AI (Ap (i:=1) scNBV.nd rfl (AQ rfl) (bW P w rfl rfl))
   (AI (Ds D7 rfl (Nc (by rfl) B.enumerate (AA (pv 0) AD)) (Kd rfl (FU (BJ (i:=2) scNBV.nd rfl (AQ rfl)) (FU (BJ (i:=3) scNBV.nd rfl (AQ rfl)) Ke)))
    (AI (Aw (b0 (bQ P w rfl rfl hu (pv 3) (pv 1))) (AJ (S1 P w rfl rfl hu (pv 1) (pv 3) (A5 AD) rfl)) Ay)
     (AJ (Dr (DS Df E8 E9 Es (Nb P w rfl rfl hu (pv 1) (pv 3) (fun _ _=>rfl)) (AA (pv 2) AD))))))
   (AJ (AM (pv 1)))),?_⟩
  have hal:=Bb hp
  intro d nd
  have s1:Same H (upd H d (DNO P w d [])):=(Same.refl H).new nd
  refine⟨_,rfl,a,_,rfl,SqL.of (s1 _ _ ha),?_⟩
  refine FG (n:=vs.length) (fun i σ H'=>∃(v2 v3:Option V) (xs:List NE),σ=[some (.ref a),some (.ref d),v2,v3]∧Same H H'∧NB P w H H' d vs i xs)
   ⟨none,none,[],rfl,s1,⟨⟨AH,fun x hx=>(nomatch hx)⟩,fun x hx=>(nomatch hx),fun v=>⟨fun z=>(nomatch z),fun z=>by rw[O0] at z;cases z⟩,JG,JG,Au _⟩⟩ ?_ ?_ ?_ ?_
  ·rintro i σ H' hi ⟨_,_,_,_,s2,_⟩
   exact⟨_,_,SqL.of (s2 _ _ ha),As (by rw[AF,hal];exact hi)⟩
  ·rintro σ H' ⟨_,_,_,_,s2,_⟩
   exact⟨_,SqL.of (s2 _ _ ha),by rw[AF,hal];exact AO _⟩
  ·rintro i y σ H' H3 hi ⟨v2,v3,xs,rfl,s2,nb⟩ ⟨Tp,x,rfl,nT,rfl,hx⟩
   have hxi:=hx _ (SqL.of (s2 _ _ ha))
   rw[AX] at hxi
   have hvi:vs[i]?=some vs[i]:=As hi
   generalize vs[i]=v at hvi
   obtain⟨va,hva,hna⟩:=Cb hp hvi
   rw[hva] at hxi
   have ex:V.ref va=x:=AV hxi
   subst ex
   have s3:Same H' (upd H' Tp (.tup [.int (i:Nat),.ref va])):=(Same.refl H').new nT
   have hT:upd H' Tp (.tup [.int (i:Nat),.ref va]) Tp=some (.tup [.int (i:Nat),.ref va]):=AH
   generalize upd H' Tp (.tup [.int (i:Nat),.ref va])=H3 at s3 hT ⊢
   have s03:=s2.trans s3
   refine⟨Tp,_,rfl,.inl (.inl hT),rfl,_,_,rfl,_,_,rfl,rfl,?_⟩
   have tail:∀(H4:Hp) (ys:List NE) (e:NE),Same H H4→DN P w H4 d ys→(∀x∈ys,H4 x.2.2=some (.lst ((zn (Bc vs x.1 0 i)).map V.int))∧H x.2.2=none)→(∀u,(BZ ys u).isSome=true↔u∈vs.take (i+1))→(ys.map fun (x:NE)=>x.2.2).Nodup→(ys.map fun (x:NE)=>x.1).Nodup→ys.length≤i+1→BZ ys v=some e→
     tBM K "list" Nf (V3 P w (CV 1) (CV 3)) (C2 (CV 2) Dy) [some (.ref a),some (.ref d),some (.int (i:Nat)),some (.ref va)] H4 fun x H'=>∃(v2 v3:Option V) (xs:List NE),[some (V.ref a),some (.ref d),some (.int (i:Nat)),some (.ref va)]=[some (.ref a),some (.ref d),v2,v3]∧Same H H'∧NB P w H H' d vs (i+1) xs:=fun H4 ys e s4 dn hval hhas hone hkd hfew hf=>by
    obtain⟨hem,hev⟩:=Mh hf
    obtain⟨hel,hen⟩:=hval e hem
    have hdl:d≠e.2.2:=fun z=>by rw[← z,dn.at_] at hel;cases hel
    refine⟨_,rfl,_,rfl,d,va,v,ys,e,rfl,rfl,dn,hna.mono s4,hf,.inl ⟨rfl,_,SqL.of hel⟩,_,rfl,e.2.2,_,_,rfl,rfl,hel,?_,?_⟩
    ·rw[AF,Bl]
     have:=Ng (vs:=vs) (v:=e.1) (i:=0) (n:=i)
     exact BN (by omega)
    ·have keep:∀{x:Addr} {o:HO},H4 x=some o→(∀zs,o≠.lst zs)→upd H4 e.2.2 (.lst ((zn (Bc vs e.1 0 i)).map V.int++[.int (i:Nat)])) x=some o:=fun {x o} z n=>by
      rw[AG (BE z hel (n _))]
      exact z
     refine⟨_,_,ys,rfl,s4.wr hen,⟨⟨keep dn.at_ (fun _ z=>nomatch z),fun x hx=>?_⟩,fun x hx=>⟨?_,(hval x hx).2⟩,hhas,hone,hkd,hfew⟩⟩
     ·obtain⟨qs,q1,q2⟩:=dn.keys x hx
      exact⟨qs,keep q1 (fun _ z=>nomatch z),Paired.mapP q2 fun q k z=>keep z (fun _ z=>nomatch z)⟩
     ·by_cases he:x.2.2=e.2.2
      ·have hxe:x=e:=NL hone hx hem he
       subst hxe
       rw[AH,S8,if_pos (by rw[hvi,hev])]
       unfold zn
       rw[BG,BG]
       rfl
      ·rw[AG he,S8,if_neg (fun z=>?_),CO]
       ·exact(hval x hx).1
       ·rw[hvi] at z
        exact he (by rw[NL hkd hx hem (show x.1=e.1 by rw[hev];exact(AV z).symm)])
   refine⟨_,rfl,_,rfl,d,va,v,xs,rfl,rfl,nb.dn.mono s3,hna.mono s03,_,rfl,?_⟩
   have htk:vs.take (i+1)=vs.take i++[v]:=EK hvi
   have hxl:=nb.few
   cases hf:BZ xs v with
   | some e =>
    refine bF rfl ?_
    refine tail H3 xs e s03 (nb.dn.mono s3) (fun x hx=>⟨s3 _ _ (nb.val x hx).1,(nb.val x hx).2⟩) (fun u=>?_) nb.one nb.kd (by omega) hf
    rw[nb.has,htk,Ce,A1]
    refine⟨.inl,fun z=>z.elim id fun z=>?_⟩
    rw[z,← nb.has,hf]
    rfl
   | none =>
    refine bT rfl ?_
    refine⟨Au _,fun l0 n0=>?_⟩
    have s4:Same H3 (upd H3 l0 (.lst [])):=(Same.refl H3).new n0
    have hl0:upd H3 l0 (.lst []) l0=some (.lst []):=AH
    generalize upd H3 l0 (.lst [])=H4 at s4 hl0 ⊢
    have s34:=s3.trans s4
    have s04:=s2.trans s34
    refine⟨_,rfl,_,rfl,d,va,l0,v,xs,rfl,rfl,rfl,nb.dn.mono s34,hna.mono s04,BN (by omega),?_⟩
    have eput:GK xs v va l0=xs++[(v,va,l0)]:=by unfold GK;rw[hf];rfl
    rw[eput]
    have hd4:=s34 _ _ nb.dn.at_
    have keep:∀{x:Addr} {o:HO},H4 x=some o→(∀φ,o≠.ext φ)→upd H4 d (DNO P w d (xs++[(v,va,l0)])) x=some o:=fun {x o} z n=>by
     rw[AG (BE z hd4 (n _))]
     exact z
    have keepN:∀{x:Addr} {u:VW},NAt H4 x u→NAt (upd H4 d (DNO P w d (xs++[(v,va,l0)]))) x u:=fun {x u} ⟨qs,q1,q2⟩=>⟨qs,keep q1 (fun _ z=>nomatch z),Paired.mapP q2 fun q k z=>keep z (fun _ z=>nomatch z)⟩
    have hnv:v∉vs.take i:=fun z=>by
     have:=(nb.has v).mpr z
     rw[hf] at this
     cases this
    refine tail _ (xs++[(v,va,l0)]) (v,va,l0) (s04.wr nd) ⟨AH,fun x hx=>?_⟩ (fun x hx=>?_) (fun u=>?_) ?_ ?_ (by rw[BL,Cs];omega) ?_
    ·rcases Ce.mp hx with z | z
     ·exact keepN ((nb.dn.keys x z).mono s34)
     ·rw[A1.mp z]
      exact keepN (hna.mono s04)
    ·rcases Ce.mp hx with z | z
     ·exact⟨keep (s34 _ _ (nb.val x z).1) (fun _ z=>nomatch z),(nb.val x z).2⟩
     ·rw[A1.mp z]
      refine⟨?_,s03.free n0⟩
      rw[cg hnv]
      exact keep hl0 (fun _ z=>nomatch z)
    ·rw[ZO,nb.has,htk,Ce,A1]
    ·rw[BG,Wo]
     refine⟨nb.one,by simp,fun x hx y hy=>?_⟩
     obtain⟨z,hz,rfl⟩:=BD.mp hx
     have hy:y=l0:=by simpa using hy
     rw[hy]
     intro e
     have:=s3 _ _ (nb.val z hz).1
     rw[e,n0] at this
     cases this
    ·rw[BG,Wo]
     refine⟨nb.kd,by simp,fun x hx y hy=>?_⟩
     obtain⟨z,hz,rfl⟩:=BD.mp hx
     have hy:y=v:=by simpa using hy
     rw[hy]
     intro e
     have:=ZM hz
     rw[e,hf] at this
     cases this
    ·unfold BZ at hf ⊢
     rw[Wa,hf,C8,decide_eq_true (show(v,va,l0).1=v from rfl)]
     rfl
  ·rintro σ H' ⟨v2,v3,xs,rfl,s2,nb⟩
   exact⟨_,rfl,k H' d xs s2 nd nb⟩
end
end Fb
end
section
set_option maxRecDepth 100000
set_option maxHeartbeats 4000000
namespace Fb
open PySem PySem.Spec PyProof.Rows L2
theorem SG {n:Nat} (h:n < 16777216):n < sizeLine:=by rw[JQ];exact h
theorem ck {vs:List VW}{i n:Nat}{v:VW} (hv:vs[i]?=some v) (hi:i < n):Bc vs v i n=i::Bc vs v (i+1) n:=by
 unfold Bc
 have key:∀m,i < m→(A0 m).filter (fun j=>decide (i≤j)&&decide (vs[j]?=some v))=i::(A0 m).filter (fun j=>decide (i+1≤j)&&decide (vs[j]?=some v)):=by
  intro m
  induction m with
  | zero=>intro h;omega
  | succ m ih =>
   intro h
   rw[JI,Iv,Iv]
   by_cases e:i=m
   ·subst e
    have e1:(A0 i).filter (fun j=>decide (i≤j)&&decide (vs[j]?=some v))=[]:=by
     rw[Iy]
     intro j hj
     have:=E7.mp hj
     rw[decide_eq_false (by omega),Cr]
     exact Aj
    have e2:(A0 i).filter (fun j=>decide (i+1≤j)&&decide (vs[j]?=some v))=[]:=by
     rw[Iy]
     intro j hj
     have:=E7.mp hj
     rw[decide_eq_false (by omega),Cr]
     exact Aj
    rw[e1,e2,Dc,Dc,decide_eq_true (AO i),decide_eq_true hv,decide_eq_false (show ¬i+1≤i by omega)]
    rfl
   ·rw[ih (by omega),Dc,Dc,Oj,decide_eq_true (show i≤m by omega),decide_eq_true (show i+1≤m by omega)]
    rfl
 exact key n hi
theorem cj {vs:List VW}{i n:Nat}{v u:VW} (hv:vs[i]?=some v) (ne:u≠v):Bc vs u (i+1) n=Bc vs u i n:=by
 unfold Bc
 refine Iw fun j _=>?_
 by_cases e:j=i
 ·subst e
  rw[decide_eq_false (show ¬vs[j]?=some u from fun z=>ne (by rw[hv] at z;exact(AV z).symm)),GO,GO]
 ·have:decide (i+1≤j)=decide (i≤j):=CM (by omega)
  rw[this]
def EI (vs:List VW) (n i:Nat):List Nat:=(A0 i).flatMap fun a=>(Bc vs ((vs[a]?).getD []) (a+1) n).flatMap fun b=>[a,b]
theorem Ml (a:Nat):∀l:List Nat,(l.flatMap fun b=>[a,b]).length=2 * l.length
 | []=>rfl
 | x::l=>by
  have:=Ml a l
  simp only[Fj,BL,A9,Ea]
  omega
theorem NX (vs:List VW) (n:Nat):∀i,(EI vs n i).length≤2 * n * i
 | 0=>Au _
 | i+1=>by
  have ih:=NX vs n i
  unfold EI at ih ⊢
  rw[JI,Oo,BL,Fj,Iz,CO,Ml]
  have:=Ng (vs:=vs) (v:=(vs[i]?).getD []) (i:=i+1) (n:=n)
  rw[Nat.mul_succ]
  omega
theorem NAt.hd {H:Hp}{x D:Addr}{v:VW}{xs:List V} (h:NAt H x v) (hD:H D=some (.lst xs)):NAt (hid [D] H) x v:=by
 obtain⟨qs,h1,h2⟩:=h
 refine⟨qs,?_,Paired.mapP h2 fun q k z=>?_⟩
 ·rw[Ax (by simpa using BE h1 hD (by intro w;cases w))]
  exact h1
 ·rw[Ax (by simpa using BE z hD (by intro w;cases w))]
  exact z
theorem RT:∀{l:List Flags.Spot}{c:Nat→Nat}{h:List Nat},Fm.greedy c l=some h→∀f∈h,∃p∈l,f∈p.sign::p.may
 | [],c,h,e,f,hf=>by cases e;cases hf
 | p::l,c,h,e,f,hf=>by
  unfold Fm.greedy at e
  cases hfd:(p.sign::p.may).find? (fun f=>decide (0 < c f)) with
  | none=>rw[hfd] at e;cases e
  | some g =>
   rw[hfd] at e
   obtain⟨h',e1,e2⟩:=Gb.mp e
   subst e2
   rcases AY.mp hf with z | z
   ·exact⟨p,AZ,z▸JF hfd⟩
   ·obtain⟨p',h1,h2⟩:=RT e1 f z
    exact⟨p',Ar _ h1,h2⟩
theorem Mr {L:AU}{r:List Nat} (hr:∀s∈r,L.isSignAt s=true):(Ca L r).length≤r.length∧∀f∈Ca L r,f < L.kinds.length:=by
 unfold Ca
 cases hg:Fm.greedy L.copies (L.spots [r]) with
 | none=>exact⟨Au _,fun f hf=>nomatch hf⟩
 | some h =>
  refine⟨?_,fun f hf=>?_⟩
  ·have:=Fm.greedy_len hg
   rw[Fm.spots_one,AF,Fl] at this
   exact Hg this
  ·obtain⟨p,hp,hm⟩:=RT hg f hf
   rw[Fm.spots_one] at hp
   obtain⟨i,hi,rfl⟩:=BD.mp hp
   exact Ru hr (E7.mp hi) f hm
abbrev sPA:Stmt:=U0
def DD (L:AU) (light side:Nat) (es:List BQ):List VW:=es.map fun e=>Dk L light side (Ca L e.row)
def Vh (K:AB) (CL CK CB CE:Addr):Sp:=fun ws H Q _=>∃(a b:Addr) (p:LA) (q:BA) (L:AU) (fl nm bfl:List Int) (es:List BQ) (light side:Nat),ws=[.ref a,.ref b,.int (light:Nat),.int (side:Nat)]∧LockAt CL CK H a p (zs L.name) (L.kinds.map zk) fl∧Wf L.kinds∧L.kinds.length < 90000∧BookAt CB CE H b q nm es bfl∧
 es.length≤2048∧(∀e∈es,e.row.length≤8∧∀s∈e.row,L.isSignAt s=true)∧side≤2∧FF H Q (zn (EI (DD L light side es) es.length es.length))
theorem scPA:Ab ["locker","book","light","side","sides","seen","still_ahead","pairs","number","view","other","entry"] ["locker","book","light","side"] (AK sPA):=⟨rfl,rfl,rfl,by decide +kernel,rfl,by decide +kernel,by decide +kernel⟩
section
variable {P:Program}{w:World}{K:AB}{mg:Str→Option Value}{base:Heap}{CL CK CB CE:Addr}
theorem ok_pa {f:Addr}{fd:FuncData} (F:Fun K "pairs_alike" "pairs_alike" sPA f fd) (B:Blt mg) (TB:BookC K CB) (TE:EntC K CE) (g1:Has P w K mg "views_by_side" 4 ["locker","light","side"] (Vt CL CK)) (g2:Has P w K mg "hoist_told" 2 ["locker","signs"] (N3 K CL CK)) (g3:Has P w K mg "least_view" 1 ["hoist","sides"] (Vc K))
  (g4:Has P w K mg "numbers_by_view" 1 ["seen"] (Vf P w K)):FnOk P w K mg base CX0 5 f fd ["locker","book","light","side"] (Vh K CL CK CB CE):=by
 refine F.ok scPA (fun vs H Q E h=>?_) (fun cdv A outer s H vs Q E hr h=>?_)
 ·obtain⟨a,b,p,q,L,fl,nm,bfl,es,light,side,rfl,_⟩:=h
  rfl
 ·obtain⟨a,b,p,q,L,fl,nm,bfl,es,light,side,rfl,hL,hW,hkl,hB,hel,hrow,hs2,k⟩:=h
  have hr1:Room 1 _:=hr.mono (by decide)
  have hr2:Room 2 _:=hr.mono (by decide)
  have hu:=JJ (Hf (show 20≤64 by decide) _) hr.units
  refine⟨_,AI (Ap (i:=4) scPA.nd rfl (De rfl) (AN g1 hr (by rfl) (AA (pv 0) (AA (pv 2) (AA (pv 3) AD)))))
   (AI (bx (i:=5) (own:=[("entry",11)]) rfl scPA.nd rfl rfl (eI rfl rfl rfl (by decide +kernel)) (Cy (An (pv 1) rfl)) (Cu (N:=["locker","book","light","side","sides","seen","still_ahead","pairs","number","view","other","entry"]) (sc:=AK sPA) (by decide +kernel))
     (fun s H C cl fp=>BJ (i:=11) scPA.nd rfl (AQ rfl)) (fun s H C cl fp=>DC) (fun s H C cl fp=>AN g3 hr1 (by rfl) (AA (AN g2 hr2 (by rfl) (AA (pv 0) (AA (FQ K rfl (pv 11) rfl) AD))) (AA (pv 4) AD))))
   (AI (Ap (i:=6) scPA.nd rfl (AQ rfl) (AN g4 hr1 (by rfl) (AA (pv 5) AD)))
   (AI (Ap (i:=7) scPA.nd rfl (AQ rfl) (A5 AD))
   (AI (Ds D7 rfl (Nc (by rfl) B.enumerate (AA (pv 5) AD)) (Kd rfl (FU (BJ (i:=8) scPA.nd rfl (AQ rfl)) (FU (BJ (i:=9) scPA.nd rfl (AQ rfl)) Ke)))
    (AI (S1 P w rfl rfl hu (pv 6) (pv 9) (FT FY (Nb P w rfl rfl hu (pv 6) (pv 9) (fun _ _=>rfl)) (Ew AS) GJ) rfl)
     (AJ (Ds D7 rfl (Cy (Nb P w rfl rfl hu (pv 6) (pv 9) (fun _ _=>rfl))) (BJ (i:=10) scPA.nd rfl (AQ rfl))
      (AJ (Dr (DS Df XU XY SO (pv 7) (AA (A5 (AA (pv 8) (AA (pv 10) AD))) AD))))))))
   (AJ (AM (pv 7))))))),?_⟩
  obtain⟨dxb,hob⟩:=hB.ob
  obtain⟨eas,hbe,hpe⟩:=hB.ents
  have heal:=Bb hpe
  refine⟨_,rfl,_,rfl,_,rfl,a,p,L,fl,light,side,rfl,hL,hkl,hs2,fun H1 ls sls s1 nls hls hvs=>?_⟩
  refine⟨_,rfl,b,CB,dxb,_,_,rfl,s1 _ _ hob,TB.cl,TB.entries,Hx,q.be,rfl,⟨_,SqL.of (s1 _ _ hbe)⟩,fun D hD=>?_⟩
  have hsn:(DD L light side es).length=es.length:=by unfold DD;rw[AF]
  refine G6 (n:=(eas.map V.ref).length) (tt:=DH) (fun i H'=>Same H1 H'∧∃as:List Addr,H' D=some (.lst (as.map V.ref))∧Paired (NAt (hid [D] H')) as ((DD L light side es).take i)) ⟨(Same.refl H1).new hD,[],AH,.nil⟩
   (fun i H' hi z=>EE (SqL.of (z.1 _ _ (s1 _ _ hbe))) hi) (fun H' z=>EF (SqL.of (z.1 _ _ (s1 _ _ hbe)))) ?_ ?_
  ·rintro i y H2 H3 hi ⟨s2,as,has,hpa⟩ ⟨rfl,hy⟩
   have hy:=hy _ (SqL.of (s2 _ _ (s1 _ _ hbe)))
   rw[AF] at hi
   have hei:es[i]?=some es[i]:=As (by omega)
   have hem:es[i]∈es:=GY _
   generalize es[i]=e at hei hem
   obtain⟨ea,hea,dxe,ar,am,ho,har,ham⟩:=Cb hpe hei
   rw[AX,hea] at hy
   have ey:V.ref ea=y:=AV hy
   subst ey
   have s12:=s1.trans s2
   obtain⟨hr8,hrs⟩:=hrow e hem
   obtain⟨hh1,hh2⟩:=Mr hrs
   refine⟨rfl,?_⟩
   simp only[DH,if_true]
   refine⟨_,rfl,_,rfl,ea,CE,dxe,_,_,rfl,s12 _ _ ho,TE.cl,TE.row,Qu,a,ar,p,L,fl,e.row,rfl,hL.mono s12,hW,SqL.of (s12 _ _ har),by omega,hrs,fun H4 hl s4 nhl hhl=>?_⟩
   refine⟨_,rfl,hl,ls,L,light,side,Ca L e.row,sls,rfl,hhl,by omega,hh2,s4 _ _ (s2 _ _ hls),Paired.mapP hvs fun q d z=>(z.mono s2).mono s4,hs2,fun H5 x s5 hx=>?_⟩
   have s45:=s4.trans s5
   have has5:=s45 _ _ has
   have hal:=Bb hpa
   rw[Cn,hsn] at hal
   refine⟨as.map V.ref,has5,BN (by rw[AF];omega),(s2.trans s45).wr hD,as++[x],by rw[AH,BG];rfl,?_⟩
   have hsi:(DD L light side es)[i]?=some (Dk L light side (Ca L e.row)):=by unfold DD;rw[AX,hei];rfl
   rw[G4,EK hsi]
   exact Et (Paired.mapP hpa fun q d z=>z.mono (F8 s45)) (hx.hd has5)
  rintro H2 ⟨s2,as,has,hpa⟩
  rw[AF,heal,← hsn,Ec (AO _)] at hpa
  have hpa:=Paired.mapP hpa fun q v (z:NAt (hid [D] H2) q v)=>z.mono IJ
  generalize hvs0:DD L light side es=vs at *
  have hal:=Bb hpa
  have s12:=s1.trans s2
  refine⟨_,rfl,D,as,vs,rfl,has,hpa,by omega,fun H3 d xs0 s3 nd nb=>⟨Au _,fun lp nlp=>?_⟩⟩
  have s4:Same H3 (upd H3 lp (.lst [])):=(Same.refl H3).new nlp
  have hlp0:upd H3 lp (.lst []) lp=some (.lst []):=AH
  generalize upd H3 lp (.lst [])=H4 at s4 hlp0 ⊢
  have s24:=s3.trans s4
  have nlp2:H2 lp=none:=s3.free nlp
  refine⟨_,rfl,D,_,rfl,SqL.of (s24 _ _ has),?_⟩
  refine FG (n:=vs.length) (fun i σ H'=>∃(v8 v9 v10:Option V) (xs:List NE),σ=[some (.ref a),some (.ref b),some (.int (light:Nat)),some (.int (side:Nat)),some (.ref ls),some (.ref D),some (.ref d),some (.ref lp),v8,v9,v10,none]∧Same H2 H'∧DN P w H' d xs∧
    (∀x∈xs,H' x.2.2=some (.lst ((zn (Bc vs x.1 i vs.length)).map V.int))∧x.2.2≠lp)∧(∀v,(BZ xs v).isSome=true↔v∈vs)∧xs.length≤vs.length∧H' lp=some (.lst ((zn (EI vs vs.length i)).map V.int)))
   ⟨none,none,none,xs0,rfl,s24,nb.dn.mono s4,fun x hx=>⟨s4 _ _ (nb.val x hx).1,Ai (nb.val x hx).1 nlp⟩,fun v=>by rw[nb.has,Ec (AO _)],nb.few,hlp0⟩ ?_ ?_ ?_ ?_
  ·rintro i σ H' hi ⟨_,_,_,_,_,z,_⟩
   exact⟨_,_,SqL.of (z _ _ has),As (by rw[AF,hal];exact hi)⟩
  ·rintro σ H' ⟨_,_,_,_,_,z,_⟩
   exact⟨_,SqL.of (z _ _ has),by rw[AF,hal];exact AO _⟩
  ·rintro i y σ H5 H5' hi ⟨v8,v9,v10,xs,rfl,s5,dn,hval,hhas,hfew,hlp⟩ ⟨Tp,x,rfl,nT,rfl,hx⟩
   have hxi:=hx _ (SqL.of (s5 _ _ has))
   rw[AX] at hxi
   have hvi:vs[i]?=some vs[i]:=As hi
   generalize vs[i]=v at hvi
   obtain⟨va,hva,hna⟩:=Cb hpa hvi
   rw[hva] at hxi
   have ex:V.ref va=x:=AV hxi
   subst ex
   have s6:Same H5 (upd H5 Tp (.tup [.int (i:Nat),.ref va])):=(Same.refl H5).new nT
   have hT:upd H5 Tp (.tup [.int (i:Nat),.ref va]) Tp=some (.tup [.int (i:Nat),.ref va]):=AH
   generalize upd H5 Tp (.tup [.int (i:Nat),.ref va])=H6 at s6 hT ⊢
   have s26:=s5.trans s6
   obtain⟨e,hf⟩:∃e,BZ xs v=some e:=LY.mp ((hhas v).mpr (CZ hvi))
   obtain⟨hem,hev⟩:=Mh hf
   have hel:=s6 _ _ (hval e hem).1
   rw[hev,ck hvi hi] at hel
   refine⟨Tp,_,rfl,.inl (.inl hT),rfl,_,_,rfl,_,_,rfl,rfl,?_⟩
   refine⟨_,rfl,_,rfl,d,va,v,xs,e,rfl,rfl,dn.mono s6,hna.mono s26,hf,_,rfl,e.2.2,_,rfl,SqL.of hel,fun l' nl'=>?_⟩
   have ecut:CJ ((zn (i::Bc vs v (i+1) vs.length)).map V.int) (some 1) none=(zn (Bc vs v (i+1) vs.length)).map V.int:=Qc 1 _
   rw[ecut]
   generalize hrem:Bc vs v (i+1) vs.length=rem
   have hreml:rem.length≤vs.length:=by rw[← hrem];exact Ng
   have s7:Same H6 (upd H6 l' (.lst ((zn rem).map V.int))):=(Same.refl H6).new nl'
   have hl':upd H6 l' (.lst ((zn rem).map V.int)) l'=some (.lst ((zn rem).map V.int)):=AH
   have nl'lp:l'≠lp:=fun z=>by rw[z,s6 _ _ hlp] at nl';cases nl'
   generalize upd H6 l' (.lst ((zn rem).map V.int))=H7 at s7 hl' ⊢
   have s67:=s6.trans s7
   have s27:=s5.trans s67
   refine⟨_,rfl,_,rfl,d,va,l',v,xs,rfl,rfl,rfl,dn.mono s67,hna.mono s27,BN (by omega),?_⟩
   have eput:GK xs v va l'=xs.map fun x=>if x.1=v then (x.1,x.2.1,l') else x:=by unfold GK;rw[hf];rfl
   rw[eput]
   generalize hys:(xs.map fun x=>if x.1=v then (x.1,x.2.1,l') else x)=ys
   have hd7:=s67 _ _ dn.at_
   have keep:∀{x:Addr} {o:HO},H7 x=some o→(∀φ,o≠.ext φ)→upd H7 d (DNO P w d ys) x=some o:=fun {x o} z n=>by
    rw[AG (BE z hd7 (n _))]
    exact z
   have keepN:∀{x:Addr} {u:VW},NAt H7 x u→NAt (upd H7 d (DNO P w d ys)) x u:=fun {x u} ⟨qs,q1,q2⟩=>⟨qs,keep q1 (fun _ z=>nomatch z),Paired.mapP q2 fun q k z=>keep z (fun _ z=>nomatch z)⟩
   have dn8:DN P w (upd H7 d (DNO P w d ys)) d ys:=⟨AH,fun x hx=>by
    rw[← hys] at hx
    obtain⟨z,hz,rfl⟩:=BD.mp hx
    have:=(dn.keys z hz).mono s67
    by_cases ez:z.1=v
    ·rw[if_pos ez];exact keepN this
    ·rw[if_neg ez];exact keepN this⟩
   have hval8:∀x∈ys,upd H7 d (DNO P w d ys) x.2.2=some (.lst ((zn (Bc vs x.1 (i+1) vs.length)).map V.int))∧x.2.2≠lp:=fun x hx=>by
    rw[← hys] at hx
    obtain⟨z,hz,rfl⟩:=BD.mp hx
    by_cases ez:z.1=v
    ·rw[if_pos ez]
     refine⟨?_,nl'lp⟩
     show upd H7 d (DNO P w d ys) l'=some (.lst ((zn (Bc vs z.1 (i+1) vs.length)).map V.int))
     rw[ez,hrem]
     exact keep hl' (fun _ z=>nomatch z)
    ·rw[if_neg ez]
     refine⟨?_,(hval z hz).2⟩
     rw[cj hvi ez]
     exact keep (s67 _ _ (hval z hz).1) (fun _ z=>nomatch z)
   have hfy:∀u,(BZ ys u).isSome=(BZ xs u).isSome:=fun u=>by
    rw[← hys]
    unfold BZ
    rw[List.find?_map,Hj]
    congr 2
    funext x
    show decide ((if x.1=v then (x.1,x.2.1,l') else x).1=u)=decide (x.1=u)
    by_cases ez:x.1=v
    ·rw[if_pos ez]
    ·rw[if_neg ez]
   have hfyv:∃e',BZ ys v=some e'∧e'.2.2=l':=by
    obtain⟨e',he'⟩:∃e',BZ ys v=some e':=LY.mp (by rw[hfy,hf];rfl)
    obtain⟨m1,m2⟩:=Mh he'
    refine⟨e',he',?_⟩
    rw[← hys] at m1
    obtain⟨z,hz,hz2⟩:=BD.mp m1
    by_cases ez:z.1=v
    ·rw[if_pos ez] at hz2;rw[← hz2]
    ·rw[if_neg ez] at hz2;rw[hz2] at ez;exact absurd m2 ez
   have hlp8:upd H7 d (DNO P w d ys) lp=some (.lst ((zn (EI vs vs.length i)).map V.int)):=keep (s67 _ _ hlp) (fun _ z=>nomatch z)
   have s28:Same H2 (upd H7 d (DNO P w d ys)):=s27.wr nd
   have hl8:upd H7 d (DNO P w d ys) l'=some (.lst ((zn rem).map V.int)):=keep hl' (fun _ z=>nomatch z)
   have hna8:=hna.mono s28
   generalize upd H7 d (DNO P w d ys)=H8 at dn8 hval8 hlp8 s28 hl8 hna8 ⊢
   obtain⟨e',hf',he'⟩:=hfyv
   have hyl:ys.length≤vs.length:=by rw[← hys,AF];exact hfew
   have epairs:EI vs vs.length (i+1)=EI vs vs.length i++rem.flatMap fun b=>[i,b]:=by
    unfold EI
    rw[JI,Oo,Fj,Iz,CO,hvi]
    show _++(Bc vs v (i+1) vs.length).flatMap _=_
    rw[hrem]
   have hpl:=NX vs vs.length i
   have hmul:2 * vs.length * i≤2 * 2048 * 2048:=Nat.mul_le_mul (by omega) (by omega)
   refine⟨_,rfl,_,rfl,d,va,v,ys,e',rfl,rfl,dn8,hna8,hf',l',by rw[he'],⟨_,SqL.of hl8⟩,J4 (K:=K) (a:=l') (xs:=(zn rem).map V.int)
    (fun j σ H'=>∃v10:Option V,σ=[some (.ref a),some (.ref b),some (.int (light:Nat)),some (.int (side:Nat)),some (.ref ls),some (.ref D),some (.ref d),some (.ref lp),some (.int (i:Nat)),some (.ref va),v10,none]∧(∀x o,H8 x=some o→x≠lp→H' x=some o)∧H' lp=some (.lst ((zn (EI vs vs.length i++(rem.take j).flatMap fun b=>[i,b])).map V.int)))
    ⟨_,rfl,fun x o z _=>z,by rw[O0,Iz,CO];exact hlp8⟩ (fun j σ H' _ ⟨_,_,kp,_⟩=>SqL.of (kp _ _ hl8 nl'lp)) ?_ ?_⟩
   ·rintro j y σ H9 hj ⟨v10,rfl,kp,hl9⟩
    obtain⟨z,hz,rfl⟩:=Ep hj
    unfold zn at hz
    rw[AX] at hz
    cases hrj:rem[j]? with
    | none=>rw[hrj] at hz;cases hz
    | some bn =>
    rw[hrj] at hz
    have ez:((bn:Nat):Int)=z:=AV hz
    subst ez
    refine⟨_,rfl,.inl ⟨rfl,_,SqL.of hl9⟩,_,rfl,_,rfl,(show 2≤sizeLine from CA (by decide)),fun l2 n2=>?_⟩
    have hne2:lp≠l2:=Ai hl9 n2
    have hfl:=Ml i (rem.take j)
    have htl:(rem.take j).length≤rem.length:=by rw[Cn];omega
    refine⟨lp,l2,_,_,rfl,rfl,by rw[AG hne2];exact hl9,AH,?_,?_⟩
    ·rw[AF,Bl,BL,hfl]
     exact Ga (SG (by show _+_+2 < _;omega))
    ·refine⟨_,rfl,fun x o z n=>?_,?_⟩
     ·rw[AG n,AG (Ai (kp x o z n) n2)]
      exact kp x o z n
     ·rw[AH,EK hrj,Oo,Fj,Iz,CO,← List.append_assoc]
      unfold zn
      simp only[BG]
      rfl
   ·rintro σ H9 ⟨v10,rfl,kp,hl9⟩
    rw[AF,Bl,Ec (AO _),← epairs] at hl9
    have nlpd:d≠lp:=BE dn8.at_ hlp8 (by intro z;cases z)
    refine⟨_,_,_,ys,rfl,fun x o z=>kp x o (s28 x o z) (Ai z nlp2),⟨kp _ _ dn8.at_ nlpd,fun x hx=>?_⟩,fun x hx=>⟨kp _ _ (hval8 x hx).1 (hval8 x hx).2,(hval8 x hx).2⟩,fun u=>by rw[hfy];exact hhas u,hyl,hl9⟩
    obtain⟨qs,q1,q2⟩:=dn8.keys x hx
    exact⟨qs,kp _ _ q1 (BE q1 hlp8 (by intro z;cases z)),Paired.mapP q2 fun q k z=>kp _ _ z (BE z hlp8 (by intro w;cases w))⟩
  ·rintro σ H5 ⟨v8,v9,v10,xs,rfl,s5,dn,hval,hhas,hfew,hlp⟩
   refine⟨_,rfl,k H5 lp (s12.trans s5) (s12.free nlp2) ?_⟩
   rw[← hsn]
   exact hlp
end
end Fb
end
section
set_option maxRecDepth 100000
set_option maxHeartbeats 4000000
namespace Fb
open PySem PySem.Spec PyProof.Rows L2
def two (p:Nat×Nat):List Int:=[(p.1:Int),(p.2:Int)]
theorem fQ {p q:Nat×Nat} (h:two p=two q):p=q:=by
 unfold two at h
 injection h with h1 h2
 injection h2 with h2 _
 exact Prod.ext (Ip h1) (Ip h2)
theorem V9:∀{a b:List (Nat×Nat)},a.map two=b.map two→a=b
 | [],[],_=>rfl
 | [],_::_,h=>by cases h
 | _::_,[],h=>by cases h
 | x::a,y::b,h=>by
  injection h with h1 h2
  rw[fQ h1,V9 h2]
theorem WK {L:AU}{light d:Nat}{g:List Nat} (hg:∀f∈g,f < L.kinds.length):vwH L light d g=(L.looks light d g).map two:=by
 unfold vwH AU.looks
 rw[CG]
 refine CY fun f hf=>?_
 show _=two (match L.kinds[f]? with | some k=>(k.shape,Flags.seenFrom light d k.look) | none=>(0,0))
 rw[As (hg f hf)]
 rfl
theorem Ij {L:AU}{light d e:Nat}{g k:List Nat} (hg:∀f∈g,f < L.kinds.length) (hk:∀f∈k,f < L.kinds.length):vwH L light d g=vwH L light e k↔L.looks light d g=L.looks light e k:=by
 rw[WK hg,WK hk]
 exact⟨V9,fun h=>by rw[h]⟩
theorem aV (a b:VW):(if Bi a b=true then a else b)=if Bi b a=true then b else a:=by
 by_cases e:a=b
 ·subst e
  rfl
 ·rw[R3 e]
  cases Bi b a <;> rfl
theorem RE {α β:Type}{f g:α→List β}:∀{l:List α},(∀x∈l,f x=g x)→l.flatMap f=l.flatMap g
 | [],_=>rfl
 | x::l,h=>by rw[Fj,Fj,h x AZ,RE fun y hy=>h y (Ar _ hy)]
theorem Z7 {L:AU}{light side:Nat}{g k:List Nat} (hg:∀f∈g,f < L.kinds.length) (hk:∀f∈k,f < L.kinds.length):Dk L light side g=Dk L light side k↔Fc (Cd L light side g) (Cd L light side k)=true:=by
 unfold Dk
 by_cases h2:side=2
 ·subst h2
  rw[if_pos rfl,if_pos rfl,eu,← Ij hg hk,← Ij hg hk]
  have back:∀{g k:List Nat} {d e d' e':Nat},(∀f∈g,f < L.kinds.length)→(∀f∈k,f < L.kinds.length)→(mir (L.looks light d g)=L.looks light d' g)→(mir (L.looks light e k)=L.looks light e' k)→vwH L light d g=vwH L light e k→vwH L light d' g=vwH L light e' k:=fun {g k d e d' e'} hg hk h1 h2 h=>by
   have:=(Ij hg hk).mp h
   rw[Ij hg hk,← h1,← h2,this]
  have m01:∀g,mir (L.looks light 0 g)=L.looks light 1 g:=fun g=>(M8 L light g).symm
  have m10:∀g,mir (L.looks light 1 g)=L.looks light 0 g:=fun g=>KR L light g
  constructor
  ·intro h
   split at h <;> split at h
   ·exact .inl (back hg hk (m10 g) (m10 k) h)
   ·exact .inr (back hg hk (m10 g) (m01 k) h)
   ·exact .inr h
   ·exact .inl h
  ·rintro(h | h)
   ·rw[h,back hg hk (m01 g) (m01 k) h]
   ·have h':=back hg hk (m01 g) (m10 k) h
    rw[h,h']
    exact aV _ _
 ·rw[if_neg h2,if_neg h2,et h2,Ij hg hk]
theorem Si {L:AU}{B:GP}{light side:Nat} (hW:Wf L.kinds) (hr:∀e∈B.entries,∀s∈e.row,L.isSignAt s=true):EI (DD L light side B.entries) B.entries.length B.entries.length=EZ (L.doubts B light side):=by
 have hd:∀e∈B.entries,(L.display [e.row]).getD []=Ca L e.row:=fun e he=>by rw[Fm.display_greedy hW (hr e he)];rfl
 have htold:DI L B=B.entries.map fun e=>Ca L e.row:=CY fun e he=>hd e he
 rw[Y3]
 unfold EI EZ
 rw[List.flatMap_assoc]
 refine RE fun i hi=>?_
 have hi:=E7.mp hi
 rw[Wb]
 have hei:B.entries[i]?=some B.entries[i]:=As hi
 have hmi:B.entries[i]∈B.entries:=GY hi
 generalize B.entries[i]=ei at hei hmi
 have hsi:(DD L light side B.entries)[i]?=some (Dk L light side (Ca L ei.row)):=by unfold DD;rw[AX,hei];rfl
 have hti:(DI L B).getD i []=Ca L ei.row:=by rw[htold,D5,AX,hei];rfl
 rw[hsi,hti]
 show(Bc (DD L light side B.entries) (Dk L light side (Ca L ei.row)) (i+1) B.entries.length).flatMap _=_
 unfold Bc
 congr 1
 refine Iw fun j hj=>?_
 have hj:=E7.mp hj
 have hej:B.entries[j]?=some B.entries[j]:=As hj
 have hmj:B.entries[j]∈B.entries:=GY hj
 generalize B.entries[j]=ej at hej hmj
 have hsj:(DD L light side B.entries)[j]?=some (Dk L light side (Ca L ej.row)):=by unfold DD;rw[AX,hej];rfl
 have htj:(DI L B).getD j []=Ca L ej.row:=by rw[htold,D5,AX,hej];rfl
 rw[hsj,htj]
 have e1:decide (i+1≤j)=decide (i < j):=rfl
 rw[e1]
 congr 1
 rw[C5,decide_eq_true_iff,← Z7 (Mr (hr ei hmi)).2 (Mr (hr ej hmj)).2]
 exact⟨fun z=>(AV z).symm,fun z=>by rw[z]⟩
theorem bO (l:List (Nat×Nat)):(EZ l).length=2 * l.length:=by
 unfold EZ
 induction l with
 | nil=>rfl
 | cons x l ih =>
  simp only[Fj,BL,A9,Ea]
  omega
abbrev Td:Stmt:=UW
def ID (light side:Nat) (t u:Aq):List Int:=if 65536 < t.length∨65536 < u.length then [-2] else match DX t with
 | .error _=>[-6]
 | .ok L=>match L.judgeBook u with
  | .error _=>[-9]
  | .ok B=>if 2 < side then [-1] else ((L.doubts B light side).length:Int)::zn (EZ (L.doubts B light side))
def spDoubts (K:AB) (PL PB:Addr):Sp:=fun vs H Q _=>∃(light side:Nat) (a b:Addr) (t u:Aq),vs=[.int (light:Nat),.int (side:Nat),.ref a,.ref b]∧YE K PL PB H a b t u∧∀(H':Hp) (r:Addr),H' r=some (.lst ((ID light side t u).map V.int))→Q (.ref r) H'
theorem scDoubts:Ab ["light","side","t","b","reading","pairs"] ["light","side","t","b"] (AK Td):=⟨rfl,rfl,rfl,by decide +kernel,rfl,by decide +kernel,by decide +kernel⟩
theorem di {L:AU}{r:List Nat} (h:MG L r):∀s∈r,L.isSignAt s=true:=fun s hs=>by
 obtain⟨k,n,h1,h2,_⟩:=h.2.2 s hs
 unfold WT
 rw[h1]
 show D1 k=true
 unfold D1
 rw[h2]
section
variable {P:Program}{w:World}{K:AB}{mg:Str→Option Value}{base:Heap}{CL CK CB CE CR PL PB:Addr}
theorem ok_doubts {f:Addr}{fd:FuncData} (F:Fun K "doubts" "doubts" Td f fd) (B:Blt mg) (TR:ReadC K CR) (c1:Cst mg "OUT_OF_FORM" (.int (-1))) (g1:Hu P w K mg base "read_texts" 11 ["t","b"] (Vs K CL CK CB CE CR PL PB)) (g2:Has P w K mg "is_side" 1 ["number"] VU) (g3:Has P w K mg "pairs_alike" 5 ["locker","book","light","side"] (Vh K CL CK CB CE)):
  FnOk P w K mg base CX0 12 f fd ["light","side","t","b"] (spDoubts K PL PB):=by
 refine F.ok scDoubts (fun vs H Q E h=>?_) (fun cdv A outer s H vs Q E hr h=>?_)
 ·obtain⟨light,side,a,b,t,u,rfl,_⟩:=h
  rfl
 ·obtain⟨light,side,a,b,t,u,rfl,X,k⟩:=h
  have hr1:Room 1 _:=hr.mono (by decide)
  have hr5:Room 5 _:=hr.mono (by decide)
  refine⟨_,AI (Ap (i:=4) scDoubts.nd rfl (AQ rfl) (NZ g1 hr (by rfl) (AA (pv 2) (AA (pv 3) AD))))
   (AI (Aw (Ag (IW hr.units) (An (pv 4) rfl) (A5 AD) (Ac _)) (AJ (AM (FT FY (An (pv 4) rfl) GJ (Ew AS)))) Ay)
   (AI (Aw (Ex (Dt (AN g2 hr1 (by rfl) (AA (pv 1) AD)))) (AJ (AM (A5 (AA (AW c1 rfl) AD)))) Ay)
   (AI (Ap (i:=5) scDoubts.nd rfl (AQ rfl) (AN g3 hr5 (by rfl) (AA (An (pv 4) rfl) (AA (An (pv 4) rfl) (AA (pv 0) (AA (pv 1) AD))))))
   (AJ (AM (DB NU (A5 (AA (DB Sf (A4 Bx (by rfl) B.len Bq (AA (pv 5) AD)) AS) AD)) (pv 5))))))),?_⟩
  refine⟨_,rfl,_,rfl,a,b,t,u,rfl,X.ta,X.ub,X.lt,X.lu,X.pl,X.pb,fun H1 x dx r0 rf lv bv kb t1 t2 hx hrf hR=>?_⟩
  refine⟨_,rfl,x,CR,dx,_,_,rfl,hx,TR.cl,TR.refusal,S7,Au _,fun l nl=>?_⟩
  have s1:Same H1 (upd H1 l (.lst [])):=(Same.refl H1).new nl
  have hl:upd H1 l (.lst []) l=some (.lst (([]:List Int).map V.int)):=AH
  generalize upd H1 l (.lst [])=H2 at s1 hl ⊢
  refine⟨_,_,BM (SqL.of (s1 _ _ hrf)),BM (SqL.of hl),BF _,BF _,?_⟩
  rw[Cw]
  refine⟨_,rfl,?_⟩
  by_cases hz:rf=[]
  ·subst hz
   refine bF (by rw[decide_eq_true rfl];rfl) ?_
   obtain⟨hm,L,Bk,hj,hb,xb,q,rfl,hB,hle,y,p,rfl,hLk,hW⟩:=fA hR
   have eA:ID light side t u=if 2 < side then [-1] else ((L.doubts Bk light side).length:Int)::zn (EZ (L.doubts Bk light side)):=by
    unfold ID
    rw[if_neg hm,hj]
    dsimp only
    rw[hb]
   rw[eA] at k
   refine⟨_,rfl,side,rfl,fun H3 s3=>⟨_,rfl,?_⟩⟩
   by_cases hs:2 < side
   ·rw[if_pos hs] at k
    exact bT (by rw[decide_eq_false (by omega)];rfl) ⟨(show 1≤sizeLine from CA (by decide)),fun l2 nl2=>k _ l2 AH⟩
   ·rw[if_neg hs] at k
    refine bF (by rw[decide_eq_true (by omega)];rfl) ?_
    have s13:=s1.trans s3
    have hx3:=s13 _ _ hx
    have hents:=(Zq hb).1
    have hkl:=Zs hj
    have hrs:∀e∈Bk.entries,∀s∈e.row,L.isSignAt s=true:=fun e he=>di (hents e he).1
    refine⟨_,rfl,x,CR,dx,_,_,rfl,hx3,TR.cl,TR.locker,cY,_,rfl,x,CR,dx,_,_,rfl,hx3,TR.cl,TR.book,cX,_,rfl,_,rfl,y,xb,p,q,L,[],_,[],Bk.entries,light,side,rfl,hLk.mono s13,hW,by have:=X.lt;omega,hB.mono s13,hle,fun e he=>⟨(hents e he).1.2.1,hrs e he⟩,by omega,fun H4 lp s4 nlp hlp=>?_⟩
    rw[Si hW hrs] at hlp
    have hln:=bO (L.doubts Bk light side)
    have hlen:(EZ (L.doubts Bk light side)).length≤8388608:=by
     rw[← Si hW hrs]
     have h1:=NX (DD L light side Bk.entries) Bk.entries.length Bk.entries.length
     have h2:2 * Bk.entries.length * Bk.entries.length≤2 * 2048 * 2048:=Nat.mul_le_mul (by omega) hle
     omega
    generalize EZ (L.doubts Bk light side)=pr at hlp hln hlen k
    refine⟨_,rfl,lp,_,rfl,.inl (SqL.of hlp),_,_,rfl,rfl,⟨by decide,by decide⟩,(show 1≤sizeLine from CA (by decide)),fun l5 n5=>?_⟩
    have s5:Same H4 (upd H4 l5 (.lst [.int ((((zn pr).map V.int).length:Nat) / 2:Int)])):=(Same.refl H4).new n5
    refine⟨_,rfl,l5,lp,_,_,rfl,rfl,AH,s5 _ _ hlp,?_,fun l6 n6=>k _ l6 ?_⟩
    ·rw[AF,Bl]
     exact Ga (SG (by show 1+_ < _;omega))
    ·rw[AH]
     have e:((((zn pr).map V.int).length:Nat):Int) / 2=((L.doubts Bk light side).length:Int):=by
      rw[AF,Bl,hln]
      omega
     show some (HO.lst ([V.int ((((zn pr).map V.int).length:Nat) / 2:Int)]++(zn pr).map V.int))=_
     rw[e]
     rfl
  ·refine bT (by rw[decide_eq_false hz];rfl) ?_
   refine⟨_,rfl,x,CR,dx,_,_,rfl,s1 _ _ hx,TR.cl,TR.refusal,S7,_,rfl,r0,_,rfl,SqL.of (s1 _ _ hrf),fun p np=>?_⟩
   refine k _ p ?_
   rw[AH,fB (fun L B=>if 2 < side then [-1] else ((L.doubts B light side).length:Int)::zn (EZ (L.doubts B light side))) hR hz]
   rfl
end
end Fb
end
section
set_option maxRecDepth 100000
set_option maxHeartbeats 4000000
namespace L2
open PySem PySem.Spec PyProof.Rows
open PySem.W (WData Codec OpenSpec Well WellAll ReadsW CodeHd tabObj TabsAt noTabs)
mutual
theorem Y6 {K:AB}{H H':Hp} (s:Same H H'):∀(d:WData) (v:V),Dw K H v d→Dw K H' v d
 | .none,_,h=>by cases h;exact .non
 | .bool _,_,h=>by cases h;exact .bl _
 | .int _,_,h=>by cases h;exact .int _
 | .str _,_,h=>by cases h;exact .str _
 | .bytes _,_,h=>by cases h;exact .byt _
 | .list ds,_,h=>by
  cases h with
  | lst h1 h2=>exact .lst (s.seq h1) (Jx s ds _ h2)
 | .tuple ds,_,h=>by
  cases h with
  | tup h1 h2 =>
   refine .tup ?_ (Jx s ds _ h2)
   rcases h1 with (q | ⟨o,q⟩) | q
   ·exact .inl (.inl (s _ _ q))
   ·exact .inl (.inr ⟨o,s _ _ q⟩)
   ·exact .inr q
 | .dict _,_,h=>by cases h
 | .set _,_,h=>by cases h
 | .frozenset _,_,h=>by cases h
 | .bytearray _,_,h=>by cases h
 | .float _,_,h=>by cases h
 | .obj _ _,_,h=>by cases h
theorem Jx {K:AB}{H H':Hp} (s:Same H H'):∀(ds:List WData) (vs:List V),DP K H vs ds→DP K H' vs ds
 | [],_,h=>by cases h;exact .nil
 | d::ds,_,h=>by
  cases h with
  | cons h1 h2=>exact .cons (Y6 s d _ h1) (Jx s ds _ h2)
end
def GN (ps:List Addr) (H:Hp):Hp:=fun b=>if b∈ps then some (.tbl #[]) else H b
theorem OR {ps:List Addr}{H:Hp}{b:Addr} (h:b∈ps):GN ps H b=some (.tbl #[]):=if_pos h
theorem OS {ps:List Addr}{H:Hp}{b:Addr} (h:b∉ps):GN ps H b=H b:=if_neg h
theorem Yc {P:Program}{w:World}{K:AB}{mg mb:Str→Option Value}{k:Nat}{fa:Addr}{fd:FuncData}{ps:List Str}{sp:Sp}{s1:Shared}{vals:List Value}{ds:List WData}{R:Xj}{cl:Str→Option Addr}{d0:WData}{tabs:List (Addr×Addr)}
  (KX:K.In s1.heap) (hns:s1.heap.Ns mainGlobals mg) (hb:s1.heap.Ns builtinsNs mb) (hbb:∀x:Str,x≠"__name__"→mb x=bootBuiltins x) (hlim:s1.heap.NoLimit) (hg:s1.gens=#[]) (hbm:Fz mg s1.heap) (hT:TabsAt tabs s1.heap) (hKT:noTabs K=true)
  (hwl:WellAll w.params s1.heap vals ds) (hpl:Dq ds=true) (hwt:∀d∈ds,d.weight≤1048576) (hr:Room k callerA)
  (F:∀base:Heap,K.In base→base.Ns mainGlobals mg→(∀q∈tabs,CodeHd base q.1 q.2)→Fz mg base→FnOk P w K mg base CX0 k fa fd ps sp)
  (hbind:∀(s:Shared) (us:List Value),us.length=ps.length→BindsTo s fd ⟨us,[]⟩ (ps.zip us)) (hlen:ds.length=ps.length)
  (hsp:∀(H:Hp) (xs:List V),(∀q∈tabs,H q.2=some (.tbl #[]))→DP K H xs ds→sp xs H (fun v H'=>Dw K H' v d0) E0):
  codeAny (model P w) callerA (.call (.ref fa) ⟨vals,[]⟩) (fun r s'=>∃u as,r=.ok (.ret u)∧ReadsW R cl s'.heap u d0 as∧OldK s1.heap s'.heap∧s'.os=s1.os∧AllBare s'.gens) s1:=by
 obtain⟨A,hoU,ar⟩:=JW ds vals hwl hpl hwt
 have tabO:∀b∈tabs.map (·.2),s1.heap.get? b=some (tabObj #[]):=fun b m=>by
  obtain⟨q,hq,rfl⟩:=BD.mp m
  exact(hT q hq).2
 have argN:∀b∈tabs.map (·.2),CI K s1.heap A b=none:=fun b m=>by
  cases e:CI K s1.heap A b with
  | none=>rfl
  | some u =>
   obtain⟨_,vs,_,_,⟨z,_⟩ | ⟨z,_⟩⟩:=MK ar e <;> (rw[tabO b m] at z;cases z)
 have kN:∀b∈tabs.map (·.2),K.lookup b=none:=fun b m=>by
  cases e:K.lookup b with
  | none=>rfl
  | some o =>
   have z:=KX b o e
   rw[tabO b m] at z
   cases z
   have h2:=C7.mp hKT (b,_) (PySem.W.mem_of_lookupK e)
   exact absurd (show false=true from h2) Aj
 have sA:Same (CI K s1.heap A) (GN (tabs.map (·.2)) (CI K s1.heap A)):=fun b o e=>by
  rw[OS fun m=>by rw[argN b m] at e;cases e]
  exact e
 have okA:HOk P w (CI K s1.heap A) s1.heap:=YL ar
 have okT:HOk P w (GN (tabs.map (·.2)) (CI K s1.heap A)) s1.heap:=fun b o e=>by
  by_cases m:b∈tabs.map (·.2)
  ·rw[OR m] at e
   cases e
   exact tabO b m
  ·rw[OS m] at e
   exact(okA b o e).stay (fun _ _ _ q=>q) (fun c q=>sA c _ q) fun c xs q=>sA c _ q
 have kinds:∀b u,GN (tabs.map (·.2)) (CI K s1.heap A) b=some u→K.lookup b=none∧((u=.tbl #[]∧b∈tabs.map (·.2))∨∃o v,u=.frz o v∧∃c vs,o={ cls:=.type c,data:=.seq vs }∧s1.heap.get? b=some o):=fun b u e=>by
  by_cases m:b∈tabs.map (·.2)
  ·rw[OR m] at e
   cases e
   exact⟨kN b m,.inl ⟨rfl,m⟩⟩
  ·rw[OS m] at e
   obtain⟨h1,vs,_,_,⟨z,rfl⟩ | ⟨z,rfl⟩⟩:=MK ar e
   ·exact⟨h1,.inr ⟨_,_,rfl,_,_,rfl,z⟩⟩
   ·exact⟨h1,.inr ⟨_,_,rfl,_,_,rfl,z⟩⟩
 have hS:=Jx sA _ _ (Jy KX ar ds vals hwl hpl hoU)
 have hV:=HR hoU
 have htb:∀q∈tabs,GN (tabs.map (·.2)) (CI K s1.heap A) q.2=some (.tbl #[]):=fun q hq=>OR (BD.mpr ⟨q,hq,rfl⟩)
 generalize GN (tabs.map (·.2)) (CI K s1.heap A)=H at okT kinds hS htb
 have free:∀{b:Addr} {o:Obj},s1.heap.get? b=some o→o≠tabObj #[]→(∀vs n,o.data≠.seq vs n)→H b=none:=fun {b o} e n1 n2=>by
  cases q:H b with
  | none=>rfl
  | some u =>
   rcases(kinds b u q).2 with ⟨_,m⟩ | ⟨o',v,_,c,vs,rfl,z⟩
   ·rw[tabO b m] at e;cases e;exact(n1 rfl).elim
   ·rw[z] at e;cases e;exact(n2 _ _ rfl).elim
 have at_:∀{b:Addr} {o:Obj},s1.heap.get? b=some o→H b=none→(Cf s1.heap H).get? b=some o:=fun e n=>RW e n
 have dictK:∀{b:Addr} {o:Obj} {es:Array DictEntry} {ep:Nat},s1.heap.get? b=some o→o.data=.dict es ep→(Cf s1.heap H).get? b=some o:=fun e d=>at_ e (free e (fun z=>by rw[z] at d;cases d) fun vs n z=>by rw[z] at d;cases d)
 have nsK:∀{b:Addr} {m:Str→Option Value},s1.heap.Ns b m→(Cf s1.heap H).Ns b m:=fun ⟨o,es,ep,e,d,r⟩=>⟨o,es,ep,dictK e d,d,r⟩
 have hKb:K.In (Cf s1.heap H):=fun b o e=>at_ (KX b o e) (by
  cases q:H b with
  | none=>rfl
  | some u=>rw[(kinds b u q).1] at e;cases e)
 have hM:Mod K mg (Cf s1.heap H):=⟨hKb,nsK hns,⟨mb,nsK hb,hbb⟩,let ⟨mc,h1,h2⟩:=hlim;⟨mc,nsK h1,h2⟩⟩
 have e0:Env0 P w K mg (Cf s1.heap H) callerA [] s1 H:=⟨rfl,hM,fun b o e=>SY e,Hg (RX _ _),trivial,fun b hb=>absurd (show b∈([]:List Addr) from hb) (by simp),okT,.of_eq hg⟩
 have hCd:∀q∈tabs,CodeHd (Cf s1.heap H) q.1 q.2:=fun q hq=>by
  obtain⟨o,vs,f1,t1,f2,t2,f3,f4,t4,e1,e2,e3,r⟩:=(hT q hq).1
  exact⟨o,vs,f1,t1,f2,t2,f3,f4,t4,at_ e1 (free e1 (fun z=>by rw[z] at e2;cases e2) fun vs n z=>by rw[z] at e3;cases e3),e2,e3,r⟩
 have hBm:Fz mg (Cf s1.heap H):=by
  obtain⟨bm,ob,b1,b2,b3,b4,b5,b6⟩:=hbm
  exact⟨bm,ob,b1,b2,at_ b3 (free b3 (fun z=>by rw[z] at b4;cases b4) fun vs n z=>by rw[z] at b6;cases b6),b4,b5,b6⟩
 have hl:vals.length=ps.length:=by rw[K0 hwl];exact hlen
 refine Gm ((F _ hKb (nsK hns) hCd hBm).run callerA [] s1 H ⟨vals,[]⟩ vals (vals.map toV) _ _ hr e0 (hbind s1 vals hl) hV (hsp H _ htb hS)) fun r s' x=>?_
 cases r with
 | error e=>exact BX x
 | ok fl =>
  cases fl with
  | next=>exact BX x
  | brk=>exact BX x
  | cont=>exact BX x
  | ret u =>
   obtain⟨v,H',os,bare,un,hok',r',q⟩:=x
   have kept:∀b o,s1.heap.get? b=some o→b∉tabs.map (·.2)→s'.heap.get? b=some o:=fun b o e n=>by
    cases q2:H b with
    | none=>exact un.keep b o e q2 (by intro z;exact absurd (show b∈([]:List Addr) from z) (by simp)) (by simp)
    | some u2 =>
     rcases(kinds b u2 q2).2 with ⟨_,m⟩ | ⟨o',v',rfl,_,_,_,z⟩
     ·exact(n m).elim
     ·have z2:=un.frzs b o' _ q2
      obtain⟨e2,_⟩:=hok' b _ z2
      rw[z] at e
      cases e
      exact e2
   have grown:∀b o,s1.heap.get? b=some o→b∈tabs.map (·.2)→isCodeTable s1.heap b∧o=tabObj #[]∧∃qs,s'.heap.get? b=some (tabObj qs):=fun b o e m=>by
    obtain⟨q,hq,rfl⟩:=BD.mp m
    have e2:=(hT q hq).2
    rw[e] at e2
    obtain⟨more,z⟩:=un.tbls _ _ (htb q hq)
    exact⟨((hT q hq).1.tab (hT q hq).2).isCodeTable,AV e2,_,hok' _ _ z⟩
   have KX':K.In s'.heap:=fun b o e=>kept b o (KX b o e) fun m=>by rw[kN b m] at e;cases e
   obtain⟨as,hrd⟩:=Dw.reads (R:=R) (cl:=cl) hok' KX' d0 v u q r'
   refine⟨u,as,rfl,hrd,⟨fun b o e=>?_,fun b o e=>?_⟩,os,bare⟩
   ·by_cases m:b∈tabs.map (·.2)
    ·obtain⟨h1,rfl,qs,h2⟩:=grown b o e m
     exact .inr (.inl ⟨h1,rfl,#[],qs,rfl,by rw[Array.empty_append];exact h2⟩)
    ·exact .inl (kept b o e m)
   ·by_cases m:b∈tabs.map (·.2)
    ·obtain⟨_,_,qs,h2⟩:=grown b o e m
     exact⟨_,h2⟩
    ·exact⟨o,kept b o e m⟩
end L2
end
section
set_option maxRecDepth 100000
set_option maxHeartbeats 4000000
namespace Fb
open PySem PySem.Spec PyProof.Rows L2
open PySem.W (nsIn codeIn keepIn findIn isFn fnOf plainGet hasDictIn plainOver makesIn)
section
variable {K:AB}{h:Heap}{mg:Str→Option Value}
theorem Yv {x nm qual:Str}{st:Stmt}{ps:List Str}{f:Addr}{oc kV doc pm cdv ct:Value}{od an:Option Addr}{osl:Array (Option Value)} (X:K.In h) (G:h.Ns mainGlobals mg) (a:nsIn K mainGlobals x=some (some (.ref f)))
  (l:K.lookup f=some ⟨oc,od,.func (fnOf nm qual (Cp st) (Bz st) (AK st) .none kV doc pm an cdv ct),osl⟩) (c:codeIn K cdv qual=true) (k:keepIn K (.ref f)=true)
  (b:∀(kV doc pm:Value) (an:Option Addr) (cdv ct:Value) (us:List Value),us.length=ps.length→bindArgs (fnOf nm qual (Cp st) (Bz st) (AK st) .none kV doc pm an cdv ct) ⟨us,[]⟩=pure (ps.zip us)):
  ∃f fd,Def K mg x nm qual st ps f fd∧fd.code=cdv∧∀(s:Shared) (us:List Value),us.length=ps.length→BindsTo s fd ⟨us,[]⟩ (ps.zip us) :=
 ⟨f,_,⟨G2 l c k,Gk X G a,(G2 l c k).binds b⟩,rfl,fun s us hl=>.of_eq (b _ _ _ _ _ _ us hl)⟩
theorem Yw {x nm qual:Str}{st:Stmt}{ps:List Str} (cd:Addr) {f:Addr}{oc kV doc pm ct:Value}{od an:Option Addr}{osl:Array (Option Value)} (X:K.In h) (G:h.Ns mainGlobals mg) (a:nsIn K mainGlobals x=some (some (.ref f)))
  (l:K.lookup f=some ⟨oc,od,.func (fnOf nm qual (Cp st) (Bz st) (AK st) .none kV doc pm an (.ref cd) ct),osl⟩) (c:codeIn K (.ref cd) qual=true) (k:keepIn K (.ref f)=true)
  (b:∀(kV doc pm:Value) (an:Option Addr) (cdv ct:Value) (us:List Value),us.length=ps.length→bindArgs (fnOf nm qual (Cp st) (Bz st) (AK st) .none kV doc pm an cdv ct) ⟨us,[]⟩=pure (ps.zip us)):
  ∃f fd,Def K mg x nm qual st ps f fd∧fd.code=.ref cd∧∀(s:Shared) (us:List Value),us.length=ps.length→BindsTo s fd ⟨us,[]⟩ (ps.zip us) :=
 ⟨f,_,⟨G2 l c k,Gk X G a,(G2 l c k).binds b⟩,rfl,fun s us hl=>.of_eq (b _ _ _ _ _ _ us hl)⟩
structure ClsD (K:AB) (mg:Str→Option Value) (x qual:Str) (st:Stmt) (ps:List Str) (C f:Addr) (fd:FuncData):Prop where
 at_:mg x=some (.ref C)
 cl:Cls K C
 mks:Mk K C f
 fn:Fun K "__init__" qual st f fd
 bd:Binds K fd ps []
theorem Ye {x qual:Str}{st:Stmt}{ps:List Str} (C:Addr) {f:Addr}{oc kV doc pm cdv ct:Value}{od an:Option Addr}{osl:Array (Option Value)} (X:K.In h) (G:h.Ns mainGlobals mg) (a:nsIn K mainGlobals x=some (some (.ref C)))
  (a1:findIn K (.ref C) "__init__"=some (some (.ref f))) (i1:isFn K (.ref f)=true)
  (l:K.lookup f=some ⟨oc,od,.func (fnOf "__init__" qual (Cp st) (Bz st) (AK st) .none kV doc pm an cdv ct),osl⟩) (c:codeIn K cdv qual=true) (k:keepIn K (.ref f)=true)
  (pg:plainGet K C Pa=true) (hd:hasDictIn K C=true) (po:plainOver K C=true) (sa:findIn K (.ref C) "__setattr__"=some (some (.builtin "object.__setattr__"))) (mk:makesIn K C=true) (kc:keepIn K (.ref C)=true)
  (b:∀(kV doc pm:Value) (an:Option Addr) (cdv ct:Value) (us:List Value),us.length=ps.length→bindArgs (fnOf "__init__" qual (Cp st) (Bz st) (AK st) .none kV doc pm an cdv ct) ⟨us,[]⟩=pure (ps.zip us)):
  ∃f fd,ClsD K mg x qual st ps C f fd :=
 ⟨f,_,Gk X G a,⟨pg,hd,po,sa⟩,⟨mk,a1,i1,kc⟩,G2 l c k,(G2 l c k).binds b⟩
theorem Yk {x:Str}{n:Int}{t:Tok} (X:K.In h) (G:h.Ns mainGlobals mg) (a:nsIn K mainGlobals x=some (some (.int n t))):Cst mg x (.int n):=⟨_,Gk X G a,⟨t,rfl⟩⟩
theorem Yl {x z:Str}{t:Tok} (X:K.In h) (G:h.Ns mainGlobals mg) (a:nsIn K mainGlobals x=some (some (.str z t))):Cst mg x (.str z):=⟨_,Gk X G a,⟨t,rfl⟩⟩
theorem Ym {x y1 y2 y3:Str}{t1 t2 t3:Tok}{a:Addr}{od:Option Addr}{n:Nat}{sl:Array (Option Value)} (X:K.In h) (G:h.Ns mainGlobals mg) (e:nsIn K mainGlobals x=some (some (.ref a))) (l:K.lookup a=some ⟨.type "tuple",od,.seq #[.str y1 t1,.str y2 t2,.str y3 t3] n,sl⟩):
 MB K mg x ([y1,y2,y3].map V.str):=⟨a,Gk X G e,fun H=>.inr ⟨_,_,_,l,rfl,rfl,(show 3≤sizeLine from CA (by decide)),.cons ⟨t1,rfl⟩ (.cons ⟨t2,rfl⟩ (.cons ⟨t3,rfl⟩ .nil))⟩⟩
theorem a9 {x:Str} (X:K.In h) (G:h.Ns mainGlobals mg) (e:nsIn K mainGlobals x=some none):mg x=none:=PySem.W.mg_none_of X G e
end
theorem Def.hasB {P:Program}{w:World}{K:AB}{mg:Str→Option Value}{base:Heap}{x nm qual:Str}{st:Stmt}{ps:List Str}{f:Addr}{fd:FuncData}{k:Nat}{sp:Sp} (D:Def K mg x nm qual st ps f fd) (h:FnOk P w K mg base CX0 k f fd ps sp):Hu P w K mg base x k ps sp :=
 ⟨f,fd,D.at_,D.fn.kp,D.bd,h⟩
theorem ClsD.has {P:Program}{w:World}{K:AB}{mg:Str→Option Value}{x qual:Str}{st:Stmt}{ps:List Str}{C f:Addr}{fd:FuncData}{k:Nat}{sp:Sp} (D:ClsD K mg x qual st ps C f fd) (h:∀base:Heap,FnOk P w K mg base CX0 k f fd ps sp):FE P w K mg x C k ps sp :=
 ⟨D.at_,f,fd,D.mks,D.bd,h⟩
theorem zs_of:∀{l:List Int},(∀n∈l,0≤n∧n≤255)→zs (l.map fun (n:Int)=>D8 n.toNat)=l
 | [],_=>rfl
 | n::l,h=>by
  have ih:=zs_of (l:=l) fun m hm=>h m (Ar _ hm)
  obtain⟨h1,h2⟩:=h n AZ
  show((D8 n.toNat).toNat:Int)::zs (l.map fun (n:Int)=>D8 n.toNat)=n::l
  rw[ih,UInt8.toNat_ofNat']
  have:n.toNat % 2 ^ 8=n.toNat:=O5 (by omega)
  rw[this,Od h1]
theorem V6 {l:List Int} (h:∀n∈l,0≤n∧n≤255):K3 l=some (l.map fun (n:Int)=>D8 n.toNat):=by
 unfold K3
 rw[if_pos]
 unfold NeutralIO.bytes
 rw[C7]
 intro n hn
 rw[BC,decide_eq_true_iff,decide_eq_true_iff]
 exact h n hn
end Fb
end
section
set_option maxRecDepth 100000
set_option maxHeartbeats 4000000
namespace Fb
open PySem PySem.Spec PyProof.Rows L2
theorem doubts_due {l s:Int}{t u:List Int} (hl:0≤l) (hs:0≤s) (ht:∀n∈t,0≤n∧n≤255) (hu:∀n∈u,0≤n∧n≤255):YA l s t u=ID l.toNat s.toNat (t.map fun (n:Int)=>D8 n.toNat) (u.map fun (n:Int)=>D8 n.toNat):=by
 show(match WR [[8,l,s],t,u] with
  | some x=>(K8 x).ret::(((K8 x).nums.map fun (n:Nat)=>(n:Int))++(K8 x).bytes.map fun (b:UInt8)=>(b.toNat:Int))
  | none=>[])=_
 have e:WR [[8,l,s],t,u]=some (.doubts (t.map fun (n:Int)=>D8 n.toNat) (u.map fun (n:Int)=>D8 n.toNat) l.toNat s.toNat):=by
  show(do return FlagsC3.Call.doubts (← K3 t) (← K3 u) (← OX l) (← OX s))=_
  rw[V6 ht,V6 hu]
  unfold OX
  rw[if_pos hl,if_pos hs]
  rfl
 rw[e]
 generalize (t.map fun (n:Int)=>D8 n.toNat)=tb
 generalize (u.map fun (n:Int)=>D8 n.toNat)=ub
 generalize l.toNat=light
 generalize s.toNat=side
 dsimp only
 unfold K8 FlagsC3.ofBook ID
 by_cases hm:65536 < tb.length∨65536 < ub.length
 ·have hm':K4 < tb.length∨K4 < ub.length:=hm
  simp only[if_pos hm']
  rw[if_pos hm]
  rfl
 ·have hm':¬(K4 < tb.length∨K4 < ub.length):=hm
  simp only[if_neg hm']
  rw[if_neg hm]
  cases DX tb with
  | error e=>rfl
  | ok L =>
   dsimp only
   cases L.judgeBook ub with
   | error e=>rfl
   | ok B =>
    dsimp only
    by_cases h2:2 < side
    ·simp only[if_pos h2]
     rfl
    ·simp only[if_neg h2]
     show((L.doubts B light side).length:Int)::(((EZ (L.doubts B light side)).map fun (n:Nat)=>(n:Int))++[])=_
     rw[CO]
     rfl
end Fb
end
section
set_option maxRecDepth 100000
set_option maxHeartbeats 4000000
namespace Fb
open PySem PySem.Spec PyProof.Rows L2
open PySem.W (nsIn codeIn keepIn findIn isFn fnOf plainGet hasDictIn plainOver makesIn)
def IG (h:Heap):List Addr→AB
 | []=>[]
 | a::as=>match h.get? a with
  | some o=>(a,o)::IG h as
  | none=>IG h as
theorem Mo (h:Heap):∀as:List Addr,AB.In (IG h as) h
 | [],a,o,e=>nomatch e
 | b::as,a,o,e=>by
  unfold IG at e
  cases hb:h.get? b with
  | none=>rw[hb] at e;exact Mo h as a o e
  | some u =>
   rw[hb] at e
   dsimp only at e
   rw[EM] at e
   by_cases q:a=b
   ·subst q
    rw[beq_self_eq_true] at e
    cases e
    exact hb
   ·rw[beq_false_of_ne q] at e
    exact Mo h as a o e
def MP (fd:FuncData):FuncData:={ fd with kwdefaults:=.none,doc:=.none,pyModule:=.none,annotations:=none,code:=.none,closureTuple:=.none }
def Aa (nm qual:Str) (st:Stmt):FuncData:=fnOf nm qual (Cp st) (Bz st) (AK st) .none .none .none .none none .none .none
theorem YV {fd:FuncData}{nm qual:Str}{st:Stmt} (e:MP fd=Aa nm qual st):fd=fnOf nm qual (Cp st) (Bz st) (AK st) .none fd.kwdefaults fd.doc fd.pyModule fd.annotations fd.code fd.closureTuple:=by
 cases fd
 unfold MP Aa fnOf at e
 injection e with e1 e2 e3 e4 e5 e6 e7 e8 _ _ _ _ _ _ e9
 subst e1 e2 e3 e4 e5 e6 e7 e8 e9
 rfl
def IF (K:AB) (qual:Str) (f:Addr):Option (FuncData×Bool):=match K.lookup f with
 | some ⟨_,_,.func fd,_⟩=>some (MP fd,codeIn K fd.code qual&&keepIn K (.ref f))
 | _=>none
theorem Mn {K:AB}{nm qual:Str}{st:Stmt}{f:Addr} (e:IF K qual f=some (Aa nm qual st,true)):
  ∃(oc:Value) (od:Option Addr) (kV doc pm:Value) (an:Option Addr) (cdv ct:Value) (osl:Array (Option Value)),K.lookup f=some ⟨oc,od,.func (fnOf nm qual (Cp st) (Bz st) (AK st) .none kV doc pm an cdv ct),osl⟩∧codeIn K cdv qual=true∧keepIn K (.ref f)=true:=by
 unfold IF at e
 split at e
 ·rename_i oc od fd osl hl
  injection e with e
  injection e with e1 e2
  rw[BC] at e2
  exact⟨oc,od,fd.kwdefaults,fd.doc,fd.pyModule,fd.annotations,fd.code,fd.closureTuple,osl,by rw[hl,← YV e1],e2.1,e2.2⟩
 ·cases e
def Ae (K:AB) (x qual:Str):Option (FuncData×Bool):=match nsIn K mainGlobals x with
 | some (some (.ref f))=>IF K qual f
 | _=>none
section
variable {K:AB}{h:Heap}{mg:Str→Option Value}
theorem def_seen {x nm qual:Str}{st:Stmt}{ps:List Str} (X:K.In h) (G:h.Ns mainGlobals mg) (e:Ae K x qual=some (Aa nm qual st,true))
  (b:∀(kV doc pm:Value) (an:Option Addr) (cdv ct:Value) (us:List Value),us.length=ps.length→bindArgs (fnOf nm qual (Cp st) (Bz st) (AK st) .none kV doc pm an cdv ct) ⟨us,[]⟩=pure (ps.zip us)):
  ∃f fd,Def K mg x nm qual st ps f fd∧∀(s:Shared) (us:List Value),us.length=ps.length→BindsTo s fd ⟨us,[]⟩ (ps.zip us):=by
 unfold Ae at e
 split at e
 ·rename_i f a
  obtain⟨oc,od,kV,doc,pm,an,cdv,ct,osl,l,c,k⟩:=Mn e
  obtain⟨f,fd,d,_,hb⟩:=Yv X G a l c k b
  exact⟨f,fd,d,hb⟩
 ·cases e
def Ji (K:AB) (x:Str):Option Addr:=match nsIn K mainGlobals x with
 | some (some (.ref f))=>(match K.lookup f with
  | some ⟨_,_,.func fd,_⟩=>(match fd.code with
   | .ref c=>some c
   | _=>none)
  | _=>none)
 | _=>none
theorem def_seenC {x nm qual:Str}{st:Stmt}{ps:List Str}{c0:Addr} (X:K.In h) (G:h.Ns mainGlobals mg) (e:Ae K x qual=some (Aa nm qual st,true)) (ec:Ji K x=some c0)
  (b:∀(kV doc pm:Value) (an:Option Addr) (cdv ct:Value) (us:List Value),us.length=ps.length→bindArgs (fnOf nm qual (Cp st) (Bz st) (AK st) .none kV doc pm an cdv ct) ⟨us,[]⟩=pure (ps.zip us)):
  ∃f fd,Def K mg x nm qual st ps f fd∧fd.code=.ref c0:=by
 unfold Ae at e
 unfold Ji at ec
 split at e
 ·rename_i f a
  rw[a] at ec
  dsimp only at ec
  obtain⟨oc,od,kV,doc,pm,an,cdv,ct,osl,l,c,k⟩:=Mn e
  rw[l] at ec
  dsimp only at ec
  cases cdv with
  | ref c1 =>
   dsimp only at ec
   cases ec
   obtain⟨f,fd,d,hc,hb⟩:=Yw c0 X G a l c k b
   exact⟨f,fd,d,hc⟩
  | _=>cases ec
 ·cases e
def NQ (K:AB) (C:Addr) (f:Str):Bool:=match findIn K (.ref C) f with
 | some none=>true
 | _=>false
theorem a8 {C:Addr}{f:Str} (e:NQ K C f=true):findIn K (.ref C) f=some none:=by
 unfold NQ at e
 split at e
 ·assumption
 ·cases e
def Ny (K:AB) (C:Addr):Bool:=match findIn K (.ref C) "__setattr__" with
 | some (some (.builtin z))=>decide (z="object.__setattr__")
 | _=>false
theorem dZ {C:Addr} (e:Ny K C=true):findIn K (.ref C) "__setattr__"=some (some (.builtin "object.__setattr__")):=by
 unfold Ny at e
 split at e
 ·rename_i z hz
  rw[hz,of_decide_eq_true e]
 ·cases e
def NH (K:AB) (x:Str) (C:Addr):Bool:=match nsIn K mainGlobals x with
 | some (some (.ref c))=>decide (c=C)
 | _=>false
theorem ao {C:Addr}{x:Str} (e:NH K x C=true):nsIn K mainGlobals x=some (some (.ref C)):=by
 unfold NH at e
 split at e
 ·rename_i c hc
  rw[hc,of_decide_eq_true e]
 ·cases e
def F4 (K:AB) (x:Str) (C:Addr) (fields:List Str):Bool :=
 NH K x C&&(plainGet K C Pa&&(hasDictIn K C&&(plainOver K C&&(Ny K C&&(makesIn K C&&(keepIn K (.ref C)&&fields.all (NQ K C)))))))
def F5 (K:AB) (qual:Str) (C:Addr):Option ((FuncData×Bool)×Bool):=match findIn K (.ref C) "__init__" with
 | some (some (.ref f))=>(IF K qual f).map fun p=>(p,isFn K (.ref f))
 | _=>none
theorem cls_seen {x qual:Str}{st:Stmt}{ps:List Str}{C:Addr}{fields:List Str} (X:K.In h) (G:h.Ns mainGlobals mg) (e:F5 K qual C=some ((Aa "__init__" qual st,true),true)) (eb:F4 K x C fields=true)
  (b:∀(kV doc pm:Value) (an:Option Addr) (cdv ct:Value) (us:List Value),us.length=ps.length→bindArgs (fnOf "__init__" qual (Cp st) (Bz st) (AK st) .none kV doc pm an cdv ct) ⟨us,[]⟩=pure (ps.zip us)):
  (∃f fd,ClsD K mg x qual st ps C f fd)∧∀f∈fields,findIn K (.ref C) f=some none:=by
 unfold F4 at eb
 simp only[BC] at eb
 obtain⟨b1,b2,b3,b4,b5,b6,b7,b8⟩:=eb
 refine⟨?_,fun f hf=>a8 (C7.mp b8 f hf)⟩
 unfold F5 at e
 split at e
 ·rename_i f a
  cases hq:IF K qual f with
  | none=>rw[hq] at e;cases e
  | some p =>
   rw[hq] at e
   injection e with e
   injection e with e1 e2
   rw[e1] at hq
   obtain⟨oc,od,kV,doc,pm,an,cdv,ct,osl,l,c,k⟩:=Mn hq
   exact Ye C X G (ao b1) a e2 l c k b2 b3 b4 (dZ b5) b6 b7 b
 ·cases e
def A3 (K:AB) (x:Str):Option Int:=match nsIn K mainGlobals x with
 | some (some (.int n _))=>some n
 | _=>none
theorem int_seen {x:Str}{n:Int} (X:K.In h) (G:h.Ns mainGlobals mg) (e:A3 K x=some n):Cst mg x (.int n):=by
 unfold A3 at e
 split at e
 ·rename_i m t a
  cases e
  exact Yk X G a
 ·cases e
def OC (K:AB) (x:Str):Option Str:=match nsIn K mainGlobals x with
 | some (some (.str n _))=>some n
 | _=>none
theorem str_seen {x z:Str} (X:K.In h) (G:h.Ns mainGlobals mg) (e:OC K x=some z):Cst mg x (.str z):=by
 unfold OC at e
 split at e
 ·rename_i m t a
  cases e
  exact Yl X G a
 ·cases e
def OL (K:AB) (x:Str):Option (Bool×Str×Str×Str):=match nsIn K mainGlobals x with
 | some (some (.ref a))=>(match K.lookup a with
  | some ⟨.type t,_,.seq vs _,_⟩=>(match vs with
   | ⟨[.str y1 _,.str y2 _,.str y3 _]⟩=>some (decide (t="tuple"),y1,y2,y3)
   | _=>none)
  | _=>none)
 | _=>none
theorem tup_seen {x y1 y2 y3:Str} (X:K.In h) (G:h.Ns mainGlobals mg) (e:OL K x=some (true,y1,y2,y3)):MB K mg x ([y1,y2,y3].map V.str):=by
 unfold OL at e
 split at e
 ·rename_i a ha
  split at e
  ·rename_i t od vs n sl hl
   split at e
   ·rename_i z1 t1 z2 t2 z3 t3
    injection e with e
    injection e with e0 e
    injection e with e1 e
    injection e with e2 e3
    subst e1 e2 e3
    rw[of_decide_eq_true e0] at hl
    exact Ym X G ha hl
   ·cases e
  ·cases e
 ·cases e
def Dl (K:AB) (x:Str):Bool:=match nsIn K mainGlobals x with
 | some none=>true
 | _=>false
theorem no_seen {x:Str} (X:K.In h) (G:h.Ns mainGlobals mg) (e:Dl K x=true):mg x=none:=by
 unfold Dl at e
 split at e
 ·rename_i a
  exact a9 X G a
 ·cases e
end
end Fb
end
section
set_option maxRecDepth 100000
set_option maxHeartbeats 4000000
namespace L2
open PySem PySem.Spec PyProof.Rows
open PySem.W (WData Codec OpenSpec Well WellAll ReadsW CodeHd tabObj TabsAt noTabs)
theorem walk_hook {r:OpenSpec}{k:Nat}{q:Program}{loose:List Str}{XP:(Str→Option Value)→Heap→Prop}{YP:World→Heap→Prop}{d:DefRec}{Gd:AB→Prop}{ps:List Str}{sp:AB→Sp}{tabs:List (Addr×Addr)}
  (hwell:r.wellSaid=true) (hdf:d.params.defaults=[]) (hlen:r.args.length=ps.length) (hr:Room k callerA)
  (hY:∀(w:World) (h:Heap),YP w h→∃K:AB,K.In h∧Gd K) (hKT:∀K:AB,Gd K→noTabs K=true)
  (hT:∀(K:AB) (lo:List Str) (mean:ExcName→Option Value) (mg mb:Str→Option Value) (h:Heap),Gd K→K.In h→Top q lo mean mg mb h→TabsAt tabs h)
  (F:∀(w:World) (K:AB) (mg:Str→Option Value) (fa:Addr) (h:Heap),Gd K→K.In h→h.Ns mainGlobals mg→mg d.name=some (.ref fa)→
   ∃fd:FuncData,(∀(s:Shared) (us:List Value),us.length=ps.length→BindsTo s fd ⟨us,[]⟩ (ps.zip us))∧
    ∀base:Heap,K.In base→base.Ns mainGlobals mg→(∀q∈tabs,CodeHd base q.1 q.2)→Fz mg base→FnOk r.prog w K mg base CX0 k fa fd ps (sp K))
  (hsp:∀(K:AB) (H:Hp) (xs:List V) (a:Codec.denoteAll r.args),(∀q∈tabs,H q.2=some (.tbl #[]))→Codec.withinAll r.args a=true→Codec.app r.args r.asked a=true→DP K H xs (Codec.encAll r.args a)→
   sp K xs H (fun v H'=>Dw K H' v (r.ret.enc (Codec.app r.args r.f a))) E0):
  PySem.W.WalkOS q loose XP YP r d [] (fun f vs=>Pl f vs):=by
 intro w s_0 s1 mg mb G Y fa o pm cd doc dV kV ho hd hcd hD hmg hg args vals as hpre hlay hrd hwl hlo
 obtain⟨a,e1,e2⟩:=PySem.W.os_pre_some hpre
 obtain⟨e3,hwi⟩:=Codec.encAll_of_decAll r.args args a e1
 subst e3
 obtain⟨K,KX,gK⟩:=hY w _ Y
 obtain⟨fd,hb,hF⟩:=F w K mg fa _ gK KX G.T.g hmg
 refine PySem.W.enter_call (Gm (Yc (R:=[]) (cl:=classAt s_0.heap) (d0:=r.ret.enc (Codec.app r.args r.f a)) KX G.T.g G.T.b G.T.builtins G.T.nolimit hg G.T.bmain (hT K _ _ mg mb _ gK KX G.T) (hKT K gK) hwl (Sz _ _) (Z6 hlay) hr hF hb (by rw[Qv];exact hlen)
  (fun H xs hO hS=>hsp K H xs a hO hwi e2 hS)) fun r' s' hq=>?_)
 obtain⟨u,as',rfl,h1,h2,h3,h4⟩:=hq
 exact⟨.inl ⟨u,_,as',rfl,fun _=>rfl,h1,(OpenSpec.post_iff hwell hwi _ _).mpr rfl,fun z=>DW (show false=true from z)⟩,h2,h3,h4⟩
end L2
end
set_option maxRecDepth 100000
set_option maxHeartbeats 4000000
namespace Fb
open PySem PySem.Spec PyProof.Rows L2
def asN:List Addr:=[2,3,15,18,19,20,22,23,25,26,27,29,30,32,33,34,36,37,39,40,41,44,45,46,48,49,51,52,53,55,56,58,59,60,63,64,65,67,68,70,71,72,74,75,77,78,79,81,82,84,85,86,88,89,91,92,100,102,103,105,106,107,108,109,110,111,121,123,124,126,127,128,129,130,131,132,135,138,139,140,142,143,145,146,147,149,150,152,153,154,156,157,159,160,161,164,165,166,168,169,171,172,173,176,177,178,180,181,183,184,185,187,188,190,191,192,194,195,197,198,199,201,202,204,205,206,208,209,211,212,213,215,216,218,219,220,222,223,225,226,227,229,230,232,233,234,237,238,239,241,242,244,245,246,254,256,257,259,260,261,262,263,264,265,275,277,278,280,281,282,283,284,285,286,289,291,292,294,295,296,298,299,301,302,303,306,307,308,310,311,313,314,315,317,318,320,321,322,324,325,327,328,329,332,333,334,337,338,339,341,342,344,345,346,348,349,351,352,353,355,356,358,359,360,362,363,365,366,367,369,370,372,373,374,376,377,379,380,381,384,385,386,389,390,391,393,394,396,397,398,401,402,410,412,413,415,416,417,418,419,420,421,424,426,427,429,430,431,433,434,436,437]
def Q2 (K:AB):List (Option (FuncData×Bool)):=[Ae K "kinds_that_mean" "kinds_that_mean",Ae K "first_left" "first_left",Ae K "hoist_told" "hoist_told",Ae K "can_show" "can_show",Ae K "letters" "letters",Ae K "split_at" "split_at",Ae K "is_name_byte" "is_name_byte",Ae K "is_name" "is_name",Ae K "is_naming_line" "is_naming_line",Ae K "named" "named",Ae K "first_fault" "first_fault",Ae K "count_lines" "count_lines",Ae K "is_meaning" "is_meaning",Ae K "row_word" "row_word",Ae K "meaning_told" "meaning_told",Ae K "is_row_length" "is_row_length",Ae K "is_row_word" "is_row_word",Ae K "is_entry_line" "is_entry_line",Ae K "signs_told" "signs_told",Ae K "place_in_order" "place_in_order",Ae K "is_row_behind" "is_row_behind",Ae K "row_fault" "row_fault",Ae K "take_entry" "take_entry",Ae K "take_line_books" "take_line",Ae K "read_book" "read_book",Ae K "digits" "digits",Ae K "number_of" "number_of",Ae K "in_light" "in_light",Ae K "from_behind" "from_behind",Ae K "small_number" "small_number",Ae K "shape_told" "shape_told",Ae K "look_told" "look_told",Ae K "kind_with" "kind_with",Ae K "kind_told" "kind_told",Ae K "can_stand" "can_stand",Ae K "is_label_taken" "is_label_taken",Ae K "is_look_taken" "is_look_taken",Ae K "kind_fault" "kind_fault",Ae K "add_kind" "add_kind",Ae K "take_line_lockers" "take_line",Ae K "read_locker" "read_locker",Ae K "is_side" "is_side",Ae K "views_of_kinds" "views_of_kinds",Ae K "views_by_side" "views_by_side",Ae K "least_view" "least_view",Ae K "numbers_by_view" "numbers_by_view",Ae K "pairs_alike" "pairs_alike",Ae K "read_texts" "read_texts",Ae K "doubts" "doubts"]
def RL:List (Option (FuncData×Bool)):=[some (Aa "kinds_that_mean" "kinds_that_mean" Us,true),some (Aa "first_left" "first_left" UY,true),some (Aa "hoist_told" "hoist_told" Ua,true),some (Aa "can_show" "can_show" UR,true),some (Aa "letters" "letters" Uu,true),some (Aa "split_at" "split_at" VA,true),some (Aa "is_name_byte" "is_name_byte" Ui,true),some (Aa "is_name" "is_name" Uh,true),some (Aa "is_naming_line" "is_naming_line" Uj,true),some (Aa "named" "named" Ux,true),some (Aa "first_fault" "first_fault" UX,true),some (Aa "count_lines" "count_lines" UT,true),some (Aa "is_meaning" "is_meaning" Ug,true),some (Aa "row_word" "row_word" U6,true),some (Aa "meaning_told" "meaning_told" Uw,true),some (Aa "is_row_length" "is_row_length" Ul,true),some (Aa "is_row_word" "is_row_word" Um,true),some (Aa "is_entry_line" "is_entry_line" Uc,true),some (Aa "signs_told" "signs_told" U8,true),some (Aa "place_in_order" "place_in_order" U1,true),some (Aa "is_row_behind" "is_row_behind" Uk,true),some (Aa "row_fault" "row_fault" U5,true),some (Aa "take_entry" "take_entry" VB,true),some (Aa "take_line" "take_line" VC,true),some (Aa "read_book" "read_book" U2,true),some (Aa "digits" "digits" UU,true),some (Aa "number_of" "number_of" Uy,true),some (Aa "in_light" "in_light" Ub,true),some (Aa "from_behind" "from_behind" UZ,true),some (Aa "small_number" "small_number" U9,true),some (Aa "shape_told" "shape_told" U7,true),some (Aa "look_told" "look_told" Uv,true),some (Aa "kind_with" "kind_with" Ur,true),some (Aa "kind_told" "kind_told" Uq,true),some (Aa "can_stand" "can_stand" US,true),some (Aa "is_label_taken" "is_label_taken" Ud,true),some (Aa "is_look_taken" "is_look_taken" Ue,true),some (Aa "kind_fault" "kind_fault" Up,true),some (Aa "add_kind" "add_kind" UQ,true),some (Aa "take_line" "take_line" VD,true),some (Aa "read_locker" "read_locker" U3,true),some (Aa "is_side" "is_side" Uo,true),some (Aa "views_of_kinds" "views_of_kinds" VF,true),some (Aa "views_by_side" "views_by_side" VE,true),some (Aa "least_view" "least_view" Ut,true),some (Aa "numbers_by_view" "numbers_by_view" Uz,true),some (Aa "pairs_alike" "pairs_alike" U0,true),some (Aa "read_texts" "read_texts" U4,true),some (Aa "doubts" "doubts" UW,true)]
def Qz (K:AB):List (Option ((FuncData×Bool)×Bool)):=[F5 K "Entry.__init__" 109,F5 K "Book.__init__" 130,F5 K "Kind.__init__" 263,F5 K "Locker.__init__" 284,F5 K "Reading.__init__" 419]
def RJ:List (Option ((FuncData×Bool)×Bool)):=[some ((Aa "__init__" "Entry.__init__" (EU UL 0),true),true),some ((Aa "__init__" "Book.__init__" (EU UK 0),true),true),some ((Aa "__init__" "Kind.__init__" (EU UM 0),true),true),some ((Aa "__init__" "Locker.__init__" (EU UN 0),true),true),some ((Aa "__init__" "Reading.__init__" (EU UO 0),true),true)]
def Qy (K:AB):List (Bool):=[F4 K "Entry" 109 ["row","meaning"],F4 K "Book" 130 ["name","entries","fault"],F4 K "Kind" 263 ["rank","label","copies","shape","look"],F4 K "Locker" 284 ["name","kinds","signs","sames","fault"],F4 K "Reading" 419 ["refusal","locker","book"],Dl K "ord",Dl K "len",Dl K "all",Dl K "any",Dl K "enumerate",Dl K "reversed",Dl K "tuple",Dl K "range",Dl K "list",Dl K "min",PySem.W.noTabs K]
def RI:List (Bool):=[true,true,true,true,true,true,true,true,true,true,true,true,true,true,true,true]
def Q3 (K:AB):List (Option Int):=[A3 K "LINE_END",A3 K "BLANK",A3 K "LONGEST_NAME",A3 K "NO_SUCH_LINE",A3 K "FULL_STOP",A3 K "LAST_PRINTED",A3 K "LONGEST_ROW",A3 K "LONGEST_MEANING",A3 K "MOST_ENTRIES",A3 K "HEAD_LINES",A3 K "OTHER_LOCKER",A3 K "NO_SIGN",A3 K "NOT_SHOWN",A3 K "NOT_BEHIND",A3 K "TOO_MANY_ENTRIES",A3 K "DIGITS",A3 K "CELLS_IN_ROW",A3 K "SIGN",A3 K "SAME",A3 K "ANSWER",A3 K "MOST_SIGNS",A3 K "MOST_COPIES",A3 K "HIGHEST_SAME",A3 K "TOLD_BEFORE",A3 K "TOO_MANY_SIGNS",A3 K "LOOK_TOLD_BEFORE",A3 K "FRONT",A3 K "BEHIND",A3 K "EITHER",A3 K "LONGEST_TEXT",A3 K "OUT_OF_FORM",A3 K "TOO_LONG",A3 K "NO_LOCKER",A3 K "NO_BOOK"]
def RM:List (Option Int):=[some 10,some 32,some 8,some 1,some 46,some 126,some 8,some 64,some 2048,some 2,some 2,some 3,some 4,some 5,some 6,some 16,some 4,some 1,some 2,some 3,some 48,some 8,some 4,some 2,some 3,some 4,some 0,some 1,some 2,some 65536,some (-1),some (-2),some (-6),some (-9)]
def Q4 (K:AB):List (Option Str):=[OC K "COLOURS"]
def RO:List (Option Str):=[some ("0123456789abcdef":Str)]
def Q6 (K:AB):List (Option (Bool×Str×Str×Str)):=[OL K "SHAPES"]
def RQ:List (Option (Bool×Str×Str×Str)):=[some (true,("square":Str),("tails":Str),("long":Str))]
def Q0 (K:AB):List (Option Addr):=[Ji K "read_book",Ji K "read_locker"]
def RK:List (Option Addr):=[some 218,some 365]
def Q5 (K:AB):List (Option (Addr×Addr)):=[PySem.W.tabIn K "read_book",PySem.W.tabIn K "read_locker"]
def RP:List (Option (Addr×Addr)):=[some (218,214),some (365,361)]
def fAll (K:AB):=(Q2 K,Qz K,Qy K,Q3 K,Q4 K,Q6 K,Q0 K,Q5 K)
def gAll:=(RL,RJ,RI,RM,RO,RQ,RK,RP)
def hookN:PySem.W.Hook:=⟨_,fun s=>fAll (IG s.heap asN),fun _=>gAll,fun _ h=>∃K:AB,K.In h∧fAll K=gAll,fun _ s e=>⟨_,Mo s.heap asN,e⟩,fun _ _ _ ⟨K,X,e⟩ k=>⟨K,X.keeps k,e⟩⟩
theorem ith {α:Type}{l m:List α}{a b:α} (i:Nat) (e:l=m) (h1:l[i]?=some a) (h2:m[i]?=some b):a=b:=by
 rw[e,h2] at h1
 exact(AV h1).symm
theorem all_of {K:AB} (e:fAll K=gAll):Q2 K=RL∧Qz K=RJ∧Qy K=RI∧Q3 K=RM∧Q4 K=RO∧Q6 K=RQ∧Q0 K=RK∧Q5 K=RP:=by
 unfold fAll gAll at e
 injection e with e0 e
 injection e with e1 e
 injection e with e2 e
 injection e with e3 e
 injection e with e4 e
 injection e with e5 e
 injection e with e6 e
 exact⟨e0,e1,e2,e3,e4,e5,e6,e⟩
end Fb
namespace Fb
open PySem PySem.W PySem.Calls PyProof.Rows
theorem cU (w:World) (os:OsState):PySem.W.Fast.runAQ Ef 6162 11 (some (.ref 6)) w os hookN.obs=some (hookN.val w):=by kernel_rfl
theorem leftN:LeftO Ef viewN looseN xtN hookN.obs hookN.val stepsN :=
 Z8 (n₀:=11) (ann:=some (.ref 6)) (by kernel_rfl) (by decide) (fun s=>by kernel_rfl) (fun P=>by kernel_rfl) (fun w os=>by rw[PySem.W.Fast.runAQ_eq,PySem.W.Fast.look1Q_eq];exact cO w os) (fun w os=>by rw[PySem.W.Fast.runAQ_eq,PySem.W.Fast.look2Q_eq];exact cP w os) (fun w os=>by rw[PySem.W.Fast.runAQ_eq,PySem.W.Fast.look3Q_eq];exact cQ w os) (fun w os=>by rw[PySem.W.Fast.runAQ_eq,PySem.W.Fast.look4Q_eq];exact cR w os) fun w os=>by rw[PySem.W.Fast.runAQ_eq];exact cU w os
end Fb
open PySem PySem.W PyProof.Rows
theorem PySem.Challenge.cw_flagbooks_s08_doubts_holds : PySem.Challenge.rw_flagbooks_s08_doubts.Holds := by
 w_on
 refine holds_os (r:=Ad) (q:=Fb.viewN) (loose:=Fb.looseN) (Xt:=Fb.xtN) (XP:=XL Fb.viewN Fb.lvN) (Yf:=Hook.obs Fb.hookN) (Ya:=Hook.val Fb.hookN) (YP:=Hook.says Fb.hookN) (N:=Fb.stepsN) Fb.leftN (Hook.of Fb.hookN) (Hook.keeps Fb.hookN) (fun s e=>xl_of s (K1.mp e).1) XL.keeps (by rfl) (by rfl) (by rfl) (fun s e=>recFacts_of (K1.mp e).2) os_shapes (by decide +kernel) (by decide +kernel) ⟨rfl,rfl,rfl,rfl,rfl,by decide +kernel⟩ ⟨[.int 0,.int 0,.list [],.list []],by decide +kernel,by decide +kernel⟩ ?_
 refine L2.walk_hook (r:=Ad) (k:=12) (ps:=["light","side","t","b"]) (sp:=fun K=>Fb.spDoubts K 361 214) (tabs:=[(365,361),(218,214)]) (Gd:=fun K=>Fb.fAll K=Fb.gAll) (by decide +kernel) rfl rfl ⟨rfl,by decide,by decide⟩ (fun w h Y=>Y) ?cN ?cT ?cF ?cS
 case cN =>
  intro K gK
  obtain⟨_,_,h,_⟩:=Fb.all_of gK
  exact Fb.ith 15 h rfl rfl
 case cT =>
  intro K lo mean mg mb h gK KX T
  obtain⟨_,_,_,_,_,_,_,ht⟩:=Fb.all_of gK
  exact Wd.mpr ⟨PySem.W.tab_of (x:="read_locker") (c:=365) (P:=361) T KX rfl (Fb.ith 1 ht rfl rfl),Wd.mpr ⟨PySem.W.tab_of (x:="read_book") (c:=218) (P:=214) T KX rfl (Fb.ith 0 ht rfl rfl),fun _ h=>nomatch h⟩⟩
 case cF =>
  intro w K mg fa h gK KX G hmg
  obtain⟨hD,hC,hB,hI,hS,hU,hO,hT⟩:=Fb.all_of gK
  obtain⟨f_kinds_that_mean,fd_kinds_that_mean,d_kinds_that_mean,b_kinds_that_mean⟩:=Fb.def_seen (ps:=["locker","signs","place"]) KX G (Fb.ith 0 hD rfl rfl) (fun _ _ _ _ _ _ us hl=>match us,hl with | [_,_,_],_=>rfl)
  obtain⟨f_first_left,fd_first_left,d_first_left,b_first_left⟩:=Fb.def_seen (ps:=["locker","flown","kinds"]) KX G (Fb.ith 1 hD rfl rfl) (fun _ _ _ _ _ _ us hl=>match us,hl with | [_,_,_],_=>rfl)
  obtain⟨f_hoist_told,fd_hoist_told,d_hoist_told,b_hoist_told⟩:=Fb.def_seen (ps:=["locker","signs"]) KX G (Fb.ith 2 hD rfl rfl) (fun _ _ _ _ _ _ us hl=>match us,hl with | [_,_],_=>rfl)
  obtain⟨f_can_show,fd_can_show,d_can_show,b_can_show⟩:=Fb.def_seen (ps:=["locker","signs"]) KX G (Fb.ith 3 hD rfl rfl) (fun _ _ _ _ _ _ us hl=>match us,hl with | [_,_],_=>rfl)
  obtain⟨f_letters,fd_letters,d_letters,b_letters⟩:=Fb.def_seen (ps:=["word"]) KX G (Fb.ith 4 hD rfl rfl) (fun _ _ _ _ _ _ us hl=>match us,hl with | [_],_=>rfl)
  obtain⟨f_split_at,fd_split_at,d_split_at,b_split_at⟩:=Fb.def_seen (ps:=["mark","values"]) KX G (Fb.ith 5 hD rfl rfl) (fun _ _ _ _ _ _ us hl=>match us,hl with | [_,_],_=>rfl)
  obtain⟨f_is_name_byte,fd_is_name_byte,d_is_name_byte,b_is_name_byte⟩:=Fb.def_seen (ps:=["byte"]) KX G (Fb.ith 6 hD rfl rfl) (fun _ _ _ _ _ _ us hl=>match us,hl with | [_],_=>rfl)
  obtain⟨f_is_name,fd_is_name,d_is_name,b_is_name⟩:=Fb.def_seen (ps:=["word"]) KX G (Fb.ith 7 hD rfl rfl) (fun _ _ _ _ _ _ us hl=>match us,hl with | [_],_=>rfl)
  obtain⟨f_is_naming_line,fd_is_naming_line,d_is_naming_line,b_is_naming_line⟩:=Fb.def_seen (ps:=["line","first"]) KX G (Fb.ith 8 hD rfl rfl) (fun _ _ _ _ _ _ us hl=>match us,hl with | [_,_],_=>rfl)
  obtain⟨f_named,fd_named,d_named,b_named⟩:=Fb.def_seen (ps:=["line"]) KX G (Fb.ith 9 hD rfl rfl) (fun _ _ _ _ _ _ us hl=>match us,hl with | [_],_=>rfl)
  obtain⟨f_first_fault,fd_first_fault,d_first_fault,b_first_fault⟩:=Fb.def_seen (ps:=["text","take"]) KX G (Fb.ith 10 hD rfl rfl) (fun _ _ _ _ _ _ us hl=>match us,hl with | [_,_],_=>rfl)
  obtain⟨f_count_lines,fd_count_lines,d_count_lines,b_count_lines⟩:=Fb.def_seen (ps:=["text"]) KX G (Fb.ith 11 hD rfl rfl) (fun _ _ _ _ _ _ us hl=>match us,hl with | [_],_=>rfl)
  obtain⟨f_is_meaning,fd_is_meaning,d_is_meaning,b_is_meaning⟩:=Fb.def_seen (ps:=["told"]) KX G (Fb.ith 12 hD rfl rfl) (fun _ _ _ _ _ _ us hl=>match us,hl with | [_],_=>rfl)
  obtain⟨f_row_word,fd_row_word,d_row_word,b_row_word⟩:=Fb.def_seen (ps:=["line"]) KX G (Fb.ith 13 hD rfl rfl) (fun _ _ _ _ _ _ us hl=>match us,hl with | [_],_=>rfl)
  obtain⟨f_meaning_told,fd_meaning_told,d_meaning_told,b_meaning_told⟩:=Fb.def_seen (ps:=["line"]) KX G (Fb.ith 14 hD rfl rfl) (fun _ _ _ _ _ _ us hl=>match us,hl with | [_],_=>rfl)
  obtain⟨f_is_row_length,fd_is_row_length,d_is_row_length,b_is_row_length⟩:=Fb.def_seen (ps:=["length"]) KX G (Fb.ith 15 hD rfl rfl) (fun _ _ _ _ _ _ us hl=>match us,hl with | [_],_=>rfl)
  obtain⟨f_is_row_word,fd_is_row_word,d_is_row_word,b_is_row_word⟩:=Fb.def_seen (ps:=["word"]) KX G (Fb.ith 16 hD rfl rfl) (fun _ _ _ _ _ _ us hl=>match us,hl with | [_],_=>rfl)
  obtain⟨f_is_entry_line,fd_is_entry_line,d_is_entry_line,b_is_entry_line⟩:=Fb.def_seen (ps:=["line"]) KX G (Fb.ith 17 hD rfl rfl) (fun _ _ _ _ _ _ us hl=>match us,hl with | [_],_=>rfl)
  obtain⟨f_signs_told,fd_signs_told,d_signs_told,b_signs_told⟩:=Fb.def_seen (ps:=["locker","word"]) KX G (Fb.ith 18 hD rfl rfl) (fun _ _ _ _ _ _ us hl=>match us,hl with | [_,_],_=>rfl)
  obtain⟨f_place_in_order,fd_place_in_order,d_place_in_order,b_place_in_order⟩:=Fb.def_seen (ps:=["row"]) KX G (Fb.ith 19 hD rfl rfl) (fun _ _ _ _ _ _ us hl=>match us,hl with | [_],_=>rfl)
  obtain⟨f_is_row_behind,fd_is_row_behind,d_is_row_behind,b_is_row_behind⟩:=Fb.def_seen (ps:=["row","before"]) KX G (Fb.ith 20 hD rfl rfl) (fun _ _ _ _ _ _ us hl=>match us,hl with | [_,_],_=>rfl)
  obtain⟨f_row_fault,fd_row_fault,d_row_fault,b_row_fault⟩:=Fb.def_seen (ps:=["locker","book","row"]) KX G (Fb.ith 21 hD rfl rfl) (fun _ _ _ _ _ _ us hl=>match us,hl with | [_,_,_],_=>rfl)
  obtain⟨f_take_entry,fd_take_entry,d_take_entry,b_take_entry⟩:=Fb.def_seen (ps:=["locker","book","line"]) KX G (Fb.ith 22 hD rfl rfl) (fun _ _ _ _ _ _ us hl=>match us,hl with | [_,_,_],_=>rfl)
  obtain⟨f_take_line_books,fd_take_line_books,d_take_line_books,b_take_line_books⟩:=Fb.def_seen (ps:=["locker","book","number","line"]) KX G (Fb.ith 23 hD rfl rfl) (fun _ _ _ _ _ _ us hl=>match us,hl with | [_,_,_,_],_=>rfl)
  obtain⟨f_read_book,fd_read_book,d_read_book,e_read_book⟩:=Fb.def_seenC (ps:=["locker","text"]) KX G (Fb.ith 24 hD rfl rfl) (Fb.ith 0 hO rfl rfl) (fun _ _ _ _ _ _ us hl=>match us,hl with | [_,_],_=>rfl)
  obtain⟨f_digits,fd_digits,d_digits,b_digits⟩:=Fb.def_seen (ps:=["number"]) KX G (Fb.ith 25 hD rfl rfl) (fun _ _ _ _ _ _ us hl=>match us,hl with | [_],_=>rfl)
  obtain⟨f_number_of,fd_number_of,d_number_of,b_number_of⟩:=Fb.def_seen (ps:=["told"]) KX G (Fb.ith 26 hD rfl rfl) (fun _ _ _ _ _ _ us hl=>match us,hl with | [_],_=>rfl)
  obtain⟨f_in_light,fd_in_light,d_in_light,b_in_light⟩:=Fb.def_seen (ps:=["look","light"]) KX G (Fb.ith 27 hD rfl rfl) (fun _ _ _ _ _ _ us hl=>match us,hl with | [_,_],_=>rfl)
  obtain⟨f_from_behind,fd_from_behind,d_from_behind,b_from_behind⟩:=Fb.def_seen (ps:=["look"]) KX G (Fb.ith 28 hD rfl rfl) (fun _ _ _ _ _ _ us hl=>match us,hl with | [_],_=>rfl)
  obtain⟨f_small_number,fd_small_number,d_small_number,b_small_number⟩:=Fb.def_seen (ps:=["word","most"]) KX G (Fb.ith 29 hD rfl rfl) (fun _ _ _ _ _ _ us hl=>match us,hl with | [_,_],_=>rfl)
  obtain⟨f_shape_told,fd_shape_told,d_shape_told,b_shape_told⟩:=Fb.def_seen (ps:=["word"]) KX G (Fb.ith 30 hD rfl rfl) (fun _ _ _ _ _ _ us hl=>match us,hl with | [_],_=>rfl)
  obtain⟨f_look_told,fd_look_told,d_look_told,b_look_told⟩:=Fb.def_seen (ps:=["word"]) KX G (Fb.ith 31 hD rfl rfl) (fun _ _ _ _ _ _ us hl=>match us,hl with | [_],_=>rfl)
  obtain⟨f_kind_with,fd_kind_with,d_kind_with,b_kind_with⟩:=Fb.def_seen (ps:=["rank","label","words"]) KX G (Fb.ith 32 hD rfl rfl) (fun _ _ _ _ _ _ us hl=>match us,hl with | [_,_,_],_=>rfl)
  obtain⟨f_kind_told,fd_kind_told,d_kind_told,b_kind_told⟩:=Fb.def_seen (ps:=["line"]) KX G (Fb.ith 33 hD rfl rfl) (fun _ _ _ _ _ _ us hl=>match us,hl with | [_],_=>rfl)
  obtain⟨f_can_stand,fd_can_stand,d_can_stand,b_can_stand⟩:=Fb.def_seen (ps:=["locker","kind"]) KX G (Fb.ith 34 hD rfl rfl) (fun _ _ _ _ _ _ us hl=>match us,hl with | [_,_],_=>rfl)
  obtain⟨f_is_label_taken,fd_is_label_taken,d_is_label_taken,b_is_label_taken⟩:=Fb.def_seen (ps:=["locker","kind"]) KX G (Fb.ith 35 hD rfl rfl) (fun _ _ _ _ _ _ us hl=>match us,hl with | [_,_],_=>rfl)
  obtain⟨f_is_look_taken,fd_is_look_taken,d_is_look_taken,b_is_look_taken⟩:=Fb.def_seen (ps:=["locker","kind"]) KX G (Fb.ith 36 hD rfl rfl) (fun _ _ _ _ _ _ us hl=>match us,hl with | [_,_],_=>rfl)
  obtain⟨f_kind_fault,fd_kind_fault,d_kind_fault,b_kind_fault⟩:=Fb.def_seen (ps:=["locker","kind"]) KX G (Fb.ith 37 hD rfl rfl) (fun _ _ _ _ _ _ us hl=>match us,hl with | [_,_],_=>rfl)
  obtain⟨f_add_kind,fd_add_kind,d_add_kind,b_add_kind⟩:=Fb.def_seen (ps:=["locker","kind"]) KX G (Fb.ith 38 hD rfl rfl) (fun _ _ _ _ _ _ us hl=>match us,hl with | [_,_],_=>rfl)
  obtain⟨f_take_line_lockers,fd_take_line_lockers,d_take_line_lockers,b_take_line_lockers⟩:=Fb.def_seen (ps:=["locker","number","line"]) KX G (Fb.ith 39 hD rfl rfl) (fun _ _ _ _ _ _ us hl=>match us,hl with | [_,_,_],_=>rfl)
  obtain⟨f_read_locker,fd_read_locker,d_read_locker,e_read_locker⟩:=Fb.def_seenC (ps:=["text"]) KX G (Fb.ith 40 hD rfl rfl) (Fb.ith 1 hO rfl rfl) (fun _ _ _ _ _ _ us hl=>match us,hl with | [_],_=>rfl)
  obtain⟨f_is_side,fd_is_side,d_is_side,b_is_side⟩:=Fb.def_seen (ps:=["number"]) KX G (Fb.ith 41 hD rfl rfl) (fun _ _ _ _ _ _ us hl=>match us,hl with | [_],_=>rfl)
  obtain⟨f_views_of_kinds,fd_views_of_kinds,d_views_of_kinds,b_views_of_kinds⟩:=Fb.def_seen (ps:=["locker","light","side"]) KX G (Fb.ith 42 hD rfl rfl) (fun _ _ _ _ _ _ us hl=>match us,hl with | [_,_,_],_=>rfl)
  obtain⟨f_views_by_side,fd_views_by_side,d_views_by_side,b_views_by_side⟩:=Fb.def_seen (ps:=["locker","light","side"]) KX G (Fb.ith 43 hD rfl rfl) (fun _ _ _ _ _ _ us hl=>match us,hl with | [_,_,_],_=>rfl)
  obtain⟨f_least_view,fd_least_view,d_least_view,b_least_view⟩:=Fb.def_seen (ps:=["hoist","sides"]) KX G (Fb.ith 44 hD rfl rfl) (fun _ _ _ _ _ _ us hl=>match us,hl with | [_,_],_=>rfl)
  obtain⟨f_numbers_by_view,fd_numbers_by_view,d_numbers_by_view,b_numbers_by_view⟩:=Fb.def_seen (ps:=["seen"]) KX G (Fb.ith 45 hD rfl rfl) (fun _ _ _ _ _ _ us hl=>match us,hl with | [_],_=>rfl)
  obtain⟨f_pairs_alike,fd_pairs_alike,d_pairs_alike,b_pairs_alike⟩:=Fb.def_seen (ps:=["locker","book","light","side"]) KX G (Fb.ith 46 hD rfl rfl) (fun _ _ _ _ _ _ us hl=>match us,hl with | [_,_,_,_],_=>rfl)
  obtain⟨f_read_texts,fd_read_texts,d_read_texts,b_read_texts⟩:=Fb.def_seen (ps:=["t","b"]) KX G (Fb.ith 47 hD rfl rfl) (fun _ _ _ _ _ _ us hl=>match us,hl with | [_,_],_=>rfl)
  obtain⟨f_doubts,fd_doubts,d_doubts,b_doubts⟩:=Fb.def_seen (ps:=["light","side","t","b"]) KX G (Fb.ith 48 hD rfl rfl) (fun _ _ _ _ _ _ us hl=>match us,hl with | [_,_,_,_],_=>rfl)
  obtain⟨⟨fc_Entry,fdc_Entry,k_Entry⟩,n_Entry⟩:=Fb.cls_seen (ps:=["self","row","meaning"]) KX G (Fb.ith 0 hC rfl rfl) (Fb.ith 0 hB rfl rfl) (fun _ _ _ _ _ _ us hl=>match us,hl with | [_,_,_],_=>rfl)
  have t_Entry:Fb.EntC _ 109:=⟨k_Entry.cl,n_Entry _ (.head _),n_Entry _ (.tail _ (.head _))⟩
  obtain⟨⟨fc_Book,fdc_Book,k_Book⟩,n_Book⟩:=Fb.cls_seen (ps:=["self"]) KX G (Fb.ith 1 hC rfl rfl) (Fb.ith 1 hB rfl rfl) (fun _ _ _ _ _ _ us hl=>match us,hl with | [_],_=>rfl)
  have t_Book:Fb.BookC _ 130:=⟨k_Book.cl,n_Book _ (.head _),n_Book _ (.tail _ (.head _)),n_Book _ (.tail _ (.tail _ (.head _)))⟩
  obtain⟨⟨fc_Kind,fdc_Kind,k_Kind⟩,n_Kind⟩:=Fb.cls_seen (ps:=["self","rank","label","copies","shape","look"]) KX G (Fb.ith 2 hC rfl rfl) (Fb.ith 2 hB rfl rfl) (fun _ _ _ _ _ _ us hl=>match us,hl with | [_,_,_,_,_,_],_=>rfl)
  have t_Kind:Fb.KindC _ 263:=⟨k_Kind.cl,n_Kind _ (.head _),n_Kind _ (.tail _ (.head _)),n_Kind _ (.tail _ (.tail _ (.head _))),n_Kind _ (.tail _ (.tail _ (.tail _ (.head _)))),n_Kind _ (.tail _ (.tail _ (.tail _ (.tail _ (.head _)))))⟩
  obtain⟨⟨fc_Locker,fdc_Locker,k_Locker⟩,n_Locker⟩:=Fb.cls_seen (ps:=["self"]) KX G (Fb.ith 3 hC rfl rfl) (Fb.ith 3 hB rfl rfl) (fun _ _ _ _ _ _ us hl=>match us,hl with | [_],_=>rfl)
  have t_Locker:Fb.LockC _ 284:=⟨k_Locker.cl,n_Locker _ (.head _),n_Locker _ (.tail _ (.head _)),n_Locker _ (.tail _ (.tail _ (.head _))),n_Locker _ (.tail _ (.tail _ (.tail _ (.head _)))),n_Locker _ (.tail _ (.tail _ (.tail _ (.tail _ (.head _)))))⟩
  obtain⟨⟨fc_Reading,fdc_Reading,k_Reading⟩,n_Reading⟩:=Fb.cls_seen (ps:=["self","refusal","locker","book"]) KX G (Fb.ith 4 hC rfl rfl) (Fb.ith 4 hB rfl rfl) (fun _ _ _ _ _ _ us hl=>match us,hl with | [_,_,_,_],_=>rfl)
  have t_Reading:Fb.ReadC _ 419:=⟨k_Reading.cl,n_Reading _ (.head _),n_Reading _ (.tail _ (.head _)),n_Reading _ (.tail _ (.tail _ (.head _)))⟩
  have c_LINE_END:=Fb.int_seen KX G (Fb.ith 0 hI rfl rfl)
  have c_BLANK:=Fb.int_seen KX G (Fb.ith 1 hI rfl rfl)
  have c_LONGEST_NAME:=Fb.int_seen KX G (Fb.ith 2 hI rfl rfl)
  have c_NO_SUCH_LINE:=Fb.int_seen KX G (Fb.ith 3 hI rfl rfl)
  have c_FULL_STOP:=Fb.int_seen KX G (Fb.ith 4 hI rfl rfl)
  have c_LAST_PRINTED:=Fb.int_seen KX G (Fb.ith 5 hI rfl rfl)
  have c_LONGEST_ROW:=Fb.int_seen KX G (Fb.ith 6 hI rfl rfl)
  have c_LONGEST_MEANING:=Fb.int_seen KX G (Fb.ith 7 hI rfl rfl)
  have c_MOST_ENTRIES:=Fb.int_seen KX G (Fb.ith 8 hI rfl rfl)
  have c_HEAD_LINES:=Fb.int_seen KX G (Fb.ith 9 hI rfl rfl)
  have c_OTHER_LOCKER:=Fb.int_seen KX G (Fb.ith 10 hI rfl rfl)
  have c_NO_SIGN:=Fb.int_seen KX G (Fb.ith 11 hI rfl rfl)
  have c_NOT_SHOWN:=Fb.int_seen KX G (Fb.ith 12 hI rfl rfl)
  have c_NOT_BEHIND:=Fb.int_seen KX G (Fb.ith 13 hI rfl rfl)
  have c_TOO_MANY_ENTRIES:=Fb.int_seen KX G (Fb.ith 14 hI rfl rfl)
  have c_DIGITS:=Fb.int_seen KX G (Fb.ith 15 hI rfl rfl)
  have c_CELLS_IN_ROW:=Fb.int_seen KX G (Fb.ith 16 hI rfl rfl)
  have c_SIGN:=Fb.int_seen KX G (Fb.ith 17 hI rfl rfl)
  have c_SAME:=Fb.int_seen KX G (Fb.ith 18 hI rfl rfl)
  have c_ANSWER:=Fb.int_seen KX G (Fb.ith 19 hI rfl rfl)
  have c_MOST_SIGNS:=Fb.int_seen KX G (Fb.ith 20 hI rfl rfl)
  have c_MOST_COPIES:=Fb.int_seen KX G (Fb.ith 21 hI rfl rfl)
  have c_HIGHEST_SAME:=Fb.int_seen KX G (Fb.ith 22 hI rfl rfl)
  have c_TOLD_BEFORE:=Fb.int_seen KX G (Fb.ith 23 hI rfl rfl)
  have c_TOO_MANY_SIGNS:=Fb.int_seen KX G (Fb.ith 24 hI rfl rfl)
  have c_LOOK_TOLD_BEFORE:=Fb.int_seen KX G (Fb.ith 25 hI rfl rfl)
  have c_FRONT:=Fb.int_seen KX G (Fb.ith 26 hI rfl rfl)
  have c_BEHIND:=Fb.int_seen KX G (Fb.ith 27 hI rfl rfl)
  have c_EITHER:=Fb.int_seen KX G (Fb.ith 28 hI rfl rfl)
  have c_LONGEST_TEXT:=Fb.int_seen KX G (Fb.ith 29 hI rfl rfl)
  have c_OUT_OF_FORM:=Fb.int_seen KX G (Fb.ith 30 hI rfl rfl)
  have c_TOO_LONG:=Fb.int_seen KX G (Fb.ith 31 hI rfl rfl)
  have c_NO_LOCKER:=Fb.int_seen KX G (Fb.ith 32 hI rfl rfl)
  have c_NO_BOOK:=Fb.int_seen KX G (Fb.ith 33 hI rfl rfl)
  have c_COLOURS:=Fb.str_seen KX G (Fb.ith 0 hS rfl rfl)
  have c_SHAPES:=Fb.tup_seen KX G (Fb.ith 0 hU rfl rfl)
  have B:Fb.Blt mg:=⟨Fb.no_seen (x:="ord") KX G (Fb.ith 5 hB rfl rfl),Fb.no_seen (x:="len") KX G (Fb.ith 6 hB rfl rfl),Fb.no_seen (x:="all") KX G (Fb.ith 7 hB rfl rfl),Fb.no_seen (x:="any") KX G (Fb.ith 8 hB rfl rfl),Fb.no_seen (x:="enumerate") KX G (Fb.ith 9 hB rfl rfl),Fb.no_seen (x:="reversed") KX G (Fb.ith 10 hB rfl rfl),Fb.no_seen (x:="tuple") KX G (Fb.ith 11 hB rfl rfl),Fb.no_seen (x:="range") KX G (Fb.ith 12 hB rfl rfl)⟩
  have n_list:=Fb.no_seen (x:="list") KX G (Fb.ith 13 hB rfl rfl)
  have n_min:=Fb.no_seen (x:="min") KX G (Fb.ith 14 hB rfl rfl)
  have g_split:=d_split_at.has (P:=Ad.prog) (w:=w) fun base=>Fb.ok_split d_split_at.fn
  have g_letters:=d_letters.has (P:=Ad.prog) (w:=w) fun base=>Fb.ok_letters d_letters.fn B
  have g_nbyte:=d_is_name_byte.has (P:=Ad.prog) (w:=w) fun base=>Fb.ok_nameByte d_is_name_byte.fn B
  have g_isname:=d_is_name.has (P:=Ad.prog) (w:=w) fun base=>Fb.ok_isName d_is_name.fn B c_LONGEST_NAME g_nbyte
  have g_naming:=d_is_naming_line.has (P:=Ad.prog) (w:=w) fun base=>Fb.ok_naming d_is_naming_line.fn B c_BLANK g_split g_letters g_isname
  have g_named:=d_named.has (P:=Ad.prog) (w:=w) fun base=>Fb.ok_named d_named.fn c_BLANK g_split
  have g_count:=d_count_lines.has (P:=Ad.prog) (w:=w) fun base=>Fb.ok_count d_count_lines.fn c_LINE_END
  have g_first:=d_first_fault.has (P:=Ad.prog) (w:=w) fun base=>Fb.ok_first (kT:=7) d_first_fault.fn B c_LINE_END c_NO_SUCH_LINE g_split
  have g_small:=d_small_number.has (P:=Ad.prog) (w:=w) fun base=>Fb.ok_small d_small_number.fn B
  have g_shape:=d_shape_told.has (P:=Ad.prog) (w:=w) fun base=>Fb.ok_shape d_shape_told.fn B c_SHAPES g_letters
  have g_numof:=d_number_of.has (P:=Ad.prog) (w:=w) fun base=>Fb.ok_numOf d_number_of.fn B
  have g_look:=d_look_told.has (P:=Ad.prog) (w:=w) fun base=>Fb.ok_look d_look_told.fn B c_COLOURS c_DIGITS g_letters g_numof
  have g_Kind:=k_Kind.has (P:=Ad.prog) (w:=w) fun base=>Fb.ok_kindI k_Kind.fn t_Kind
  have g_kwith:=d_kind_with.has (P:=Ad.prog) (w:=w) fun base=>Fb.ok_kwith d_kind_with.fn c_MOST_COPIES g_small g_shape g_look g_Kind
  have g_ktold:=d_kind_told.has (P:=Ad.prog) (w:=w) fun base=>Fb.ok_ktold d_kind_told.fn B c_BLANK c_SIGN c_SAME c_ANSWER c_HIGHEST_SAME g_split g_letters g_isname g_small g_kwith
  have g_stand:=d_can_stand.has (P:=Ad.prog) (w:=w) fun base=>Fb.ok_stand d_can_stand.fn B t_Locker t_Kind c_ANSWER
  have g_label:=d_is_label_taken.has (P:=Ad.prog) (w:=w) fun base=>Fb.ok_label d_is_label_taken.fn B t_Locker t_Kind c_SIGN c_SAME
  have g_lookt:=d_is_look_taken.has (P:=Ad.prog) (w:=w) fun base=>Fb.ok_lookT d_is_look_taken.fn B t_Locker t_Kind
  have g_kfault:=d_kind_fault.has (P:=Ad.prog) (w:=w) fun base=>Fb.ok_kfault d_kind_fault.fn B t_Locker t_Kind c_NO_SUCH_LINE c_TOLD_BEFORE c_TOO_MANY_SIGNS c_LOOK_TOLD_BEFORE c_SIGN c_MOST_SIGNS g_stand g_label g_lookt
  have g_addk:=d_add_kind.has (P:=Ad.prog) (w:=w) fun base=>Fb.ok_addK d_add_kind.fn B t_Locker t_Kind c_SIGN c_SAME
  have g_takel:=d_take_line_lockers.has (P:=Ad.prog) (w:=w) fun base=>L2.FnOk.mono (k:=6) (Fb.ok_takeL d_take_line_lockers.fn (by decide) t_Locker c_NO_SUCH_LINE g_naming g_named g_ktold g_kfault g_addk) (by decide)
  have g_Locker:=k_Locker.has (P:=Ad.prog) (w:=w) fun base=>Fb.ok_lockI k_Locker.fn t_Locker
  have g_ktm:=d_kinds_that_mean.has (P:=Ad.prog) (w:=w) fun base=>Fb.ok_ktm (CK:=263) d_kinds_that_mean.fn t_Locker
  have g_firstl:=d_first_left.has (P:=Ad.prog) (w:=w) fun base=>Fb.ok_firstL d_first_left.fn t_Locker t_Kind
  have g_hoist:=d_hoist_told.has (P:=Ad.prog) (w:=w) fun base=>Fb.ok_hoist d_hoist_told.fn B g_ktm g_firstl
  have g_show:=d_can_show.has (P:=Ad.prog) (w:=w) fun base=>Fb.ok_show d_can_show.fn g_hoist
  have g_ismean:=d_is_meaning.has (P:=Ad.prog) (w:=w) fun base=>Fb.ok_isMean d_is_meaning.fn B c_BLANK c_LAST_PRINTED c_LONGEST_MEANING g_split
  have g_roww:=d_row_word.has (P:=Ad.prog) (w:=w) fun base=>Fb.ok_rowW d_row_word.fn c_BLANK g_split
  have g_meant:=d_meaning_told.has (P:=Ad.prog) (w:=w) fun base=>Fb.ok_meanT d_meaning_told.fn B g_roww
  have g_rowlen:=d_is_row_length.has (P:=Ad.prog) (w:=w) fun base=>Fb.ok_rowLen d_is_row_length.fn c_LONGEST_ROW
  have g_isroww:=d_is_row_word.has (P:=Ad.prog) (w:=w) fun base=>Fb.ok_isRowW d_is_row_word.fn B c_FULL_STOP g_rowlen g_split g_isname
  have g_isent:=d_is_entry_line.has (P:=Ad.prog) (w:=w) fun base=>Fb.ok_isEnt d_is_entry_line.fn g_roww g_isroww g_ismean g_meant
  have g_signs:=d_signs_told.has (P:=Ad.prog) (w:=w) fun base=>Fb.ok_signs (CK:=263) d_signs_told.fn B t_Locker c_FULL_STOP g_split
  have g_place:=d_place_in_order.has (P:=Ad.prog) (w:=w) fun base=>Fb.ok_place d_place_in_order.fn B
  have g_behind:=d_is_row_behind.has (P:=Ad.prog) (w:=w) fun base=>Fb.ok_behind d_is_row_behind.fn g_place
  have g_rowf:=d_row_fault.has (P:=Ad.prog) (w:=w) fun base=>Fb.ok_rowF d_row_fault.fn B t_Book t_Entry c_NOT_SHOWN c_NOT_BEHIND c_TOO_MANY_ENTRIES c_MOST_ENTRIES g_show g_behind
  have g_Entry:=k_Entry.has (P:=Ad.prog) (w:=w) fun base=>Fb.ok_entI k_Entry.fn t_Entry
  have g_takee:=d_take_entry.has (P:=Ad.prog) (w:=w) fun base=>Fb.ok_takeE d_take_entry.fn t_Book c_NO_SUCH_LINE c_NO_SIGN g_isent g_roww g_signs g_rowf g_Entry g_meant
  have g_takeb:=d_take_line_books.has (P:=Ad.prog) (w:=w) fun base=>Fb.ok_takeB d_take_line_books.fn (by decide) t_Locker t_Book c_NO_SUCH_LINE c_OTHER_LOCKER c_HEAD_LINES g_naming g_named g_takee
  have g_Book:=k_Book.has (P:=Ad.prog) (w:=w) fun base=>Fb.ok_bookI k_Book.fn t_Book
  have g_Reading:=k_Reading.has (P:=Ad.prog) (w:=w) fun base=>Fb.ok_readI k_Reading.fn t_Reading
  have g_digits:=d_digits.has (P:=Ad.prog) (w:=w) fun base=>Fb.ok_digits d_digits.fn B c_DIGITS
  have g_inl:=d_in_light.has (P:=Ad.prog) (w:=w) fun base=>Fb.ok_inL d_in_light.fn g_digits g_numof
  have g_fromb:=d_from_behind.has (P:=Ad.prog) (w:=w) fun base=>Fb.ok_fromB d_from_behind.fn B n_list c_DIGITS c_CELLS_IN_ROW g_digits g_numof
  have g_isside:=d_is_side.has (P:=Ad.prog) (w:=w) fun base=>Fb.ok_isSide d_is_side.fn c_FRONT c_EITHER
  have g_vok:=d_views_of_kinds.has (P:=Ad.prog) (w:=w) fun base=>Fb.ok_vok d_views_of_kinds.fn t_Locker t_Kind c_BEHIND g_fromb g_inl
  have g_vbs:=d_views_by_side.has (P:=Ad.prog) (w:=w) fun base=>Fb.ok_vbs d_views_by_side.fn c_FRONT c_BEHIND c_EITHER g_vok
  have g_least:=d_least_view.has (P:=Ad.prog) (w:=w) fun base=>Fb.ok_least d_least_view.fn B n_min
  have g_nbv:=d_numbers_by_view.has (P:=Ad.prog) (w:=w) fun base=>Fb.ok_nbv d_numbers_by_view.fn B
  have g_pa:=d_pairs_alike.has (P:=Ad.prog) (w:=w) fun base=>Fb.ok_pa d_pairs_alike.fn B t_Book t_Entry g_vbs g_hoist g_least g_nbv
  have e:=hmg.symm.trans d_doubts.at_
  cases e
  refine⟨fd_doubts,b_doubts,fun base _ _ hCd hBm=>?_⟩
  have g_readl:=d_read_locker.hasB (Fb.ok_readL (P:=Ad.prog) (w:=w) (base:=base) d_read_locker.fn e_read_locker (hCd (365,361) (by simp)) hBm B (by decide) t_Locker c_NO_SUCH_LINE g_Locker g_first g_takel g_count)
  have g_readb:=d_read_book.hasB (Fb.ok_readB (P:=Ad.prog) (w:=w) (base:=base) d_read_book.fn e_read_book (hCd (218,214) (by simp)) hBm (by decide) t_Book c_NO_SUCH_LINE c_HEAD_LINES g_Book g_first g_takeb g_count)
  have g_texts:=d_read_texts.hasB (Fb.ok_texts (P:=Ad.prog) (w:=w) (base:=base) d_read_texts.fn B (by decide) t_Locker t_Book c_LONGEST_TEXT c_TOO_LONG c_NO_LOCKER c_NO_BOOK g_readl g_readb g_Reading)
  exact Fb.ok_doubts d_doubts.fn B t_Reading c_OUT_OF_FORM g_texts g_isside g_pa
 case cS =>
  intro K H xs a hO hwi hask hx
  cases hx with
  | cons h0 h1 =>
   cases h1 with
   | cons h00 h1 =>
   cases h1 with
   | cons h1 h2 =>
    cases h2 with
    | cons h2 h3 =>
     cases h3
     cases h1 with
     | lst hs ha =>
      cases h2 with
      | lst hs2 ha2 =>
       have e:=L2.ints_dw a.2.2.1 _ ha
       subst e
       have e2:=L2.ints_dw a.2.2.2.1 _ ha2
       subst e2
       have q:(Codec.inInt 0 18446744073709551615 a.1&&(Codec.inInt 0 18446744073709551615 a.2.1&&((Codec.inLen 0 66000 a.2.2.1&&a.2.2.1.all (Codec.inInt 0 255))&&((Codec.inLen 0 66000 a.2.2.2.1&&a.2.2.2.1.all (Codec.inInt 0 255))&&true))))=true:=hwi
       rw[BC,BC,BC,BC,BC,BC] at q
       obtain⟨i0,j0,⟨l1,m1⟩,⟨l2,m2⟩,_⟩:=q
       have i0:=(Codec.inInt_iff.mp i0).1
       have j0:=(Codec.inInt_iff.mp j0).1
       have l1:=(Codec.inNat_iff.mp l1).2
       have l2:=(Codec.inNat_iff.mp l2).2
       have b1:∀n∈a.2.2.1,0≤n∧n≤255:=fun n hn=>Codec.inInt_iff.mp (C7.mp m1 n hn)
       have b2:∀n∈a.2.2.2.1,0≤n∧n≤255:=fun n hn=>Codec.inInt_iff.mp (C7.mp m2 n hn)
       cases h0
       cases h00
       have ei:(a.1:Int)=((a.1:Int).toNat:Int):=(Od i0).symm
       have ej:(a.2.1:Int)=((a.2.1:Int).toNat:Int):=(Od j0).symm
       refine⟨(a.1:Int).toNat,(a.2.1:Int).toNat,_,_,a.2.2.1.map fun (n:Int)=>D8 n.toNat,a.2.2.2.1.map fun (n:Int)=>D8 n.toNat,by rw[← ei,← ej],⟨by rw[Fb.zs_of b1];exact hs,by rw[Fb.zs_of b2];exact hs2,by rw[AF];omega,by rw[AF];omega,.inl (hO (365,361) (by simp)),.inl (hO (218,214) (by simp))⟩,fun H' r hr=>?_⟩
       show L2.Dw K H' (.ref r) (.list ((YA a.1 a.2.1 a.2.2.1 a.2.2.2.1).map WData.int))
       rw[Fb.doubts_due i0 j0 b1 b2]
       exact .lst (L2.SqL.of hr) (L2.dw_ints _)
