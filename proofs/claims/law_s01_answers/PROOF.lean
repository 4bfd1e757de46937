import PyProof.Rows.All
import Wide.All
import OpenK.AllK
import Wide.FinOn
import PyProof.EqAt
import PyProof.EqKinds
import PyProof.TupleCall
import KE.BitLaws
import Open.SpecLaws
import KE.OsGo
import KE.KDictSum
import PyProof.Rows.SortShellAny
import PyFlatLaws
import PySem.Challenge.RW_manywriters_s01_answers
set_option Elab.async false
set_option linter.all false
set_option maxRecDepth 100000
set_option maxHeartbeats 4000000
set_option compiler.extract_closed false
abbrev LS:=List PySem.Str
abbrev PL:=List (PySem.Addr×PySem.Obj)
abbrev VS:=PySem.Value->PySem.Shared->Prop
abbrev SV:=PySem.Str->Option PySem.Value
local macro_rules|`(tactic|fin2)=>`(tactic|dsimp only)
theorem Z.{u}{α:Sort u}{a:α}:a=a:=rfl
theorem cpsG{c:Prop}(f:∀G:Prop,(c->G)->G):c:=f c id
local macro_rules|`(tactic|obtain $p:rcasesPatMed := $t:term)=>do
 let n:=(p.raw.reprint.getD "").foldl (fun n c=>if c==',' then n+1 else n) 0
 if n<2 then Lean.Macro.throwUnsupported
 `(tactic|(refine cpsG fun G k=>?_;(rcases $t:term with $p:rcasesPatMed)<;>(refine k ?_;clear k G)))
local macro_rules|`(tactic|omega)=>`(tactic|first|assumption|exact Nat.le_refl _|(refine Nat.le_trans (m:=?m) ?a ?b;(case b=>assumption);(case a=>decide))|exact Nat.le_of_lt (by assumption)|exact Nat.lt_of_lt_of_le (by assumption) (by assumption)|exact Nat.le_trans (by assumption) (by assumption)|lia|omega (splitNatSub:=true))
local macro_rules|`(tactic|lk)=>do
 let x:=#[`la,`A,`bC,`s,`H,`vs,`Q,`E,`hr,`h].map Lean.mkIdent
 `(tactic|intro $x*)
noncomputable section
abbrev ah.{u}:=@if_neg.{u}
abbrev ak.{u}:=@if_pos.{u}
abbrev ay:=@decide_eq_false
abbrev aA.{u,v}:=@congrArg.{u,v}
abbrev aD:=@decide_eq_true
open Array renaming length_toList→eJ,toList→YC
open Bool renaming and_eq_true→bu,and_eq_true_iff→EJ,eq_false_iff→ia,eq_iff_iff→dI,false_and→vf,false_ne_true→bc,noConfusion→aK,or_false→nL,true_and→Yd
open Except renaming ok→xr
open False renaming elim→gM
open ForInStep renaming yield→xn
open Int renaming ofNat→fG,toNat_natCast→mi
open List renaming all_cons→HF,all_eq_true→fU,any_cons→dD,any_eq_false→wg,any_eq_true→gS,any_nil→LD,append_assoc→dJ,append_nil→cJ,cons_append→cw,dropLast_concat_getLast→lh,dropWhile_cons→nA,drop_eq_getElem_cons→dY,drop_eq_nil_of_le→fW,drop_left→EK,drop_length→ko,drop_zero→ib,filterMap_cons→Ht,filterMap_cons_none→Yf,filterMap_cons_some→Yg,filter_cons_of_neg→oE,filter_cons_of_pos→oF,filter_map→QQ,find?_cons→cT,find?_eq_none→vg,find?_some→lj,flatMap_append→ka,flatMap_cons→dM,flatMap_nil→OY,foldl_cons→nM,getElem?_append_left→v9,getElem?_append_right→UW,getElem?_cons_succ→YE,getElem?_eq_getElem→xo,getElem?_eq_some_iff→aW,getElem?_map→hZ,getElem?_replicate→YD,getElem?_set_ne→sy,getElem?_set_self→pL,getLast?_append→EL,getLast?_concat→mG,isPrefixOf_iff_prefix→UX,length→oC,length_append→aX,length_cons→bg,length_drop→fV,length_eq_zero_iff→eR,length_filter_le→iB,length_map→aZ,length_nil→t9,length_take→gR,lookup→oB,lookup_cons→dH,map_append→cg,map_congr_left→kb,map_cons→aY,map_map→eM,map_take→xq,mem_append→cz,mem_append_left→mF,mem_append_right→fq,mem_cons→aU,mem_cons_of_mem→aG,mem_cons_self→aM,mem_filter→QO,mem_filterMap→Jh,mem_map→bE,mem_map_of_mem→Hu,mem_of_find?_eq_some→f9,mem_of_getElem?→bj,mem_of_mem_take→EM,mem_range→UU,mem_singleton→cn,nil_append→gL,nodup_append→pM,nodup_cons→t8,of_mem_zip→QP,pairwise_cons→kR,pairwise_iff_getElem→Vk,pairwise_map→LF,pairwise_singleton→yq,prefix_iff_eq_take→YF,size_toArray→bX,takeWhile_append_dropWhile→j6,takeWhile_cons→nu,take_append_drop→BS,take_length→gT,take_of_length_le→A6,take_succ_cons→gx,take_zero→kr,zipWith→A7,zipWith_cons_cons→pN,zip_cons_cons→jo
open List.Pairwise renaming map→UY
open List.cons renaming inj→BR
open Nat renaming add_assoc→x9,add_comm→Bz,le_add_right→O9,le_mul_of_pos_right→yw,le_of_eq→Mc,le_of_lt→fZ,le_of_succ_le→xm,le_refl→aC,le_succ→mH,le_trans→cc,lt_irrefl→eW,lt_of_le_of_lt→vi,lt_of_lt_of_le→cb,lt_succ_of_lt→Md,lt_succ_self→bT,min_eq_left→lz,ne_of_lt→dU,not_lt_zero→de,one_le_pow→Vj,succ_le_succ→Pa,zero_add→k9,zero_le→bB
open Ne renaming symm→eQ
open NeutralIO renaming bytes→mR
open Option renaming isSome_iff_exists→v8,isSome_map→oO,map_eq_some_iff→Ye,map_some→eK
open Option.some renaming inj→af
open Prod renaming fst→bU,snd→bo
open PyFlat renaming played→wa,told→BW
open PyProof.Rows renaming AllBare→EH,Constant_none→Zdi,IntsAre→lT,callWith_type1→qQ,envOfC→nj,subscriptTail→Zdj
open PySem renaming Addr→ao,Around→cD,BindsTo→Yx,CmpOp→L8,Code→Z2,DictEntry→Zdx,FuncData→eL,Heap→bb,NameKind→fT,Params→Jf,PassesOwn→iw,Program→aV,PyData→bJ,Scope→mf,Shared→aB,Stmt→cy,Value→aj,Within→YB,World→bG,assignEach→OX,atKey→Z5,attributeBase→L9,backTo→km,backToKw→Jg,behindInMarks→oM,binaryOp→QL,bindArgs→BQ,bindC→Zdz,bindL→Zdy,bootBuiltins→EG,boot_len→Su,builtinsNs→OW,cLine→oN,callWith→Z4,callerA→YA,cellsFrom→gw,codeAny→QM,codeAny_builtin→oY,codeAny_mono→QN,compEnvC→nk,compareOp→di,eval→jb,foldedSetIterable→yu,getItem→Yy,getMethod→KW,keywordEach→ug,letOwnedTupleGo→ET,mainGlobals→d9,mem_of_lookup→cE,model→b7,noFill_tuple_add→UT,notedBy→Yz,plainId_quiet→uc,pushCells→we,pushCells_keeps→EU,rawInt→Z3,richCompare_meets_room→EI,seq_tuple_add→Zdk,sizeLine_eq→Vf,sliceBounds→uh,starEach→bY,subscripted→Vg,swapsWith→BP,sysModules→jG,treeTable→ml,tupleKind→US,tupleKind_room_in1→xk,valueAt→KY,wpAny→bZ,wpAny_Call_Name_kw→pK,wpAny_bind→bA,wpAny_execs_nil→ve,wpAny_mono→iP,wpAny_passesOwn→mh,wpAny_pure→dG,wpAny_truthy_bool→ir
open PySem.AutoSeq1 renaming wpAny_loadPart'→aT
open PySem.F renaming args_tuple_add_2→vj,entry_tuple_add→wk,excBase_Exception→uI,plainAttrs_list→b9,slot_dict_pop→Yi,slot_list_append→cA,slot_list_extend→Sv,slot_tuple_add→ya,type_list_append→cB,type_list_extend→Sw
open PySem.W renaming Codec→Zvm,Frag→ae,OpenSpec→Zvp,ReadsAllW→Zde,ReadsW→Hy,WData→jn,Well→Zst,WellAll→DM,callWith_K→ud,cellsFrom_some→Vi,codeIn→By,emptyDict→gY,findIn→gy,fnOf→gB,hasDictIn→HE,hideAll_get→DP,instObj→jB,isFn→Vh,keepIn→j5,kia_one→gA,kitOne→lV,length_le_weightAllW→Me,lookIn→Bx,methodCall_KW→Yh,methodObj→HD,mg_of→Ss,plainGet→wj,plainGet_of→DQ,takerIn→Mb
open PyVacolq renaming answers→Jj,answers_asked→xt,calls→OZ,whole→ub
open Sum renaming inl→aQ,inr→Ma
open True renaming intro→j0
open Vacola renaming Column→Zvh,Fault→wd,Fields→Zvn,Head→cH,Leaf→cN,Lit→gK,Mode→eS,atPath→yt,closeSign→bP,columns→oK,columnsFields→tZ,columnsKind→yp,decimal→Zsv,decimalInt→L7,digitRun→ip,digitsBefore→Zdv,faultAt→gQ,fits→DN,goodName→bF,hexOf→i9,hexSign→Zld,isDigit→aJ,isLow→iA,joinDots→Yw,keyOf→fF,leavesFields→bR,leavesKind→gz,modeOf→lu,nameSign→ax,numberRun→eF,openSign→Zvk,pathOf→uH,plain→Zvr,plain→eI,rangeOf→Zsw,readDefault→j3,readFields→ly,readLeaf→HA,readLit→fO,readMode→Hz,readName→O6,readNumber→DO,readQuoted→bH,readSchema→gU,showByte→Yv,showLit→Zvj,showMode→c9,showStr→Zsu,sized→Zdf,splitDots→fM,worth→cS
open Vacola.Fields renaming byName→oG,byNumber→Mf
open Vacola.Kind renaming group→ua,leaf→iU
open Vacolb renaming Entry→HB,Val→dh,entryName→Jd,expect→Sr,firstEntry→Yu,joinWith→HC,keyLit→hW,keyRises→iH,litLess→jl,nextEntry→Zdg,readLeafVal→UR,readOccurrences→lU,readRow→vh,readSlots→vY,readTaken→vZ,readVal→tY,showRow→nG,showSlots→jZ,showVal→O7,textLess→fP
open Vacoli renaming Cond→Bw,Conds→Zdh,DEEP→Mg,Op→Zvo,atomHolds→ZlD,columnNamed→pH,holds→pJ,holdsAll→Zgu,holdsAny→Zgv,itemsAt→Je,itemsOf→Zdw,readAtom→O8,readCond→qS,readCondition→ij,readConds→pI,readLiteral→j4,readTest→Zgt,testHolds→Zvi
open Vacolq renaming DEEDS→Ji,Deed→m6,Reply→ja,Rows→Zvq,Session→fH,State→jH,baseRows→kS,carry→Yj,commits→BV,deed→iI,does→Mh,firstUnlike→iC,get→kF,has→fm,looseOk→BU,nowRows→cW,outcome→QS,perform→iQ,puts→Mi,remove→jM,rowOf→Yk,run→Zvs,sessionAt→bM,set→kH,stepHeld→dE,strictOk→yx,textAt→gZ,view→rk,withSession→Hv,written→QR
open VacolqNeutral renaming asked1→kL,encode→jh,natural→kc,start→lA,step→hX,text→jP
set_option maxHeartbeats 4000000
namespace Hd
open PySem PySem.W PyProof.Rows
open PySem.Challenge renaming pw_manywriters_s01_answers->pW,rw_manywriters_s01_answers->rW
open PySem.W.Fast renaming tw10110043849684766642->rT,te10110043849684766642->qT,tw14364793385576792824->tT,te14364793385576792824->eT,tw12563942051412417395->tE,te12563942051412417395->eE,tw15667345088766844465->tG,te15667345088766844465->eG,tw11892475500146522536->tD,te11892475500146522536->eD
noncomputable def q:aV:={pW with main:={pW.main with body:=pW.main.body.drop 162}}
abbrev A:Option aj:=some (.ref 6)
noncomputable abbrev B:=behindTheImports pW
noncomputable def ev:Env:={scope:=pW.main.scope,locals:=mainNs,globals:=mainNs,cells:=[],code:= .ref 13,frame:=some 14}
noncomputable abbrev C:=Z2.body B ev
abbrev Z:Pos:=⟨0,0,0,0⟩
abbrev F:=[topFrame Z]
noncomputable def T4(P:Jf):BT:=([boot_o_0 P,boot_o_1 P,boot_o_2 P,boot_o_3 P,boot_o_4 P,boot_o_5 P,boot_o_6 P,boot_o_7 P,boot_o_8 P,boot_o_9 P,boot_o_10 P,{cls:= .type "tuple",data:= .seq #[]},{cls:= .none,data:= .fields #[]},{cls:= .type "code",data:= .fields #[.str "<module>" 182,.str "<module>" 183,.str "/claim/cut.py" 184,.int 1 0,.int 0 0,.int 0 0,.int 0 0,.int 0 0,.ref 11,.bool false,.int 181 0,.ref 12,.none,.none,.none,.none,.int 185 0,.int 1 0,.str "/claim/cut.py" 186]},{cls:= .type "frame",slots:=#[some (.ref 13),some (.ref 3),some (.ref 3),none,some (.str "__main__" 164),none,some (.ref 0)]}].foldl (fun(x:BT×Nat) o=> (x.1.ins x.2 o,x.2+1)) (.nil,0)).1
noncomputable abbrev U(w:bG):=boot_heap w.params
noncomputable abbrev s4(w:bG)(o:OsState):SharedT:=⟨T4 w.params,15,{},#[],{},187,o⟩
variable (w:bG) (o:OsState)
theorem a1:segRun ml pW w 11 A 1 1 (s4 w o).abs (blockOf B ev C Z F)=some (.next,(s4 w o).abs,C,Z):=by kernel_rfl
theorem a3:tG tT pW w 11 A 12 ⟨U w,#[],boot_drawn,boot_toks,o⟩ (topStub pW)=some ((s4 w o).abs,⟨tD tT C,C,Z,F⟩):=by kernel_rfl
noncomputable def E:Option (Flow×SharedT×Z2×Pos):=rT tT pW w 11 A 1 6800 (s4 w o) ⟨(tE B ev).wrap doneF deadEnd id id,C,Z,F⟩
noncomputable def T:BT:=match E w o with|some (_,s,_)=>s.tree|none=> .nil
noncomputable abbrev h:bb:=absHeap (T w o) 894 {}
noncomputable abbrev s:aB:=⟨h w o,#[],{},1573,o⟩
noncomputable def L:List Str:=startupNames++(pW.main.scope.names.filterMap fun x=>match x with|(n,.local)=>some n|_=>none).drop 1
abbrev M:=importedModules pW.main.body
theorem e1:E w o=some (.next,⟨T w o,894,{},#[],{},1573,o⟩,C,⟨706,0,713,19⟩)/\(h w o).nsKeys d9=L/\seen ((recsOf q).map (·.name)) (ownsOf q) [] {s w o with gens:=#[]}=expectedOf q/\(h w o).bltView=bltViewBooted/\tabsOk q (s w o)=true/\((h w o).accountedOkI M&&(h w o).isNs d9&&(h w o).isNs OW&&tablesOk q (h w o))=true/\staticsOk M (U w) (h w o)=true/\laidKept (U w) (h w o)=true/\∀l,(pinSeenD q (drecsOf q) (s w o),plainSeenE q (looseW q l) (s w o),plainSeenD q l (s w o),wideSeen q (s w o),clsSeenW q l (s w o))=(pinGoodD (drecsOf q),plainGoodE q (looseW q l),plainGoodD q l,wideGood q,clsGoodW q l):=⟨by kernel_rfl,by kernel_rfl,by kernel_rfl,by kernel_rfl,by kernel_rfl,by kernel_rfl,by kernel_rfl,by kernel_rfl,fun l=>by kernel_rfl⟩
theorem nb:(L.all fun k=>startupNames.contains k||pW.boundNames.contains k)=true:=by kernel_rfl
theorem a2(p:bb):topRun ml pW w 11 A 2 ⟨p,#[],{},1573,o⟩ (restOf [] ev C ⟨706,0,713,19⟩ F)=some ⟨p,#[],{},1573,o⟩:=by kernel_rfl
theorem a4:topGo ml pW w 11 A 12 ⟨U w,#[],boot_drawn,boot_toks,o⟩ (topStub pW)=some ((s4 w o).abs,⟨denote ml C,C,Z,F⟩):=by rw[eG,eT,eD];exact a3 w o
theorem a5:segRunT ml pW w 11 A 1 6800 (s4 w o) (piecesOf B ev C Z F)=some (.next,⟨T w o,894,{},#[],{},1573,o⟩,C,⟨706,0,713,19⟩):=by unfold piecesOf;rw[qT,eT,eE];exact(e1 w o).1
theorem a6:topRun ml pW w 11 A (12+(1+(6800+2))) ⟨U w,#[],boot_drawn,boot_toks,o⟩ (topStub pW)=some (s w o):=go_top (a4 w o) (piece_block (a1 w o) (Eq.mp (aA (fun l=>topRun ml pW w 11 A (6800+2) (s4 w o).abs (restOf l ev C Z F)=some (s w o)) (cJ B)) (piece_app (segRun_of (a5 w o)) (a2 w o (h w o)))))
theorem b1:((U w).isNs d9&&(#[]:Array GenState).size==0,(U w).objs.size,(U w).nsMap d9 "__annotations__")=(true,11,A):=by kernel_rfl
theorem b2{p:bb}(i:p.isNs d9=true)(k:p.nsKeys d9=L):namesBound pW p=true:=by unfold namesBound;rw[i,k,Yd];exact nb
theorem b3{s:aB}(k:s.heap.nsKeys d9=L)(b4:seen ((recsOf q).map (·.name)) (ownsOf q) [] {s with gens:=#[]}=expectedOf q)(b5:s.heap.bltView=bltViewBooted)(b6:tabsOk q s=true) (a:(s.heap.accountedOkI M&&s.heap.isNs d9&&s.heap.isNs OW&&tablesOk q s.heap)=true)(g:(s.gens.size==0)=true) (c1:∀l,(pinSeenD q (drecsOf q) s,plainSeenE q (looseW q l) s,plainSeenD q l s,wideSeen q s,clsSeenW q l s)=(pinGoodD (drecsOf q),plainGoodE q (looseW q l),plainGoodD q l,wideGood q,clsGoodW q l)):openSeen q L M (fun _=>true) true s=openGood q L:=by
 simp only[bu]at a;obtain⟨⟨⟨a1,a2⟩,a3⟩,a4⟩:=a;have k:s.heap.keysOk (looseW q L) ((recsOf q).map (·.name)) ((litsOf q).map (·.1)) ((clssOf q (looseW q L)).map (·.name))=true:=by unfold bb.keysOk;rw[k];refine fU.mpr fun x y=>?_;have z:(looseW q L).contains x=true:=List.contains_iff_mem.mpr (by unfold looseW looseD heldW;simp only[cz];exact .inl (.inl (.inl y)));simp only[z,Bool.or_true,Bool.true_or]
 have c:=c1 L;simp only[Prod.mk.injEq]at c;obtain⟨o1,o2,o3,o4,o5⟩:=c;unfold openSeen openGood;dsimp only;refine looks_pair b4 (looks_pair b5 (looks_pair ?_ (looks_pair b6 (looks_pair o1 (looks_pair o2 (looks_pair o3 (looks_pair o4 o5)))))));rw[k,a1,a2,a3,a4,ak rfl,g];rfl
theorem tf{p:bb}{n:Nat}(hn:n+6719=13534)(r:topRun ml pW w 11 A n ⟨U w,#[],boot_drawn,boot_toks,o⟩ (topStub pW)=some ⟨p,#[],{},1573,o⟩)(c1:staticsOk M (U w) p=true)(c:namesBound pW p=true)(c2:laidKept (U w) p=true):topFrom ml pW w 13534 ⟨U w,#[],boot_drawn,boot_toks,o⟩=some ⟨p,#[],{},1573,o⟩:=by
 obtain⟨z1,z2,z3⟩:_/\_/\_:=by simpa only[Prod.mk.injEq]using b1 w
 have r:=topRun_mono 6719 _ _ _ _ r;rw[hn]at r;unfold topFrom;dsimp only;rw[z1,z2,z3,r];show(match staticsOk M (U w) p&&namesBound pW p&&gensDone ⟨p,#[],{},1573,o⟩&&laidKept (U w) p with|true=>_|false=>_)=_;rw[c1,c,c2];rfl
theorem op:∃o,fencedOpening ml pW w 13534=some ⟨U w,#[],boot_drawn,boot_toks,o⟩:=by
 obtain⟨⟨p,gs,d,k,o⟩,e,f⟩:=Ye.mp (boot_open (p:=pW) (N:=13534) (by kernel_rfl) (by decide) (fun s=>by kernel_rfl) w);obtain⟨rfl,rfl,rfl,rfl⟩:p=U w/\gs=#[]/\d=boot_drawn/\k=boot_toks:=by simpa using f
 exact⟨o,e⟩
theorem b4:∃o,openEnds ml pW w 13534=some (s w o):=by obtain⟨o,e⟩:=op w;obtain⟨_,k,_,_,_,a,c1,c2,_⟩:=e1 w o;simp only[bu]at a;refine⟨o,?_⟩;unfold openEnds;rw[e,Option.bind_some];exact tf w o rfl (a6 w o) c1 (b2 a.1.1.2 k) c2
noncomputable def Y(w:bG):bb:=((openEnds ml pW w 13534).map (·.heap)).getD ⟨#[],{}⟩
theorem b5:LeftO pW q L (fun _=>true) (·.heap) Y 13534:=fun w=>by obtain⟨o,e⟩:=b4 w;unfold Y;rw[e];obtain⟨_,k,b4,b5,b6,a,_,_,c1⟩:=e1 w o;exact aA some (looks_pair (b3 k b4 b5 b6 a rfl c1) rfl)
theorem ZdA{g:ao->Option Obj}:∀(l:List ao)(a:ao)(x:Obj),(l.filterMap fun a=> (g a).map fun x=> (a,x)).lookup a=some x->g a=some x
 |[],_,_,e=>by cases e
 |b::l,a,x,e=>by
  cases q:g b with
  |none=>rw[Yf (by rw[q];rfl)]at e;exact ZdA l a x e
  |some y=>
   rw[Yg (by rw[q];rfl),dH]at e;split at e
   ·rename_i z;cases e;rw[beq_iff_eq.mp z];exact q
   ·exact ZdA l a x e
noncomputable def ks:List ao:=3::2::([(15,17),(44,2),(47,4),(58,2),(65,2),(72,2),(79,2),(89,3),(106,2),(113,2),(120,2),(127,2),(134,2),(141,2),(148,2),(155,2),(158,4),(176,2),(183,2),(186,4),(197,2),(204,2),(211,2),(218,2),(225,2),(232,2),(239,2),(246,2),(253,2),(267,2),(270,4),(288,2),(291,4),(309,2),(312,4),(330,2),(333,4),(344,2),(351,2),(358,2),(365,2),(372,2),(379,2),(386,2),(393,2),(407,2),(410,4),(421,2),(428,2),(435,2),(442,2),(449,2),(454,2),(461,2),(475,2),(478,4),(496,2),(499,4),(510,2),(517,2),(524,2),(531,2),(538,2),(545,2),(552,2),(559,2),(566,2),(573,2),(580,2),(594,2),(597,4),(608,2),(615,2),(620,2),(627,2),(634,2),(648,2),(651,4),(662,2),(669,2),(676,2),(683,2),(690,2),(697,2),(704,2),(711,2),(716,2),(730,2),(737,2),(740,4),(758,2),(765,2),(772,2),(779,2),(782,4),(793,2),(800,2),(807,2),(814,2),(821,2),(828,2),(835,2),(842,2),(849,2),(856,2),(863,2),(870,2),(877,3),(885,2),(892,2)]:List (Nat×Nat)).flatMap fun x=> (List.range x.2).map (x.1+·)
noncomputable def K2:Frag:=ks.filterMap fun a=> (((T w o).get a).bind alive).map fun x=> (a,x)
theorem c3k:(K2 w o).In (h w o):=fun a x e=>by
 have q:=ZdA (g:=fun a=> ((T w o).get a).bind alive) ks a x e;cases z:(T w o).get a with
 |none=>rw[z]at q;cases q
 |some y=>
  rw[z]at q;have l:a<894:=by
   have m:a∈ks:=by
    have:∀(l:List ao),((l.filterMap fun a=> (((T w o).get a).bind alive).map fun x=> (a,x)).lookup a).isSome=true->a∈l:=fun l=>by
     induction l with
     |nil=>intro e;cases e
     |cons b l ih=>
      intro e;cases qb:(((T w o).get b).bind alive)with
      |none=>rw[Yf (by rw[qb];rfl)]at e;exact .tail _ (ih e)
      |some y=>
       rw[Yg (by rw[qb];rfl),dH]at e;split at e
       ·rename_i z;rw[beq_iff_eq.mp z];exact .head _
       ·exact .tail _ (ih e)
    exact this ks (by rw[show(ks.filterMap _).lookup a=some x from e];rfl)
   exact(show∀a∈ks,a<894 by decide +kernel) a m
  rw[abs_get l z];exact q
theorem c6:rW.wellSaid=true:=by decide +kernel
theorem c7:(chainsOk q&&opensWell rW.prog)=true:=by decide +kernel
noncomputable def d:DefRec:=((defOf q rW.name).get (by kernel_rfl)).1
theorem d1:defOf q rW.name=some (d,[]):=by kernel_rfl
theorem d2:rW.prog.theDef rW.name=some (d.params,d.body,d.scope):=by kernel_rfl
theorem d3:kwWritten? d.params.kwonlyargs d.params.kw_defaults=some []:=by kernel_rfl
theorem d4:d.name="answers":=by kernel_rfl
theorem d5:d.params.defaults=[]:=by kernel_rfl
theorem d6:∃a,rW.pre a=true/\jn.layableAll a=true:=⟨[.list [.int 12]],by decide +kernel,by decide +kernel⟩
theorem d7:rW.prog.bare:=⟨rfl,rfl,rfl,rfl,rfl,by decide +kernel⟩
theorem d8(x:WalkOS q L (fun _ _=>True) (fun w p=> ∃o,(K2 w o).In p) rW d [] fun f v=>PySem.call f v):rW.Holds:=holds_os (XP:=fun _ _=>True) b5 (fun w s e=>by obtain⟨o,f⟩:=b4 w;unfold Y at e;rw[f]at e;exact⟨o,by rw[e];exact c3k w o⟩) (fun w h k ⟨o,x⟩ f=> ⟨o,x.keeps f⟩) (fun _ _=>trivial) (fun _ _ _ _ _=>trivial) d1 d2 d3 (fun _ _=>recFacts_nil rfl) os_shapes c6 c7 d7 d6 x
end Hd
namespace L2
open PySem PySem.Spec PyProof.Rows
noncomputable abbrev i5:=Sum Int Str
def QT:i5->aj->Bool
 | .inl k,v=>aj.isInt k v
 | .inr x,v=>aj.isStrOf x v
def ZoW(w:bG):i5->Int
 | .inl k=>hashInt k
 | .inr x=>hashStr w x
theorem jt:∀{k:i5}{v:aj},QT k v=true->(∃i t,k=aQ i/\v=aj.int i t)\/(∃x t,k=Ma x/\v=aj.str x t)
 | .inl i,v,h=>by obtain⟨t,e⟩:=aj.isInt_shape (k:=i) (v:=v) h;exact .inl ⟨i,t,Z,e⟩
 | .inr x,v,h=>by obtain⟨t,e⟩:=aj.isStrOf_shape (x:=x) (v:=v) h;exact .inr ⟨x,t,Z,e⟩
theorem Zbn(i:Int)(t:Tok):QT (.inl i) (.int i t)=true:=by simp[QT,aj.isInt]
theorem Zbo(x:Str)(t:Tok):QT (.inr x) (.str x t)=true:=by simp[QT,aj.isStrOf]
theorem Zi7(a b:Int):decide ((aQ a:i5)=aQ b)=(a==b):=by
 by_cases e:a=b
 ·subst e;simp
 ·have h:¬(aQ a:i5)=aQ b:=fun q=>e (aQ.inj q);rw[ay h];exact(beq_eq_false_iff_ne.mpr e).symm
theorem Zi8(a b:Str):decide ((Ma a:i5)=Ma b)=decide (a=b):=by
 by_cases e:a=b
 ·subst e;simp
 ·have h:¬(Ma a:i5)=Ma b:=fun q=>e (Ma.inj q);rw[ay h,ay e]
theorem Zi9(a:Int)(b:Str):decide ((aQ a:i5)=Ma b)=false:=ay (fun q=>nomatch q)
theorem Zja(a:Str)(b:Int):decide ((Ma a:i5)=aQ b)=false:=ay (fun q=>nomatch q)
def jN(prog:aV)(w:bG):PySem.KeyKind prog w i5 where
 is:=QT;hash:=ZoW w;inj:=fun v a b ha hb=>by
  rcases jt ha with⟨i,t,rfl,rfl⟩|⟨x,t,rfl,rfl⟩
  ·rcases jt hb with⟨j,u,rfl,e⟩|⟨y,u,rfl,e⟩
   ·injection e with e1 _;rw[e1]
   ·exact nomatch e
  ·rcases jt hb with⟨j,u,rfl,e⟩|⟨y,u,rfl,e⟩
   ·exact nomatch e
   ·injection e with e1 _;rw[e1]
 byValue:=fun k v h=>by rcases jt h with⟨i,t,rfl,rfl⟩|⟨x,t,rfl,rfl⟩<;>rfl
 pyHash:=fun hv h=>by
  rcases jt hv with⟨i,t,rfl,rfl⟩|⟨x,t,rfl,rfl⟩
  ·exact wpAny_pyHash_int h
  ·exact wpAny_pyHash_str h
 eqBool:=fun hu hv h=>by
  rcases jt hu with⟨i,t,rfl,rfl⟩|⟨x,t,rfl,rfl⟩
  ·rcases jt hv with⟨j,u,rfl,rfl⟩|⟨y,u,rfl,rfl⟩
   ·rw[Zi7]at h;exact wpAny_eqBool_int h
   ·rw[Zi9]at h;exact SeqAt.EqAt.int_str i t y u _ _ _ _ h
  ·rcases jt hv with⟨j,u,rfl,rfl⟩|⟨y,u,rfl,rfl⟩
   ·rw[Zja]at h;exact SeqAt.EqAt.str_int x t j u _ _ _ _ h
   ·rw[Zi8]at h;exact wpAny_eqBool_str h
 «strs»:=fun k x t v h=>by
  rcases jt h with⟨i,u,rfl,e⟩|⟨y,u,rfl,e⟩
  ·exact nomatch e
  ·injection e with e1 _;subst e1;cases v<;>rfl
theorem Vl(prog:aV)(w:bG)(i:Int)(t:Tok):(jN prog w).is (.inl i) (.int i t)=true:=Zbn i t
theorem Vm(prog:aV)(w:bG)(x:Str)(t:Tok):(jN prog w).is (.inr x) (.str x t)=true:=Zbo x t
inductive V where
 |ik|bl (b:Bool)|int (i:Int)|str (x:Str)|VI (b:Array UInt8)|flt (b:UInt64)|ref (a:ao)|ty (n:String)
 deriving DecidableEq
noncomputable def gg:V->aj->Prop
 | .ik,u=>u=aj.none
 | .bl b,u=>u=aj.bool b
 | .int i,u=> ∃t,u=aj.int i t
 | .str x,u=> ∃t,u=aj.str x t
 | .VI b,u=> ∃t,u=aj.bytes b t
 | .flt b,u=> ∃t,u=aj.float b t
 | .ref a,u=>u=aj.ref a
 | .ty n,u=>u=aj.type n
abbrev fA:List V->List aj->Prop:=Paired gg
theorem fA.length{xs:List V}{us:List aj}(r:fA xs us):xs.length=us.length:=Paired.length r
theorem fA.get:∀{xs:List V}{us:List aj}{i:Nat}{x:V},fA xs us->xs[i]? =some x->∃u,us[i]? =some u/\gg x u
 |_,_,_,_,.nil,e=>by simp at e
 |_,_,0,_,.cons r _,e=>by simp at e;subst e;exact⟨_,Z,r⟩
 |_,_,i+1,x,.cons _ t,e=>by obtain⟨u,h1,h2⟩:=fA.get (i:=i) (x:=x) t (by simpa using e);exact⟨u,by simpa using h1,h2⟩
theorem fA.append:∀{xs ys:List V}{us ws:List aj},fA xs us->fA ys ws->fA (xs++ys) (us++ws)
 |_,_,_,_,.nil,s=>s
 |_,_,_,_,.cons r t,s=> .cons r (fA.append t s)
theorem fA.take:∀{xs:List V}{us:List aj}(n:Nat),fA xs us->fA (xs.take n) (us.take n)
 |_,_,0,_=> .nil
 |_,_,_+1,.nil=> .nil
 |_,_,n+1,.cons r t=> .cons r (fA.take n t)
theorem fA.drop:∀{xs:List V}{us:List aj}(n:Nat),fA xs us->fA (xs.drop n) (us.drop n)
 |_,_,0,r=>r
 |_,_,_+1,.nil=> .nil
 |_,_,n+1,.cons _ t=>fA.drop n t
def yz:Option V->Option aj->Prop
 |some v,some u=>gg v u
 |none,none=>True
 |_,_=>False
def KV{κ:Type}:List (κ×V)->List (κ×aj)->Prop:=Paired fun(p:κ×V)(q:κ×aj)=>p.1=q.1/\gg p.2 q.2
def kV:i5->V
 | .inl i=> .int i
 | .inr x=> .str x
inductive HO where
 |bz (xs:List V)
 |f6 (xs:List V)
 |dK (br:List (i5×V))|dT (br:List (List i5×V))
 |set (S:Int->Bool) (n:Nat)
 |ins (C dx:ao) (fs:List (Str×V))
 |own (x:ao)
 |xd (fs:List (Str×V))
 |met (f x:ao)
 |rng (lo hi:Int)
 |LI (o:Obj) (u:HO)
 |tbl (ps:Array aj)
 |ext (φ:bb->Prop)
noncomputable abbrev Hp:=ao->Option HO
def bp(H:Hp)(a:ao)(o:HO):Hp:=fun b=>if b=a then some o else H b
theorem au{H:Hp}{a:ao}{o:HO}:bp H a o a=some o:=by unfold bp;rw[ak Z]
theorem aF{H:Hp}{a b:ao}{o:HO}(h:b≠a):bp H a o b=H b:=by unfold bp;rw[ah h]
theorem fC{H:Hp}{a:ao}{o u:HO}:bp (bp H a o) a u=bp H a u:=by funext b;unfold bp;split<;>rfl
theorem vk{H:Hp}{a b:ao}{o u:HO}(h:H a=some o)(h':H b=some u)(d:o≠u):a≠b:=by intro e;subst e;rw[h]at h';exact d (af h')
theorem aR{H:Hp}{a b:ao}{o:HO}(h:H a=some o)(h':H b=none):a≠b:=by intro e;subst e;rw[h]at h';cases h'
section
variable (P:aV) (w:bG)
def iD(H:Hp)(h:bb)(a:ao):HO->Prop
 | .bz xs=>xs.length<=sizeLine/\∃(fc:List aj)(n:Nat),fA xs fc/\h.get? a=some {cls:= .type "list",data:= .seq fc.toArray n}
 | .f6 xs=>xs.length<=sizeLine/\∃fc:List aj,fA xs fc/\IsTup h a fc.toArray
 | .dK br=>br.length<=sizeLine/\(a==jG)=false/\∃vs,KV br vs/\h.DictOf (jN P w) a vs
 | .dT br=>br.length<=sizeLine/\(a==jG)=false/\∃xs:List (List i5×ao×aj),Paired (fun(p:List i5×V)(q:List i5×ao×aj)=>p.1=q.1/\H q.2.1=some (.f6 (p.1.map kV))/\gg p.2 q.2.2) br xs/\∃o es ep,h.get? a=some o/\o.ExactDict/\o.data= .dict es ep/\es.toList=xs.map (entryOfKey (US (jN P w)))/\(xs.map (·.1)).Nodup
 | .set S n=>h.SetOf (intKind P w) a S n
 | .ins C dx fs=>H dx=some (.own a)/\fs.length<=1000/\dx≠a/\h.get? a=some (jB C dx)/\∃mA,h.Ns1 dx mA/\(∀f,yz (fs.lookup f) (mA f))/\YB mA (fs.map (·.1))
 | .own _=> ∃o,h.get? a=some o
 | .xd fs=> ∃mA,h.Ns1 a mA/\∀f,yz (fs.lookup f) (mA f)
 | .rng lo hi=> ∃t u v,h.get? a=some {cls:= .type "range",data:= .fields #[.int lo t,.int hi u,.int 1 v]}
 | .LI o u=>h.get? a=some o/\iD H h a u
 | .tbl ps=>h.get? a=some {cls:= .none,data:= .fields ps}
 | .met f x=>h.get? a=some (HD (.ref f) (.ref x))
 | .ext φ=>φ h/\(∃o,h.get? a=some o)/\∀h1 h2:bb,φ h1->(∀o,h1.get? a=some o->h2.get? a=some o)->φ h2
def xu(H:Hp)(h:bb):Prop:=∀a o,H a=some o->iD P w H h a o
end
section
variable{P:aV}{w:bG}{H H':Hp}{h h':bb}{a:ao}{o:HO}
theorem iD.lt(x:iD P w H h a o):a<h.objs.size:=by
 cases o with
 |bz xs=>obtain⟨_,_,_,_,e⟩:=x;exact bb.lt_size e
 |f6 xs=>obtain⟨_,_,_,p⟩:=x;exact p.lt
 |dK br=>obtain⟨_,_,_,_,o,_,_,e,_⟩:=x;exact bb.lt_size e
 |dT br=>obtain⟨_,_,_,_,o,_,_,e,_⟩:=x;exact bb.lt_size e
 |set S n=>obtain⟨o,_,_,_,e,_⟩:=x;exact bb.lt_size e
 |ins C dx fs=>obtain⟨_,_,_,e,_⟩:=x;exact bb.lt_size e
 |own y=>obtain⟨_,e⟩:=x;exact bb.lt_size e
 |xd fs=>obtain⟨_,⟨_,_,_,e,_⟩,_⟩:=x;exact bb.lt_size e
 |rng lo hi=>obtain⟨_,_,_,e⟩:=x;exact bb.lt_size e
 |LI ob u=>obtain⟨e,_⟩:=x;exact bb.lt_size e
 |tbl ps=>exact bb.lt_size (show h.get? a=some _ from x)
 |met f y=>exact bb.lt_size (show h.get? a=some _ from x)
 |ext φ=>obtain⟨_,⟨_,e⟩,_⟩:=x;exact bb.lt_size e
theorem Paired.wm{α β:Type}{F G:α->β->Prop}:∀{l₁:List α}{l₂:List β},Paired F l₁ l₂->(∀a b,F a b->G a b)->Paired G l₁ l₂
 |_,_,.nil,_=> .nil
 |_,_,.cons r t,f=> .cons (f _ _ r) (Paired.wm t f)
theorem iD.YG(x:iD P w H h a o)(k:∀b u,(b=a\/H b=some (.own a))->h.get? b=some u->h'.get? b=some u) (ho:∀b,H b=some (.own a)->H' b=some (.own a))(ht:∀b xs,H b=some (.f6 xs)->H' b=some (.f6 xs)):iD P w H' h' a o:=by
 induction o with
 |bz xs=>obtain⟨z,fc,n,r,e⟩:=x;exact⟨z,fc,n,r,k _ _ (.inl Z) e⟩
 |f6 xs=>obtain⟨z,fc,r,ob,e,c⟩:=x;exact⟨z,fc,r,ob,k _ _ (.inl Z) e,c⟩
 |dK br=>obtain⟨z,y,vs,r,ob,es,ep,e,c⟩:=x;exact⟨z,y,vs,r,ob,es,ep,k _ _ (.inl Z) e,c⟩
 |dT br=>obtain⟨z,y,xs,r,ob,es,ep,e,c⟩:=x;exact⟨z,y,xs,Paired.wm r fun p q z=> ⟨z.1,ht _ _ z.2.1,z.2.2⟩,ob,es,ep,k _ _ (.inl Z) e,c⟩
 |set S n=>obtain⟨ob,es,ep,t,e,c⟩:=x;exact⟨ob,es,ep,t,k _ _ (.inl Z) e,c⟩
 |ins C dx fs=>obtain⟨d,z,ne,e,mA,⟨od,es,ep,e2,c⟩,r⟩:=x;exact⟨ho _ d,z,ne,k _ _ (.inl Z) e,mA,⟨od,es,ep,k _ _ (.inr d) e2,c⟩,r⟩
 |own y=>obtain⟨ob,e⟩:=x;exact⟨ob,k _ _ (.inl Z) e⟩
 |xd fs=>obtain⟨mA,⟨od,es,ep,e,c⟩,r⟩:=x;exact⟨mA,⟨od,es,ep,k _ _ (.inl Z) e,c⟩,r⟩
 |rng lo hi=>obtain⟨t,u,v,e⟩:=x;exact⟨t,u,v,k _ _ (.inl Z) e⟩
 |LI ob u ih=>obtain⟨e,q⟩:=x;exact⟨k _ _ (.inl Z) e,ih q⟩
 |tbl ps=>have e:h.get? a=some {cls:= .none,data:= .fields ps}:=x;show h'.get? a=some {cls:= .none,data:= .fields ps};exact k a _ (.inl Z) e
 |met f y=>have e:h.get? a=some (HD (.ref f) (.ref y)):=x;show h'.get? a=some (HD (.ref f) (.ref y));exact k a _ (.inl Z) e
 |ext φ=>obtain⟨p,⟨o,e⟩,st⟩:=x;exact⟨st _ _ p fun o q=>k _ _ (.inl Z) q,⟨o,k _ _ (.inl Z) e⟩,st⟩
theorem xu.lt(x:xu P w H h)(e:H a=some o):a<h.objs.size:=(x a o e).lt
theorem xu.gE(x:xu P w H h)(e:h.objs.size<=a):H a=none:=by
 cases q:H a with
 |none=>rfl
 |some u=>exact absurd (cb (x.lt q) e) (eW _)
theorem xu.mm(x:xu P w H h)(k:∀b u,h.get? b=some u->h'.get? b=some u):xu P w H h':=fun a o e=>
 (x a o e).YG (fun b u _ q=>k b u q) (fun _ q=>q) fun _ _ q=>q
theorem xu.dW(x:xu P w H h)(k:∀b u,h.get? b=some u->h'.get? b=some u)(hp:h.objs.size<=a)(new:iD P w (bp H a o) h' a o):xu P w (bp H a o) h':=fun b u e=>by
 have hn:=x.gE hp;by_cases hb:b=a
 ·subst hb;rw[au]at e;cases e;exact new
 ·rw[aF hb]at e;exact(x b u e).YG (fun c v _ q=>k c v q) (fun c q=>by rw[aF (aR q hn)];exact q) fun c xs q=>by rw[aF (aR q hn)];exact q
end
def Rd(H:Hp)(a:ao)(u:HO):Prop:=H a=some u\/∃o,H a=some (.LI o u)
theorem Rd.ok{P:aV}{w:bG}{H:Hp}{h:bb}{a:ao}{u:HO}(r:Rd H a u)(x:xu P w H h):iD P w H h a u:=by
 rcases r with r|⟨o,r⟩
 ·exact x a u r
 ·obtain⟨_,q⟩:=x a _ r;exact q
def Mut:Option HO->Prop
 |some (.bz _)=>True
 |some (.dK _)=>True
 |some (.dT _)=>True
 |some (.set _ _)=>True
 |some (.ins _ _ _)=>True
 |some (.ext _)=>True
 |_=>False
section
variable{P:aV}{w:bG}{H:Hp}{h h':bb}{x e:ao}{o':HO}
theorem xu.Jk(ok:xu P w H h)(mu:Mut (H x))(he:e=x\/H e=some (.own x))(k:∀b u,b≠e->h.get? b=some u->h'.get? b=some u)(heo:∃u,h'.get? e=some u) (new:iD P w (bp H x o') h' x o'):xu P w (bp H x o') h':=fun b u q=>by
 have Zm2:∀c y,H c=some (.own y)->c≠x:=fun c y r z=>by subst z;rw[r]at mu;exact mu
 have ZpQ:∀c xs,H c=some (.f6 xs)->c≠x:=fun c xs r z=>by subst z;rw[r]at mu;exact mu
 by_cases hb:b=x
 ·subst hb;rw[au]at q;cases q;exact new
 ·rw[aF hb]at q;by_cases hbe:b=e
  ·have q':H b=some (.own x):=by
    rcases he with z|z
    ·exact absurd (hbe.trans z) hb
    ·rw[hbe];exact z
   rw[q]at q';cases q';obtain⟨v,hv⟩:=heo;exact⟨v,by rw[hbe];exact hv⟩
  ·refine(ok b u q).YG (fun c v hc r=>k c v ?_ r) (fun c r=>by rw[aF (Zm2 c b r)];exact r) fun c xs r=>by rw[aF (ZpQ c xs r)];exact r
   rcases hc with rfl|hc
   ·exact hbe
   ·rintro rfl;rcases he with z|z
    ·exact Zm2 c b hc z
    ·rw[hc]at z;cases z;exact hb Z
end
structure Un(fs ex:List ao)(H H':Hp)(h h':bb):Prop where
 keep:∀b o,h.get? b=some o->H b=none->b∉fs->b∉ex->h'.get? b=some o
 E5:∀b o,h.get? b=some o->H b=none->b∈fs->b∉ex->∃sl,h'.get? b=some {o with slots:=sl}
 free:∀b o,h.get? b=some o->H b=none->b∉ex->H' b=none
 there:∀b o,h.get? b=some o->b∉ex->∃o',h'.get? b=some o'
 Pf:∀b xs,H b=some (.f6 xs)->H' b=some (.f6 xs)
 Mv:∀b o u,H b=some (.LI o u)->H' b=some (.LI o u)
 Pg:∀b ps,H b=some (.tbl ps)->∃more,H' b=some (.tbl (ps++more))
section
variable{fs fs' ex ex':List ao}{H H1 H2:Hp}{h h1 h2 h':bb}{a x e:ao}{o:HO}
theorem Un.any(u:Un fs ex H H1 h h1){b:ao}{ob:Obj}(q:h.get? b=some ob)(n:H b=none)(hx:b∉ex):∃sl,h1.get? b=some {ob with slots:=sl}:=by
 by_cases hb:b∈fs
 ·exact u.E5 b ob q n hb hx
 ·exact⟨ob.slots,u.keep b ob q n hb hx⟩
theorem Un.mm(k:∀b u,h.get? b=some u->h'.get? b=some u):Un fs ex H H h h':=⟨fun b ob q _ _ _=>k b ob q,fun b ob q _ _ _=> ⟨ob.slots,k b ob q⟩,fun _ _ _ n _=>n,fun b ob q _=> ⟨ob,k b ob q⟩,fun _ _ q=>q,fun _ _ _ q=>q,fun _ ps q=> ⟨#[],by rw[q];simp⟩⟩
theorem Un.refl:Un fs ex H H h h:=Un.mm fun _ _ q=>q
theorem Un.dW(k:∀b u,h.get? b=some u->h'.get? b=some u)(hp:h.objs.size<=a)(hn:H a=none):Un fs ex H (bp H a o) h h' where
 keep:=fun b u q _ _ _=>k b u q;E5:=fun b u q _ _ _=> ⟨u.slots,k b u q⟩;free:=fun b u q n _=>by rw[aF (dU (cb (bb.lt_size q) hp))];exact n
 there:=fun b u q _=> ⟨u,k b u q⟩;Pf:=fun b xs q=>by rw[aF (aR q hn)];exact q
 Mv:=fun b u xs q=>by rw[aF (aR q hn)];exact q
 Pg:=fun b ps q=> ⟨#[],by rw[aF (aR q hn),q];simp⟩
theorem Un.Jk(mu:Mut (H x))(he:e=x\/H e=some (.own x))(k:∀b u,b≠e->h.get? b=some u->h'.get? b=some u)(heo:∃u,h'.get? e=some u):Un fs ex H (bp H x o) h h':=by
 have hx:∀b,H b=none->b≠x:=fun b n z=>by subst z;rw[n]at mu;exact mu
 have hb:∀b,H b=none->b≠e:=fun b n z=>by
  subst z;rcases he with r|r
  ·exact hx b n r
  ·rw[n]at r;cases r
 have hm:∀b u,H b=some u->¬Mut (some u)->b≠x:=fun b u q nm z=>by subst z;rw[q]at mu;exact nm mu
 refine⟨fun b u q n _ _=>k b u (hb b n) q,fun b u q n _ _=> ⟨u.slots,k b u (hb b n) q⟩,fun b u q n _=>by rw[aF (hx b n)];exact n,fun b u q _=>?_,fun b xs q=>by rw[aF (hm b _ q fun z=>z)];exact q,fun b u xs q=>by rw[aF (hm b _ q fun z=>z)];exact q,fun b ps q=> ⟨#[],by rw[aF (hm b _ q fun z=>z),q];simp⟩⟩;by_cases hbe:b=e
 ·subst hbe;exact heo
 ·exact⟨u,k b u hbe q⟩
end
def Sx(h:bb)(H:Hp):List ao:=(List.range h.objs.size).filter fun a=> (H a).isSome
def Sy(h:bb)(H:Hp):bb:=PySem.W.hideAll h (Sx h H)
theorem Zbp(h:bb)(H:Hp):(Sy h H).objs.size=h.objs.size:=PySem.W.hideAll_size _ _
theorem ZdB{h:bb}{H:Hp}{b:ao}{o:Obj}(e:h.get? b=some o)(n:H b=none):(Sy h H).get? b=some o:=DP _ e fun hm=>by have q:(H b).isSome=true:=(QO.mp hm).2;rw[n]at q;simp at q
theorem Zgw{h:bb}{H:Hp}{b:ao}{o:Obj}(e:(Sy h H).get? b=some o):h.get? b=some o/\H b=none:=by
 have e':h.get? b=some o:=PySem.W.of_hideAll (Sx h H) e;refine⟨e',?_⟩;cases q:H b with
 |none=>rfl
 |some x=>have hm:b∈Sx h H:=QO.mpr ⟨UU.mpr (bb.lt_size e'),by simp[q]⟩;have z:(Sy h H).get? b=none:=PySem.W.hideAll_none (Sx h H) hm;rw[z]at e;cases e
structure Mod(K:ae)(mg:SV)(base:bb):Prop where
 kin:K.In base
 K3:base.Ns d9 mg
 blt:∃mb,base.Ns OW mb/\∀x:Str,x≠"__name__" ->mb x=EG x
 nolimit:base.NoLimit
structure Cx(K:ae)where
 prog:aV
 w:bG
 mg:SV
 base:bb
 A:cD
 N:LS
 O0:aB
 H_0:Hp
 bS:Env
 bC:List Env
 lB:List Env
 ex:List ao
 fn:Str->Bool
 Ph:Bool
 pn:PL
 xe:VS
noncomputable def Sz(l:List Env):List ao:=l.filterMap (·.frame)
abbrev Cx.fs{K:ae}(X:Cx K):List ao:=Sz X.bC
def Vis(sc:mf)(x:Str):Prop:=sc.names.lookup x=some .local\/sc.names.lookup x=some .cell\/sc.names.lookup x=some .free
def Loc(sc:mf)(x:Str):Prop:=sc.names.lookup x=some .local\/sc.names.lookup x=some .cell
def ZoX(bS:Env)(h:bb)(m:SV)(x:Str)(u:aj):Prop:=(bS.kindOf x=some .local/\m x=some u)\/((bS.kindOf x=some .cell\/bS.kindOf x=some .free)/\∃c,bS.cells.lookup x=some c/\h.IsCell c (some u))
structure Cx.Ok{K:ae}(X:Cx K):Prop where
 Mj:Mod K X.mg X.base
 kind:X.bS.scope.kind= .function
 K3:X.bS.globals=d9
 blt:X.bS.builtins=OW
 above:X.O0.heap.objs.size<=X.bS.locals
 inj:∀x y c,X.bS.cells.lookup x=some c->X.bS.cells.lookup y=some c->x=y
 has:∀x,(X.bS.kindOf x=some .cell\/X.bS.kindOf x=some .free)->∃c,X.bS.cells.lookup x=some c
 cab:∀x c,X.fn x=true->X.bS.cells.lookup x=some c->X.O0.heap.objs.size<=c
 hd:X.Ph=true->X.A.handled=none
 frames:X.A.frames=some X.lB
 stk:X.lB=X.bC\/(X.lB=X.bS::X.bC/\X.bS.frame=some X.bS.locals)
 exf:∀b∈X.ex,b≠X.bS.locals/\∀x c,X.bS.cells.lookup x=some c->c≠b
 bs:∀b o,X.base.get? b=some o->X.O0.heap.get? b=some o/\X.H_0 b=none
 bsz:X.base.objs.size<=X.O0.heap.objs.size
 VB:∀b o,X.base.get? b=some o->b∉X.ex
 VC:∀b∈X.ex,b∉X.fs
 wo:X.O0.heap.FunFrames X.base X.bC
 frf:∀b∈X.fs,X.H_0 b=none
structure cM{K:ae}(X:Cx K)(aw:PL)(σ:List (Option V))(H:Hp)(s:aB):Prop where
 ok:X.Ok
 os:s.os=X.O0.os
 bare:EH s.gens
 base:Un X.fs X.ex X.H_0 H X.O0.heap s.heap
 Q7:∃m,s.heap.Ns X.bS.locals m/\∀(i:Nat)(x:Str)(v:V),X.N[i]? =some x->σ[i]? =some (some v)->Vis X.bS.scope x->∃u,gg v u/\ZoX X.bS s.heap m x u
 cell:∀x c,X.bS.cells.lookup x=some c->∃v,s.heap.IsCell c v
 free:H X.bS.locals=none
 rm:∀x c,X.bS.cells.lookup x=some c->H c=none
 SW:∀p∈X.pn++aw,s.heap.get? p.1=some p.2/\H p.1=none/\p.1≠X.bS.locals/\p.1∉X.fs/\∀v,p.2.data≠ .cell v
 fN:xu X.prog X.w H s.heap
 len:σ.length=X.N.length
section
variable{K:ae}{X:Cx K}{aw:PL}{σ:List (Option V)}{H H':Hp}{s:aB}{h':bb}
theorem Cx.Ok.ZoY(ok:X.Ok){b:ao}{o:Obj}(e:X.base.get? b=some o):b∉X.fs:=fun hb=>by have:=(ok.wo.mem hb).1;rw[e]at this;cases this
theorem cM.bs(I:cM X aw σ H s):∀b o,X.base.get? b=some o->s.heap.get? b=some o/\H b=none:=fun b o e=>
 ⟨I.base.keep b o (I.ok.bs b o e).1 (I.ok.bs b o e).2 (I.ok.ZoY e) (I.ok.VB b o e),I.base.free b o (I.ok.bs b o e).1 (I.ok.bs b o e).2 (I.ok.VB b o e)⟩
theorem cM.bk(I:cM X aw σ H s):∀b o,X.base.get? b=some o->s.heap.get? b=some o:=fun b o e=> (I.bs b o e).1
theorem cM.Mj(I:cM X aw σ H s):Mod K X.mg X.base:=I.ok.Mj
theorem cM.EV(I:cM X aw σ H s):K.In s.heap:=I.ok.Mj.kin.keeps I.bk
theorem cM.lt(I:cM X aw σ H s):X.bS.locals<s.heap.objs.size:=let⟨_,hn,_⟩:=I.Q7;hn.lt
theorem cM.sz(I:cM X aw σ H s):X.O0.heap.objs.size<=s.heap.objs.size:=cc I.ok.above (fZ I.lt)
theorem cM.ZoZ(I:cM X aw σ H s){a:ao}(h:s.heap.objs.size<=a):a∉X.fs:=fun hb=>by obtain⟨_,o,ho,_⟩:=I.ok.wo.mem hb;exact absurd (cb (bb.lt_size ho) (cc I.sz h)) (eW _)
theorem cM.cne(I:cM X aw σ H s):∀x c,X.bS.cells.lookup x=some c->c≠X.bS.locals:=fun x c e z=>by obtain⟨v,o,ho,hd⟩:=I.cell x c e;obtain⟨m,⟨o',es,ep,ho',hd',_⟩,_⟩:=I.Q7;rw[z,ho']at ho;cases ho;rw[hd']at hd;cases hd
theorem cM.wo(I:cM X aw σ H s):s.heap.FunFrames X.base X.bC:=by
 have all:∀(l:List Env),(∀b∈Sz l,b∈X.fs)->X.O0.heap.FunFrames X.base l->s.heap.FunFrames X.base l:=by
  intro l;induction l with
  |nil=>intro _ _;trivial
  |cons bS r ih=>intro hs hl;obtain⟨hk,⟨L,o,hf,hn,ho,hd⟩,hr⟩:=hl;have hL:L∈X.fs:=hs L (by unfold Sz;rw[Ht,hf];exact aM);obtain⟨sl,e⟩:=I.base.E5 L o ho (I.ok.frf L hL) hL fun z=>I.ok.VC L z hL;exact⟨hk,⟨L,_,hf,hn,e,hd⟩,ih (fun b hb=>hs b (by unfold Sz;rw[Ht,hf];exact aG _ hb)) hr⟩
 exact all X.bC (fun _ hb=>hb) I.ok.wo
theorem cM.lB(I:cM X aw σ H s):s.heap.FunFrames X.base X.lB:=by
 rcases I.ok.stk with e|⟨e,hf⟩
 ·rw[e];exact I.wo
 ·rw[e];obtain⟨m,hn,_⟩:=I.Q7;refine .cons (by rw[I.ok.kind];decide) hf hn ?_ I.wo;exact bb.get?_none_of_le (cc I.ok.bsz I.ok.above)
theorem cM.HG(I:cM X aw σ H s):∀b∈Sz X.lB,b∈X.bS.locals::X.fs:=fun b hb=>by
 rcases I.ok.stk with e|⟨e,hf⟩
 ·rw[e]at hb;exact aG _ hb
 ·rw[e]at hb;unfold Sz at hb;rw[Ht,hf]at hb;exact hb
theorem cM.SA(I:cM X aw σ H s):∀b∈Sz X.lB,H b=none:=fun b hb=>by
 rcases aU.mp (I.HG b hb)with e|hb
 ·rw[e];exact I.free
 ·obtain⟨_,o,ho,_⟩:=I.ok.wo.mem hb;exact I.base.free b o ho (I.ok.frf b hb) fun z=>I.ok.VC b z hb
theorem cM.step{g':Array GenState}{t':Nat}{d':Drawn}{ch:List ao}(I:cM X aw σ H s) (hch:∀b∈ch,(b∈X.ex\/X.O0.heap.objs.size<=b)/\b≠X.bS.locals/\(∀x c,X.bS.cells.lookup x=some c->c≠b)/\∀p∈X.pn++aw,p.1≠b) (keep:∀b o,b≠X.bS.locals->b∉X.fs->b∉ch->s.heap.get? b=some o->H b=none->h'.get? b=some o) (E5:∀b o,b≠X.bS.locals->b∈X.fs->b∉ch->s.heap.get? b=some o->H b=none->∃sl,h'.get? b=some {o with slots:=sl})(free:∀b o,b∉ch->s.heap.get? b=some o->H b=none->H' b=none) (there:∀b o,b∉ch->s.heap.get? b=some o->∃o',h'.get? b=some o') (Pf:∀b xs,H b=some (.f6 xs)->H' b=some (.f6 xs))(Mv:∀b o u,H b=some (.LI o u)->H' b=some (.LI o u))(Pg:∀b ps,H b=some (.tbl ps)->∃more,H' b=some (.tbl (ps++more))) (ns:∀m,s.heap.Ns X.bS.locals m->h'.Ns X.bS.locals m)(fN:xu X.prog X.w H' h')(hg:EH g'):cM X aw σ H' {s with heap:=h',gens:=g',drawn:=d',toks:=t'}:=by
 have neL:∀b o,X.O0.heap.get? b=some o->b≠X.bS.locals:=fun b o e=>dU (cb (bb.lt_size e) I.ok.above);have neC:∀b o,X.O0.heap.get? b=some o->b∉X.ex->b∉ch:=fun b o e hx hb=>by
  rcases(hch b hb).1 with z|z
  ·exact hx z
  ·exact absurd (cb (bb.lt_size e) z) (eW _)
 have X5:∀x c,X.bS.cells.lookup x=some c->∀v,s.heap.IsCell c v->h'.IsCell c v:=fun x c e v ⟨o,ho,hd⟩=>by
  have nch:c∉ch:=fun z=> (hch c z).2.2.1 x c e Z;by_cases hc:c∈X.fs
  ·obtain⟨sl,q⟩:=E5 c o (I.cne x c e) hc nch ho (I.rm x c e);exact⟨_,q,hd⟩
  ·exact⟨o,keep c o (I.cne x c e) hc nch ho (I.rm x c e),hd⟩
 refine⟨I.ok,I.os,hg,⟨fun b o e n hb hx=>?_,fun b o e n hb hx=>?_,fun b o e n hx=>?_,fun b o e hx=>?_,fun b xs e=>Pf b xs (I.base.Pf b xs e),fun b o xs e=>Mv b o xs (I.base.Mv b o xs e),fun b ps e=>?_⟩,?_,fun x c e=>?_,?_,fun x c e=>?_,fun p hp=>?_,fN,I.len⟩
 ·exact keep b o (neL b o e) hb (neC b o e hx) (I.base.keep b o e n hb hx) (I.base.free b o e n hx)
 ·obtain⟨sl,e1⟩:=I.base.E5 b o e n hb hx;obtain⟨sl',e2⟩:=E5 b _ (neL b o e) hb (neC b o e hx) e1 (I.base.free b o e n hx);exact⟨sl',e2⟩
 ·obtain⟨o',e1⟩:=I.base.there b o e hx;exact free b o' (neC b o e hx) e1 (I.base.free b o e n hx)
 ·obtain⟨o',e1⟩:=I.base.there b o e hx;exact there b o' (neC b o e hx) e1
 ·obtain⟨m1,e1⟩:=I.base.Pg b ps e;obtain⟨m2,e2⟩:=Pg b _ e1;exact⟨m1++m2,by rw[e2,Array.append_assoc]⟩
 ·obtain⟨m,hn,hl⟩:=I.Q7;refine⟨m,ns m hn,fun i x v e1 e2 e3=>?_⟩;obtain⟨u,r,l⟩:=hl i x v e1 e2 e3;refine⟨u,r,?_⟩;rcases l with l|⟨k,c,e,z⟩
  ·exact .inl l
  ·exact .inr ⟨k,c,e,X5 x c e _ z⟩
 ·obtain⟨v,z⟩:=I.cell x c e;exact⟨v,X5 x c e v z⟩
 ·obtain⟨m,⟨o,_,_,ho,_⟩,_⟩:=I.Q7;exact free _ o (fun z=> (hch _ z).2.1 Z) ho I.free
 ·obtain⟨v,o,ho,hd⟩:=I.cell x c e;exact free c o (fun z=> (hch c z).2.2.1 x c e Z) ho (I.rm x c e)
 ·obtain⟨e,n,ne,nf,d⟩:=I.SW p hp;have nch:p.1∉ch:=fun z=> (hch p.1 z).2.2.2 p hp Z;exact⟨keep p.1 p.2 ne nf nch e n,free p.1 p.2 nch e n,ne,nf,d⟩
theorem cM.un{t':Nat}(I:cM X aw σ H s)(u:Un X.fs [] H H' s.heap h')(fN:xu X.prog X.w H' h'):cM X aw σ H' {s with heap:=h',toks:=t'}:=by obtain⟨m,⟨o,es,ep,ho,r⟩,_⟩:=id I.Q7;obtain⟨sl,hL⟩:=u.any ho I.free (by simp);exact I.step (g':=s.gens) (d':=s.drawn) (ch:=[]) (fun _ z=>nomatch z) (fun b o _ hb _ e n=>u.keep b o e n hb (by simp)) (fun b o _ hb _ e n=>u.E5 b o e n hb (by simp)) (fun b o _ e n=>u.free b o e n (by simp)) (fun b o _ e=>u.there b o e (by simp)) u.Pf u.Mv u.Pg (fun m' hm=>by obtain⟨o',es',ep',ho',r'⟩:=hm;rw[ho]at ho';cases ho';exact⟨_,es',ep',hL,r'⟩) fN I.bare
theorem cM.call{g':Array GenState}{t':Nat}{d':Drawn}{ch:List ao}(I:cM X aw σ H s)(u:Un (Sz X.lB) ch H H' s.heap h')(fN:xu X.prog X.w H' h')(hg:EH g') (hch:∀b∈ch,(b∈X.ex\/X.O0.heap.objs.size<=b)/\b≠X.bS.locals/\(∀x c,X.bS.cells.lookup x=some c->c≠b)/\∀p∈X.pn++aw,p.1≠b):cM X aw σ H' {s with heap:=h',gens:=g',drawn:=d',toks:=t'}:=by obtain⟨m,⟨o,es,ep,ho,r⟩,_⟩:=id I.Q7;obtain⟨sl,hL⟩:=u.any ho I.free fun z=> (hch _ z).2.1 Z;exact I.step (ch:=ch) hch (fun b o hL hb hc e n=>u.keep b o e n (fun z=> (aU.mp (I.HG b z)).elim hL hb) hc) (fun b o _ _ hc e n=>u.any e n hc) (fun b o hc e n=>u.free b o e n hc) (fun b o hc e=>u.there b o e hc) u.Pf u.Mv u.Pg (fun m' hm=>by obtain⟨o',es',ep',ho',r'⟩:=hm;rw[ho]at ho';cases ho';exact⟨_,es',ep',hL,r'⟩) fN hg
theorem cM.wq{t':Nat}{it:ao}(I:cM X aw σ H s)(k:∀b o,b≠it->s.heap.get? b=some o->h'.get? b=some o)(hn:H it=none)(hL:it≠X.bS.locals) (h1:it∈X.ex\/X.O0.heap.objs.size<=it)(h2:∀x c,X.bS.cells.lookup x=some c->c≠it)(h3:∀p∈X.pn++aw,p.1≠it):cM X aw σ H {s with heap:=h',toks:=t'}:=by
 have nit:∀b u,H b=some u->b≠it:=fun b u e z=>by rw[z,hn]at e;cases e
 refine I.step (g':=s.gens) (d':=s.drawn) (ch:=[it]) (fun b hb=>?_) (fun b o _ _ hc e _=>k b o (fun z=>hc (by simp[z])) e) (fun b o _ _ hc e _=> ⟨o.slots,k b o (fun z=>hc (by simp[z])) e⟩) (fun _ _ _ _ n=>n) (fun b o hc e=> ⟨o,k b o (fun z=>hc (by simp[z])) e⟩) (fun _ _ e=>e) (fun _ _ _ e=>e) (fun b ps e=> ⟨#[],by rw[e];simp⟩) (fun m hm=>?_) (fun b u e=>?_) I.bare
 ·have e:b=it:=by simpa using hb
  subst e;exact⟨h1,hL,h2,h3⟩
 ·obtain⟨o,es,ep,ho,r⟩:=hm;exact⟨o,es,ep,k _ o (eQ hL) ho,r⟩
 ·refine(I.fN b u e).YG (fun c v hc q=>k c v ?_ q) (fun _ q=>q) fun _ _ q=>q;rcases hc with z|z
  ·rw[z];exact nit b u e
  ·exact nit c _ z
theorem cM.Yl(I:cM X aw σ H s)(t:Nat):cM X aw σ H {s with toks:=t}:=I.un (h':=s.heap) (t':=t) Un.refl I.fN
theorem cM.mm{t':Nat}(I:cM X aw σ H s)(k:∀b u,s.heap.get? b=some u->h'.get? b=some u):cM X aw σ H {s with heap:=h',toks:=t'}:=I.un (Un.mm k) (I.fN.mm k)
theorem cM.dW{a:ao}{o:HO}{t':Nat}(I:cM X aw σ H s)(k:∀b u,s.heap.get? b=some u->h'.get? b=some u)(hp:s.heap.objs.size<=a)(new:iD X.prog X.w (bp H a o) h' a o):cM X aw σ (bp H a o) {s with heap:=h',toks:=t'}:=I.un (Un.dW k hp (I.fN.gE hp)) (I.fN.dW k hp new)
theorem cM.Jk{x e:ao}{o:HO}{t':Nat}(I:cM X aw σ H s)(mu:Mut (H x))(he:e=x\/H e=some (.own x))(k:∀b u,b≠e->s.heap.get? b=some u->h'.get? b=some u)(heo:∃u,h'.get? e=some u) (new:iD X.prog X.w (bp H x o) h' x o):cM X aw σ (bp H x o) {s with heap:=h',toks:=t'}:=I.un (Un.Jk mu he k heo) (I.fN.Jk mu he k heo new)
theorem cM.Zo0{σ':List (Option V)}(I:cM X aw σ H s)(hl:σ'.length=σ.length)(w:∀(i:Nat) v,σ'[i]? =some (some v)->σ[i]? =some (some v)):cM X aw σ' H s:=⟨I.ok,I.os,I.bare,I.base,let⟨m,hn,hl'⟩:=I.Q7;⟨m,hn,fun i x v e1 e2 e3=>hl' i x v e1 (w i v e2) e3⟩,I.cell,I.free,I.rm,I.SW,I.fN,hl.trans I.len⟩
theorem cM.Z6{Sh:PL}(I:cM X aw σ H s)(h:∀p∈Sh,s.heap.get? p.1=some p.2/\H p.1=none/\p.1≠X.bS.locals/\p.1∉X.fs/\∀v,p.2.data≠ .cell v):cM X Sh σ H s:=⟨I.ok,I.os,I.bare,I.base,I.Q7,I.cell,I.free,I.rm,fun p hp=> (cz.mp hp).elim (fun z=>I.SW p (mF _ z)) (h p),I.fN,I.len⟩
theorem Ml{N:LS}(hN:N.Nodup){i j:Nat}{x:Str}(a:N[i]? =some x)(b:N[j]? =some x):i=j:=by obtain⟨h1,e1⟩:=aW.mp a;obtain⟨h2,e2⟩:=aW.mp b;exact(List.getElem_inj hN).mp (e1.trans e2.symm)
theorem QU{M:Model}{A:cD}{E:VS}{i:Nat}{x:Str}{v:V}{u:aj}{Q:Unit->aB->Prop}(I:cM X aw σ H s)(hN:X.N.Nodup)(hi:X.N[i]? =some x)(hx:Loc X.bS.scope x)(r:gg v u) (h:∀s',cM X aw (σ.set i (some v)) H s'->(∃a,bb.SameBut a s.heap s'.heap/\(a=X.bS.locals\/X.bS.cells.lookup x=some a))->Q () s')(hf:X.fn x=true\/X.bS.scope.names.lookup x=some .local:=by first|exact .inl rfl|exact .inr rfl|assumption):bZ M A (storeName X.bS x u) Q E s:=by
 obtain⟨m,hn,hl⟩:=id I.Q7;have ZpR:(X.bS.scope.kind== .class||(X.bS.scope.kind== .module&&X.bS.locals !=X.bS.globals))=false:=by rw[I.ok.kind];rfl
 have hiσ:i<σ.length:=by rw[I.len];exact(aW.mp hi).1
 have cne:=I.cne;have Zbb:∀{a:ao}{h':bb},(∃o,s.heap.get? a=some o/\H a=none)->bb.SameBut a s.heap h'->xu X.prog X.w H h':=fun{a h'} ha hs b ob e=>by
  obtain⟨_,_,Si⟩:=ha;refine(I.fN b ob e).YG (fun c w' hc q=> (hs.2 c ?_).trans q) (fun _ q=>q) fun _ _ q=>q;rintro rfl;rcases hc with rfl|hc
  ·rw[Si]at e;cases e
  ·rw[Si]at hc;cases hc
 rcases hx with hk|hk
 ·refine wpAny_storeName_local hk hn (fun h' hn' hs=>?_) ZpR;obtain⟨oL,_,_,hoL,_⟩:=id hn;refine h _ ⟨I.ok,I.os,I.bare,⟨fun b o e n hb hx=>?_,fun b o e n hb hx=>?_,I.base.free,fun b o e hx=>?_,I.base.Pf,I.base.Mv,I.base.Pg⟩,⟨_,hn',fun j y v' e1 e2 e3=>?_⟩,fun y c e=>?_,I.free,I.rm,fun p hp=>?_,Zbb ⟨oL,hoL,I.free⟩ hs,by simpa using I.len⟩ ⟨_,hs,.inl Z⟩
  ·exact(hs.2 b (dU (cb (bb.lt_size e) I.ok.above))).trans (I.base.keep b o e n hb hx)
  ·obtain⟨sl,e1⟩:=I.base.E5 b o e n hb hx;exact⟨sl,(hs.2 b (dU (cb (bb.lt_size e) I.ok.above))).trans e1⟩
  ·obtain⟨o',e1⟩:=I.base.there b o e hx;exact⟨o',(hs.2 b (dU (cb (bb.lt_size e) I.ok.above))).trans e1⟩
  ·by_cases hj:j=i
   ·subst hj;rw[hi]at e1;cases e1;rw[pL hiσ]at e2;cases e2;exact⟨u,r,.inl ⟨hk,by simp⟩⟩
   ·rw[sy (eQ hj)]at e2;obtain⟨u',r',q⟩:=hl j y v' e1 e2 e3;refine⟨u',r',?_⟩;rcases q with⟨k,e⟩|⟨k,c,e,z⟩
    ·refine .inl ⟨k,?_⟩;have:y≠x:=fun e=>hj (Ml hN e1 (e▸hi));simp[this,e]
    ·exact .inr ⟨k,c,e,z.sameBut hs (cne y c e)⟩
  ·obtain⟨w',z⟩:=I.cell y c e;exact⟨w',z.sameBut hs (cne y c e)⟩
  ·obtain⟨e,n,ne,nf,d⟩:=I.SW p hp;exact⟨(hs.2 p.1 ne).trans e,n,ne,nf,d⟩
 ·have hfn:X.fn x=true:=by
   rcases hf with z|z
   ·exact z
   ·rw[z]at hk;cases hk
  obtain⟨c,hc⟩:=I.ok.has x (.inl hk);obtain⟨w',z⟩:=I.cell x c hc;refine wpAny_storeName_cell I.ok.kind hk hc z (fun h' hc' hs=>?_);obtain⟨oc,hoc,ZpP⟩:=id z;refine h {s with heap:=h'} ⟨I.ok,I.os,I.bare,⟨fun b o e n hb hx=>?_,fun b o e n hb hx=>?_,I.base.free,fun b o e hx=>?_,I.base.Pf,I.base.Mv,I.base.Pg⟩,⟨m,hn.sameBut hs (eQ (cne x c hc)),fun j y v' e1 e2 e3=>?_⟩,fun y c' e=>?_,I.free,I.rm,fun p hp=>?_,Zbb ⟨oc,hoc,I.rm x c hc⟩ hs,by simpa using I.len⟩ ⟨c,hs,.inr hc⟩
  ·exact(hs.2 b (dU (cb (bb.lt_size e) (I.ok.cab x c hfn hc)))).trans (I.base.keep b o e n hb hx)
  ·obtain⟨sl,e1⟩:=I.base.E5 b o e n hb hx;exact⟨sl,(hs.2 b (dU (cb (bb.lt_size e) (I.ok.cab x c hfn hc)))).trans e1⟩
  ·obtain⟨o',e1⟩:=I.base.there b o e hx;exact⟨o',(hs.2 b (dU (cb (bb.lt_size e) (I.ok.cab x c hfn hc)))).trans e1⟩
  ·by_cases hj:j=i
   ·subst hj;rw[hi]at e1;cases e1;rw[pL hiσ]at e2;cases e2;exact⟨u,r,.inr ⟨.inl hk,c,hc,hc'⟩⟩
   ·rw[sy (eQ hj)]at e2;obtain⟨u',r',q⟩:=hl j y v' e1 e2 e3;refine⟨u',r',?_⟩;rcases q with q|⟨k,c',e,z'⟩
    ·exact .inl q
    ·refine .inr ⟨k,c',e,z'.sameBut hs ?_⟩;rintro rfl;exact hj (Ml hN e1 (I.ok.inj _ _ _ e hc▸hi))
  ·by_cases hcc:c'=c
   ·subst hcc;exact⟨_,hc'⟩
   ·obtain⟨w2,z2⟩:=I.cell y c' e;exact⟨w2,z2.sameBut hs hcc⟩
  ·obtain⟨e,n,ne,nf,d⟩:=I.SW p hp;refine⟨(hs.2 p.1 ?_).trans e,n,ne,nf,d⟩;intro q;rw[q,hoc]at e;have q':oc=p.2:=af e;exact d w' (by rw[<-q'];exact ZpP)
theorem Vn{M:Model}{A:cD}{E:VS}{i:Nat}{x:Str}{v:V}{u:aj}{Q:Unit->aB->Prop}(I:cM X aw σ H s)(hN:X.N.Nodup)(hi:X.N[i]? =some x)(hx:Loc X.bS.scope x)(r:gg v u) (h:∀s',cM X aw (σ.set i (some v)) H s'->Q () s')(hf:X.fn x=true\/X.bS.scope.names.lookup x=some .local:=by first|exact .inl rfl|exact .inr rfl|assumption):bZ M A (storeName X.bS x u) Q E s:=QU I hN hi hx r (fun s' I' _=>h s' I') hf
theorem cM.ZdC{s':aB}{ch:List ao}(I:cM X aw σ H s)(ho:s'.os=s.os)(u:Un (Sz X.lB) ch H H' s.heap s'.heap)(fN:xu X.prog X.w H' s'.heap)(hg:EH s'.gens) (hch:∀b∈ch,(b∈X.ex\/X.O0.heap.objs.size<=b)/\b≠X.bS.locals/\(∀x c,X.bS.cells.lookup x=some c->c≠b)/\∀p∈X.pn++aw,p.1≠b):cM X aw σ H' s':=by obtain⟨h',g',d',t',o'⟩:=s';have e:o'=s.os:=ho;subst e;exact I.call (g':=g') (t':=t') (d':=d') u fN hg hch
end
abbrev XK:=aj->Option ao->Hp->Prop
noncomputable abbrev St:=List (Option V)
abbrev VK:=V->Hp->Prop
abbrev TE:=St->Hp->VK->Prop
abbrev TT:=St->Hp->(Bool->Hp->Prop)->Prop
abbrev TA:=St->Hp->(List V->Hp->Prop)->Prop
structure DR where
 nx:St->Hp->Prop
 rt:VK
 bk:St->Hp->Prop:=fun _ _=>False
 ct:St->Hp->Prop:=fun _ _=>False
abbrev TS:=DR->St->Hp->Prop
def EP{K:ae}(X:Cx K)(aw:PL)(σ:St)(Q:VK)(u:aj)(s':aB):Prop:=∃v H',cM X aw σ H' s'/\gg v u/\Q v H'
def TP{K:ae}(X:Cx K)(aw:PL)(σ:St)(Q:Bool->Hp->Prop)(b:Bool)(s':aB):Prop:=∃H',cM X aw σ H' s'/\Q b H'
def AP{K:ae}(X:Cx K)(aw:PL)(σ:St)(Q:List V->Hp->Prop)(us:List aj)(s':aB):Prop:=∃vs H',cM X aw σ H' s'/\fA vs us/\Q vs H'
def SP{K:ae}(X:Cx K)(aw:PL)(D:DR)(f:Flow)(s':aB):Prop:=match f with
 | .next=> ∃σ' H',cM X aw σ' H' s'/\D.nx σ' H'
 | .brk=> ∃σ' H',cM X aw σ' H' s'/\D.bk σ' H'
 | .cont=> ∃σ' H',cM X aw σ' H' s'/\D.ct σ' H'
 | .ret u=> ∃v σ' H',cM X aw σ' H' s'/\gg v u/\D.rt v H'
def PE{K:ae}(X:Cx K)(e:Expr)(t:TE):Prop:=∀(aw:PL)(s:aB)(σ:St)(H:Hp)(Q:VK),cM X aw σ H s->t σ H Q->bZ (b7 X.prog X.w) X.A (jb e X.bS) (EP X aw σ Q) X.xe s
def PT{K:ae}(X:Cx K)(e:Expr)(t:TT):Prop:=∀(aw:PL)(s:aB)(σ:St)(H:Hp)(Q:Bool->Hp->Prop),cM X aw σ H s->t σ H Q->bZ (b7 X.prog X.w) X.A (isTrue e X.bS (jb e X.bS)) (TP X aw σ Q) X.xe s
def PW{K:ae}(X:Cx K)(e:Expr)(t:TT):Prop:=∀(whole:Sem aj)(aw:PL)(s:aB)(σ:St)(H:Hp)(Q:Bool->Hp->Prop),cM X aw σ H s->t σ H Q->bZ (b7 X.prog X.w) X.A (isTrue e X.bS whole) (TP X aw σ Q) X.xe s
theorem PW.pt{K:ae}{X:Cx K}{e:Expr}{t:TT}(h:PW X e t):PT X e t:=h _
def PA{K:ae}(X:Cx K)(es:List Expr)(t:TA):Prop:=∀(pos:Pos)(aw:PL)(s:aB)(σ:St)(H:Hp)(Q:List V->Hp->Prop),cM X aw σ H s->t σ H Q->bZ (b7 X.prog X.w) X.A (spliced (km pos (bY es X.bS))) (AP X aw σ Q) X.xe s
def PS{K:ae}(X:Cx K)(st:cy)(t:TS):Prop:=∀(aw:PL)(s:aB)(σ:St)(H:Hp)(D:DR),cM X aw σ H s->t D σ H->bZ (b7 X.prog X.w) X.A (exec st X.bS) (SP X aw D) X.xe s
def KZ{K:ae}(X:Cx K)(st:List cy)(t:TS):Prop:=∀(aw:PL)(s:aB)(σ:St)(H:Hp)(D:DR),cM X aw σ H s->t D σ H->bZ (b7 X.prog X.w) X.A (execs st X.bS) (SP X aw D) X.xe s
theorem jK{α:Type}{t:Sem α}{Q Q':α->aB->Prop}{M:Model}{A:cD}{E:VS}{s:aB}(h:bZ M A t Q E s)(hQ:∀a s,Q a s->Q' a s):bZ M A t Q' E s:=iP h hQ fun _ _ x=>x
section
variable{K:ae}{X:Cx K}
inductive m7(i:Nat)(σ:St)(H:Hp)(Q:VK):Prop
 |mk (v:_) (_:σ[i]? =some (some v)) (_:Q v H)
def tC(v:V):TE:=fun _ H Q=>Q v H
theorem Zjc{i:Nat}{x:Str}{pos:Pos}(hN:X.N[i]? =some x)(hv:Vis X.bS.scope x)(hd:(x==("__debug__":Str))=false:=by decide)(Yp:(x==("__classdict__":Str))=false:=by decide):PE X (.Name x pos) (m7 i):=by
 intro aw s σ H Q I h;obtain⟨v,e,h⟩:=h;obtain⟨m,hn,hl⟩:=I.Q7;obtain⟨u,r,l⟩:=hl i x v hN e hv;have tS:EP X aw σ Q u s:=⟨v,H,I,r,h⟩;rcases l with⟨hk,hm⟩|⟨hk,c,hc,ZiQ⟩
 ·exact wpAny_Name (wpAny_loadName_local I.ok.kind hk hn hm tS) hd
 ·rcases hk with hk|hk
  ·exact wpAny_Name (wpAny_loadName_cell I.ok.kind hk hc ZiQ tS) hd
  ·exact wpAny_Name (wpAny_loadName_free I.ok.kind hk hc ZiQ tS Yp) hd
theorem bL{i j pos}:PE X (.Constant (.int i) j pos) (tC (.int i)):=fun _ _ _ H _ I h=>wpAny_Constant_int ⟨.int i,H,I.Yl _,⟨_,Z⟩,h⟩
theorem vm{b j pos}:PE X (.Constant (.bool b) j pos) (tC (.bl b)):=fun _ _ _ H _ I h=>Constant_bool ⟨.bl b,H,I,Z,h⟩
theorem oZ{j pos}:PE X (.Constant .none j pos) (tC .ik):=fun _ _ _ H _ I h=>Zdi ⟨.ik,H,I,Z,h⟩
def Gl{K:ae}(X:Cx K)(x:Str):Prop:=X.bS.kindOf x=some .globalImplicit
theorem A8{E:VS}{aw:PL}{s:aB}{σ:St}{H:Hp}{x:Str}{u:aj}{pos:Pos}{Q:VS}(I:cM X aw σ H s)(hg:Gl X x)(hm:X.mg x=some u)(h:Q u s) (hd:(x==("__debug__":Str))=false:=by decide):bZ (b7 X.prog X.w) X.A (jb (.Name x pos) X.bS) Q E s:=Calls.Name_function_global I.ok.kind hg (Calls.loadGlobal_global (by rw[I.ok.K3];exact I.Mj.K3.keeps I.bk) hm h) hd
theorem SD{E:VS}{aw:PL}{s:aB}{σ:St}{H:Hp}{x:Str}{u:aj}{pos:Pos}{Q:VS}(I:cM X aw σ H s)(hg:Gl X x)(hm:X.mg x=none)(hv:EG x=some u)(h:Q u s) (hn:x≠"__name__":=by decide)(hd:(x==("__debug__":Str))=false:=by decide):bZ (b7 X.prog X.w) X.A (jb (.Name x pos) X.bS) Q E s:=by obtain⟨mb,h1,h2⟩:=I.Mj.blt;exact Calls.Name_function_global I.ok.kind hg (Calls.loadGlobal_builtin (by rw[I.ok.K3];exact I.Mj.K3.keeps I.bk) hm (by rw[I.ok.blt];exact h1.keeps I.bk) ((h2 x hn).trans hv) h) hd
theorem Z7{x:Str}{v:V}{u:aj}{pos:Pos}(hg:Gl X x)(hm:X.mg x=some u)(r:gg v u)(hd:(x==("__debug__":Str))=false:=by decide):PE X (.Name x pos) (tC v):=fun _ _ _ H _ I h=>A8 I hg hm ⟨v,H,I,r,h⟩ hd
variable{a b:Expr}{ta tb:TE}{pos:Pos}
def PC{K:ae}(X:Cx K)(op:L8)(a b:Expr)(t:TE):Prop:=∀(aw:PL)(s:aB)(σ:St)(H:Hp)(Q:VK),cM X aw σ H s->t σ H Q->bZ (b7 X.prog X.w) X.A (jb a X.bS) (fun v s₁=>bZ (b7 X.prog X.w) X.A (jb b X.bS) (fun u s₂=>bZ (b7 X.prog X.w) X.A (di op v u) (EP X aw σ Q) X.xe s₂) X.xe s₁) X.xe s
theorem ZdD(b:Expr){op:L8}(h:op≠ .In)(h2:op≠ .NotIn):oM op b=false:=by
 have e1:(op==L8.In)=false:=by cases op<;>first|rfl|exact absurd rfl h
 have e2:(op==L8.NotIn)=false:=by cases op<;>first|rfl|exact absurd rfl h2
 cases b<;>simp[oM,e1,e2]
def Zo1(ta:TE):TE:=fun σ H Q=>ta σ H fun x H1=>Q (.bl (decide (x= .ik))) H1
def ZlG(ta:TE):TE:=fun σ H Q=>ta σ H fun x H1=>Q (.bl (!decide (x= .ik))) H1
theorem gg.Vo{x:V}{v:aj}(r:gg x v):(v==aj.none)=decide (x= .ik):=by
 cases x with
 |ik=>cases r;rfl
 |bl _=>cases r;rfl
 |int _=>obtain⟨t,rfl⟩:=r;rfl
 |str _=>obtain⟨t,rfl⟩:=r;rfl
 |VI _=>obtain⟨t,rfl⟩:=r;rfl
 |flt _=>obtain⟨t,rfl⟩:=r;rfl
 |ref _=>cases r;rfl
 |ty _=>cases r;rfl
theorem ZdE{j Hi}(ha:PE X a ta):PC X .Is a (.Constant .none j Hi) (Zo1 ta):=by intro aw s σ H Q I h;refine jK (ha aw s σ H _ I h) fun v s1 ⟨x,H1,I1,r1,q1⟩=>?_;exact Zdi (is_none_gen ⟨.bl _,H1,I1,by rw[r1.Vo];rfl,q1⟩)
theorem Z8{j Hi}(ha:PE X a ta):PC X .IsNot a (.Constant .none j Hi) (ZlG ta):=by intro aw s σ H Q I h;refine jK (ha aw s σ H _ I h) fun v s1 ⟨x,H1,I1,r1,q1⟩=>?_;exact Zdi (isnot_none_gen ⟨.bl _,H1,I1,by rw[r1.Vo];rfl,q1⟩)
inductive ItB(Q:Bool->Hp->Prop)(x:V)(H1:Hp):Prop
 |mk (c:_) (_:x= .bl c) (_:Q c H1)
def tB(t:TE):TT:=fun σ H Q=>t σ H fun x H1=>ItB Q x H1
theorem nN{op:L8}{t:TE}(h:PC X op a b t)(h1:oM op b=false:=by first|exact ZdD _ (by decide) (by decide)|rfl):PT X (.Compare a [op] [b] pos) (tB t):=by intro aw s σ H Q I hw;refine wpAny_isTrue_Compare1 (jK (h aw s σ H _ I hw) fun v s1 h1=>jK h1 fun u s2 h2=>jK h2 fun c s3 ⟨x,H1,I1,r1,q1⟩=>?_) h1;obtain⟨d,rfl,q⟩:=q1;cases r1;exact ir ⟨H1,I1,q⟩
theorem eX{e:Expr}{t:TE}(h:PE X e t)(he:∀whole,isTrue e X.bS whole=(do let v<-whole;standAt e.pos;holding [v] (truthy v)):=by intro _;rfl):PT X e (tB t):=by intro aw s σ H Q I hw;refine isTrue_plain (jK (h aw s σ H _ I hw) fun v s1 ⟨x,H1,I1,r1,q1⟩=>?_) (he _);obtain⟨d,rfl,q⟩:=q1;cases r1;exact ir ⟨H1,I1,q⟩
variable{tA tB':TT}{aH:List Expr}
def Zo2(t u:TT):TT:=fun σ H Q=>t σ H fun c H1=>if c=true then u σ H1 Q else Q false H1
def tOr(t u:TT):TT:=fun σ H Q=>t σ H fun c H1=>if c=true then Q true H1 else u σ H1 Q
def Zo3(t:TT):TT:=fun σ H Q=>t σ H fun c H1=>Q (!c) H1
theorem A9(ha:PT X a tA):PW X (.BoolOp .And [a] pos) tA:=by
 intro wh aw s σ H Q I h;refine isTrue_and (jK (ha aw s σ H Q I h) fun c s1 e=>?_);cases c with
 |true=>exact isTrue_and_nil e
 |false=>exact e
theorem uJ(ha:PT X a tA):PW X (.BoolOp .Or [a] pos) tA:=by
 intro wh aw s σ H Q I h;refine isTrue_or (jK (ha aw s σ H Q I h) fun c s1 e=>?_);cases c with
 |false=>exact isTrue_or_nil e
 |true=>exact e
theorem HH(ha:PT X a tA)(hb:PW X (.BoolOp .And (b::aH) pos) tB'):PW X (.BoolOp .And (a::b::aH) pos) (Zo2 tA tB'):=by
 intro wh aw s σ H Q I h;refine isTrue_and (jK (ha aw s σ H _ I h) fun c s1 ⟨H1,I1,q1⟩=>?_);cases c with
 |true=>exact hb wh aw s1 σ H1 Q I1 q1
 |false=>exact⟨H1,I1,q1⟩
theorem yA(ha:PT X a tA)(hb:PW X (.BoolOp .Or (b::aH) pos) tB'):PW X (.BoolOp .Or (a::b::aH) pos) (tOr tA tB'):=by
 intro wh aw s σ H Q I h;refine isTrue_or (jK (ha aw s σ H _ I h) fun c s1 ⟨H1,I1,q1⟩=>?_);cases c with
 |true=>exact⟨H1,I1,q1⟩
 |false=>exact hb wh aw s1 σ H1 Q I1 q1
theorem wt(ha:PT X a tA):PT X (.UnaryOp .Not a pos) (Zo3 tA):=by intro aw s σ H Q I h;exact isTrue_not (ha aw s σ H (fun c H1=>Q (!c) H1) I h)
inductive Zjd(tb:TE)(σ:St)(Q:VK)(x:V)(H1:Hp):Prop
 |mk (c:_) (_:x= .bl c) (_:if c=true then tb σ H1 Q else Q (.bl false) H1)
def ZlH(ta tb:TE):TE:=fun σ H Q=>ta σ H fun x H1=>Zjd tb σ Q x H1
inductive ZlI(tb:TE)(σ:St)(Q:VK)(x:V)(H1:Hp):Prop
 |mk (c:_) (_:x= .bl c) (_:if c=true then Q (.bl true) H1 else tb σ H1 Q)
def Zo4(ta tb:TE):TE:=fun σ H Q=>ta σ H fun x H1=>ZlI tb σ Q x H1
inductive Zje(Q:VK)(x:V)(H1:Hp):Prop
 |mk (c:_) (_:x= .bl c) (_:Q (.bl (!c)) H1)
def ZlJ(ta:TE):TE:=fun σ H Q=>ta σ H fun x H1=>Zje Q x H1
theorem SE{op}{t:TE}(h:PE X a t):PE X (.BoolOp op [a] pos) t:=fun aw s σ H Q I hw=>BoolOp_one (h aw s σ H Q I hw)
theorem SF(ha:PE X a ta)(hb:PE X (.BoolOp .And (b::aH) pos) tb):PE X (.BoolOp .And (a::b::aH) pos) (ZlH ta tb):=by
 intro aw s σ H Q I h;refine BoolOp_and (jK (ha aw s σ H _ I h) fun v s1 ⟨x,H1,I1,r1,q1⟩=>?_);obtain⟨c,rfl,q1⟩:=q1;cases r1;refine ir ?_;cases c with
 |true=>exact hb aw s1 σ H1 Q I1 q1
 |false=>exact⟨.bl false,H1,I1,Z,q1⟩
theorem Zih(ha:PE X a ta)(hb:PE X (.BoolOp .Or (b::aH) pos) tb):PE X (.BoolOp .Or (a::b::aH) pos) (Zo4 ta tb):=by
 intro aw s σ H Q I h;refine BoolOp_or (jK (ha aw s σ H _ I h) fun v s1 ⟨x,H1,I1,r1,q1⟩=>?_);obtain⟨c,rfl,q1⟩:=q1;cases r1;refine ir ?_;cases c with
 |false=>exact hb aw s1 σ H1 Q I1 q1
 |true=>exact⟨.bl true,H1,I1,Z,q1⟩
theorem Zjf(ha:PE X a ta):PE X (.UnaryOp .Not a pos) (ZlJ ta):=by intro aw s σ H Q I h;refine UnaryOp_ (jK (ha aw s σ H _ I h) fun v s1 ⟨x,H1,I1,r1,q1⟩=>?_);obtain⟨c,rfl,q1⟩:=q1;cases r1;exact not_of (ir ⟨.bl (!c),H1,I1,Z,q1⟩)
def tIf(t:TT)(ta tb:TE):TE:=fun σ H Q=>t σ H fun c H1=>if c=true then ta σ H1 Q else tb σ H1 Q
theorem yB{c:Expr}(hc:PT X c tA)(ha:PE X a ta)(hb:PE X b tb):PE X (.IfExp c a b pos) (tIf tA ta tb):=by
 intro aw s σ H Q I h;refine wpAny_IfExp (jK (hc aw s σ H _ I h) fun d s1 ⟨H1,I1,q1⟩=>?_);cases d with
 |true=>exact ha aw s1 σ H1 Q I1 q1
 |false=>exact hb aw s1 σ H1 Q I1 q1
end
def ft(K:ae)(H:Hp)(a:ao)(xs:List V):Prop:=Rd H a (.bz xs)\/∃(o:Obj)(fc:Array aj)(n:Nat),K.lookup a=some o/\o.cls= .type "list" /\o.dict=none/\o.data= .seq fc n/\fc.size<=sizeLine/\fA xs fc.toList
def qU(K:ae)(H:Hp)(a:ao)(xs:List V):Prop:=Rd H a (.f6 xs)\/∃(o:Obj)(fc:Array aj)(n:Nat),K.lookup a=some o/\o.cls= .type "tuple" /\o.data= .seq fc n/\fc.size<=sizeLine/\fA xs fc.toList
noncomputable def Zo5:aj->Option V
 | .none=>some .ik
 | .bool b=>some (.bl b)
 | .int i _=>some (.int i)
 | .str x _=>some (.str x)
 | .bytes b _=>some (.VI b)
 | .float b _=>some (.flt b)
 | .ref a=>some (.ref a)
 | .type n=>some (.ty n)
 |_=>none
theorem gg.abs{x:V}{u:aj}(r:gg x u):Zo5 u=some x:=by
 cases x with
 |ik=>cases r;rfl
 |bl _=>cases r;rfl
 |int _=>obtain⟨t,rfl⟩:=r;rfl
 |str _=>obtain⟨t,rfl⟩:=r;rfl
 |VI _=>obtain⟨t,rfl⟩:=r;rfl
 |flt _=>obtain⟨t,rfl⟩:=r;rfl
 |ref _=>cases r;rfl
 |ty _=>cases r;rfl
theorem gg.inj{x y:V}{u:aj}(r:gg x u)(q:gg y u):x=y:=af (r.abs.symm.trans q.abs)
theorem fA.inj:∀{xs ys:List V}{us:List aj},fA xs us->fA ys us->xs=ys
 |_,_,_,.nil,.nil=>rfl
 |_,_,_,.cons r t,.cons r' t'=>by rw[r.inj r',fA.inj t t']
section
variable{K:ae}{X:Cx K}{aw:PL}{σ:St}{H:Hp}{s:aB}{a:ao}{xs ys:List V}
theorem ft.of{K:ae}(h:H a=some (.bz xs)):ft K H a xs:= .inl (.inl h)
theorem qU.of{K:ae}(h:H a=some (.f6 xs)):qU K H a xs:= .inl (.inl h)
theorem cM.list(I:cM X aw σ H s)(h:ft K H a xs):∃fc:List aj,fA xs fc/\PlainL s.heap a fc.toArray/\xs.length<=sizeLine:=by
 rcases h with h|⟨o,fc,n,hk,hc,hd,hs,hz,r⟩
 ·obtain⟨z,fc,n,r,e⟩:=h.ok I.fN;exact⟨fc,r,⟨_,n,e,Z,Z,Z⟩,z⟩
 ·refine⟨fc.toList,r,⟨o,n,I.EV a o hk,hc,hd,by simpa using hs⟩,?_⟩;have e:=r.length;simp only[eJ]at e;omega
theorem cM.tuple(I:cM X aw σ H s)(h:qU K H a xs):∃fc:List aj,fA xs fc/\IsTup s.heap a fc.toArray/\xs.length<=sizeLine:=by
 rcases h with h|⟨o,fc,n,hk,hc,hs,hz,r⟩
 ·obtain⟨z,fc,r,p⟩:=h.ok I.fN;exact⟨fc,r,p,z⟩
 ·refine⟨fc.toList,r,⟨o,I.EV a o hk,hc,n,by simpa using hs⟩,?_⟩;have e:=r.length;simp only[eJ]at e;omega
theorem cM.Vp(I:cM X aw σ H s)(h:ft K H a xs)(h':ft K H a ys):xs=ys:=by
 obtain⟨fc,r,⟨o,n,e,_,_,d⟩,_⟩:=I.list h;obtain⟨its',r',⟨o',n',e',_,_,d'⟩,_⟩:=I.list h';rw[e]at e';cases e';rw[d]at d';injection d' with d1 _;have:fc=its':=by simpa using aA YC d1
 subst this;exact r.inj r'
theorem cM.Zbq(I:cM X aw σ H s)(h:qU K H a xs)(h':qU K H a ys):xs=ys:=by
 obtain⟨fc,r,⟨o,e,_,n,d⟩,_⟩:=I.tuple h;obtain⟨its',r',⟨o',e',_,n',d'⟩,_⟩:=I.tuple h';rw[e]at e';cases e';rw[d]at d';injection d' with d1 _;have:fc=its':=by simpa using aA YC d1
 subst this;exact r.inj r'
end
abbrev Cx.HI{K:ae}(X:Cx K)(E:VS):Cx K:={X with xe:=E}
abbrev Cx.nox{K:ae}(X:Cx K):Cx K:=X.HI fun _ _=>False
theorem Cx.Ok.HI{K:ae}{X:Cx K}(ok:X.Ok)(E:VS):(X.HI E).Ok:=⟨ok.Mj,ok.kind,ok.K3,ok.blt,ok.above,ok.inj,ok.has,ok.cab,ok.hd,ok.frames,ok.stk,ok.exf,ok.bs,ok.bsz,ok.VB,ok.VC,ok.wo,ok.frf⟩
theorem Cx.Ok.uK{K:ae}{X:Cx K}{E:VS}(ok:(X.HI E).Ok):X.Ok:=⟨ok.Mj,ok.kind,ok.K3,ok.blt,ok.above,ok.inj,ok.has,ok.cab,ok.hd,ok.frames,ok.stk,ok.exf,ok.bs,ok.bsz,ok.VB,ok.VC,ok.wo,ok.frf⟩
section
variable{K:ae}{X:Cx K}{aw:PL}{σ:St}{H:Hp}{s:aB}{E:VS}
theorem cM.HI(I:cM X aw σ H s)(E:VS):cM (X.HI E) aw σ H s:=⟨I.ok.HI E,I.os,I.bare,I.base,I.Q7,I.cell,I.free,I.rm,I.SW,I.fN,I.len⟩
theorem cM.uK(I:cM (X.HI E) aw σ H s):cM X aw σ H s:=⟨I.ok.uK,I.os,I.bare,I.base,I.Q7,I.cell,I.free,I.rm,I.SW,I.fN,I.len⟩
theorem SP.uK{D:DR}{f:Flow}{s':aB}(h:SP (X.HI E) aw D f s'):SP X aw D f s':=by
 cases f with
 |next=>obtain⟨σ',H',I,q⟩:=h;exact⟨σ',H',I.uK,q⟩
 |brk=>obtain⟨σ',H',I,q⟩:=h;exact⟨σ',H',I.uK,q⟩
 |cont=>obtain⟨σ',H',I,q⟩:=h;exact⟨σ',H',I.uK,q⟩
 |ret u=>obtain⟨v,σ',H',I,r,q⟩:=h;exact⟨v,σ',H',I.uK,r,q⟩
theorem KZ.nox{st:List cy}{t:TS}(h:KZ X.nox st t):KZ X st t:=fun aw s σ H D I hw=>
 iP (h aw s σ H D (I.HI _) hw) (fun _ _ q=>q.uK) fun _ _ z=>gM z
end
section
variable{K:ae}{X:Cx K}{st:cy}{aH:List cy}{t u:TS}{e:Expr}{te:TE}{pos:Pos}
def ZdF:TS:=fun D σ H=>D.nx σ H
def dF(t u:TS):TS:=fun D σ H=>t {D with nx:=u D} σ H
theorem aL:KZ X [] ZdF:=fun _ _ σ H _ I h=>ve ⟨σ,H,I,h⟩
theorem ai(h1:PS X st t)(h2:KZ X aH u):KZ X (st::aH) (dF t u):=by
 intro aw s σ H D I h;refine wpAny_execs_cons (jK (h1 aw s σ H {D with nx:=u D} I h) fun f s1 q=>?_);cases f with
 |next=>obtain⟨σ',H',I',q⟩:=q;exact h2 aw s1 σ' H' D I' q
 |ret v=>exact q
 |brk=>exact q
 |cont=>exact q
theorem aq(h1:PS X st t):KZ X [st] t:=by
 intro aw s σ H D I h;refine wpAny_execs_cons (jK (h1 aw s σ H D I h) fun f s1 q=>?_);cases f with
 |next=>exact ve q
 |ret v=>exact q
 |brk=>exact q
 |cont=>exact q
theorem cM.quiet{aw:PL}{σ:St}{H:Hp}{s:aB}(I:cM X aw σ H s):interactive X.bS=false:=by simp[interactive,I.ok.kind]
def ZlK(te:TE):TS:=fun D σ H=>te σ H fun _ H1=>D.nx σ H1
theorem dm(he:PE X e te)(hs:BP e none pos.line X.bS=pure false:=by rfl):PS X (.Expr e pos) (ZlK te):=by intro aw s σ H D I h;exact wpAny_Expr_any (jK (he aw s σ H _ I h) fun v s1 ⟨x,H1,I1,r1,q1⟩=> ⟨σ,H1,I1,q1⟩) I.quiet hs
def Zbr(te:TE):TS:=fun D σ H=>te σ H D.rt
theorem aN(he:PE X e te):PS X (.Return (some e) pos) (Zbr te):=by intro aw s σ H D I h;exact wpAny_Return_some (jK (he aw s σ H _ I h) fun v s1 ⟨x,H1,I1,r1,q1⟩=> ⟨x,σ,H1,I1,r1,q1⟩)
def ZlL(c:TT)(t u:TS):TS:=fun D σ H=>c σ H fun b H1=>if b=true then t D σ H1 else u D σ H1
theorem bK{c:Expr}{a b:List cy}{tc:TT}(hc:PT X c tc)(ha:KZ X a t)(hb:KZ X b u):PS X (.If c a b pos) (ZlL tc t u):=by
 intro aw s σ H D I h;refine wpAny_If (jK (hc aw s σ H _ I h) fun d s1 ⟨H1,I1,q1⟩=>?_);cases d with
 |true=>exact ha aw s1 σ H1 D I1 q1
 |false=>exact hb aw s1 σ H1 D I1 q1
def Zjg:TS:=fun _ _ _=>False
theorem Ba{sts:List cy}:KZ X sts Zjg:=fun _ _ _ _ _ _ h=>h.elim
end
abbrev TG:=V->St->Hp->(St->Hp->Prop)->Prop
abbrev TGs:=List V->St->Hp->(St->Hp->Prop)->Prop
def PG{K:ae}(X:Cx K)(IZ:Expr)(t:TG):Prop:=∀(aw:PL)(s:aB)(σ:St)(H:Hp)(v:V)(u:aj)(Q:St->Hp->Prop),cM X aw σ H s->gg v u->t v σ H Q->bZ (b7 X.prog X.w) X.A (assign IZ X.bS u) (fun _ s'=> ∃σ' H',cM X aw σ' H' s'/\Q σ' H') X.xe s
def PGs{K:ae}(X:Cx K)(ts:List Expr)(t:TGs):Prop:=∀(aw:PL)(s:aB)(σ:St)(H:Hp)(vs:List V)(us:List aj)(Q:St->Hp->Prop),cM X aw σ H s->fA vs us->t vs σ H Q->bZ (b7 X.prog X.w) X.A (assignInOrder ((OX ts X.bS).map (·.2)) us) (fun _ s'=> ∃σ' H',cM X aw σ' H' s'/\Q σ' H') X.xe s
section
variable{K:ae}{X:Cx K}{pos:Pos}
def BX(i:Nat):TG:=fun v σ H Q=>Q (σ.set i (some v)) H
theorem gW{i:Nat}{x:Str}(hN:X.N.Nodup)(hi:X.N[i]? =some x:=by rfl)(hx:Loc X.bS.scope x:=by exact Or.inl Z)(hf:X.fn x=true\/X.bS.scope.names.lookup x=some .local:=by first|exact .inl rfl|exact .inr rfl|assumption):PG X (.Name x pos) (BX i):=by intro aw s σ H v u Q I r h;exact wpAny_assign_Name (Vn I hN hi hx r (fun s' I'=> ⟨_,H,I',h⟩) hf)
def Zo6:TGs:=fun vs σ H Q=>vs=[]/\Q σ H
def ZlM(t:TG)(u:TGs):TGs:=fun vs σ H Q=> ∃v r,vs=v::r/\t v σ H fun σ' H'=>u r σ' H' Q
theorem SG:PGs X [] Zo6:=by intro aw s σ H vs us Q I r h;obtain⟨e,h⟩:=h;subst e;cases r;exact assignInOrder_nil ⟨σ,H,I,h⟩
theorem vn{e:Expr}{es:List Expr}{t:TG}{u:TGs}(h1:PG X e t)(h2:PGs X es u) (hs:(OX (e::es) X.bS).map (·.2)=assign e X.bS::(OX es X.bS).map (·.2):=by rfl):PGs X (e::es) (ZlM t u):=by
 intro aw s σ H vs us Q I r h;obtain⟨v,vr,e1,h⟩:=h;subst e1;cases r with
 |cons r rr=>rw[hs];refine assignInOrder_cons (jK (h1 aw s σ H _ _ _ I r h) fun _ s1 ⟨σ1,H1,I1,q1⟩=>?_);exact h2 aw s1 σ1 H1 _ _ Q I1 rr q1
def Zo7(K:ae)(n:Nat)(t:TGs):TG:=fun v σ H Q=> ∃a xs,v= .ref a/\qU K H a xs/\xs.length=n/\t xs σ H Q
theorem YH{es:List Expr}{k:Nat}{t:TGs}{n:Nat}(hc:X.Ph=true)(h:PGs X es t) (hn:(OX es X.bS).length=n:=by rfl)(hst:(OX es X.bS).findIdx? (·.1)=none:=by rfl):PG X (.Tuple es k pos) (Zo7 K n t):=by intro aw s σ H v u Q I r hw;obtain⟨a,xs,e1,hq,hl,hw⟩:=hw;subst e1;cases r;obtain⟨fc,rv,ht,hz⟩:=I.tuple hq;refine assign_Tuple_tuple (I.ok.hd hc) ht (by simp[hn,<-hl,rv.length]) hst fun h' hx=>?_;have I1:cM X aw σ H {s with heap:=h'}:=I.mm (t':=s.toks) fun b o e=>hx b o (dU (bb.lt_size e)) e;exact h aw _ σ H xs _ Q I1 (by simpa using rv) hw
def Zbs(te:TE)(g:TG):TS:=fun D σ H=>te σ H fun x H1=>g x σ H1 D.nx
theorem bq{i:Nat}{x:Str}{e:Expr}{te:TE}{Hi:Pos}(hN:X.N.Nodup)(he:PE X e te)(hi:X.N[i]? =some x:=by rfl)(hx:Loc X.bS.scope x:=by exact Or.inl Z)(hs:BP e (some (.Name x Hi)) pos.line X.bS=pure false:=by rfl)(hf:X.fn x=true\/X.bS.scope.names.lookup x=some .local:=by first|exact .inl rfl|exact .inr rfl|assumption):PS X (.Assign [.Name x Hi] e pos) (Zbs te (BX i)):=by intro aw s σ H D I h;refine wpAny_Assign_Name (jK (he aw s σ H _ I h) fun v s1 ⟨y,H1,I1,r1,q1⟩=>?_) hs;exact Vn I1 hN hi hx r1 (fun s2 I2=> ⟨_,H1,I2,q1⟩) hf
end
section
variable{K:ae}{X:Cx K}{pos:Pos}
inductive Zji(c:TT)(tb:TS)(D:DR)(σ:St)(H:Hp):Prop
 |mk (W:Nat->St->Hp->Prop) (_:(∃m,W m σ H)) (_:∀m σ H,W m σ H->c σ H fun b H1=>if b=true then∃N:St->Hp->Prop,(∀σ' H',N σ' H'->∃m',m'<m/\W m' σ' H')/\tb {D with nx:=N,ct:=N,bk:=D.nx} σ H1 else D.nx σ H1)
theorem qc{c:Expr}{body:List cy}{tc:TT}{tb:TS}(hp:iw (b7 X.prog X.w) X.A X.bS X.xe)(hc:PT X c tc)(hb:KZ X body tb):PS X (.While c body [] pos) (Zji tc tb):=by
 intro aw s σ H D I h;obtain⟨W,⟨m0,w0⟩,ZP⟩:=h;refine wpAny_While (codeAny_whileLoop (fun n s'=> ∃σ' H',cM X aw σ' H' s'/\W n σ' H') ?_ m0 ⟨σ,H,I,w0⟩);rintro n s1 ⟨σ1,H1,I1,w1⟩;refine mh hp (jK (hc aw s1 σ1 H1 _ I1 (ZP n σ1 H1 w1)) fun b s2 ⟨H2,I2,q2⟩=>?_);cases b with
 |true=>
  obtain⟨N,hN,q2⟩:=q2;rw[ak Z];refine mh hp (jK (hb aw s2 σ1 H2 _ I2 q2) fun f s3 q3=>?_);cases f with
  |next=>obtain⟨σ3,H3,I3,n3⟩:=q3;obtain⟨m',hm,w3⟩:=hN σ3 H3 n3;exact⟨m',hm,σ3,H3,I3,w3⟩
  |cont=>obtain⟨σ3,H3,I3,n3⟩:=q3;obtain⟨m',hm,w3⟩:=hN σ3 H3 n3;exact⟨m',hm,σ3,H3,I3,w3⟩
  |brk=>exact q3
  |ret v=>exact q3
 |false=>rw[ah bc];exact ve ⟨σ1,H2,I2,q2⟩
end
structure It where
 go:Nat->Hp->Prop
 yld:Nat->Hp->V->Hp->Prop
 K4:Nat->Hp->Prop
def Mm{K:ae}(X:Cx K)(aw:PL)(H:Hp)(b:ao):Prop:=H b=none/\b≠X.bS.locals/\b∉X.fs/\(b∈X.ex\/X.O0.heap.objs.size<=b)/\(∀x c,X.bS.cells.lookup x=some c->c≠b)/\∀p∈X.pn++aw,p.1≠b
theorem cM.ZdG{K:ae}{X:Cx K}{aw:PL}{σ:St}{H H':Hp}{s:aB}{b:ao}(I:cM X aw σ H s)(hb:s.heap.objs.size<=b)(hn:H' b=none):Mm X aw H' b:=by
 refine⟨hn,Nat.ne_of_gt (cb I.lt hb),I.ZoZ hb,.inr (cc I.sz hb),fun x c e z=>?_,fun p hp z=>?_⟩
 ·obtain⟨v,q⟩:=I.cell x c e;exact absurd (cb q.lt (by rw[z];exact hb)) (eW _)
 ·exact absurd (cb (bb.lt_size (I.SW p hp).1) (by rw[z];exact hb)) (eW _)
structure ZdH(P:aV)(w:bG)(K:ae)(tg:Expr)(J:It)(fp:List ao)(it:ao)(tn:Nat->bb->Prop):Prop where
 mem:it∈fp
 obj:∀i h,tn i h->∀b∈fp,∃o,h.get? b=some o/\∀v,o.data≠ .cell v
 keep:∀i h h',tn i h->(∀b∈fp,∀o,h.get? b=some o->h'.get? b=some o)->tn i h'
 item:∀(X:Cx K),X.prog=P->X.w=w->K=K->X.Ph=true->∀(i:Nat)(aw:PL)(s:aB)(σ:St)(H:Hp)(E:VS),cM X aw σ H s->(∀b∈fp,Mm X aw H b)->tn i s.heap->J.go i H->
  bZ (b7 P w) X.A (pyNext (.ref it)) (fun r s1=> ∃u,r=some u/\
   bZ (b7 P w) X.A (ET tg (.ref it) u) (fun _ s2=> ∃x H',cM X aw σ H' s2/\gg x u/\J.yld i H x H'/\tn (i+1) s2.heap/\∀b∈fp,H' b=none) E s1) E s
 done:∀(X:Cx K),X.prog=P->X.w=w->K=K->X.Ph=true->∀(i:Nat)(aw:PL)(s:aB)(σ:St)(H:Hp)(E:VS),cM X aw σ H s->(∀b∈fp,Mm X aw H b)->tn i s.heap->J.K4 i H->
  bZ (b7 P w) X.A (pyNext (.ref it)) (fun r s1=>r=none/\cM X aw σ H s1) E s
 Y0:∀(A:cD)(i:Nat)(s:aB)(Q:VS)(E:VS),tn i s.heap->Q (.ref it) s->bZ (b7 P w) A (pyIter (.ref it)) Q E s
abbrev TI:=St->Hp->(It->Hp->Prop)->Prop
def PIE{K:ae}(X:Cx K)(aw:PL)(σ:St)(tg:Expr)(R:It->Hp->Prop)(itv:aj)(s2:aB):Prop:=∃(it:ao)(fp:List ao)(tn:Nat->bb->Prop)(J:It)(H':Hp),itv= .ref it/\cM X aw σ H' s2/\ZdH X.prog X.w K tg J fp it tn/\tn 0 s2.heap/\(∀b∈fp,Mm X aw H' b)/\R J H'
def PI{K:ae}(X:Cx K)(tg pG:Expr)(wi:TI):Prop:=∀(aw:PL)(s:aB)(σ:St)(H:Hp)(R:It->Hp->Prop),cM X aw σ H s->wi σ H R->bZ (b7 X.prog X.w) X.A (jb pG X.bS) (fun v s1=>bZ (b7 X.prog X.w) X.A (pyIter v) (PIE X aw σ tg R) X.xe s1) X.xe s
theorem ZdI{M:Model}{A:cD}{E:VS}{s:aB}{tg:Expr}{it:ao}{u:aj}{o:Obj}{n:String}{vs:Array aj}{Q:Unit->aB->Prop}(ho:s.heap.get? it=some o)(hc:o.cls= .type n)(hd:o.data= .fields vs) (hn:["enumerate","zip","dict_itemiterator","dict_reverseitemiterator","odict_iterator","itertools.zip_longest","itertools.pairwise"].contains n=false)(hQ:Q () s):bZ M A (ET tg (.ref it) u) Q E s:=by
 unfold ET;cases tg<;>first
  |exact dG hQ
  |(cases u<;>first
   |exact dG hQ
   |(refine bA (wpAny_load ho ?_);rw[hc,hd];show bZ M A (if(["enumerate","zip","dict_itemiterator","dict_reverseitemiterator","odict_iterator","itertools.zip_longest","itertools.pairwise"].contains n&&vs[0]? ==some (Z3 _))=true then _ else _) Q E s;rw[ah (by intro h;rw[hn,vf]at h;cases h)];exact dG hQ))
def Itl(K:ae)(a:ao):It:=⟨fun i H=> ∃xs x,ft K H a xs/\xs[i]? =some x,fun i H x H'=>H'=H/\∀xs,ft K H a xs->xs[i]? =some x,fun i H=> ∃xs,ft K H a xs/\xs.length<=i⟩
def Itt(K:ae)(a:ao):It:=⟨fun i H=> ∃xs x,qU K H a xs/\xs[i]? =some x,fun i H x H'=>H'=H/\∀xs,qU K H a xs->xs[i]? =some x,fun i H=> ∃xs,qU K H a xs/\xs.length<=i⟩
noncomputable def Itr(lo:Int)(n:Nat):It:=⟨fun i _=>i<n,fun i H x H'=>H'=H/\x= .int (lo+i),fun i _=>n<=i⟩
theorem Zbt{P:aV}{w:bG}{K:ae}{tg:Expr}(a it:ao):ZdH P w K tg (Itl K a) [it] it (fun i h=>h.IsListIter it a i)where
 mem:=by simp
 obj:=fun i h st b hb=>by
  have e:b=it:=by simpa using hb
  subst e;obtain⟨o,e,c,d⟩:=st;exact⟨o,e,fun v z=>by rw[d]at z;cases z⟩
 keep:=fun i h h' st k=>st.at fun o e=>k it (by simp) o e;item:=by intro X hP hw hK hc i aw s σ H E I hf st hg;subst hP hw;obtain⟨xs,x,hq,hx⟩:=hg;obtain⟨fc,rv,p,hz⟩:=I.list hq;obtain⟨u,hu,ru⟩:=rv.get hx;obtain⟨f0,f1,f2,f3,f4,f5⟩:=hf it (by simp);refine wpAny_pyNext_list_item st p.isList (x:=u) (by simpa using hu) fun h' st' sb=>?_;have I1:cM X aw σ H {s with heap:=h'}:=I.wq (t':=s.toks) (fun b o hb e=> (sb.2 b hb).trans e) f0 f1 f3 f4 f5;obtain⟨o,e,c,d⟩:=id st';exact⟨u,Z,ZdI (s:={s with heap:=h'}) e c d (by decide) ⟨x,H,I1,ru,⟨Z,fun ys hy=>by rw[I.Vp hy hq];exact hx⟩,st',fun b hb=> (hf b hb).1⟩⟩
 done:=by intro X hP hw hK hc i aw s σ H E I hf st hg;subst hP hw;obtain⟨xs,hq,hx⟩:=hg;obtain⟨fc,rv,p,hz⟩:=I.list hq;obtain⟨f0,f1,f2,f3,f4,f5⟩:=hf it (by simp);have hl:=rv.length;exact wpAny_pyNext_list_end (I.ok.hd hc) st p.isList (by simp;omega) fun h' eb=> ⟨Z,I.wq (t':=s.toks) (fun b o hb e=>eb b o hb e) f0 f1 f3 f4 f5⟩
 Y0:=fun _ _ _ _ _ st h=>wpAny_pyIter_listiter st h
theorem YI{P:aV}{w:bG}{K:ae}{tg:Expr}(a it:ao):ZdH P w K tg (Itt K a) [it] it (fun i h=>h.IsTupleIter it a i)where
 mem:=by simp
 obj:=fun i h st b hb=>by
  have e:b=it:=by simpa using hb
  subst e;obtain⟨o,e,c,d⟩:=st;exact⟨o,e,fun v z=>by rw[d]at z;cases z⟩
 keep:=fun i h h' st k=>st.at fun o e=>k it (by simp) o e;item:=by intro X hP hw hK hc i aw s σ H E I hf st hg;subst hP hw;obtain⟨xs,x,hq,hx⟩:=hg;obtain⟨fc,rv,p,hz⟩:=I.tuple hq;obtain⟨u,hu,ru⟩:=rv.get hx;obtain⟨f0,f1,f2,f3,f4,f5⟩:=hf it (by simp);refine wpAny_pyNext_tuple_item st (show s.heap.IsTuple a fc.toArray from p) (x:=u) (by simpa using hu) fun h' st' sb=>?_;have I1:cM X aw σ H {s with heap:=h'}:=I.wq (t':=s.toks) (fun b o hb e=> (sb.2 b hb).trans e) f0 f1 f3 f4 f5;obtain⟨o,e,c,d⟩:=id st';exact⟨u,Z,ZdI (s:={s with heap:=h'}) e c d (by decide) ⟨x,H,I1,ru,⟨Z,fun ys hy=>by rw[I.Zbq hy hq];exact hx⟩,st',fun b hb=> (hf b hb).1⟩⟩
 done:=by intro X hP hw hK hc i aw s σ H E I hf st hg;subst hP hw;obtain⟨xs,hq,hx⟩:=hg;obtain⟨fc,rv,p,hz⟩:=I.tuple hq;obtain⟨f0,f1,f2,f3,f4,f5⟩:=hf it (by simp);have hl:=rv.length;exact wpAny_pyNext_tuple_end (I.ok.hd hc) st (show s.heap.IsTuple a fc.toArray from p) (by simp;omega) fun h' eb=> ⟨Z,I.wq (t':=s.toks) (fun b o hb e=>eb b o hb e) f0 f1 f3 f4 f5⟩
 Y0:=fun _ _ _ _ _ st h=>wpAny_pyIter_tupleiter st h
theorem YJ{P:aV}{w:bG}{K:ae}{tg:Expr}(it:ao)(lo:Int)(n:Nat):ZdH P w K tg (Itr lo n) [it] it (fun i h=>IsRangeIter h it (lo+(i:Nat)*1) ((n:Int)-(i:Nat)) 1)where
 mem:=by simp
 obj:=fun i h st b hb=>by
  have e:b=it:=by simpa using hb
  subst e;exact⟨_,st,fun v z=>by have z':Data.fields _=Data.cell v:=z;cases z'⟩
 keep:=fun i h h' st k=>k it (by simp) _ st;item:=by intro X hP hw hK hc i aw s σ H E I hf st hg;subst hP hw;obtain⟨f0,f1,f2,f3,f4,f5⟩:=hf it (by simp);have W:=Walks.range (prog:=X.prog) (w:=X.w) (I.ok.hd hc) it lo 1 n;refine W.item i s _ _ hg st fun v h' tk hv st' kk=>?_;obtain⟨t,rfl⟩:=hv;have I1:cM X aw σ H {s with heap:=h',toks:=tk}:=I.wq (fun b o hb e=>kk b o (by simpa using hb) e) f0 f1 f3 f4 f5;refine⟨_,Z,ZdI (s:={s with heap:=h',toks:=tk}) (n:="range_iterator") st' Z Z (by decide) ⟨.int (lo+i),H,I1,⟨t,?_⟩,⟨Z,Z⟩,st',fun b hb=> (hf b hb).1⟩⟩;rw[Int.mul_one]
 done:=by intro X hP hw hK hc i aw s σ H E I hf st hg;subst hP hw;obtain⟨f0,f1,f2,f3,f4,f5⟩:=hf it (by simp);exact wpAny_pyNext_range_end (I.ok.hd hc) st (by have:n<=i:=hg;omega) fun h' eb=> ⟨Z,I.wq (t':=s.toks) (fun b o hb e=>eb b o hb e) f0 f1 f3 f4 f5⟩
 Y0:=fun _ _ _ _ _ st h=>wpAny_pyIter_rangeiter st h
section
variable{K:ae}{X:Cx K}{tg:Expr}
def Zik(K:ae)(tl:TE):TI:=fun σ H R=>tl σ H fun x H1=> ∃a,x= .ref a/\(∃xs,ft K H1 a xs)/\R (Itl K a) H1
def Zo8(K:ae)(tl:TE):TI:=fun σ H R=>tl σ H fun x H1=> ∃a,x= .ref a/\(∃xs,qU K H1 a xs)/\R (Itt K a) H1
theorem kT{l:Expr}{tl:TE}(hl:PE X l tl):PI X tg l (Zik K tl):=by
 intro aw s σ H R I h;refine jK (hl aw s σ H _ I h) fun v s1 ⟨x,H1,I1,r1,q1⟩=>?_;obtain⟨a,e,⟨xs,hq⟩,q⟩:=q1;subst e;cases r1;obtain⟨fc,rv,p,hz⟩:=I1.list hq;refine wpAny_pyIter_list p.isList ?_;refine⟨s1.heap.objs.size,[s1.heap.objs.size],_,_,H1,Z,I1.mm (t':=s1.toks) fun b o e=>bb.get?_push_of_some _ e,Zbt a _,⟨_,bb.get?_push_size _ Z,Z,Z⟩,fun b hb=>?_,q⟩;have e:b=s1.heap.objs.size:=by simpa using hb
 subst e;exact I1.ZdG (aC _) (I1.fN.gE (aC _))
theorem Zjj{l:Expr}{tl:TE}(hl:PE X l tl):PI X tg l (Zo8 K tl):=by
 intro aw s σ H R I h;refine jK (hl aw s σ H _ I h) fun v s1 ⟨x,H1,I1,r1,q1⟩=>?_;obtain⟨a,e,⟨xs,hq⟩,q⟩:=q1;subst e;cases r1;obtain⟨fc,rv,p,hz⟩:=I1.tuple hq;refine wpAny_pyIter_tuple (show s1.heap.IsTuple a fc.toArray from p) ?_;refine⟨s1.heap.objs.size,[s1.heap.objs.size],_,_,H1,Z,I1.mm (t':=s1.toks) fun b o e=>bb.get?_push_of_some _ e,YI a _,⟨_,bb.get?_push_size _ Z,Z,Z⟩,fun b hb=>?_,q⟩;have e:b=s1.heap.objs.size:=by simpa using hb
 subst e;exact I1.ZdG (aC _) (I1.fN.gE (aC _))
theorem ZdJ{aw:PL}{σ:St}{H:Hp}{s:aB}{R:It->Hp->Prop}{E:VS}{lo hi:Int}{t u v:Tok}{tk:Nat}(I:cM X aw σ H s)(h1: -(2^62)<=lo)(h2:lo<2^62)(h3: -(2^62)<=hi)(h4:hi<2^62) (q:R (Itr lo (hi-lo).toNat) H):bZ (b7 X.prog X.w) X.A (pyIter (.ref s.heap.objs.size)) (PIE X aw σ tg R) E {s with heap:=s.heap.push {cls:= .type "range",data:= .fields #[.int lo t,.int hi u,.int 1 v]},toks:=tk}:=by
 refine wpAny_pyIter_range (IsRange.new ..) (small_one h1 h2 h3 h4) ?_;have I1:cM X aw σ H {s with heap:=s.heap.push {cls:= .type "range",data:= .fields #[.int lo t,.int hi u,.int 1 v]},toks:=tk}:=I.mm fun b o e=>bb.get?_push_of_some _ e;refine⟨(s.heap.push {cls:= .type "range",data:= .fields #[.int lo t,.int hi u,.int 1 v]}).objs.size,[(s.heap.push {cls:= .type "range",data:= .fields #[.int lo t,.int hi u,.int 1 v]}).objs.size],_,_,H,Z,I1.mm (t':=tk) fun b o e=>bb.get?_push_of_some _ e,YJ _ lo (hi-lo).toNat,?_,fun b hb=>?_,q⟩
 ·have e1:lo+((0:Nat):Int)*1=lo:=by simp
  have e2:(((hi-lo).toNat:Nat):Int)-((0:Nat):Int)=Builtin.Range.rangeSize lo hi 1:=by rw[rangeSize_one];split<;>omega
  show IsRangeIter _ _ (lo+((0:Nat):Int)*1) ((((hi-lo).toNat:Nat):Int)-((0:Nat):Int)) 1;rw[e1,e2];exact bb.get?_push_size _ Z
 ·have e:b=(s.heap.push {cls:= .type "range",data:= .fields #[.int lo t,.int hi u,.int 1 v]}).objs.size:=by simpa using hb
  subst e;exact I1.ZdG (aC _) (I1.fN.gE (aC _))
def ZlO(ta:TA):TI:=fun σ H R=>ta σ H fun vs H1=> ∃j:Int,vs=[.int j]/\ -(2^62)<=j/\j<2^62/\R (Itr 0 j.toNat) H1
theorem QV{a:Expr}{ta:TA}{p pos:Pos}(hg:Gl X "range")(hm:X.mg "range" =none)(ha:PA X [a] ta)(hs:bY [a] X.bS=[(false,jb a X.bS)]:=by rfl):PI X tg (.Call (.Name "range" p) [a] [] pos) (ZlO ta):=by
 intro aw s σ H R I h;refine Call_ (SD I hg hm boot_range (qQ (jK (ha pos aw s σ H _ I h) fun us s1 ⟨vs,H1,I1,r1,q1⟩=>?_) hs Z));obtain⟨j,e,q1,q2,q⟩:=q1;subst e;cases r1 with
 |cons r rr=>cases rr;obtain⟨t,rfl⟩:=r;exact call_range_1 (ZdJ I1 (by omega) (by omega) q1 q2 (by simpa using q))
def ZlP(wi:TI)(g:TG)(tb:TS):TS:=fun D σ H=>wi σ H fun J H1=> ∃W:Nat->Nat->St->Hp->Prop,(∃m,W 0 m σ H1)/\∀i m σ H,W i m σ H->(J.K4 i H/\D.nx σ H)\/(J.go i H/\∃N:St->Hp->Prop,(∀σ' H',N σ' H'->∃m',m'<m/\W (i+1) m' σ' H')/\∀x H',J.yld i H x H'->g x σ H' fun σ2 H2=>tb {D with nx:=N,ct:=N,bk:=D.nx} σ2 H2)
noncomputable def Mn(fp:List ao)(h:bb):PL:=fp.filterMap fun b=> (h.get? b).map fun o=> (b,o)
theorem DS{fp:List ao}{h:bb}{b:ao}{o:Obj}(hb:b∈fp)(e:h.get? b=some o):(b,o)∈Mn fp h:=Jh.mpr ⟨b,hb,by rw[e];rfl⟩
theorem Zbu{fp:List ao}{h:bb}{p:ao×Obj}(hp:p∈Mn fp h):p.1∈fp/\h.get? p.1=some p.2:=by
 obtain⟨b,hb,e⟩:=Jh.mp hp;cases q:h.get? b with
 |none=>rw[q]at e;cases e
 |some o=>rw[q]at e;have e':(b,o)=p:=af e;subst e';exact⟨hb,q⟩
theorem cM.qV{aw:PL}{σ:St}{H:Hp}{s:aB}{fp:List ao}(I:cM X aw σ H s)(hf:∀b∈fp,Mm X aw H b)(ho:∀b∈fp,∃o,s.heap.get? b=some o/\∀v,o.data≠ .cell v):cM X (aw++Mn fp s.heap) σ H s:=I.Z6 fun p hp=> (cz.mp hp).elim (fun z=>I.SW p (fq _ z)) fun z=>by obtain⟨hb,e⟩:=Zbu z;obtain⟨f0,f1,f2,_⟩:=hf p.1 hb;obtain⟨o,e',d⟩:=ho p.1 hb;rw[e]at e';cases e';exact⟨e,f0,f1,f2,d⟩
theorem cM.vo{aw pl:PL}{σ:St}{H:Hp}{s:aB}(I:cM X (aw++pl) σ H s):cM X aw σ H s:=I.Z6 fun p hp=>I.SW p (fq _ (mF _ hp))
theorem lC{pG:Expr}{body:List cy}{wi:TI}{g:TG}{tb:TS}{pos:Pos}(hp:iw (b7 X.prog X.w) X.A X.bS X.xe)(hc:X.Ph=true)(hi:PI X tg pG wi)(hg:PG X tg g)(hb:KZ X body tb) (hs:∀x,yu pG X.bS x=pure x:=by intro _;rfl):PS X (.For tg pG body [] pos) (ZlP wi g tb):=by
 intro aw s σ H D I h;refine wpAny_For (jK (hi aw s σ H _ I h) fun v s1 h1=>jK h1 fun itv s2 h2=>?_) hs;obtain⟨it,fp,tn,J,H2,e,I2,T,st2,f2,W,⟨m0,w0⟩,ZP⟩:=h2;subst e;have ZQ:∀{H':Hp},(∀b∈fp,H' b=none)->∀b∈fp,Mm X aw H' b:=fun hn b hb=> ⟨hn b hb,(f2 b hb).2⟩;refine codeAny_forLoop_any (fun n s'=> ∃i σ' H',cM X aw σ' H' s'/\tn i s'.heap/\(∀b∈fp,H' b=none)/\W i n σ' H') ?_ m0 ⟨0,σ,H2,I2,st2,fun b hb=> (f2 b hb).1,w0⟩;rintro n s3 ⟨i,σ3,H3,I3,st3,fr3,w3⟩;rcases ZP i n σ3 H3 w3 with⟨K4,qn⟩|⟨go,N,hN,step⟩
 ·refine mh hp (jK (T.done X Z Z Z hc i aw s3 σ3 H3 X.xe I3 (ZQ fr3) st3 K4) fun r s4 ⟨hr,I4⟩=>?_);subst hr;exact ve ⟨σ3,H3,I4,qn⟩
 ·refine mh hp (jK (T.item X Z Z Z hc i aw s3 σ3 H3 X.xe I3 (ZQ fr3) st3 go) fun r s4 ⟨u,hr,h4⟩=>?_);subst hr;refine mh hp (jK h4 fun _ s5 ⟨x,H5,I5,r5,y5,st5,fr5⟩=>?_);have I5':=I5.qV (ZQ fr5) (T.obj _ _ st5);refine mh hp (jK (hg _ s5 σ3 H5 x u _ I5' r5 (step x H5 y5)) fun _ s6 ⟨σ6,H6,I6,q6⟩=>?_);refine mh hp (jK (hb _ s6 σ6 H6 _ I6 q6) fun f s7 q7=>?_);have again:∀{σ7:St}{H7:Hp},cM X (aw++Mn fp s5.heap) σ7 H7 s7->N σ7 H7->∃m,m<n/\∃i σ' H',cM X aw σ' H' s7/\tn i s7.heap/\(∀b∈fp,H' b=none)/\W i m σ' H':=fun{σ7 H7} I7 n7=>by obtain⟨m',hm,w7⟩:=hN σ7 H7 n7;refine⟨m',hm,i+1,σ7,H7,I7.vo,T.keep _ _ _ st5 fun b hb o e=> (I7.SW (b,o) (fq _ (fq _ (DS hb e)))).1,fun b hb=>?_,w7⟩;obtain⟨o,e,d⟩:=T.obj _ _ st5 b hb;exact(I7.SW (b,o) (fq _ (fq _ (DS hb e)))).2.1
  cases f with
  |next=>obtain⟨σ7,H7,I7,n7⟩:=q7;exact again I7 n7
  |cont=>obtain⟨σ7,H7,I7,n7⟩:=q7;exact again I7 n7
  |brk=>obtain⟨σ7,H7,I7,q7⟩:=q7;exact⟨σ7,H7,I7.vo,q7⟩
  |ret v=>obtain⟨x7,σ7,H7,I7,r7,q7⟩:=q7;exact⟨x7,σ7,H7,I7.vo,r7,q7⟩
end
theorem lE{K:ae}{a:ao}{xs:List V}{g:TG}{tb:TS}{D:DR}{σ:St}{H:Hp}(Pv:Nat->St->Hp->Prop)(h0:Pv 0 σ H)(hl:∀i σ H,i<=xs.length->Pv i σ H->ft K H a xs) (hs:∀i x σ H,xs[i]? =some x->Pv i σ H->g x σ H fun σ2 H2=>tb {D with nx:=Pv (i+1),ct:=Pv (i+1),bk:=D.nx} σ2 H2)(hd:∀σ H,Pv xs.length σ H->D.nx σ H):∃W:Nat->Nat->St->Hp->Prop,(∃m,W 0 m σ H)/\∀i m σ H,W i m σ H->((Itl K a).K4 i H/\D.nx σ H)\/((Itl K a).go i H/\∃N:St->Hp->Prop,(∀σ' H',N σ' H'->∃m',m'<m/\W (i+1) m' σ' H')/\∀x H',(Itl K a).yld i H x H'->g x σ H' fun σ2 H2=>tb {D with nx:=N,ct:=N,bk:=D.nx} σ2 H2):=by
 refine⟨fun i m σ H=>m=xs.length-i/\i<=xs.length/\Pv i σ H,⟨xs.length,by simp,bB _,h0⟩,?_⟩;rintro i m σ H ⟨rfl,hi,p⟩;have q:=hl i σ H hi p;by_cases qR:i<xs.length
 ·refine .inr ⟨⟨xs,xs[i],q,by simp[qR]⟩,Pv (i+1),fun σ' H' p'=> ⟨xs.length-(i+1),by omega,Z,qR,p'⟩,fun x H' y=>?_⟩;obtain⟨e,y⟩:=y;subst e;exact hs i x σ _ (y xs q) p
 ·have e:i=xs.length:=by omega
  subst e;exact .inl ⟨⟨xs,q,aC _⟩,hd σ H p⟩
theorem Zgx{K:ae}{a:ao}{xs:List V}{g:TG}{tb:TS}{D:DR}{σ:St}{H:Hp}(Pv:Nat->St->Hp->Prop)(h0:Pv 0 σ H)(hl:∀i σ H,i<=xs.length->Pv i σ H->qU K H a xs) (hs:∀i x σ H,xs[i]? =some x->Pv i σ H->g x σ H fun σ2 H2=>tb {D with nx:=Pv (i+1),ct:=Pv (i+1),bk:=D.nx} σ2 H2)(hd:∀σ H,Pv xs.length σ H->D.nx σ H):∃W:Nat->Nat->St->Hp->Prop,(∃m,W 0 m σ H)/\∀i m σ H,W i m σ H->((Itt K a).K4 i H/\D.nx σ H)\/((Itt K a).go i H/\∃N:St->Hp->Prop,(∀σ' H',N σ' H'->∃m',m'<m/\W (i+1) m' σ' H')/\∀x H',(Itt K a).yld i H x H'->g x σ H' fun σ2 H2=>tb {D with nx:=N,ct:=N,bk:=D.nx} σ2 H2):=by
 refine⟨fun i m σ H=>m=xs.length-i/\i<=xs.length/\Pv i σ H,⟨xs.length,by simp,bB _,h0⟩,?_⟩;rintro i m σ H ⟨rfl,hi,p⟩;have q:=hl i σ H hi p;by_cases qR:i<xs.length
 ·refine .inr ⟨⟨xs,xs[i],q,by simp[qR]⟩,Pv (i+1),fun σ' H' p'=> ⟨xs.length-(i+1),by omega,Z,qR,p'⟩,fun x H' y=>?_⟩;obtain⟨e,y⟩:=y;subst e;exact hs i x σ _ (y xs q) p
 ·have e:i=xs.length:=by omega
  subst e;exact .inl ⟨⟨xs,q,aC _⟩,hd σ H p⟩
theorem QW{lo:Int}{n:Nat}{g:TG}{tb:TS}{D:DR}{σ:St}{H:Hp}(Pv:Nat->St->Hp->Prop)(h0:Pv 0 σ H) (hs:∀i σ H,i<n->Pv i σ H->g (.int (lo+i)) σ H fun σ2 H2=>tb {D with nx:=Pv (i+1),ct:=Pv (i+1),bk:=D.nx} σ2 H2)(hd:∀σ H,Pv n σ H->D.nx σ H):∃W:Nat->Nat->St->Hp->Prop,(∃m,W 0 m σ H)/\∀i m σ H,W i m σ H->((Itr lo n).K4 i H/\D.nx σ H)\/((Itr lo n).go i H/\∃N:St->Hp->Prop,(∀σ' H',N σ' H'->∃m',m'<m/\W (i+1) m' σ' H')/\∀x H',(Itr lo n).yld i H x H'->g x σ H' fun σ2 H2=>tb {D with nx:=N,ct:=N,bk:=D.nx} σ2 H2):=by
 refine⟨fun i m σ H=>m=n-i/\i<=n/\Pv i σ H,⟨n,by simp,bB _,h0⟩,?_⟩;rintro i m σ H ⟨rfl,hi,p⟩;by_cases qR:i<n
 ·refine .inr ⟨qR,Pv (i+1),fun σ' H' p'=> ⟨n-(i+1),by omega,Z,qR,p'⟩,fun x H' y=>?_⟩;obtain⟨e,y⟩:=y;subst e y;exact hs i σ _ qR p
 ·have e:i=n:=by omega
  subst e;exact .inl ⟨aC _,hd σ H p⟩
abbrev R2:=V->V->Hp->VK->Prop
def uL{K:ae}(X:Cx K)(f:aj->aj->Sem aj)(r:R2):Prop:=∀(aw:PL)(s:aB)(σ:St)(H:Hp)(x y:V)(v u:aj)(Q:VK),cM X aw σ H s->gg x v->gg y u->r x y H Q->bZ (b7 X.prog X.w) X.A (f v u) (EP X aw σ Q) X.xe s
def UnR{K:ae}(X:Cx K)(f:aj->Sem aj)(r:V->Hp->VK->Prop):Prop:=∀(aw:PL)(s:aB)(σ:St)(H:Hp)(x:V)(v:aj)(Q:VK),cM X aw σ H s->gg x v->r x H Q->bZ (b7 X.prog X.w) X.A (f v) (EP X aw σ Q) X.xe s
def EW{K:ae}(X:Cx K)(f:aj)(r:List V->Hp->VK->Prop):Prop:=∀(aw:PL)(s:aB)(σ:St)(H:Hp)(xs:List V)(us:List aj)(Q:VK),cM X aw σ H s->fA xs us->r xs H Q->bZ (b7 X.prog X.w) X.A (call f us) (EP X aw σ Q) X.xe s
def tOp(r:R2)(ta tb:TE):TE:=fun σ H Q=>ta σ H fun x H1=>tb σ H1 fun y H2=>r x y H2 Q
def tUn(r:V->Hp->VK->Prop)(ta:TE):TE:=fun σ H Q=>ta σ H fun x H1=>r x H1 Q
inductive rI(C:Int->Int->Prop)(g:Int->Int->V)(x:V)(y:V)(H:Hp)(Q:VK):Prop
 |mk (i:_) (j:_) (_:x= .int i) (_:y= .int j) (_:C i j) (_:Q (g i j) H)
inductive rI0(g:Int->Int->V)(x:V)(y:V)(H:Hp)(Q:VK):Prop
 |mk (i:_) (j:_) (_:x= .int i) (_:y= .int j) (_:Q (g i j) H)
inductive rU(g:Int->V)(x:V)(H:Hp)(Q:VK):Prop
 |mk (i:_) (_:x= .int i) (_:Q (g i) H)
section
variable{K:ae}{X:Cx K}{a b c:Expr}{ta tb tc:TE}{pos:Pos}
theorem Zjk(ha:PE X a ta)(hb:PE X b tb){aw:PL}{s:aB}{σ:St}{H:Hp}{R:V->V->Hp->Prop}(I:cM X aw σ H s) (h:ta σ H fun x H1=>tb σ H1 fun y H2=>R x y H2){Q:VS}{f:aj->aj->Sem aj} (hf:∀v u s2 x y H2,cM X aw σ H2 s2->gg x v->gg y u->R x y H2->bZ (b7 X.prog X.w) X.A (f v u) Q X.xe s2):bZ (b7 X.prog X.w) X.A (jb a X.bS) (fun v s₁=>bZ (b7 X.prog X.w) X.A (jb b X.bS) (fun u s₂=>bZ (b7 X.prog X.w) X.A (f v u) Q X.xe s₂) X.xe s₁) X.xe s:=by refine jK (ha aw s σ H _ I h) fun v s1 ⟨x,H1,I1,r1,q1⟩=>?_;refine jK (hb aw s1 σ H1 _ I1 q1) fun u s2 ⟨y,H2,I2,r2,q2⟩=>?_;exact hf v u s2 x y H2 I2 r1 r2 q2
theorem iu{op:Operator}{r:R2}(ho:uL X (QL op) r)(ha:PE X a ta)(hb:PE X b tb):PE X (.BinOp a op b pos) (tOp r ta tb):=by intro aw s σ H Q I h;exact wpAny_BinOp (Zjk ha hb I h fun v u s2 x y H2 I2 rx ry q=>ho aw s2 σ H2 x y v u Q I2 rx ry q)
theorem QX{op:UnaryOp}{r:V->Hp->VK->Prop}(ho:UnR X (unaryOp op) r)(ha:PE X a ta):PE X (.UnaryOp op a pos) (tUn r ta):=by intro aw s σ H Q I h;exact UnaryOp_ (jK (ha aw s σ H _ I h) fun v s1 ⟨x,H1,I1,r1,q1⟩=>ho aw s1 σ H1 x v Q I1 r1 q1)
theorem opI{f:aj->aj->Sem aj}{C:Int->Int->Prop}{g:Int->Int->Int} (rule:∀(i j:Int)(t u:Tok)(s:aB)(Q:VS)(E:VS),C i j->Q (.int (g i j) s.toks) {s with toks:=s.toks+1}->bZ (b7 X.prog X.w) X.A (f (.int i t) (.int j u)) Q E s):uL X f (rI C fun i j=> .int (g i j)):=by intro aw s σ H x y v u Q I rx ry h;obtain⟨i,j,rfl,rfl,hc,q⟩:=h;obtain⟨t,rfl⟩:=rx;obtain⟨t',rfl⟩:=ry;exact rule i j t t' s _ _ hc ⟨.int (g i j),H,I.Yl _,⟨_,Z⟩,q⟩
theorem ZlQ{f:aj->aj->Sem aj}{g:Int->Int->Int} (rule:∀(i j:Int)(t u:Tok)(s:aB)(Q:VS)(E:VS),Q (.int (g i j) s.toks) {s with toks:=s.toks+1}->bZ (b7 X.prog X.w) X.A (f (.int i t) (.int j u)) Q E s):uL X f (rI0 fun i j=> .int (g i j)):=by intro aw s σ H x y v u Q I rx ry h;obtain⟨i,j,rfl,rfl,q⟩:=h;obtain⟨t,rfl⟩:=rx;obtain⟨t',rfl⟩:=ry;exact rule i j t t' s _ _ ⟨.int (g i j),H,I.Yl _,⟨_,Z⟩,q⟩
theorem Zgy{f:aj->aj->Sem aj}{g:Int->Int->Bool} (rule:∀(i j:Int)(t u:Tok)(s:aB)(Q:VS)(E:VS),Q (.bool (g i j)) s->bZ (b7 X.prog X.w) X.A (f (.int i t) (.int j u)) Q E s):uL X f (rI0 fun i j=> .bl (g i j)):=by intro aw s σ H x y v u Q I rx ry h;obtain⟨i,j,rfl,rfl,q⟩:=h;obtain⟨t,rfl⟩:=rx;obtain⟨t',rfl⟩:=ry;exact rule i j t t' s _ _ ⟨.bl (g i j),H,I,Z,q⟩
def Zgz(i j:Int):Prop:=(-(2^64)<i/\i<2^64)\/(-(2^64)<j/\j<2^64)
theorem Zgz.ok{i j:Int}(h:Zgz i j):IntMulOk i j:=by
 rcases h with⟨h1,h2⟩|⟨h1,h2⟩
 ·exact .of_left (intBits_le_64 h1 h2)
 ·exact .of_right (intBits_le_64 h1 h2)
theorem kM:uL X (QL .Add) (rI0 fun i j=> .int (i+j)):=ZlQ fun _ _ _ _ _ _ _ q=>add_int q
theorem HJ:uL X (QL .Sub) (rI0 fun i j=> .int (i-j)):=ZlQ fun _ _ _ _ _ _ _ q=>sub_int q
theorem YK:uL X (QL .Mult) (rI Zgz fun i j=> .int (i*j)):=opI fun _ _ _ _ _ _ _ hc q=>mul_int q hc.ok
theorem unI{f:aj->Sem aj}{g:Int->Int} (rule:∀(i:Int)(t:Tok)(s:aB)(Q:VS)(E:VS),Q (.int (g i) s.toks) {s with toks:=s.toks+1}->bZ (b7 X.prog X.w) X.A (f (.int i t)) Q E s):UnR X f (rU fun i=> .int (g i)):=by intro aw s σ H x v Q I rx h;obtain⟨i,rfl,q⟩:=h;obtain⟨t,rfl⟩:=rx;exact rule i t s _ _ ⟨.int (g i),H,I.Yl _,⟨_,Z⟩,q⟩
theorem HK:UnR X (unaryOp .USub) (rU fun i=> .int (-i)):=unI fun _ _ _ _ _ q=>neg_int q
end
noncomputable def ZlR:V->V->Bool
 | .ik,.ik=>true| .ik,.int _=>true| .int _,.ik=>true| .ik,.bl _=>true| .bl _,.ik=>true| .ik,.str _=>true| .str _,.ik=>true
 | .int _,.int _=>true| .bl _,.bl _=>true| .str _,.str _=>true| .VI _,.VI _=>true
 | .int _,.str _=>true| .str _,.int _=>true| .bl _,.str _=>true| .str _,.bl _=>true
 |_,_=>false
inductive rEq(x:V)(y:V)(H:Hp)(Q:VK):Prop
 |mk (_:ZlR x y=true) (_:Q (.bl (decide (x=y))) H)
inductive rNe(x:V)(y:V)(H:Hp)(Q:VK):Prop
 |mk (_:ZlR x y=true) (_:Q (.bl (!decide (x=y))) H)
theorem Z9{i j:Int}:decide (V.int i=V.int j)=(i==j):=by rw[dI];simp
theorem ZdK{i j:Bool}:decide (V.bl i=V.bl j)=(i==j):=by rw[dI];simp
theorem Zaa{i j:Str}:decide (V.str i=V.str j)=(i==j):=by rw[dI];simp
theorem Zab{i j:Array UInt8}:decide (V.VI i=V.VI j)=(i.toList==j.toList):=by rw[dI];cases i;cases j;simp
section
variable{K:ae}{X:Cx K}{a b c:Expr}{ta tb tc:TE}{pos:Pos}
theorem gN{aw:PL}{σ:St}{H:Hp}{s:aB}{Q:VK}{k k':Bool}(I:cM X aw σ H s)(q:Q (.bl k) H)(e:k=k'):EP X aw σ Q (.bool k') s:=by subst e;exact⟨.bl k,H,I,Z,q⟩
theorem gP:uL X (di .Eq) rEq:=by
 intro aw s σ H x y v u Q I rx ry h;obtain⟨hs,q⟩:=h;cases x with
 |ik=>
  cases rx;cases y with
  |ik=>cases ry;exact PySem.EqNone.eq_none_none (gN I q (by simp))
  |bl j=>cases ry;exact PySem.EqNone.eq_none_bool (gN I q (by simp))
  |int j=>obtain⟨t',rfl⟩:=ry;exact PySem.EqNone.eq_none_int (gN I q (by simp))
  |str j=>obtain⟨t',rfl⟩:=ry;exact PySem.EqNone.eq_none_str (gN I q (by simp))
  |_=>exact absurd (show false=true from hs) bc
 |bl i=>
  cases rx;cases y with
  |ik=>cases ry;exact PySem.EqNone.eq_bool_none (gN I q (by simp))
  |bl j=>cases ry;exact eq_bool (gN I q ZdK)
  |str j=>obtain⟨t',rfl⟩:=ry;exact PySem.EqMixed.eq_bool_str (gN I q (by simp))
  |_=>exact absurd (show false=true from hs) bc
 |int i=>
  obtain⟨t,rfl⟩:=rx;cases y with
  |ik=>cases ry;exact PySem.EqNone.eq_int_none (gN I q (by simp))
  |int j=>obtain⟨t',rfl⟩:=ry;exact eq_int (gN I q Z9)
  |str j=>obtain⟨t',rfl⟩:=ry;exact PySem.EqMixed.eq_int_str (gN I q (by simp))
  |_=>exact absurd (show false=true from hs) bc
 |str i=>
  obtain⟨t,rfl⟩:=rx;cases y with
  |ik=>cases ry;exact PySem.EqNone.eq_str_none (gN I q (by simp))
  |bl j=>cases ry;exact PySem.EqMixed.eq_str_bool (gN I q (by simp))
  |int j=>obtain⟨t',rfl⟩:=ry;exact PySem.EqMixed.eq_str_int (gN I q (by simp))
  |str j=>obtain⟨t',rfl⟩:=ry;exact eq_str (gN I q Zaa)
  |_=>exact absurd (show false=true from hs) bc
 |VI i=>
  obtain⟨t,rfl⟩:=rx;cases y with
  |VI j=>obtain⟨t',rfl⟩:=ry;exact PySem.W.eq_bytes (gN I q Zab)
  |_=>exact absurd (show false=true from hs) bc
 |_=>cases y<;>exact absurd (show false=true from hs) bc
theorem BY:uL X (di .NotEq) rNe:=by
 intro aw s σ H x y v u Q I rx ry h;obtain⟨hs,q⟩:=h;cases x with
 |ik=>
  cases rx;cases y with
  |ik=>cases ry;exact PySem.EqNone.ne_none_none (gN I q (by simp))
  |bl j=>cases ry;exact PySem.EqNone.ne_none_bool (gN I q (by simp))
  |int j=>obtain⟨t',rfl⟩:=ry;exact PySem.EqNone.ne_none_int (gN I q (by simp))
  |str j=>obtain⟨t',rfl⟩:=ry;exact PySem.EqNone.ne_none_str (gN I q (by simp))
  |_=>exact absurd (show false=true from hs) bc
 |bl i=>
  cases rx;cases y with
  |ik=>cases ry;exact PySem.EqNone.ne_bool_none (gN I q (by simp))
  |bl j=>cases ry;exact ne_bool (gN I q (aA not ZdK))
  |str j=>obtain⟨t',rfl⟩:=ry;exact PySem.EqMixed.ne_bool_str (gN I q (by simp))
  |_=>exact absurd (show false=true from hs) bc
 |int i=>
  obtain⟨t,rfl⟩:=rx;cases y with
  |ik=>cases ry;exact PySem.EqNone.ne_int_none (gN I q (by simp))
  |int j=>obtain⟨t',rfl⟩:=ry;exact ne_int (gN I q (aA not Z9))
  |str j=>obtain⟨t',rfl⟩:=ry;exact PySem.EqMixed.ne_int_str (gN I q (by simp))
  |_=>exact absurd (show false=true from hs) bc
 |str i=>
  obtain⟨t,rfl⟩:=rx;cases y with
  |ik=>cases ry;exact PySem.EqNone.ne_str_none (gN I q (by simp))
  |bl j=>cases ry;exact PySem.EqMixed.ne_str_bool (gN I q (by simp))
  |int j=>obtain⟨t',rfl⟩:=ry;exact PySem.EqMixed.ne_str_int (gN I q (by simp))
  |str j=>obtain⟨t',rfl⟩:=ry;exact ne_str (gN I q (aA not Zaa))
  |_=>exact absurd (show false=true from hs) bc
 |VI i=>
  obtain⟨t,rfl⟩:=rx;cases y with
  |VI j=>obtain⟨t',rfl⟩:=ry;exact PySem.W.ne_bytes (gN I q (aA not Zab))
  |_=>exact absurd (show false=true from hs) bc
 |_=>cases y<;>exact absurd (show false=true from hs) bc
theorem Jl:uL X (di .Lt) (rI0 fun i j=> .bl (decide (i<j))):=Zgy fun _ _ _ _ _ _ _ q=>lt_int q
theorem BZ:uL X (di .LtE) (rI0 fun i j=> .bl (decide (i<=j))):=Zgy fun _ _ _ _ _ _ _ q=>le_int q
theorem oP:uL X (di .Gt) (rI0 fun i j=> .bl (decide (j<i))):=Zgy fun _ _ _ _ _ _ _ q=>gt_int q
theorem Zil:uL X (di .GtE) (rI0 fun i j=> .bl (decide (j<=i))):=Zgy fun _ _ _ _ _ _ _ q=>ge_int q
theorem uL.or{f:aj->aj->Sem aj}{r r':R2}(h:uL X f r)(h':uL X f r'):uL X f (fun x y H Q=>r x y H Q\/r' x y H Q):=by
 intro aw s σ H x y v u Q I rx ry q;rcases q with q|q
 ·exact h aw s σ H x y v u Q I rx ry q
 ·exact h' aw s σ H x y v u Q I rx ry q
theorem bw(b:Expr){op:L8}(h:op≠ .In:=by decide)(h2:op≠ .NotIn:=by decide):oM op b=false:=by
 have e1:(op==L8.In)=false:=by cases op<;>first|rfl|exact absurd rfl h
 have e2:(op==L8.NotIn)=false:=by cases op<;>first|rfl|exact absurd rfl h2
 cases b<;>simp[oM,e1,e2]
theorem mS{op:L8}{r:R2}(ho:uL X (di op) r)(ha:PE X a ta)(hb:PE X b tb)(hm:oM op b=false):PE X (.Compare a [op] [b] pos) (tOp r ta tb):=by intro aw s σ H Q I h;exact wpAny_Compare1 (Zjk ha hb I h fun v u s2 x y H2 I2 rx ry q=>ho aw s2 σ H2 x y v u Q I2 rx ry q) hm
def Zac(t:TE):TT:=fun σ H Q=>t σ H fun x H'=> ∃k,x= .bl k/\Q k H'
theorem bf{op:L8}{r:R2}(ho:uL X (di op) r)(ha:PE X a ta)(hb:PE X b tb)(hm:oM op b=false):PT X (.Compare a [op] [b] pos) (Zac (tOp r ta tb)):=by intro aw s σ H Q I h;refine wpAny_isTrue_Compare1 (jK (ha aw s σ H _ I h) fun v s1 ⟨x,H1,I1,r1,q1⟩=>jK (hb aw s1 σ H1 _ I1 q1) fun u s2 ⟨y,H2,I2,r2,q2⟩=>jK (ho aw s2 σ H2 x y v u _ I2 r1 r2 q2) fun c s3 ⟨z,H3,I3,r3,k,e,q3⟩=>?_) hm;subst e;cases r3;exact ir ⟨H3,I3,q3⟩
inductive ZgA(r':R2)(tc:TE)(σ:St)(Q:VK)(y:V)(z:V)(H3:Hp):Prop
 |mk (k:_) (_:z= .bl k) (_:(if k=true then tc σ H3 fun w' H4=>r' y w' H4 Q else Q (.bl false) H3))
def ZdL(r r':R2)(ta tb tc:TE):TE:=fun σ H Q=>ta σ H fun x H1=>tb σ H1 fun y H2=>r x y H2 fun z H3=>ZgA r' tc σ Q y z H3
theorem Mo{op op':L8}{r r':R2}(ho:uL X (di op) r)(ho':uL X (di op') r')(ha:PE X a ta)(hb:PE X b tb)(hc:PE X c tc) (hm:lastMarks [op,op'] [b,c]=false:=by with_unfolding_all rfl):PE X (.Compare a [op,op'] [b,c] pos) (ZdL r r' ta tb tc):=by
 intro aw s σ H Q I h;refine Compare_chain (jK (ha aw s σ H _ I h) fun v s1 ⟨x,H1,I1,r1,q1⟩=>chain_link (jK (hb aw s1 σ H1 _ I1 q1) fun u s2 ⟨y,H2,I2,r2,q2⟩=>jK (ho aw s2 σ H2 x y v u _ I2 r1 r2 q2) fun d s3 ⟨z,H3,I3,r3,k,e,q3⟩=>?_)) hm;subst e;cases r3;refine ir ?_;cases k with
 |false=>exact ite_ff ⟨.bl false,H3,I3,Z,q3⟩
 |true=>exact ite_tt (chain_last (jK (hc aw s3 σ H3 _ I3 q3) fun w' s4 ⟨z',H4,I4,r4,q4⟩=>ho' aw s4 σ H4 y z' u w' Q I4 r2 r4 q4))
theorem ZdM{op op':L8}{r r':R2}(ho:uL X (di op) r)(ho':uL X (di op') r')(ha:PE X a ta)(hb:PE X b tb)(hc:PE X c tc) (hm:lastMarks [op,op'] [b,c]=false:=by with_unfolding_all rfl):PT X (.Compare a [op,op'] [b,c] pos) (Zac (ZdL r r' ta tb tc)):=by
 intro aw s σ H Q I h;refine isTrue_chain (jK (ha aw s σ H _ I h) fun v s1 ⟨x,H1,I1,r1,q1⟩=>test_link (jK (hb aw s1 σ H1 _ I1 q1) fun u s2 ⟨y,H2,I2,r2,q2⟩=>jK (ho aw s2 σ H2 x y v u _ I2 r1 r2 q2) fun d s3 ⟨z,H3,I3,r3,k,e,q3⟩=>?_)) hm;subst e;cases r3;refine ir ?_;cases k with
 |false=>obtain⟨k',e',q'⟩:=q3;cases e';exact ite_ff ⟨H3,I3,q'⟩
 |true=>refine ite_tt (test_last (jK (hc aw s3 σ H3 _ I3 q3) fun w' s4 ⟨z',H4,I4,r4,q4⟩=>jK (ho' aw s4 σ H4 y z' u w' _ I4 r2 r4 q4) fun d' s5 ⟨z2,H5,I5,r5,k2,e2,q5⟩=>?_));subst e2;cases r5;exact ir ⟨H5,I5,q5⟩
theorem YL:(sizeLine:Nat)<2^63:=by rw[Vf];decide
theorem Zad{x:V}{us:List aj}(r:fA [x] us):∃u,us=[u]/\gg x u:=by
 cases r with
 |cons r1 r2=>cases r2;exact⟨_,Z,r1⟩
theorem ZlS{x y:V}{us:List aj}(r:fA [x,y] us):∃u w',us=[u,w']/\gg x u/\gg y w':=by
 cases r with
 |cons r1 r2=>
  cases r2 with
  |cons r3 r4=>cases r4;exact⟨_,_,Z,r1,r3⟩
end
structure YM(h:bb)(x dx C:ao)(mA:SV):Prop where
 obj:h.get? x=some (jB C dx)
 ns:h.Ns1 dx mA
 ne:dx≠x
theorem Zbw{h:bb}{dx:ao}{mA:SV}(n:h.Ns1 dx mA):∃od,h.get? dx=some od/\∀name,Bx name od=some (mA name):=by
 obtain⟨o,es,ep,ho,hd,hk,_,hm⟩:=n;refine⟨o,ho,fun name=>?_⟩;have e:=hm name;unfold nsFind findBy at e;rw[<-Array.find?_toList]at e;unfold Bx;rw[hd];fin2;split
 ·rename_i y q;rw[q]at e;exact aA some e
 ·rename_i q;rw[q]at e;have a:es.toList.any (·.refKey)=false:=by rw[wg];intro y hy;obtain⟨z,t,vW⟩:=hk y (Array.mem_toList_iff.mp hy);simp[Zdx.refKey,vW]
  have a':¬es.toList.any (·.refKey)=true:=by rw[a];exact bc
  rw[ah a'];exact aA some e
theorem YM.look{h:bb}{x dx C:ao}{mA:SV}(I:YM h x dx C mA):∃od,PySem.W.InstAt h x (jB C dx) C (some od)/\∀name,Bx name od=some (mA name):=let⟨od,ho,hl⟩:=Zbw I.ns;⟨od,⟨I.obj,Z,Z,ho⟩,hl⟩
section
variable{prog:aV}{w:bG}{A:cD}{E:VS}{s:aB}{K:ae}{x dx C f:ao}{mA:SV}{name:Str}{v:aj}
theorem ZgB{ZpM:Bool}{Q:VS}(X:K.In s.heap)(I:YM s.heap x dx C mA)(hg:wj K C name=true)(hh:HE K C=true) (ha:gy K (.ref C) name=some none)(hv:mA name=some v)(hv':PySem.W.handedIn v=true)(h:Q v {s with toks:=s.toks+1}):bZ (b7 prog w) A (getAttr (.ref x) name ZpM) Q E s:=by obtain⟨od,J,hl⟩:=I.look;exact PySem.W.get_value X J (DQ hg).1 (PySem.W.findObj_own hh ha Z (by rw[hl,hv])) hv' h
theorem ZdN{pl:Sem Bool}{Q:aj×List aj->aB->Prop}(X:K.In s.heap)(I:YM s.heap x dx C mA)(hg:wj K C name=true) (hf:gy K (.ref C) name=some (some (.ref f)))(ht:Vh K (.ref f)=true)(hv:mA name=none)(h:Q (.ref f,[.ref x]) s):bZ (b7 prog w) A (KW (.ref x) name pl) Q E s:=by obtain⟨od,J,hl⟩:=I.look;exact PySem.W.method_fn X J (DQ hg).1 (DQ hg).2 hf (beq_iff_eq.mp ht) (by show(Bx name od).map (·.isSome)=some false;rw[hl,hv];rfl) h
theorem ZgC{ns:LS}{Q:Unit->aB->Prop}(X:K.In s.heap)(I:YM s.heap x dx C mA) (hs:gy K (.ref C) "__setattr__" =some (some (.builtin "object.__setattr__")))(hp:PySem.W.plainOver K C=true)(ht:Mb K C name=some none)(hh:HE K C=true) (hw:YB mA ns)(hsz:ns.length<=sizeLine) (h:∀h',YM h' x dx C (fun y=>if y=name then some v else mA y)->bb.SameBut dx s.heap h'->Q () {s with heap:=h',toks:=s.toks+2}):bZ (b7 prog w) A (setAttr (.ref x) name v) Q E s:=by obtain⟨od,J,hl⟩:=I.look;refine PySem.W.set_plain X J hs (PySem.W.osa_open (s:={s with toks:=s.toks+1}) (r:=none) X J hp ht fun b=>?_);obtain⟨cd,hc,hd'⟩:=PySem.W.any_some hh;have hx:s.heap.get? x=some ⟨.ref C,some dx,.plain,#[]⟩:=I.obj;refine bA (dG (bA (bA (wpAny_loadPart hx (bA (PySem.W.Looks.here (s:={s with toks:=s.toks+1}) (PySem.W.looks_clsIn X hc) ?_))))));rw[hd'];refine dG (a:=some dx) (bA (dG (bA ?_)));refine wpAny_nsSet1 (s:={s with toks:=s.toks+1}) I.ns fun h' hn2 hs2=>?_;obtain⟨oD,esD,epD,hoD,hdD,hcD⟩:=hn2.count (YB.cons name v hw);refine bA (wpAny_lookBehind hoD (by rw[hdD];exact pastItsLine_dict (cc hcD (by rw[bg];omega))) ?_);exact dG (h _ ⟨(hs2.2 _ (eQ I.ne)).trans I.obj,hn2,I.ne⟩ hs2)
theorem ZdO{R:Result->aB->Prop}{vs:List aj}{kw:List (Str×aj)}(X:K.In s.heap)(hm:PySem.W.makesIn K C=true) (hi:gy K (.ref C) "__init__" =some (some (.ref f)))(hf:PySem.W.typeIn K (.ref f)=some (.type "function")) (h:QM (b7 prog w) (A.under (.builtin "type.__call__" ⟨.ref C::vs,kw⟩)) (.call (.ref f) ⟨.ref (s.heap.objs.size+1)::vs,kw⟩) (PySem.W.InitBack (s.heap.objs.size+1) R) {s with heap:=(s.heap.push gY).push (jB C s.heap.objs.size)}):QM (b7 prog w) A (.call (.ref C) ⟨vs,kw⟩) R s:=by obtain⟨hh,g,d,t,os⟩:=s;exact PySem.W.make_core (PySem.W.makes_of X hm) (PySem.W.looks_findIn X hi) (fun Y0=>PySem.W.bind_fn X Y0 hf) (.inl Z) h
end
noncomputable def yb(f:Str)(v:V):List (Str×V)->List (Str×V)
 |[]=>[(f,v)]
 |(g,x)::r=>if g=f then(g,v)::r else(g,x)::yb f v r
theorem Jm(f g:Str)(v:V):∀fs:List (Str×V),(yb f v fs).lookup g=if g=f then some v else fs.lookup g
 |[]=>by
  show oB g [(f,v)]=_;by_cases h:g=f
  ·have hb:(g==f)=true:=beq_iff_eq.mpr h;simp only[oB,hb,ak h]
  ·have hb:(g==f)=false:=beq_eq_false_iff_ne.mpr h;simp only[oB,hb,ah h]
 |(k,x)::r=>by
  have ih:=Jm f g v r;rw[show yb f v ((k,x)::r)=(if k=f then(k,v)::r else(k,x)::yb f v r)from Z];by_cases hk:k=f
  ·rw[ak hk];by_cases h:g=k
   ·have hb:(g==k)=true:=beq_iff_eq.mpr h;simp only[oB,hb,ak (h.trans hk)]
   ·have hb:(g==k)=false:=beq_eq_false_iff_ne.mpr h;simp only[oB,hb,ah (fun e:g=f=>h (e.trans hk.symm))]
  ·rw[ah hk];by_cases h:g=k
   ·have hb:(g==k)=true:=beq_iff_eq.mpr h;simp only[oB,hb,ah (fun e:g=f=>hk (h.symm.trans e))]
   ·have hb:(g==k)=false:=beq_eq_false_iff_ne.mpr h;simp only[oB,hb];exact ih
theorem HM(f:Str)(v:V):∀fs:List (Str×V),f∈(yb f v fs).map (·.1)/\∀g,g∈fs.map (·.1)->g∈(yb f v fs).map (·.1)
 |[]=> ⟨by simp[yb],fun g h=>by simp at h⟩
 |(k,x)::r=>by
  obtain⟨i1,i2⟩:=HM f v r;rw[show yb f v ((k,x)::r)=(if k=f then(k,v)::r else(k,x)::yb f v r)from Z];by_cases hk:k=f
  ·rw[ak hk];subst hk;exact⟨by simp,fun g h=>by simpa using h⟩
  ·rw[ah hk];refine⟨?_,fun g h=>?_⟩
   ·rw[aY];exact aG _ i1
   ·rw[aY]at h⊢;rcases aU.mp h with e|e
    ·exact aU.mpr (.inl e)
    ·exact aG _ (i2 g e)
theorem Jn(f:Str)(v:V):∀fs:List (Str×V),(yb f v fs).length<=fs.length+1
 |[]=>by simp[yb]
 |(k,x)::r=>by
  have ih:=Jn f v r;rw[show yb f v ((k,x)::r)=(if k=f then(k,v)::r else(k,x)::yb f v r)from Z];by_cases hk:k=f
  ·rw[ak hk,bg,bg];omega
  ·rw[ah hk,bg,bg];omega
theorem yz.LG{v:V}{o:Option aj}(r:yz (some v) o):∃u,o=some u/\gg v u:=by
 cases o with
 |none=>exact(show False from r).elim
 |some u=>exact⟨u,Z,r⟩
theorem yz.SH{o:Option aj}(r:yz none o):o=none:=by
 cases o with
 |none=>rfl
 |some u=>exact(show False from r).elim
theorem Zbx{v:V}{u:aj}(r:gg v u):PySem.W.handedIn u=true:=by
 cases v with
 |ik=>cases(show u=aj.none from r);rfl
 |bl b=>cases(show u=aj.bool b from r);rfl
 |int i=>obtain⟨t,e⟩:=(show∃t,u=aj.int i t from r);cases e;rfl
 |str x=>obtain⟨t,e⟩:=(show∃t,u=aj.str x t from r);cases e;rfl
 |VI b=>obtain⟨t,e⟩:=(show∃t,u=aj.bytes b t from r);cases e;rfl
 |flt b=>obtain⟨t,e⟩:=(show∃t,u=aj.float b t from r);cases e;rfl
 |ref a=>cases(show u=aj.ref a from r);rfl
 |ty n=>cases(show u=aj.type n from r);rfl
section
variable{P:aV}{w:bG}{H H':Hp}{h h':bb}{a C dx:ao}{fs fs':List (Str×V)}
theorem LH(fN:xu P w H h)(e:H a=some (.ins C dx fs)):∃mA,YM h a dx C mA/\(∀f,yz (fs.lookup f) (mA f))/\YB mA (fs.map (·.1))/\fs.length<=1000/\H dx=some (.own a):=by obtain⟨d,z,ne,ob,mA,n,r,q⟩:=(show iD P w H h a (.ins C dx fs)from fN a _ e);exact⟨mA,⟨ob,n,ne⟩,r,q,z,d⟩
end
structure HN(K:ae)(C:ao):Prop where
 pg:wj K C Str.empty=true
 hd:HE K C=true
 po:PySem.W.plainOver K C=true
 sa:gy K (.ref C) "__setattr__" =some (some (.builtin "object.__setattr__"))
theorem HN.get{K:ae}{C:ao}(c:HN K C)(f:Str):wj K C f=true:=c.pg
def dq(K:ae)(C:ao)(f:Str):Prop:=gy K (.ref C) f=some none
theorem dq.ZlT{K:ae}{C:ao}{f:Str}(n:dq K C f):Mb K C f=some none:=by unfold Mb;rw[show gy K (.ref C) f=some none from n];rfl
structure BA(K:ae)(C:ao)(m:Str)(f:ao):Prop where
 at_:gy K (.ref C) m=some (some (.ref f))
 fn:Vh K (.ref f)=true
 kp:j5 K (.ref f)=true
section
variable{K:ae}{X:Cx K}{aw:PL}{σ:St}{H:Hp}{s:aB}{a C dx:ao}{fs:List (Str×V)}{f:Str}{v:V}{A:cD}{E:VS}
theorem YN{b:Bool}{Q:VS}(I:cM X aw σ H s)(e:H a=some (.ins C dx fs))(c:HN K C)(n:dq K C f)(l:fs.lookup f=some v) (h:∀u s',cM X aw σ H s'->gg v u->Q u s'):bZ (b7 X.prog X.w) A (getAttr (.ref a) f b) Q E s:=by obtain⟨mA,O,r,_,_,_⟩:=LH I.fN e;obtain⟨u,hu,ru⟩:=yz.LG (v:=v) (o:=mA f) (by rw[<-l];exact r f);exact ZgB I.EV O (c.get f) c.hd n hu (Zbx ru) (h u _ (I.Yl _) ru)
theorem Mp{m:Str}{g:ao}{pl:Sem Bool}{Q:aj×List aj->aB->Prop}(I:cM X aw σ H s)(e:H a=some (.ins C dx fs))(c:HN K C)(k:BA K C m g)(l:fs.lookup m=none) (h:Q (.ref g,[.ref a]) s):bZ (b7 X.prog X.w) A (KW (.ref a) m pl) Q E s:=by obtain⟨mA,O,r,_,_,_⟩:=LH I.fN e;have hn:mA m=none:=yz.SH (by rw[<-l];exact r m);exact ZdN I.EV O (c.get m) k.at_ k.fn hn h
theorem YO{y:V}{u:aj}{Q:Unit->aB->Prop}(I:cM X aw σ H s)(e:H a=some (.ins C dx fs))(c:HN K C)(n:dq K C f)(hl:fs.length<1000)(ry:gg y u) (h:∀s',cM X aw σ (bp H a (.ins C dx (yb f y fs))) s'->Q () s'):bZ (b7 X.prog X.w) A (setAttr (.ref a) f u) Q E s:=by
 obtain⟨mA,O,r,wi,_,ho⟩:=LH I.fN e;have hz:(fs.map (·.1)).length<=sizeLine:=by rw[aZ,Vf];omega
 refine ZgC I.EV O c.sa c.po n.ZlT c.hd wi hz fun h' O' sb=>h _ ?_;have hd:∃o,h'.get? dx=some o:=let⟨o,_,_,e',_⟩:=O'.ns;⟨o,e'⟩
 refine I.Jk (x:=a) (e:=dx) (by rw[e];exact j0) (.inr ho) (fun b q hb z=> (sb.2 b hb).trans z) hd ?_;refine⟨by rw[aF O.ne];exact ho,?_,O.ne,O'.obj,_,O'.ns,fun g=>?_,fun g hg=>?_⟩
 ·have:=Jn f y fs;omega
 ·show yz ((yb f y fs).lookup g) (if g=f then some u else mA g);rw[Jm];by_cases q:g=f
  ·rw[ak q,ak q];exact ry
  ·rw[ah q,ah q];exact r g
 ·by_cases q:g=f
  ·rw[q];exact(HM f y fs).1
  ·refine(HM f y fs).2 g (wi g fun z=>hg ?_);show(if g=f then some u else mA g)=none;rw[ah q];exact z
theorem cM.yC(I:cM X aw σ H s):cM X aw σ (bp (bp H s.heap.objs.size (.own (s.heap.objs.size+1))) (s.heap.objs.size+1) (.ins C s.heap.objs.size [])) {s with heap:=(s.heap.push gY).push (jB C s.heap.objs.size)}:=by
 have e1:(s.heap.push gY).get? s.heap.objs.size=some gY:=bb.get?_push_size s.heap Z;have e2:((s.heap.push gY).push (jB C s.heap.objs.size)).get? (s.heap.objs.size+1)=some (jB C s.heap.objs.size):=by have:=bb.get?_push_size (s.heap.push gY) (o:=jB C s.heap.objs.size) Z;rwa[bb.size_push]at this
 have e3:(s.heap.push gY).Ns s.heap.objs.size (fun _=>none):=⟨gY,#[],_,e1,Z,(fun e he=>absurd he (by simp)),fun _=>rfl⟩;have I1:=I.dW (a:=s.heap.objs.size) (o:= .own (s.heap.objs.size+1)) (h':=s.heap.push gY) (t':=s.toks) (fun b u q=>bb.get?_push_of_some _ q) (aC _) ⟨_,e1⟩;refine I1.dW (a:=s.heap.objs.size+1) (o:= .ins C s.heap.objs.size []) (t':=s.toks) (fun b u q=>bb.get?_push_of_some _ q) (Mc (bb.size_push _ _)) ?_;have ne:s.heap.objs.size≠s.heap.objs.size+1:=dU (bT _);refine⟨by rw[aF ne,au],bB _,ne,e2,fun _=>none,(bb.Ns1.of_empty e3).at fun o q=>bb.get?_push_of_some _ q,fun _=>j0,fun y hy=>absurd Z hy⟩
theorem ZgD{prog:aV}{w:bG}{bS:Env}{e:Expr}{f:Str}{pos:Pos}{s:aB}{Q:VS}(hb:L9 e f bS (jb e bS)=jb e bS) (h:bZ (b7 prog w) A (jb e bS) (fun o s₁=>bZ (b7 prog w) A (getAttr o f true) Q E s₁) E s):bZ (b7 prog w) A (jb (.Attribute e f pos) bS) Q E s:=Attribute_any_ h (by rw[arm_eval_Attribute,hb])
end
inductive ZlU(K:ae)(f:Str)(Q:VK)(x:V)(H1:Hp):Prop
 |mk (a:_) (C:_) (dx:_) (fs:_) (v:_) (_:x= .ref a) (_:H1 a=some (.ins C dx fs)) (_:HN K C) (_:dq K C f) (_:fs.lookup f=some v) (_:Q v H1)
def Pb(K:ae)(ta:TE)(f:Str):TE:=fun σ H Q=>ta σ H fun x H1=>ZlU K f Q x H1
def ZlV(K:ae)(ta tv:TE)(f:Str):TS:=fun D σ H=>tv σ H fun y H1=>ta σ H1 fun x H2=> ∃a C dx fs,x= .ref a/\H2 a=some (.ins C dx fs)/\HN K C/\dq K C f/\fs.length<1000/\D.nx σ (bp H2 a (.ins C dx (yb f y fs)))
section
variable{K:ae}{X:Cx K}{o e tW:Expr}{f:Str}{pos Hi ZfV:Pos}{ta tv:TE}
theorem aI(he:PE X e ta)(hb:L9 e f X.bS (jb e X.bS)=jb e X.bS):PE X (.Attribute e f pos) (Pb K ta f):=by intro aw s σ H Q I h;refine ZgD hb (jK (he aw s σ H _ I h) fun u s1 ⟨x,H1,I1,rx,a,C,dx,fs,v,ex,ea,c,n,l,q⟩=>?_);subst ex;obtain rfl:u=aj.ref a:=rx;exact YN I1 ea c n l fun u' s2 I2 ru=> ⟨v,H1,I2,ru,q⟩
theorem dr(ha:PE X o ta)(hv:PE X tW tv)(hs:BP tW (some (.Attribute o f Hi)) pos.line X.bS=pure false):PS X (.Assign [.Attribute o f Hi] tW pos) (ZlV K ta tv f):=by intro aw s σ H D I h;refine plainObj_wpAny_Assign_Attribute (jK (hv aw s σ H _ I h) fun u s1 ⟨y,H1,I1,ry,q⟩=>jK (ha aw s1 σ H1 _ I1 q) fun ov s2 ⟨x,H2,I2,rx,a,C,dx,fs,ex,ea,c,n,l,q2⟩=>?_) hs;subst ex;obtain rfl:ov=aj.ref a:=rx;exact YO I2 ea c n l ry fun s3 I3=> ⟨σ,_,I3,q2⟩
end
section
variable{K:ae}{X:Cx K}{aw:PL}{σ:St}{H:Hp}{s:aB}{A:cD}{E:VS}{Q:VS}{c:aj}{b:Bool}
inductive wu(K:ae)(H:Hp):V->aj->Prop where
 |ik:wu K H .ik (.type "NoneType")
 |bl (x:Bool):wu K H (.bl x) (.type "bool")
 |int (i:Int):wu K H (.int i) (.type "int")
 |str (x:Str):wu K H (.str x) (.type "str")
 |flt (x:UInt64):wu K H (.flt x) (.type "float")
 |bz {a:ao} {xs:List V} (e:H a=some (.bz xs)):wu K H (.ref a) (.type "list")
 |LI {a:ao} {o:Obj} {xs:List V} (e:H a=some (.LI o (.bz xs))):wu K H (.ref a) (.type "list")
 |f6 {a:ao} {xs:List V} (e:H a=some (.f6 xs)):wu K H (.ref a) (.type "tuple")
 |dK {a:ao} {br:List (i5×V)} (e:H a=some (.dK br)):wu K H (.ref a) (.type "dict")
 |dT {a:ao} {br:List (List i5×V)} (e:H a=some (.dT br)):wu K H (.ref a) (.type "dict")
 |ins {a C dx:ao} {fs:List (Str×V)} (e:H a=some (.ins C dx fs)) (cl:HN K C) (ha:gy K (.ref C) "__class__" =some (some (.builtin "object.__class__")))
  (hn:PySem.W.specialIn K (.builtin "object.__class__") "__get__" =some (some (.builtin "getset_descriptor.__get__"))) (htk:PySem.W.takesIn K (.builtin "object.__class__")=some true)
  (hm:PySem.W.mroIn K C (.type "object")=some true):wu K H (.ref a) (.ref C)
theorem Zby{x:V}{u t:aj}(I:cM X aw σ H s)(rx:gg x u)(ty:wu K H x t)(e:lV K t c=some b)(h:∀tk,Q (.bool b) {s with toks:=tk}):bZ (b7 X.prog X.w) A (call (.builtin "isinstance") [u,c]) Q E s:=by
 cases ty with
 |ik=>cases(show u=aj.none from rx);exact gA PySem.W.kitx_none I.EV j0 e (fun z=>nomatch z) h
 |bl y=>cases(show u=aj.bool y from rx);exact gA PySem.W.kitx_bool I.EV j0 e (fun z=>nomatch z) h
 |int i=>obtain⟨t,q⟩:=(show∃t,u=aj.int i t from rx);cases q;exact gA PySem.W.kitx_int I.EV j0 e (fun z=>nomatch z) h
 |str y=>obtain⟨t,q⟩:=(show∃t,u=aj.str y t from rx);cases q;exact gA PySem.W.kitx_str I.EV j0 e (fun z=>nomatch z) h
 |flt y=>obtain⟨t,q⟩:=(show∃t,u=aj.float y t from rx);cases q;exact gA PySem.W.kitx_float I.EV j0 e (fun z=>nomatch z) h
 | @bz a xs ea=>cases(show u=aj.ref a from rx);obtain⟨_,_,n,_,h1⟩:=(show iD X.prog X.w H s.heap a (.bz xs)from I.fN a _ ea);exact gA PySem.W.kitx_list I.EV ⟨_,h1,Z⟩ e (fun z=>nomatch z) h
 | @LI a ob xs ea=>cases(show u=aj.ref a from rx);obtain⟨_,_,_,n,_,h1⟩:=(show iD X.prog X.w H s.heap a (.LI ob (.bz xs))from I.fN a _ ea);exact gA PySem.W.kitx_list I.EV ⟨_,h1,Z⟩ e (fun z=>nomatch z) h
 | @f6 a xs ea=>cases(show u=aj.ref a from rx);obtain⟨_,_,_,p⟩:=(show iD X.prog X.w H s.heap a (.f6 xs)from I.fN a _ ea);obtain⟨o,h1,h2,_⟩:=p;exact gA PySem.W.kitx_tuple I.EV ⟨o,h1,h2⟩ e (fun z=>nomatch z) h
 | @dK a br ea=>cases(show u=aj.ref a from rx);obtain⟨_,_,vs,_,p⟩:=(show iD X.prog X.w H s.heap a (.dK br)from I.fN a _ ea);obtain⟨o,es,ep,h1,h2,_⟩:=p;exact gA PySem.W.kitx_dict I.EV ⟨o,h1,h2.1⟩ e (fun z=>nomatch z) h
 | @dT a br ea=>cases(show u=aj.ref a from rx);obtain⟨_,_,xs,_,o,es,ep,h1,h2,_⟩:=(show iD X.prog X.w H s.heap a (.dT br)from I.fN a _ ea);exact gA PySem.W.kitx_dict I.EV ⟨o,h1,h2.1⟩ e (fun z=>nomatch z) h
 | @ins a C dx fs ea cl ha hn htk hm=>cases(show u=aj.ref a from rx);obtain⟨mA,O,_⟩:=LH I.fN ea;obtain⟨od,J,_⟩:=O.look;exact gA (PySem.W.kitx_own (cl.get _) cl.hd ha hn htk hm) I.EV J e (fun z=>nomatch z) h
end
structure ku(k:Nat)(A:cD):Prop where
 hd:A.handled=none
 dp:A.depth+3*k+5<recursionLimit
 un:A.units+16*k+200<oN
theorem ku.m8{j k:Nat}{A:cD}(r:ku k A)(h:j<=k):ku j A:=⟨r.hd,by have:=r.dp;omega,by have:=r.un;omega⟩
theorem ku.deeper{k:Nat}{A:cD}(r:ku (k+1) A)(bS:Env):ku k (A.deeper bS):=⟨r.hd,by have:=r.dp;show A.depth+1+3*k+5<_;omega,by have:=r.un;show A.units+3+16*k+200<_;omega⟩
theorem YQ{A:cD}{C:ao}{us:List aj}{kw:List (Str×aj)}:(A.under (.builtin "type.__call__" ⟨.ref C::us,kw⟩)).depth=A.depth+1:=by first|rfl|simp[cD.under,Z2.weight,Z2.isCreation,Z2.isGuard,Z2.isCaller,Z2.frames,Z2.isFrame,guardIds]
theorem YR{A:cD}{C:ao}{us:List aj}{kw:List (Str×aj)}:(A.under (.builtin "type.__call__" ⟨.ref C::us,kw⟩)).units=A.units+1:=by first|rfl|simp[cD.under,Z2.cUnits,Z2.frames,Z2.isFrame]
theorem ku.Zjl{k:Nat}{A:cD}(r:ku (k+1) A)(C:ao)(us:List aj)(kw:List (Str×aj)):ku k (A.under (.builtin "type.__call__" ⟨.ref C::us,kw⟩)):=⟨r.hd,by have:=r.dp;rw[YQ];omega,by have:=r.un;rw[YR];omega⟩
theorem ku.depth{k:Nat}{A:cD}(r:ku k A):A.depth<recursionLimit:=by have:=r.dp;omega
theorem ku.units{k:Nat}{A:cD}(r:ku k A):A.units+64<oN:=by have:=r.un;omega
theorem ku.YS{k:Nat}{A:cD}(r:ku k A):A.units<oN:=by have:=r.un;omega
def yD:TA:=fun _ H Q=>Q [] H
def nO(ta:TE)(tr:TA):TA:=fun σ H Q=>ta σ H fun x H1=>tr σ H1 fun xs H2=>Q (x::xs) H2
section
variable{K:ae}{X:Cx K}{e:Expr}{es:List Expr}{te:TE}{t:TA}{pos:Pos}
theorem az:PA X [] yD:=fun _ _ _ _ H Q I h=>Calls.spliced_nil ⟨[],H,I,.nil,h⟩
theorem ag(ha:PE X e te)(hr:PA X es t)(hs:bY (e::es) X.bS=(false,jb e X.bS)::bY es X.bS:=by rfl):PA X (e::es) (nO te t):=by intro pos aw s σ H Q I h;rw[hs];show bZ _ _ (spliced ((false,jb e X.bS)::km pos (bY es X.bS))) _ _ s;refine Calls.spliced_cons (jK (ha aw s σ H _ I h) fun u s1 ⟨x,H1,I1,r1,q1⟩=>?_);exact jK (hr pos aw s1 σ H1 _ I1 q1) fun us s2 ⟨xs,H2,I2,r2,q2⟩=> ⟨x::xs,H2,I2,.cons r1 r2,q2⟩
inductive ZlW(Q:VK)(xs:List V)(H1:Hp):Prop
 |mk (_:xs.length<=sizeLine) (_:∀p,H1 p=none->Q (.ref p) (bp H1 p (.f6 xs)))
def Zpa(t:TA):TE:=fun σ H Q=>t σ H fun xs H1=>ZlW Q xs H1
inductive ZlX(Q:VK)(xs:List V)(H1:Hp):Prop
 |mk (_:xs.length<=sizeLine) (_:∀p,H1 p=none->Q (.ref p) (bp H1 p (.bz xs)))
def ZgE(t:TA):TE:=fun σ H Q=>t σ H fun xs H1=>ZlX Q xs H1
theorem nP{x1}(h:PA X es t):PE X (.Tuple es x1 pos) (Zpa t):=by intro aw s σ H Q I hq;refine wpAny_Tuple_spliced (jK (h pos aw s σ H _ I hq) fun us s1 ⟨xs,H1,I1,r,z,q⟩=> ⟨by rw[<-r.length];exact z,?_⟩);have hf:H1 s1.heap.objs.size=none:=I1.fN.gE (aC _);refine⟨.ref s1.heap.objs.size,bp H1 s1.heap.objs.size (.f6 xs),I1.dW (t':=s1.toks) (fun b u e=>bb.get?_push_of_some _ e) (aC _) ?_,Z,q _ hf⟩;exact⟨z,us,r,⟨_,bb.get?_push_size _ Z,Z,_,Z⟩⟩
theorem dO(h:PA X es t):PE X (.List es pos) (ZgE t):=by intro aw s σ H Q I hq;refine wpAny_List_spliced (jK (h pos aw s σ H _ I hq) fun us s1 ⟨xs,H1,I1,r,z,q⟩=> ⟨by rw[<-r.length];exact z,?_⟩);have hf:H1 s1.heap.objs.size=none:=I1.fN.gE (aC _);refine⟨.ref s1.heap.objs.size,bp H1 s1.heap.objs.size (.bz xs),I1.dW (t':=s1.toks) (fun b u e=>bb.get?_push_of_some _ e) (aC _) ?_,Z,q _ hf⟩;exact⟨z,us,0,r,bb.get?_push_size _ Z⟩
end
abbrev Sp:=List V->Hp->VK->XK->Prop
abbrev YT:=List Env->Hp->aB->XK->aj->aB->Prop
structure YU(P:aV)(w:bG)(K:ae)(mg:SV)(base:bb)(A:cD)(bC:List Env)(s:aB)(H:Hp):Prop where
 frames:A.frames=some bC
 Mj:Mod K mg base
 bs:∀b o,base.get? b=some o->s.heap.get? b=some o/\H b=none
 bsz:base.objs.size<=s.heap.objs.size
 wo:s.heap.FunFrames base bC
 frf:∀b∈Sz bC,H b=none
 fN:xu P w H s.heap
 bare:EH s.gens
def CE(bC:List Env)(P:aV)(w:bG)(H:Hp)(s:aB)(Q:VK)(u:aj)(s':aB):Prop:=∃v H',s'.os=s.os/\EH s'.gens/\Un (Sz bC) [] H H' s.heap s'.heap/\xu P w H' s'.heap/\gg v u/\Q v H'
def CR(CX:YT)(bC:List Env)(P:aV)(w:bG)(H:Hp)(s:aB)(Q:VK)(E:XK)(r:Result)(s':aB):Prop:=match r with
 | .ok (.ret u)=>CE bC P w H s Q u s'
 | .ok _=>False
 | .error e=>CX bC H s E e s'
structure ue(P:aV)(w:bG)(K:ae)(mg:SV)(base:bb)(CX:YT)(k:Nat)(f:ao)(fd:eL)(ps:LS)(sp:Sp):Prop where
 len:∀vs H Q E,sp vs H Q E->vs.length=ps.length
 run:∀(A:cD)(bC:List Env)(s:aB)(H:Hp)(args:Args)(us:List aj)(vs:List V)(Q:VK)(E:XK),ku k A->YU P w K mg base A bC s H->Yx s fd args (ps.zip us)->fA vs us->sp vs H Q E->
  QM (b7 P w) A (.call (.ref f) args) (CR CX bC P w H s Q E) s
theorem ue.m8{P:aV}{w:bG}{K:ae}{mg:SV}{base:bb}{CX:YT}{j k:Nat}{f:ao}{fd:eL}{ps:LS}{sp:Sp}(F:ue P w K mg base CX j f fd ps sp)(h:j<=k):ue P w K mg base CX k f fd ps sp:=⟨F.len,fun A bC s H args us vs Q E hr=>F.run A bC s H args us vs Q E (hr.m8 h)⟩
theorem YU.Zjl{P:aV}{w:bG}{K:ae}{mg:SV}{base:bb}{A:cD}{bC:List Env}{s:aB}{H:Hp}(e:YU P w K mg base A bC s H)(C:ao)(us:List aj)(kw:List (Str×aj)):YU P w K mg base (A.under (.builtin "type.__call__" ⟨.ref C::us,kw⟩)) bC s H:=⟨by first|exact e.frames|(simpa[cD.under,Z2.envs,Z2.isFrame,pushEnvs]using e.frames),e.Mj,e.bs,e.bsz,e.wo,e.frf,e.fN,e.bare⟩
section
variable{K:ae}{X:Cx K}{aw:PL}{σ:St}{H:Hp}{s s':aB}
theorem cM.ZlY(I:cM X aw σ H s):YU X.prog X.w K X.mg X.base X.A X.lB s H:=⟨I.ok.frames,I.ok.Mj,I.bs,cc I.ok.bsz I.sz,I.lB,I.SA,I.fN,I.bare⟩
theorem cM.Zim{Q:VK}{u:aj}(I:cM X aw σ H s)(h:CE X.lB X.prog X.w H s Q u s'):EP X aw σ Q u s':=by obtain⟨v,H',os,bare,un,fN,r,q⟩:=h;obtain⟨hh,g,d,t,os'⟩:=s';obtain rfl:os'=s.os:=os;exact⟨v,H',I.call (h':=hh) (g':=g) (d':=d) (t':=t) (ch:=[]) un fN bare (fun b z=>absurd z (by simp)),r,q⟩
end
def Jo(sp:Sp)(LA:List V)(E:XK)(t:TA):TE:=fun σ H Q=>t σ H fun vs H1=>sp (vs++LA) H1 Q E
inductive Zjm(C:ao)(m:Str)(sp:Sp)(LA:List V)(E:XK)(t:TA)(σ:St)(Q:VK)(x:V)(H1:Hp):Prop
 |mk (a:_) (dx:_) (fs:_) (_:x= .ref a) (_:H1 a=some (.ins C dx fs)) (_:fs.lookup m=none) (_:t σ H1 fun vs H2=>sp (x::(vs++LA)) H2 Q E)
def Zae(C:ao)(m:Str)(sp:Sp)(LA:List V)(E:XK)(ta:TE)(t:TA):TE:=fun σ H Q=>ta σ H fun x H1=>Zjm C m sp LA E t σ Q x H1
def Vq(C:ao)(sp:Sp)(LA:List V)(E:XK)(t:TA):TE:=fun σ H Q=>t σ H fun vs H1=> ∀x dx,H1 x=none->H1 dx=none->dx≠x->sp (.ref x::(vs++LA)) (bp (bp H1 dx (.own x)) x (.ins C dx [])) (fun v H2=>v= .ik/\Q (.ref x) H2) E
def lF(K:ae)(fd:eL)(ps:LS)(ds:List aj):Prop:=∀(s:aB)(us:List aj),K.In s.heap->(us++ds).length=ps.length->Yx s fd ⟨us,[]⟩ (ps.zip (us++ds))
theorem lF.all{K:ae}{fd:eL}{ps:LS}(h:∀us:List aj,us.length=ps.length->BQ fd ⟨us,[]⟩=pure (ps.zip us)):lF K fd ps []:=fun s us _ hl=>by rw[cJ]at hl⊢;exact .of_eq (h us hl)
def mn(CX:YT){K:ae}(X:Cx K)(E:XK):Prop:=∀(aw:PL)(σ:St)(H:Hp)(s:aB)(e:aj)(s':aB),cM X aw σ H s->CX X.lB H s E e s'->X.xe e s'
section
variable{K:ae}{X:Cx K}{CX:YT}{k:Nat}{f C:ao}{fd:eL}{ps:LS}{sp:Sp}{LA:List V}{ds:List aj}{E:XK}{x m:Str}{p pos sk:Pos}{e o:Expr}{es:List Expr}{ta:TE}{t:TA}
theorem SI{aw:PL}{σ:St}{H:Hp}{s:aB}{Q:VK}{us:List aj}{vs:List V}(F:ue X.prog X.w K X.mg X.base CX k f fd ps sp)(hr:ku k X.A)(hb:lF K fd ps ds)(hd:fA LA ds)(hx:mn CX X E) (I:cM X aw σ H s)(r:fA vs us)(h:sp (vs++LA) H Q E):bZ (b7 X.prog X.w) X.A (call (.ref f) us) (EP X aw σ Q) X.xe s:=by
 have r2:fA (vs++LA) (us++ds):=r.append hd;have hl:(us++ds).length=ps.length:=by rw[<-r2.length];exact F.len _ _ _ _ h
 refine wpAny_call (QN (F.run X.A X.lB s H ⟨us,[]⟩ (us++ds) (vs++LA) Q E hr I.ZlY (hb s us I.EV hl) r2 h) fun r s' hq=>?_);cases r with
 |error e=>exact hx aw σ H s e s' I hq
 |ok fl=>
  cases fl with
  |ret u=>exact I.Zim hq
  |next=>exact gM hq
  |brk=>exact gM hq
  |cont=>exact gM hq
theorem ZgF(F:ue X.prog X.w K X.mg X.base CX k f fd ps sp)(hr:ku k X.A)(hg:Gl X x)(hm:X.mg x=some (.ref f))(hk:j5 K (.ref f)=true)(hb:lF K fd ps ds)(hd:fA LA ds)(hx:mn CX X E) (ha:PA X (e::es) t)(UM:(x==("__debug__":Str))=false:=by decide)(he:bY (e::es) X.bS=(false,jb e X.bS)::bY es X.bS:=by rfl)(hpl:(km pos (bY es X.bS)).any (·.1)=false:=by rfl):PE X (.Call (.Name x p) (e::es) [] pos) (Jo sp LA E t):=by intro aw s σ H Q I h;refine pK (A8 I hg hm ?_ UM);refine ud (h₀:=X.base) I.ok.Mj.kin hk (jK (ha pos aw s σ H _ I h) fun us s1 ⟨vs,H1,I1,r,q⟩=> ⟨I1.EV,?_⟩) he hpl;exact SI F hr hb hd hx I1 r q
theorem ZgG{pl:Sem Bool}(he:PE X o ta)(c:HN K C)(hm:BA K C m f)(F:ue X.prog X.w K X.mg X.base CX k f fd ps sp)(hr:ku k X.A)(hb:lF K fd ps ds)(hd:fA LA ds)(hx:mn CX X E)(ha:PA X (e::es) t) (hst:bY (e::es) X.bS=(false,jb e X.bS)::bY es X.bS:=by rfl)(hpl:(km pos (bY es X.bS)).any (·.1)=false:=by rfl) (ht:jb (.Call (.Attribute o m sk) (e::es) [] pos) X.bS=(do
   let ov<-jb o X.bS
   standAt sk.atName;let(f,first)<-holding [ov] (KW ov m pl)
   Z4 pos f first (km pos (bY (e::es) X.bS)) (Jg pos (ug [] X.bS))):=by rfl):
  PE X (.Call (.Attribute o m sk) (e::es) [] pos) (Zae C m sp LA E ta t):=by
 intro aw s σ H Q I h;refine Yh (pl:=pl) (jK (he aw s σ H _ I h) fun u s1 ⟨x,H1,I1,rx,a,dx,fs,ex,ea,l,q⟩=>?_) ht;subst ex;obtain rfl:u=aj.ref a:=rx;refine Mp I1 ea c hm l ?_;refine ud (first:=[.ref a]) (h₀:=X.base) I.ok.Mj.kin hm.kp (jK (ha pos aw s1 σ H1 _ I1 q) fun us s2 ⟨vs,H2,I2,r,q2⟩=> ⟨I2.EV,?_⟩) hst hpl;exact SI (us:= .ref a::us) (vs:= .ref a::vs) F hr hb hd hx I2 (.cons Z r) q2
theorem ZdP{pl:Sem Bool}(he:PE X o ta)(c:HN K C)(hm:BA K C m f)(F:ue X.prog X.w K X.mg X.base CX k f fd ps sp)(hr:ku k X.A)(hb:lF K fd ps ds)(hd:fA LA ds)(hx:mn CX X E) (ht:jb (.Call (.Attribute o m sk) [] [] pos) X.bS=(do
   let ov<-jb o X.bS
   standAt sk.atName;let(f,first)<-holding [ov] (KW ov m pl)
   Z4 pos f first (km pos (bY [] X.bS)) (Jg pos (ug [] X.bS))):=by rfl):
  PE X (.Call (.Attribute o m sk) [] [] pos) (Zae C m sp LA E ta yD):=by
 intro aw s σ H Q I h;refine Yh (pl:=pl) (jK (he aw s σ H _ I h) fun u s1 ⟨x,H1,I1,rx,a,dx,fs,ex,ea,l,q⟩=>?_) ht;subst ex;obtain rfl:u=aj.ref a:=rx;refine Mp I1 ea c hm l ?_;exact PySem.W.callWith_K0 (first:=[.ref a]) I1.EV hm.kp (SI (us:=[.ref a]) (vs:=[.ref a]) F hr hb hd hx I1 (.cons Z .nil) q)
structure Mk(K:ae)(C f:ao):Prop where
 Zmg:PySem.W.makesIn K C=true
 E6:gy K (.ref C) "__init__" =some (some (.ref f))
 fn:Vh K (.ref f)=true
 kp:j5 K (.ref C)=true
theorem Vr{aw:PL}{σ:St}{H:Hp}{s:aB}{Q:VK}{us:List aj}{vs:List V}(M:Mk K C f)(F:ue X.prog X.w K X.mg X.base CX k f fd ps sp)(hr:ku (k+1) X.A)(hb:lF K fd ps ds)(hd:fA LA ds) (hx:mn CX X E)(I:cM X aw σ H s)(r:fA vs us) (h:∀x dx,H x=none->H dx=none->dx≠x->sp (.ref x::(vs++LA)) (bp (bp H dx (.own x)) x (.ins C dx [])) (fun v H2=>v= .ik/\Q (.ref x) H2) E):bZ (b7 X.prog X.w) X.A (call (.ref C) us) (EP X aw σ Q) X.xe s:=by
 have hq:=h (s.heap.objs.size+1) s.heap.objs.size (I.fN.gE (mH _)) (I.fN.gE (aC _)) (dU (bT _));have I2:=cM.yC (C:=C) I;have r2:fA (V.ref (s.heap.objs.size+1)::(vs++LA)) (aj.ref (s.heap.objs.size+1)::(us++ds)):= .cons Z (r.append hd);have hl:(aj.ref (s.heap.objs.size+1)::us++ds).length=ps.length:=by have e:=r2.length;rw[F.len _ _ _ _ hq]at e;exact e.symm
 refine wpAny_call (ZdO (f:=f) I.EV M.Zmg M.E6 (beq_iff_eq.mp M.fn) (QN (F.run _ X.lB _ _ ⟨aj.ref (s.heap.objs.size+1)::us,[]⟩ (aj.ref (s.heap.objs.size+1)::(us++ds)) _ _ E (hr.Zjl C us []) (I2.ZlY.Zjl C us []) (hb _ (aj.ref (s.heap.objs.size+1)::us) I2.EV hl) r2 hq) fun r s' hq'=>?_));cases r with
 |error e=>exact hx aw σ _ _ e s' I2 hq'
 |ok fl=>
  cases fl with
  |ret u=>obtain⟨v,H',I3,rv,ev,q3⟩:=I2.Zim hq';subst ev;exact⟨rv,⟨V.ref (s.heap.objs.size+1),H',I3,Z,q3⟩⟩
  |next=>exact gM hq'
  |brk=>exact gM hq'
  |cont=>exact gM hq'
theorem ZgH(M:Mk K C f)(F:ue X.prog X.w K X.mg X.base CX k f fd ps sp)(hr:ku (k+1) X.A)(hg:Gl X x)(hm:X.mg x=some (.ref C))(hb:lF K fd ps ds)(hd:fA LA ds)(hx:mn CX X E) (ha:PA X (e::es) t)(UM:(x==("__debug__":Str))=false:=by decide)(he:bY (e::es) X.bS=(false,jb e X.bS)::bY es X.bS:=by rfl)(hpl:(km pos (bY es X.bS)).any (·.1)=false:=by rfl):PE X (.Call (.Name x p) (e::es) [] pos) (Vq C sp LA E t):=by intro aw s σ H Q I h;refine pK (A8 I hg hm ?_ UM);refine ud (h₀:=X.base) I.ok.Mj.kin M.kp (jK (ha pos aw s σ H _ I h) fun us s1 ⟨vs,H1,I1,r,q⟩=> ⟨I1.EV,?_⟩) he hpl;exact Vr M F hr hb hd hx I1 r q
theorem ZdQ(M:Mk K C f)(F:ue X.prog X.w K X.mg X.base CX k f fd ps sp)(hr:ku (k+1) X.A)(hg:Gl X x)(hm:X.mg x=some (.ref C))(hb:lF K fd ps ds)(hd:fA LA ds)(hx:mn CX X E) (UM:(x==("__debug__":Str))=false:=by decide):PE X (.Call (.Name x p) [] [] pos) (Vq C sp LA E yD):=by intro aw s σ H Q I h;refine pK (A8 I hg hm ?_ UM);exact PySem.W.callWith_K0 I.EV M.kp (Vr (us:=[]) M F hr hb hd hx I .nil h)
end
section
variable{K:ae}{X:Cx K}{CX:YT}{k:Nat}{f C:ao}{fd:eL}{ps ks:LS}{sp:Sp}{E:XK}{x m:Str}{p pos sk ZsW:Pos}{e o:Expr}{es:List Expr}{kws:List Keyword}{te ta:TE}{t tk:TA}{nm:Option Str}
variable{g:List aj->List aj->List aj}{gV:List V->List V->List V}
end
structure aO(N P:LS)(sc:mf):Prop where
 kind:sc.kind= .function
 co:sc.isCoroutine=false
 gen:sc.isGenerator=false
 nd:N.Nodup
 pre:N.take P.length=P
 par:∀x∈P,sc.names.lookup x=some .local\/sc.names.lookup x=some .cell
 Zjz:∀y∈sc.names,y.2≠ .free
theorem QY{kindOf:Str->Option fT}{x:Str}:∀{xw:List (Str×aj)}{m:SV},(∀v,(x,v)∉xw)->Zdy kindOf xw m x=m x
 |[],_,_=>rfl
 |(n,v)::r,m,h=>by
  unfold Zdy;rw[QY fun w hw=>h w (aG _ hw)];split
  ·have:x≠n:=by rintro rfl;exact h v aM
   simp[this]
  ·rfl
theorem QZ{kindOf:Str->Option fT}{x:Str}:∀{xw:List (Str×aj)}{m:SV},(∀v,(x,v)∉xw)->Zdz kindOf xw m x=m x
 |[],_,_=>rfl
 |(n,v)::r,m,h=>by
  unfold Zdz;rw[QZ fun w hw=>h w (aG _ hw)];split
  ·rfl
  ·have:x≠n:=by rintro rfl;exact h v aM
   simp[this]
theorem Q0{kindOf:Str->Option fT}{x:Str}{v:aj}:∀{P:LS}{vs:List aj}{i:Nat}{m:SV},P.Nodup->P[i]? =some x->vs[i]? =some v->kindOf x=some .local->Zdy kindOf (P.zip vs) m x=some v
 |[],_,_,_,_,h,_,_=>by simp at h
 |_::_,[],_,_,_,_,h,_=>by simp at h
 |p::P,w::vs,0,m,nd,h1,h2,hk=>by simp at h1 h2;subst h1;subst h2;show Zdy kindOf ((p,w)::P.zip vs) m p=_;unfold Zdy;rw[QY fun v hv=> (t8.mp nd).1 (QP hv).1,ak hk];simp
 |p::P,w::vs,i+1,m,nd,h1,h2,hk=>by show Zdy kindOf ((p,w)::P.zip vs) m x=_;unfold Zdy;exact Q0 (i:=i) (t8.mp nd).2 (by simpa using h1) (by simpa using h2) hk
theorem Q1{kindOf:Str->Option fT}{x:Str}{v:aj}:∀{P:LS}{vs:List aj}{i:Nat}{m:SV},P.Nodup->P[i]? =some x->vs[i]? =some v->kindOf x≠some .local->Zdz kindOf (P.zip vs) m x=some v
 |[],_,_,_,_,h,_,_=>by simp at h
 |_::_,[],_,_,_,_,h,_=>by simp at h
 |p::P,w::vs,0,m,nd,h1,h2,hk=>by simp at h1 h2;subst h1;subst h2;show Zdz kindOf ((p,w)::P.zip vs) m p=_;unfold Zdz;rw[QZ fun v hv=> (t8.mp nd).1 (QP hv).1,ah hk];simp
 |p::P,w::vs,i+1,m,nd,h1,h2,hk=>by show Zdz kindOf ((p,w)::P.zip vs) m x=_;unfold Zdz;exact Q1 (i:=i) (t8.mp nd).2 (by simpa using h1) (by simpa using h2) hk
def start(N:LS)(vs:List V):St:=vs.map some++List.replicate (N.length-vs.length) none
def uf(CX:YT)(P:aV)(w:bG)(K:ae)(mg:SV)(base:bb)(N:LS)(qual:Str)(scope:mf)(f:ao)(cd:aj)(A:cD)(bC:List Env)(s:aB)(H:Hp)(E:XK):Cx K where
 prog:=P;w:=w;mg:=mg;base:=base;A:=A.deeper (nj qual scope s.heap.objs.size f cd);N:=N;O0:=s;H_0:=H;bS:=nj qual scope s.heap.objs.size f cd;bC:=bC;lB:=nj qual scope s.heap.objs.size f cd::bC;ex:=[];Ph:=true;fn:=fun _=>true;pn:=[];xe:=fun e s'=>bZ (b7 P w) (A.deeper (nj qual scope s.heap.objs.size f cd)) (leaving (nj qual scope s.heap.objs.size f cd) e) (fun _ s''=>CX bC H s E e s'') (fun e' s''=>CX bC H s E e' s'') s'
theorem Vs{sc:mf}{n:Nat}{x:Str}(h:sc.names.lookup x=some .cell):∃c,(gw n sc.names []).lookup x=some c:=by have q:=Vi sc.names n [] (.inl h);exact v8.mp q
theorem Zbz{CX:YT}{P:aV}{w:bG}{K:ae}{mg:SV}{base:bb}{N ps:LS}{qual:Str}{scope:mf}{f:ao}{cd:aj}{A:cD}{bC:List Env}{s s1:aB}{H:Hp}{E:XK}{us:List aj}{vs:List V} (S:aO N ps scope)(hd:A.handled=none)(e0:YU P w K mg base A bC s H)(hl:vs.length=ps.length)(r:fA vs us) (x:InCallC s s.heap.objs.size (Zdy (nj qual scope s.heap.objs.size f cd).kindOf (ps.zip us) fun _=>none) (gw (s.heap.objs.size+1) scope.names []) (Zdz (nj qual scope s.heap.objs.size f cd).kindOf (ps.zip us) fun _=>none) s1):cM (uf CX P w K mg base N qual scope f cd A bC s H E) [] (start N vs) H s1:=by
 have hpl:ps.length<=N.length:=by have:=aA oC S.pre;rw[gR]at this;omega
 obtain⟨h1,tk,rfl,hk⟩:=x.done;have UP:∀b:ao,b∉(uf CX P w K mg base N qual scope f cd A bC s H E).ex:=fun b z=>absurd (show b∈([]:List ao)from z) (by simp);refine⟨⟨e0.Mj,S.kind,Z,Z,aC _,fun y z c h1 h2=>?_,fun y hy=>?_,fun y c _ h=>?_,fun _=>hd,cD.frames_deeper e0.frames,.inr ⟨Z,Z⟩,fun b z=>absurd z (UP b),e0.bs,e0.bsz,fun b _ _=>UP b,fun b z=>absurd z (UP b),e0.wo,e0.frf⟩,Z,e0.bare,Un.mm hk,⟨_,x.toInCall.ns,fun i y v h1 h2 h3=>?_⟩,fun y c h=> ⟨_,x.cell y c h⟩,e0.fN.gE (aC _),fun y c h=>?_,fun p hp=>absurd (show p∈([]:PL)from hp) (by simp),e0.fN.mm hk,?_⟩
 ·exact name_of_addr x.apart (cE h1) (cE h2)
 ·have hy:scope.names.lookup y=some .cell\/scope.names.lookup y=some .free:=hy;rcases hy with hy|hy
  ·exact Vs hy
  ·exact absurd Z (S.Zjz _ (cE hy))
 ·exact fZ (x.above y c (cE h))
 ·have hi:i<vs.length:=by
   unfold start at h2;by_cases hi:i<vs.length
   ·exact hi
   ·rw[UW (by simpa using hi)]at h2;rw[YD]at h2;split at h2<;>cases h2
  have ha:vs[i]? =some v:=by
   unfold start at h2;rw[v9 (by simpa using hi),hZ]at h2;cases e:vs[i]? with
   |none=>rw[e]at h2;cases h2
   |some a=>rw[e]at h2;cases h2;rfl
  obtain⟨u,hu,rv⟩:=r.get ha;have hp:ps[i]? =some y:=by rw[<-S.pre,List.getElem?_take_of_lt (by omega)];exact h1
  have ndP:ps.Nodup:=by rw[<-S.pre];exact S.nd.sublist (List.take_sublist _ _)
  refine⟨u,rv,?_⟩;rcases S.par y (bj hp)with k|k
  ·exact .inl ⟨k,Q0 ndP hp hu k⟩
  ·obtain⟨c,e⟩:=Vs (n:=s.heap.objs.size+1) k;refine .inr ⟨.inl k,c,e,?_⟩;have q:=x.cell y c e;rw[Q1 ndP hp hu (by show scope.names.lookup y≠_;rw[k];decide)]at q;exact q
 ·exact e0.fN.gE (fZ (x.above y c (cE h)))
 ·unfold start;show _=N.length;rw[aX,aZ,List.length_replicate];omega
theorem ZlZ{CX:YT}{P:aV}{w:bG}{K:ae}{mg:SV}{base:bb}{k:Nat}{f:ao}{name qual:Str}{params:Arguments}{body:List cy}{scope:mf}{dV kV doc pm la ct oc:aj}{an od:Option ao} {osl:Array (Option aj)}{N ps:LS}{sp:Sp}(lk:K.lookup f=some ⟨oc,od,.func (gB name qual params body scope dV kV doc pm an la ct),osl⟩)(Yp:By K la qual=true)(S:aO N ps scope) (len:∀vs H Q E,sp vs H Q E->vs.length=ps.length) (Hj:∀(A:cD)(bC:List Env)(s:aB)(H:Hp)(vs:List V)(Q:VK)(E:XK),ku k (A.deeper (nj qual scope s.heap.objs.size f la))->sp vs H Q E->∃t,KZ (uf CX P w K mg base N qual scope f la A bC s H E) body t/\t {nx:=fun _ H'=>Q .ik H',rt:=Q} (start N vs) H):ue P w K mg base CX (k+1) f (gB name qual params body scope dV kV doc pm an la ct) ps sp:=by
 refine⟨len,fun A bC s H args us vs Q E hr e0 hb r hsp=>?_⟩;have hl:=len _ _ _ _ hsp;have KX:K.In s.heap:=e0.Mj.kin.keeps fun b o e=> (e0.bs b o e).1;have lim:s.heap.NoLimit:=e0.Mj.nolimit.keeps fun b o e=> (e0.bs b o e).1;have Zm6:∀y∈ps.zip us,scope.names.lookup y.1=some .local\/(scope.names.lookup y.1=some .cell/\((gw (s.heap.objs.size+1) scope.names []).lookup y.1).isSome=true):=fun⟨n,v⟩ hy=>by
  rcases S.par n (QP hy).1 with q|q
  ·exact .inl q
  ·exact .inr ⟨q,Vi _ _ _ (.inl q)⟩
 refine codeAny_call_function hr.depth (KX _ _ lk) Z S.co S.gen Z (PySem.W.codeRec_of KX Yp) (hb _ _ _ _ ?_);refine wpAny_newFunctionEnv_cells S.kind Zm6 fun bS he s1 x=>?_;subst he;refine⟨lim.keeps x.toInCall.keep,codeAny_func ?_⟩;obtain⟨t,ht,hq⟩:=Hj A bC s H vs Q E (hr.deeper _) hsp;have I:cM (uf CX P w K mg base N qual scope f la A bC s H E) [] (start N vs) H s1:=Zbz S hr.hd e0 hl r x;refine iP (ht [] s1 (start N vs) H _ I hq) (fun fl s' hs=>?_) fun e s' hs=>hs;have tS:∀{σ':St}{H':Hp}{v:V}{u:aj},cM (uf CX P w K mg base N qual scope f la A bC s H E) [] σ' H' s'->gg v u->Q v H'->CE bC P w H s Q u s':=fun{σ' H' v u} J rv q=> ⟨v,H',J.os,J.bare,J.base,J.fN,rv,q⟩;cases fl with
 |ret u=>obtain⟨v,σ',H',J,rv,q⟩:=hs;exact tS J rv q
 |next=>obtain⟨σ',H',J,q⟩:=hs;exact tS (v:=V.ik) (u:=aj.none) J Z q
 |brk=>obtain⟨_,_,_,q⟩:=hs;exact gM q
 |cont=>obtain⟨_,_,_,q⟩:=hs;exact gM q
section
variable{K:ae}{X:Cx K}{x:Str}{p pos:Pos}{e:Expr}{es:List Expr}{t:TA}{id T:String}{r:List V->Hp->VK->Prop}
def tCB(r:List V->Hp->VK->Prop)(t:TA):TE:=fun σ H Q=>t σ H fun vs H1=>r vs H1 Q
theorem jQ(hc:EW X (.builtin id) r)(hg:Gl X x)(hm:X.mg x=none)(hv:EG x=some (.builtin id))(ha:PA X (e::es) t)(hn:x≠"__name__":=by decide)(UM:(x==("__debug__":Str))=false:=by decide) (he:bY (e::es) X.bS=(false,jb e X.bS)::bY es X.bS:=by rfl)(hpl:(km pos (bY es X.bS)).any (·.1)=false:=by rfl):PE X (.Call (.Name x p) (e::es) [] pos) (tCB r t):=by intro aw s σ H Q I h;refine pK (SD I hg hm hv ?_ hn UM);exact PyProof.Rows.callWith_builtin1 (jK (ha pos aw s σ H _ I h) fun us s1 ⟨vs,H1,I1,r1,q1⟩=>hc aw s1 σ H1 vs us Q I1 r1 q1) he hpl
theorem HP(hc:EW X (.type T) r)(hg:Gl X x)(hm:X.mg x=none)(hv:EG x=some (.type T))(ha:PA X (e::es) t)(hn:x≠"__name__":=by decide)(UM:(x==("__debug__":Str))=false:=by decide) (he:bY (e::es) X.bS=(false,jb e X.bS)::bY es X.bS:=by rfl)(hpl:(km pos (bY es X.bS)).any (·.1)=false:=by rfl):PE X (.Call (.Name x p) (e::es) [] pos) (tCB r t):=by intro aw s σ H Q I h;refine pK (SD I hg hm hv ?_ hn UM);exact qQ (jK (ha pos aw s σ H _ I h) fun us s1 ⟨vs,H1,I1,r1,q1⟩=>hc aw s1 σ H1 vs us Q I1 r1 q1) he hpl
end
end L2
namespace HT
open PySem PyProof.Rows
theorem Mq(A:cD)(s:aB)(a:Int)(t:Tok)(c:Int)(u:Tok):∃e,SeqAt.EqAt A s (.int a t) (.int c u) e/\(e=true↔a=c):=⟨(a==c),SeqAt.EqAt.int_int a t c u,by simp⟩
section
open PySem.SeqAt
open PySem.MeetsSeq PySem.MeetsSeq2 PySem.MeetsSeq3
end
section
variable{prog:aV}{w:bG}{A:cD}{E:VS}{s:aB}
noncomputable def UZ(n d:Nat):Option Int->Nat
 |none=>d
 |some v=>if v<0 then(v+(n:Int)).toNat else min v.toNat n
theorem ZdR(n d:Nat):UZ n d none=d:=rfl
theorem Bb(n d k:Nat):UZ n d (some (k:Int))=min k n:=by show(if(k:Int)<0 then((k:Int)+(n:Int)).toNat else min (k:Int).toNat n)=min k n;rw[ah (by omega),mi]
end
end HT
namespace L2
open PySem PySem.Spec PyProof.Rows
abbrev TO:=St->Hp->(Option Int->Hp->Prop)->Prop
def PO{K:ae}(X:Cx K)(e:Option Expr)(t:TO):Prop:=∀(aw:PL)(s:aB)(σ:St)(H:Hp)(Q:Option Int->Hp->Prop),cM X aw σ H s->t σ H Q->bZ (b7 X.prog X.w) X.A (evalPart e X.bS) (fun u s'=> ∃o H',cM X aw σ H' s'/\IsPart u o/\Q o H') X.xe s
def ZgI:TO:=fun _ H Q=>Q none H
def Zl0(t:TE):TO:=fun σ H Q=>t σ H fun x H1=> ∃i,x= .int i/\Q (some i) H1
theorem YV{ns:List Int}:∀{us:List aj},fA (ns.map V.int) us->lT us ns:=by
 induction ns with
 |nil=>intro us r;rw[List.map_nil]at r;cases r;exact .nil
 |cons n ns ih=>
  intro us r;rw[aY]at r;cases r with
  |cons r1 r2=>obtain⟨t,e⟩:=r1;subst e;exact .cons n t (ih r2)
section
variable{K:ae}{X:Cx K}{e:Expr}{te:TE}{lo hi:Option Expr}{tl th:TO}{pos p2:Pos}
theorem Zaf:PO X none ZgI:=by intro aw s σ H Q I h;rw[evalPart_none];exact dG ⟨none,H,I,.none,h⟩
theorem pO(h:PE X e te):PO X (some e) (Zl0 te):=by intro aw s σ H Q I hw;rw[evalPart_some];refine jK (h aw s σ H _ I hw) fun u s1 ⟨x,H1,I1,r1,q1⟩=>?_;obtain⟨i,rfl,q⟩:=q1;obtain⟨t,rfl⟩:=r1;exact⟨some i,H1,I1,.int i t,q⟩
def SlR{K:ae}(X:Cx K)(r:V->Option Int->Option Int->Hp->VK->Prop):Prop:=∀(aw:PL)(s:aB)(σ:St)(H:Hp)(x:V)(v vl vu:aj)(lo hi:Option Int)(sl:ao)(Q:VK),cM X aw σ H s->gg x v->s.heap.IsSliceOf sl vl vu .none->IsPart vl lo->IsPart vu hi->r x lo hi H Q->∃T id,typeLookup (.type T) "__getitem__" =pure (some (.builtin id))/\s.TypeIs v T/\bZ (b7 X.prog X.w) X.A (Yy v (.ref sl)) (EP X aw σ Q) X.xe s
def tSl(r:V->Option Int->Option Int->Hp->VK->Prop)(te:TE)(tl th:TO):TE:=fun σ H Q=>te σ H fun x H1=>tl σ H1 fun l H2=>th σ H2 fun u H3=>r x l u H3 Q
theorem vp{r:V->Option Int->Option Int->Hp->VK->Prop}(hr:SlR X r)(he:PE X e te)(hl:PO X lo tl)(hu:PO X hi th):PE X (.Subscript e (.Slice lo hi none p2) pos) (tSl r te tl th):=by intro aw s σ H Q I h;refine Subscript_ (jK (he aw s σ H _ I h) fun v s1 ⟨x,H1,I1,r1,q1⟩=>?_);refine wpAny_Slice (jK (hl aw s1 σ H1 _ I1 q1) fun vl s2 ⟨l,H2,I2,pl,q2⟩=>jK (hu aw s2 σ H2 _ I2 q2) fun vu s3 ⟨u,H3,I3,pu,q3⟩=>?_);rw[evalPart_none];refine dG ?_;have I4:cM X aw σ H3 {s3 with heap:=s3.heap.push {cls:= .type "slice",data:= .fields #[vl,vu,.none]}}:=I3.mm (t':=s3.toks) fun b ob q=>bb.get?_push_of_some _ q;obtain⟨T,id,hT,ht,hg⟩:=hr aw {s3 with heap:=s3.heap.push {cls:= .type "slice",data:= .fields #[vl,vu,.none]}} σ H3 x v vl vu l u s3.heap.objs.size Q I4 r1 (bb.IsSliceOf.new ..) pl pu q3;show bZ (b7 X.prog X.w) X.A (Zdj e (.Slice lo hi none p2) v (.ref s3.heap.objs.size)) (EP X aw σ Q) X.xe {s3 with heap:=s3.heap.push {cls:= .type "slice",data:= .fields #[vl,vu,.none]}};exact tail_any (ops:=[.ref s3.heap.objs.size,v]) ht hT hg (by with_unfolding_all rfl)
def K0(xs:List V)(lo hi:Option Int):List V:=(xs.drop (HT.UZ xs.length 0 lo)).take (HT.UZ xs.length xs.length hi-HT.UZ xs.length 0 lo)
theorem Vt(xs:List V)(lo hi:Option Int):(K0 xs lo hi).length<=xs.length:=by unfold K0;rw[gR,fV];omega
theorem fA.Zag{xs:List V}{us:List aj}(r:fA xs us):us=[]↔xs=[]:=by
 cases r with
 |nil=>simp
 |cons _ _=>simp
end
noncomputable def ixN(n:Nat)(i:Int):Option Nat:=if 0<=i then(if i<n then some i.toNat else none)else if-(n:Int)<=i then some (i+n).toNat else none
def atI{α:Type}(xs:List α)(i:Int):Option α:=(ixN xs.length i).bind fun j=>xs[j]?
theorem ZgJ{n:Nat}{i:Int}{j:Nat}(h:ixN n i=some j):seqIndex? i n=some j/\j<n/\ -(n:Int)<=i/\i<n:=by
 unfold ixN at h;by_cases h0:0<=i
 ·rw[ak h0]at h;by_cases h1:i<n
  ·rw[ak h1]at h;have e:i.toNat=j:=af h;exact⟨by rw[seqIndex_of h0 h1,e],by omega,by omega,h1⟩
  ·rw[ah h1]at h;cases h
 ·rw[ah h0]at h;by_cases h1: -(n:Int)<=i
  ·rw[ak h1]at h;have e:(i+n).toNat=j:=af h;exact⟨by rw[seqIndex_neg (by omega) h1,e],by omega,h1,by omega⟩
  ·rw[ah h1]at h;cases h
theorem Zah{α:Type}{xs:List α}{i:Int}{v:α}(h:atI xs i=some v):∃j,seqIndex? i xs.length=some j/\xs[j]? =some v/\j<xs.length/\ -(xs.length:Int)<=i/\i<xs.length:=by
 unfold atI at h;cases e:ixN xs.length i with
 |none=>rw[e]at h;cases h
 |some j=>rw[e]at h;obtain⟨h1,h2,h3,h4⟩:=ZgJ e;exact⟨j,h1,h,h2,h3,h4⟩
theorem fh{α:Type}{xs:List α}{j:Nat}{v:α}(h:xs[j]? =some v):atI xs (j:Int)=some v:=by
 have hj:j<xs.length:=(aW.mp h).1;have e:ixN xs.length (j:Int)=some j:=by unfold ixN;rw[ak (by omega),ak (by omega)];simp
 unfold atI;rw[e];exact h
theorem EX{α:Type}(xs:List α)(v:α):atI (xs++[v]) (-1)=some v:=by
 have hl:(xs++[v]).length=xs.length+1:=by simp
 have e:ixN (xs++[v]).length (-1)=some xs.length:=by unfold ixN;rw[hl,ah (by decide),ak (by omega)];congr 1;omega
 unfold atI;rw[e];show(xs++[v])[xs.length]? =some v;simp
def ZgK(b:Expr):Prop:=∀o i,Vg b false o i=operate [o,i] (Yy o i)
def IxR{K:ae}(X:Cx K)(r:R2):Prop:=∀(tW Hk:Expr)(aw:PL)(s:aB)(σ:St)(H:Hp)(x y:V)(v u:aj)(Q:VK),cM X aw σ H s->gg x v->gg y u->r x y H Q->Vg Hk false v u=operate [v,u] (Yy v u)->bZ (b7 X.prog X.w) X.A (Zdj tW Hk v u) (EP X aw σ Q) X.xe s
def MtR{K:ae}(X:Cx K)(id:String)(r:V->List V->Hp->VK->Prop):Prop:=∀(aw:PL)(s:aB)(σ:St)(H:Hp)(x:V)(xs:List V)(v:aj)(us:List aj)(Q:VK),cM X aw σ H s->gg x v->fA xs us->r x xs H Q->bZ (b7 X.prog X.w) X.A (call (.builtin id) (v::us)) (EP X aw σ Q) X.xe s
section
variable{K:ae}{X:Cx K}{a b:Expr}{ta tb:TE}{pos:Pos}
theorem iJ{r:R2}(hr:IxR X r)(ha:PE X a ta)(hb:PE X b tb)(hs:ZgK b:=by exact fun _ _=>rfl):PE X (.Subscript a b pos) (tOp r ta tb):=by intro aw s σ H Q I h;exact Subscript_ (Zjk ha hb I h fun v u s2 x y H2 I2 rx ry q=>hr a b aw s2 σ H2 x y v u Q I2 rx ry q (hs _ _))
inductive Zl1(K:ae)(x:V)(y:V)(H:Hp)(Q:VK):Prop
 |mk (p:_) (xs:_) (i:_) (v:_) (_:x= .ref p) (_:y= .int i) (_:ft K H p xs) (_:atI xs i=some v) (_:Q v H)
inductive Zpc(K:ae)(x:V)(y:V)(H:Hp)(Q:VK):Prop
 |mk (p:_) (xs:_) (i:_) (v:_) (_:x= .ref p) (_:y= .int i) (_:qU K H p xs) (_:atI xs i=some v) (_:Q v H)
theorem fi:IxR X (Zl1 K):=by
 intro tW Hk aw s σ H x y v u Q I rx ry h hs;obtain⟨p,xs,i,z,rfl,rfl,hq,he,q⟩:=h;cases rx;obtain⟨t,rfl⟩:=ry;obtain⟨fc,r,pl,hz⟩:=I.list hq;obtain⟨j,h1,h2,h3,h4,h5⟩:=Zah he;obtain⟨w,ew,QG⟩:=r.get h2;have hl:=r.length;have hn:=YL;have tS:EP X aw σ Q w s:=⟨z,H,I,QG,q⟩;by_cases h0:0<=i
 ·have hj:i.toNat=j:=by rw[seqIndex_of h0 h5]at h1;exact af h1
  exact item_listR pl.isList h0 (by omega) (by rw[hj];simpa using ew) tS hs
 ·have hj:(i+(fc.toArray.size:Int)).toNat=j:=by rw[seqIndex_neg (by omega) h4]at h1;rw[bX,<-hl];exact af h1
  exact subscriptTail_builtinR (x:=w) pl.isList.typeIs slot_list_getitem.lookup (wpAny_getItem_list_neg (Q:=fun r s'=>r=w/\EP X aw σ Q r s') pl.isList (by omega) (by rw[bX]<;>omega) (by omega) (by rw[hj];simpa using ew) ⟨Z,tS⟩) hs
theorem Mr:IxR X (Zpc K):=by intro tW Hk aw s σ H x y v u Q I rx ry h hs;obtain⟨p,xs,i,z,rfl,rfl,hq,he,q⟩:=h;cases rx;obtain⟨t,rfl⟩:=ry;obtain⟨fc,r,pl,hz⟩:=I.tuple hq;obtain⟨j,h1,h2,h3,h4,h5⟩:=Zah he;obtain⟨w,ew,QG⟩:=r.get h2;have hl:=r.length;have hn:=YL;have tS:EP X aw σ Q w s:=⟨z,H,I,QG,q⟩;exact subscriptTail_builtinR (x:=w) pl.typeIs slot_tuple_getitem.lookup (getItem_tuple (j:=j) (Q:=fun r s'=>r=w/\EP X aw σ Q r s') pl (by omega) (by omega) (by rw[bX,<-hl];exact h1) (by simpa using ew) ⟨Z,tS⟩) hs
theorem SJ(lo hi:Option Int)(n:Nat):(uh lo hi none n).1=((HT.UZ n 0 lo:Nat):Int)/\(uh lo hi none n).2.1=((HT.UZ n n hi:Nat):Int)/\(uh lo hi none n).2.2=1:=by
 refine⟨?_,?_,Z⟩
 ·cases lo with
  |none=>simp[uh,HT.UZ]
  |some i=>
   simp only[uh,HT.UZ,Option.getD_none,show(1:Int) >0 by decide,if_true];by_cases h:i<0
   ·simp only[h,if_true]<;>omega
   ·simp only[h,if_false]<;>omega
 ·cases hi with
  |none=>simp[uh,HT.UZ]
  |some i=>
   simp only[uh,HT.UZ,Option.getD_none,show(1:Int) >0 by decide,if_true];by_cases h:i<0
   ·simp only[h,if_true]<;>omega
   ·simp only[h,if_false]<;>omega
theorem Pc(fc:List aj)(lo hi:Option Int):slicePick fc.toArray lo hi none=((fc.drop (HT.UZ fc.length 0 lo)).take (HT.UZ fc.length fc.length hi-HT.UZ fc.length 0 lo)).toArray:=by obtain⟨h1,h2,h3⟩:=SJ lo hi fc.toArray.size;unfold slicePick;rw[h1,h2,h3];simp only[sliceRange_one,pick_run,bX]<;>rfl
inductive Zpd(K:ae)(x:V)(lo:Option Int)(hi:Option Int)(H:Hp)(Q:VK):Prop
 |mk (a:_) (xs:_) (_:x= .ref a) (_:ft K H a xs) (_:∀p,H p=none->Q (.ref p) (bp H p (.bz (K0 xs lo hi))))
theorem Bc:SlR X (Zpd K):=by intro aw s σ H x v vl vu lo hi sl Q I rx hs pl pu h;obtain⟨a,xs,rfl,hx,q⟩:=h;cases rx;obtain⟨fc,r,ht,hz⟩:=I.list hx;have jL:=r.length;refine⟨"list",_,slot_list_getitem.lookup,ht.isList.typeIs,?_⟩;refine wpAny_getItem_list_slice ht.isList hs pl pu .none (by simp) ?_ (by rw[bX]<;>omega);rw[Pc,<-jL];refine⟨.ref s.heap.objs.size,_,I.dW (t':=s.toks) (o:= .bz (K0 xs lo hi)) (fun b ob q=>bb.get?_push_of_some _ q) (aC _) ?_,Z,q _ (I.fN.gE (aC _))⟩;exact⟨cc (Vt xs lo hi) hz,_,0,(r.drop (HT.UZ xs.length 0 lo)).take (HT.UZ xs.length xs.length hi-HT.UZ xs.length 0 lo),bb.get?_push_size _ Z⟩
def fX:V->Bool
 | .ik=>true
 | .bl _=>true
 | .int _=>true
 | .str _=>true
 |_=>false
noncomputable def U0:V->V->Bool
 | .ik,.ik=>true
 | .bl a,.bl b=>a==b
 | .bl a,.int b=> (if a then 1 else 0)==b
 | .int a,.bl b=>a==(if b then 1 else 0)
 | .int a,.int b=>a==b
 | .str a,.str b=>a==b
 |_,_=>false
theorem Zjn{A:cD}{s:aB}{y x:V}{u v:aj}(ry:gg y u)(rx:gg x v)(fy:fX y=true)(fx:fX x=true):SeqAt.EqAt A s u v (U0 y x):=by
 cases y with
 |ik=>
  cases ry;cases x with
  |ik=>cases rx;exact SeqAt.EqAt.same _
  |bl b=>cases rx;exact SeqAt.EqAt.none_bool b
  |int b=>obtain⟨t,rfl⟩:=rx;exact SeqAt.EqAt.none_int b t
  |str b=>obtain⟨t,rfl⟩:=rx;exact SeqAt.EqAt.none_str b t
  |_=>exact absurd (show false=true from fx) bc
 |bl a=>
  cases ry;cases x with
  |ik=>cases rx;exact SeqAt.EqAt.bool_none a
  |bl b=>cases rx;exact SeqAt.EqAt.bool_bool a b
  |int b=>obtain⟨t,rfl⟩:=rx;exact SeqAt.EqAt.bool_int a b t
  |str b=>obtain⟨t,rfl⟩:=rx;exact SeqAt.EqAt.bool_str a b t
  |_=>exact absurd (show false=true from fx) bc
 |int a=>
  obtain⟨t',rfl⟩:=ry;cases x with
  |ik=>cases rx;exact SeqAt.EqAt.int_none a t'
  |bl b=>cases rx;exact SeqAt.EqAt.int_bool a t' b
  |int b=>obtain⟨t,rfl⟩:=rx;exact SeqAt.EqAt.int_int a t' b t
  |str b=>obtain⟨t,rfl⟩:=rx;exact SeqAt.EqAt.int_str a t' b t
  |_=>exact absurd (show false=true from fx) bc
 |str a=>
  obtain⟨t',rfl⟩:=ry;cases x with
  |ik=>cases rx;exact SeqAt.EqAt.str_none a t'
  |bl b=>cases rx;exact SeqAt.EqAt.str_bool a t' b
  |int b=>obtain⟨t,rfl⟩:=rx;exact SeqAt.EqAt.str_int a t' b t
  |str b=>obtain⟨t,rfl⟩:=rx;exact SeqAt.EqAt.str_str a t' b t
  |_=>exact absurd (show false=true from fx) bc
 |_=>exact absurd (show false=true from fy) bc
def YW(x:V)(u:aj):Bool:=match u with
 | .none=>U0 .ik x
 | .bool b=>U0 (.bl b) x
 | .int i _=>U0 (.int i) x
 | .str z _=>U0 (.str z) x
 |_=>false
theorem ZdS{x y:V}{u:aj}(r:gg y u)(f:fX y=true):YW x u=U0 y x:=by
 cases y with
 |ik=>cases r;rfl
 |bl b=>cases r;rfl
 |int i=>obtain⟨t,rfl⟩:=r;rfl
 |str z=>obtain⟨t,rfl⟩:=r;rfl
 |_=>exact absurd (show false=true from f) bc
theorem EY{x:V}:∀{xs:List V}{us:List aj},fA xs us->xs.all fX=true->us.any (YW x)=xs.any fun y=>U0 y x
 |_,_,.nil,_=>rfl
 |y::xs,u::us,.cons r t,f=>by rw[HF,bu]at f;rw[dD,dD,ZdS r f.1,EY t f.2]
theorem yE{A:cD}{s:aB}{x:V}{v:aj}(rx:gg x v)(fx:fX x=true):∀{xs:List V}{us:List aj},fA xs us->xs.all fX=true->∀u∈us,SeqAt.EqAt A s u v (YW x u)
 |_,_,.nil,_=>fun u hu=>by cases hu
 |y::xs,u::us,.cons r t,f=>fun u' hu=>by
  rw[HF,bu]at f;rcases aU.mp hu with rfl|hu
  ·rw[ZdS r f.1];exact Zjn r rx f.1 fx
  ·exact yE rx fx t f.2 u' hu
def EN(x:V)(xs:List V):Bool:=xs.any fun y=>U0 y x
inductive rIn(K:ae)(neg:Bool)(x:V)(y:V)(H:Hp)(Q:VK):Prop
 |mk (p:_) (xs:_) (_:y= .ref p) (_:(ft K H p xs\/qU K H p xs)) (_:fX x=true) (_:xs.all fX=true) (_:Q (.bl (if neg then !EN x xs else EN x xs)) H)
theorem o6:uL X (di .In) (rIn K false):=by
 intro aw s σ H x y v u Q I rx ry h;obtain⟨p,xs,rfl,hq,fx,fs,q⟩:=h;cases ry;rcases hq with hq|hq
 ·obtain⟨fc,r,pl,hz⟩:=I.list hq;refine SeqAt.in_listAt (YW x) pl.isList (fun w hw=>yE rx fx r fs w (by simpa using hw)) ⟨.bl _,H,I,Z,?_⟩;rw[show fc.toArray.any (YW x)=fc.any (YW x) by simp,EY r fs];exact q
 ·obtain⟨fc,r,pl,hz⟩:=I.tuple hq;refine SeqAt.in_tupleAt (YW x) pl (fun w hw=>yE rx fx r fs w (by simpa using hw)) ⟨.bl _,H,I,Z,?_⟩;rw[show fc.toArray.any (YW x)=fc.any (YW x) by simp,EY r fs];exact q
theorem wx:uL X (di .NotIn) (rIn K true):=by
 intro aw s σ H x y v u Q I rx ry h;obtain⟨p,xs,rfl,hq,fx,fs,q⟩:=h;cases ry;rcases hq with hq|hq
 ·obtain⟨fc,r,pl,hz⟩:=I.list hq;refine SeqAt.notIn_listAt (YW x) pl.isList (fun w hw=>yE rx fx r fs w (by simpa using hw)) ⟨.bl _,H,I,Z,?_⟩;rw[show fc.toArray.any (YW x)=fc.any (YW x) by simp,EY r fs];exact q
 ·obtain⟨fc,r,pl,hz⟩:=I.tuple hq;refine SeqAt.notIn_tupleAt (YW x) pl (fun w hw=>yE rx fx r fs w (by simpa using hw)) ⟨.bl _,H,I,Z,?_⟩;rw[show fc.toArray.any (YW x)=fc.any (YW x) by simp,EY r fs];exact q
theorem SK:EW X (.builtin "len") (fun xs H Q=> ∃p ys,xs=[.ref p]/\(ft K H p ys\/qU K H p ys)/\Q (.int ys.length) H):=by
 intro aw s σ H xs us Q I r h;obtain⟨p,ys,rfl,hq,q⟩:=h;obtain⟨u,rfl,rx⟩:=Zad r;cases rx;have hn:=YL;rcases hq with hq|hq
 ·obtain⟨fc,r',pl,hz⟩:=I.list hq;have jL:=r'.length;exact Calls.call_len_list pl.isList (by simp only[bX]<;>omega) ⟨.int ys.length,H,I.Yl _,⟨s.toks+1,by rw[bX,jL]⟩,q⟩
 ·obtain⟨fc,r',pl,hz⟩:=I.tuple hq;have jL:=r'.length;exact len_tuple pl (by simp only[bX]<;>omega) ⟨.int ys.length,H,I.Yl _,⟨s.toks+1,by rw[bX,jL]⟩,q⟩
theorem Pd:EW X (.type "tuple") (fun xs H Q=> ∃p ys,xs=[.ref p]/\((ft K H p ys/\∀l,H l=none->Q (.ref l) (bp H l (.f6 ys)))\/(qU K H p ys/\Q (.ref p) H))):=by
 intro aw s σ H xs us Q I r h;obtain⟨p,ys,rfl,h⟩:=h;obtain⟨u,rfl,rx⟩:=Zad r;cases rx;rcases h with⟨hq,q⟩|⟨hq,q⟩
 ·obtain⟨fc,r',pl,hz⟩:=I.list hq;have jL:=r'.length;refine call_tuple_list pl.isList (fun h' kp=>?_) (by simp only[bX]<;>omega);have I1:cM X aw σ H {s with heap:=h'}:=I.mm (t':=s.toks) kp;have I2:cM X aw σ (bp H h'.objs.size (.f6 ys)) {s with heap:=h'.push {cls:= .type "tuple",data:= .seq fc.toArray}}:=I1.dW (t':=s.toks) (fun b o e=>bb.get?_push_of_some _ e) (aC _) (show iD X.prog X.w _ _ _ (.f6 ys)from⟨hz,fc,r',IsTup.new _ _⟩);exact⟨.ref h'.objs.size,_,I2,Z,q _ (I1.fN.gE (aC _))⟩
 ·obtain⟨fc,r',pl,hz⟩:=I.tuple hq;exact call_tuple_same pl ⟨.ref p,H,I,Z,q⟩
def tyV(K:ae)(T:String)(x:V)(H:Hp):Prop:=match x with
 | .str _=>T="str"
 | .int _=>T="int"
 | .ref p=> (T="list" /\∃xs,ft K H p xs)\/(T="tuple" /\∃o,K.lookup p=some o/\o.cls= .type "tuple" /\o.dict=none)\/(T="dict" /\((∃br,H p=some (.dK br))\/∃br,H p=some (.dT br)))\/(T="set" /\∃S n,H p=some (.set S n))
 |_=>False
theorem Zjo{aw:PL}{σ:St}{H:Hp}{s:aB}{T:String}{x:V}{v:aj}(I:cM X aw σ H s)(r:gg x v)(ty:tyV K T x H):s.TypeIs v T/\∀a,v= .ref a->∃ob,s.heap.get? a=some ob/\ob.dict=none:=by
 cases x with
 |str z=>obtain⟨t,rfl⟩:=r;cases(show T="str" from ty);exact⟨typeIs_str s z t,fun _ e=>nomatch e⟩
 |int i=>obtain⟨t,rfl⟩:=r;cases(show T="int" from ty);exact⟨typeIs_int s i t,fun _ e=>nomatch e⟩
 |ref p=>
  cases r;rcases ty with⟨rfl,xs,hq⟩|⟨rfl,o,hk,hc,hd⟩|⟨rfl,hk⟩|⟨rfl,S,n,hk⟩
  ·obtain⟨fc,_,pl,_⟩:=I.list hq;refine⟨pl.isList.typeIs,fun a e=>?_⟩;cases e;obtain⟨o,n,e,c,hd,_⟩:=pl;exact⟨o,e,hd⟩
  ·refine⟨⟨o,I.EV p o hk,hc⟩,fun a e=>?_⟩;cases e;exact⟨o,I.EV _ o hk,hd⟩
  ·have z:∃o,s.heap.get? p=some o/\o.ExactDict:=by
    rcases hk with⟨br,hk⟩|⟨br,hk⟩
    ·obtain⟨_,_,_,_,o,_,_,e,ex,_⟩:=I.fN p _ hk;exact⟨o,e,ex⟩
    ·obtain⟨_,_,_,_,o,_,_,e,ex,_⟩:=I.fN p _ hk;exact⟨o,e,ex⟩
   obtain⟨o,e,ex⟩:=z;refine⟨⟨o,e,ex.1⟩,fun a e2=>?_⟩;cases e2;exact⟨o,e,ex.2.1⟩
  ·obtain⟨o,_,_,_,e,ex,_⟩:=I.fN p _ hk;refine⟨⟨o,e,ex.1⟩,fun a e2=>?_⟩;cases e2;exact⟨o,e,ex.2.1⟩
 |_=>exact gM ty
inductive Zpe(K:ae)(T:String)(r:V->List V->Hp->VK->Prop)(t:TA)(σ:St)(Q:VK)(x:V)(H1:Hp):Prop
 |mk (_:tyV K T x H1) (_:t σ H1 fun xs H2=>r x xs H2 Q)
def tBM(K:ae)(T:String)(r:V->List V->Hp->VK->Prop)(to:TE)(t:TA):TE:=fun σ H Q=>to σ H fun x H1=>Zpe K T r t σ Q x H1
variable{o e:Expr}{es:List Expr}{to:TE}{t:TA}{name:Str}{sk yo:Pos}{T id:String}{r:V->List V->Hp->VK->Prop}
theorem ui(pa:PlainAttrs T)(E5:Slot T name id)(hty:typeOf (.builtin id)=pure (.type "method_descriptor"))(hm:MtR X id r)(ho:PE X o to)(ha:PA X (e::es) t) (ZmX:L9 o name X.bS (jb o X.bS)=jb o X.bS:=by rfl) (ZpN:((km yo (bY (e::es) X.bS)).all (fun x=>!x.1)&&(Jg yo (ug [] X.bS)).all (fun x=>x.1.isSome)&&decide ((e::es).length+([]:List Keyword).length+(if([]:List Keyword).isEmpty then 0 else 1)<30))=true:=by rfl) (ZmY:(sk.endLine==yo.line)=true:=by rfl)(hs:bY (e::es) X.bS=(false,jb e X.bS)::bY es X.bS:=by rfl)(ZkD:(km yo (bY es X.bS)).any (·.1)=false:=by rfl):PE X (.Call (.Attribute o name sk) (e::es) [] yo) (tBM K T r to t):=by intro aw s σ H Q I h;refine wpAny_Call_method_late ZmX ZpN ZmY Z (jK (ho aw s σ H _ I h) fun v s1 ⟨x,H1,I1,r1,ty,q1⟩=>?_);obtain⟨h1,h2⟩:=Zjo I1 r1 ty;refine⟨T,id,pa,E5,hty,h1,h2,?_⟩;have hA:=ha yo aw s1 σ H1 _ I1 q1;rw[hs]at hA⊢;refine Calls.callWith_builtin (by show(false||(km yo (bY es X.bS)).any (·.1))=false;rw[ZkD]<;>rfl) (Calls.evalArgs_plain ?_);exact jK hA fun us s2 ⟨vs,H2,I2,r2,q2⟩=>hm aw s2 σ H2 x vs v us Q I2 r1 r2 q2
end
def MtM{K:ae}(X:Cx K)(id:String)(r:V->List V->Hp->VK->Prop):Prop:=∀(aw:PL)(s:aB)(σ:St)(H:Hp)(x:V)(xs:List V)(v:aj)(us:List aj)(Q:VK),cM X aw σ H s->gg x v->fA xs us->r x xs H Q->bZ (b7 X.prog X.w) X.A (call (.builtin id) (v::us)) (EP X aw σ Q) X.xe s
theorem fA.one:∀{x:V}{us:List aj},fA [x] us->∃u,us=[u]/\gg x u
 |_,_,.cons r .nil=> ⟨_,Z,r⟩
section
variable{K:ae}{X:Cx K}{aw:PL}{σ:St}{H:Hp}{s:aB}{l b:ao}{xs ys zs:List V}
theorem cM.Zl2{fc its':List aj}{n:Nat}{f:Array aj->Array aj}{t':Nat}(I:cM X aw σ H s)(hH:H l=some (.bz xs)) (e:s.heap.get? l=some {cls:= .type "list",data:= .seq fc.toArray n})(hf:f fc.toArray=its'.toArray)(hv:fA ys its')(hz:ys.length<=sizeLine):cM X aw σ (bp H l (.bz ys)) {s with heap:=s.heap.update l (Obj.mapSeq f),toks:=t'}:=by have q:=PySem.IsL.update e f;rw[hf]at q;refine I.Jk (x:=l) (e:=l) (by rw[hH];exact trivial) (.inl Z) (fun b' u hb hu=> (bb.get?_update_other s.heap (Obj.mapSeq f) (eQ hb)).trans hu) ⟨_,q⟩ ?_;exact⟨hz,its',_,hv,q⟩
theorem cM.Zpf{fc:List aj}{t':Nat}(I:cM X aw σ H s)(hv:fA ys fc)(hz:ys.length<=sizeLine):cM X aw σ (bp H s.heap.objs.size (.bz ys)) {s with heap:=s.heap.push {cls:= .type "list",data:= .seq fc.toArray},toks:=t'}:=I.dW (fun _ _ q=>bb.get?_push_of_some _ q) (aC _) ⟨hz,fc,0,hv,bb.get?_push_size _ Z⟩
theorem cM.gE(I:cM X aw σ H s):H s.heap.objs.size=none:=I.fN.gE (aC _)
theorem cM.ZdT(I:cM X aw σ H s)(hH:H l=some (.bz xs)):xs.length<=sizeLine/\∃(fc:List aj)(n:Nat),fA xs fc/\xs.length=fc.length/\s.heap.get? l=some {cls:= .type "list",data:= .seq fc.toArray n}:=by obtain⟨z,fc,n,r,e⟩:=I.fN l _ hH;exact⟨z,fc,n,r,r.length,e⟩
theorem ZdU{n:Nat}(h:n<=sizeLine):Builtin.List.listTooLong n=false:=by unfold Builtin.List.listTooLong;exact ay (by omega)
end
section
variable{K:ae}{X:Cx K}
inductive ZgL(x:V)(vs:List V)(H:Hp)(Q:VK):Prop
 |mk (l:_) (xs:_) (y:_) (_:x= .ref l) (_:vs=[y]) (_:H l=some (.bz xs)) (_:xs.length<sizeLine) (_:Q .ik (bp H l (.bz (xs++[y]))))
theorem jq:MtM X "list.append" ZgL:=by intro aw s σ H x vs v us Q I rx rv h;obtain⟨l,xs,y,rfl,rfl,hH,hz,q⟩:=h;cases rx;obtain⟨u,rfl,ru⟩:=rv.one;obtain⟨z,fc,n,r,hl,e⟩:=I.ZdT hH;refine call_meets F.slot_list_append ⟨_,e,Z⟩ F.entry_list_append (F.args_list_append_2 _ _) (PySem.list_append l fc.toArray n u (by rw[bX];omega)) ⟨e,?_⟩;refine⟨.ik,_,I.Zl2 (its':=fc++[u]) hH e (by simp) (r.append (.cons ru .nil)) ?_,Z,q⟩;rw[aX,List.length_singleton];omega
inductive ZgM(x:V)(vs:List V)(H:Hp)(Q:VK):Prop
 |mk (l:_) (b:_) (xs:_) (zs:_) (_:x= .ref l) (_:vs=[.ref b]) (_:H l=some (.bz xs)) (_:H b=some (.bz zs)) (_:xs.length+zs.length<=sizeLine) (_:Q .ik (bp H l (.bz (xs++zs))))
theorem Q2:MtM X "list.extend" ZgM:=by
 intro aw s σ H x vs v us Q I rx rv h;obtain⟨l,b,xs,zs,rfl,rfl,hH,hB,hz,q⟩:=h;cases rx;obtain⟨u,rfl,ru⟩:=rv.one;cases ru;obtain⟨z,fc,n,r,hl,e⟩:=I.ZdT hH;obtain⟨z2,Hl,n2,r2,hl2,e2⟩:=I.ZdT hB;have hsz:fc.toArray.size+Hl.toArray.size<=sizeLine:=by rw[bX,bX];omega
 have Zm7:¬(!fc.toArray.isEmpty&&Builtin.List.listTooLong (fc.toArray.size+Hl.toArray.size))=true:=by rw[ZdU hsz,Bool.and_false];exact bc
 refine call_meets F.slot_list_extend ⟨_,e,Z⟩ F.entry_list_extend (F.args_list_extend_2 _ _) (AutoSeq1.list_extend_list_list_0 l fc.toArray n b Hl.toArray n2 Zm7 (by rw[bX];omega) (by omega)) ⟨e,e2,?_⟩;refine⟨.ik,_,I.Zl2 (its':=fc++Hl) hH e (by simp) (r.append r2) ?_,Z,q⟩;rw[aX];omega
inductive Zpg(x:V)(y:V)(H:Hp)(Q:VK):Prop
 |mk (l:_) (b:_) (xs:_) (zs:_) (_:x= .ref l) (_:y= .ref b) (_:H l=some (.bz xs)) (_:H b=some (.bz zs)) (_:xs.length+zs.length<=sizeLine) (_:∀p,H p=none->Q (.ref p) (bp H p (.bz (xs++zs))))
theorem SM:uL X (QL .Add) Zpg:=by
 intro aw s σ H x y v u Q I rx ry h;obtain⟨l,b,xs,zs,rfl,rfl,hH,hB,hz,q⟩:=h;cases rx;cases ry;obtain⟨z,fc,n,r,hl,e⟩:=I.ZdT hH;obtain⟨z2,Hl,n2,r2,hl2,e2⟩:=I.ZdT hB;refine PySem.P.add_list e e2 ?_ (by rw[bX,bX];omega);have ea:fc.toArray++Hl.toArray=(fc++Hl).toArray:=by simp
 rw[ea];exact⟨.ref _,_,I.Zpf (t':=s.toks) (r.append r2) (by rw[aX];omega),Z,q _ I.gE⟩
end
section
variable{prog:aV}{w:bG}{A:cD}{E:VS}{s:aB}
end
section
variable{K:ae}{X:Cx K}
end
theorem EZ:∀{us:List aj}{ns:List Int},lT us ns->fA (ns.map V.int) us
 |_,_,.nil=>by rw[List.map_nil];exact Paired.nil
 |_,_,.cons n t h=>by rw[aY];exact Paired.cons (show gg (V.int n) (aj.int n t)from⟨t,Z⟩) (EZ h)
theorem fA.Zl3{a:ao}{us:List aj}(r:fA [V.ref a] us):us=[aj.ref a]:=by
 cases r with
 |cons r t=>cases t;cases r;rfl
section
variable{prog:aV}{w:bG}{A:cD}{E:VS}{s:aB}{l:ao}{fc:List aj}{ns:List Int}{Q:VS}
end
section
variable{K:ae}{X:Cx K}
end
section
variable{K:ae}{X:Cx K}
end
section
variable{K:ae}{X:Cx K}
end
section
variable{K:ae}{X:Cx K}
end
mutual
inductive Dp(K:ae)(H:Hp):V->bJ->Prop
 |ik:Dp K H .ik .none
 |bl (b:Bool):Dp K H (.bl b) (.bool b)
 |int (i:Int):Dp K H (.int i) (.int i)
 |str (x:Str):Dp K H (.str x) (.str x)
 |bz {a:ao} {xs:List V} {ds:List bJ}:ft K H a xs->E1 K H xs ds->Dp K H (.ref a) (.list ds)
 |f6 {a:ao} {xs:List V} {ds:List bJ}:qU K H a xs->E1 K H xs ds->Dp K H (.ref a) (.tuple ds)
inductive E1(K:ae)(H:Hp):List V->List bJ->Prop
 |nil:E1 K H [] []
 |cons {v:V} {vs:List V} {d:bJ} {ds:List bJ}:Dp K H v d->E1 K H vs ds->E1 K H (v::vs) (d::ds)
end
section
variable{K:ae}{X:Cx K}{aw:PL}{σ:St}{H:Hp}{s:aB}
mutual
theorem Dp.B0(I:cM X aw σ H s):∀(d:bJ)(v:V)(u:aj),Dp K H v d->gg v u->∃as,Reads s.heap u d as
 | .none,_,_,h,r=>by
  cases h
  cases r
  exact⟨_,Reads.none⟩
 | .bool b,_,_,h,r=>by
  cases h
  cases r
  exact⟨_,Reads.bool b⟩
 | .int i,_,_,h,r=>by
  cases h
  obtain⟨t,rfl⟩:=r
  exact⟨_,Reads.int i t⟩
 | .str x,_,_,h,r=>by
  cases h
  obtain⟨t,rfl⟩:=r
  exact⟨_,Reads.str x t⟩
 | .list ds,_,_,h,r=>by
  cases h with
  |bz hs ha=>
   cases r
   obtain⟨fc,rv,⟨o,n,ho,hc,_,hd⟩,_⟩:=I.list hs
   obtain⟨as,hr⟩:=Dp.sD I ds _ fc ha rv
   exact⟨_,Reads.list ho hc hd hr⟩
 | .tuple ds,_,_,h,r=>by
  cases h with
  |f6 hs ha=>
   cases r
   obtain⟨fc,rv,⟨o,ho,hc,n,hd⟩,_⟩:=I.tuple hs
   obtain⟨as,hr⟩:=Dp.sD I ds _ fc ha rv
   exact⟨_,Reads.tuple ho hc hd hr⟩
 | .dict _,_,_,h,_=>by cases h
theorem Dp.sD(I:cM X aw σ H s):∀(ds:List bJ)(vs:List V)(us:List aj),E1 K H vs ds->fA vs us->∃as,ReadsAll s.heap us ds as
 |[],_,_,h,r=>by
  cases h
  cases r
  exact⟨_,ReadsAll.nil⟩
 |d::ds,_,_,h,r=>by
  cases h with
  |cons h1 h2=>
   cases r with
   |cons r1 r2=>
    obtain⟨as,q1⟩:=Dp.B0 I d _ _ h1 r1
    obtain⟨bs,q2⟩:=Dp.sD I ds _ _ h2 r2
    exact⟨_,ReadsAll.cons q1 q2⟩
end
end
section
variable{K:ae}{X:Cx K}
inductive Zph(K:ae)(x:V)(y:V)(H:Hp)(Q:VK):Prop
 |mk (d:_) (e:_) (_:Dp K H x d) (_:Dp K H y e) (_:SeqAt.shaped d=true) (_:SeqAt.shaped e=true) (_:Q (.bl (bJ.eqv d e)) H)
inductive Zpi(K:ae)(x:V)(y:V)(H:Hp)(Q:VK):Prop
 |mk (d:_) (e:_) (_:Dp K H x d) (_:Dp K H y e) (_:SeqAt.shaped d=true) (_:SeqAt.shaped e=true) (_:Q (.bl (!bJ.eqv d e)) H)
theorem SN(hu:X.A.units+64<oN):uL X (di .Eq) (Zph K):=by intro aw s σ H x y v u Q I rx ry h;obtain⟨d,e,hd,he,sd,se,q⟩:=h;obtain⟨as,r1⟩:=Dp.B0 I d x v hd rx;obtain⟨bs,r2⟩:=Dp.B0 I e y u he ry;exact SeqAt.compareEq_shaped r1 r2 sd se hu ⟨.bl _,H,I,Z,q⟩
theorem ZdV(hu:X.A.units+64<oN):uL X (di .NotEq) (Zpi K):=by intro aw s σ H x y v u Q I rx ry h;obtain⟨d,e,hd,he,sd,se,q⟩:=h;obtain⟨as,r1⟩:=Dp.B0 I d x v hd rx;obtain⟨bs,r2⟩:=Dp.B0 I e y u he ry;exact SeqAt.compareNe_shaped r1 r2 sd se hu ⟨.bl _,H,I,Z,q⟩
end
abbrev ZdW(h:bb)(c:ao)(v:Option aj):Prop:=h.IsCell c v
noncomputable def Zpj(scope sc:mf):mf:={scope with names:=scope.names.map fun(n,k)=>if(k== .free&&sc.kind== .function&&sc.names.lookup n==some .cell)then(n,.cell)else(n,k)}
noncomputable def iy(cells:List (Str×ao)):List (Str×fT)->List (Str×ao)->List (Str×ao)
 |[],bI=>bI
 |(n,k)::r,bI=>if k== .free then iy cells r ((n,(cells.lookup n).getD 0)::bI)else iy cells r bI
theorem E2(bS:Env)(f:Str×fT->List (Str×ao)->Sem (ForInStep (List (Str×ao)))) (hf:∀n k c,f (n,k) c=if k== .free then(do let a<-cellOf bS n;pure (.yield ((n,a)::c)))else pure (.yield c)):∀(names:List (Str×fT))(bI:List (Str×ao)),(∀y∈names,y.2= .free->∃c,bS.cells.lookup y.1=some c)->forIn names bI f=pure (iy bS.cells names bI)
 |[],bI,_=>by rw[List.forIn_nil];rfl
 |(n,k)::r,bI,h=>by
  rw[List.forIn_cons,hf];have ih:=fun bI=>E2 bS f hf r bI fun y hy=>h y (aG _ hy);unfold iy;by_cases hk:(k==fT.free)=true
  ·rw[ak hk,ak hk];obtain⟨c,hc⟩:=h (n,k) aM (by simpa using hk);have e:cellOf bS n=pure c:=by unfold cellOf;rw[hc]
   rw[e];have e2:(bS.cells.lookup n).getD 0=c:=by rw[hc];rfl
   rw[e2];exact ih _
  ·rw[ah hk,ah hk];exact ih _
theorem YX{scope:mf}{bS:Env}(h:∀y∈scope.names,y.2= .free->∃c,bS.cells.lookup y.1=some c):closureFor scope bS=pure (iy bS.cells scope.names []):=by simp only[closureFor];rw[E2 bS _ (fun n k c=>rfl) scope.names [] h];rfl
theorem DT{α:Type}:∀{l:List (Str×α)}{n:Str}{c:α},(n,c)∈l->∃c',l.lookup n=some c'
 |(k,v)::r,n,c,h=>by
  rw[dH];cases hb:n==k with
  |true=>exact⟨_,Z⟩
  |false=>
   rcases aU.mp h with e|h
   ·cases e;simp at hb
   ·exact DT h
theorem uj{cells:List (Str×ao)}:∀{names:List (Str×fT)}{bI:List (Str×ao)}{n:Str}{c:ao},(n,c)∈iy cells names bI->(n,c)∈bI\/((n,.free)∈names/\c=(cells.lookup n).getD 0)
 |[],_,_,_,h=> .inl h
 |(m,k)::r,bI,n,c,h=>by
  unfold iy at h;split at h
  ·rename_i hk;have hk:k= .free:=by simpa using hk
   rcases uj h with h|⟨h1,h2⟩
   ·rcases aU.mp h with e|h
    ·cases e;exact .inr ⟨hk▸aM,Z⟩
    ·exact .inl h
   ·exact .inr ⟨aG _ h1,h2⟩
  ·rcases uj h with h|⟨h1,h2⟩
   ·exact .inl h
   ·exact .inr ⟨aG _ h1,h2⟩
theorem yF{cells:List (Str×ao)}:∀{names:List (Str×fT)}{bI:List (Str×ao)}{p:Str×ao},p∈bI->p∈iy cells names bI
 |[],_,_,h=>h
 |(m,k)::r,bI,p,h=>by
  unfold iy;split
  ·exact yF (aG _ h)
  ·exact yF h
theorem yG{cells:List (Str×ao)}:∀{names:List (Str×fT)}{bI:List (Str×ao)}{n:Str},(n,.free)∈names->(n,(cells.lookup n).getD 0)∈iy cells names bI
 |(m,k)::r,bI,n,h=>by
  unfold iy;rcases aU.mp h with e|h
  ·cases e;exact yF aM
  ·split
   ·exact yG h
   ·exact yG h
theorem vq:∀{names:List (Str×fT)}{h:bb}{bI:List (Str×ao)}{x:Str}{c:ao},(x,c)∈gw h.objs.size names bI->(x,c)∈bI\/((x,.cell)∈names/\h.objs.size<=c/\ZdW (we h names) c none)
 |[],_,_,_,_,h=> .inl h
 |(n,k)::r,h,bI,x,c,hm=>by
  unfold gw at hm;unfold we;split at hm
  ·rename_i hk;rw[ak hk];have hk:k= .cell:=by simpa using hk
   rw[<-bb.size_push h {cls:= .type "cell",data:= .cell none}]at hm;rcases vq hm with hm|⟨h1,h2,h3⟩
   ·rcases aU.mp hm with e|hm
    ·cases e;exact .inr ⟨hk▸aM,aC _,_,EU r _ _ _ (bb.get?_push_size _ Z),Z⟩
    ·exact .inl hm
   ·rw[bb.size_push]at h2;exact .inr ⟨aG _ h1,xm h2,h3⟩
  ·rename_i hk;rw[ah hk];rcases vq hm with hm|⟨h1,h2,h3⟩
   ·exact .inl hm
   ·exact .inr ⟨aG _ h1,h2,h3⟩
theorem Bd:∀{names:List (Str×fT)}{n:Nat}{bI:List (Str×ao)}{p:Str×ao},p∈bI->p∈gw n names bI
 |[],_,_,_,h=>h
 |(m,k)::r,n,bI,p,h=>by
  unfold gw;split
  ·exact Bd (aG _ h)
  ·exact Bd h
theorem HQ:∀{names:List (Str×fT)}{n:Nat}{bI:List (Str×ao)}{x:Str},(x,.cell)∈names->∃c,(x,c)∈gw n names bI
 |(m,k)::r,n,bI,x,h=>by
  unfold gw;rcases aU.mp h with e|h
  ·cases e;exact⟨n,Bd aM⟩
  ·split
   ·exact HQ h
   ·exact HQ h
theorem HR:∀{names:List (Str×fT)}{h:bb}{bI:List (Str×ao)}{x y:Str}{c:ao},(∀p∈bI,p.2<h.objs.size)->(∀x y c,(x,c)∈bI->(y,c)∈bI->x=y)->(x,c)∈gw h.objs.size names bI->(y,c)∈gw h.objs.size names bI->x=y
 |[],_,_,_,_,_,_,hi,h1,h2=>hi _ _ _ h1 h2
 |(n,k)::r,h,bI,x,y,c,hl,hi,h1,h2=>by
  unfold gw at h1 h2;split at h1
  ·rename_i hk;rw[ak hk]at h2;rw[<-bb.size_push h {cls:= .type "cell",data:= .cell none}]at h1 h2;refine HR (h:=h.push _) (fun p hp=>?_) (fun x y c a b=>?_) h1 h2
   ·rw[bb.size_push];rcases aU.mp hp with rfl|hp
    ·exact bT _
    ·exact Md (hl p hp)
   ·rcases aU.mp a with e|a<;>rcases aU.mp b with e'|b
    ·cases e;cases e';rfl
    ·cases e;exact absurd (hl _ b) (eW _)
    ·cases e';exact absurd (hl _ a) (eW _)
    ·exact hi _ _ _ a b
  ·rename_i hk;rw[ah hk]at h2;exact HR hl hi h1 h2
theorem Vu{M:Model}{A:cD}{E:VS}{s:aB}{scope:mf}{globals:ao}{closure:List (Str×ao)}{qual:Str}{func:Option ao}{code:aj}{ZfW:Env}{builtins:ao}{Q:Env->aB->Prop} (h:Q (newEnv scope s.heap.objs.size globals (gw (s.heap.objs.size+1) scope.names closure) qual func code (some ZfW) builtins) {s with heap:=we (s.heap.push {cls:= .type "dict",data:= .dict #[]}) scope.names}):bZ M A (newFunctionEnv scope globals closure [] qual func code (some ZfW) builtins) Q E s:=by simp only[newFunctionEnv,Option.isSome_some,if_true];refine bA (wpAny_alloc ?_);refine bA (wpAny_layCells _ (fun n k c=>rfl) scope.names closure _ _ ?_);rw[show({s with heap:=s.heap.push {cls:= .type "dict",data:= .dict #[]}}:aB).heap.objs.size=s.heap.objs.size+1 from bb.size_push ..];rw[List.forIn_nil];exact bA (dG (dG h))
theorem yH{sc:mf}:∀{names:List (Str×fT)}{x:Str}{k:fT},(names.map fun(n,k)=>if(k==fT.free&&sc.kind== .function&&sc.names.lookup n==some .cell)then(n,fT.cell)else(n,k)).lookup x=some k->∃k',names.lookup x=some k'/\(k=k'\/(k'= .free/\k= .cell))
 |[],_,_,h=>by simp at h
 |(n,k₀)::r,x,k,h=>by
  have ih:= @yH sc r x k;have h':oB x ((if(k₀==fT.free&&sc.kind== .function&&sc.names.lookup n==some .cell)=true then(n,fT.cell)else(n,k₀))::(r.map _))=some k:=h;cases hx:x==n with
  |true=>
   simp only[dH,hx];by_cases hc:(k₀==fT.free&&sc.kind== .function&&sc.names.lookup n==some .cell)=true
   ·rw[ak hc]at h';simp only[dH,hx]at h';cases h';simp only[bu,beq_iff_eq]at hc;exact⟨k₀,Z,.inr ⟨hc.1.1,Z⟩⟩
   ·rw[ah hc]at h';simp only[dH,hx]at h';cases h';exact⟨_,Z,.inl Z⟩
  |false=>
   simp only[dH,hx];by_cases hc:(k₀==fT.free&&sc.kind== .function&&sc.names.lookup n==some .cell)=true
   ·rw[ak hc]at h';simp only[dH,hx]at h';exact ih h'
   ·rw[ah hc]at h';simp only[dH,hx]at h';exact ih h'
structure Vv(N:LS)(sc scope:mf)(own:List (Str×Nat)):Prop where
 kind:scope.kind= .function
 ZjA:∀y∈scope.names,scope.names.lookup y.1=some y.2
 ix:∀p∈own,N[p.2]? =some p.1
 free:∀y∈scope.names,y.2= .free->sc.names.lookup y.1=some .cell\/sc.names.lookup y.1=some .free
 own:∀y∈scope.names,y.2= .local\/y.2= .cell->y.1∈own.map (·.1)\/y.1∉N
def wy(σ:St):List Nat->St
 |[]=>σ
 |v::vs=> (wy σ vs).set v none
theorem yI(σ:St):∀vs:List Nat,(wy σ vs).length=σ.length
 |[]=>rfl
 |v::vs=>by unfold wy;rw[List.length_set,yI σ vs]
theorem HS{σ:St}{i:Nat}{x:V}:∀{vs:List Nat},(wy σ vs)[i]? =some (some x)->σ[i]? =some (some x)/\i∉vs
 |[],h=> ⟨h,by simp⟩
 |v::vs,h=>by
  unfold wy at h;by_cases hi:v=i
  ·subst hi;by_cases hv:v< (wy σ vs).length
   ·rw[pL hv]at h;cases h
   ·rw[List.getElem?_eq_none (by simpa using hv)]at h;cases h
  ·rw[sy hi]at h;obtain⟨h1,h2⟩:=HS h;exact⟨h1,by simp only[aU,not_or];exact⟨fun e=>hi e.symm,h2⟩⟩
abbrev Cx.SO{K:ae}(X:Cx K)(s:aB)(H:Hp)(scope:mf)(nJ:Env)(fp:List ao):Cx K:={X with O0:=s,H_0:=H,bS:=nJ,bC:=X.lB,ex:=fp,fn:=fun x=>scope.names.lookup x==some .cell,pn:=[],xe:=fun _ _=>False}
section
variable{K:ae}{X:Cx K}{aw:PL}{σ:St}{H:Hp}{s:aB}
theorem Vx{scope:mf}{own:List (Str×Nat)}{fp:List ao}(I:cM X aw σ H s)(ok:Vv X.N X.bS.scope scope own)(hN:X.N.Nodup)(hfp:∀b∈fp,Mm X aw H b/\b<s.heap.objs.size):cM (X.SO s H scope (nk scope (gw (s.heap.objs.size+1) scope.names (iy X.bS.cells scope.names [])) s.heap.objs.size X.bS) fp) [] (wy σ (own.map (·.2))) H {s with heap:=we (s.heap.push {cls:= .type "dict",data:= .dict #[]}) scope.names}:=by
 have Si:∀y∈scope.names,y.2= .free->∃c,X.bS.cells.lookup y.1=some c:=fun y hy e=>by
  rcases ok.free y hy e with k|k
  ·exact I.ok.has _ (.inl k)
  ·exact I.ok.has _ (.inr k)
 generalize hcenv:nk scope (gw (s.heap.objs.size+1) scope.names (iy X.bS.cells scope.names [])) s.heap.objs.size X.bS=nJ;have kp:∀b o,s.heap.get? b=some o->(we (s.heap.push {cls:= .type "dict",data:= .dict #[]}) scope.names).get? b=some o:=fun b o e=>EU _ _ _ _ (bb.get?_push_of_some _ e);have hL:nJ.locals=s.heap.objs.size:=by rw[<-hcenv];rfl
 have hcl:nJ.cells=gw (s.heap.objs.size+1) scope.names (iy X.bS.cells scope.names []):=by rw[<-hcenv];rfl
 have hsc:nJ.scope=Zpj scope X.bS.scope:=by rw[<-hcenv];rfl
 rw[<-bb.size_push s.heap {cls:= .type "dict",data:= .dict #[]}]at hcl;have cm:∀{y c},(y,c)∈iy X.bS.cells scope.names []->X.bS.cells.lookup y=some c/\c<s.heap.objs.size:=fun{y c} hm=>by
  rcases uj hm with hm|⟨h1,rfl⟩
  ·cases hm
  ·obtain⟨c,hc⟩:=Si _ h1 Z;rw[hc];obtain⟨w,z⟩:=I.cell _ _ hc;exact⟨Z,z.lt⟩
 have mem:∀{y c},nJ.cells.lookup y=some c->(X.bS.cells.lookup y=some c/\c<s.heap.objs.size)\/(s.heap.objs.size+1<=c/\ZdW (we (s.heap.push {cls:= .type "dict",data:= .dict #[]}) scope.names) c none):=fun{y c} e=>by
  rw[hcl]at e;rcases vq (cE e)with hm|⟨_,h2,h3⟩
  ·exact .inl (cm hm)
  ·rw[bb.size_push]at h2;exact .inr ⟨h2,h3⟩
 have look:∀{y},scope.names.lookup y=some .free->∃c,nJ.cells.lookup y=some c/\X.bS.cells.lookup y=some c:=fun{y} hl=>by
  have hy:(y,fT.free)∈scope.names:=cE hl;obtain⟨c',e'⟩:=DT (Bd (names:=scope.names) (n:=(s.heap.push {cls:= .type "dict",data:= .dict #[]}).objs.size) (yG (cells:=X.bS.cells) (bI:=[]) hy));rw[<-hcl]at e';refine⟨c',e',?_⟩;rw[hcl]at e';rcases vq (cE e')with hm|⟨h1,_,_⟩
  ·exact(cm hm).1
  ·have:=ok.ZjA _ h1;rw[hl]at this;cases this
 have okB:(X.SO s H scope nJ fp).Ok:=by
  refine⟨I.ok.Mj,by show nJ.scope.kind=_;rw[hsc];exact ok.kind,by show nJ.globals=_;rw[<-hcenv];exact I.ok.K3,by show nJ.builtins=_;rw[<-hcenv];exact I.ok.blt,by show s.heap.objs.size<=nJ.locals;rw[hL];exact aC _,fun y z c e1 e2=>?_,fun y hy=>?_,fun y c z e=>?_,I.ok.hd,I.ok.frames,.inl Z,fun b hb=> ⟨?_,fun y c e z=>?_⟩,I.bs,cc I.ok.bsz I.sz,fun b o e hb=>?_,fun b hb z=>?_,I.lB,I.SA⟩
  ·have e1:nJ.cells.lookup y=some c:=e1;have e2:nJ.cells.lookup z=some c:=e2;rw[hcl]at e1 e2;refine HR (fun p hp=>?_) (fun y z c a b=>I.ok.inj y z c (cm a).1 (cm b).1) (cE e1) (cE e2);rw[bb.size_push];exact Md (cm (y:=p.1) (c:=p.2) hp).2
  ·show∃c,nJ.cells.lookup y=some c;have key:∀k,nJ.kindOf y=some k->(k= .cell\/k= .free)->∃c,nJ.cells.lookup y=some c:=fun k hk hk'=>by
    unfold Env.kindOf at hk;rw[hsc]at hk;obtain⟨k',e,r⟩:=yH hk;have:k'= .cell\/k'= .free:=by
     rcases r with rfl|⟨rfl,_⟩
     ·exact hk'
     ·exact .inr Z
    rcases this with rfl|rfl
    ·obtain⟨c,hm⟩:=HQ (n:=(s.heap.push {cls:= .type "dict",data:= .dict #[]}).objs.size) (bI:=iy X.bS.cells scope.names []) (cE e);obtain⟨c',e'⟩:=DT hm;exact⟨c',by rw[hcl];exact e'⟩
    ·obtain⟨c,h1,_⟩:=look e;exact⟨c,h1⟩
   rcases hy with hy|hy
   ·exact key _ hy (.inl Z)
   ·exact key _ hy (.inr Z)
  ·have z:(scope.names.lookup y==some fT.cell)=true:=z;have z:scope.names.lookup y=some .cell:=by simpa using z
   have e:nJ.cells.lookup y=some c:=e;rw[hcl]at e;rcases vq (cE e)with hm|⟨_,h2,_⟩
   ·rcases uj hm with hm|⟨h1,_⟩
    ·cases hm
    ·have q:=ok.ZjA _ h1;rw[z]at q;cases q
   ·rw[bb.size_push]at h2;exact xm h2
  ·show b≠nJ.locals;rw[hL];exact dU (hfp b hb).2
  ·have e:nJ.cells.lookup y=some c:=e;rcases mem e with⟨h1,_⟩|⟨h1,_⟩
   ·exact(hfp b hb).1.2.2.2.2.1 y c h1 z
   ·have h2:s.heap.objs.size+1<=b:=by rw[<-z];exact h1
    exact absurd (cb (hfp b hb).2 (xm h2)) (eW _)
  ·rcases(hfp b hb).1.2.2.2.1 with z|z
   ·exact I.ok.VB b o e z
   ·exact absurd (cb (bb.lt_size e) (cc I.ok.bsz z)) (eW _)
  ·rcases aU.mp (I.HG b z)with z|z
   ·exact(hfp b hb).1.2.1 z
   ·exact(hfp b hb).1.2.2.1 z
 refine⟨okB,Z,I.bare,Un.mm kp,⟨fun _=>none,?_,fun i y av e1 e2 e3=>?_⟩,fun y c e=>?_,?_,fun y c e=>?_,fun p hp=>?_,I.fN.mm kp,by rw[yI];exact I.len⟩
 ·show bb.Ns _ nJ.locals _;rw[hL];exact bb.Ns.keeps (bb.Ns.new ..) fun b o e=>EU _ _ _ _ e
 ·obtain⟨e2,iY⟩:=HS e2;have hfr:scope.names.lookup y=some .free/\(nJ.kindOf y=some .cell\/nJ.kindOf y=some .free):=by
   have key:∀k,nJ.scope.names.lookup y=some k->k= .local\/k= .cell\/k= .free->scope.names.lookup y=some .free/\(nJ.kindOf y=some .cell\/nJ.kindOf y=some .free):=fun k hk hk'=>by
    have hk0:=hk;rw[hsc]at hk;obtain⟨k',e,r⟩:=yH hk;have no:¬(k'= .local\/k'= .cell):=fun hh=>by
     rcases ok.own _ (cE e) hh with e'|e'
     ·obtain⟨p,hp,hpy⟩:=bE.mp e';have e3:=ok.ix p hp;have:p.1=y:=hpy;rw[this]at e3;exact iY (bE.mpr ⟨p,hp,Ml hN e3 e1⟩)
     ·exact e' (bj e1)
    rcases r with rfl|⟨rfl,rfl⟩
    ·rcases hk' with rfl|rfl|rfl
     ·exact absurd (.inl Z) no
     ·exact absurd (.inr Z) no
     ·exact⟨e,.inr hk0⟩
    ·exact⟨e,.inl hk0⟩
   have e3:Vis nJ.scope y:=e3;rcases e3 with e3|e3|e3
   ·exact key _ e3 (.inl Z)
   ·exact key _ e3 (.inr (.inl Z))
   ·exact key _ e3 (.inr (.inr Z))
  obtain⟨m,hn,hl⟩:=I.Q7;have ZpS:Vis X.bS.scope y:=(ok.free _ (cE hfr.1) Z).elim (fun k=> .inr (.inl k)) (fun k=> .inr (.inr k));obtain⟨w,r,q⟩:=hl i y av e1 e2 ZpS;refine⟨w,r,.inr ⟨hfr.2,?_⟩⟩;obtain⟨c,h1,h2⟩:=look hfr.1;rcases q with⟨k,_⟩|⟨_,c',e',z⟩
  ·have k:X.bS.scope.names.lookup y=some .local:=k;rcases ok.free _ (cE hfr.1) Z with k'|k'<;>rw[show X.bS.scope.names.lookup y=_ from k']at k<;>cases k
  ·rw[h2]at e';cases e';exact⟨c,h1,z.keeps kp⟩
 ·have e:nJ.cells.lookup y=some c:=e;rcases mem e with⟨h1,_⟩|⟨_,z⟩
  ·obtain⟨w,z⟩:=I.cell y c h1;exact⟨w,z.keeps kp⟩
  ·exact⟨_,z⟩
 ·show H nJ.locals=none;rw[hL];exact I.fN.gE (aC _)
 ·have e:nJ.cells.lookup y=some c:=e;rcases mem e with⟨h1,_⟩|⟨h1,_⟩
  ·exact I.rm y c h1
  ·exact I.fN.gE (xm h1)
 ·exact absurd (show p∈([]:PL)++[]from hp) (by simp)
theorem Zjp{E:VS}{D:ao}{xs:List V}{y:V}{v:aj}{Q:VS}(I:cM X aw σ H s)(hD:H D=some (.bz xs))(hz:xs.length<sizeLine)(r:gg y v) (h:∀s',cM X aw σ (bp H D (.bz (xs++[y]))) s'->Q .none s'):bZ (b7 X.prog X.w) X.A (call (.builtin "list.append") [.ref D,v]) Q E s:=by obtain⟨hz',fc,n,ri,e⟩:=I.fN D _ hD;have hl:=ri.length;refine append_at (hsz:=by rw[bX];omega) e fun h' sb ho'=>?_;refine h {s with heap:=h'} (I.Jk (t':=s.toks) (by rw[hD];trivial) (.inl Z) (fun b u hb q=> (sb.2 b hb).trans q) ⟨_,ho'⟩ ⟨by rw[aX];exact hz,fc++[v],n+1,ri.append (.cons r .nil),?_⟩);rw[ho'];simp
def PTs{K:ae}(X:Cx K)(UN:List Expr)(t:TT):Prop:=∀(aw:PL)(s:aB)(σ:St)(H:Hp)(Q:Bool->Hp->Prop),cM X aw σ H s->t σ H Q->bZ (b7 X.prog X.w) X.A (forIn UN true fun c r=>if r=true then do let ok<-isTrue c X.bS (jb c X.bS);pure (xn ok)else pure (xn r)) (TP X aw σ Q) X.xe s
def Zl5:TT:=fun _ H Q=>Q true H
theorem ZgN:PTs X [] Zl5:=fun _ _ _ H _ I h=>wpAny_tests_nil ⟨H,I,h⟩
theorem Zai{c:Expr}{t:TT}(h:PT X c t):PTs X [c] t:=fun aw s σ H Q I hw=>wpAny_tests_one (h aw s σ H Q I hw)
end
theorem ZbB{α:Type}{t:Sem α}{Q Q':α->aB->Prop}{M:Model}{A:cD}{E:VS}{s:aB}(h:bZ M A t Q (fun _ _=>False) s)(hQ:∀a s,Q a s->Q' a s):bZ M A t Q' E s:=iP h hQ fun _ _ z=>gM z
theorem SQ{prog:aV}{w:bG}{A:cD}{R:Result->aB->Prop}{s:aB}{UO IZ pG:Expr}{UN:List Expr}{scope:mf}{pos:Pos}{it bI:aj}{bS:Env}(I:Nat->aB->Prop) (ZP:∀n s,I n s->bZ (b7 prog w) A (pyNext it) (fun r s₁=>match r with
   |none=>R (.ok .next) s₁
   |some v=>bZ (b7 prog w) A (ET IZ it v) (fun _ s₁'=>bZ (b7 prog w) A (assign IZ bS v) (fun _ s₂=>bZ (b7 prog w) A (forIn UN true fun c r=>if r=true then do let ok<-isTrue c bS (jb c bS);pure (xn ok)else pure (xn r)) (fun ok s₃=>if ok=true then bZ (b7 prog w) A (jb UO bS) (fun x s₄=>bZ (b7 prog w) A (call (.builtin "list.append") [bI,x]) (fun _ s₅=> ∃m,m<n/\I m s₅) (Yz (b7 prog w) A bS fun e s'=>R (.error e) s') s₄) (Yz (b7 prog w) A bS fun e s'=>R (.error e) s') s₃ else∃m,m<n/\I m s₃) (Yz (b7 prog w) A bS fun e s'=>R (.error e) s') s₂) (Yz (b7 prog w) A bS fun e s'=>R (.error e) s') s₁') (Yz (b7 prog w) A bS fun e s'=>R (.error e) s') s₁) (Yz (b7 prog w) A bS fun e s'=>R (.error e) s') s)
  (n:Nat)(h:I n s):QM (b7 prog w) A (.compLoop (.ListComp UO [⟨IZ,pG,UN,0⟩] scope pos) 0 it bI bS) R s:=by
 refine codeAny_loop Z I (fun n s hI=>?_) n h;show bZ _ A ((compTurn (.ListComp UO [⟨IZ,pG,UN,0⟩] scope pos) 0 it bI bS).onRaise (fun x=>do noteFrame x bS;theTreesLotGoes x)) _ _ s;refine wpAny_noted ?_;rw[compTurn_list];refine bA (wpAny_standAt (bA (iP (ZP n s hI) (fun r s₁ h₁=>?_) fun _ _ h'=>h')));cases r with
 |none=>exact dG h₁
 |some v=>
  refine bA (iP h₁ (fun _ s₁' h₁'=>?_) fun _ _ h'=>h');refine bA (iP h₁' (fun _ s₂ h₂=>bA (iP h₂ (fun ok s₃ h₃=>?_) fun _ _ h'=>h')) fun _ _ h'=>h');cases ok with
  |false=>exact dG ⟨Z,h₃⟩
  |true=>exact bA (bA (iP h₃ (fun x s₄ h₄=>bA (iP h₄ (fun _ s₅ h₅=>dG (dG ⟨Z,h₅⟩)) fun _ _ h'=>h')) fun _ _ h'=>h'))
section
variable{K:ae}{X:Cx K}
def tLc(wi:TI)(g:TG)(tt:TT)(te:TE)(vs:List Nat):TE:=fun σ H Q=>wi σ H fun J H1=> ∀D,H1 D=none->∃W:Nat->Nat->Hp->Prop,(∃m,W 0 m (bp H1 D (.bz [])))/\∀i m H,W i m H->(J.K4 i H/\Q (.ref D) H)\/(J.go i H/\∃Nx:Hp->Prop,(∀H',Nx H'->∃m',m'<m/\W (i+1) m' H')/\∀x H',J.yld i H x H'->g x (wy σ vs) H' fun σ2 H2=>wy σ2 vs=wy σ vs/\tt σ2 H2 fun b H3=>if b=true then te σ2 H3 fun y H4=> ∃bI,H4 D=some (.bz bI)/\bI.length<sizeLine/\Nx (bp H4 D (.bz (bI++[y])))else Nx H3)
theorem Zaj{aw:PL}{s:aB}{σ:St}{H:Hp}{Q:VK}{UO tg pG:Expr}{UN:List Expr}{scope:mf}{own:List (Str×Nat)}{pos Hi:Pos}{wi:TI}{g:TG}{tt:TT}{te:TE}{use:Option (aj->Sem Unit)}{Qf:VS} (hc:X.Ph=true)(hN:X.N.Nodup)(I:cM X aw σ H s)(hi:PI X tg pG wi)(ok:Vv X.N X.bS.scope scope own) (hg:∀(s:aB)(H:Hp)(C:ao)(cl:List (Str×ao))(fp:List ao),PG (X.SO s H scope (nk scope cl C X.bS) fp) tg g)(ht:∀(s:aB)(H:Hp)(C:ao)(cl:List (Str×ao))(fp:List ao),PTs (X.SO s H scope (nk scope cl C X.bS) fp) UN tt) (he:∀(s:aB)(H:Hp)(C:ao)(cl:List (Str×ao))(fp:List ao),PE (X.SO s H scope (nk scope cl C X.bS) fp) UO te)(hs:∀x,yu pG X.bS x=pure x) (h:tLc wi g tt te (own.map (·.2)) σ H Q) (hRR:∀D C s' m H',cM X aw σ H' s'->Q (.ref D) H'->s'.heap.Ns C m->Mm X aw H' C->compPost (b7 X.prog X.w) X.A X.xe use Qf (.ref D) C (.ok .next) s'):bZ (b7 X.prog X.w) X.A (comprehension (.ListComp UO [⟨tg,pG,UN,0⟩] scope pos) scope X.bS Hi (newList []) false (jb pG X.bS) use) Qf X.xe s:=by
 have Si:∀y∈scope.names,y.2= .free->∃c,X.bS.cells.lookup y.1=some c:=fun y hy e=>by
  rcases ok.free y hy e with k|k
  ·exact I.ok.has _ (.inl k)
  ·exact I.ok.has _ (.inr k)
 refine wpAny_comprehension_free (use:=use) Z hs (YX Si) ok.kind (fun y hy e=>by rw[ok.ZjA y hy,e]) (jK (hi aw s σ H _ I h) fun xv s1 hx=>jK hx fun itv s2 h2=>?_);obtain⟨it,fp,tn,J,H2,e,I2,T,st2,f2,q⟩:=h2;subst e;refine wpAny_newObj_type (Vu ?_) (by show 0<=sizeLine;decide);generalize hD:s2.heap.objs.size=D;have hDn:H2 D=none:=I2.fN.gE (Mc hD);obtain⟨W,⟨m0,w0⟩,ZP⟩:=q D hDn;generalize Yr:({s2 with heap:=s2.heap.push {cls:= .type "list",data:= .seq ([]:List aj).toArray}}:aB)=s3;have I3:cM X aw σ (bp H2 D (.bz [])) s3:=by rw[<-Yr];refine I2.dW (t':=s2.toks) (fun b o e=>bb.get?_push_of_some _ e) (Mc hD) ⟨bB _,[],0,.nil,?_⟩;rw[<-hD];exact bb.get?_push_size _ Z
 have h3:s3.heap=s2.heap.push {cls:= .type "list",data:= .seq ([]:List aj).toArray}:=by rw[<-Yr]
 have sz:∀b∈fp,b<s2.heap.objs.size:=fun b hb=>by obtain⟨o,e,_⟩:=T.obj _ _ st2 b hb;exact bb.lt_size e
 have f3:∀b∈fp,Mm X aw (bp H2 D (.bz [])) b/\b<s3.heap.objs.size:=fun b hb=>by have qR:=sz b hb;refine⟨⟨?_,(f2 b hb).2⟩,by rw[h3,bb.size_push];exact Md qR⟩;rw[aF (by rw[<-hD];exact dU qR)];exact(f2 b hb).1
 have st3:tn 0 s3.heap:=T.keep _ _ _ st2 fun b _ o e=>by rw[h3];exact bb.get?_push_of_some _ e
 have I4:=Vx I3 ok hN f3;have pg:=hg s3 (bp H2 D (.bz [])) s3.heap.objs.size (gw (s3.heap.objs.size+1) scope.names (iy X.bS.cells scope.names [])) fp;have pt:=ht s3 (bp H2 D (.bz [])) s3.heap.objs.size (gw (s3.heap.objs.size+1) scope.names (iy X.bS.cells scope.names [])) fp;have pe:=he s3 (bp H2 D (.bz [])) s3.heap.objs.size (gw (s3.heap.objs.size+1) scope.names (iy X.bS.cells scope.names [])) fp;show QM _ _ (.compStart (.ListComp UO [⟨tg,pG,UN,0⟩] scope pos) 0 (.ref it) (.ref D) (nk scope (gw (s3.heap.objs.size+1) scope.names (iy X.bS.cells scope.names [])) s3.heap.objs.size X.bS)) (compPost (b7 X.prog X.w) X.A X.xe use Qf (.ref D) s3.heap.objs.size) {s3 with heap:=we (s3.heap.push {cls:= .type "dict",data:= .dict #[]}) scope.names};have nfp:∀b∈fp,(bp H2 D (.bz [])) b=none:=fun b hb=> (f3 b hb).1.1;generalize hce:nk scope (gw (s3.heap.objs.size+1) scope.names (iy X.bS.cells scope.names [])) s3.heap.objs.size X.bS=ce at I4 pg pt pe⊢;have cL:ce.locals=s3.heap.objs.size:=by subst hce;rfl
 generalize ES:bp H2 D (.bz [])=H3 at I3 I4 pg pt pe w0 nfp f3;generalize hs4:({s3 with heap:=we (s3.heap.push {cls:= .type "dict",data:= .dict #[]}) scope.names}:aB)=s4 at I4⊢;have st4:tn 0 s4.heap:=T.keep _ _ _ st3 fun b _ o e=>by rw[<-hs4];exact EU _ _ _ _ (bb.get?_push_of_some _ e)
 have ZQ:∀{σ':St}{H':Hp}{s':aB},cM (X.SO s3 H3 scope ce fp) [] σ' H' s'->(∀b∈fp,H' b=none)->∀b∈fp,Mm (X.SO s3 H3 scope ce fp) [] H' b:=fun{σ' H' s'} I' hn b hb=>
  ⟨hn b hb,(I'.ok.exf b hb).1,I'.ok.VC b hb,.inl hb,fun x c e=> (I'.ok.exf b hb).2 x c e,fun p hp=>absurd (show p∈([]:PL)++[]from hp) (by simp)⟩
 have ZR:QM (b7 X.prog X.w) X.A (.compLoop (.ListComp UO [⟨tg,pG,UN,0⟩] scope pos) 0 (.ref it) (.ref D) ce) (compPost (b7 X.prog X.w) X.A X.xe use Qf (.ref D) s3.heap.objs.size) s4:=by
  refine SQ (fun n s'=> ∃i H',cM (X.SO s3 H3 scope ce fp) [] (wy σ (own.map (·.2))) H' s'/\tn i s'.heap/\(∀b∈fp,H' b=none)/\W i n H') ?_ m0 ⟨0,H3,I4,st4,nfp,w0⟩;rintro n s5 ⟨i,H5,I5,st5,n5,w5⟩;rcases ZP i n H5 w5 with⟨K4,qq⟩|⟨go,Nx,hNx,step⟩
  ·have td:=T.done (X.SO s3 H3 scope ce fp) Z Z Z hc i [] s5 _ H5 (fun _ _=>False) I5 (ZQ I5 n5) st5 K4;refine ZbB td fun r s6 ⟨hr,I6⟩=>?_;subst hr;have I7:cM X aw σ H5 s6:=I3.ZdC (ch:=fp) I6.os I6.base I6.fN I6.bare fun b hb=> ⟨(f3 b hb).1.2.2.2.1,(f3 b hb).1.2.1,(f3 b hb).1.2.2.2.2.1,(f3 b hb).1.2.2.2.2.2⟩;have nC:H5 s3.heap.objs.size=none:=by have z:H5 ce.locals=none:=I6.free;rw[cL]at z;exact z
   obtain⟨m,hn,_⟩:=I6.Q7;have hn:s6.heap.Ns ce.locals m:=hn;rw[cL]at hn;exact hRR D s3.heap.objs.size s6 m H5 I7 qq hn (I3.ZdG (aC _) nC)
  ·have ti:=T.item (X.SO s3 H3 scope ce fp) Z Z Z hc i [] s5 _ H5 (fun _ _=>False) I5 (ZQ I5 n5) st5 go;refine ZbB ti fun r s6 ⟨u,hr,h6⟩=>?_;subst hr;refine ZbB h6 fun _ s7 ⟨x,H7,I7,r7,y7,st7,n7⟩=>?_;have I7':=I7.qV (ZQ I7 n7) (T.obj _ _ st7);refine ZbB (pg _ s7 _ H7 x u _ I7' r7 (step x H7 y7)) fun _ s8 ⟨σ8,H8,I8,hw8,q8⟩=>?_;refine ZbB (pt _ s8 σ8 H8 _ I8 q8) fun b s9 ⟨H9,I9,q9⟩=>?_;have tS:∀{s':aB}{H':Hp},cM (X.SO s3 H3 scope ce fp) ([]++Mn fp s7.heap) σ8 H' s'->Nx H'->∃m,m<n/\∃i H',cM (X.SO s3 H3 scope ce fp) [] (wy σ (own.map (·.2))) H' s'/\tn i s'.heap/\(∀b∈fp,H' b=none)/\W i m H':=fun{s' H'} I' nx=>by
    obtain⟨m',hm,w'⟩:=hNx H' nx;have Zm8:∀b∈fp,∀o,s7.heap.get? b=some o->s'.heap.get? b=some o/\H' b=none:=fun b hb o e=>
     let z:=I'.SW (b,o) (fq _ (fq _ (DS hb e)))
     ⟨z.1,z.2.1⟩
    have hl:(wy σ (own.map (·.2))).length=σ8.length:=by rw[<-hw8,yI]
    refine⟨m',hm,i+1,H',(I'.vo (aw:=[])).Zo0 hl (fun j v e=>?_),T.keep _ _ _ st7 fun b hb o e=> (Zm8 b hb o e).1,fun b hb=>?_,w'⟩
    ·rw[<-hw8]at e;exact(HS e).1
    ·obtain⟨o,e,_⟩:=T.obj _ _ st7 b hb;exact(Zm8 b hb o e).2
   cases b with
   |false=>simp only[Bool.false_eq_true,if_false]at q9⊢;exact tS I9 q9
   |true=>simp only[if_true]at q9⊢;refine ZbB (pe _ s9 σ8 H9 _ I9 q9) fun z s10 ⟨yv,H10,I10,r10,bI,ZpI,ZpJ,nx⟩=>?_;exact Zjp (X:=X.SO s3 H3 scope ce fp) I10 ZpI ZpJ r10 fun s11 I11=>tS I11 nx
 exact codeAny_compStart_list ZR (T.Y0 X.A 0 _ _ _ st4 ZR)
theorem Zio{UO tg pG:Expr}{UN:List Expr}{scope:mf}{own:List (Str×Nat)}{pos:Pos}{wi:TI}{g:TG}{tt:TT}{te:TE}(hc:X.Ph=true)(hN:X.N.Nodup)(hi:PI X tg pG wi)(ok:Vv X.N X.bS.scope scope own) (hg:∀(s:aB)(H:Hp)(C:ao)(cl:List (Str×ao))(fp:List ao),PG (X.SO s H scope (nk scope cl C X.bS) fp) tg g)(ht:∀(s:aB)(H:Hp)(C:ao)(cl:List (Str×ao))(fp:List ao),PTs (X.SO s H scope (nk scope cl C X.bS) fp) UN tt) (he:∀(s:aB)(H:Hp)(C:ao)(cl:List (Str×ao))(fp:List ao),PE (X.SO s H scope (nk scope cl C X.bS) fp) UO te)(hs:∀x,yu pG X.bS x=pure x:=by intro _;rfl):PE X (.ListComp UO [⟨tg,pG,UN,0⟩] scope pos) (tLc wi g tt te (own.map (·.2))):=by intro aw s σ H Q I h;rw[eval_ListComp];refine Zaj hc hN I hi ok hg ht he hs h fun D C s' m H' I' q hn f=> ⟨m,hn,fun h'' sb=>?_⟩;obtain⟨f0,f1,f2,f3,f4,f5⟩:=f;exact⟨.ref D,H',I'.wq (t':=s'.toks) (fun b o hb e=> (sb.2 b hb).trans e) f0 f1 f3 f4 f5,Z,q⟩
theorem ZdX{i:Nat}{y:Str}{py:Pos}{UO tg pG:Expr}{UN:List Expr}{scope:mf}{own:List (Str×Nat)}{pos ZmZ:Pos}{wi:TI}{g:TG}{tt:TT}{te:TE}(hc:X.Ph=true)(hN:X.N.Nodup)(hy:X.N[i]? =some y)(Hw:X.bS.scope.names.lookup y=some .local) (hsw:BP (.ListComp UO [⟨tg,pG,UN,0⟩] scope pos) (some (.Name y py)) ZmZ.line X.bS=pure true)(hi:PI X tg pG wi)(ok:Vv X.N X.bS.scope scope own) (hg:∀(s:aB)(H:Hp)(C:ao)(cl:List (Str×ao))(fp:List ao),PG (X.SO s H scope (nk scope cl C X.bS) fp) tg g)(ht:∀(s:aB)(H:Hp)(C:ao)(cl:List (Str×ao))(fp:List ao),PTs (X.SO s H scope (nk scope cl C X.bS) fp) UN tt) (he:∀(s:aB)(H:Hp)(C:ao)(cl:List (Str×ao))(fp:List ao),PE (X.SO s H scope (nk scope cl C X.bS) fp) UO te)(hs:∀x,yu pG X.bS x=pure x:=by intro _;rfl):PS X (.Assign [.Name y py] (.ListComp UO [⟨tg,pG,UN,0⟩] scope pos) ZmZ) (Zbs (tLc wi g tt te (own.map (·.2))) (BX i)):=by
 intro aw s σ H D I h;rw[exec_Assign_Name_used _ _ _ _ hsw];refine bA (wpAny_standAt (bA ?_));show bZ _ X.A (do let _<-comprehension (.ListComp UO [⟨tg,pG,UN,0⟩] scope pos) scope X.bS (firstIterPos [⟨tg,pG,UN,0⟩] pos) (newList []) false (jb pG X.bS) (some (assign (.Name y py) X.bS))) _ _ s;have h:tLc wi g tt te (own.map (·.2)) σ H (fun x H1=>BX i x σ H1 D.nx):=h;refine bA (jK (Zaj (Qf:=fun _ s'=>SP X aw D .next s') hc hN I hi ok hg ht he hs h fun L C s' m H' I' q hn f=>?_) fun _ s' hq=>dG (dG hq));show bZ _ _ (assign (.Name y py) X.bS (.ref L)) _ _ _;refine wpAny_assign_Name (QU (v:=V.ref L) I' hN hy (.inl Hw) Z (fun s2 I2 ⟨a,sb,ha⟩=>?_) (.inr Hw));obtain⟨f0,f1,f2,f3,f4,f5⟩:=f;have haC:C≠a:=by
  rcases ha with z|z
  ·rw[z];exact f1
  ·exact fun e=>f4 y a z e.symm
 refine⟨m,hn.sameBut sb haC,fun h3 sb3=>?_⟩;exact⟨_,H',I2.wq (t':=s2.toks) (fun b o hb e=> (sb3.2 b hb).trans e) f0 f1 f3 f4 f5,q⟩
theorem ZgO{UO:Expr}{gs:List Comprehension}{scope:mf}{pos py:Pos}{y:Str}{l:Nat}{bS:Env}(hk:bS.scope.kind= .function)(hy:bS.scope.names.lookup y=some .local)(hl:(py.line==pos.line)=true) (ha:(scope.names.any fun(n,k)=>n==y&&(k== .local||k== .cell))=false):BP (.ListComp UO gs scope pos) (some (.Name y py)) l bS=pure true:=by
 have ky:bS.kindOf y=some .local:=hy;have hb:bS.blockKind= .function:=by unfold Env.blockKind;rw[hk];rfl
 unfold BP;simp only[hb,ky,ha,Expr.pos,hl];rfl
end
theorem SR{K:ae}{a:ao}{xs:List V}{g:TG}{tt:TT}{te:TE}{vs:List Nat}{σ:St}{H1:Hp}{D:ao}{Qd:Hp->Prop}(Pv:Nat->Hp->Prop)(h0:Pv 0 (bp H1 D (.bz [])))(hl:∀i H,i<=xs.length->Pv i H->ft K H a xs) (hs:∀i x H,xs[i]? =some x->Pv i H->g x (wy σ vs) H fun σ2 H2=>wy σ2 vs=wy σ vs/\tt σ2 H2 fun b H3=>if b=true then te σ2 H3 fun y H4=> ∃bI,H4 D=some (.bz bI)/\bI.length<sizeLine/\Pv (i+1) (bp H4 D (.bz (bI++[y])))else Pv (i+1) H3)(hd:∀H,Pv xs.length H->Qd H):∃W:Nat->Nat->Hp->Prop,(∃m,W 0 m (bp H1 D (.bz [])))/\∀i m H,W i m H->((Itl K a).K4 i H/\Qd H)\/((Itl K a).go i H/\∃Nx:Hp->Prop,(∀H',Nx H'->∃m',m'<m/\W (i+1) m' H')/\∀x H',(Itl K a).yld i H x H'->g x (wy σ vs) H' fun σ2 H2=>wy σ2 vs=wy σ vs/\tt σ2 H2 fun b H3=>if b=true then te σ2 H3 fun y H4=> ∃bI,H4 D=some (.bz bI)/\bI.length<sizeLine/\Nx (bp H4 D (.bz (bI++[y])))else Nx H3):=by
 refine⟨fun i m H=>m=xs.length-i/\i<=xs.length/\Pv i H,⟨xs.length,by simp,bB _,h0⟩,?_⟩;rintro i m H ⟨rfl,hi,p⟩;have q:=hl i H hi p;by_cases qR:i<xs.length
 ·refine .inr ⟨⟨xs,xs[i],q,by simp[qR]⟩,Pv (i+1),fun H' p'=> ⟨xs.length-(i+1),by omega,Z,qR,p'⟩,fun x H' y=>?_⟩;obtain⟨e,y⟩:=y;subst e;exact hs i x _ (y xs q) p
 ·have e:i=xs.length:=by omega
  subst e;exact .inl ⟨⟨xs,q,aC _⟩,hd H p⟩
noncomputable def Zl6(N:LS)(sc scope:mf)(own:List (Str×Nat)):Bool:=(match scope.kind with| .function=>true|_=>false)&&(scope.names.all fun y=>decide (scope.names.lookup y.1=some y.2))&&(own.all fun p=>decide (N[p.2]? =some p.1))&&(scope.names.all fun y=>match y.2 with
 | .free=> (match sc.names.lookup y.1 with|some .cell=>true|some .free=>true|_=>false)
 | .local=>decide (y.1∈own.map (·.1))||decide (y.1∉N)
 | .cell=>decide (y.1∈own.map (·.1))||decide (y.1∉N)
 |_=>true)
theorem Ms{N:LS}{sc scope:mf}{own:List (Str×Nat)}(h:Zl6 N sc scope own=true):Vv N sc scope own:=by
 unfold Zl6 at h;simp only[bu,fU,decide_eq_true_eq]at h;obtain⟨⟨⟨h1,h2⟩,h3⟩,h4⟩:=h;refine⟨?_,h2,h3,fun y hy e=>?_,fun y hy e=>?_⟩
 ·split at h1
  ·assumption
  ·cases h1
 ·have q:=h4 y hy;simp only[e]at q;split at q<;>first|exact .inl (by assumption)|exact .inr (by assumption)|cases q
 ·have q:=h4 y hy;rcases e with e|e<;> (simp only[e,Bool.or_eq_true,decide_eq_true_eq]at q;exact q)
section
variable{prog:aV}{w:bG}{A:cD}{R:Result->aB->Prop}{s:aB}{UO t0 i0 t1 i1:Expr}{ZsZ Zs0:List Expr}{scope:mf}{pos:Pos}{it bI:aj}{bS:Env}
end
section
variable{K:ae}{X:Cx K}
end
section
variable{κ:Type} [DecidableEq κ]
noncomputable def iV(br:List (κ×V))(k:κ):Option V:=(br.find? fun kv=>decide (kv.1=k)).map (·.2)
noncomputable def lW(br:List (κ×V))(k:κ)(v:V):List (κ×V):=if(br.any fun kv=>decide (kv.1=k))=true then br.map (fun kv=>if kv.1=k then(kv.1,v)else kv)else br++[(k,v)]
noncomputable def oQ(br:List (κ×V))(k:κ):List (κ×V):=br.filter fun kv=>decide (kv.1≠k)
theorem jd{p:κ×V}{r:List (κ×V)}{k:κ}(e:p.1=k):iV (p::r) k=some p.2:=by simp[iV,cT,e]
theorem iR{p:κ×V}{r:List (κ×V)}{k:κ}(e:¬p.1=k):iV (p::r) k=iV r k:=by simp[iV,cT,e]
theorem vt(k:κ):∀br:List (κ×V),(br.any fun kv=>decide (kv.1=k))=(iV br k).isSome
 |[]=>rfl
 |p::r=>by
  rw[dD];by_cases e:p.1=k
  ·simp only[jd e,aD e,Bool.true_or,Option.isSome_some]
  ·rw[iR e,ay e,Bool.false_or];exact vt k r
theorem Vy(k j:κ)(y:V):∀br:List (κ×V),iV (br.map fun kv=>if kv.1=k then(kv.1,y)else kv) j=(iV br j).map fun x=>if j=k then y else x
 |[]=>rfl
 |p::r=>by
  have ih:=Vy k j y r;rw[aY];by_cases h:p.1=k
  ·rw[ak h];by_cases e:p.1=j
   ·rw[jd (p:=(p.1,y)) e,jd e,eK,ak (e.symm.trans h)]
   ·rw[iR (p:=(p.1,y)) e,iR e,ih]
  ·rw[ah h];by_cases e:p.1=j
   ·rw[jd (p:=p) e,jd e,eK,ah (fun z=>h (e.trans z))]
   ·rw[iR (p:=p) e,iR e,ih]
theorem Q3(k j:κ)(y:V):∀br:List (κ×V),iV br k=none->iV (br++[(k,y)]) j=if j=k then some y else iV br j
 |[],_=>by
  by_cases e:k=j
  ·rw[ak e.symm];exact jd (p:=(k,y)) e
  ·rw[ah (fun z=>e z.symm)];exact iR (p:=(k,y)) e
 |p::r,hn=>by
  rw[cw];have hk:¬p.1=k:=fun z=>by rw[jd z]at hn;cases hn
  rw[iR hk]at hn;have ih:=Q3 k j y r hn;by_cases e:p.1=j
  ·rw[jd e,jd e,ah (fun z=>hk (e.trans z))]
  ·rw[iR e,iR e,ih]
theorem Vz(br:List (κ×V))(k j:κ)(y:V):iV (lW br k y) j=if j=k then some y else iV br j:=by
 unfold lW;by_cases a:(br.any fun kv=>decide (kv.1=k))=true
 ·rw[ak a,Vy];rw[vt]at a;by_cases e:j=k
  ·obtain⟨x,hx⟩:=v8.mp a;rw[ak e,e,hx,eK,ak Z]
  ·rw[ah e];cases iV br j with
   |none=>rfl
   |some x=>rw[eK,ah e]
 ·rw[ah a];refine Q3 k j y br ?_;rw[vt]at a;cases q:iV br k with
  |none=>rfl
  |some x=>rw[q]at a;exact(a Z).elim
theorem Jp(br:List (κ×V))(k:κ)(v:V):(lW br k v).length<=br.length+1:=by
 unfold lW;split
 ·rw[aZ];omega
 ·rw[aX,bg,t9];omega
theorem ZdY{br:List (κ×V)}{k:κ}(v:V)(h:iV br k=none):lW br k v=br++[(k,v)]:=by unfold lW;rw[vt,h];exact ah (by decide)
theorem yz.vw{o:Option V}{u:Option aj}(r:yz o u):o.isSome=u.isSome:=by
 cases o with
 |none=>cases u with
  |none=>rfl
  |some _=>exact(show False from r).elim
 |some _=>cases u with
  |none=>exact(show False from r).elim
  |some _=>rfl
theorem KV.val{br:List (κ×V)}{vs:List (κ×aj)}(r:KV br vs)(k:κ):yz (iV br k) (KY vs k):=by
 unfold KV at r;induction r with
 |nil=>exact j0
 | @cons p q ps qs h t ih=>
  obtain⟨h1,h2⟩:=h;by_cases e:p.1=k
  ·have e':q.1=k:=h1.symm.trans e;have b:KY (q::qs) k=some q.2:=by simp[KY,cT,e']
   rw[jd e,b];exact h2
  ·have e':¬q.1=k:=fun z=>e (h1.trans z);have b:KY (q::qs) k=KY qs k:=by simp[KY,cT,e']
   rw[iR e,b];exact ih
theorem KV.any{br:List (κ×V)}{vs:List (κ×aj)}(r:KV br vs)(k:κ):(br.any fun kv=>decide (kv.1=k))=vs.any fun kv=>decide (kv.1=k):=by
 unfold KV at r;induction r with
 |nil=>rfl
 |cons h t ih=>rw[dD,dD,ih,h.1]
theorem KV.Zjq{br:List (κ×V)}{vs:List (κ×aj)}(r:KV br vs)(k:κ){y:V}{u:aj}(ry:gg y u):KV (br.map fun kv=>if kv.1=k then(kv.1,y)else kv) (vs.map fun kv=>if kv.1=k then(kv.1,u)else kv):=by
 unfold KV at r⊢;induction r with
 |nil=>exact .nil
 | @cons p q ps qs h t ih=>
  rw[aY,aY];refine .cons ?_ ih;obtain⟨h1,h2⟩:=h;by_cases e:p.1=k
  ·rw[ak e,ak (h1.symm.trans e)];exact⟨h1,ry⟩
  ·rw[ah e,ah (fun z=>e (h1.trans z))];exact⟨h1,h2⟩
theorem KV.put{br:List (κ×V)}{vs:List (κ×aj)}(r:KV br vs)(k:κ){y:V}{u:aj}(ry:gg y u):KV (lW br k y) (stored vs k u):=by
 unfold lW stored;rw[r.any k];by_cases e:(vs.any fun kv=>decide (kv.1=k))=true
 ·rw[ak e,ak e];exact r.Zjq k ry
 ·rw[ah e,ah e];exact Paired.snoc r ⟨Z,ry⟩
theorem KV.drop{br:List (κ×V)}{vs:List (κ×aj)}(r:KV br vs)(k:κ):KV (oQ br k) (without vs k):=by
 unfold KV at r⊢;unfold oQ without;induction r with
 |nil=>exact .nil
 | @cons p q ps qs h t ih=>
  obtain⟨h1,h2⟩:=h;rw[List.filter_cons,List.filter_cons];by_cases e:p.1=k
  ·have a:¬decide (p.1≠k)=true:=by simp[e]
   have b:¬decide (q.1≠k)=true:=by simp[h1.symm.trans e]
   rw[ah a,ah b];exact ih
  ·have e':¬q.1=k:=fun z=>e (h1.trans z);have a:decide (p.1≠k)=true:=by simp[e]
   have b:decide (q.1≠k)=true:=by simp[e']
   rw[ak a,ak b];exact .cons ⟨h1,h2⟩ ih
theorem KV.length{br:List (κ×V)}{vs:List (κ×aj)}(r:KV br vs):br.length=vs.length:=Paired.length r
theorem ZdZ(br:List (κ×V))(k:κ):(oQ br k).length<=br.length:=iB _ _
end
theorem Q4{P:aV}{w:bG}{k:i5}{u:aj}(r:gg (kV k) u):(jN P w).is k u=true:=by
 cases k with
 |inl i=>obtain⟨t,e⟩:=(show∃t,u=aj.int i t from r);subst e;exact Vl P w i t
 |inr x=>obtain⟨t,e⟩:=(show∃t,u=aj.str x t from r);subst e;exact Vm P w x t
theorem Q5{P:aV}{w:bG}:∀{ks:List i5}{us:List aj},fA (ks.map kV) us->ItemsAre (jN P w) ks us
 |[],_,r=>by rw[List.map_nil]at r;cases r;exact .nil
 |k::ks,_,r=>by
  rw[aY]at r;cases r with
  |cons h t=>exact .cons (Q4 h) (Q5 t)
abbrev KT(H:Hp):List (List i5×V)->List (List i5×ao×aj)->Prop:=Paired fun p q=>p.1=q.1/\H q.2.1=some (.f6 (p.1.map kV))/\gg p.2 q.2.2
theorem KT.val{H:Hp}{br:List (List i5×V)}{xs:List (List i5×ao×aj)}(r:KT H br xs)(k:List i5):yz (iV br k) ((Z5 xs k).map (·.2)):=by
 induction r with
 |nil=>exact j0
 | @cons p q ps qs h t ih=>
  obtain⟨h1,_,h2⟩:=h;by_cases e:p.1=k
  ·have e':q.1=k:=h1.symm.trans e;have b:Z5 (q::qs) k=some q.2:=by simp[Z5,cT,e']
   rw[jd e,b];exact h2
  ·have e':¬q.1=k:=fun z=>e (h1.trans z);have b:Z5 (q::qs) k=Z5 qs k:=by simp[Z5,cT,e']
   rw[iR e,b];exact ih
theorem KT.Zjq{H:Hp}{br:List (List i5×V)}{xs:List (List i5×ao×aj)}(r:KT H br xs)(k:List i5){y:V}{u:aj}(ry:gg y u):KT H (br.map fun kv=>if kv.1=k then(kv.1,y)else kv) (xs.map (putAt k u)):=by
 induction r with
 |nil=>exact .nil
 | @cons p q ps qs h t ih=>
  rw[aY,aY];refine .cons ?_ ih;obtain⟨h1,h2,h3⟩:=h;unfold putAt;by_cases e:p.1=k
  ·rw[ak e,ak (h1.symm.trans e)];exact⟨h1,h2,ry⟩
  ·rw[ah e,ah (fun z=>e (h1.trans z))];exact⟨h1,h2,h3⟩
theorem KT.put{H:Hp}{br:List (List i5×V)}{xs:List (List i5×ao×aj)}(r:KT H br xs)(k:List i5){b:ao}{y:V}{u:aj}(hb:H b=some (.f6 (k.map kV)))(ry:gg y u):KT H (lW br k y) (storedH xs k b u):=by
 have e:(br.any fun kv=>decide (kv.1=k))=(Z5 xs k).isSome:=by rw[vt,(r.val k).vw,oO]
 unfold lW storedH;rw[e];by_cases q:(Z5 xs k).isSome=true
 ·rw[ak q,ak q];exact r.Zjq k ry
 ·rw[ah q,ah q];exact Paired.snoc r ⟨Z,hb,ry⟩
theorem KT.keeps{H H':Hp}{br:List (List i5×V)}{xs:List (List i5×ao×aj)}(r:KT H br xs)(ht:∀b ys,H b=some (.f6 ys)->H' b=some (.f6 ys)):KT H' br xs:=Paired.wm r fun _ _ z=> ⟨z.1,ht _ _ z.2.1,z.2.2⟩
section
variable{P:aV}{w:bG}{H:Hp}{h:bb}{a:ao}
theorem Zip{u:HO}(ok:xu P w H h)(e:Rd H a u):iD P w H h a u:=e.ok ok
theorem Jq{br:List (i5×V)}(ok:xu P w H h)(e:Rd H a (.dK br)):br.length<=sizeLine/\(a==jG)=false/\∃vs,KV br vs/\h.DictOf (jN P w) a vs:=show iD P w H h a (.dK br)from Zip ok e
theorem Zd0{br:List (i5×V)}(ok:xu P w H h)(e:H a=some (.dK br)):br.length<=sizeLine/\(a==jG)=false/\∃vs,KV br vs/\h.DictOf (jN P w) a vs:=Jq ok (.inl e)
theorem Mt{ks:List i5}(ok:xu P w H h)(e:H a=some (.f6 (ks.map kV))):(US (jN P w)).is h ks a:=by obtain⟨_,fc,r,o,h1,h2,n,h3⟩:=(show iD P w H h a (.f6 (ks.map kV))from ok a _ e);exact⟨o,fc.toArray,n,h1,h2,h3,by simpa using Q5 r⟩
theorem Q6{br:List (List i5×V)}(ok:xu P w H h)(e:Rd H a (.dT br)):br.length<=sizeLine/\(a==jG)=false/\∃xs,KT H br xs/\h.DictOfH (US (jN P w)) a xs:=by
 obtain⟨z,y,xs,r,o,es,ep,h1,h2,h3,h4,h5⟩:=(show iD P w H h a (.dT br)from Zip ok e);refine⟨z,y,xs,r,o,es,ep,h1,h2,h3,h4,fun x hx=>?_,h5⟩;have all:∀{l:List (List i5×V)}{m:List (List i5×ao×aj)},KT H l m->∀x∈m,(US (jN P w)).is h x.1 x.2.1:=by
  intro l m q;induction q with
  |nil=>intro x hx;exact nomatch hx
  | @cons p q ps qs hq t ih=>
   intro x hx;rcases aU.mp hx with e|hx
   ·subst e;exact Mt ok (by rw[<-hq.1];exact hq.2.1)
   ·exact ih x hx
 exact all r x hx
theorem Zl7{br:List (List i5×V)}(ok:xu P w H h)(e:H a=some (.dT br)):br.length<=sizeLine/\(a==jG)=false/\∃xs,KT H br xs/\h.DictOfH (US (jN P w)) a xs:=Q6 ok (.inl e)
end
def kx(H:Hp)(a:ao)(y:V)(r:Option V):Prop:=(∃br k,Rd H a (.dK br)/\y=kV k/\r=iV br k)\/∃br k b,Rd H a (.dT br)/\y= .ref b/\H b=some (.f6 (k.map kV))/\r=iV br k
def K1(H:Hp)(a:ao)(y v:V)(H':Hp):Prop:=(∃br k,H a=some (.dK br)/\y=kV k/\br.length<sizeLine/\H'=bp H a (.dK (lW br k v)))\/∃br k b,H a=some (.dT br)/\y= .ref b/\H b=some (.f6 (k.map kV))/\br.length<sizeLine/\H'=bp H a (.dT (lW br k v))
theorem kx.k{H:Hp}{a:ao}{br:List (i5×V)}{k:i5}(e:H a=some (.dK br)):kx H a (kV k) (iV br k):= .inl ⟨br,k,.inl e,Z,Z⟩
theorem kx.t{H:Hp}{a b:ao}{br:List (List i5×V)}{k:List i5}(e:H a=some (.dT br))(eb:H b=some (.f6 (k.map kV))):kx H a (.ref b) (iV br k):= .inr ⟨br,k,b,.inl e,Z,eb,Z⟩
theorem K1.k{H:Hp}{a:ao}{br:List (i5×V)}{k:i5}{v:V}(e:H a=some (.dK br))(hl:br.length<sizeLine):K1 H a (kV k) v (bp H a (.dK (lW br k v))):= .inl ⟨br,k,e,Z,hl,Z⟩
theorem K1.t{H:Hp}{a b:ao}{br:List (List i5×V)}{k:List i5}{v:V}(e:H a=some (.dT br))(eb:H b=some (.f6 (k.map kV)))(hl:br.length<sizeLine):K1 H a (.ref b) v (bp H a (.dT (lW br k v))):= .inr ⟨br,k,b,e,Z,eb,hl,Z⟩
section
variable{K:ae}{X:Cx K}{aw:PL}{σ:St}{H:Hp}{s:aB}{a:ao}{y v:V}{u r:aj}{o:Option V}{A:cD}{E:VS}
theorem cM.big(I:cM X aw σ H s):jG<s.heap.objs.size:=by have h:d9<s.heap.objs.size:=(I.Mj.K3.keeps I.bk).lt;exact Nat.lt_trans (by decide) h
theorem ZbC{Q:VS}(hu:A.units+1<oN)(I:cM X aw σ H s)(g:kx H a y (some v))(ry:gg y u)(h:∀w' s',cM X aw σ H s'->gg v w'->Q w' s'):bZ (b7 X.prog X.w) A (Yy (.ref a) u) Q E s:=by
 rcases g with⟨br,k,e,ey,l⟩|⟨br,k,b,e,ey,eb,l⟩
 ·subst ey;obtain⟨z,hd,vs,oI,dd⟩:=Jq I.fN e;obtain⟨w',hw,QG⟩:=yz.LG (v:=v) (o:=KY vs k) (by rw[l];exact oI.val k);exact wpAny_getItem_of (Q4 ry) dd.mapOf hw (h w' _ (I.Yl _) QG)
 ·subst ey;cases(show u=aj.ref b from ry);obtain⟨z,hd,xs,oI,dd⟩:=Q6 I.fN e;obtain⟨w',hw,QG⟩:=yz.LG (v:=v) (o:=(Z5 xs k).map (·.2)) (by rw[l];exact oI.val k);obtain⟨p,hp,hp2⟩:=Ye.mp hw;refine wpAny_getItem_heap (xk hu) (Mt I.fN eb) dd hp ?_;rw[hp2];exact h w' _ (I.Yl _) QG
theorem Zpk{Q:VS}(hu:A.units+1<oN)(I:cM X aw σ H s)(g:kx H a y o)(ry:gg y u)(h:∀s',cM X aw σ H s'->Q (.bool o.isSome) s'):bZ (b7 X.prog X.w) A (di .In u (.ref a)) Q E s:=by
 rcases g with⟨br,k,e,ey,l⟩|⟨br,k,b,e,ey,eb,l⟩
 ·subst ey;obtain⟨z,hd,vs,oI,dd⟩:=Jq I.fN e;refine wpAny_in_of (Q4 ry) hd dd.mapOf ?_;rw[<-(oI.val k).vw,<-l];exact h _ (I.Yl _)
 ·subst ey;cases(show u=aj.ref b from ry);obtain⟨z,hd,xs,oI,dd⟩:=Q6 I.fN e;refine wpAny_in_heap (xk hu) (Mt I.fN eb) hd dd ?_;have q:=(oI.val k).vw;rw[oO]at q;rw[<-q,<-l];exact h _ (I.Yl _)
theorem ZgP{Q:VS}(hu:A.units+1<oN)(I:cM X aw σ H s)(g:kx H a y o)(ry:gg y u)(h:∀s',cM X aw σ H s'->Q (.bool (!o.isSome)) s'):bZ (b7 X.prog X.w) A (di .NotIn u (.ref a)) Q E s:=by
 rcases g with⟨br,k,e,ey,l⟩|⟨br,k,b,e,ey,eb,l⟩
 ·subst ey;obtain⟨z,hd,vs,oI,dd⟩:=Jq I.fN e;refine wpAny_notIn_of (Q4 ry) hd dd.mapOf ?_;rw[<-(oI.val k).vw,<-l];exact h _ (I.Yl _)
 ·subst ey;cases(show u=aj.ref b from ry);obtain⟨z,hd,xs,oI,dd⟩:=Q6 I.fN e;refine wpAny_notIn_heap (xk hu) (Mt I.fN eb) hd dd ?_;have q:=(oI.val k).vw;rw[oO]at q;rw[<-q,<-l];exact h _ (I.Yl _)
theorem SS{h':bb}{t':Nat}{ob:HO}(I:cM X aw σ H s)(mu:Mut (H a))(hs:bb.SameBut a s.heap h')(he:∃q,h'.get? a=some q)(new:iD X.prog X.w (bp H a ob) h' a ob):cM X aw σ (bp H a ob) {s with heap:=h',toks:=t'}:=I.Jk (x:=a) (e:=a) mu (.inl Z) (fun b q hb z=> (hs.2 b hb).trans z) he new
theorem YY{P:aV}{w:bG}{H':Hp}{h':bb}{br:List (i5×V)}{vs:List (i5×aj)}(z:br.length<=sizeLine)(hd:(a==jG)=false)(oI:KV br vs)(dd:h'.DictOf (jN P w) a vs):iD P w H' h' a (.dK br):=⟨z,hd,vs,oI,dd⟩
theorem ZbD{H':Hp}{Q:Unit->aB->Prop}(hu:A.units+1<oN)(I:cM X aw σ H s)(g:K1 H a y v H')(ry:gg y u)(rv:gg v r)(h:∀s',cM X aw σ H' s'->Q () s'):bZ (b7 X.prog X.w) A (setItem (.ref a) u r) Q E s:=by
 rcases g with⟨br,k,e,ey,l,eH⟩|⟨br,k,b,e,ey,eb,l,eH⟩
 ·subst ey eH;obtain⟨z,hd,vs,oI,dd⟩:=Zd0 I.fN e;have hz:vs.length<=sizeLine:=by rw[<-oI.length];exact z
  have hl:(lW br k v).length<=sizeLine:=by have:=Jp br k v;omega
  refine wpAny_setItem_pairs (hsz:=hz) (Q4 ry) dd fun h' dd' hs=>h _ ?_;have he:∃q,h'.get? a=some q:=let⟨q,_,_,hq,_⟩:=dd';⟨q,hq⟩
  exact SS I (by rw[e];exact j0) hs he (YY hl hd (oI.put k rv) dd')
 ·subst ey eH;cases(show u=aj.ref b from ry);obtain⟨z,hd,xs,oI,dd⟩:=Zl7 I.fN e;have hz:xs.length<=sizeLine:=by rw[<-Paired.length oI];exact z
  have hl:(lW br k v).length<=sizeLine:=by have:=Jp br k v;omega
  refine wpAny_setItem_heap (hsz:=hz) (xk hu) (Mt I.fN eb) dd fun h' dd' hs=>h _ ?_;obtain⟨q,es,ep,hq,h2,h3,h4,_,h5⟩:=dd';refine SS I (by rw[e];exact j0) hs ⟨q,hq⟩ ⟨hl,hd,_,(oI.put k eb rv).keeps fun c ys ec=>?_,q,es,ep,hq,h2,h3,h4,h5⟩;rw[aF (vk ec e (fun z=>nomatch z))];exact ec
end
section
variable{K:ae}{X:Cx K}{aw:PL}{σ:St}{H:Hp}{s:aB}{a:ao}{br:List (i5×V)}{k:i5}{u:aj}{A:cD}{E:VS}
theorem Zl8{v:V}{more:List aj}{Q:VS}(I:cM X aw σ H s)(e:H a=some (.dK br))(ry:gg (kV k) u)(l:iV br k=some v)(hm:more=[]\/∃x,more=[x]) (h:∀w' s',cM X aw σ (bp H a (.dK (oQ br k))) s'->gg v w'->Q w' s'):bZ (b7 X.prog X.w) A (call (.builtin "dict.pop") (.ref a::u::more)) Q E s:=by
 obtain⟨z,hd,vs,oI,dd⟩:=Zd0 I.fN e;obtain⟨w',hw,QG⟩:=yz.LG (v:=v) (o:=KY vs k) (by rw[<-l];exact oI.val k);have hp:(keyPart u).isSome=true:=by
  cases k with
  |inl i=>obtain⟨t,q⟩:=(show∃t,u=aj.int i t from ry);subst q;rfl
  |inr x=>obtain⟨t,q⟩:=(show∃t,u=aj.str x t from ry);subst q;rfl
 have ha:argsOk "dict.pop" ⟨.ref a::u::more,[]⟩:=by
  rcases hm with q|⟨x,q⟩
  ·subst q;exact PySem.F.args_dict_pop_2 _ _
  ·subst q;exact PySem.F.args_dict_pop_3 _ _ _
 refine call_meetsIn Yi dd.typeIs PySem.F.entry_dict_pop ha (meets_dict_pop_there (jN X.prog X.w) a (Q4 ry) more hm hp) ⟨vs,w',dd,by rw[<-oI.length];exact z,hw,fun h' dd' hs=>h w' _ ?_ QG⟩;have he:∃q,h'.get? a=some q:=let⟨q,_,_,hq,_⟩:=dd';⟨q,hq⟩
 exact SS I (by rw[e];exact j0) hs he (YY (cc (ZdZ br k) z) hd (oI.drop k) dd')
theorem Zl9{Q:VS}(I:cM X aw σ H s)(e:Rd H a (.dK br))(h:∀t s',cM X aw σ H s'->Q (.int br.length t) s'):bZ (b7 X.prog X.w) A (call (.builtin "len") [.ref a]) Q E s:=by obtain⟨z,hd,vs,oI,dd⟩:=Jq I.fN e;refine call_len_dict hd dd (by rw[<-oI.length];rw[Vf]at z;omega) ?_;rw[<-oI.length];exact h _ _ (I.Yl _)
end
def Zma(i:Expr):Prop:=∀ov iv,Vg i false ov iv=operate [ov,iv] (Yy ov iv)
theorem ZgQ{prog:aV}{w:bG}{A:cD}{E:VS}{s:aB}{bS:Env}{tW Hk:Expr}{pos:Pos}{T id:String}{Q:VS} (hl:typeLookup (.type T) "__getitem__" =pure (some (.builtin id)))(hs:Zma Hk) (h:bZ (b7 prog w) A (jb tW bS) (fun o s₁=>bZ (b7 prog w) A (jb Hk bS) (fun i s₂=>s₂.TypeIs o T/\bZ (b7 prog w) A (Yy o i) Q E s₂) E s₁) E s):bZ (b7 prog w) A (jb (.Subscript tW Hk pos) bS) Q E s:=by
 refine Subscript_ (iP h (fun o s₁ h₁=>iP h₁ (fun i s₂ h₂=>?_) fun _ _ x=>x) fun _ _ x=>x);obtain⟨hT,h₂⟩:=h₂;unfold Zdj;refine bA ?_;rw[getitemInPython_of_ne hT.not_modules];refine bA (wpAny_specialOf hT hl ?_);have tS:bZ (b7 prog w) A (Vg Hk false o i) (fun r s₃=>bZ (b7 prog w) A (letTemporaryGo tW o r>>=fun _=>pure r) Q E s₃) E s₂:=by rw[hs o i];exact wpAny_operating (iP h₂ (fun r s₃ h₃=>bA (wpAny_letTemporaryGo (dG h₃))) fun _ _ x=>x)
 first
  |exact dG (bA tS)
  |exact bA (dG (bA tS))
  |exact bA tS
theorem VA{K:ae}{X:Cx K}{aw:PL}{σ:St}{H:Hp}{s:aB}{a:ao}{y:V}{o:Option V}(I:cM X aw σ H s)(g:kx H a y o):s.TypeIs (.ref a) "dict":=by
 rcases g with⟨br,k,e,_,_⟩|⟨br,k,b,e,_,_,_⟩
 ·obtain⟨_,_,vs,_,dd⟩:=Jq I.fN e;exact dd.typeIs
 ·obtain⟨_,_,xs,_,dd⟩:=Q6 I.fN e;exact dd.typeIs
inductive Zjr(Q:VK)(x:V)(y:V)(H2:Hp):Prop
 |mk (a:_) (v:_) (_:x= .ref a) (_:kx H2 a y (some v)) (_:Q v H2)
def Ziq(td ty:TE):TE:=fun σ H Q=>td σ H fun x H1=>ty σ H1 fun y H2=>Zjr Q x y H2
inductive Zmb(Q:VK)(y:V)(x:V)(H2:Hp):Prop
 |mk (a:_) (o:_) (_:x= .ref a) (_:kx H2 a y o) (_:Q (.bl o.isSome) H2)
def Zpl(ty td:TE):TE:=fun σ H Q=>ty σ H fun y H1=>td σ H1 fun x H2=>Zmb Q y x H2
inductive Zd1(Q:VK)(y:V)(x:V)(H2:Hp):Prop
 |mk (a:_) (o:_) (_:x= .ref a) (_:kx H2 a y o) (_:Q (.bl (!o.isSome)) H2)
def ZgR(ty td:TE):TE:=fun σ H Q=>ty σ H fun y H1=>td σ H1 fun x H2=>Zd1 Q y x H2
def Zmc(td ty tv:TE):TS:=fun D σ H=>tv σ H fun v H1=>td σ H1 fun x H2=>ty σ H2 fun y H3=> ∃a H4,x= .ref a/\K1 H3 a y v H4/\D.nx σ H4
section
variable{K:ae}{X:Cx K}{o i e tW:Expr}{pos Hi ZfV:Pos}{td ty tv:TE}
theorem lX(hu:X.A.units+1<oN)(ho:PE X o td)(hi:PE X i ty)(hs:Zma i:=by exact fun _ _=>rfl):PE X (.Subscript o i pos) (Ziq td ty):=by intro aw s σ H Q I h;refine ZgQ PySem.F.slot_dict_getitem.lookup hs (jK (ho aw s σ H _ I h) fun u s1 ⟨x,H1,I1,rx,q1⟩=>jK (hi aw s1 σ H1 _ I1 q1) fun iv s2 ⟨y,H2,I2,ry,a,v,ex,g,q2⟩=>?_);subst ex;obtain rfl:u=aj.ref a:=rx;exact⟨VA I2 g,ZbC hu I2 g ry fun w' s3 I3 QG=> ⟨v,H2,I3,QG,q2⟩⟩
theorem YZ(hu:X.A.units+1<oN)(hi:PE X i ty)(ho:PE X o td):PC X .In i o (Zpl ty td):=by intro aw s σ H Q I h;refine jK (hi aw s σ H _ I h) fun iv s1 ⟨y,H1,I1,ry,q1⟩=>jK (ho aw s1 σ H1 _ I1 q1) fun u s2 ⟨x,H2,I2,rx,a,ov,ex,g,q2⟩=>?_;subst ex;obtain rfl:u=aj.ref a:=rx;exact Zpk hu I2 g ry fun s3 I3=> ⟨.bl ov.isSome,H2,I3,Z,q2⟩
theorem o7(hu:X.A.units+1<oN)(hi:PE X i ty)(ho:PE X o td):PC X .NotIn i o (ZgR ty td):=by intro aw s σ H Q I h;refine jK (hi aw s σ H _ I h) fun iv s1 ⟨y,H1,I1,ry,q1⟩=>jK (ho aw s1 σ H1 _ I1 q1) fun u s2 ⟨x,H2,I2,rx,a,ov,ex,g,q2⟩=>?_;subst ex;obtain rfl:u=aj.ref a:=rx;exact ZgP hu I2 g ry fun s3 I3=> ⟨.bl (!ov.isSome),H2,I3,Z,q2⟩
theorem E3(hu:X.A.units+1<oN)(ho:PE X o td)(hi:PE X i ty)(hv:PE X tW tv)(hs:BP tW (some (.Subscript o i Hi)) pos.line X.bS=pure false):PS X (.Assign [.Subscript o i Hi] tW pos) (Zmc td ty tv):=by intro aw s σ H D I h;refine wpAny_Assign_Subscript (jK (hv aw s σ H _ I h) fun r s1 ⟨v,H1,I1,rv,q1⟩=>jK (ho aw s1 σ H1 _ I1 q1) fun u s2 ⟨x,H2,I2,rx,q2⟩=>jK (hi aw s2 σ H2 _ I2 q2) fun iv s3 ⟨y,H3,I3,ry,a,H4,ex,g,q3⟩=>?_) hs;subst ex;obtain rfl:u=aj.ref a:=rx;exact ZbD hu I3 g ry rv fun s4 I4=> ⟨σ,H4,I4,q3⟩
end
theorem Zd2{P:aV}{w:bG}{H:Hp}(h:bb)(hb:jG<h.objs.size):iD P w H (h.push {cls:= .type "dict",data:= .dict #[]}) h.objs.size (.dK []):=⟨bB _,beq_eq_false_iff_ne.mpr (eQ (dU hb)),[],.nil,bb.DictOf.new h⟩
theorem Zd3{P:aV}{w:bG}{H:Hp}(h:bb)(hb:jG<h.objs.size):iD P w H (h.push {cls:= .type "dict",data:= .dict #[]}) h.objs.size (.dT []):=⟨bB _,beq_eq_false_iff_ne.mpr (eQ (dU hb)),[],.nil,_,#[],0,bb.get?_push_size _ Z,⟨Z,Z,Z⟩,Z,Z,List.nodup_nil⟩
def Zjs:TE:=fun _ H Q=> ∀p,H p=none->Q (.ref p) (bp H p (.dK []))
def Zjt:TE:=fun _ H Q=> ∀p,H p=none->Q (.ref p) (bp H p (.dT []))
section
variable{K:ae}{X:Cx K}{pos:Pos}
theorem Mu:PE X (.Dict [] [] pos) Zjs:=fun aw s σ H Q I h=>
 wpAny_Dict_empty ⟨.ref s.heap.objs.size,_,I.dW (a:=s.heap.objs.size) (o:= .dK []) (t':=s.toks) (fun _ _ q=>bb.get?_push_of_some _ q) (aC _) (Zd2 s.heap I.big),Z,h _ (I.fN.gE (aC _))⟩
theorem Zd4:PE X (.Dict [] [] pos) Zjt:=fun aw s σ H Q I h=>
 wpAny_Dict_empty ⟨.ref s.heap.objs.size,_,I.dW (a:=s.heap.objs.size) (o:= .dT []) (t':=s.toks) (fun _ _ q=>bb.get?_push_of_some _ q) (aC _) (Zd3 s.heap I.big),Z,h _ (I.fN.gE (aC _))⟩
end
structure M1{K:ae}(X:Cx K)(o:Expr)(m:Str)(sk:Pos)(e:Expr)(yo:Pos):Prop where
 base:L9 o m X.bS (jb o X.bS)=jb o X.bS
 few:((km yo (bY [e] X.bS)).all (fun x=>!x.1)&&(Jg yo (ug [] X.bS)).all (fun x=>x.1.isSome)
  &&decide (([e]:List Expr).length+([]:List Keyword).length+(if([]:List Keyword).isEmpty then 0 else 1)<30))=true
 line:(sk.endLine==yo.line)=true
 Zmh:km yo (bY [e] X.bS)=[(false,jb e X.bS)]
def IsD(H:Hp)(a:ao):Prop:=(∃br,Rd H a (.dK br))\/∃br,Rd H a (.dT br)
theorem Zju{K:ae}{X:Cx K}{aw:PL}{σ:St}{H:Hp}{s:aB}{a:ao}(I:cM X aw σ H s)(d:IsD H a):s.TypeIs (.ref a) "dict" /\(∀b,aj.ref a= .ref b->∃ob,s.heap.get? b=some ob/\ob.dict=none)/\(a==jG)=false:=by
 rcases d with⟨br,e⟩|⟨br,e⟩
 ·obtain⟨_,hd,vs,_,dd⟩:=Jq I.fN e;refine⟨dd.typeIs,fun b q=>?_,hd⟩;cases q;obtain⟨ob,_,_,h1,h2,_⟩:=dd;exact⟨ob,h1,h2.2.1⟩
 ·obtain⟨_,hd,xs,_,dd⟩:=Q6 I.fN e;refine⟨dd.typeIs,fun b q=>?_,hd⟩;cases q;obtain⟨ob,_,_,h1,h2,_⟩:=dd;exact⟨ob,h1,h2.2.1⟩
section
variable{K:ae}{X:Cx K}{aw:PL}{σ:St}{H:Hp}{s:aB}{a:ao}{y d:V}{u r:aj}{o:Option V}{A:cD}{E:VS}
end
inductive ZgS(ty:TE)(σ:St)(Q:VK)(x:V)(H1:Hp):Prop
 |mk (a:_) (_:x= .ref a) (_:IsD H1 a) (_:ty σ H1 fun y H2=> ∃br k v,H2 a=some (.dK br)/\y=kV k/\iV br k=some v/\Q v (bp H2 a (.dK (oQ br k))))
def Zjv(td ty:TE):TE:=fun σ H Q=>td σ H fun x H1=>ZgS ty σ Q x H1
section
variable{K:ae}{X:Cx K}{o e f:Expr}{sk yo:Pos}{td ty tx:TE}
theorem E4(ho:PE X o td)(he:PE X e ty)(m:M1 X o "pop" sk e yo):PE X (.Call (.Attribute o "pop" sk) [e] [] yo) (Zjv td ty):=by intro aw s σ H Q I h;refine wpAny_Call_method m.base m.few m.line PySem.F.plainAttrs_dict Yi PySem.F.type_dict_pop (jK (ho aw s σ H _ I h) fun u s1 ⟨x,H1,I1,rx,a,ex,d,q1⟩=>?_);subst ex;obtain rfl:u=aj.ref a:=rx;obtain⟨t1,t2,_⟩:=Zju I1 d;refine⟨t1,t2,?_⟩;rw[m.Zmh];refine Calls.callWith_builtin Z (Calls.evalArgs_plain (Calls.spliced_cons (jK (he aw s1 σ H1 _ I1 q1) fun iv s2 ⟨y,H2,I2,ry,br,k,v,ea,ey,l,q2⟩=>Calls.spliced_nil ?_)));subst ey;exact Zl8 I2 ea ry l (.inl Z) fun w' s3 I3 QG=> ⟨v,_,I3,QG,q2⟩
end
section
variable{K:ae}{X:Cx K}{aw:PL}{σ:St}{H:Hp}{s:aB}{a:ao}{br:List (i5×V)}{A:cD}{E:VS}
theorem Zd5{Q:VS}(I:cM X aw σ H s)(e:Rd H a (.dK br))(h:∀p s',H p=none->cM X aw σ (bp H p (.dK br)) s'->Q (.ref p) s'):bZ (b7 X.prog X.w) A (call (.type "dict") [.ref a]) Q E s:=by obtain⟨z,hd,vs,oI,dd⟩:=Jq I.fN e;refine kt_call_dict hd dd (by rw[<-oI.length];exact z) fun h' dd' hs=>?_;refine h _ _ (I.fN.gE (aC _)) (I.dW (a:=s.heap.objs.size) (o:= .dK br) (t':=s.toks) (fun b q hq=>?_) (aC _) (YY z (beq_eq_false_iff_ne.mpr (eQ (dU I.big))) oI dd'));exact(hs.2 b (dU (bb.lt_size hq))).trans (bb.get?_push_of_some _ hq)
end
section
variable{K:ae}{X:Cx K}{aw:PL}{σ:St}{H:Hp}{s:aB}{a:ao}{y:V}{u:aj}{A:cD}{E:VS}
end
section
variable{prog:aV}{w:bG}{A:cD}{E:VS}
end
section
variable{K:ae}{X:Cx K}
end
section
variable{K:ae}{X:Cx K}{aw:PL}{σ:St}{H:Hp}{s:aB}{h':bb}
theorem cM.ZbE{t':Nat}{ch:List ao}{T:ao}{ob:HO}(I:cM X aw σ H s)(k:∀b o,b∉ch->s.heap.get? b=some o->h'.get? b=some o)(hf:∀b∈ch,Mm X aw H b)(hT:s.heap.objs.size<=T) (new:iD X.prog X.w (bp H T ob) h' T ob):cM X aw σ (bp H T ob) {s with heap:=h',toks:=t'}:=by
 have hn:H T=none:=I.fN.gE hT;have nit:∀b u,H b=some u->b∉ch:=fun b u e z=>by have q:=(hf b z).1;rw[q]at e;cases e
 refine I.step (g':=s.gens) (d':=s.drawn) (ch:=ch) (fun b hb=> ⟨(hf b hb).2.2.2.1,(hf b hb).2.1,(hf b hb).2.2.2.2.1,(hf b hb).2.2.2.2.2⟩) (fun b o _ _ hc e _=>k b o hc e) (fun b o _ _ hc e _=> ⟨o.slots,k b o hc e⟩) (fun b o _ e n=>?_) (fun b o hc e=> ⟨o,k b o hc e⟩) (fun b xs e=>?_) (fun b o u e=>?_) (fun b ps e=> ⟨#[],?_⟩) (fun m hm=>?_) (fun b u e=>?_) I.bare
 ·rw[aF (dU (cb (bb.lt_size e) hT))];exact n
 ·rw[aF (aR e hn)];exact e
 ·rw[aF (aR e hn)];exact e
 ·rw[aF (aR e hn),e];simp
 ·obtain⟨o,es,ep,ho,r⟩:=hm;exact⟨o,es,ep,k _ o (fun z=> (hf _ z).2.1 Z) ho,r⟩
 ·by_cases hb:b=T
  ·subst hb;rw[au]at e;cases e;exact new
  ·rw[aF hb]at e;refine(I.fN b u e).YG (fun c v hc q=>k c v ?_ q) (fun c q=>by rw[aF (aR q hn)];exact q) fun c xs q=>by rw[aF (aR q hn)];exact q
   rcases hc with z|z
   ·rw[z];exact nit b u e
   ·exact nit c _ z
end
section
variable{K:ae}{X:Cx K}
end
section
variable{K:ae}{X:Cx K}{tg:Expr}
end
section
variable{K:ae}{X:Cx K}{tg:Expr}
end
section
variable{prog:aV}{w:bG}{A:cD}{E:VS}{s:aB}
end
section
variable{K:ae}{X:Cx K}{aw:PL}{σ:St}{H:Hp}{s:aB}{d:ao}{o:Obj}
end
section
variable{P:aV}{w:bG}{K:ae}{tg:Expr}{d:ao}{o:Obj}{es:Array Zdx}{ep:Nat}
end
section
variable{K:ae}{X:Cx K}{tg e:Expr}{td:TE}{sk yo:Pos}
end
def Ite(K:ae)(a:ao):It:=⟨fun i H=> ∃(xs:List V)(x:V),ft K H a xs/\xs[i]? =some x,fun i H v H'=> ∃T x,v= .ref T/\H T=none/\H'=bp H T (.f6 [.int (i:Nat),x])/\∀xs,ft K H a xs->xs[i]? =some x,fun i H=> ∃xs:List V,ft K H a xs/\xs.length<=i⟩
theorem ZbF{P:aV}{w:bG}{K:ae}{ZkE:List Expr}{kk:Nat}{ZfV:Pos}(a e it:ao):ZdH P w K (.Tuple ZkE kk ZfV) (Ite K a) [e,it] e (fun i h=> (∃old,IsEnum h e it ((i:Nat):Int) old)/\h.IsListIter it a i/\e≠it)where
 mem:=by simp
 obj:=fun i h st b hb=>by
  obtain⟨⟨old,he⟩,⟨o,ho,hc,hd⟩,_⟩:=st;have e':b=e\/b=it:=by simpa using hb
  rcases e' with z|z
  ·rw[z];exact⟨_,he,fun v q=>nomatch q⟩
  ·rw[z];exact⟨o,ho,fun v q=>by rw[hd]at q;cases q⟩
 keep:=fun i h h' st k=>let⟨⟨old,he⟩,hi,iY⟩:=st;⟨⟨old,k e (by simp) _ he⟩,hi.at fun o q=>k it (by simp) o q,iY⟩
 item:=by
  intro X hP hw hK hc i aw s σ H E I hf st hg;subst hP hw;obtain⟨⟨old,he⟩,hit,iY⟩:=st;obtain⟨xs,x,hq,hx⟩:=hg;obtain⟨fc,rv,p,hz⟩:=I.list hq;obtain⟨u,hu,ru⟩:=rv.get hx;have hel:e<s.heap.objs.size:=bb.lt_size he;have hil:it<s.heap.objs.size:=by obtain⟨_,q,_⟩:=hit;exact bb.lt_size q
  refine wpAny_pyNext_enum_item he hit p.isList (x:=u) (by simpa using hu) iY fun h' ho ZpK hT hsz hk=>?_;refine⟨_,Z,wpAny_letOwnedTupleGo_enum (s:={s with heap:=h',toks:=s.toks+1}) ho fun h'' he' sb=>?_⟩;have hT2:h''.get? s.heap.objs.size=some {cls:= .type "tuple",data:= .seq #[.int i s.toks,u]}:=(sb.2 _ (Nat.ne_of_gt hel)).trans hT;have new:iD X.prog X.w (bp H s.heap.objs.size (.f6 [.int (i:Nat),x])) h'' s.heap.objs.size (.f6 [.int (i:Nat),x]):=⟨by show 2<=sizeLine;decide,[.int i s.toks,u],.cons ⟨_,Z⟩ (.cons ru .nil),⟨_,hT2,Z,_,Z⟩⟩;have I1:cM X aw σ (bp H s.heap.objs.size (.f6 [.int (i:Nat),x])) {s with heap:=h'',toks:=s.toks+1}:=I.ZbE (ch:=[e,it]) (fun b ob hb q=> (sb.2 b (fun z=>hb (by simp[z]))).trans (hk b ob (fun z=>hb (by simp[z])) (fun z=>hb (by simp[z])) q)) hf (aC _) new;refine⟨.ref s.heap.objs.size,_,I1,Z,⟨_,x,Z,I.fN.gE (aC _),Z,fun ys hy=>by rw[I.Vp hy hq];exact hx⟩,⟨⟨u,?_⟩,ZpK.at fun o q=> (sb.2 it (eQ iY)).trans q,iY⟩,fun b hb=>?_⟩
  ·have e1:((i+1:Nat):Int)=(i:Int)+1:=by omega
   rw[e1];exact he'
  ·have hb':b<s.heap.objs.size:=by
    have e':b=e\/b=it:=by simpa using hb
    rcases e' with z|z
    ·rw[z];exact hel
    ·rw[z];exact hil
   rw[aF (dU hb')];exact(hf b hb).1
 done:=by intro X hP hw hK hc i aw s σ H E I hf st hg;subst hP hw;obtain⟨⟨old,he⟩,hit,iY⟩:=st;obtain⟨xs,hq,hx⟩:=hg;obtain⟨fc,rv,p,hz⟩:=I.list hq;obtain⟨f0,f1,f2,f3,f4,f5⟩:=hf it (by simp);have hl:=rv.length;exact wpAny_pyNext_enum_end (I.ok.hd hc) he hit p.isList (by simp;omega) fun h' eb=> ⟨Z,I.wq (t':=s.toks) (fun b o hb q=>eb b o hb q) f0 f1 f3 f4 f5⟩
 Y0:=fun A i s Q E st h=>let⟨⟨_,he⟩,_⟩:=st;wpAny_pyIter_enum he h
def Zme(K:ae)(ta:TA):TI:=fun σ H R=>ta σ H fun vs H1=> ∃a xs,vs=[.ref a]/\ft K H1 a xs/\R (Ite K a) H1
theorem SU{K:ae}{X:Cx K}{e:Expr}{ta:TA}{p pos ZfV:Pos}{ZkE:List Expr}{kk:Nat}(hg:Gl X "enumerate")(hm:X.mg "enumerate" =none)(ha:PA X [e] ta)(hs:bY [e] X.bS=[(false,jb e X.bS)]:=by rfl):PI X (.Tuple ZkE kk ZfV) (.Call (.Name "enumerate" p) [e] [] pos) (Zme K ta):=by
 intro aw s σ H R I h;refine Call_ (SD I hg hm boot_enumerate (qQ (jK (ha pos aw s σ H _ I h) fun us s1 ⟨vs,H1,I1,r1,q1⟩=>?_) hs Z));obtain⟨a,xs,ex,hq,q⟩:=q1;subst ex;cases r1 with
 |cons r rr=>
  cases rr;cases r;obtain⟨fc,rv,p',hz⟩:=I1.list hq;refine call_enumerate_list p'.isList fun h' he hit hsz hk=>wpAny_pyIter_enum he ?_;have I2:cM X aw σ H1 {s1 with heap:=h'}:=I1.mm (t':=s1.toks) hk;refine⟨s1.heap.objs.size+1,[s1.heap.objs.size+1,s1.heap.objs.size],_,_,H1,Z,I2,ZbF a (s1.heap.objs.size+1) s1.heap.objs.size,⟨⟨.none,he⟩,hit,Nat.succ_ne_self _⟩,fun b hb=>?_,q⟩;have e':b=s1.heap.objs.size+1\/b=s1.heap.objs.size:=by simpa using hb
  have hle:s1.heap.objs.size<=b:=by
   rcases e' with z|z
   ·rw[z];exact O9 _ _
   ·rw[z];exact aC _
  exact I1.ZdG hle (I1.fN.gE hle)
end L2
section
namespace Bits
open PySem PyProof.Rows
end Bits
end
section
namespace TL
open PySem PySem.Builtin PySem.Builtin.Str PySem.StrLaws
end TL
end
namespace L2
open PySem PySem.Spec PyProof.Rows
section
variable{K:ae}{X:Cx K}{aw:PL}{σ:St}{H:Hp}{s:aB}{Q:VK}
end
section
variable{K:ae}{X:Cx K}
end
section
variable{K:ae}{X:Cx K}{o e:Expr}{to te:TE}
end
section
variable{K:ae}{X:Cx K}
end
end L2
namespace Att
open PySem PySem.W PySem.Calls PyProof.Rows
section
variable{prog:aV}{w:bG}{A:cD}{E:VS}{s:aB}{K:Frag}
end
end Att
namespace L2
open PySem PySem.Spec PyProof.Rows
noncomputable def fY(s:cy)(j:Nat):cy:=match s with
 | .ClassDef _ _ _ body _ _ _ _ _ _ _=>body.getD j (.Pass ⟨0,0,0,0⟩)
 |_=> .Pass ⟨0,0,0,0⟩
noncomputable def mT(s:cy):Arguments:=match s with
 | .FunctionDef _ a _ _ _ _ _ _ _ _=>a
 |_=> {posonlyargs:=[],args:=[],vararg:=none,kwonlyargs:=[],kw_defaults:=[],kwarg:=none,defaults:=[]}
noncomputable def ic(s:cy):List cy:=match s with
 | .FunctionDef _ _ b _ _ _ _ _ _ _=>b
 |_=>[]
noncomputable def aE(s:cy):mf:=match s with
 | .FunctionDef _ _ _ _ _ _ sc _ _ _=>sc
 |_=> {kind:= .function,names:=[],isGenerator:=false,isCoroutine:=false}
abbrev E0:XK:=fun _ _ _=>False
structure g8(K:ae)(x qual:Str)(st:cy)(f:ao)(fd:eL):Prop where
 ex:∃(oc:aj)(od:Option ao)(kV doc pm:aj)(an:Option ao)(la ct:aj)(osl:Array (Option aj)),
  fd=gB x qual (mT st) (ic st) (aE st) .none kV doc pm an la ct/\K.lookup f=some ⟨oc,od,.func fd,osl⟩/\By K la qual=true
 kp:j5 K (.ref f)=true
section
variable{P:aV}{w:bG}{K:ae}{mg:SV}{base:bb}
theorem g8.xw{x qual:Str}{st:cy}{f:ao}{fd:eL}{ps:LS}(F:g8 K x qual st f fd) (h:∀(kV doc pm:aj)(an:Option ao)(la ct:aj)(us:List aj),us.length=ps.length->BQ (gB x qual (mT st) (ic st) (aE st) .none kV doc pm an la ct) ⟨us,[]⟩=pure (ps.zip us)):lF K fd ps []:=by obtain⟨oc,od,kV,doc,pm,an,la,ct,osl,rfl,lk,Yp⟩:=F.ex;exact .all (h kV doc pm an la ct)
theorem Zjw{x qual:Str}{st:cy}{f:ao}{oc:aj}{od an:Option ao}{osl:Array (Option aj)}{kV doc pm la ct:aj}(l:K.lookup f=some ⟨oc,od,.func (gB x qual (mT st) (ic st) (aE st) .none kV doc pm an la ct),osl⟩) (c:By K la qual=true)(k:j5 K (.ref f)=true):g8 K x qual st f (gB x qual (mT st) (ic st) (aE st) .none kV doc pm an la ct):=⟨⟨oc,od,kV,doc,pm,an,la,ct,osl,Z,l,c⟩,k⟩
end
theorem jI{A:cD}{k:Nat}(hr:ku k A):A.units+1<oN:=vi (Nat.add_le_add_left (by decide:1<=64) _) hr.units
section
variable{K:ae}{X:Cx K}
theorem pv(i:Nat){x:Str}{pos:Pos}(hN:X.N[i]? =some x:=by rfl)(hv:Vis X.bS.scope x:=by first|exact Or.inl rfl|exact Or.inr (Or.inl rfl)|exact Or.inr (Or.inr rfl))(hd:(x==("__debug__":Str))=false:=by decide) (Yp:(x==("__classdict__":Str))=false:=by decide):PE X (.Name x pos) (m7 i):=Zjc hN hv hd Yp
theorem ZbG:EW X (.builtin "len") (fun xs H Q=> ∃a br,xs=[V.ref a]/\H a=some (.dK br)/\Q (.int br.length) H):=by intro aw s σ H xs us Q I r h;obtain⟨a,br,rfl,ha,q⟩:=h;obtain⟨u,rfl,ru⟩:=Zad r;cases ru;exact Zl9 I (.inl ha) fun t s' I'=> ⟨.int br.length,H,I',⟨t,Z⟩,q⟩
end
theorem bx{A B:Prop}(h:B):if false=true then A else B:=by rw[ah bc];exact h
theorem bQ{A B:Prop}(h:A):if true=true then A else B:=by rw[ak Z];exact h
theorem Pe{c A B:Prop}[Decidable c](h1:c->A)(h2:¬c->B):if c then A else B:=by
 by_cases h:c
 ·rw[ak h];exact h1 h
 ·rw[ah h];exact h2 h
def aS(H H':Hp):Prop:=∀b o,H b=some o->H' b=some o
theorem aS.refl(H:Hp):aS H H:=fun _ _ h=>h
theorem aS.trans{H H1 H2:Hp}(a:aS H H1)(b:aS H1 H2):aS H H2:=fun c o h=>b c o (a c o h)
theorem aS.free{H H':Hp}(e:aS H H'){l:ao}(h:H' l=Option.none):H l=Option.none:=by
 cases q:H l with
 |none=>rfl
 |some o=>rw[e l o q]at h;cases h
section
variable{κ:Type} [DecidableEq κ]
theorem Zd6{br:List (κ×V)}{k:κ}(h:iV br k=none):¬k∈br.map (·.1):=by intro m;obtain⟨p,hp,e⟩:=bE.mp m;have q:(br.any fun kv=>decide (kv.1=k))=true:=gS.mpr ⟨p,hp,aD e⟩;rw[vt,h]at q;exact absurd q (by simp)
end
end L2
section
set_option maxHeartbeats 2000000
namespace L2
open PySem PySem.Spec PyProof.Rows
mutual
inductive Dw(K:ae)(H:Hp):V->jn->Prop
 |ik:Dw K H .ik .none
 |bl (b:Bool):Dw K H (.bl b) (.bool b)
 |int (i:Int):Dw K H (.int i) (.int i)
 |str (x:Str):Dw K H (.str x) (.str x)
 |VI (b:Array UInt8):Dw K H (.VI b) (.bytes b.toList)
 |bz {a:ao} {xs:List V} {ds:List jn}:ft K H a xs->xy K H xs ds->Dw K H (.ref a) (.list ds)
 |f6 {a:ao} {xs:List V} {ds:List jn}:qU K H a xs->xy K H xs ds->Dw K H (.ref a) (.tuple ds)
inductive xy(K:ae)(H:Hp):List V->List jn->Prop
 |nil:xy K H [] []
 |cons {v:V} {vs:List V} {d:jn} {ds:List jn}:Dw K H v d->xy K H vs ds->xy K H (v::vs) (d::ds)
end
theorem ZgU{K:ae}{H:Hp}:∀ns:List Int,xy K H (ns.map V.int) (ns.map jn.int)
 |[]=> .nil
 |n::r=> .cons (.int n) (ZgU r)
theorem ZgV{K:ae}{H:Hp}:∀(ns:List Int)(xs:List V),xy K H xs (ns.map jn.int)->xs=ns.map V.int
 |[],xs,h=>by cases h;rfl
 |n::r,xs,h=>by
  cases h with
  |cons h1 h2=>cases h1;rw[ZgV r _ h2]<;>rfl
section
variable{P:aV}{w:bG}{K:ae}{H:Hp}{h:bb}{R:PySem.W.WRecords}{cl:Str->Option ao}
theorem ZjB{a:ao}{xs:List V}(fN:xu P w H h)(KX:K.In h)(q:ft K H a xs):∃(fc:List aj)(o:Obj)(n:Nat),fA xs fc/\h.get? a=some o/\o.cls= .type "list" /\o.data= .seq fc.toArray n:=by
 rcases q with q|⟨o,fc,n,e,hc,_,hd,_,hv⟩
 ·obtain⟨_,fc,n,hv,e⟩:=(show iD P w H h a (.bz xs)from q.ok fN);exact⟨fc,_,n,hv,e,Z,Z⟩
 ·exact⟨fc.toList,o,n,hv,KX _ _ e,hc,by simp[hd]⟩
theorem ZjC{a:ao}{xs:List V}(fN:xu P w H h)(KX:K.In h)(q:qU K H a xs):∃(fc:List aj)(o:Obj)(n:Nat),fA xs fc/\h.get? a=some o/\o.cls= .type "tuple" /\o.data= .seq fc.toArray n:=by
 rcases q with q|⟨o,fc,n,e,hc,hd,_,hv⟩
 ·obtain⟨_,fc,hv,o,e,hc,n,hd⟩:=(show iD P w H h a (.f6 xs)from q.ok fN);exact⟨fc,o,n,hv,e,hc,hd⟩
 ·exact⟨fc.toList,o,n,hv,KX _ _ e,hc,by simp[hd]⟩
mutual
theorem Dw.B0(fN:xu P w H h)(KX:K.In h):∀(d:jn)(v:V)(u:aj),Dw K H v d->gg v u->∃as,Hy R cl h u d as
 | .none,_,_,x,r=>by
  cases x
  cases r
  exact⟨_,Hy.none⟩
 | .bool b,_,_,x,r=>by
  cases x
  cases r
  exact⟨_,Hy.bool b⟩
 | .int i,_,_,x,r=>by
  cases x
  obtain⟨t,rfl⟩:=r
  exact⟨_,Hy.int i t⟩
 | .str s,_,_,x,r=>by
  cases x
  obtain⟨t,rfl⟩:=r
  exact⟨_,Hy.str s t⟩
 | .bytes b,_,_,x,r=>by
  cases x
  obtain⟨t,rfl⟩:=r
  exact⟨_,Hy.bytes _ t⟩
 | .list ds,_,_,x,r=>by
  cases x with
  |bz hs ha=>
   cases r
   obtain⟨fc,o,n,rv,ho,hc,hd⟩:=ZjB fN KX hs
   obtain⟨as,hr⟩:=Dw.sD fN KX ds _ fc ha rv
   exact⟨_,Hy.list ho hc hd hr⟩
 | .tuple ds,_,_,x,r=>by
  cases x with
  |f6 hs ha=>
   cases r
   obtain⟨fc,o,n,rv,ho,hc,hd⟩:=ZjC fN KX hs
   obtain⟨as,hr⟩:=Dw.sD fN KX ds _ fc ha rv
   exact⟨_,Hy.tuple ho hc hd hr⟩
 | .float _,_,_,x,_=>by cases x
 | .dict _,_,_,x,_=>by cases x
 | .bytearray _,_,_,x,_=>by cases x
 | .set _,_,_,x,_=>by cases x
 | .frozenset _,_,_,x,_=>by cases x
 | .obj _ _,_,_,x,_=>by cases x
theorem Dw.sD(fN:xu P w H h)(KX:K.In h):∀(ds:List jn)(vs:List V)(us:List aj),xy K H vs ds->fA vs us->∃as,Zde R cl h us ds as
 |[],_,_,x,r=>by
  cases x
  cases r
  exact⟨_,Zde.nil⟩
 |d::ds,_,_,x,r=>by
  cases x with
  |cons h1 h2=>
   cases r with
   |cons r1 r2=>
    obtain⟨as,q1⟩:=Dw.B0 fN KX d _ _ h1 r1
    obtain⟨bs,q2⟩:=Dw.sD fN KX ds _ _ h2 r2
    exact⟨_,Zde.cons q1 q2⟩
end
end
mutual
noncomputable def plW:jn->Bool
 | .none=>true
 | .bool _=>true
 | .int _=>true
 | .str _=>true
 | .bytes _=>true
 | .list xs=>K5 xs
 | .tuple xs=>K5 xs
 |_=>false
noncomputable def K5:List jn->Bool
 |[]=>true
 |x::r=>plW x&&K5 r
end
theorem VD{α:Type}{f:α->jn}(h:∀a,plW (f a)=true):∀l:List α,K5 (l.map f)=true
 |[]=>rfl
 |x::r=>by show(plW (f x)&&K5 (r.map f))=true;rw[h x,VD h r]<;>rfl
theorem yJ:∀(c:Zvm)(a:c.denote),plW (c.enc a)=true
 | .unit,_=>rfl
 | .bool,_=>rfl
 | .int _ _,_=>rfl
 | .nat _ _,_=>rfl
 | .u8,_=>rfl
 | .bytes _ _,_=>rfl
 | .text _ _ _ _,_=>rfl
 | .list _ _ c,a=>VD (fun x=>yJ c x) a
 | .pair c d,a=>by show(plW (c.enc a.1)&&(plW (d.enc a.2)&&true))=true;rw[yJ c a.1,yJ d a.2]<;>rfl
 | .triple c d e,a=>by show(plW (c.enc a.1)&&(plW (d.enc a.2.1)&&(plW (e.enc a.2.2)&&true)))=true;rw[yJ c a.1,yJ d a.2.1,yJ e a.2.2]<;>rfl
 | .option c,none=>rfl
 | .option c,some x=>yJ c x
theorem Q8:∀(cs:List Zvm)(a:Zvm.denoteAll cs),K5 (Zvm.encAll cs a)=true
 |[],_=>rfl
 |c::cs,a=>by show(plW (c.enc a.1)&&K5 (Zvm.encAll cs a.2))=true;rw[yJ c a.1,Q8 cs a.2]<;>rfl
theorem DU:∀{xs:List jn}{d:jn},d∈xs->d.weight<=jn.weightAll xs
 |[],d,h=>absurd h (by simp)
 |x::r,d,h=>by
  show d.weight<=x.weight+1+jn.weightAll r;rcases aU.mp h with e|m
  ·rw[e];omega
  ·have z:=DU m;omega
noncomputable def VE:aj->V
 | .none=> .ik
 | .bool b=> .bl b
 | .int i _=> .int i
 | .str x _=> .str x
 | .bytes b _=> .VI b
 | .ref a=> .ref a
 |_=> .ik
def OkU(A:List ao):aj->Prop
 | .none=>True
 | .bool _=>True
 | .int _ _=>True
 | .str _ _=>True
 | .bytes _ _=>True
 | .ref a=>a∈A
 |_=>False
theorem OkU.m8{A B:List ao}(h:∀a∈A,a∈B):∀{u:aj},OkU A u->OkU B u:=fun{u} x=>by
 cases u with
 |ref a=>exact h a x
 |none=>trivial
 |bool b=>trivial
 |int i t=>trivial
 |str s t=>trivial
 |bytes b t=>trivial
 |_=>exact gM x
theorem Zd7{A:List ao}{u:aj}(x:OkU A u):gg (VE u) u:=by
 cases u with
 |ref a=>rfl
 |none=>rfl
 |bool b=>rfl
 |int i t=>exact⟨t,Z⟩
 |str s t=>exact⟨t,Z⟩
 |bytes b t=>exact⟨t,Z⟩
 |_=>exact gM x
theorem vx{A:List ao}:∀{vs:List aj},(∀u∈vs,OkU A u)->fA (vs.map VE) vs
 |[],_=> .nil
 |u::r,h=> .cons (Zd7 (h u (aM ..))) (vx fun x hx=>h x (aG _ hx))
inductive xA(h:bb)(A:List ao)(a:ao):Prop
 |mk (vs:List aj) (_:vs.length<=sizeLine) (_:(∀u∈vs,OkU A u)) (_:(h.get? a=some {cls:= .type "list",data:= .seq vs.toArray}\/h.get? a=some {cls:= .type "tuple",data:= .seq vs.toArray}))
theorem xA.m8{h:bb}{A B:List ao}{a:ao}(k:∀a∈A,a∈B)(x:xA h A a):xA h B a:=by obtain⟨vs,h1,h2,h3⟩:=x;exact⟨vs,h1,fun u hu=> (h2 u hu).m8 k,h3⟩
theorem uk{P:Jf}{h:bb}:∀{vs:List aj}{ds:List jn},DM P h vs ds->vs.length=ds.length
 |_,_,.nil=>rfl
 |_,_,.cons _ b=>by show _+1=_+1;rw[uk b]
theorem Q9{P:Jf}{h:bb}{v:aj}{ds:List jn}(x:Zst P h v (.list ds)):∃(a:ao)(vs:List aj),v= .ref a/\h.get? a=some {cls:= .type "list",data:= .seq vs.toArray}/\DM P h vs ds:=by
 cases x with
 |list ho tX=>exact⟨_,_,Z,ho,tX⟩
theorem Mw{P:Jf}{h:bb}{v:aj}{ds:List jn}(x:Zst P h v (.tuple ds)):∃(a:ao)(vs:List aj),v= .ref a/\h.get? a=some {cls:= .type "tuple",data:= .seq vs.toArray}/\DM P h vs ds:=by
 cases x with
 |tuple ho tX=>exact⟨_,_,Z,ho,tX⟩
theorem Ra{P:Jf}{h:bb}{us:List aj}{d:jn}{ds:List jn}(x:DM P h us (d::ds)):∃(v:aj)(vs:List aj),us=v::vs/\Zst P h v d/\DM P h vs ds:=by
 cases x with
 |cons a b=>exact⟨_,_,Z,a,b⟩
theorem Zal{n:Nat}(h:n<=1048576):n<=sizeLine:=cc h (by decide)
section
variable{P:Jf}{h:bb}
mutual
theorem Zd8:∀(d:jn)(v:aj),Zst P h v d->plW d=true->d.weight<=1048576->∃A:List ao,OkU A v/\∀a∈A,xA h A a
 | .none,_,x,_,_=>by
  cases x
  exact⟨[],trivial,fun a m=>absurd m (by simp)⟩
 | .bool b,_,x,_,_=>by
  cases x
  exact⟨[],trivial,fun a m=>absurd m (by simp)⟩
 | .int i,_,x,_,_=>by
  cases x
  exact⟨[],trivial,fun a m=>absurd m (by simp)⟩
 | .str s,_,x,_,_=>by
  cases x
  exact⟨[],trivial,fun a m=>absurd m (by simp)⟩
 | .bytes b,_,x,_,_=>by
  cases x
  exact⟨[],trivial,fun a m=>absurd m (by simp)⟩
 | .list ds,_,x,p,z=>by
  obtain⟨a,vs,rfl,ho,tX⟩:=Q9 x
  have z2:jn.weightAll ds<=1048576:=z
  obtain⟨A,h1,h2⟩:=E7 ds _ tX p fun d hd=>cc (DU hd) z2
  have k:∀b∈A,b∈a::A:=fun b hb=>aG _ hb
  refine⟨a::A,aM ..,fun b hb=>?_⟩
  rcases aU.mp hb with e|m
  ·rw[e]
   exact⟨vs,Zal (by rw[uk tX];exact cc (Me ds) z2),fun u hu=> (h1 u hu).m8 k,.inl ho⟩
  ·exact(h2 b m).m8 k
 | .tuple ds,_,x,p,z=>by
  obtain⟨a,vs,rfl,ho,tX⟩:=Mw x
  have z2:jn.weightAll ds<=1048576:=z
  obtain⟨A,h1,h2⟩:=E7 ds _ tX p fun d hd=>cc (DU hd) z2
  have k:∀b∈A,b∈a::A:=fun b hb=>aG _ hb
  refine⟨a::A,aM ..,fun b hb=>?_⟩
  rcases aU.mp hb with e|m
  ·rw[e]
   exact⟨vs,Zal (by rw[uk tX];exact cc (Me ds) z2),fun u hu=> (h1 u hu).m8 k,.inr ho⟩
  ·exact(h2 b m).m8 k
 | .float _,_,_,p,_=>aK (show false=true from p)
 | .dict _,_,_,p,_=>aK (show false=true from p)
 | .bytearray _,_,_,p,_=>aK (show false=true from p)
 | .set _,_,_,p,_=>aK (show false=true from p)
 | .frozenset _,_,_,p,_=>aK (show false=true from p)
 | .obj _ _,_,_,p,_=>aK (show false=true from p)
theorem E7:∀(ds:List jn)(vs:List aj),DM P h vs ds->K5 ds=true->(∀d∈ds,d.weight<=1048576)->∃A:List ao,(∀u∈vs,OkU A u)/\∀a∈A,xA h A a
 |[],_,x,_,_=>by
  cases x
  exact⟨[],fun u m=>absurd m (by simp),fun a m=>absurd m (by simp)⟩
 |d::ds,_,x,p,z=>by
  obtain⟨v,vs,rfl,x1,x2⟩:=Ra x
  have q:plW d=true/\K5 ds=true:=EJ.mp p
  obtain⟨A,a1,a2⟩:=Zd8 d v x1 q.1 (z d (aM ..))
  obtain⟨B,b1,b2⟩:=E7 ds vs x2 q.2 fun e he=>z e (aG _ he)
  have kA:∀b∈A,b∈A++B:=fun b hb=>cz.mpr (.inl hb)
  have kB:∀b∈B,b∈A++B:=fun b hb=>cz.mpr (.inr hb)
  refine⟨A++B,fun u hu=>?_,fun b hb=>?_⟩
  ·rcases aU.mp hu with e|m
   ·rw[e]
    exact a1.m8 kA
   ·exact(b1 u m).m8 kB
  ·rcases cz.mp hb with m|m
   ·exact(a2 b m).m8 kA
   ·exact(b2 b m).m8 kB
end
end
def ZgW(o:Obj):Option HO:=match o.data with
 | .seq vs _=>if(o.cls==aj.type "list")=true then some (.LI o (.bz (vs.toList.map VE)))else some (.LI o (.f6 (vs.toList.map VE)))
 |_=>none
def wz(K:ae)(h:bb)(A:List ao):Hp:=fun b=>if b∈A then(if(K.lookup b).isNone=true then(h.get? b).bind ZgW else none)else none
def VF(H:Hp):Prop:=∀b,H b=none\/∃o u,H b=some (.LI o u)
theorem VG(vs:List aj):ZgW {cls:= .type "list",data:= .seq vs.toArray}=some (.LI {cls:= .type "list",data:= .seq vs.toArray} (.bz (vs.map VE))):=by show(if(aj.type "list" ==aj.type "list")=true then some (HO.LI {cls:= .type "list",data:= .seq vs.toArray} (.bz (vs.toArray.toList.map VE)))else some (HO.LI {cls:= .type "list",data:= .seq vs.toArray} (.f6 (vs.toArray.toList.map VE))))=_;rw[ak (beq_self_eq_true _)]
theorem VH(vs:List aj):ZgW {cls:= .type "tuple",data:= .seq vs.toArray}=some (.LI {cls:= .type "tuple",data:= .seq vs.toArray} (.f6 (vs.map VE))):=by show(if(aj.type "tuple" ==aj.type "list")=true then some (HO.LI {cls:= .type "tuple",data:= .seq vs.toArray} (.bz (vs.toArray.toList.map VE)))else some (HO.LI {cls:= .type "tuple",data:= .seq vs.toArray} (.f6 (vs.toArray.toList.map VE))))=_;rw[ah (by decide)]
section
variable{P:aV}{w:bG}{K:ae}{h:bb}{A:List ao}
theorem LJ{b:ao}{o:Obj}(hb:b∈A)(hk:K.lookup b=none)(e:h.get? b=some o):wz K h A b=ZgW o:=by unfold wz;rw[ak hb,hk,ak (show(none:Option Obj).isNone=true from Z),e]<;>rfl
theorem ZgX{b:ao}{u:HO}(q:wz K h A b=some u):b∈A/\K.lookup b=none:=by
 unfold wz at q;by_cases hb:b∈A
 ·rw[ak hb]at q;cases hk:K.lookup b with
  |none=>exact⟨hb,Z⟩
  |some o=>rw[hk,ah (by simp)]at q;cases q
 ·rw[ah hb]at q;cases q
theorem LK(ar:∀a∈A,xA h A a){b:ao}{u:HO}(q:wz K h A b=some u):K.lookup b=none/\∃vs:List aj,vs.length<=sizeLine/\(∀u∈vs,OkU A u)/\((h.get? b=some {cls:= .type "list",data:= .seq vs.toArray}/\u= .LI {cls:= .type "list",data:= .seq vs.toArray} (.bz (vs.map VE)))\/(h.get? b=some {cls:= .type "tuple",data:= .seq vs.toArray}/\u= .LI {cls:= .type "tuple",data:= .seq vs.toArray} (.f6 (vs.map VE)))):=by
 obtain⟨hb,hk⟩:=ZgX q;obtain⟨vs,h1,h2,h3⟩:=ar b hb;refine⟨hk,vs,h1,h2,?_⟩;rcases h3 with e|e
 ·rw[LJ hb hk e,VG]at q;exact .inl ⟨e,(af q).symm⟩
 ·rw[LJ hb hk e,VH]at q;exact .inr ⟨e,(af q).symm⟩
theorem ZbI(ar:∀a∈A,xA h A a):VF (wz K h A):=fun b=>by
 cases q:wz K h A b with
 |none=>exact .inl Z
 |some u=>
  obtain⟨_,vs,_,_,⟨_,e⟩|⟨_,e⟩⟩:=LK ar q
  ·exact .inr ⟨_,_,by rw[e]⟩
  ·exact .inr ⟨_,_,by rw[e]⟩
theorem ZgY(ar:∀a∈A,xA h A a):xu P w (wz K h A) h:=fun b u q=>by
 obtain⟨_,vs,h1,h2,⟨e,rfl⟩|⟨e,rfl⟩⟩:=LK ar q
 ·exact⟨e,by rw[aZ];exact h1,vs,_,vx h2,e⟩
 ·exact⟨e,by rw[aZ];exact h1,vs,vx h2,_,e,Z,_,Z⟩
theorem LL{c c':aj}{vs us:List aj}(e:(some {cls:=c,data:= .seq vs.toArray}:Option Obj)=some {cls:=c',data:= .seq us.toArray}):c=c'/\vs=us:=by have e1:=af e;have e2:c=c':=aA Obj.cls e1;have e3:Data.seq vs.toArray=Data.seq us.toArray:=aA Obj.data e1;injection e3 with e4;refine⟨e2,?_⟩;have e5:=aA YC e4;simpa using e5
theorem Zpm(KX:K.In h)(ar:∀a∈A,xA h A a){a:ao}{vs:List aj}(ha:a∈A)(e:h.get? a=some {cls:= .type "list",data:= .seq vs.toArray}):(∀u∈vs,OkU A u)/\ft K (wz K h A) a (vs.map VE):=by
 obtain⟨us,h1,h2,h3⟩:=ar a ha;have hu:us=vs:=by
  rcases h3 with q|q
  ·rw[e]at q;exact(LL q).2.symm
  ·rw[e]at q;exact absurd (aj.type.inj (LL q).1) (by decide)
 subst hu;refine⟨h2,?_⟩;cases hk:K.lookup a with
 |none=>exact .inl (.inr ⟨_,by rw[LJ ha hk e,VG]⟩)
 |some o=>have e2:=KX a o hk;rw[e]at e2;obtain rfl:=af e2;exact .inr ⟨_,us.toArray,_,hk,Z,Z,Z,by rw[bX];exact h1,by simpa using vx h2⟩
theorem Zpn(KX:K.In h)(ar:∀a∈A,xA h A a){a:ao}{vs:List aj}(ha:a∈A)(e:h.get? a=some {cls:= .type "tuple",data:= .seq vs.toArray}):(∀u∈vs,OkU A u)/\qU K (wz K h A) a (vs.map VE):=by
 obtain⟨us,h1,h2,h3⟩:=ar a ha;have hu:us=vs:=by
  rcases h3 with q|q
  ·rw[e]at q;exact absurd (aj.type.inj (LL q).1) (by decide)
  ·rw[e]at q;exact(LL q).2.symm
 subst hu;refine⟨h2,?_⟩;cases hk:K.lookup a with
 |none=>exact .inl (.inr ⟨_,by rw[LJ ha hk e,VH]⟩)
 |some o=>have e2:=KX a o hk;rw[e]at e2;obtain rfl:=af e2;exact .inr ⟨_,us.toArray,_,hk,Z,Z,by rw[bX];exact h1,by simpa using vx h2⟩
mutual
theorem ZjD{Pm:Jf}(KX:K.In h)(ar:∀a∈A,xA h A a):∀(d:jn)(v:aj),Zst Pm h v d->plW d=true->OkU A v->Dw K (wz K h A) (VE v) d
 | .none,_,x,_,_=>by
  cases x
  exact .ik
 | .bool b,_,x,_,_=>by
  cases x
  exact .bl b
 | .int i,_,x,_,_=>by
  cases x
  exact .int i
 | .str s,_,x,_,_=>by
  cases x
  exact .str s
 | .bytes b,_,x,_,_=>by
  cases x
  have z:=Dw.VI (K:=K) (H:=wz K h A) b.toArray
  exact z
 | .list ds,_,x,p,hu=>by
  obtain⟨a,vs,rfl,ho,tX⟩:=Q9 x
  obtain⟨h2,hs⟩:=Zpm KX ar hu ho
  exact .bz hs (SX KX ar ds _ tX p h2)
 | .tuple ds,_,x,p,hu=>by
  obtain⟨a,vs,rfl,ho,tX⟩:=Mw x
  obtain⟨h2,hs⟩:=Zpn KX ar hu ho
  exact .f6 hs (SX KX ar ds _ tX p h2)
 | .float _,_,_,p,_=>aK (show false=true from p)
 | .dict _,_,_,p,_=>aK (show false=true from p)
 | .bytearray _,_,_,p,_=>aK (show false=true from p)
 | .set _,_,_,p,_=>aK (show false=true from p)
 | .frozenset _,_,_,p,_=>aK (show false=true from p)
 | .obj _ _,_,_,p,_=>aK (show false=true from p)
theorem SX{Pm:Jf}(KX:K.In h)(ar:∀a∈A,xA h A a):∀(ds:List jn)(vs:List aj),DM Pm h vs ds->K5 ds=true->(∀u∈vs,OkU A u)->xy K (wz K h A) (vs.map VE) ds
 |[],_,x,_,_=>by
  cases x
  exact .nil
 |d::ds,_,x,p,hu=>by
  obtain⟨v,vs,rfl,x1,x2⟩:=Ra x
  have q:plW d=true/\K5 ds=true:=EJ.mp p
  exact .cons (ZjD KX ar d v x1 q.1 (hu _ (aM ..))) (SX KX ar ds vs x2 q.2 fun u m=>hu u (aG _ m))
end
end
theorem ZbJ{P:aV}{w:bG}{K:ae}{mg mb:SV}{CX:YT}{k:Nat}{fa:ao}{fd:eL}{ps:LS}{sp:Sp}{s₁:aB}{QH:List aj}{ds:List jn}{R:PySem.W.WRecords}{cl:Str->Option ao}{d0:jn} (KX:K.In s₁.heap)(hns:s₁.heap.Ns d9 mg)(hb:s₁.heap.Ns OW mb)(hbb:∀x:Str,x≠"__name__" ->mb x=EG x)(ZpT:s₁.heap.NoLimit)(hg:s₁.gens=#[]) (hwl:DM w.params s₁.heap QH ds)(hpl:K5 ds=true)(hwt:∀d∈ds,d.weight<=1048576)(hr:ku k YA) (F:∀base:bb,K.In base->base.Ns d9 mg->ue P w K mg base CX k fa fd ps sp)(Znb:∀(s:aB)(us:List aj),us.length=ps.length->Yx s fd ⟨us,[]⟩ (ps.zip us))(jL:ds.length=ps.length) (hsp:∀(H:Hp)(xs:List V),VF H->xy K H xs ds->sp xs H (fun v H'=>Dw K H' v d0) fun _ _ _=>False) (hCX:∀H e s',CX [] H s₁ (fun _ _ _=>False) e s'->False):QM (b7 P w) YA (.call (.ref fa) ⟨QH,[]⟩) (fun r s'=> ∃u as,r= .ok (.ret u)/\Hy R cl s'.heap u d0 as/\OldK s₁.heap s'.heap/\s'.os=s₁.os/\EH s'.gens) s₁:=by
 obtain⟨A,ho,ar⟩:=E7 ds QH hwl hpl hwt;have hO:VF (wz K s₁.heap A):=ZbI ar;have fN:xu P w (wz K s₁.heap A) s₁.heap:=ZgY ar;have hS:=SX KX ar ds QH hwl hpl ho;have hV:=vx ho;have hK:∀b u,wz K s₁.heap A b=some u->K.lookup b=none:=fun b u q=> (LK ar q).1;have UP:∀{b:ao}{o:Obj}{es:Array Zdx}{ep:Nat},s₁.heap.get? b=some o->o.data= .dict es ep->wz K s₁.heap A b=none:=fun{b o es ep} e d=>by
  cases q:wz K s₁.heap A b with
  |none=>rfl
  |some u=>
   obtain⟨_,vs,_,_,⟨e2,_⟩|⟨e2,_⟩⟩:=LK ar q
   ·rw[e2]at e;cases e;have d':Data.seq vs.toArray _=Data.dict es ep:=d;cases d'
   ·rw[e2]at e;cases e;have d':Data.seq vs.toArray _=Data.dict es ep:=d;cases d'
 generalize wz K s₁.heap A=H at hO fN hS hK UP;have Zbd:∀{b:ao}{o:Obj},s₁.heap.get? b=some o->H b=none->(Sy s₁.heap H).get? b=some o:=fun e n=>ZdB e n;have nsK:∀{b:ao}{m:SV},s₁.heap.Ns b m->(Sy s₁.heap H).Ns b m:=fun{b m} ⟨o,es,ep,e,d,r⟩=> ⟨o,es,ep,Zbd e (UP e d),d,r⟩;have nK:∀b o,K.lookup b=some o->H b=none:=fun b o e=>by
  cases q:H b with
  |none=>rfl
  |some u=>rw[hK b u q]at e;cases e
 have hKb:K.In (Sy s₁.heap H):=fun b o e=>Zbd (KX b o e) (nK b o e);have hM:Mod K mg (Sy s₁.heap H):=⟨hKb,nsK hns,⟨mb,nsK hb,hbb⟩,let⟨mc,h1,h2⟩:=ZpT;⟨mc,nsK h1,h2⟩⟩;have e0:YU P w K mg (Sy s₁.heap H) YA [] s₁ H:=⟨Z,hM,fun b o e=>Zgw e,Mc (Zbp _ _),trivial,fun b hb=>absurd (show b∈([]:List ao)from hb) (by simp),fN,.of_eq hg⟩;have hl:QH.length=ps.length:=by rw[uk hwl];exact jL
 refine QN ((F _ hKb (nsK hns)).run YA [] s₁ H ⟨QH,[]⟩ QH (QH.map VE) _ _ hr e0 (Znb s₁ QH hl) hV (hsp H _ hO hS)) fun r s' x=>?_;cases r with
 |error e=>exact(hCX H e s' x).elim
 |ok fl=>
  cases fl with
  |next=>exact gM x
  |brk=>exact gM x
  |cont=>exact gM x
  |ret u=>
   obtain⟨v,H',os,bare,un,Znd,r',q⟩:=x;have mm:∀b o,s₁.heap.get? b=some o->s'.heap.get? b=some o:=fun b o e=>by
    cases q2:H b with
    |none=>exact un.keep b o e q2 (by intro z;exact absurd (show b∈([]:List ao)from z) (by simp)) (by simp)
    |some u2=>
     rcases hO b with z|⟨ob,u3,z⟩
     ·rw[q2]at z;cases z
     ·have z2:=un.Mv b ob _ z;obtain⟨e1,_⟩:=fN b _ z;obtain⟨e2,_⟩:=Znd b _ z2;rw[e]at e1;cases e1;exact e2
   have KX':K.In s'.heap:=fun b o e=>mm b o (KX b o e);obtain⟨as,hrd⟩:=Dw.B0 (R:=R) (cl:=cl) Znd KX' d0 v u q r';exact⟨u,as,Z,hrd,OldK.of_keep mm,os,bare⟩
theorem Mx{ds:List jn}(h:jn.layableAll ds=true):∀d∈ds,d.weight<=1048576:=fun d hd=>
 (PySem.W.layableW_iff.mp (fU.mp h d hd)).2.2
theorem My:∀(cs:List Zvm)(a:Zvm.denoteAll cs),(Zvm.encAll cs a).length=cs.length
 |[],_=>rfl
 |c::cs,a=>by show(Zvm.encAll cs a.2).length+1=cs.length+1;rw[My cs a.2]
theorem ZbK{r:Zvp}{k:Nat}{q:aV}{Sb:LS}{XP:SV->bb->Prop}{YP:bG->bb->Prop}{d:DefRec}{K:Jf->ae}{CX:bG->YT}{ps:LS}{sp:bG->Sp} (ZfX:r.wellSaid=true)(hdf:d.params.defaults=[])(jL:r.args.length=ps.length)(hr:ku k YA) (hY:∀(w:bG)(h:bb),YP w h->(K w.params).In h) (F:∀(w:bG)(mg:SV)(fa:ao)(h:bb),YP w h->(K w.params).In h->h.Ns d9 mg->mg d.name=some (.ref fa)->∃fd:eL,(∀(s:aB)(us:List aj),us.length=ps.length->Yx s fd ⟨us,[]⟩ (ps.zip us))/\∀base:bb,(K w.params).In base->base.Ns d9 mg->ue r.prog w (K w.params) mg base (CX w) k fa fd ps (sp w)) (hsp:∀(w:bG)(H:Hp)(xs:List V)(a:Zvm.denoteAll r.args),VF H->Zvm.withinAll r.args a=true->Zvm.app r.args r.asked a=true->xy (K w.params) H xs (Zvm.encAll r.args a)->sp w xs H (fun v H'=>Dw (K w.params) H' v (r.ret.enc (Zvm.app r.args r.f a))) fun _ _ _=>False) (hCX:∀(w:bG)(H:Hp)(s:aB)(e:aj)(s':aB),CX w [] H s (fun _ _ _=>False) e s'->False):PySem.W.WalkOS q Sb XP YP r d [] (fun f vs=>PySem.call f vs):=by intro w O0 s₁ mg mb G Y fa o pm cd doc dV kV ho hd Yp hD hmg hg args QH as EB ZpU hrd hwl hlo;obtain⟨a,e1,e2⟩:=PySem.W.os_pre_some EB;obtain⟨e3,hwi⟩:=Zvm.encAll_of_decAll r.args args a e1;subst e3;have KX:=hY w _ Y;obtain⟨fd,hb,hF⟩:=F w mg fa _ Y KX G.T.g hmg;refine PySem.W.enter_call (QN (ZbJ (R:=[]) (cl:=classAt O0.heap) (d0:=r.ret.enc (Zvm.app r.args r.f a)) KX G.T.g G.T.b G.T.builtins G.T.nolimit hg hwl (Q8 _ _) (Mx ZpU) hr hF hb (by rw[My];exact jL) (fun H xs hO hS=>hsp w H xs a hO hwi e2 hS) fun H e s'=>hCX w H s₁ e s') fun r' s' hq=>?_);obtain⟨u,as',rfl,h1,h2,h3,h4⟩:=hq;exact⟨.inl ⟨u,_,as',Z,fun _=>rfl,h1,(Zvp.post_iff ZfX hwi _ _).mpr Z,fun z=>aK (show false=true from z)⟩,h2,h3,h4⟩
end L2
end
namespace L2
open PySem PySem.Spec PyProof.Rows
theorem iD.here{P:aV}{w:bG}{H:Hp}{h:bb}{a:ao}{o:HO}(x:iD P w H h a o):∃u,h.get? a=some u:=by
 cases o with
 |bz xs=>obtain⟨_,_,_,_,e⟩:=x;exact⟨_,e⟩
 |f6 xs=>obtain⟨_,_,_,ob,e,_⟩:=x;exact⟨_,e⟩
 |dK br=>obtain⟨_,_,_,_,o,_,_,e,_⟩:=x;exact⟨_,e⟩
 |dT br=>obtain⟨_,_,_,_,o,_,_,e,_⟩:=x;exact⟨_,e⟩
 |set S n=>obtain⟨o,_,_,_,e,_⟩:=x;exact⟨_,e⟩
 |ins C dx fs=>obtain⟨_,_,_,e,_⟩:=x;exact⟨_,e⟩
 |own y=>obtain⟨_,e⟩:=x;exact⟨_,e⟩
 |xd fs=>obtain⟨_,⟨_,_,_,e,_⟩,_⟩:=x;exact⟨_,e⟩
 |rng lo hi=>obtain⟨_,_,_,e⟩:=x;exact⟨_,e⟩
 |LI ob u=>obtain⟨e,_⟩:=x;exact⟨_,e⟩
 |tbl ps=>exact⟨_,show h.get? a=some _ from x⟩
 |met f y=>exact⟨_,show h.get? a=some _ from x⟩
 |ext φ=>obtain⟨_,⟨_,e⟩,_⟩:=x;exact⟨_,e⟩
inductive Zmi(bC:List Env)(h0:bb)(ea:ao)(c:aj)(H':Hp)(h':bb):Prop
 |mk (B:bb) (t:ao) (_:bb.FlyingW B bC ea c (.ref t) h') (_:(∀b o,h0.get? b=some o->b∉Sz bC->∃u,B.get? b=some u)) (_:∀b u,H' b=some u->∃o,B.get? b=some o)
def Be(P:aV)(w:bG):YT:=fun bC H s E e s'=> ∃(ea:ao)(c:aj)(H':Hp),e= .ref ea/\s'.os=s.os/\EH s'.gens/\Un (Sz bC) [] H H' s.heap s'.heap/\xu P w H' s'.heap/\Zmi bC s.heap ea c H' s'.heap/\E c none H'
theorem Rb{P:aV}{w:bG}{B h h':bb}{H:Hp}(ok:xu P w H h)(b1:B.StaysIn h)(b2:B.StaysIn h')(Sx:∀b u,H b=some u->∃o,B.get? b=some o):xu P w H h':=fun a o e=>
 (ok a o e).YG (fun b u hb q=>by
  have t:∃o,B.get? b=some o:=by
   rcases hb with z|z
   ·rw[z];exact Sx a o e
   ·exact Sx b _ z
  obtain⟨o',e'⟩:=t;have:=b1 b o' e';rw[q]at this;cases this;exact b2 b _ e') (fun _ q=>q) fun _ _ q=>q
section
variable{P:aV}{w:bG}{K:ae}{mg:SV}{base:bb}{N:LS}{qual:Str}{sc:mf}{f:ao}{cd:aj}{A:cD}{bC:List Env}{s0:aB}{H0:Hp}{E:XK}
theorem Zam{CX:YT}{E':XK}{aw:PL}{σ:St}{H':Hp}{s':aB}{h':bb}{g':Array GenState}{d':Drawn}{t':Nat}{B:bb}{ea t:ao}{c:aj} (J:cM (uf CX P w K mg base N qual sc f cd A bC s0 H0 E') aw σ H' s')(bs:B.StaysIn s'.heap)(fl:bb.FlyingW B bC ea c (.ref t) h')(up:s'.heap.UpToSlots h') (cov:∀b o,s'.heap.get? b=some o->b<s0.heap.objs.size->b∉Sz bC->(∃o0,s0.heap.get? b=some o0)->∃u,B.get? b=some u)(Sx:∀b u,H' b=some u->∃o,B.get? b=some o)(hg:EH g')(hE:E c none H'):Be P w bC H0 s0 E (.ref ea) {s' with heap:=h',gens:=g',drawn:=d',toks:=t'}:=by
 have UP:∀b:ao,b∉(uf CX P w K mg base N qual sc f cd A bC s0 H0 E').ex:=fun b z=>absurd (show b∈([]:List ao)from z) (by simp);have ZkL:∀b o,s0.heap.get? b=some o->b∉Sz bC->∃u,B.get? b=some u:=fun b o e hb=>by obtain⟨o',e'⟩:=J.base.there b o e (UP b);exact cov b o' e' (bb.lt_size e) hb ⟨o,e⟩
 refine⟨ea,c,H',Z,J.os,hg,⟨fun b o e n hb hx=>?_,fun b o e n hb hx=>?_,fun b o e n hx=>J.base.free b o e n (UP b),fun b o e hx=>?_,J.base.Pf,J.base.Mv,J.base.Pg⟩,Rb J.fN bs fl.1 Sx,⟨B,t,fl,ZkL,Sx⟩,hE⟩
 ·have e1:=J.base.keep b o e n hb (UP b);obtain⟨u,e2⟩:=ZkL b o e hb;have:=bs b u e2;rw[e1]at this;cases this;exact fl.1 b _ e2
 ·obtain⟨sl,e1⟩:=J.base.E5 b o e n hb (UP b);obtain⟨_,o2,U2,hnf⟩:=J.ok.wo.mem hb;have ee:o2=o:=by have z:s0.heap.get? b=some o2:=U2;rw[e]at z;exact(af z).symm
  subst ee;obtain⟨L1,e2⟩:=up b _ e1 hnf;exact⟨L1,e2⟩
 ·by_cases hb:b∈Sz bC
  ·obtain⟨_,o2,U2,hnf⟩:=J.ok.wo.mem hb;have ee:o2=o:=by have z:s0.heap.get? b=some o2:=U2;rw[e]at z;exact(af z).symm
   subst ee;obtain⟨sl,e1⟩:=J.base.any e (J.ok.frf b hb) (UP b);obtain⟨L1,e2⟩:=up b _ e1 hnf;exact⟨_,e2⟩
  ·obtain⟨u,e2⟩:=ZkL b o e hb;exact⟨u,fl.1 b u e2⟩
theorem dj:mn (Be P w) (uf (Be P w) P w K mg base N qual sc f cd A bC s0 H0 E) E:=by
 intro aw σ H s e s' I h;obtain⟨ea,c,H',rfl,os,bare,un,fN,⟨B,t,fl,cov,Sx⟩,hE⟩:=h;have J:=I.ZdC (ch:=[]) os un fN bare (fun b z=>absurd z (by simp));show bZ (b7 P w) (A.deeper (nj qual sc s0.heap.objs.size f cd)) (leaving (nj qual sc s0.heap.objs.size f cd) (.ref ea)) (fun _ s''=>Be P w bC H0 s0 E (.ref ea) s'') (fun e' s''=>Be P w bC H0 s0 E e' s'') s';refine wpAny_leaves_onW («outer»:=bC) (L:=s0.heap.objs.size) I.ok.frames Z fl fun h' fl' up=>?_;refine Zam (g':=s'.gens) (d':=s'.drawn) (t':=s'.toks) J fl.1 fl' up (fun b o e hl hb ⟨o0,e0⟩=>?_) Sx bare hE;obtain⟨o1,e1⟩:=I.base.there b o0 e0 (fun z=>absurd (show b∈([]:List ao)from z) (by simp));refine cov b o1 e1 fun z=>?_;rcases aU.mp (I.HG b z)with q|q
 ·exact absurd hl (by rw[q];exact eW _)
 ·exact hb q
theorem bh{K:ae}{X:Cx K}:mn (Be P w) X E0:=fun _ _ _ _ _ _ _ h=>by obtain⟨_,_,_,_,_,_,_,_,_,z⟩:=h;exact z.elim
theorem Mz{CX:YT}:iw (b7 P w) (uf CX P w K mg base N qual sc f cd A bC s0 H0 E).A (uf CX P w K mg base N qual sc f cd A bC s0 H0 E).bS (uf CX P w K mg base N qual sc f cd A bC s0 H0 E).xe:=iw.leaving
end
structure Zd9(K:ae)(mg:SV)(x:Str)(C:ao):Prop where
 Ziw:mg x=some (.ref C)
 exc:PySem.W.excIn K C [.type "Exception",.type "BaseException",.type "object"] "Exception.__new__" =true
theorem Zd9.obj{K:ae}{mg:SV}{x:Str}{C:ao}(O:Zd9 K mg x C){h:bb}(X:K.In h):∃bm N nm q bs hdct sn sub ab col dd k0 k1 k2 k3 k5 mN,h.get? C=some (excClassObj nm q C N bs bm hdct sn sub ab col dd k0 k1 k2 k3 k5 "Exception.__new__")/\h.Ns N mN/\mN "__init__" =none/\OwnTail h [.type "Exception",.type "BaseException",.type "object"] bm:=by
 have q:=O.exc;unfold PySem.W.excIn at q;split at q
 ·rename_i dd cd sl ho;split at q
  ·rename_i C' bm k0 k1 k2 k3 n k5 hm hs;simp only[bu,beq_iff_eq,Bool.not_eq_true']at q;obtain⟨⟨⟨⟨⟨rfl,rfl⟩,Zng⟩,ht⟩,fN⟩,hni⟩:=q;obtain⟨nm,bs,mro,ns,qn,hd,sn,sub,ab,col,del⟩:=cd;dsimp only at hm Zng fN hni;subst hm Zng;have wc:sl=#[k0,k1,k2,k3,some (.builtin "Exception.__new__"),k5]:=by obtain⟨l⟩:=sl;simp only at hs;rw[hs]
   subst wc;exact⟨bm,ns,nm,qn,bs,hd,sn,sub,ab,col,dd,k0,k1,k2,k3,k5,_,X _ _ ho,.of_isNs (PySem.W.isNs_of_in X fN),PySem.W.nsMap_none_of_in X fN hni,PySem.W.tail_of_in X ht⟩
  ·cases q
 ·cases q
section
variable{P:aV}{w:bG}{K:ae}{mg:SV}{base:bb}{N:LS}{qual:Str}{sc:mf}{f:ao}{cd:aj}{A:cD}{bC:List Env}{s0:aB}{H0:Hp}{E:XK}
def Zea(E:XK)(C:ao):TS:=fun _ _ H=>E (.ref C) none H
theorem cF{x:Str}{C:ao}{np yo pos:Pos}(O:Zd9 K mg x C)(hd:A.handled=none)(hg:sc.names.lookup x=some .globalImplicit:=by rfl)(UM:(x==("__debug__":Str))=false:=by decide):PS (uf (Be P w) P w K mg base N qual sc f cd A bC s0 H0 E) (.Raise (some (.Call (.Name x np) [] [] yo)) none pos) (Zea E C):=by
 intro aw s σ H D I h;have h:E (.ref C) none H:=h;obtain⟨tl,N',nm,q,bs,hdct,sn,sub,ab,col,dd,k0,k1,k2,k3,k5,mN,hC,hN,hni,T⟩:=O.obj I.EV;have U3:∀bS∈(nj qual sc s0.heap.objs.size f cd::bC),∀b,bS.frame=some b->b∈Sz (nj qual sc s0.heap.objs.size f cd::bC):=fun bS he b hb=>Jh.mpr ⟨bS,he,hb⟩;refine wpAny_Raise_call_subT (C:=C) (nm:=nm) (q:=q) (N:=N') (bs:=bs) (bm:=tl) (hdct:=hdct) (sn:=sn) (sub:=sub) (ab:=ab) (col:=col) (dd:=dd) (k0:=k0) (k1:=k1) (k2:=k2) (k3:=k3) (k5:=k5) uI (mN:=mN) (T.hasType uI.hasBase) hd Z hni (A8 I hg O.Ziw ⟨Z,?_⟩ UM);refine evalArgs_empty ⟨Z,bB _,hC,hN,T,fun h' e hx=>?_⟩;show bZ (b7 P w) (A.deeper (nj qual sc s0.heap.objs.size f cd)) (leaving (nj qual sc s0.heap.objs.size f cd) (.ref e)) (fun _ s''=>Be P w bC H0 s0 E (.ref e) s'') (fun e' s''=>Be P w bC H0 s0 E e' s'') {s with heap:=h'};have bst:(PySem.W.hideAll s.heap (Sz (nj qual sc s0.heap.objs.size f cd::bC))).StaysIn s.heap:=fun b o q=>PySem.W.of_hideAll _ q;refine wpAny_leaves_madeW («outer»:=bC) (L:=s0.heap.objs.size) (h:=s.heap) I.ok.frames Z bst (PySem.W.funFrames_hide I.lB U3) hx fun h'' t x1 x2 x3 x4=>?_;refine Zam (s':=s) (g':=s.gens) (d':=s.drawn) (t':=s.toks) I bst x1 ((bb.UpToSlots.of_keeps hx.keeps).trans x4) (fun b o e hl hb _=> ⟨o,DP _ e fun z=>?_⟩) (fun b u e=>?_) I.bare h
 ·rcases aU.mp (I.HG b z)with q|q
  ·exact absurd hl (by rw[q];exact eW _)
  ·exact hb q
 ·obtain⟨o,eo⟩:=(I.fN b u e).here;exact⟨o,DP _ eo fun z=>by rw[I.SA b z]at e;cases e⟩
theorem g8.okX{x:Str}{st:cy}{fd:eL}{ps:LS}{k:Nat}{sp:Sp}(F:g8 K x qual st f fd)(S:aO N ps (aE st))(len:∀vs H Q E,sp vs H Q E->vs.length=ps.length) (Hj:∀(la:aj)(A:cD)(bC:List Env)(s:aB)(H:Hp)(vs:List V)(Q:VK)(E:XK),ku k (A.deeper (nj qual (aE st) s.heap.objs.size f la))->sp vs H Q E->∃t,KZ (uf (Be P w) P w K mg base N qual (aE st) f la A bC s H E) (ic st) t/\t {nx:=fun _ H'=>Q .ik H',rt:=Q} (start N vs) H):ue P w K mg base (Be P w) (k+1) f fd ps sp:=by obtain⟨oc,od,kV,doc,pm,an,la,ct,osl,rfl,lk,Yp⟩:=F.ex;exact ZlZ lk Yp S len fun A bC s H vs Q E hr hsp=>Hj la A bC s H vs Q E hr hsp
theorem g8.ok0{x:Str}{st:cy}{fd:eL}{ps:LS}{k:Nat}{sp:Sp}(F:g8 K x qual st f fd)(S:aO N ps (aE st))(len:∀vs H Q E,sp vs H Q E->vs.length=ps.length) (Hj:∀(la:aj)(A:cD)(bC:List Env)(s:aB)(H:Hp)(vs:List V)(Q:VK)(E:XK),ku k (A.deeper (nj qual (aE st) s.heap.objs.size f la))->sp vs H Q E->∃t,KZ (uf (Be P w) P w K mg base N qual (aE st) f la A bC s H E).nox (ic st) t/\t {nx:=fun _ H'=>Q .ik H',rt:=Q} (start N vs) H):ue P w K mg base (Be P w) (k+1) f fd ps sp:=by refine F.okX S len fun la A bC s H vs Q E hr hsp=>?_;obtain⟨t,h,q⟩:=Hj la A bC s H vs Q E hr hsp;exact⟨t,h.nox,q⟩
end
section
variable{K:ae}{X:Cx K}
theorem cM.fly{aw:PL}{σ:St}{H:Hp}{s:aB}{h' B:bb}(J:cM X aw σ H s)(bs:B.StaysIn s.heap)(b2:B.StaysIn h')(up:s.heap.UpToSlots h')(hex:X.ex=[]) (ZfY:∀b o,X.O0.heap.get? b=some o->b∉X.fs->∃u,B.get? b=some u)(Zh0:∀p∈X.pn++aw,∃u,B.get? p.1=some u)(Sx:∀b u,H b=some u->∃o,B.get? b=some o):cM X aw σ H {s with heap:=h'}:=by
 have UP:∀b:ao,b∉X.ex:=fun b z=>by rw[hex]at z;exact absurd z (by simp)
 have X5:∀c v,s.heap.IsCell c v->h'.IsCell c v:=fun c v ⟨o,ho,hd⟩=>by
  obtain⟨sl,e⟩:=up c o ho fun vs q=>by rw[hd]at q;cases q
  exact⟨_,e,hd⟩
 refine⟨J.ok,J.os,J.bare,⟨fun b o e n hb hx=>?_,fun b o e n hb hx=>?_,fun b o e n hx=>J.base.free b o e n (UP b),fun b o e hx=>?_,J.base.Pf,J.base.Mv,J.base.Pg⟩,?_,fun x c e=>?_,J.free,J.rm,fun p hp=>?_,Rb J.fN bs b2 Sx,J.len⟩
 ·have e1:=J.base.keep b o e n hb (UP b);obtain⟨u,e2⟩:=ZfY b o e hb;have:=bs b u e2;rw[e1]at this;cases this;exact b2 b _ e2
 ·obtain⟨sl,e1⟩:=J.base.E5 b o e n hb (UP b);obtain⟨_,o2,U2,hnf⟩:=J.ok.wo.mem hb;have ee:o2=o:=by rw[e]at U2;exact(af U2).symm
  subst ee;obtain⟨L1,e2⟩:=up b _ e1 hnf;exact⟨L1,e2⟩
 ·by_cases hb:b∈X.fs
  ·obtain⟨_,o2,U2,hnf⟩:=J.ok.wo.mem hb;have ee:o2=o:=by rw[e]at U2;exact(af U2).symm
   subst ee;obtain⟨sl,e1⟩:=J.base.any e (J.ok.frf b hb) (UP b);obtain⟨L1,e2⟩:=up b _ e1 hnf;exact⟨_,e2⟩
  ·obtain⟨u,e2⟩:=ZfY b o e hb;exact⟨u,b2 b u e2⟩
 ·obtain⟨m,hn,hl⟩:=J.Q7;refine⟨m,up.ns hn,fun i x v e1 e2 e3=>?_⟩;obtain⟨u,r,l⟩:=hl i x v e1 e2 e3;refine⟨u,r,?_⟩;rcases l with l|⟨k,c,e,z⟩
  ·exact .inl l
  ·exact .inr ⟨k,c,e,X5 c _ z⟩
 ·obtain⟨v,z⟩:=J.cell x c e;exact⟨v,X5 c v z⟩
 ·obtain⟨e,n,ne,nf,d⟩:=J.SW p hp;obtain⟨u,e2⟩:=Zh0 p hp;have:=bs p.1 u e2;rw[e]at this;cases this;exact⟨b2 p.1 _ e2,n,ne,nf,d⟩
abbrev Cx.qV{K:ae}(X:Cx K)(aw:PL):Cx K:={X with pn:=X.pn++aw}
theorem Cx.Ok.qV{K:ae}{X:Cx K}(ok:X.Ok)(aw:PL):(X.qV aw).Ok:=⟨ok.Mj,ok.kind,ok.K3,ok.blt,ok.above,ok.inj,ok.has,ok.cab,ok.hd,ok.frames,ok.stk,ok.exf,ok.bs,ok.bsz,ok.VB,ok.VC,ok.wo,ok.frf⟩
theorem Cx.Ok.vo{K:ae}{X:Cx K}{aw:PL}(ok:(X.qV aw).Ok):X.Ok:=⟨ok.Mj,ok.kind,ok.K3,ok.blt,ok.above,ok.inj,ok.has,ok.cab,ok.hd,ok.frames,ok.stk,ok.exf,ok.bs,ok.bsz,ok.VB,ok.VC,ok.wo,ok.frf⟩
theorem cM.Zeb{aw:PL}{σ:St}{H:Hp}{s:aB}(I:cM X aw σ H s):cM (X.qV aw) [] σ H s:=⟨I.ok.qV aw,I.os,I.bare,I.base,I.Q7,I.cell,I.free,I.rm,fun p hp=>I.SW p (by simpa using hp),I.fN,I.len⟩
theorem cM.sE{aw Sh:PL}{σ:St}{H:Hp}{s:aB}(I:cM (X.qV aw) Sh σ H s):cM X aw σ H s:=⟨I.ok.vo,I.os,I.bare,I.base,I.Q7,I.cell,I.free,I.rm,fun p hp=>I.SW p (mF _ hp),I.fN,I.len⟩
inductive XE{K:ae}(X:Cx K)(C:ao)(Ec:Hp->Prop)(aw:PL)(e:aj)(s:aB):Prop
 |mk (ea t:ao) (σ:St) (H:Hp) (B:bb) (_:e= .ref ea) (_:cM X aw σ H s) (_:bb.FlyingW B X.lB ea (.ref C) (.ref t) s.heap) (_:(∀b o,X.O0.heap.get? b=some o->b∉X.fs->∃u,B.get? b=some u)) (_:(∀p∈X.pn++aw,∃u,B.get? p.1=some u)) (_:(∀b u,H b=some u->∃o,B.get? b=some o)) (_:Ec H)
theorem Ziv{C:ao}{Ec:Hp->Prop}{pn:PL}(hex:X.ex=[])(ZkJ:X.lB=X.bS::X.bC)(hfr:X.bS.frame=some X.bS.locals):mn (Be X.prog X.w) ((X.qV pn).HI (XE X C Ec pn)) (fun c _ H=>c= .ref C/\Ec H):=by
 intro aw σ H s e s' I h;obtain⟨ea,c,H',rfl,os,bare,un,fN,⟨B,t,fl,cov,Sx⟩,rfl,hE⟩:=h;have UP:∀b:ao,b∉X.ex:=fun b z=>by rw[hex]at z;exact absurd z (by simp)
 have J:=I.ZdC (ch:=[]) os un fN bare (fun b z=>absurd z (by simp));have Zni:∀b,b∈Sz X.lB->b=X.bS.locals\/b∈X.fs:=fun b z=>aU.mp (I.HG b z);refine⟨ea,t,σ,H',B,Z,J.uK.sE,fl,fun b o e hb=>?_,fun p hp=>?_,Sx,hE⟩
 ·obtain⟨o1,e1⟩:=I.base.there b o e (UP b);refine cov b o1 e1 fun z=>?_;rcases Zni b z with q|q
  ·have h1:=bb.lt_size e;have h2:=I.ok.above;rw[q]at h1;exact absurd (cb h1 h2) (eW _)
  ·exact hb q
 ·obtain⟨e,n,ne,nf,d⟩:=I.SW p (mF _ hp);refine cov p.1 _ e fun z=>?_;rcases Zni p.1 z with q|q
  ·exact ne q
  ·exact nf q
abbrev Cx.vy{K:ae}(X:Cx K)(e:ao):Cx K:={X with A:=X.A.mark (some (.ref e)),Ph:=false,xe:=fun _ _=>False}
theorem Cx.Ok.vy{K:ae}{X:Cx K}(ok:X.Ok)(e:ao):(X.vy e).Ok:=⟨ok.Mj,ok.kind,ok.K3,ok.blt,ok.above,ok.inj,ok.has,ok.cab,(fun z=>nomatch z),ok.frames,ok.stk,ok.exf,ok.bs,ok.bsz,ok.VB,ok.VC,ok.wo,ok.frf⟩
theorem cM.vy{aw:PL}{σ:St}{H:Hp}{s:aB}(I:cM X aw σ H s)(e:ao):cM (X.vy e) aw σ H s:=⟨I.ok.vy e,I.os,I.bare,I.base,I.Q7,I.cell,I.free,I.rm,I.SW,I.fN,I.len⟩
theorem cM.Bf{aw:PL}{σ:St}{H:Hp}{s:aB}{e:ao}(ok:X.Ok)(I:cM (X.vy e) aw σ H s):cM X aw σ H s:=⟨ok,I.os,I.bare,I.base,I.Q7,I.cell,I.free,I.rm,I.SW,I.fN,I.len⟩
theorem SP.sE{aw Sh:PL}{D:DR}{f:Flow}{s':aB}(h:SP (X.qV aw) Sh D f s'):SP X aw D f s':=by
 cases f with
 |next=>obtain⟨σ',H',I,q⟩:=h;exact⟨σ',H',I.sE,q⟩
 |brk=>obtain⟨σ',H',I,q⟩:=h;exact⟨σ',H',I.sE,q⟩
 |cont=>obtain⟨σ',H',I,q⟩:=h;exact⟨σ',H',I.sE,q⟩
 |ret u=>obtain⟨v,σ',H',I,r,q⟩:=h;exact⟨v,σ',H',I.sE,r,q⟩
theorem SP.Bf{aw:PL}{D:DR}{f:Flow}{s':aB}{e:ao}(ok:X.Ok)(h:SP (X.vy e) aw D f s'):SP X aw D f s':=by
 cases f with
 |next=>obtain⟨σ',H',I,q⟩:=h;exact⟨σ',H',I.Bf ok,q⟩
 |brk=>obtain⟨σ',H',I,q⟩:=h;exact⟨σ',H',I.Bf ok,q⟩
 |cont=>obtain⟨σ',H',I,q⟩:=h;exact⟨σ',H',I.Bf ok,q⟩
 |ret u=>obtain⟨v,σ',H',I,r,q⟩:=h;exact⟨v,σ',H',I.Bf ok,r,q⟩
inductive Zpo(Ec:Hp->Prop)(tb ts:TS)(D:DR)(σ:St)(H:Hp):Prop
 |mk (_:tb D σ H) (_:∀σ' H',σ'.length=σ.length->Ec H'->ts D σ' H')
theorem Zec{body vy:List cy}{b0:cy}{x:Str}{C:ao}{np Znf pos:Pos}{Ec:Hp->Prop}{tb ts:TS}(O:Zd9 K X.mg x C)(hex:X.ex=[])(ZkJ:X.lB=X.bS::X.bC)(hfr:X.bS.frame=some X.bS.locals) (hg:Gl X x)(hb:∀pn,KZ ((X.qV pn).HI (XE X C Ec pn)) body tb)(hs:∀e:ao,KZ (X.vy e) (b0::vy) ts)(UM:(x==("__debug__":Str))=false:=by decide):PS X (.Try body [.ExceptHandler (some (.Name x np)) none (b0::vy) Znf] [] [] pos) (Zpo Ec tb ts):=by
 intro aw s σ H D I h;obtain⟨h1,h2⟩:=h;refine wpAny_Try_except (iP (hb aw [] s σ H D (I.Zeb.HI _) h1) (fun f s1 q=>?_) fun e s1 q=>?_)
 ·have q:=q.uK.sE;cases f with
  |next=>exact ve q
  |brk=>exact q
  |cont=>exact q
  |ret u=>exact q
 ·obtain⟨ea,t,σ',H',B,rfl,J,fl,ZfY,Zh0,Sx,hE⟩:=q;rw[ZkJ]at fl;have frm:X.A.frames=some (X.bS::X.bC):=by rw[<-ZkJ];exact J.ok.frames
  refine wpAny_looks_onW («outer»:=X.bC) (L:=X.bS.locals) frm hfr fl fun h4 Zne up4=>?_;refine wpAny_landsW Zne fun h5 fl5 up5=>?_;have J5:=J.fly fl.1 fl5.1 (up4.trans up5) hex ZfY Zh0 Sx;obtain⟨ob,hob,ZpV⟩:=fl5.there;refine wpAny_handleBy_cons (codeAny_handlers_test (A8 (J5.vy ea) hg O.Ziw ?_ UM)) (by intro q;cases q);obtain⟨bm,N',nm,q,bs,hdct,sn,sub,ab,col,dd,k0,k1,k2,k3,k5,mN,hC,hN,hni,T⟩:=O.obj J5.EV;refine wpAny_excMatches_sub_self hC hob ZpV (T.hasType uI.hasBase) (codeAny_handlers_suite ?_);refine lands_againW fl5 fun h6 fl6 up6=>?_;have J6:=J5.fly fl5.1 fl6.1 up6 hex ZfY Zh0 Sx;refine iP (hs ea aw _ σ' H' D (J6.vy ea) (h2 σ' H' (J.len.trans I.len.symm) hE)) (fun f s2 q=>q.Bf J.ok) fun _ _ z=>gM z
end
section
variable{A B C D E F G I J U:TS}{W:DR}{σ:St}{H:Hp}{i:Nat}{v:V}{g:TG}
theorem Zmj(h:let d:=W;A d σ H):A W σ H:=h
theorem Zpp(h:let d:=W;A d (σ.set i (some v)) H):BX i v σ H fun σ H=>A W σ H:=h
theorem Zpq(h:let d:=W;g v σ H fun σ H=>A d σ H):g v σ H fun σ H=>A W σ H:=h
theorem Zmk(h:let d:=W;let u:=U;dF A u d σ H):dF A U W σ H:=h
theorem Zml(h:let d:=W;let u:=U;let v:=dF B u;dF A v d σ H):dF A (dF B U) W σ H:=h
theorem Zmm(h:let d:=W;let u:=U;let v:=dF C u;let x:=dF B v;dF A x d σ H):dF A (dF B (dF C U)) W σ H:=h
theorem Zmn(h:let d:=W;let u:=U;let v:=dF D u;let x:=dF C v;let y:=dF B x;dF A y d σ H):dF A (dF B (dF C (dF D U))) W σ H:=h
theorem Zmo(h:let d:=W;let u:=U;let v:=dF E u;let x:=dF D v;let y:=dF C x;let z:=dF B y;dF A z d σ H):dF A (dF B (dF C (dF D (dF E U)))) W σ H:=h
theorem Zmp(h:let d:=W;let u:=U;let v:=dF F u;let x:=dF E v;let y:=dF D x;let z:=dF C y;let p:=dF B z;dF A p d σ H):dF A (dF B (dF C (dF D (dF E (dF F U))))) W σ H:=h
theorem Zmq(h:let d:=W;let u:=U;let v:=dF G u;let x:=dF F v;let y:=dF E x;let z:=dF D y;let p:=dF C z;let q:=dF B p;dF A q d σ H):dF A (dF B (dF C (dF D (dF E (dF F (dF G U)))))) W σ H:=h
theorem Zmr(h:let d:=W;let u:=U;let v:=dF I u;let x:=dF G v;let y:=dF F x;let z:=dF E y;let p:=dF D z;let q:=dF C p;let r:=dF B q;dF A r d σ H):dF A (dF B (dF C (dF D (dF E (dF F (dF G (dF I U))))))) W σ H:=h
theorem Zms(h:let d:=W;let u:=U;let v:=dF J u;let x:=dF I v;let y:=dF G x;let z:=dF F y;let p:=dF E z;let q:=dF D p;let r:=dF C q;let t:=dF B r;dF A t d σ H):dF A (dF B (dF C (dF D (dF E (dF F (dF G (dF I (dF J U)))))))) W σ H:=h
end
theorem je{N P:LS}{sc:mf}(h1:sc.kind= .function:=by rfl)(h2:sc.isCoroutine=false:=by rfl)(h3:sc.isGenerator=false:=by rfl)(h4:N.Nodup:=by decide +kernel)(h5:N.take P.length=P:=by rfl)(h6:∀x∈P,sc.names.lookup x=some .local\/sc.names.lookup x=some .cell:=by decide +kernel)(h7:∀y∈sc.names,y.2≠ .free:=by decide +kernel):aO N P sc:=⟨h1,h2,h3,h4,h5,h6,h7⟩
theorem lS{α:Type}{n:Nat}:∀{l:List α},l.length=n+1->∃a t,l=a::t/\t.length=n
 |a::t,h=> ⟨a,t,Z,Nat.succ.inj h⟩
theorem g8.b1{K:ae}{x qual:Str}{st:cy}{f:ao}{fd:eL}{ps:LS}(F:g8 K x qual st f fd)(hp:ps.length=1:=by rfl)(h:∀(kV doc pm:aj)(an:Option ao)(la ct:aj)(u0:aj),BQ (gB x qual (mT st) (ic st) (aE st) .none kV doc pm an la ct) ⟨[u0],[]⟩=pure (ps.zip [u0]):=by intros;rfl):lF K fd ps []:=F.xw fun _ _ _ _ _ _ us hl=>by rw[hp]at hl;obtain⟨_,_,rfl,h1⟩:=lS hl;rw[eR.1 h1];exact h _ _ _ _ _ _ _
theorem g8.b2{K:ae}{x qual:Str}{st:cy}{f:ao}{fd:eL}{ps:LS}(F:g8 K x qual st f fd)(hp:ps.length=2:=by rfl)(h:∀(kV doc pm:aj)(an:Option ao)(la ct:aj)(u0 u1:aj),BQ (gB x qual (mT st) (ic st) (aE st) .none kV doc pm an la ct) ⟨[u0,u1],[]⟩=pure (ps.zip [u0,u1]):=by intros;rfl):lF K fd ps []:=F.xw fun _ _ _ _ _ _ us hl=>by rw[hp]at hl;obtain⟨_,_,rfl,h1⟩:=lS hl;obtain⟨_,_,rfl,h2⟩:=lS h1;rw[eR.1 h2];exact h _ _ _ _ _ _ _ _
theorem g8.b3{K:ae}{x qual:Str}{st:cy}{f:ao}{fd:eL}{ps:LS}(F:g8 K x qual st f fd)(hp:ps.length=3:=by rfl)(h:∀(kV doc pm:aj)(an:Option ao)(la ct:aj)(u0 u1 u2:aj),BQ (gB x qual (mT st) (ic st) (aE st) .none kV doc pm an la ct) ⟨[u0,u1,u2],[]⟩=pure (ps.zip [u0,u1,u2]):=by intros;rfl):lF K fd ps []:=F.xw fun _ _ _ _ _ _ us hl=>by rw[hp]at hl;obtain⟨_,_,rfl,h1⟩:=lS hl;obtain⟨_,_,rfl,h2⟩:=lS h1;obtain⟨_,_,rfl,h3⟩:=lS h2;rw[eR.1 h3];exact h _ _ _ _ _ _ _ _ _
theorem g8.b4{K:ae}{x qual:Str}{st:cy}{f:ao}{fd:eL}{ps:LS}(F:g8 K x qual st f fd)(hp:ps.length=4:=by rfl)(h:∀(kV doc pm:aj)(an:Option ao)(la ct:aj)(u0 u1 u2 u3:aj),BQ (gB x qual (mT st) (ic st) (aE st) .none kV doc pm an la ct) ⟨[u0,u1,u2,u3],[]⟩=pure (ps.zip [u0,u1,u2,u3]):=by intros;rfl):lF K fd ps []:=F.xw fun _ _ _ _ _ _ us hl=>by rw[hp]at hl;obtain⟨_,_,rfl,h1⟩:=lS hl;obtain⟨_,_,rfl,h2⟩:=lS h1;obtain⟨_,_,rfl,h3⟩:=lS h2;obtain⟨_,_,rfl,h4⟩:=lS h3;rw[eR.1 h4];exact h _ _ _ _ _ _ _ _ _ _
theorem g8.b5{K:ae}{x qual:Str}{st:cy}{f:ao}{fd:eL}{ps:LS}(F:g8 K x qual st f fd)(hp:ps.length=5:=by rfl)(h:∀(kV doc pm:aj)(an:Option ao)(la ct:aj)(u0 u1 u2 u3 u4:aj),BQ (gB x qual (mT st) (ic st) (aE st) .none kV doc pm an la ct) ⟨[u0,u1,u2,u3,u4],[]⟩=pure (ps.zip [u0,u1,u2,u3,u4]):=by intros;rfl):lF K fd ps []:=F.xw fun _ _ _ _ _ _ us hl=>by rw[hp]at hl;obtain⟨_,_,rfl,h1⟩:=lS hl;obtain⟨_,_,rfl,h2⟩:=lS h1;obtain⟨_,_,rfl,h3⟩:=lS h2;obtain⟨_,_,rfl,h4⟩:=lS h3;obtain⟨_,_,rfl,h5⟩:=lS h4;rw[eR.1 h5];exact h _ _ _ _ _ _ _ _ _ _ _
theorem g8.b6{K:ae}{x qual:Str}{st:cy}{f:ao}{fd:eL}{ps:LS}(F:g8 K x qual st f fd)(hp:ps.length=6:=by rfl)(h:∀(kV doc pm:aj)(an:Option ao)(la ct:aj)(u0 u1 u2 u3 u4 u5:aj),BQ (gB x qual (mT st) (ic st) (aE st) .none kV doc pm an la ct) ⟨[u0,u1,u2,u3,u4,u5],[]⟩=pure (ps.zip [u0,u1,u2,u3,u4,u5]):=by intros;rfl):lF K fd ps []:=F.xw fun _ _ _ _ _ _ us hl=>by rw[hp]at hl;obtain⟨_,_,rfl,h1⟩:=lS hl;obtain⟨_,_,rfl,h2⟩:=lS h1;obtain⟨_,_,rfl,h3⟩:=lS h2;obtain⟨_,_,rfl,h4⟩:=lS h3;obtain⟨_,_,rfl,h5⟩:=lS h4;obtain⟨_,_,rfl,h6⟩:=lS h5;rw[eR.1 h6];exact h _ _ _ _ _ _ _ _ _ _ _ _
end L2
local macro_rules| `(tactic|room)=> `(tactic|try ((first|with_reducible refine L2.Zms ?_ |with_reducible refine L2.Zmr ?_ |with_reducible refine L2.Zmq ?_ |with_reducible refine L2.Zmp ?_ |with_reducible refine L2.Zmo ?_ |with_reducible refine L2.Zmn ?_ |with_reducible refine L2.Zmm ?_ |with_reducible refine L2.Zml ?_ |with_reducible refine L2.Zmk ?_ |with_reducible refine L2.Zmj ?_);intros))
local macro_rules| `(tactic|walk)=> `(tactic|first|(with_reducible refine L2.Zpp ?_;intros;room)|(with_reducible refine L2.Zpq ?_;intros)|room)
noncomputable abbrev LN:=List Nat
noncomputable abbrev LV:=List L2.V
namespace MW
open PySem PySem.Spec PyProof.Rows L2
noncomputable def jf(i:Nat):cy:=PySem.Challenge.pw_manywriters_s01_answers.main.body.getD i (.Pass ⟨0,0,0,0⟩)
abbrev Jr:cy:=fY (jf 9) 0
abbrev B1:cy:=jf 10
abbrev MA:cy:=jf 46
abbrev Js:cy:=jf 47
abbrev yK:cy:=jf 48
abbrev B2:cy:=fY (jf 53) 0
abbrev yL:cy:=fY (jf 53) 1
abbrev B3:cy:=fY (jf 53) 2
abbrev xB:cy:=fY (jf 53) 3
abbrev B4:cy:=fY (jf 53) 4
abbrev um:cy:=fY (jf 53) 5
abbrev qg:cy:=fY (jf 53) 6
abbrev sF:cy:=fY (jf 53) 7
abbrev Jt:cy:=fY (jf 56) 0
abbrev yM:cy:=fY (jf 56) 1
abbrev Ju:cy:=jf 57
abbrev Jv:cy:=jf 58
abbrev yN:cy:=jf 59
abbrev yO:cy:=jf 60
abbrev qh:cy:=jf 61
abbrev rn:cy:=jf 62
abbrev Jw:cy:=jf 63
abbrev sH:cy:=jf 64
abbrev ro:cy:=jf 65
abbrev E8:cy:=fY (jf 74) 0
abbrev E9:cy:=fY (jf 75) 0
abbrev B5:cy:=fY (jf 76) 0
abbrev B6:cy:=fY (jf 77) 0
abbrev B7:cy:=jf 78
abbrev lY:cy:=jf 79
abbrev yP:cy:=jf 80
abbrev Fb:cy:=jf 81
abbrev Jx:cy:=jf 82
abbrev Jy:cy:=jf 83
abbrev Rc:cy:=jf 84
abbrev B8:cy:=jf 85
abbrev MB:cy:=fY (jf 88) 0
abbrev MC:cy:=jf 89
abbrev Fc:cy:=jf 90
abbrev pP:cy:=jf 91
abbrev sI:cy:=jf 92
abbrev VJ:cy:=jf 93
abbrev pQ:cy:=jf 94
abbrev yQ:cy:=jf 95
abbrev Jz:cy:=fY (jf 99) 0
abbrev xC:cy:=fY (jf 100) 0
abbrev vz:cy:=jf 101
abbrev B9:cy:=jf 102
abbrev Fd:cy:=jf 103
abbrev uo:cy:=jf 104
abbrev Ca:cy:=jf 105
abbrev Fe:cy:=jf 106
abbrev Zao:cy:=jf 107
abbrev JA:cy:=jf 108
abbrev Ff:cy:=jf 109
abbrev Fg:cy:=jf 110
abbrev Fh:cy:=jf 111
abbrev JB:cy:=fY (jf 113) 0
abbrev JC:cy:=jf 114
abbrev MD:cy:=jf 115
abbrev yR:cy:=jf 116
abbrev Cb:cy:=jf 117
abbrev Fi:cy:=jf 118
abbrev JD:cy:=fY (jf 120) 0
abbrev Rf:cy:=jf 121
abbrev Cc:cy:=jf 122
abbrev vA:cy:=jf 123
abbrev oR:cy:=jf 124
abbrev yS:cy:=jf 125
abbrev Cd:cy:=jf 126
abbrev Rg:cy:=jf 127
abbrev qi:cy:=jf 128
abbrev rp:cy:=jf 129
abbrev yT:cy:=fY (jf 145) 0
abbrev Fj:cy:=fY (jf 145) 1
abbrev Fl:cy:=fY (jf 146) 0
abbrev sJ:cy:=fY (jf 146) 1
abbrev nQ:cy:=fY (jf 146) 2
abbrev qj:cy:=fY (jf 146) 3
abbrev xD:cy:=jf 147
abbrev yU:cy:=jf 148
abbrev Ce:cy:=jf 149
abbrev Cf:cy:=jf 150
abbrev JE:cy:=jf 151
abbrev Fm:cy:=jf 152
abbrev yV:cy:=jf 153
abbrev xE:cy:=jf 154
abbrev yW:cy:=jf 155
abbrev Fn:cy:=jf 156
abbrev Cg:cy:=jf 157
abbrev Fo:cy:=jf 158
abbrev Ci:cy:=jf 159
abbrev Cj:cy:=jf 161
abbrev Rh:cy:=jf 162
noncomputable abbrev yX:LS:=["self","place","number","numbers","text"]
theorem SY:aO yX yX (aE Jr):=je
noncomputable abbrev Ck:LS:=["written"]
noncomputable abbrev Pj:LS:=["written","found","place","number","layout","numbers_end","call_end","text"]
theorem yY:aO Pj Ck (aE B1):=je
noncomputable abbrev DV:LS:=["sign"]
theorem VL:aO DV DV (aE MA):=je
noncomputable abbrev yZ:LS:=["sign"]
theorem S0:aO yZ yZ (aE Js):=je
noncomputable abbrev sL:LS:=["sign"]
theorem K6:aO sL sL (aE yK):=je
noncomputable abbrev uM:LS:=["self","text"]
theorem ME:aO uM uM (aE B2):=je
noncomputable abbrev sM:LS:=["self"]
theorem K7:aO sM sM (aE yL):=je
noncomputable abbrev Cm:LS:=["self"]
noncomputable abbrev Pk:LS:=["self","sign"]
theorem y6:aO Pk Cm (aE B3):=je
noncomputable abbrev qW:LS:=["self","sign"]
theorem HU:aO qW qW (aE xB):=je
noncomputable abbrev uN:LS:=["self","sign"]
theorem MF:aO uN uN (aE B4):=je
noncomputable abbrev nR:LS:=["self"]
theorem DW:aO nR nR (aE um):=je
noncomputable abbrev qk:LS:=["self","most"]
abbrev y8:LS:=["self","most","start","written","number","sign"]
theorem oS:aO y8 qk (aE qg):=je
noncomputable abbrev sN:LS:=["self"]
abbrev DX:LS:=["self","start","written"]
theorem rq:aO DX sN (aE sF):=je
noncomputable abbrev y9:LS:=["self","sign","low","high"]
theorem S1:aO y9 y9 (aE Jt):=je
noncomputable abbrev sO:LS:=["self"]
theorem K8:aO sO sO (aE yM):=je
noncomputable abbrev JF:LS:=["reader"]
noncomputable abbrev VM:LS:=["reader","sign","half"]
theorem Fp:aO VM JF (aE Ju):=je
noncomputable abbrev JG:LS:=["reader","least","most"]
noncomputable abbrev VN:LS:=["reader","least","most","size"]
theorem Fq:aO VN JG (aE Jv):=je
noncomputable abbrev zb:LS:=["exponent"]
noncomputable abbrev MG:LS:=["exponent","power","step"]
theorem xF:aO MG zb (aE yN):=je
noncomputable abbrev sP:LS:=["reader","leaf"]
theorem K9:aO sP sP (aE yO):=je
noncomputable abbrev ql:LS:=["reader","leaf"]
noncomputable abbrev zc:LS:=["reader","leaf","below_zero","number"]
theorem oT:aO zc ql (aE qh):=je
noncomputable abbrev rA:LS:=["reader","most"]
noncomputable abbrev BB:LS:=["reader","most","found"]
theorem qm:aO BB rA (aE rn):=je
noncomputable abbrev JH:LS:=["reader"]
noncomputable abbrev VO:LS:=["reader","sign","greater","byte"]
theorem Fs:aO VO JH (aE Jw):=je
noncomputable abbrev m9:LS:=["byte"]
theorem BC:aO m9 m9 (aE sH):=je
noncomputable abbrev rB:LS:=["reader"]
noncomputable abbrev BD:LS:=["reader","sign"]
theorem qp:aO BD rB (aE ro):=je
noncomputable abbrev wA:LS:=["self","is_choice","fields"]
theorem Pl:aO wA wA (aE E8):=je
noncomputable abbrev wB:LS:=["self","number","name","mode","kind"]
theorem Pn:aO wB wB (aE E9):=je
noncomputable abbrev uO:LS:=["self","path","leaf"]
theorem MH:aO uO uO (aE B5):=je
noncomputable abbrev uP:LS:=["self","record","columns"]
theorem MI:aO uP uP (aE B6):=je
noncomputable abbrev Cn:LS:=["text"]
noncomputable abbrev Po:LS:=["text","reader","record","columns"]
theorem ze:aO Po Cn (aE B7):=je
noncomputable abbrev nS:LS:=["reader","depth"]
noncomputable abbrev wC:LS:=["reader","depth","is_choice","fields","field"]
theorem uQ:aO wC nS (aE lY):=je
noncomputable abbrev zf:LS:=["fields","field"]
noncomputable abbrev MJ:LS:=["fields","field","other"]
theorem xG:aO MJ zf (aE yP):=je
noncomputable abbrev wD:LS:=["reader","in_choice","depth"]
noncomputable abbrev S2:LS:=["reader","in_choice","depth","number","name","mode","kind"]
theorem Co:aO S2 wD (aE Fb):=je
noncomputable abbrev JI:LS:=["reader","in_choice"]
noncomputable abbrev VP:LS:=["reader","in_choice","mode"]
theorem Ft:aO VP JI (aE Jx):=je
noncomputable abbrev uq:LS:=["reader","depth"]
theorem S3:aO uq uq (aE Jy):=je
noncomputable abbrev Ri:LS:=["kind"]
noncomputable abbrev ZbL:LS:=["kind","first"]
theorem MK:aO ZbL Ri (aE Rc):=je
noncomputable abbrev Cp:LS:=["columns","group","path","dotted"]
noncomputable abbrev Pp:LS:=["columns","group","path","dotted","place","field","field_path","field_dotted"]
theorem sQ:aO Pp Cp (aE B8):=je
noncomputable abbrev DY:LS:=["self","text","record"]
theorem VQ:aO DY DY (aE MB):=je
noncomputable abbrev ML:LS:=["schema","text"]
noncomputable abbrev Y1:LS:=["schema","text","reader","record"]
theorem JJ:aO Y1 ML (aE MC):=je
noncomputable abbrev ke:LS:=["reader","kind"]
theorem Cq:aO ke ke (aE Fc):=je
noncomputable abbrev pR:LS:=["reader","group"]
noncomputable abbrev Cr:LS:=["reader","group","record","name","field"]
theorem zg:aO Cr pR (aE pP):=je
noncomputable abbrev nc:LS:=["reader","field"]
noncomputable abbrev DZ:LS:=["reader","field","occurrences","value"]
theorem rC:aO DZ nc (aE sI):=je
noncomputable abbrev MM:LS:=["record"]
theorem ZbM:aO MM MM (aE VJ):=je
noncomputable abbrev uR:LS:=["reader","group"]
noncomputable abbrev Cs:LS:=["reader","group","name","field","choice"]
theorem zh:aO Cs uR (aE pQ):=je
noncomputable abbrev zi:LS:=["row","path"]
abbrev MN:LS:=["row","path","found","place","deeper","value"]
theorem xH:aO MN zi (aE yQ):=je
noncomputable abbrev zj:LS:=["self","path","test","literal"]
theorem S4:aO zj zj (aE Jz):=je
noncomputable abbrev qX:LS:=["self","sign","parts"]
theorem HV:aO qX qX (aE xC):=je
noncomputable abbrev vB:LS:=["schema","text"]
noncomputable abbrev HW:LS:=["schema","text","reader","condition"]
theorem ur:aO HW vB (aE vz):=je
noncomputable abbrev kI:LS:=["reader","schema","around"]
noncomputable abbrev Pq:LS:=["reader","schema","around","sign"]
theorem sR:aO Pq kI (aE B9):=je
noncomputable abbrev wF:LS:=["reader","schema","around"]
noncomputable abbrev S5:LS:=["reader","schema","around","parts"]
theorem Ct:aO S5 wF (aE Fd):=je
noncomputable abbrev JK:LS:=["reader","schema"]
noncomputable abbrev JL:LS:=["reader","schema","dotted","column","test","literal"]
theorem Fu:aO JL JK (aE uo):=je
noncomputable abbrev Cu:LS:=["reader"]
noncomputable abbrev Pr:LS:=["reader","dotted"]
theorem zk:aO Pr Cu (aE Ca):=je
noncomputable abbrev wG:LS:=["test","leaf"]
theorem Pt:aO wG wG (aE Fe):=je
noncomputable abbrev uu:LS:=["row","condition"]
theorem VR:aO uu uu (aE Zao):=je
noncomputable abbrev zl:LS:=["row","parts"]
noncomputable abbrev VT:LS:=["row","parts","part"]
theorem Fv:aO VT zl (aE JA):=je
noncomputable abbrev wH:LS:=["row","parts"]
noncomputable abbrev S6:LS:=["row","parts","part"]
theorem Cv:aO S6 wH (aE Ff):=je
noncomputable abbrev Fw:LS:=["row","atom"]
noncomputable abbrev S7:LS:=["row","atom","value"]
theorem Cw:aO S7 Fw (aE Fg):=je
noncomputable abbrev wI:LS:=["value","test","literal"]
theorem Pu:aO wI wI (aE Fh):=je
noncomputable abbrev zm:LS:=["self","place","call","number","row","condition"]
theorem S8:aO zm zm (aE JB):=je
noncomputable abbrev zo:LS:=["schema","call","next_row"]
theorem S9:aO zo zo (aE JC):=je
noncomputable abbrev MO:LS:=["rows","deed"]
noncomputable abbrev Y2:LS:=["rows","deed","text"]
theorem JM:aO Y2 MO (aE MD):=je
noncomputable abbrev zp:LS:=["rows","deed"]
noncomputable abbrev uS:LS:=["row","deed"]
theorem zq:aO uS uS (aE Cb):=je
noncomputable abbrev Fx:LS:=["rows","deed"]
noncomputable abbrev Ta:LS:=["rows","deed","after"]
theorem Cy:aO Ta Fx (aE Fi):=je
noncomputable abbrev zr:LS:=["self","deed","reply","rows"]
theorem Tb:aO zr zr (aE JD):=je
noncomputable abbrev HX:LS:=["rows","deed"]
theorem Y3:aO HX HX (aE Rf):=je
noncomputable abbrev uT:LS:=["steps","first_rows"]
theorem MP:aO uT uT (aE Cc):=je
noncomputable abbrev vC:LS:=["steps","first_rows"]
noncomputable abbrev HY:LS:=["steps","first_rows","redone","step"]
theorem uv:aO HY vC (aE vA):=je
noncomputable abbrev oU:LS:=["steps","redone"]
noncomputable abbrev yc:LS:=["steps","redone","place","step"]
theorem nT:aO yc oU (aE oR):=je
noncomputable abbrev zu:LS:=["steps","redone"]
noncomputable abbrev MQ:LS:=["steps","redone","unlike","place","step"]
theorem xI:aO MQ zu (aE yS):=je
noncomputable abbrev uU:LS:=["step"]
theorem MR:aO uU uU (aE Cd):=je
noncomputable abbrev HZ:LS:=["rows","number"]
theorem Y4:aO HZ HZ (aE Rg):=je
noncomputable abbrev qu:LS:=["steps","committed"]
noncomputable abbrev zw:LS:=["steps","committed","redone"]
theorem oV:aO zw qu (aE qi):=je
noncomputable abbrev rD:LS:=["steps","base_rows","committed"]
noncomputable abbrev sS:LS:=["self","base_rows"]
theorem La:aO sS sS (aE yT):=je
noncomputable abbrev Fy:LS:=["self","deed"]
noncomputable abbrev Tc:LS:=["self","deed","step"]
theorem Cz:aO Tc Fy (aE Fj):=je
noncomputable abbrev wJ:LS:=["self"]
theorem Pw:aO wJ wJ (aE Fl):=je
noncomputable abbrev ng:LS:=["self","schema"]
theorem BE:aO ng ng (aE sJ):=je
noncomputable abbrev kf:LS:=["self"]
theorem vD:aO kf kf (aE nQ):=je
noncomputable abbrev lG:LS:=["self"]
theorem ye:aO lG lG (aE qj):=je
noncomputable abbrev xJ:LS:=["table","call"]
noncomputable abbrev Lb:LS:=["table","call","schema"]
theorem vE:aO Lb xJ (aE xD):=je
noncomputable abbrev zz:LS:=["table","call"]
noncomputable abbrev MS:LS:=["table","call","number"]
theorem xK:aO MS zz (aE yU):=je
noncomputable abbrev CA:LS:=["table","call"]
noncomputable abbrev Px:LS:=["table","call","session","deed"]
theorem zA:aO Px CA (aE Ce):=je
noncomputable abbrev CB:LS:=["table","call"]
noncomputable abbrev Py:LS:=["table","call","session","kept"]
theorem zB:aO Py CB (aE Cf):=je
noncomputable abbrev zC:LS:=["session","mode","committed"]
theorem Td:aO zC zC (aE JE):=je
noncomputable abbrev FA:LS:=["table","call"]
noncomputable abbrev Te:LS:=["table","call","session","committed","before","strictly","loosely"]
theorem CC:aO Te FA (aE Fm):=je
noncomputable abbrev zD:LS:=["table","call"]
noncomputable abbrev MT:LS:=["table","call","session","committed","redone","unlike"]
theorem xM:aO MT zD (aE yV):=je
noncomputable abbrev xN:LS:=["table","call"]
noncomputable abbrev Lc:LS:=["table","call","number","mode","rows"]
theorem vF:aO Lc xN (aE xE):=je
noncomputable abbrev sT:LS:=["table","call"]
theorem Ld:aO sT sT (aE yW):=je
noncomputable abbrev wK:LS:=["rows"]
theorem Pz:aO wK wK (aE Fn):=je
noncomputable abbrev uV:LS:=["table","call"]
theorem MU:aO uV uV (aE Cg):=je
noncomputable abbrev FC:LS:=["table","call"]
noncomputable abbrev Tf:LS:=["table","call","committed","number"]
theorem CD:aO Tf FC (aE Fo):=je
noncomputable abbrev CF:LS:=["table","call"]
noncomputable abbrev PB:LS:=["table","call","commits"]
theorem zE:aO PB CF (aE Ci):=je
noncomputable abbrev uW:LS:=["table","call"]
theorem MV:aO uW uW (aE Cj):=je
noncomputable abbrev Rj:LS:=["calls"]
noncomputable abbrev ZbN:LS:=["calls","table","answered","call","numbers"]
theorem MX:aO ZbN Rj (aE Rh):=je
structure Ty(K:ae)(C:ao):Prop where
 ha:gy K (.ref C) "__class__" =some (some (.builtin "object.__class__"))
 hn:PySem.W.specialIn K (.builtin "object.__class__") "__get__" =some (some (.builtin "getset_descriptor.__get__"))
 htk:PySem.W.takesIn K (.builtin "object.__class__")=some true
 hm:PySem.W.mroIn K C (.type "object")=some true
abbrev yf(K:ae)(a:ao)(l:List V):Prop:=∃(o:Obj)(fc:Array aj)(n:Nat),K.lookup a=some o/\o.cls= .type "tuple" /\o.data= .seq fc n/\fc.size<=sizeLine/\fA l fc.toList
abbrev mq(mg:SV)(x:Str)(n:Int):Prop:=∃t,mg x=some (.int n t)
set_option genInjectivity false in
set_option genSizeOfSpec false in
structure cV where
 (JN CG MY JO zG uX sU uY qY uZ nU lH nh JP sV JQ JR zH zI qv rE JS sW rF FD FE CH CI CJ rQ zJ FF JT JU Rk CK D0 MZ FG u6 sX VU u7 zK JV xO vG CL FH zL CM FI Zap JW FJ FK FL JX JY M0 zM CN FN JZ Rl CO vH oW zN CP Rm qw rG sY wL wM ni kg lI mU nV fe pS J0 rR nW mV nX FO pT rS pU CQ Bg kN g9 cK jR lZ kU kz kC qx kh fQ lJ u9 eB cU FP D1 D2 D3 D4 D5 D6 D7 D8 D9 Ea zO zP zQ zR zS rV eN:ao)
 (VW PD Y6 VX M3 CS zT CT xP CU uw qy sZ VY zU VZ V0 M4 M5 zV BF V1 Eb BG Th Ti PH PJ PM Tj M6 Tn V2 V3 ZbP PN M7 Y7 To PQ Ed Zef PR M8 V4 Lg Ia PU Tp V5 PV Tq Zg4 V6 Tr Ts Tu V7 V8 Y8 M9 PX Tv V9 ZbQ PY Ib yg Nb PZ ZbR zW BH zX FQ FR tj nY qz Lh Nc P0 P1 Wa Tw Nd Li Nf Tx P2 Tz P4 P5 Ic:eL)
structure ZgZ(K:ae)(mg:SV)(a:cV):Prop where
 Zeg:mq mg "SCHEMA" (0)
 Rn:mq mg "PUT" (2)
 Zeh:mq mg "LOOK" (3)
 Zaq:mq mg "ASK" (4)
 Ie:mq mg "REPLACE" (5)
 Zei:mq mg "DROP" (6)
 Zej:mg "LAYOUT" =some (.ref a.FP)
 TB:mg "IN_SESSION" =some (.ref a.rV)
 ZjG:mg "Call" =some (.ref a.kN)
 P6:mg "split_calls" =some (.ref a.CG)
 Zg5:Mk K a.kN a.JN
 ZbS:yf K a.FP [.ref a.D1,.ref a.D2,.ref a.D3,.ref a.D4,.ref a.D5,.ref a.D6,.ref a.D7,.ref a.D8,.ref a.D9,.ref a.Ea,.ref a.zO,.ref a.zP,.ref a.zQ,.ref a.zR,.ref a.zS]
 CV:yf K a.rV [.int (2),.int (3),.int (4),.int (5),.int (6),.int (7),.int (8),.int (9),.int (10),.int (11)]
 Wb:yf K a.D1 [.int (0),.bl true]
 Wc:yf K a.D2 [.int (0),.bl false]
 We:yf K a.D3 [.int (1),.bl true]
 Wg:yf K a.D4 [.int (2),.bl false]
 Wh:yf K a.D5 [.int (1),.bl true]
 Wi:yf K a.D6 [.int (2),.bl true]
 Wj:yf K a.D7 [.int (2),.bl false]
 Wk:yf K a.D8 [.int (2),.bl false]
 Wl:yf K a.D9 [.int (1),.bl false]
 Wm:yf K a.Ea [.int (1),.bl false]
 TC:yf K a.zO [.int (2),.bl false]
 TF:yf K a.zP [.int (1),.bl false]
 TH:yf K a.zQ [.int (0),.bl false]
 TJ:yf K a.zR [.int (1),.bl false]
 TK:yf K a.zS [.int (1),.bl false]
 cY:HN K a.kN
 J1:g8 K "__init__" "Call.__init__" Jr a.JN a.VW
 mI:dq K a.kN "place"
 cj:dq K a.kN "number"
 dB:dq K a.kN "numbers"
 nZ:dq K a.kN "text"
 CW:g8 K "split_calls" "split_calls" B1 a.CG a.PD
structure Zg0(K:ae)(mg:SV)(a:cV):Prop where
 Zg6:mq mg "BLANK" (32)
 CY:mq mg "EXCLAMATION" (33)
 TM:mq mg "QUOTE" (34)
 J2:mq mg "AMPERSAND" (38)
 TN:mq mg "ROUND_LEFT" (40)
 P7:mq mg "ROUND_RIGHT" (41)
 Zar:mq mg "COMMA" (44)
 Zg7:mq mg "MINUS" (45)
 Zek:mq mg "DOT" (46)
 TQ:mq mg "ZERO" (48)
 ZjH:mq mg "NINE" (57)
 Zas:mq mg "COLON" (58)
 J3:mq mg "SEMICOLON" (59)
 Ng:mq mg "LESS" (60)
 Nh:mq mg "EQUALS" (61)
 Bh:mq mg "GREATER" (62)
 Y9:mq mg "QUESTION" (63)
 Zat:mq mg "BIG_F" (70)
 Zau:mq mg "BIG_T" (84)
 P8:mq mg "SQUARE_LEFT" (91)
 J4:mq mg "BACKSLASH" (92)
 Ni:mq mg "SQUARE_RIGHT" (93)
 Zav:mq mg "CARET" (94)
 TR:mq mg "UNDERSCORE" (95)
 Ig:mq mg "SMALL_A" (97)
 ZbT:mq mg "SMALL_B" (98)
 ZbU:mq mg "SMALL_F" (102)
 ZbV:mq mg "SMALL_I" (105)
 Ro:mq mg "SMALL_T" (116)
 ZbW:mq mg "SMALL_Z" (122)
 wN:mq mg "CURLY_LEFT" (123)
 Zmt:mq mg "BAR" (124)
 va:mq mg "CURLY_RIGHT" (125)
 Zg8:mq mg "TILDE" (126)
 Za:mg "is_digit" =some (.ref a.MY)
 Wn:mg "is_letter" =some (.ref a.JO)
 Nj:mg "is_name_sign" =some (.ref a.zG)
 Nk:g8 K "is_digit" "is_digit" MA a.MY a.Y6
 J7:g8 K "is_letter" "is_letter" Js a.JO a.VX
 zY:g8 K "is_name_sign" "is_name_sign" yK a.zG a.M3
structure Zed(K:ae)(mg:SV)(a:cV):Prop where
 FT:mq mg "MOST_NAME_SIGNS" (12)
 Nl:mq mg "TEXT_END" (-1)
 Zel:mg "Reader" =some (.ref a.cK)
 ZbX:Mk K a.cK a.uX
 Nm:BA K a.cK "ahead" a.sU
 P9:BA K a.cK "take" a.uY
 Lj:BA K a.cK "passes" a.qY
 Qa:BA K a.cK "need" a.uZ
 FU:BA K a.cK "need_end" a.nU
 zZ:BA K a.cK "read_digits" a.lH
 Ee:BA K a.cK "read_name" a.nh
 bt:Zd9 K mg "NotInForm" a.g9
 cZ:HN K a.cK
 CZ:g8 K "__init__" "Reader.__init__" B2 a.uX a.CS
 z9:g8 K "ahead" "Reader.ahead" yL a.sU a.zT
 C0:g8 K "take" "Reader.take" B3 a.uY a.CT
 xQ:g8 K "passes" "Reader.passes" xB a.qY a.xP
 C1:g8 K "need" "Reader.need" B4 a.uZ a.CU
 ux:g8 K "need_end" "Reader.need_end" um a.nU a.uw
 qA:g8 K "read_digits" "Reader.read_digits" qg a.lH a.qy
 tm:g8 K "read_name" "Reader.read_name" sF a.nh a.sZ
 jS:dq K a.cK "text"
 cP:dq K a.cK "place"
structure Zee(K:ae)(mg:SV)(a:cV):Prop where
 yh:mq mg "MOST_LITERAL_DIGITS" (19)
 Ef:mg "Leaf" =some (.ref a.jR)
 Wo:mg "read_leaf" =some (.ref a.JQ)
 Wq:mg "read_size" =some (.ref a.JR)
 Nn:mg "power_of_two" =some (.ref a.zH)
 Np:mg "read_literal" =some (.ref a.zI)
 Aa:mg "read_whole_literal" =some (.ref a.qv)
 BI:mg "read_text_literal" =some (.ref a.rE)
 Wr:mg "read_byte" =some (.ref a.JS)
 Eg:mg "stands_as_itself" =some (.ref a.sW)
 BJ:mg "read_base_sixteen" =some (.ref a.rF)
 Zg9:Mk K a.jR a.JP
 Nq:BA K a.jR "is_text" a.sV
 wO:HN K a.jR
 J8:g8 K "__init__" "Leaf.__init__" Jt a.JP a.VY
 Ab:g8 K "is_text" "Leaf.is_text" yM a.sV a.zU
 FV:dq K a.jR "sign"
 J9:dq K a.jR "low"
 wQ:dq K a.jR "high"
 Ka:g8 K "read_leaf" "read_leaf" Ju a.JQ a.VZ
 Kb:g8 K "read_size" "read_size" Jv a.JR a.V0
 Ac:g8 K "power_of_two" "power_of_two" yN a.zH a.M4
 Ad:g8 K "read_literal" "read_literal" yO a.zI a.M5
 qB:g8 K "read_whole_literal" "read_whole_literal" qh a.qv a.zV
 rH:g8 K "read_text_literal" "read_text_literal" rn a.rE a.BF
 Kc:g8 K "read_byte" "read_byte" Jw a.JS a.V1
 tp:g8 K "stands_as_itself" "stands_as_itself" sH a.sW a.Eb
 rJ:g8 K "read_base_sixteen" "read_base_sixteen" ro a.rF a.BG
structure ZbO(K:ae)(mg:SV)(a:cV):Prop where
 BK:mq mg "MOST_SCHEMA_BYTES" (2000)
 FW:mq mg "MOST_DEPTH" (6)
 Qb:mq mg "MOST_LEAVES" (40)
 wR:mq mg "JUST_ONE" (33)
 Qc:mq mg "PERHAPS_ONE" (63)
 FX:mq mg "ANY_NUMBER" (42)
 LM:mq mg "KEYED" (37)
 Zha:mg "Group" =some (.ref a.lZ)
 Zhb:mg "Field" =some (.ref a.kU)
 Zem:mg "Column" =some (.ref a.kz)
 Zen:mg "Schema" =some (.ref a.kC)
 Qe:mg "read_schema" =some (.ref a.CJ)
 FY:mg "read_group" =some (.ref a.rQ)
 Nr:mg "check_beside" =some (.ref a.zJ)
 TU:mg "read_field" =some (.ref a.FF)
 Ws:mg "read_mode" =some (.ref a.JT)
 Wt:mg "read_kind" =some (.ref a.JU)
 ZbY:mg "has_key" =some (.ref a.Rk)
 C2:mg "add_columns" =some (.ref a.CK)
 Zeo:Mk K a.lZ a.FD
 Zep:Mk K a.kU a.FE
 ZbZ:Mk K a.kz a.CH
 Zb0:Mk K a.kC a.CI
 mJ:HN K a.lZ
 FZ:g8 K "__init__" "Group.__init__" E8 a.FD a.Th
 kj:dq K a.lZ "is_choice"
 jr:dq K a.lZ "fields"
 gF:HN K a.kU
 F5:g8 K "__init__" "Field.__init__" E9 a.FE a.Ti
 qZ:dq K a.kU "number"
 jC:dq K a.kU "name"
 mK:dq K a.kU "mode"
 iX:dq K a.kU "kind"
 Bi:HN K a.kz
 C3:g8 K "__init__" "Column.__init__" B5 a.CH a.PH
 Ae:dq K a.kz "path"
 tq:dq K a.kz "leaf"
 Bj:HN K a.kC
 C4:g8 K "__init__" "Schema.__init__" B6 a.CI a.PJ
 vI:dq K a.kC "record"
 n9:dq K a.kC "columns"
 C5:g8 K "read_schema" "read_schema" B7 a.CJ a.PM
 rX:g8 K "read_group" "read_group" lY a.rQ a.Tj
 Af:g8 K "check_beside" "check_beside" yP a.zJ a.M6
 F6:g8 K "read_field" "read_field" Fb a.FF a.Tn
 Kd:g8 K "read_mode" "read_mode" Jx a.JT a.V2
 Ke:g8 K "read_kind" "read_kind" Jy a.JU a.V3
 Rp:g8 K "has_key" "has_key" Rc a.Rk a.ZbP
 pV:g8 K "add_columns" "add_columns" B8 a.CK a.PN
structure ZjF(K:ae)(mg:SV)(a:cV):Prop where
 Ih:mq mg "MOST_ROW_BYTES" (4000)
 Zmu:mg "Row" =some (.ref a.qx)
 Zb:mg "read_row" =some (.ref a.MZ)
 F7:mg "read_value" =some (.ref a.FG)
 Qg:mg "read_record" =some (.ref a.u6)
 Eh:mg "read_occurrences" =some (.ref a.sX)
 Zeq:mg "key_of" =some (.ref a.VU)
 Qh:mg "read_choice" =some (.ref a.u7)
 Nt:mg "values_along" =some (.ref a.zK)
 ZjI:Mk K a.qx a.D0
 ra:HN K a.qx
 Nu:g8 K "__init__" "Row.__init__" MB a.D0 a.M7
 qC:dq K a.qx "text"
 C6:dq K a.qx "record"
 qD:dq K a.qx "held"
 Nv:g8 K "read_row" "read_row" MC a.MZ a.Y7
 rY:g8 K "read_value" "read_value" Fc a.FG a.To
 C7:g8 K "read_record" "read_record" pP a.u6 a.PQ
 tu:g8 K "read_occurrences" "read_occurrences" sI a.sX a.Ed
 Wu:g8 K "key_of" "key_of" VJ a.VU a.Zef
 C8:g8 K "read_choice" "read_choice" pQ a.u7 a.PR
 Ag:g8 K "values_along" "values_along" yQ a.zK a.M8
structure Tg(K:ae)(mg:SV)(a:cV):Prop where
 wU:mq mg "MOST_CONDITION_BYTES" (500)
 C9:mq mg "MOST_AROUND" (20)
 Zc:mg "Atom" =some (.ref a.kh)
 Zd:mg "Compound" =some (.ref a.fQ)
 Ii:mg "read_condition" =some (.ref a.vG)
 Dc:mg "read_within" =some (.ref a.CL)
 TV:mg "read_parts" =some (.ref a.FH)
 Wv:mg "read_atom" =some (.ref a.zL)
 Qi:mg "read_dotted" =some (.ref a.CM)
 TX:mg "is_test_of" =some (.ref a.FI)
 Zaw:mg "holds" =some (.ref a.Zap)
 Ww:mg "holds_all" =some (.ref a.JW)
 TY:mg "holds_some" =some (.ref a.FJ)
 TZ:mg "holds_atom" =some (.ref a.FK)
 T1:mg "holds_test" =some (.ref a.FL)
 Zhc:Mk K a.kh a.JV
 Wx:Mk K a.fQ a.xO
 Bk:HN K a.kh
 Kf:g8 K "__init__" "Atom.__init__" Jz a.JV a.V4
 F8:dq K a.kh "path"
 F9:dq K a.kh "test"
 xR:dq K a.kh "literal"
 ju:HN K a.fQ
 xS:g8 K "__init__" "Compound.__init__" xC a.xO a.Lg
 jT:dq K a.fQ "sign"
 kW:dq K a.fQ "parts"
 vJ:g8 K "read_condition" "read_condition" vz a.vG a.Ia
 pX:g8 K "read_within" "read_within" B9 a.CL a.PU
 Ga:g8 K "read_parts" "read_parts" Fd a.FH a.Tp
 Kg:g8 K "read_atom" "read_atom" uo a.zL a.V5
 Dd:g8 K "read_dotted" "read_dotted" Ca a.CM a.PV
 Gb:g8 K "is_test_of" "is_test_of" Fe a.FI a.Tq
 LO:g8 K "holds" "holds" Zao a.Zap a.Zg4
 Kh:g8 K "holds_all" "holds_all" JA a.JW a.V6
 Gd:g8 K "holds_some" "holds_some" Ff a.FJ a.Tr
 Ge:g8 K "holds_atom" "holds_atom" Fg a.FK a.Ts
 Gf:g8 K "holds_test" "holds_test" Fh a.FL a.Tu
structure Zg1(K:ae)(mg:SV)(a:cV):Prop where
 ZjJ:mg "Deed" =some (.ref a.lJ)
 Wy:mg "read_deed" =some (.ref a.JY)
 Ze:mg "reply_of" =some (.ref a.M0)
 Nw:mg "reply_to_ask" =some (.ref a.zM)
 Qj:mg "holds_asked" =some (.ref a.CN)
 T2:mg "rows_after" =some (.ref a.FN)
 Zhd:Mk K a.lJ a.JX
 dR:HN K a.lJ
 Ki:g8 K "__init__" "Deed.__init__" JB a.JX a.V7
 mL:dq K a.lJ "place"
 dN:dq K a.lJ "call"
 eY:dq K a.lJ "number"
 Ah:dq K a.lJ "row"
 uy:dq K a.lJ "condition"
 Kj:g8 K "read_deed" "read_deed" JC a.JY a.V8
 Ny:g8 K "reply_of" "reply_of" MD a.M0 a.Y8
 Ai:g8 K "reply_to_ask" "reply_to_ask" yR a.zM a.M9
 De:g8 K "holds_asked" "holds_asked" Cb a.CN a.PX
 Gg:g8 K "rows_after" "rows_after" Fi a.FN a.Tv
structure Zg2(K:ae)(mg:SV)(a:cV):Prop where
 ZjK:mg "Step" =some (.ref a.u9)
 Zb1:mg "step_on" =some (.ref a.Rl)
 Qk:mg "rows_behind" =some (.ref a.CO)
 Ij:mg "done_once_more" =some (.ref a.vH)
 yi:mg "count_before_unlike" =some (.ref a.oW)
 Nz:mg "count_unlike" =some (.ref a.zN)
 Ql:mg "has_written" =some (.ref a.CP)
 Zb2:mg "text_in" =some (.ref a.Rm)
 Aj:mg "rows_left_strictly" =some (.ref a.qw)
 BL:mg "rows_left_loosely" =some (.ref a.rG)
 Zhe:Mk K a.u9 a.JZ
 mW:HN K a.u9
 Kk:g8 K "__init__" "Step.__init__" JD a.JZ a.V9
 oa:dq K a.u9 "deed"
 jD:dq K a.u9 "reply"
 Gh:dq K a.u9 "rows"
 Rt:g8 K "step_on" "step_on" Rf a.Rl a.ZbQ
 Df:g8 K "rows_behind" "rows_behind" Cc a.CO a.PY
 vK:g8 K "done_once_more" "done_once_more" vA a.vH a.Ib
 oX:g8 K "count_before_unlike" "count_before_unlike" oR a.oW a.yg
 Ak:g8 K "count_unlike" "count_unlike" yS a.zN a.Nb
 Dg:g8 K "has_written" "has_written" Cd a.CP a.PZ
 Ru:g8 K "text_in" "text_in" Rg a.Rm a.ZbR
 qE:g8 K "rows_left_strictly" "rows_left_strictly" qi a.qw a.zW
 rK:g8 K "rows_left_loosely" "rows_left_loosely" rp a.rG a.BH
structure Y5(K:ae)(mg:SV)(a:cV):Prop where
 Lk:mq mg "MOST_SESSIONS" (8)
 T3:mq mg "MOST_DEEDS" (40)
 Wz:mq mg "MOST_ROWS" (60)
 NA:mq mg "MOST_COMMITS" (60)
 Zax:mq mg "LOOSE" (0)
 WA:mq mg "STRICT" (1)
 Al:mq mg "REFUSED_FORM" (-1)
 BM:mq mg "REFUSED_NO_SCHEMA" (-2)
 Am:mq mg "REFUSED_NO_SESSION" (-3)
 mX:mq mg "REFUSED_RANGE" (-4)
 Ei:mq mg "REFUSED_SESSIONS" (-5)
 Ll:mq mg "REFUSED_DEEDS" (-6)
 NB:mq mg "REFUSED_FULL" (-7)
 yj:mq mg "REFUSED_NOT_TAKABLE" (-10)
 Zb3:mg "Session" =some (.ref a.eB)
 Zhf:mg "Table" =some (.ref a.cU)
 xT:mg "answer_schema" =some (.ref a.mU)
 An:mg "answer_begin" =some (.ref a.nV)
 Dh:mg "answer_deed" =some (.ref a.fe)
 Di:mg "answer_undo" =some (.ref a.pS)
 WB:mg "rows_left" =some (.ref a.J0)
 Gi:mg "answer_why" =some (.ref a.rR)
 Ao:mg "answer_again" =some (.ref a.nW)
 xU:mg "answer_commit" =some (.ref a.mV)
 Ap:mg "answer_close" =some (.ref a.nX)
 T5:mg "numbers_of" =some (.ref a.FO)
 Dj:mg "answer_rows" =some (.ref a.pT)
 Gj:mg "answer_row" =some (.ref a.rS)
 Dk:mg "answer_then" =some (.ref a.pU)
 Qm:mg "ANSWERED_BY" =some (.ref a.eN)
 Qn:mg "answer_call" =some (.ref a.CQ)
 Zb4:mg "answers" =some (.ref a.Bg)
 Zf:Mk K a.eB a.sY
 T6:BA K a.eB "do" a.wL
 Zer:Mk K a.cU a.wM
 Ej:BA K a.cU "start_anew" a.ni
 wV:BA K a.cU "committed_rows" a.kg
 Aq:BA K a.cU "commit_count" a.lI
 NC:yf K a.eN [.ref a.mU,.ref a.nV,.ref a.fe,.ref a.fe,.ref a.fe,.ref a.fe,.ref a.fe,.ref a.pS,.ref a.rR,.ref a.nW,.ref a.mV,.ref a.nX,.ref a.pT,.ref a.rS,.ref a.pU]
 eC:HN K a.eB
 Ar:g8 K "__init__" "Session.__init__" yT a.sY a.zX
 Gk:g8 K "do" "Session.do" Fj a.wL a.FQ
 jv:dq K a.eB "base_rows"
 cO:dq K a.eB "steps"
 dQ:HN K a.cU
 Gm:g8 K "__init__" "Table.__init__" Fl a.wM a.FR
 tw:g8 K "start_anew" "Table.start_anew" sJ a.ni a.tj
 oe:g8 K "committed_rows" "Table.committed_rows" nQ a.kg a.nY
 qF:g8 K "commit_count" "Table.commit_count" qj a.lI a.qz
 mY:dq K a.cU "schema"
 i6:dq K a.cU "history"
 dC:dq K a.cU "sessions"
 jw:dq K a.cU "next_row"
 xV:g8 K "answer_schema" "answer_schema" xD a.mU a.Lh
 As:g8 K "answer_begin" "answer_begin" yU a.nV a.Nc
 Dl:g8 K "answer_deed" "answer_deed" Ce a.fe a.P0
 Dm:g8 K "answer_undo" "answer_undo" Cf a.pS a.P1
 Kl:g8 K "rows_left" "rows_left" JE a.J0 a.Wa
 Gn:g8 K "answer_why" "answer_why" Fm a.rR a.Tw
 Au:g8 K "answer_again" "answer_again" yV a.nW a.Nd
 xW:g8 K "answer_commit" "answer_commit" xE a.mV a.Li
 Av:g8 K "answer_close" "answer_close" yW a.nX a.Nf
 Gp:g8 K "numbers_of" "numbers_of" Fn a.FO a.Tx
 Dn:g8 K "answer_rows" "answer_rows" Cg a.pT a.P2
 Gq:g8 K "answer_row" "answer_row" Fo a.rS a.Tz
 Dq:g8 K "answer_then" "answer_then" Ci a.pU a.P4
 Dr:g8 K "answer_call" "answer_call" Cj a.CQ a.P5
 Rv:g8 K "answers" "answers" Rh a.Bg a.Ic
structure Zg3(K:ae)(mg:SV)(a:cV):Prop where
 Zes:mg "len" =none
 Zay:mg "range" =none
 WC:mg "sorted" =none
 jx:mg "isinstance" =none
 Zet:mg "dict" =none
 Zhg:mg "tuple" =none
 Aw:mg "enumerate" =none
 Gr:lV K (.ref a.kh) (.ref a.kh)=some true
 Ik:lV K (.ref a.fQ) (.ref a.kh)=some false
 T7:lV K (.ref a.jR) (.ref a.jR)=some true
 Qo:lV K (.ref a.lZ) (.ref a.jR)=some false
 uz:Ty K a.kh
 uA:Ty K a.fQ
 Gs:Ty K a.lZ
 LP:Ty K a.jR
structure il(K:ae)(mg:SV)(a:cV):Prop extends ZgZ K mg a,Zg0 K mg a,Zed K mg a,Zee K mg a,ZbO K mg a,ZjF K mg a,Tg K mg a,Zg1 K mg a,Zg2 K mg a,Y5 K mg a,Zg3 K mg a
section
variable{K:ae}{f:ao}{fd:eL}
end
end MW
set_option maxHeartbeats 4000000
namespace MW
open PySem PySem.Spec PyProof.Rows L2
noncomputable def fo(K:ae)(f:ao):Obj:=(K.lookup f).getD {cls:= .none}
def fd(K:ae)(f:ao):eL:=match(fo K f).data with| .func d=>d|_=>default
section
variable{K:ae}{h:bb}{mg:SV}
theorem ZjL{x qual:Str}{st:cy}{f:ao}(l:K.lookup f=some ⟨(fo K f).cls,(fo K f).dict,.func (gB x qual (mT st) (ic st) (aE st) .none (fd K f).kwdefaults (fd K f).doc (fd K f).pyModule (fd K f).annotations (fd K f).code (fd K f).closureTuple),(fo K f).slots⟩) (c:By K (fd K f).code qual=true)(k:j5 K (.ref f)=true):g8 K x qual st f (gB x qual (mT st) (ic st) (aE st) .none (fd K f).kwdefaults (fd K f).doc (fd K f).pyModule (fd K f).annotations (fd K f).code (fd K f).closureTuple):=Zjw l c k
noncomputable def ioK(K:ae)(x:Str)(n:Int):Bool:=match PySem.W.nsIn K d9 x with|some (some (.int m _))=>decide (m=n)|_=>false
theorem ZjM{x:Str}{n:Int}(X:K.In h)(G:h.Ns d9 mg)(e:ioK K x n=true):∃t,mg x=some (.int n t):=by
 unfold ioK at e;split at e
 ·rename_i m t q;rw[<-of_decide_eq_true e];exact⟨t,Ss X G q⟩
 ·cases e
def Zb5:LV->List aj->Bool
 |[],[]=>true
 | .int n::l,.int m _::r=>decide (n=m)&&Zb5 l r
 | .bl b::l,.bool c::r=>decide (b=c)&&Zb5 l r
 | .ref a::l,.ref b::r=>decide (a=b)&&Zb5 l r
 |_,_=>false
theorem Zhh:∀(l:LV)(r:List aj),Zb5 l r=true->fA l r:=by
 intro l r e;fun_induction Zb5 l r with
 |case1=>exact .nil
 |case2 n l m t r ih=>rw[bu,decide_eq_true_eq]at e;exact .cons ⟨_,by rw[e.1]⟩ (ih e.2)
 |case3 b l c r ih=>rw[bu,decide_eq_true_eq]at e;exact .cons (by rw[e.1];rfl) (ih e.2)
 |case4 a l b r ih=>rw[bu,decide_eq_true_eq]at e;exact .cons (by rw[e.1];rfl) (ih e.2)
 |case5=>cases e
def Zmv(K:ae)(t:ao)(l:LV):Bool:=match K.lookup t with|some ⟨.type "tuple",_,.seq fc _,_⟩=>Nat.ble fc.size 1000&&Zb5 l fc.toList|_=>false
theorem ZjN{t:ao}{l:LV}(e:Zmv K t l=true):∃(o:Obj)(fc:Array aj)(n:Nat),K.lookup t=some o/\o.cls= .type "tuple" /\o.data= .seq fc n/\fc.size<=sizeLine/\fA l fc.toList:=by
 unfold Zmv at e;split at e
 ·rename_i q;rw[bu]at e;exact⟨_,_,_,q,Z,Z,cc (Nat.le_of_ble_eq_true e.1) (by decide),Zhh _ _ e.2⟩
 ·cases e
end
theorem ZsK(w:bG)(o:OsState){h:bb}{mg:SV}(X:(Hd.K2 w o).In h)(G:h.Ns d9 mg):∃a,a.Bg=893/\il (Hd.K2 w o) mg a:=by
 refine'⟨.mk 45 59 66 73 80 107 114 121 128 135 142 149 156 177 184 198 205 212 219 226 233 240 247 254 268 289 310 331 345 352 359 366 373 380 387 394 408 422 429 436 443 450 455 462 476 497 511 518 525 532 539 546 553 560 567 574 581 595 609 616 621 628 635 649 663 670 677 684 691 698 705 712 717 731 738 759 766 773 780 794 801 808 815 822 829 836 843 850 857 864 871 878 886 893 48 90 159 187 271 292 313 334 411 479 500 598 652 741 783 30 15 16 17 18 19 20 21 22 23 24 25 26 27 28 29 31 879 ..,Z,?z⟩;case z=>
  constructor<;>constructor;all_goals try dsimp only
  all_goals first
   |(with_reducible refine Ss X G ?_;kernel_rfl)
   |(with_reducible refine ZjM X G ?_;kernel_rfl)
   |(with_reducible refine PySem.W.mg_none_of X G ?_;kernel_rfl)
   |(with_reducible refine ZjL ?_ ?_ ?_ <;>kernel_rfl)
   |(with_reducible refine ZjN ?_;kernel_rfl)
   |(with_reducible refine⟨Ss X G ?_,?_⟩<;>kernel_rfl)
   |(with_reducible refine⟨?_,?_,?_,?_⟩<;>kernel_rfl)
   |(with_reducible refine⟨?_,?_,?_⟩<;>kernel_rfl)
   |kernel_rfl
   |(with_reducible show gy _ _ _=_;kernel_rfl)
   |(unfold dq;kernel_rfl)
   |skip
noncomputable abbrev bV(b:Nat):V:= .int (b:Int)
def iz(t:LN):LV:=t.map bV
theorem eA(t:LN):(iz t).length=t.length:=aZ ..
theorem T8(t:LN)(i:Nat):(iz t)[i]? =(t[i]?).map bV:=by unfold iz;rw[hZ]
structure iW(P:aV)(w:bG)(K:ae)(mg:SV)(base:bb)(k:Nat)(x:Str)(ps:LS)(sp:Sp):Prop where
 ex:∃(f:ao)(fd:eL),ue P w K mg base (Be P w) k f fd ps sp/\mg x=some (.ref f)/\j5 K (.ref f)=true/\lF K fd ps []
theorem iW.m8{P:aV}{w:bG}{K:ae}{mg:SV}{base:bb}{j k:Nat}{x:Str}{ps:LS}{sp:Sp}(c:iW P w K mg base j x ps sp)(h:j<=k):iW P w K mg base k x ps sp:=by obtain⟨f,fd,G,a,b,d⟩:=c.ex;exact⟨f,fd,G.m8 h,a,b,d⟩
structure Met(P:aV)(w:bG)(K:ae)(mg:SV)(base:bb)(k:Nat)(C:ao)(m:Str)(ps:LS)(sp:Sp):Prop where
 ex:∃(f:ao)(fd:eL),ue P w K mg base (Be P w) k f fd ps sp/\HN K C/\BA K C m f/\lF K fd ps []
structure WD(P:aV)(w:bG)(K:ae)(mg:SV)(base:bb)(k:Nat)(C:ao)(x:Str)(ps:LS)(sp:Sp):Prop where
 ex:∃(f:ao)(fd:eL),ue P w K mg base (Be P w) k f fd ps sp/\Mk K C f/\mg x=some (.ref C)/\lF K fd ps []
section
variable{K:ae}{X:Cx K}{j k:Nat}{C:ao}{ps:LS}{sp:Sp}{E:XK}{x m:Str}{p pos sk:Pos}{e o:Expr}{es:List Expr}{ta:TE}{t:TA}
theorem ba(c:iW X.prog X.w K X.mg X.base j x ps sp)(hr:ku k X.A)(hx:mn (Be X.prog X.w) X E)(ha:PA X (e::es) t)(hg:Gl X x:=by rfl)(hjk:j<=k:=by decide)(UM:(x==("__debug__":Str))=false:=by decide) (he:bY (e::es) X.bS=(false,jb e X.bS)::bY es X.bS:=by rfl)(hpl:(km pos (bY es X.bS)).any (·.1)=false:=by rfl):PE X (.Call (.Name x p) (e::es) [] pos) (Jo sp [] E t):=by obtain⟨f,fd,G,a,b,d⟩:=c.ex;exact ZgF G (hr.m8 hjk) hg a b d .nil hx ha UM he hpl
theorem fD{pl:Sem Bool}(ho:PE X o ta)(c:Met X.prog X.w K X.mg X.base j C m ps sp)(hr:ku k X.A)(hx:mn (Be X.prog X.w) X E)(ha:PA X (e::es) t)(hjk:j<=k:=by decide) (hst:bY (e::es) X.bS=(false,jb e X.bS)::bY es X.bS:=by rfl)(hpl:(km pos (bY es X.bS)).any (·.1)=false:=by rfl) (ht:jb (.Call (.Attribute o m sk) (e::es) [] pos) X.bS=(do
   let ov<-jb o X.bS
   standAt sk.atName;let(f,first)<-holding [ov] (KW ov m pl)
   Z4 pos f first (km pos (bY (e::es) X.bS)) (Jg pos (ug [] X.bS))):=by rfl):
  PE X (.Call (.Attribute o m sk) (e::es) [] pos) (Zae C m sp [] E ta t):=by
 obtain⟨f,fd,G,a,b,d⟩:=c.ex;exact ZgG ho a b G (hr.m8 hjk) d .nil hx ha hst hpl ht
theorem du{pl:Sem Bool}(ho:PE X o ta)(c:Met X.prog X.w K X.mg X.base j C m ps sp)(hr:ku k X.A)(hx:mn (Be X.prog X.w) X E)(hjk:j<=k:=by decide) (ht:jb (.Call (.Attribute o m sk) [] [] pos) X.bS=(do
   let ov<-jb o X.bS
   standAt sk.atName;let(f,first)<-holding [ov] (KW ov m pl)
   Z4 pos f first (km pos (bY [] X.bS)) (Jg pos (ug [] X.bS))):=by rfl):
  PE X (.Call (.Attribute o m sk) [] [] pos) (Zae C m sp [] E ta yD):=by
 obtain⟨f,fd,G,a,b,d⟩:=c.ex;exact ZdP ho a b G (hr.m8 hjk) d .nil hx ht
theorem ie(c:WD X.prog X.w K X.mg X.base j C x ps sp)(hr:ku k X.A)(hx:mn (Be X.prog X.w) X E)(ha:PA X (e::es) t)(hg:Gl X x:=by rfl)(hjk:j+1<=k:=by decide)(UM:(x==("__debug__":Str))=false:=by decide) (he:bY (e::es) X.bS=(false,jb e X.bS)::bY es X.bS:=by rfl)(hpl:(km pos (bY es X.bS)).any (·.1)=false:=by rfl):PE X (.Call (.Name x p) (e::es) [] pos) (Vq C sp [] E t):=by obtain⟨f,fd,G,a,b,d⟩:=c.ex;exact ZgH a G (hr.m8 hjk) hg b d .nil hx ha UM he hpl
theorem Zeu(c:WD X.prog X.w K X.mg X.base j C x ps sp)(hr:ku k X.A)(hx:mn (Be X.prog X.w) X E)(hg:Gl X x:=by rfl)(hjk:j+1<=k:=by decide)(UM:(x==("__debug__":Str))=false:=by decide):PE X (.Call (.Name x p) [] [] pos) (Vq C sp [] E yD):=by obtain⟨f,fd,G,a,b,d⟩:=c.ex;exact ZdQ a G (hr.m8 hjk) hg b d .nil hx UM
theorem aP(c:∃t,X.mg x=some (.int i t))(hg:Gl X x:=by rfl)(hd:(x==("__debug__":Str))=false:=by decide):PE X (.Name x pos) (tC (.int i)):=by obtain⟨t,h⟩:=c;exact Z7 hg h ⟨t,Z⟩ hd
theorem tF(c:X.mg x=some (.ref C))(hg:Gl X x:=by rfl)(hd:(x==("__debug__":Str))=false:=by decide):PE X (.Name x pos) (tC (.ref C)):=Z7 hg c Z hd
end
def Zg(H:Hp)(r:ao):Option V:=match H r with
 |some (.ins _ _ fs)=>fs.lookup ("text":Str)
 |_=>none
structure cQ(r:ao)(H H':Hp):Prop where
 all:∀b o,H b=some o->b≠r->H' b=some o
 tx:∀t,Zg H r=some t->Zg H' r=some t
theorem cQ.refl(r:ao)(H:Hp):cQ r H H:=⟨fun _ _ h _=>h,fun _ h=>h⟩
theorem cQ.trans{r:ao}{H H1 H2:Hp}(a:cQ r H H1)(b:cQ r H1 H2):cQ r H H2:=⟨fun c o h n=>b.all c o (a.all c o h n) n,fun t h=>b.tx t (a.tx t h)⟩
theorem Zev{H:Hp}{r p:ao}{o:HO}(n:r≠p):Zg (L2.bp H p o) r=Zg H r:=by unfold Zg;rw[aF n]
theorem cQ.dW{r p:ao}{H H1:Hp}{o:HO}(a:cQ r H H1)(n:H1 p=none):cQ r H (L2.bp H1 p o):=by
 refine⟨fun c u h m=>?_,fun t h=>?_⟩
 ·have q:=a.all c u h m;rw[aF (aR q n)];exact q
 ·have q:=a.tx t h;have ne:r≠p:=fun z=>by unfold Zg at q;rw[z,n]at q;cases q
  rw[Zev ne];exact q
theorem cQ.put{r p:ao}{H H1:Hp}{o:HO}(a:cQ r H H1)(n:H p=none):cQ r H (L2.bp H1 p o):=by
 refine⟨fun c u h m=>?_,fun t h=>?_⟩
 ·rw[aF (aR h n)];exact a.all c u h m
 ·have ne:r≠p:=fun z=>by unfold Zg at h;rw[z,n]at h;cases h
  rw[Zev ne];exact a.tx t h
theorem aS.keep{r:ao}{H H1:Hp}(a:aS H H1):cQ r H H1:=by
 refine⟨fun c u h _=>a c u h,fun t h=>?_⟩;unfold Zg at h⊢;cases e:H r with
 |none=>rw[e]at h;cases h
 |some o=>rw[e]at h;rw[a r o e];exact h
theorem aS.dW{p:ao}{H H1:Hp}{o:HO}(a:aS H H1)(n:H1 p=none):aS H (L2.bp H1 p o):=fun c u h=>by have q:=a c u h;rw[aF (aR q n)];exact q
theorem fI{P:aV}{w:bG}{K:ae}{mg:SV}{base:bb}{x qual:Str}{st:cy}{f:ao}{fd:eL}{N ps:LS}{k:Nat}{sp:Sp}(F:g8 K x qual st f fd)(g:mg x=some (.ref f))(b:lF K fd ps [])(S:aO N ps (aE st)) (Hj:∀(la:aj)(A:cD)(bC:List Env)(s:aB)(H:Hp)(vs:List V)(Q:VK)(E:XK),ku k (A.deeper (nj qual (aE st) s.heap.objs.size f la))->sp vs H Q E->∃t,KZ (uf (Be P w) P w K mg base N qual (aE st) f la A bC s H E) (ic st) t/\t {nx:=fun _ H'=>Q .ik H',rt:=Q} (start N vs) H)(len:∀vs H Q E,sp vs H Q E->vs.length=ps.length:=by intro vs H Q E h;first|(cases h;subst_vars;rfl)|(cases h;rename_i h;(repeat (obtain⟨_,h⟩:=h));subst_vars;rfl)|((repeat (obtain⟨_,h⟩:=h));subst_vars;rfl)):iW P w K mg base (k+1) x ps sp:=⟨f,fd,F.okX S len Hj,g,F.kp,b⟩
theorem cI{P:aV}{w:bG}{K:ae}{mg:SV}{base:bb}{x qual:Str}{st:cy}{f:ao}{fd:eL}{N ps:LS}{k:Nat}{sp:Sp}(F:g8 K x qual st f fd)(g:mg x=some (.ref f))(b:lF K fd ps [])(S:aO N ps (aE st)) (Hj:∀(la:aj)(A:cD)(bC:List Env)(s:aB)(H:Hp)(vs:List V)(Q:VK)(E:XK),ku k (A.deeper (nj qual (aE st) s.heap.objs.size f la))->sp vs H Q E->∃t,KZ (uf (Be P w) P w K mg base N qual (aE st) f la A bC s H E).nox (ic st) t/\t {nx:=fun _ H'=>Q .ik H',rt:=Q} (start N vs) H)(len:∀vs H Q E,sp vs H Q E->vs.length=ps.length:=by intro vs H Q E h;first|(cases h;subst_vars;rfl)|(cases h;rename_i h;(repeat (obtain⟨_,h⟩:=h));subst_vars;rfl)|((repeat (obtain⟨_,h⟩:=h));subst_vars;rfl)):iW P w K mg base (k+1) x ps sp:=⟨f,fd,F.ok0 S len Hj,g,F.kp,b⟩
theorem mr(n:Nat)(h:n<=100:=by decide):n<=sizeLine:=cc h (by decide)
theorem ND(n:Nat)(h:n<1000:=by decide):n<1000:=h
section
variable{K:ae}{X:Cx K}{a:cV}{o e:Expr}{es:List Expr}{t to:TE}{ta:TA}{pos p sk:Pos}
theorem rZ(T:il K X.mg a)(h:PE X e t)(hg:Gl X "len":=by rfl)(he:bY [e] X.bS=(false,jb e X.bS)::bY [] X.bS:=by rfl)(hpl:(km pos (bY [] X.bS)).any (·.1)=false:=by rfl):PE X (.Call (.Name "len" p) [e] [] pos) (tCB (fun xs H Q=> ∃p ys,xs=[.ref p]/\(ft K H p ys\/qU K H p ys)/\Q (.int ys.length) H) (nO t yD)):=jQ SK hg T.Zes Su (ag h az he) (he:=he) (hpl:=hpl)
theorem Ziy(T:il K X.mg a)(h:PE X e t)(hg:Gl X "len":=by rfl)(he:bY [e] X.bS=(false,jb e X.bS)::bY [] X.bS:=by rfl)(hpl:(km pos (bY [] X.bS)).any (·.1)=false:=by rfl):PE X (.Call (.Name "len" p) [e] [] pos) (tCB (fun xs H Q=> ∃a br,xs=[V.ref a]/\H a=some (.dK br)/\Q (.int br.length) H) (nO t yD)):=jQ ZbG hg T.Zes Su (ag h az he) (he:=he) (hpl:=hpl)
end
end MW
namespace MW
open PySem PySem.Spec PyProof.Rows L2
variable{P:aV}{w:bG}{K:ae}{mg:SV}{base:bb}{a:cV}
section
inductive T9(g:Int->Bool)(vs:LV)(H:Hp)(Q:VK)(_:XK):Prop
 |mk (n:Int) (_:vs=[.int n]) (_:Q (.bl (g n)) H)
noncomputable def Gu(n:Int):Bool:=decide (48<=n)&&decide (n<=57)
noncomputable def Km(n:Int):Bool:=decide (97<=n)&&decide (n<=122)
def Dt(n:Int):Bool:=Km n||Gu n||decide (n=95)
theorem Ax(T:il K mg a):iW P w K mg base 1 "is_digit" DV (T9 Gu):=by
 refine cI T.Nk T.Za T.Nk.b1 VL ?_
 ·lk;obtain⟨n,rfl,k⟩:=h;refine⟨_,aq (aN (Mo BZ BZ (aP T.TQ) (pv 0) (aP T.ZjH))),?_⟩;refine⟨_,Z,_,_,Z,Z,_,Z,?_⟩;refine Pe (fun h1=>?_) (fun h1=>?_)
  ·refine⟨_,_,Z,Z,?_⟩;have e:Gu n=decide (n<=57):=by unfold Gu;rw[h1];rfl
   show Q (.bl (decide (n<=57))) H;rw[<-e];exact k
  ·have e:Gu n=false:=by unfold Gu;rw[ia.mpr h1];rfl
   show Q (.bl false) H;rw[<-e];exact k
theorem Gv(T:il K mg a):iW P w K mg base 1 "is_letter" yZ (T9 Km):=by
 refine cI T.J7 T.Wn T.J7.b1 S0 ?_
 ·lk;obtain⟨n,rfl,k⟩:=h;refine⟨_,aq (aN (Mo BZ BZ (aP T.Ig) (pv 0) (aP T.ZbW))),?_⟩;refine⟨_,Z,_,_,Z,Z,_,Z,?_⟩;refine Pe (fun h1=>?_) (fun h1=>?_)
  ·refine⟨_,_,Z,Z,?_⟩;have e:Km n=decide (n<=122):=by unfold Km;rw[h1];rfl
   show Q (.bl (decide (n<=122))) H;rw[<-e];exact k
  ·have e:Km n=false:=by unfold Km;rw[ia.mpr h1];rfl
   show Q (.bl false) H;rw[<-e];exact k
theorem Lm(T:il K mg a):iW P w K mg base 2 "is_name_sign" sL (T9 Dt):=by
 refine cI T.zY T.Nj T.zY.b1 K6 ?_
 ·lk;obtain⟨n,rfl,k⟩:=h;refine⟨_,aq (aN (Zih (ba (Gv T) hr bh (ag (pv 0) az)) (Zih (ba (Ax T) hr bh (ag (pv 0) az)) (SE (mS gP (pv 0) (aP T.TR) (bw _)))))),?_⟩;refine⟨_,Z,n,Z,_,Z,?_⟩;refine Pe (fun h1=>?_) (fun h1=>?_)
  ·have e:Dt n=true:=by unfold Dt;rw[h1];rfl
   show Q (.bl true) H;rw[<-e];exact k
  ·refine⟨_,Z,n,Z,_,Z,?_⟩;refine Pe (fun h2=>?_) (fun h2=>?_)
   ·have e:Dt n=true:=by unfold Dt;rw[h2,Bool.or_true];rfl
    show Q (.bl true) H;rw[<-e];exact k
   ·refine⟨_,Z,Z,?_⟩;have e:Dt n=decide (V.int n=V.int 95):=by unfold Dt;rw[ia.mpr h1,ia.mpr h2];simp
    show Q (.bl (decide (V.int n=V.int 95))) H;rw[<-e];exact k
end
theorem Bl(n:Nat):Gu (n:Int)=aJ n:=by unfold Gu aJ;congr 1<;> (rw[decide_eq_decide];omega)
theorem Rw(n:Nat):Km (n:Int)=iA n:=by unfold Km iA;congr 1<;> (rw[decide_eq_decide];omega)
theorem Rx(n:Nat):Dt (n:Int)=ax n:=by unfold Dt ax;rw[Bl,Rw];congr 1;rw[dI];simp;omega
noncomputable abbrev rf(ta:V)(p:V):List (Str×V):=[("text",ta),("place",p)]
inductive At(K:ae)(a:cV)(H:Hp)(r:ao)(tx:LN)(p:Nat):Prop
 |mk (dx:_) (ta:_) (_:H r=some (.ins a.cK dx (rf (.ref ta) (.int (p:Int))))) (_:H ta=some (.bz (iz tx))) (_:p<=tx.length) (_:tx.length<=17000)
inductive jU(K:ae)(a:cV)(H:Hp)(r:ao)(aH:LN):Prop
 |mk (tx:_) (p:_) (_:At K a H r tx p) (_:tx.drop p=aH)
def eU(a:cV)(E:XK)(r:ao)(H:Hp):Prop:=∀H',cQ r H H'->E (.ref a.g9) none H'
theorem eU.of{a:cV}{E:XK}{r:ao}{H H1:Hp}(f:eU a E r H)(k:cQ r H H1):eU a E r H1:=fun H' k'=>f H' (k.trans k')
theorem eU.ji{a:cV}{E:XK}{r:ao}{H:Hp}(f:eU a E r H):E (.ref a.g9) none H:=f H (cQ.refl r H)
def hd(aH:LN):Int:=match aH with
 |c::_=> (c:Int)
 |[]=> -1
theorem tH{r C dx:ao}{fs:List (Str×V)}{H H':Hp}{ta:ao}{xs:LV}(hr:H r=some (.ins C dx fs))(k:cQ r H H')(h:H ta=some (.bz xs)):H' ta=some (.bz xs):=k.all _ _ h (vk h hr (by intro z;cases z))
theorem cQ.WE{r C dx:ao}{H H1:Hp}{t p p':V}(k:cQ r H H1)(h:H1 r=some (.ins C dx (rf t p))):cQ r H (bp H1 r (.ins C dx (rf t p'))):=by refine⟨fun c u q n=>by rw[aF n];exact k.all c u q n,fun v q=>?_⟩;have q1:=k.tx v q;unfold Zg at q1⊢;rw[h]at q1;rw[au];exact q1
theorem cQ.first{r C dx:ao}{H:Hp}{fs:List (Str×V)}(h:H r=some (.ins C dx [])):cQ r H (bp H r (.ins C dx fs)):=by refine⟨fun c u q n=>by rw[aF n];exact q,fun v q=>?_⟩;unfold Zg at q;rw[h]at q;cases q
section
theorem At.WE{H:Hp}{r:ao}{tx:LN}{p p':Nat}{dx ta:ao}(hr:H r=some (.ins a.cK dx (rf (.ref ta) (.int (p:Int)))))(hs:H ta=some (.bz (iz tx)))(hp:p'<=tx.length)(hl:tx.length<=17000):At K a (bp H r (.ins a.cK dx (rf (.ref ta) (.int (p':Int))))) r tx p':=⟨dx,ta,au,tH hr (cQ.WE (cQ.refl r H) hr) hs,hp,hl⟩
inductive Ua(K:ae)(a:cV)(vs:LV)(H:Hp)(Q:VK)(_:XK):Prop
 |mk (x dx ta:ao) (tx:LN) (_:vs=[.ref x,.ref ta]) (_:H x=some (.ins a.cK dx [])) (_:H ta=some (.bz (iz tx))) (_:tx.length<=17000) (_:∀H',At K a H' x tx 0->cQ x H H'->Q .ik H')
theorem tJ(T:il K mg a):WD P w K mg base 1 a.cK "Reader" uM (Ua K a):=by
 refine⟨a.uX,a.CS,T.CZ.ok0 ME (fun vs H Q E h=>?_) (fun la A bC s H vs Q E hr h=>?_),T.ZbX,T.Zel,T.CZ.b2⟩
 ·obtain⟨x,dx,ta,tx,rfl,_⟩:=h;rfl
 ·obtain⟨x,dx,ta,tx,rfl,hx,hs,hl,k⟩:=h;refine⟨_,ai (dr (pv 0) (pv 1) Z) (aq (dr (pv 0) bL Z)),?_⟩;walk;refine⟨_,Z,_,Z,x,_,dx,_,Z,hx,T.cZ,T.jS,(ND 0),?_⟩;refine⟨_,Z,x,_,dx,_,Z,au,T.cZ,T.cP,(ND 1),?_⟩;rw[fC];have kp:cQ x H (bp H x (.ins a.cK dx (rf (.ref ta) (.int 0)))):=cQ.first hx;exact k _ ⟨dx,ta,au,tH hx kp hs,bB _,hl⟩ kp
inductive Zhi(K:ae)(a:cV)(vs:LV)(H:Hp)(Q:VK)(_:XK):Prop
 |mk (r:ao) (aH:LN) (_:vs=[.ref r]) (_:jU K a H r aH) (_:Q (.int (hd aH)) H)
theorem vL(T:il K mg a):Met P w K mg base 1 a.cK "ahead" sM (Zhi K a):=by
 refine⟨a.sU,a.zT,T.z9.ok0 K7 (fun vs H Q E h=>?_) (fun la A bC s H vs Q E hr h=>?_),T.cZ,T.Nm,T.z9.b1⟩
 ·obtain⟨r,aH,rfl,_⟩:=h;rfl
 ·obtain⟨r,aH,rfl,⟨tx,p,⟨dx,ta,hH,hs,hp,hl⟩,k7⟩,k⟩:=h;refine⟨_,ai (bK (bf Jl (aI (pv 0) Z) (rZ T (aI (pv 0) Z)) (bw _)) (aq (aN (iJ fi (aI (pv 0) Z) (aI (pv 0) Z)))) aL) (aq (aN (aP T.Nl))),?_⟩;walk;refine⟨_,Z,r,_,dx,_,_,Z,hH,T.cZ,T.cP,Z,?_⟩;refine⟨_,Z,r,_,dx,_,_,Z,hH,T.cZ,T.jS,Z,?_⟩;refine⟨ta,_,Z,.inl (ft.of hs),_,_,Z,Z,_,Z,?_⟩;refine Pe (fun h1=>?_) (fun h1=>?_)
  ·have h2:(p:Int)< ((iz tx).length:Int):=of_decide_eq_true h1;rw[eA]at h2;have h3:p<tx.length:=by omega
   have e:aH=tx[p]::tx.drop (p+1):=by rw[<-k7];exact dY h3
   refine⟨_,Z,r,_,dx,_,_,Z,hH,T.cZ,T.jS,Z,?_⟩;refine⟨_,Z,r,_,dx,_,_,Z,hH,T.cZ,T.cP,Z,?_⟩;refine⟨ta,_,_,bV tx[p],Z,Z,ft.of hs,fh (by rw[T8,xo h3];rfl),?_⟩;rw[e]at k;exact k
  ·have h2:¬(p:Int)< ((iz tx).length:Int):=fun z=>h1 (aD z);rw[eA]at h2;have e:aH=[]:=by rw[<-k7];exact fW (by omega)
   rw[e]at k;exact k
inductive ZjO(K:ae)(a:cV)(vs:LV)(H:Hp)(Q:VK)(E:XK):Prop
 |mk (r:ao) (aH:LN) (_:vs=[.ref r]) (_:jU K a H r aH) (_:match aH with|c::cC=> ∀H',jU K a H' r cC->cQ r H H'->Q (bV c) H'|[]=>eU a E r H)
theorem Ry{tx:LN}{p c:Nat}{aH:LN}(h:tx.drop p=c::aH):p<tx.length/\tx.drop (p+1)=aH:=by
 have h3:p<tx.length:=by
  rcases Nat.lt_or_ge p tx.length with q|q
  ·exact q
  ·rw[fW q]at h;cases h
 rw[dY h3]at h;exact⟨h3,(BR h).2⟩
theorem Bm(T:il K mg a):Met P w K mg base 2 a.cK "take" Cm (ZjO K a):=by
 refine⟨a.uY,a.CT,T.C0.okX y6 (fun vs H Q E h=>?_) (fun la A bC s H vs Q E hr h=>?_),T.cZ,T.P9,T.C0.b1⟩
 ·obtain⟨r,aH,rfl,_⟩:=h;rfl
 ·obtain⟨r,aH,rfl,hc,k⟩:=h;refine⟨_,ai (bq (i:=1) y6.nd (du (pv 0) (vL T) hr bh)) (ai (bK (bf gP (pv 1) (aP T.Nl) (bw _)) (aq (cF T.bt hr.hd)) aL) (ai (dr (pv 0) (iu kM (aI (pv 0) Z) bL) Z) (aq (aN (pv 1))))),?_⟩;walk;obtain⟨tx,p,⟨dx,ta,hH,hs,hp,hl⟩,k7⟩:=id hc;refine⟨_,Z,r,dx,_,Z,hH,Z,r,aH,Z,hc,?_⟩;refine⟨_,Z,Z,_,Z,?_⟩;cases aH with
  |nil=>exact bQ k.ji
  |cons c cC=>have e:decide (V.int (hd (c::cC))=V.int (-1))=false:=ay (by intro z;injection z with z;exact absurd (show(c:Int)= -1 from z) (by omega));rw[e];refine bx ?_;obtain⟨h1,h2⟩:=Ry k7;refine⟨_,Z,r,_,dx,_,_,Z,hH,T.cZ,T.cP,Z,_,_,Z,Z,?_⟩;refine⟨_,Z,r,_,dx,_,Z,hH,T.cZ,T.cP,(ND 2),?_⟩;refine⟨_,Z,?_⟩;exact k _ ⟨tx,p+1,At.WE hH hs h1 hl,h2⟩ (cQ.WE (cQ.refl r H) hH)
inductive Zew(K:ae)(a:cV)(vs:LV)(H:Hp)(Q:VK)(E:XK):Prop
 |mk (r:ao) (aH:LN) (c:Nat) (_:vs=[.ref r,bV c]) (_:jU K a H r aH) (_:((∀cC,aH=c::cC->∀H',jU K a H' r cC->cQ r H H'->Q (.bl true) H')/\(aH.head?≠some c->Q (.bl false) H)))
theorem Rz{aH:LN}{c:Nat}:hd aH=(c:Int)↔aH.head?=some c:=by
 cases aH with
 |nil=>
  constructor
  ·intro h;exact absurd (show(-1:Int)=c from h) (by omega)
  ·intro h;cases h
 |cons d r=>
  show(d:Int)=c↔some d=some c;constructor
  ·intro h;rw[show d=c by omega]
  ·intro h;rw[af h]
theorem kJ(T:il K mg a):Met P w K mg base 2 a.cK "passes" qW (Zew K a):=by
 refine⟨a.qY,a.xP,T.xQ.ok0 HU (fun vs H Q E h=>?_) (fun la A bC s H vs Q E hr h=>?_),T.cZ,T.Lj,T.xQ.b2⟩
 ·obtain⟨r,aH,c,rfl,_⟩:=h;rfl
 ·obtain⟨r,aH,c,rfl,hc,k1,k2⟩:=h;refine⟨_,ai (bK (bf BY (du (pv 0) (vL T) hr bh) (pv 1) (bw _)) (aq (aN vm)) aL) (ai (dr (pv 0) (iu kM (aI (pv 0) Z) bL) Z) (aq (aN vm))),?_⟩;walk;obtain⟨tx,p,⟨dx,ta,hH,hs,hp,hl⟩,k7⟩:=id hc;refine⟨_,Z,r,dx,_,Z,hH,Z,r,aH,Z,hc,?_⟩;refine⟨_,Z,Z,_,Z,?_⟩;by_cases hq:aH.head?=some c
  ·have e:(!decide (V.int (hd aH)=V.int (c:Int)))=false:=by rw[aD (by rw[Rz.mpr hq])];rfl
   rw[e];refine bx ?_;obtain⟨cC,rfl⟩:∃cC,aH=c::cC:=by
    cases aH with
    |nil=>cases hq
    |cons d r=>exact⟨r,by rw[af hq]⟩
   obtain⟨h1,h2⟩:=Ry k7;refine⟨_,Z,r,_,dx,_,_,Z,hH,T.cZ,T.cP,Z,_,_,Z,Z,?_⟩;refine⟨_,Z,r,_,dx,_,Z,hH,T.cZ,T.cP,(ND 2),?_⟩;exact k1 cC Z _ ⟨tx,p+1,At.WE hH hs h1 hl,h2⟩ (cQ.WE (cQ.refl r H) hH)
  ·have e:(!decide (V.int (hd aH)=V.int (c:Int)))=true:=by rw[ay (by intro z;injection z with z;exact hq (Rz.mp z))];rfl
   rw[e];exact bQ (k2 hq)
inductive ZjP(K:ae)(a:cV)(vs:LV)(H:Hp)(Q:VK)(E:XK):Prop
 |mk (r:ao) (aH:LN) (c:Nat) (_:vs=[.ref r,bV c]) (_:jU K a H r aH) (_:((∀cC,aH=c::cC->∀H',jU K a H' r cC->cQ r H H'->Q .ik H')/\(aH.head?≠some c->eU a E r H)))
theorem mZ(T:il K mg a):Met P w K mg base 3 a.cK "need" uN (ZjP K a):=by
 refine⟨a.uZ,a.CU,T.C1.okX MF (fun vs H Q E h=>?_) (fun la A bC s H vs Q E hr h=>?_),T.cZ,T.Qa,T.C1.b2⟩
 ·obtain⟨r,aH,c,rfl,_⟩:=h;rfl
 ·obtain⟨r,aH,c,rfl,hc,k1,k2⟩:=h;refine⟨_,aq (bK (wt (eX (fD (pv 0) (kJ T) hr bh (ag (pv 1) az)))) (aq (cF T.bt hr.hd)) aL),?_⟩;obtain⟨tx,p,⟨dx,ta,hH,hs,hp,hl⟩,k7⟩:=id hc;refine⟨_,Z,r,dx,_,Z,hH,Z,_,Z,r,aH,c,Z,hc,fun cC e H' h1 h2=>?_,fun hq=>?_⟩
  ·exact⟨_,Z,bx (k1 cC e H' h1 h2)⟩
  ·exact⟨_,Z,bQ (k2 hq).ji⟩
inductive Zb6(K:ae)(a:cV)(vs:LV)(H:Hp)(Q:VK)(E:XK):Prop
 |mk (r:ao) (aH:LN) (_:vs=[.ref r]) (_:jU K a H r aH) (_:((aH=[]->Q .ik H)/\(aH≠ []->eU a E r H)))
theorem Ay(T:il K mg a):Met P w K mg base 1 a.cK "need_end" nR (Zb6 K a):=by
 refine⟨a.nU,a.uw,T.ux.okX DW (fun vs H Q E h=>?_) (fun la A bC s H vs Q E hr h=>?_),T.cZ,T.FU,T.ux.b1⟩
 ·obtain⟨r,aH,rfl,_⟩:=h;rfl
 ·obtain⟨r,aH,rfl,⟨tx,p,⟨dx,ta,hH,hs,hp,hl⟩,k7⟩,k1,k2⟩:=h;refine⟨_,aq (bK (bf BY (aI (pv 0) Z) (rZ T (aI (pv 0) Z)) (bw _)) (aq (cF T.bt hr.hd)) aL),?_⟩;refine⟨_,Z,r,_,dx,_,_,Z,hH,T.cZ,T.cP,Z,?_⟩;refine⟨_,Z,r,_,dx,_,_,Z,hH,T.cZ,T.jS,Z,?_⟩;refine⟨ta,_,Z,.inl (ft.of hs),Z,_,Z,?_⟩;by_cases hq:aH=[]
  ·have e1:p=tx.length:=by rw[hq]at k7;have:=List.drop_eq_nil_iff.mp k7;omega
   have e:(!decide (V.int (p:Int)=V.int ((iz tx).length:Int)))=false:=by rw[aD (by rw[eA,e1])];rfl
   rw[e];exact bx (k1 hq)
  ·have e1:p≠tx.length:=fun z=>hq (by rw[<-k7,z];exact ko);have e:(!decide (V.int (p:Int)=V.int ((iz tx).length:Int)))=true:=by rw[ay (by intro z;injection z with z;rw[eA]at z;exact e1 (by omega))];rfl
   rw[e];exact bQ (k2 hq).ji
theorem Il{p:Nat->Bool}:∀{run aH:LN},(∀c∈run,p c=true)->(∀c,aH.head?=some c->p c=false)->(run++aH).takeWhile p=run/\(run++aH).dropWhile p=aH
 |[],aH,_,h=>by
  cases aH with
  |nil=>exact⟨Z,Z⟩
  |cons c r=>have e:=h c Z;rw[gL,nu,nA,e];exact⟨Z,Z⟩
 |c::run,aH,h1,h2=>by have e:=h1 c aM;obtain⟨a,b⟩:=Il (run:=run) (aH:=aH) (fun d hd=>h1 d (aG _ hd)) h2;rw[cw,nu,nA,e];exact⟨aA _ a,b⟩
theorem ZaA{tx run aH:LN}{p:Nat}(h:tx.drop p=run++aH)(hp:p<=tx.length):K0 (iz tx) (some (p:Int)) (some ((p+run.length:Nat):Int))=iz run:=by
 have hl:tx.length=p+(run.length+aH.length):=by have:=aA oC h;rw[fV,aX]at this;omega
 unfold K0;rw[HT.Bb,HT.Bb,eA,lz hp,lz (by omega),Nat.add_sub_cancel_left];unfold iz;rw[<-List.map_drop,h,<-xq,List.take_left]
theorem NF(t:LN)(c:Nat):cS (t++[c])=10*cS t+(c-48):=by unfold cS;rw[List.foldl_append];rfl
theorem i7{α:Type}{l:List α}{i:Nat}{x:α}(h:l[i]? =some x):l.take (i+1)=l.take i++[x]:=by rw[List.take_add_one,h];rfl
inductive Zex(K:ae)(a:cV)(vs:LV)(H:Hp)(Q:VK)(E:XK):Prop
 |mk (r:ao) (aH:LN) (vc:Int) (_:vs=[.ref r,.int vc]) (_:jU K a H r aH) (_:(((aH.takeWhile aJ=[]\/vc< ((aH.takeWhile aJ).length:Int)\/((aH.takeWhile aJ).head?=some 48/\1< (aH.takeWhile aJ).length))->eU a E r H)/\(¬(aH.takeWhile aJ=[]\/vc< ((aH.takeWhile aJ).length:Int)\/((aH.takeWhile aJ).head?=some 48/\1< (aH.takeWhile aJ).length))->∀H',jU K a H' r (aH.dropWhile aJ)->cQ r H H'->Q (bV (cS (aH.takeWhile aJ))) H')))
theorem tK(T:il K mg a):Met P w K mg base 2 a.cK "read_digits" qk (Zex K a):=by
 refine⟨a.lH,a.qy,T.qA.okX oS (fun vs H Q E h=>?_) (fun la A bC s H vs Q E hr h=>?_),T.cZ,T.zZ,T.qA.b2⟩
 ·obtain⟨r,aH,c,rfl,_⟩:=h;rfl
 ·obtain⟨r,aH,vc,rfl,⟨tx,p,⟨dx,ta,hH,hs,hp,hl⟩,k7⟩,k1,k2⟩:=h;have nd:=oS.nd;refine⟨_,ai (bq (i:=2) nd (aI (pv 0) Z)) (ai (qc Mz (eX (ba (Ax T) hr bh (ag (du (pv 0) (vL T) hr bh) az))) (aq (dr (pv 0) (iu kM (aI (pv 0) Z) bL) Z))) (ai (bq (i:=3) nd (vp Bc (aI (pv 0) Z) (pO (pv 2)) (pO (aI (pv 0) Z)))) (ai (bK (yA (bf gP (rZ T (pv 3)) bL (bw _)) (uJ (bf oP (rZ T (pv 3)) (pv 1) (bw _)))).pt (aq (cF T.bt hr.hd)) aL) (ai (bK (HH (bf gP (iJ fi (pv 3) bL) (aP T.TQ) (bw _)) (A9 (bf oP (rZ T (pv 3)) bL (bw _)))).pt (aq (cF T.bt hr.hd)) aL) (ai (bq (i:=4) nd bL) (ai (lC Mz Z (kT (pv 3)) (gW (i:=5) nd) (aq (bq (i:=4) nd (iu HJ (iu kM (iu YK (pv 4) bL) (pv 5)) (aP T.TQ))))) (aq (aN (pv 4))))))))),?_⟩;walk;refine⟨_,Z,r,_,dx,_,_,Z,hH,T.cZ,T.cP,Z,?_⟩;refine⟨fun m σ H1=>σ=[some (.ref r),some (.int vc),some (.int (p:Int)),none,none,none]/\∃run cC,aH=run++cC/\(∀c∈run,aJ c=true)/\cC.length=m/\cQ r H H1/\H1 r=some (.ins a.cK dx (rf (.ref ta) (.int ((p+run.length:Nat):Int)))),⟨_,Z,[],aH,Z,(fun c h=>by cases h),Z,cQ.refl r H,hH⟩,?_⟩;rintro m σ H1 ⟨rfl,run,cC,erest,hrun,rfl,kp,EC⟩;walk;have hs1:H1 ta=some (.bz (iz tx)):=tH hH kp hs;have X6:tx.drop p=run++cC:=by rw[k7,erest]
  have jL:tx.length=p+(run.length+cC.length):=by have:=aA oC X6;rw[fV,aX]at this;omega
  have hd2:tx.drop (p+run.length)=cC:=by rw[<-List.drop_drop,X6,EK]
  have j9:jU K a H1 r cC:=⟨tx,p+run.length,⟨dx,ta,EC,hs1,by omega,hl⟩,hd2⟩;refine⟨_,Z,r,dx,_,Z,EC,Z,r,cC,Z,j9,_,Z,_,Z,?_⟩;have Es:(∀c,cC.head?=some c->aJ c=false)->_:=fun ZpW=>Il hrun ZpW;cases hrd:Gu (hd cC)with
  |true=>
   refine bQ ?_;cases cC with
   |nil=>exact absurd hrd (by decide)
   |cons c OO=>
    have Yp:aJ c=true:=by rw[<-Bl];exact hrd
    refine⟨fun σ' H'=>σ'=[some (.ref r),some (.int vc),some (.int (p:Int)),none,none,none]/\cQ r H H'/\H' r=some (.ins a.cK dx (rf (.ref ta) (.int ((p+(run++[c]).length:Nat):Int)))),fun σ' H' ⟨e1,e2,e3⟩=> ⟨OO.length,by simp,e1,run++[c],OO,by rw[erest];simp,fun d hd=>?_,Z,e2,e3⟩,?_⟩
    ·rcases cz.mp hd with z|z
     ·exact hrun d z
     ·rw[cn.mp z];exact Yp
    ·refine⟨_,Z,r,_,dx,_,_,Z,EC,T.cZ,T.cP,Z,_,_,Z,Z,?_⟩;refine⟨_,Z,r,_,dx,_,Z,EC,T.cZ,T.cP,(ND 2),Z,cQ.WE kp EC,?_⟩;rw[au];simp only[aX,bg,t9,k9,Nat.add_zero];rfl
  |false=>
   refine bx ?_;obtain⟨etw,edw⟩:=Il hrun (aH:=cC) (fun c hc=>by
    cases cC with
    |nil=>cases hc
    |cons d r'=>have e:d=c:=af hc;rw[<-e,<-Bl];exact hrd)
   rw[<-erest]at etw edw;rw[etw]at k1 k2;rw[edw]at k2;refine⟨_,Z,r,_,dx,_,_,Z,EC,T.cZ,T.jS,Z,_,Z,_,Z,_,Z,r,_,dx,_,_,Z,EC,T.cZ,T.cP,Z,_,Z,ta,_,Z,ft.of hs1,fun q hq=>?_⟩;rw[ZaA X6 hp];have kq:cQ r H (bp H1 q (.bz (iz run))):=kp.dW hq;have hl2:ft K (bp H1 q (.bz (iz run))) q (iz run):=ft.of au;have hr2:(bp H1 q (.bz (iz run))) r=some (.ins a.cK dx (rf (.ref ta) (.int ((p+run.length:Nat):Int)))):=by rw[aF (aR EC hq)];exact EC
   have jc:jU K a (bp H1 q (.bz (iz run))) r cC:=⟨tx,p+run.length,⟨dx,ta,hr2,tH hH kq hs,by omega,hl⟩,hd2⟩;refine⟨_,Z,q,_,Z,.inl hl2,Z,_,Z,?_⟩;rw[eA];by_cases h0:run=[]
   ·have e:decide (V.int (run.length:Int)=V.int 0)=true:=by rw[h0];rfl
    rw[e];exact bQ (bQ ((k1 (.inl h0)).of kq).ji)
   have e:decide (V.int (run.length:Int)=V.int 0)=false:=ay (by intro z;injection z with z;exact h0 (eR.mp (by omega)));rw[e];refine bx ⟨_,Z,q,_,Z,.inl hl2,_,Z,_,_,Z,Z,_,Z,?_⟩;rw[eA];by_cases h1:vc< (run.length:Int)
   ·rw[aD h1];exact bQ ((k1 (.inr (.inl h1))).of kq).ji
   rw[ay h1];refine bx ?_;obtain⟨c0,oJ,rfl⟩:∃c0 oJ,run=c0::oJ:=by
    cases run with
    |nil=>exact absurd Z h0
    |cons c r'=>exact⟨c,r',Z⟩
   refine⟨_,Z,q,_,_,bV c0,Z,Z,hl2,fh (xs:=iz (c0::oJ)) (j:=0) Z,Z,_,Z,?_⟩;have tS:¬((c0::oJ).head?=some 48/\1< (c0::oJ).length)->_:=fun hz=>k2 (by
    rintro (z|z|z)
    ·exact h0 z
    ·exact h1 z
    ·exact hz z)
   have ZR:∀hz:¬((c0::oJ).head?=some 48/\1< (c0::oJ).length),_:=fun hz=> (tS hz);have go:¬((c0::oJ).head?=some 48/\1< (c0::oJ).length)->(dF (Zbs (tC (.int 0)) (BX 4)) (dF (ZlP (Zik K (m7 3)) (BX 5) (Zbs (tOp (rI0 fun i j=> .int (i-j)) (tOp (rI0 fun i j=> .int (i+j)) (tOp (rI Zgz fun i j=> .int (i*j)) (m7 4) (tC (.int 10))) (m7 5)) (tC (.int 48))) (BX 4))) (Zbr (m7 4)))) {nx:=fun _ H'=>Q .ik H',rt:=Q} [some (.ref r),some (.int vc),some (.int (p:Int)),some (.ref q),none,none] (bp H1 q (.bz (iz (c0::oJ)))):=fun hz=>by
    refine⟨_,Z,q,Z,⟨_,hl2⟩,lE (K:=K) (a:=q) (xs:=iz (c0::oJ)) (fun i σ H'=> ∃v5,σ=[some (.ref r),some (.int vc),some (.int (p:Int)),some (.ref q),some (bV (cS ((c0::oJ).take i))),v5]/\H'=bp H1 q (.bz (iz (c0::oJ)))) ⟨none,Z,Z⟩ (fun i σ H' _ ⟨_,_,e⟩=>by rw[e];exact hl2) ?_ ?_⟩
    ·rintro i y σ H' hi ⟨v5,rfl,rfl⟩;walk;rw[T8]at hi;obtain⟨c,hc,rfl⟩:∃c,(c0::oJ)[i]? =some c/\y=bV c:=by
      cases e:(c0::oJ)[i]? with
      |none=>rw[e]at hi;cases hi
      |some c=>rw[e]at hi;exact⟨c,Z,(af hi).symm⟩
     have Yp:=hrun c (bj hc);refine⟨_,Z,_,_,Z,Z,.inr (by decide),_,Z,_,_,Z,Z,_,_,Z,Z,some (bV c),?_,Z⟩;rw[i7 hc,NF];have e48:48<=c:=by unfold aJ at Yp;simp at Yp;omega
     have e1:(cS ((c0::oJ).take i):Int)*10+(c:Int)-48=((10*cS ((c0::oJ).take i)+(c-48):Nat):Int):=by omega
     show [some (V.ref r),some (.int vc),some (.int (p:Int)),some (.ref q),some (.int ((cS ((c0::oJ).take i):Int)*10+(c:Int)-48)),some (bV c)]=_;rw[e1]
    ·rintro σ H' ⟨v5,rfl,rfl⟩;walk;rw[eA,gT];exact⟨_,Z,tS hz _ jc kq⟩
   by_cases U4:c0=48
   ·have e:decide (V.int (c0:Int)=V.int 48)=true:=by rw[U4];rfl
    rw[e];refine bQ ⟨_,Z,q,_,Z,.inl hl2,_,_,Z,Z,_,Z,?_⟩;rw[eA];by_cases h2:(1:Int)< ((c0::oJ).length:Int)
    ·rw[aD h2];exact bQ ((k1 (.inr (.inr ⟨by rw[U4];rfl,by omega⟩))).of kq).ji
    ·rw[ay h2];exact bx (go fun z=>h2 (by omega))
   ·have e:decide (V.int (c0:Int)=V.int 48)=false:=ay (by intro z;injection z with z;exact U4 (by omega));rw[e];refine bx (bx (go fun z=>U4 (af z.1)))
inductive ZjQ(K:ae)(a:cV)(vs:LV)(H:Hp)(Q:VK)(E:XK):Prop
 |mk (r:ao) (aH:LN) (_:vs=[.ref r]) (_:jU K a H r aH) (_:((bF (aH.takeWhile ax)=false->eU a E r H)/\(bF (aH.takeWhile ax)=true->∀H' q,H q=none->H' q=some (.f6 (iz (aH.takeWhile ax)))->jU K a H' r (aH.dropWhile ax)->cQ r H H'->Q (.ref q) H')))
theorem l8(T:il K mg a):Met P w K mg base 3 a.cK "read_name" sN (ZjQ K a):=by
 refine⟨a.nh,a.sZ,T.tm.okX rq (fun vs H Q E h=>?_) (fun la A bC s H vs Q E hr h=>?_),T.cZ,T.Ee,T.tm.b1⟩
 ·obtain⟨r,aH,rfl,_⟩:=h;rfl
 ·obtain⟨r,aH,rfl,⟨tx,p,⟨dx,ta,hH,hs,hp,hl⟩,k7⟩,k1,k2⟩:=h;have nd:=rq.nd;refine⟨_,ai (bq (i:=1) nd (aI (pv 0) Z)) (ai (qc Mz (eX (ba (Lm T) hr bh (ag (du (pv 0) (vL T) hr bh) az))) (aq (dr (pv 0) (iu kM (aI (pv 0) Z) bL) Z))) (ai (bq (i:=2) nd (HP Pd (by rfl) T.Zhg (by decide +kernel) (ag (vp Bc (aI (pv 0) Z) (pO (pv 1)) (pO (aI (pv 0) Z))) az))) (ai (bK (yA (bf gP (rZ T (pv 2)) bL (bw _)) (uJ (bf oP (rZ T (pv 2)) (aP T.FT) (bw _)))).pt (aq (cF T.bt hr.hd)) aL) (ai (bK (wt (eX (ba (Gv T) hr bh (ag (iJ Mr (pv 2) bL) az)))) (aq (cF T.bt hr.hd)) aL) (aq (aN (pv 2))))))),?_⟩;walk;refine⟨_,Z,r,_,dx,_,_,Z,hH,T.cZ,T.cP,Z,?_⟩;refine⟨fun m σ H1=>σ=[some (.ref r),some (.int (p:Int)),none]/\∃run cC,aH=run++cC/\(∀c∈run,ax c=true)/\cC.length=m/\cQ r H H1/\H1 r=some (.ins a.cK dx (rf (.ref ta) (.int ((p+run.length:Nat):Int)))),⟨_,Z,[],aH,Z,(fun c h=>by cases h),Z,cQ.refl r H,hH⟩,?_⟩;rintro m σ H1 ⟨rfl,run,cC,erest,hrun,rfl,kp,EC⟩;walk;have hs1:H1 ta=some (.bz (iz tx)):=tH hH kp hs;have X6:tx.drop p=run++cC:=by rw[k7,erest]
  have jL:tx.length=p+(run.length+cC.length):=by have:=aA oC X6;rw[fV,aX]at this;omega
  have hd2:tx.drop (p+run.length)=cC:=by rw[<-List.drop_drop,X6,EK]
  have j9:jU K a H1 r cC:=⟨tx,p+run.length,⟨dx,ta,EC,hs1,by omega,hl⟩,hd2⟩;refine⟨_,Z,r,dx,_,Z,EC,Z,r,cC,Z,j9,_,Z,_,Z,?_⟩;cases hrd:Dt (hd cC)with
  |true=>
   refine bQ ?_;cases cC with
   |nil=>exact absurd hrd (by decide)
   |cons c OO=>
    have Yp:ax c=true:=by rw[<-Rx];exact hrd
    refine⟨fun σ' H'=>σ'=[some (.ref r),some (.int (p:Int)),none]/\cQ r H H'/\H' r=some (.ins a.cK dx (rf (.ref ta) (.int ((p+(run++[c]).length:Nat):Int)))),fun σ' H' ⟨e1,e2,e3⟩=> ⟨OO.length,by simp,e1,run++[c],OO,by rw[erest];simp,fun d hd=>?_,Z,e2,e3⟩,?_⟩
    ·rcases cz.mp hd with z|z
     ·exact hrun d z
     ·rw[cn.mp z];exact Yp
    ·refine⟨_,Z,r,_,dx,_,_,Z,EC,T.cZ,T.cP,Z,_,_,Z,Z,?_⟩;refine⟨_,Z,r,_,dx,_,Z,EC,T.cZ,T.cP,(ND 2),Z,cQ.WE kp EC,?_⟩;rw[au];simp only[aX,bg,t9,k9,Nat.add_zero];rfl
  |false=>
   refine bx ?_;obtain⟨etw,edw⟩:=Il hrun (aH:=cC) (fun c hc=>by
    cases cC with
    |nil=>cases hc
    |cons d r'=>have e:d=c:=af hc;rw[<-e,<-Rx];exact hrd)
   rw[<-erest]at etw edw;rw[etw]at k1 k2;rw[edw]at k2;refine⟨_,Z,r,_,dx,_,_,Z,EC,T.cZ,T.jS,Z,_,Z,_,Z,_,Z,r,_,dx,_,_,Z,EC,T.cZ,T.cP,Z,_,Z,ta,_,Z,ft.of hs1,fun q0 hq0=>?_⟩;rw[ZaA X6 hp];refine⟨q0,_,Z,.inl ⟨ft.of au,fun q hq=>?_⟩⟩;have kq0:cQ r H (bp H1 q0 (.bz (iz run))):=kp.dW hq0;have kq:cQ r H (bp (bp H1 q0 (.bz (iz run))) q (.f6 (iz run))):=kq0.dW hq;have Hq:H q=none:=by
    cases e:H q with
    |none=>rfl
    |some o=>
     by_cases z:q=r
     ·rw[z,aF (aR EC hq0),EC]at hq;cases hq
     ·rw[kq0.all q o e z]at hq;cases hq
   have hr0:(bp H1 q0 (.bz (iz run))) r=some (.ins a.cK dx (rf (.ref ta) (.int ((p+run.length:Nat):Int)))):=by rw[aF (aR EC hq0)];exact EC
   have hr2:(bp (bp H1 q0 (.bz (iz run))) q (.f6 (iz run))) r=some (.ins a.cK dx (rf (.ref ta) (.int ((p+run.length:Nat):Int)))):=by rw[aF (aR hr0 hq)];exact hr0
   have ht2:(bp (bp H1 q0 (.bz (iz run))) q (.f6 (iz run))) q=some (.f6 (iz run)):=au;generalize bp (bp H1 q0 (.bz (iz run))) q (.f6 (iz run))=H2 at kq hr2 ht2;have jc:jU K a H2 r cC:=⟨tx,p+run.length,⟨dx,ta,hr2,tH hH kq hs,by omega,hl⟩,hd2⟩;refine⟨_,Z,q,_,Z,.inr (qU.of ht2),Z,_,Z,?_⟩;rw[eA];cases run with
   |nil=>exact bQ (bQ ((k1 Z).of kq).ji)
   |cons c0 oJ=>
    have e:decide (V.int ((c0::oJ).length:Int)=V.int 0)=false:=ay (by intro z;injection z with z;simp at z;omega);rw[e];refine bx ⟨_,Z,q,_,Z,.inr (qU.of ht2),_,_,Z,Z,_,Z,?_⟩;rw[eA];have tX:(c0::oJ).all ax=true:=fU.mpr hrun;have gn:bF (c0::oJ)=(iA c0&&decide ((c0::oJ).length<=12)):=by show(iA c0&&(c0::oJ).all ax&&decide ((c0::oJ).length<=12))=_;rw[tX,Bool.and_true]
    by_cases h1:(12:Int)< ((c0::oJ).length:Int)
    ·rw[aD h1];exact bQ ((k1 (by rw[gn,ay (by omega),Bool.and_false])).of kq).ji
    rw[ay h1];refine bx ⟨_,Z,q,_,_,bV c0,Z,Z,qU.of ht2,fh (xs:=iz (c0::oJ)) (j:=0) Z,_,Z,_,Z,?_⟩;rw[Rw];cases ZS:iA c0 with
    |false=>exact bQ ((k1 (by rw[gn,ZS];rfl)).of kq).ji
    |true=>exact bx ⟨_,Z,k2 (by rw[gn,ZS,aD (by omega)];rfl) H2 q Hq ht2 jc kq⟩
end
inductive o8(C:ao)(ns:LS)(vs:LV)(H:Hp)(Q:VK)(_:XK):Prop
 |mk (x dx:ao) (ws:LV) (_:vs= .ref x::ws) (_:ws.length=ns.length) (_:H x=some (.ins C dx [])) (_:Q .ik (bp H x (.ins C dx (ns.zip ws))))
inductive WG(K:ae)(C:ao):LS->Prop
 |nil:WG K C []
 |cons {f:Str} {r:LS}:dq K C f->WG K C r->WG K C (f::r)
def tI(K:ae):LS->Nat->TS
 |[],_=>ZdF
 |f::r,k=>dF (ZlV K (m7 0) (m7 k) f) (tI K r (k+1))
theorem WH{f:Str}{v:V}:∀{fs:List (Str×V)},f∉fs.map (·.1)->yb f v fs=fs++[(f,v)]
 |[],_=>rfl
 |(g,x)::r,h=>by unfold yb;rw[ah fun z=>h (by rw[z];exact .head _),WH fun z=>h (.tail _ z)];rfl
theorem Ziz{K:ae}{C x dx:ao}{D:DR}{σ:L2.St}{H:Hp}(c:HN K C)(h0:σ[0]? =some (some (.ref x))):∀(ns:LS)(ws:LV)(k:Nat)(fs:List (Str×V)),ws.length=ns.length->(∀i v,ws[i]? =some v->σ[k+i]? =some (some v))->WG K C ns->fs.length+ns.length<1000->(fs.map (·.1)++ns).Nodup->D.nx σ (bp H x (.ins C dx (fs++ns.zip ws)))->tI K ns k D σ (bp H x (.ins C dx fs))
 |[],_,_,fs,_,_,_,_,_,q=>by rw[List.zip_nil_left,cJ]at q;exact q
 |f::r,[],_,_,e,_,_,_,_,_=>by cases e
 |f::r,v::ws,k,fs,e,hv,.cons n m,hl,hn,q=>by have z:f∉fs.map (·.1):=fun z=> (pM.1 hn).2.2 _ z _ (.head _) Z;have ih:=Ziz c h0 r ws (k+1) (fs++[(f,v)]) (Nat.succ.inj e) (fun i u h=>by rw[x9,Bz 1];exact hv (i+1) u h) m (by rw[aX,x9,Bz [(f,v)].length];exact hl) (by rw[cg,dJ];exact hn) (by rw[dJ];exact q);refine⟨_,hv 0 v Z,_,h0,x,C,dx,fs,Z,au,c,n,vi (O9 _ _) hl,?_⟩;rw[fC,WH z];exact ih
theorem Zhj{H:Hp}{p:ao}{o:HO}(h:H p=some o):bp H p o=H:=by
 funext b;unfold bp;split
 ·next z=>rw[z,h]
 ·rfl
theorem mkI{P:aV}{w:bG}{K:ae}{mg:SV}{base:bb}{x y qual:Str}{st:cy}{f C:ao}{fd:eL}{N ps ns:LS}(F:g8 K y qual st f fd)(M:Mk K C f)(g:mg x=some (.ref C))(b:lF K fd ps [])(S:aO N ps (aE st))(c:HN K C)(na:WG K C ns) (B:∀(la:aj)(A:cD)(bC:List Env)(s:aB)(H:Hp)(E:XK),KZ (uf (Be P w) P w K mg base N qual (aE st) f la A bC s H E).nox (ic st) (tI K ns 1))(hn:ns.Nodup:=by decide)(hl:ns.length<1000:=by decide)(hp:ps.length=ns.length+1:=by rfl):WD P w K mg base 1 C x ps (o8 C ns):=by
 refine⟨f,fd,F.ok0 S (fun vs H Q E h=>?_) (fun la A bC s H vs Q E hr h=>?_),M,g,b⟩
 ·obtain⟨x,dx,ws,rfl,hl,_⟩:=h;rw[hp,bg,hl]
 ·obtain⟨x,dx,ws,rfl,hl,hx,k⟩:=h;refine⟨_,B _ _ _ _ _ _,?_⟩;have t:=Ziz (D:={nx:=fun _ H'=>Q .ik H',rt:=Q}) (σ:=start N (.ref x::ws)) (H:=H) (dx:=dx) c Z ns ws 1 [] hl (fun i v h=>by unfold L2.start;rw[v9 (by rw[aZ,bg,Bz];exact Nat.succ_lt_succ (aW.1 h).1),hZ,Bz,YE,h];rfl) na (by rw[t9,k9];assumption) hn k;rw[Zhj hx]at t;exact t
section
noncomputable abbrev pY:LS:=["place","number","numbers","text"]
theorem Ub(T:il K mg a):WD P w K mg base 1 a.kN "Call" yX (o8 a.kN pY):=mkI T.J1 T.Zg5 T.ZjG T.J1.b5 SY T.cY (.cons T.mI (.cons T.cj (.cons T.dB (.cons T.nZ .nil)))) fun _ _ _ _ _ _=>ai (dr (pv 0) (pv 1) Z) (ai (dr (pv 0) (pv 2) Z) (ai (dr (pv 0) (pv 3) Z) (ai (dr (pv 0) (pv 4) Z) aL)))
noncomputable abbrev LQ:LS:=["sign","low","high"]
theorem wW(T:il K mg a):WD P w K mg base 1 a.jR "Leaf" y9 (o8 a.jR LQ):=mkI T.J8 T.Zg9 T.Ef T.J8.b4 S1 T.wO (.cons T.FV (.cons T.J9 (.cons T.wQ .nil))) fun _ _ _ _ _ _=>ai (dr (pv 0) (pv 1) Z) (ai (dr (pv 0) (pv 2) Z) (ai (dr (pv 0) (pv 3) Z) aL))
noncomputable abbrev NG:LS:=["is_choice","fields"]
theorem Qp(T:il K mg a):WD P w K mg base 1 a.lZ "Group" wA (o8 a.lZ NG):=mkI T.FZ T.Zeo T.Zha T.FZ.b3 Pl T.mJ (.cons T.kj (.cons T.jr .nil)) fun _ _ _ _ _ _=>ai (dr (pv 0) (pv 1) Z) (ai (dr (pv 0) (pv 2) Z) aL)
noncomputable abbrev Az:LS:=["number","name","mode","kind"]
theorem Qq(T:il K mg a):WD P w K mg base 1 a.kU "Field" wB (o8 a.kU Az):=mkI T.F5 T.Zep T.Zhb T.F5.b5 Pn T.gF (.cons T.qZ (.cons T.jC (.cons T.mK (.cons T.iX .nil)))) fun _ _ _ _ _ _=>ai (dr (pv 0) (pv 1) Z) (ai (dr (pv 0) (pv 2) Z) (ai (dr (pv 0) (pv 3) Z) (ai (dr (pv 0) (pv 4) Z) aL)))
noncomputable abbrev sA:LS:=["path","leaf"]
theorem NH(T:il K mg a):WD P w K mg base 1 a.kz "Column" uO (o8 a.kz sA):=mkI T.C3 T.ZbZ T.Zem T.C3.b3 MH T.Bi (.cons T.Ae (.cons T.tq .nil)) fun _ _ _ _ _ _=>ai (dr (pv 0) (pv 1) Z) (ai (dr (pv 0) (pv 2) Z) aL)
noncomputable abbrev sC:LS:=["record","columns"]
theorem NI(T:il K mg a):WD P w K mg base 1 a.kC "Schema" uP (o8 a.kC sC):=mkI T.C4 T.Zb0 T.Zen T.C4.b3 MI T.Bj (.cons T.vI (.cons T.n9 .nil)) fun _ _ _ _ _ _=>ai (dr (pv 0) (pv 1) Z) (ai (dr (pv 0) (pv 2) Z) aL)
noncomputable abbrev Bn:LS:=["path","test","literal"]
theorem Uc(T:il K mg a):WD P w K mg base 1 a.kh "Atom" zj (o8 a.kh Bn):=mkI T.Kf T.Zhc T.Zc T.Kf.b4 S4 T.Bk (.cons T.F8 (.cons T.F9 (.cons T.xR .nil))) fun _ _ _ _ _ _=>ai (dr (pv 0) (pv 1) Z) (ai (dr (pv 0) (pv 2) Z) (ai (dr (pv 0) (pv 3) Z) aL))
noncomputable abbrev lK:LS:=["sign","parts"]
theorem o9(T:il K mg a):WD P w K mg base 1 a.fQ "Compound" qX (o8 a.fQ lK):=mkI T.xS T.Wx T.Zd T.xS.b3 HV T.ju (.cons T.jT (.cons T.kW .nil)) fun _ _ _ _ _ _=>ai (dr (pv 0) (pv 1) Z) (ai (dr (pv 0) (pv 2) Z) aL)
noncomputable abbrev uB:LS:=["place","call","number","row","condition"]
theorem r8(T:il K mg a):WD P w K mg base 1 a.lJ "Deed" zm (o8 a.lJ uB):=mkI T.Ki T.Zhd T.ZjJ T.Ki.b6 S8 T.dR (.cons T.mL (.cons T.dN (.cons T.eY (.cons T.Ah (.cons T.uy .nil))))) fun _ _ _ _ _ _=>ai (dr (pv 0) (pv 1) Z) (ai (dr (pv 0) (pv 2) Z) (ai (dr (pv 0) (pv 3) Z) (ai (dr (pv 0) (pv 4) Z) (ai (dr (pv 0) (pv 5) Z) aL))))
noncomputable abbrev Ud:LS:=["deed","reply","rows"]
theorem Ue(T:il K mg a):WD P w K mg base 1 a.u9 "Step" zr (o8 a.u9 Ud):=mkI T.Kk T.Zhe T.ZjK T.Kk.b4 Tb T.mW (.cons T.oa (.cons T.jD (.cons T.Gh .nil))) fun _ _ _ _ _ _=>ai (dr (pv 0) (pv 1) Z) (ai (dr (pv 0) (pv 2) Z) (ai (dr (pv 0) (pv 3) Z) aL))
end
theorem kX{H:Hp}{x dx C:ao}{fs:List (Str×V)}(nx:H x=none)(nd:H dx=none):aS H (bp (bp H dx (.own x)) x (.ins C dx fs)):=fun b o e=>by rw[aF (aR e nx),aF (aR e nd)];exact e
noncomputable def pd:cN->Int
 | .bit=>0
 | .int n=> -(2^(n-1))
 | .text _=>0
noncomputable def pj:cN->Int
 | .bit=>1
 | .int n=>2^(n-1)-1
 | .text n=>n
noncomputable def Gw:cN->Nat
 | .bit=>98
 | .int _=>105
 | .text _=>116
noncomputable def EO:cN->Bool
 | .text _=>true
 |_=>false
def kO(a:cV)(H:Hp)(x:ao)(l:cN):Prop:=∃dx,H x=some (.ins a.jR dx (LQ.zip [bV (Gw l),.int (pd l),.int (pj l)]))
def uC(H:Hp)(v:V):gK->Prop
 | .num z=>v= .int z
 | .str s=> ∃p,v= .ref p/\H p=some (.bz (iz s))
theorem jU.rd{K:ae}{a:cV}{H:Hp}{r:ao}{aH:LN}(h:jU K a H r aH):∃dx fs,H r=some (.ins a.cK dx fs):=by obtain⟨tx,p,⟨dx,ta,e,_⟩,_⟩:=h;exact⟨dx,_,e⟩
theorem jU.dW{K:ae}{a:cV}{H:Hp}{r q:ao}{o:HO}{aH:LN}(h:jU K a H r aH)(n:H q=none):jU K a (bp H q o) r aH:=by
 obtain⟨tx,p,⟨dx,ta,e,hs,hp,hl⟩,hr⟩:=h;have e':(bp H q o) r=some (.ins a.cK dx (rf (.ref ta) (.int (p:Int)))):=by rw[aF (aR e n)];exact e
 exact⟨tx,p,⟨dx,ta,e',tH e (cQ.dW (cQ.refl r H) n) hs,hp,hl⟩,hr⟩
theorem jU.same{K:ae}{a:cV}{H H':Hp}{r:ao}{aH:LN}(h:jU K a H r aH)(s:aS H H'):jU K a H' r aH:=by obtain⟨tx,p,⟨dx,ta,e,hs,hp,hl⟩,hr⟩:=h;exact⟨tx,p,⟨dx,ta,s _ _ e,s _ _ hs,hp,hl⟩,hr⟩
theorem jU.put{K:ae}{a:cV}{H H1:Hp}{r q:ao}{o:HO}{aH cC:LN}(h:jU K a H r aH)(k:cQ r H H1)(h1:jU K a H1 r cC)(n:H q=none):jU K a (bp H1 q o) r cC:=by
 obtain⟨tx,p,⟨dx,ta,e,hs,hp,hl⟩,hr⟩:=h;obtain⟨tx1,p1,⟨dx1,ta1,e1,hs1,hp1,hl1⟩,hr1⟩:=h1;have t0:Zg H r=some (.ref ta):=by unfold Zg;rw[e];rfl
 have t1:Zg H1 r=some (.ref ta1):=by unfold Zg;rw[e1];rfl
 rw[k.tx _ t0]at t1;have et:ta=ta1:=by injection t1 with z;injection z
 subst et;refine⟨tx1,p1,⟨dx1,ta,?_,?_,hp1,hl1⟩,hr1⟩
 ·rw[aF (aR e n)];exact e1
 ·rw[aF (aR hs n)];exact hs1
def cu(H H':Hp):Hp:=fun b=>match H b with
 |none=>H' b
 |some _=>none
theorem cu.at{H H':Hp}{b:ao}(h:H b=none):cu H H' b=H' b:=by unfold cu;rw[h]
theorem cu.sub(H H':Hp):aS (cu H H') H':=fun b o e=>by
 unfold cu at e;cases q:H b with
 |none=>rw[q]at e;exact e
 |some u=>rw[q]at e;cases e
theorem cu.right{H H1 H2:Hp}(h:∀b o,H b=none->H1 b=some o->H2 b=some o):aS (cu H H1) (cu H H2):=fun b o e=>by
 unfold cu at e⊢;cases q:H b with
 |none=>rw[q]at e;exact h b o q e
 |some u=>rw[q]at e;cases e
theorem cu.left{H1 H2 H':Hp}(h:∀b,H2 b=none->H1 b=none):aS (cu H2 H') (cu H1 H'):=fun b o e=>by
 unfold cu at e;cases q:H2 b with
 |none=>rw[q]at e;rw[cu.at (h b q)];exact e
 |some u=>rw[q]at e;cases e
theorem cQ.new{r b:ao}{H H1:Hp}(k:cQ r H H1)(n:H1 r≠none)(h:H1 b=none):H b=none:=by
 cases e:H b with
 |none=>rfl
 |some o=>
  by_cases z:b=r
  ·rw[z]at h;exact absurd h n
  ·rw[k.all b o e z]at h;cases h
theorem jU.there{K:ae}{a:cV}{H:Hp}{r:ao}{aH:LN}(h:jU K a H r aH):H r≠none:=by obtain⟨dx,fs,e⟩:=h.rd;rw[e];exact fun z=>by cases z
def wb{α:Type}(K:ae)(a:cV)(E:XK)(r:ao)(H:Hp)(Q:VK)(rep:α->V->Hp->Prop):Option (α×LN)->Prop
 |none=>eU a E r H
 |some (x,s)=> ∀v H',jU K a H' r s->cQ r H H'->rep x v (cu H H')->Q v H'
section
inductive Zey(a:cV)(vs:LV)(H:Hp)(Q:VK)(_:XK):Prop
 |mk (x:_) (l:_) (_:vs=[.ref x]) (_:kO a H x l) (_:Q (.bl (EO l)) H)
theorem NJ(T:il K mg a):Met P w K mg base 1 a.jR "is_text" sO (Zey a):=by
 refine⟨a.sV,a.zU,T.Ab.ok0 K8 (fun vs H Q E h=>?_) (fun la A bC s H vs Q E hr h=>?_),T.wO,T.Nq,T.Ab.b1⟩
 ·obtain⟨r,aH,rfl,_⟩:=h;rfl
 ·obtain⟨x,l,rfl,⟨dx,hx⟩,k⟩:=h;refine⟨_,aq (aN (mS gP (aI (pv 0) Z) (aP T.Ro) (bw _))),?_⟩;refine⟨_,Z,x,_,dx,_,_,Z,hx,T.wO,T.FV,Z,Z,?_⟩;have e:decide (bV (Gw l)=V.int 116)=EO l:=by cases l<;>rfl
  show Q (.bl (decide (bV (Gw l)=V.int 116))) H;rw[e];exact k
inductive Zmw(vs:LV)(H:Hp)(Q:VK)(_:XK):Prop
 |mk (n:Nat) (_:vs=[bV n]) (_:n<=100) (_:Q (.int (2^n)) H)
theorem Ln(T:il K mg a):iW P w K mg base 1 "power_of_two" zb Zmw:=by
 refine cI T.Ac T.Nn T.Ac.b1 xF ?_
 ·lk;obtain⟨n,rfl,hn,k⟩:=h;have nd:=xF.nd;refine⟨_,ai (bq (i:=1) nd bL) (ai (lC iw.never Z (QV Z T.Zay (ag (pv 0) az)) (gW (i:=2) nd) (aq (bq (i:=1) nd (iu YK (pv 1) bL)))) (aq (aN (pv 1)))),?_⟩;walk;refine⟨_,Z,(n:Int),Z,by omega,by omega,QW (n:=(n:Int).toNat) (fun i σ H'=> ∃v,σ=[some (bV n),some (.int (2^i)),v]/\H'=H) ⟨none,Z,Z⟩ ?_ ?_⟩
  ·rintro i σ H' hi ⟨v,rfl,rfl⟩;walk;refine⟨_,Z,_,_,Z,Z,.inr (by decide),some (.int (0+(i:Int))),?_,Z⟩;show [some (bV n),some (V.int (2^i*2)),_]=[some (bV n),some (V.int (2^(i+1))),_];rw[<-Int.pow_succ]
  ·rintro σ H' ⟨v,rfl,rfl⟩;walk;refine⟨_,Z,?_⟩;rw[mi];exact k
def lL(lo hi:Nat)(t:LN):Option (Nat×LN):=match eF t with
 |none=>none
 |some (n,s)=>if lo<=n/\n<=hi then some (n,s)else none
inductive ZjR(K:ae)(a:cV)(vs:LV)(H:Hp)(Q:VK)(E:XK):Prop
 |mk (r:ao) (aH:LN) (lo hi:Nat) (_:vs=[.ref r,bV lo,bV hi]) (_:1<=lo) (_:jU K a H r aH) (_:wb K a E r H Q (fun n v _=>v=bV n) (lL lo hi aH))
theorem Zh{run:LN}(h:run.head?=some 48)(h1:¬1<run.length):cS run=0:=by
 match run,h,h1 with
 |[c],h,_=>have e:c=48:=af h;rw[e];rfl
 |c::d::r,_,h1=>exact absurd (by simp) h1
theorem Gx(T:il K mg a):iW P w K mg base 3 "read_size" JG (ZjR K a):=by
 refine fI T.Kb T.Wq T.Kb.b3 Fq ?_
 ·lk;obtain⟨r,aH,lo,hi,rfl,hlo,hc,k⟩:=h;have nd:=Fq.nd;refine⟨_,ai (bq (i:=3) nd (fD (pv 0) (tK T) hr dj (ag bL az))) (ai (bK (yA (bf Jl (pv 3) (pv 1) (bw _)) (uJ (bf oP (pv 3) (pv 2) (bw _)))).pt (aq (cF T.bt hr.hd)) aL) (aq (aN (pv 3)))),?_⟩;walk;obtain⟨dx,fs,hH⟩:=hc.rd;obtain⟨tx,p,⟨dx,ta,hH,hs,hp,hl⟩,k7⟩:=id hc;refine⟨_,Z,r,dx,_,Z,hH,Z,r,aH,3,Z,hc,fun rj=>?_,fun vX H' hc' kp=>?_⟩
  ·have e:lL lo hi aH=none:=by
    unfold lL eF;fin2;by_cases hz:aH.takeWhile aJ=[]\/(aH.takeWhile aJ).head?=some 48\/3< (aH.takeWhile aJ).length
    ·rw[ak hz]
    ·exfalso;rcases rj with z|z|z
     ·exact hz (.inl z)
     ·exact hz (.inr (.inr (by omega)))
     ·exact hz (.inr (.inl z.1))
   rw[e]at k;exact k
  ·have iY:¬aH.takeWhile aJ=[]:=fun z=>vX (.inl z);have h3:¬3< (aH.takeWhile aJ).length:=fun z=>vX (.inr (.inl (by omega)));have U4:¬((aH.takeWhile aJ).head?=some 48/\1< (aH.takeWhile aJ).length):=fun z=>vX (.inr (.inr z));have bad:(cS (aH.takeWhile aJ)<lo\/hi<cS (aH.takeWhile aJ))->lL lo hi aH=none:=fun hb=>by
    unfold lL eF;fin2;by_cases hz:aH.takeWhile aJ=[]\/(aH.takeWhile aJ).head?=some 48\/3< (aH.takeWhile aJ).length
    ·rw[ak hz]
    ·rw[ah hz];fin2;rw[ah (by omega)]
   refine⟨_,Z,_,Z,_,_,Z,Z,_,Z,?_⟩;by_cases h1:cS (aH.takeWhile aJ)<lo
   ·rw[aD (by omega:(cS (aH.takeWhile aJ):Int)< (lo:Int))];have k':=k;rw[bad (.inl h1)]at k';exact bQ (bQ (eU.of k' kp).ji)
   rw[ay (by omega:¬(cS (aH.takeWhile aJ):Int)< (lo:Int))];refine bx ⟨_,Z,_,Z,_,_,Z,Z,_,Z,?_⟩;by_cases h2:hi<cS (aH.takeWhile aJ)
   ·rw[aD (by omega:(hi:Int)< (cS (aH.takeWhile aJ):Int))];have k':=k;rw[bad (.inr h2)]at k';exact bQ (eU.of k' kp).ji
   rw[ay (by omega:¬(hi:Int)< (cS (aH.takeWhile aJ):Int))];refine bx ⟨_,Z,?_⟩;have e:lL lo hi aH=some (cS (aH.takeWhile aJ),aH.dropWhile aJ):=by
    unfold lL eF;fin2;rw[ah (by
     rintro (z|z|z)
     ·exact iY z
     ·have:=Zh z (fun y=>U4 ⟨z,y⟩);omega
     ·exact h3 z)]
    fin2;rw[ak (by omega)]
   rw[e]at k;exact k _ H' hc' kp Z
def kD(t:LN):Option (cN×LN):=match t with
 |98::r=>some (.bit,r)
 |105::r=> (lL 2 64 r).map fun x=> (.int x.1,x.2)
 |116::r=> (lL 1 999 r).map fun x=> (.text x.1,x.2)
 |_=>none
def Zhk(a:cV)(l:cN)(v:V)(H:Hp):Prop:=∃x,v= .ref x/\kO a H x l
inductive ZjS(K:ae)(a:cV)(vs:LV)(H:Hp)(Q:VK)(E:XK):Prop
 |mk (r:ao) (aH:LN) (_:vs=[.ref r]) (_:jU K a H r aH) (_:wb K a E r H Q (Zhk a) (kD aH))
theorem WI{lo hi n:Nat}{t s:LN}(h:lL lo hi t=some (n,s)):lo<=n/\n<=hi:=by
 unfold lL at h;cases e:eF t with
 |none=>rw[e]at h;cases h
 |some x=>
  obtain⟨m,u⟩:=x;rw[e]at h;dsimp only at h;by_cases hz:lo<=m/\m<=hi
  ·rw[ak hz]at h;have e2:=af h;have e3:m=n:=aA bU e2;rw[<-e3];exact hz
  ·rw[ah hz]at h;cases h
theorem Ug(T:il K mg a):iW P w K mg base 4 "read_leaf" JF (ZjS K a):=by
 refine fI T.Ka T.Wo T.Ka.b1 Fp ?_
 ·lk;obtain⟨r,aH,rfl,hc,k⟩:=h;have nd:=Fp.nd;refine⟨_,ai (bq (i:=1) nd (du (pv 0) (Bm T) hr dj)) (ai (bK (bf gP (pv 1) (aP T.ZbT) (bw _)) (aq (aN (ie (wW T) hr bh (ag (pv 1) (ag bL (ag bL az)))))) aL) (ai (bK (bf gP (pv 1) (aP T.ZbV) (bw _)) (ai (bq (i:=2) nd (ba (Ln T) hr bh (ag (iu HJ (ba (Gx T) hr dj (ag (pv 0) (ag bL (ag bL az)))) bL) az))) (aq (aN (ie (wW T) hr bh (ag (pv 1) (ag (QX HK (pv 2)) (ag (iu HJ (pv 2) bL) az))))))) aL) (ai (bK (bf gP (pv 1) (aP T.Ro) (bw _)) (aq (aN (ie (wW T) hr bh (ag (pv 1) (ag bL (ag (ba (Gx T) hr dj (ag (pv 0) (ag bL (ag bL az)))) az)))))) aL) (aq (cF T.bt hr.hd))))),?_⟩;walk;obtain⟨tx,p,⟨dx,ta,hH,hs,hp,hl⟩,k7⟩:=id hc;refine⟨_,Z,r,dx,_,Z,hH,Z,r,aH,Z,hc,?_⟩;cases aH with
  |nil=>exact k
  |cons c cC=>
   intro H1 j9 jO;have yC:∀(H2:Hp)(l:cN)(s:LN)(v0 v1 v2:V),jU K a H2 r s->cQ r H H2->v0=bV (Gw l)->v1= .int (pd l)->v2= .int (pj l)->kD (c::cC)=some (l,s)->∀x dx,H2 x=none->H2 dx=none->dx≠x->o8 a.jR LQ (.ref x::([v0,v1,v2]++[])) (bp (bp H2 dx (.own x)) x (.ins a.jR dx [])) (fun v H3=>v= .ik/\Q (.ref x) H3) E0:=fun H2 l s v0 v1 v2 jc k8 e0 e1 e2 ep x xZ nx Yq ne=>by refine⟨x,xZ,_,Z,Z,au,Z,?_⟩;rw[fC];have sm:aS H2 (bp (bp H2 xZ (.own x)) x (.ins a.jR xZ (LQ.zip ([v0,v1,v2]++[])))):=kX nx Yq;rw[ep]at k;refine k _ _ (jc.same sm) (k8.trans (aS.keep sm)) ⟨x,Z,xZ,?_⟩;rw[cu.at (k8.new jc.there nx),au,e0,e1,e2];rfl
   refine⟨_,Z,Z,_,Z,?_⟩;by_cases h1:c=98
   ·subst h1;exact bQ (⟨_,Z,yC H1 .bit cC _ _ _ j9 jO Z Z Z Z⟩)
   rw[ay (by intro z;injection z with z;exact h1 (by omega))];refine bx ⟨_,Z,Z,_,Z,?_⟩;by_cases h2:c=105
   ·subst h2;refine bQ ⟨_,Z,r,cC,2,64,Z,by decide,j9,?_⟩;have ep:kD (105::cC)=(lL 2 64 cC).map fun x=> (.int x.1,x.2):=rfl;cases es:lL 2 64 cC with
    |none=>rw[es]at ep;rw[ep]at k;exact eU.of k jO
    |some x=>
     obtain⟨n,s⟩:=x;obtain⟨b1,b2⟩:=WI es;rw[es]at ep;intro v H2 jc k8 ev;subst ev;have en:(n:Int)-1=((n-1:Nat):Int):=by omega
     refine⟨_,_,Z,Z,n-1,?_,by omega,?_⟩
     ·show [V.int ((n:Int)-1)]=[bV (n-1)];rw[en]
     refine⟨_,Z,_,Z,_,Z,_,Z,_,_,Z,Z,?_⟩;exact yC H2 (.int n) s _ _ _ jc (jO.trans k8) Z Z Z ep
   rw[ay (by intro z;injection z with z;exact h2 (by omega))];refine bx ⟨_,Z,Z,_,Z,?_⟩;by_cases h3:c=116
   ·subst h3;refine bQ ⟨_,Z,_,Z,r,cC,1,999,Z,by decide,j9,?_⟩;have ep:kD (116::cC)=(lL 1 999 cC).map fun x=> (.text x.1,x.2):=rfl;cases es:lL 1 999 cC with
    |none=>rw[es]at ep;rw[ep]at k;exact eU.of k jO
    |some x=>obtain⟨n,s⟩:=x;rw[es]at ep;intro v H2 jc k8 ev;subst ev;exact yC H2 (.text n) s _ _ _ jc (jO.trans k8) Z Z Z ep
   rw[ay (by intro z;injection z with z;exact h3 (by omega))];refine bx ?_;have ep:kD (c::cC)=none:=by
    unfold kD;split
    ·rename_i e;exact absurd (BR e).1 h1
    ·rename_i e;exact absurd (BR e).1 h2
    ·rename_i e;exact absurd (BR e).1 h3
    ·rfl
   rw[ep]at k;exact(eU.of k jO).ji
end
section
noncomputable def Qr(n:Int):Bool:=decide (32<=n)&&decide (n<=126)&&!decide (n=34)&&!decide (n=92)
theorem WJ(n:Nat):Qr (n:Int)=eI n:=by unfold Qr eI;rw[dI];simp;omega
theorem RA(T:il K mg a):iW P w K mg base 1 "stands_as_itself" m9 (T9 Qr):=by
 refine cI T.tp T.Eg T.tp.b1 BC ?_
 ·lk;obtain⟨n,rfl,k⟩:=h;refine⟨_,aq (aN (SF (Mo BZ BZ (aP T.Zg6) (pv 0) (aP T.Zg8)) (SF (mS BY (pv 0) (aP T.TM) (bw _)) (SE (mS BY (pv 0) (aP T.J4) (bw _)))))),?_⟩;refine⟨_,Z,_,_,Z,Z,_,Z,?_⟩;refine Pe (fun h1=>?_) (fun h1=>?_)
  ·refine⟨_,_,Z,Z,_,Z,?_⟩;refine Pe (fun h2=>?_) (fun h2=>?_)
   ·refine⟨_,Z,Z,_,Z,?_⟩;refine Pe (fun h3=>?_) (fun h3=>?_)
    ·refine⟨_,Z,Z,?_⟩;have e:Qr n=!decide (V.int n=V.int 92):=by
      have h1':=of_decide_eq_true h1;have h2':n<=126:=of_decide_eq_true h2;have h3':n≠34:=by intro z;rw[z]at h3;exact absurd h3 (by decide)
      unfold Qr;rw[aD h1',aD h2',ay h3'];simp
     show Q (.bl (!decide (V.int n=V.int 92))) H;rw[<-e];exact k
    ·have e:Qr n=false:=by
      have h3':n=34:=by
       rcases Classical.em (n=34)with z|z
       ·exact z
       ·exact absurd (show(!decide (V.int n=V.int 34))=true by simp[z]) h3
      rw[h3'];rfl
     show Q (.bl false) H;rw[<-e];exact k
   ·have e:Qr n=false:=by have h2':¬n<=126:=fun z=>h2 (aD z);unfold Qr;rw[ay h2'];simp
    show Q (.bl false) H;rw[<-e];exact k
  ·refine⟨_,Z,?_⟩;have e:Qr n=false:=by unfold Qr;rw[ia.mpr h1];rfl
   rw[ah bc];show Q (.bl false) H;rw[<-e];exact k
def Lo(t:LN):Option (Nat×LN):=match t with
 |[]=>none
 |c::r=> (i9 c).map fun x=> (x,r)
def Zhl(n:Nat)(v:V)(_:Hp):Prop:=v=bV n
inductive Zmx(K:ae)(a:cV)(vs:LV)(H:Hp)(Q:VK)(E:XK):Prop
 |mk (r:ao) (aH:LN) (_:vs=[.ref r]) (_:jU K a H r aH) (_:wb K a E r H Q Zhl (Lo aH))
theorem qG(T:il K mg a):iW P w K mg base 3 "read_base_sixteen" rB (Zmx K a):=by
 refine fI T.rJ T.BJ T.rJ.b1 qp ?_
 ·lk;obtain⟨r,aH,rfl,hc,k⟩:=h;have nd:=qp.nd;refine⟨_,ai (bq (i:=1) nd (du (pv 0) (Bm T) hr dj)) (ai (bK (eX (ba (Ax T) hr bh (ag (pv 1) az))) (aq (aN (iu HJ (pv 1) (aP T.TQ)))) aL) (ai (bK (ZdM BZ BZ (aP T.Ig) (pv 1) (aP T.ZbU)) (aq (aN (iu kM (iu HJ (pv 1) (aP T.Ig)) bL))) aL) (aq (cF T.bt hr.hd)))),?_⟩;walk;obtain⟨tx,p,⟨dx,ta,hH,hs,hp,hl⟩,k7⟩:=id hc;refine⟨_,Z,r,dx,_,Z,hH,Z,r,aH,Z,hc,?_⟩;cases aH with
  |nil=>exact k
  |cons c cC=>
   intro H1 j9 jO;have k:wb K a E r H Q Zhl ((i9 c).map fun x=> (x,cC)):=k;refine⟨_,Z,_,Z,_,Z,?_⟩;rw[Bl];unfold i9 at k;cases hd:aJ c with
   |true=>
    rw[hd,ak Z]at k;refine bQ ⟨_,Z,_,_,Z,Z,?_⟩;have U4:48<=c:=by unfold aJ at hd;simp at hd;omega
    refine k _ _ j9 jO ?_;show V.int ((c:Int)-48)=V.int ((c-48:Nat):Int);rw[show(c:Int)-48=((c-48:Nat):Int) by omega]
   |false=>
    rw[hd,ah bc]at k;refine bx ⟨_,Z,_,_,Z,Z,_,Z,?_⟩;by_cases h1:97<=c
    ·rw[aD (by omega:(97:Int)<=(c:Int))];refine bQ ⟨_,_,Z,Z,_,Z,?_⟩;by_cases h2:c<=102
     ·rw[aD (by omega:(c:Int)<=102)];rw[ak ⟨h1,h2⟩]at k;refine bQ ⟨_,Z,_,_,Z,Z,_,_,Z,Z,?_⟩;refine k _ _ j9 jO ?_;show V.int ((c:Int)-97+10)=V.int ((c-87:Nat):Int);rw[show(c:Int)-97+10=((c-87:Nat):Int) by omega]
     ·rw[ay (by omega:¬(c:Int)<=102)];rw[ah (by omega)]at k;exact bx (eU.of k jO).ji
    ·rw[ay (by omega:¬(97:Int)<=(c:Int))];rw[ah (by omega)]at k;exact bx ⟨_,Z,bx (eU.of k jO).ji⟩
def xX(t:LN):Option (Nat×LN):=match t with
 |[]=>none
 |c::r=>if c=92 then(match Lo r with
   |none=>none
   |some (x,r1)=>match Lo r1 with
    |none=>none
    |some (y,r2)=>if eI (16*x+y)then none else some (16*x+y,r2))
  else if eI c then some (c,r)else none
inductive ZjT(K:ae)(a:cV)(vs:LV)(H:Hp)(Q:VK)(E:XK):Prop
 |mk (r:ao) (aH:LN) (_:vs=[.ref r]) (_:jU K a H r aH) (_:wb K a E r H Q Zhl (xX aH))
theorem Uh(T:il K mg a):iW P w K mg base 4 "read_byte" JH (ZjT K a):=by
 refine fI T.Kc T.Wr T.Kc.b1 Fs ?_
 ·lk;obtain⟨r,aH,rfl,hc,k⟩:=h;have nd:=Fs.nd;refine⟨_,ai (bq (i:=1) nd (du (pv 0) (Bm T) hr dj)) (ai (bK (bf BY (pv 1) (aP T.J4) (bw _)) (ai (bK (wt (eX (ba (RA T) hr bh (ag (pv 1) az)))) (aq (cF T.bt hr.hd)) aL) (aq (aN (pv 1)))) aL) (ai (bq (i:=2) nd (ba (qG T) hr dj (ag (pv 0) az))) (ai (bq (i:=3) nd (iu kM (iu YK (pv 2) bL) (ba (qG T) hr dj (ag (pv 0) az)))) (ai (bK (eX (ba (RA T) hr bh (ag (pv 3) az))) (aq (cF T.bt hr.hd)) aL) (aq (aN (pv 3))))))),?_⟩;walk;obtain⟨tx,p,⟨dx,ta,hH,hs,hp,hl⟩,k7⟩:=id hc;refine⟨_,Z,r,dx,_,Z,hH,Z,r,aH,Z,hc,?_⟩;cases aH with
  |nil=>exact k
  |cons c cC=>
   intro H1 j9 jO;have k:wb K a E r H Q Zhl (if c=92 then _ else if eI c then some (c,cC)else none):=k;refine⟨_,Z,Z,_,Z,?_⟩;by_cases ZU:c=92
   ·rw[ak ZU]at k;rw[aD (by rw[ZU];rfl:V.int (c:Int)=V.int 92)];refine bx ⟨_,Z,r,cC,Z,j9,?_⟩;cases e1:Lo cC with
    |none=>rw[e1]at k;exact eU.of k jO
    |some x=>
     obtain⟨x,r1⟩:=x;rw[e1]at k;intro v H2 jc k8 ev;cases ev;refine⟨_,Z,_,_,Z,Z,.inr (by decide),_,Z,r,r1,Z,jc,?_⟩;dsimp only at k;cases e2:Lo r1 with
     |none=>rw[e2]at k;exact eU.of k (jO.trans k8)
     |some y=>
      obtain⟨y,r2⟩:=y;rw[e2]at k;intro v H3 oA OP ev;cases ev;refine⟨_,_,Z,Z,?_⟩;refine⟨_,Z,_,Z,_,Z,?_⟩;have en:(x:Int)*16+(y:Int)=((16*x+y:Nat):Int):=by omega
      have kp:cQ r H H3:=(jO.trans k8).trans OP;rw[en,WJ];dsimp only at k;cases hpl:eI (16*x+y)with
      |true=>rw[hpl,ak Z]at k;exact bQ (eU.of k kp).ji
      |false=>rw[hpl,ah bc]at k;refine bx ⟨_,Z,k _ _ oA kp ?_⟩;first|rfl|(show V.int ((x:Int)*16+(y:Int))=_;rw[en])
   ·rw[ah ZU]at k;rw[ay (by intro z;injection z with z;exact ZU (by omega):¬V.int (c:Int)=V.int 92)];refine bQ ⟨_,Z,_,Z,_,Z,?_⟩;rw[WJ];cases hpl:eI c with
    |true=>rw[hpl,ak Z]at k;exact bx ⟨_,Z,k _ _ j9 jO Z⟩
    |false=>rw[hpl,ah bc]at k;exact bQ (eU.of k jO).ji
theorem Bo(t:LN):bH t=if t.head?=some 34 then some ([],t.tail)else match xX t with
  |none=>none
  |some (b,r)=> (bH r).map fun z=> (b::z.1,z.2):=by
 match t with
 |[]=>rfl
 |c::r=>
  by_cases ZV:c=34
  ·subst ZV;rw[ak (show(34::r).head?=some 34 from Z)];unfold bH;rfl
  rw[ah (show¬(c::r).head?=some 34 from fun z=>ZV (af z))];by_cases ZU:c=92
  ·subst ZU;match r with
   |[]=>rfl
   |[x]=>
    have e:xX [92,x]=none:=by
     show(match(i9 x).map (fun u=> (u,([]:LN)))with
      |none=>none
      |some (u,r1)=>match Lo r1 with
       |none=>none
       |some (y,r2)=>if eI (16*u+y)then none else some (16*u+y,r2))=none
     cases i9 x<;>rfl
    rw[e];unfold bH;rfl
   |x::y::r=>
    have e1:bH (92::x::y::r)=(match i9 x,i9 y with
      |some u,some v=>if eI (16*u+v)then none else(bH r).map fun z=> ((16*u+v)::z.1,z.2)
      |_,_=>none):=by
     rw[bH];cases i9 x<;>cases i9 y<;>rfl
    have e2:xX (92::x::y::r)=(match i9 x,i9 y with
      |some u,some v=>if eI (16*u+v)then none else some (16*u+v,r)
      |_,_=>none):=by
     show(match(i9 x).map (fun u=> (u,y::r))with
      |none=>none
      |some (u,r1)=>match Lo r1 with
       |none=>none
       |some (v,r2)=>if eI (16*u+v)then none else some (16*u+v,r2))=_
     cases i9 x with
     |none=>rfl
     |some u=>
      show(match(i9 y).map (fun v=> (v,r))with
       |none=>none
       |some (v,r2)=>if eI (16*u+v)then none else some (16*u+v,r2))=_
      cases i9 y<;>rfl
    rw[e1,e2];cases i9 x with
    |none=>rfl
    |some u=>
     cases i9 y with
     |none=>rfl
     |some v=>cases hp:eI (16*u+v)<;>simp[hp]
  ·have e:xX (c::r)=if eI c then some (c,r)else none:=by unfold xX;fin2;rw[ah ZU]
   have e1:bH (c::r)=if eI c then(bH r).map fun z=> (c::z.1,z.2)else none:=by
    rw[bH]
    ·exact ZV
    ·intro a b r1 q;exact absurd q ZU
   rw[e,e1];cases eI c<;>simp
theorem WK{t r:LN}{b:Nat}(h:Lo t=some (b,r)):r.length<t.length:=by
 cases t with
 |nil=>cases h
 |cons c t=>
  have h:(i9 c).map (fun x=> (x,t))=some (b,r):=h;cases e:i9 c with
  |none=>rw[e]at h;cases h
  |some x=>rw[e]at h;have:=aA bo (af h);have e2:t=r:=this;subst e2;simp
theorem Im{t r:LN}{b:Nat}(h:xX t=some (b,r)):r.length<t.length:=by
 cases t with
 |nil=>cases h
 |cons c t=>
  unfold xX at h;dsimp only at h;by_cases ZU:c=92
  ·rw[ak ZU]at h;cases e1:Lo t with
   |none=>rw[e1]at h;cases h
   |some x=>
    obtain⟨x,r1⟩:=x;rw[e1]at h;dsimp only at h;cases e2:Lo r1 with
    |none=>rw[e2]at h;cases h
    |some y=>
     obtain⟨y,r2⟩:=y;rw[e2]at h;dsimp only at h;by_cases hp:eI (16*x+y)=true
     ·rw[ak hp]at h;cases h
     ·rw[ah hp]at h;have:=aA bo (af h);have e3:r2=r:=this;subst e3;have l1:=WK e1;have l2:=WK e2;simp;omega
  ·rw[ah ZU]at h;by_cases hp:eI c=true
   ·rw[ak hp]at h;have:=aA bo (af h);have e3:t=r:=this;subst e3;simp
   ·rw[ah hp]at h;cases h
def vM(n:Nat)(t:LN):Option (LN×LN):=match t with
 |34::r=> (match bH r with
  |none=>none
  |some (s,u)=>if s.length<=n then some (s,u)else none)
 |_=>none
def Zmy(s:LN)(v:V)(H:Hp):Prop:=∃p,v= .ref p/\H p=some (.bz (iz s))
inductive ZjU(K:ae)(a:cV)(vs:LV)(H:Hp)(Q:VK)(E:XK):Prop
 |mk (r:ao) (aH:LN) (n:Nat) (_:vs=[.ref r,bV n]) (_:jU K a H r aH) (_:wb K a E r H Q Zmy (vM n aH))
theorem jU.len{H:Hp}{r:ao}{aH:LN}(h:jU K a H r aH):aH.length<=17000:=by obtain⟨tx,p,⟨dx,ta,e,hs,hp,hl⟩,hr⟩:=h;have:=aA oC hr;rw[fV]at this;omega
theorem mM{n:Nat}(h:n<=17000):n<sizeLine:=vi h (by decide)
theorem AA(T:il K mg a):iW P w K mg base 5 "read_text_literal" rA (ZjU K a):=by
 refine fI T.rH T.BI T.rH.b2 qm ?_
 ·lk;obtain⟨r,aH,n,rfl,hc,k⟩:=h;have nd:=qm.nd;refine⟨_,ai (dm (fD (pv 0) (mZ T) hr dj (ag (aP T.TM) az))) (ai (bq (i:=2) nd (dO az)) (ai (qc Mz (wt (eX (fD (pv 0) (kJ T) hr bh (ag (aP T.TM) az)))) (aq (dm (ui b9 cA cB jq (pv 2) (ag (ba (Uh T) hr dj (ag (pv 0) az)) az))))) (ai (bK (bf oP (rZ T (pv 2)) (pv 1) (bw _)) (aq (cF T.bt hr.hd)) aL) (aq (aN (pv 2)))))),?_⟩;walk;obtain⟨dx,fs,hH⟩:=id hc.rd;obtain⟨tx,p,⟨dx,ta,hH,hs,hp,hl⟩,k7⟩:=id hc;refine⟨_,Z,r,dx,_,Z,hH,Z,r,aH,34,Z,hc,fun r0 er H1 j9 jO=>?_,fun iY=>?_⟩
  ·subst er;have k:wb K a E r H Q Zmy (match bH r0 with
    |none=>none
    |some (s,u)=>if s.length<=n then some (s,u)else none):=k
   refine⟨bB _,fun q hq=>?_⟩;have Hq:H q=none:=by
    cases e:H q with
    |none=>rfl
    |some o=>
     by_cases z:q=r
     ·obtain⟨_,_,e1⟩:=j9.rd;rw[z,e1]at hq;cases hq
     ·rw[jO.all q o e z]at hq;cases hq
   have Sj:=j9.len;refine⟨fun m σ H2=>σ=[some (.ref r),some (bV n),some (.ref q)]/\∃bI cC,cC.length=m/\jU K a H2 r cC/\H2 q=some (.bz (iz bI))/\cQ r H H2/\bH r0=(bH cC).map (fun z=> (bI++z.1,z.2))/\bI.length+cC.length<=17000,⟨_,Z,[],r0,Z,j9.dW hq,au,jO.dW hq,by cases bH r0<;>rfl,by simp;exact Sj⟩,?_⟩;rintro m σ H2 ⟨rfl,bI,cC,rfl,jc,LB,k8,inv,jL⟩;walk;obtain⟨dx2,fs2,hr2⟩:=jc.rd;have Hx:q≠r:=vk LB hr2 (by intro z;cases z);obtain⟨tx2,p2,⟨ZpY,ta2,hH2,_⟩,_⟩:=id jc;refine⟨_,Z,r,ZpY,_,Z,hH2,Z,r,cC,34,Z,jc,fun r3 er H3 oA OP=>?_,fun iY=>?_⟩
   ·subst er;have e1:bH r0=some (bI,r3):=by rw[inv,Bo,ak (show(34::r3).head?=some 34 from Z)];simp
    rw[e1]at k;dsimp only at k;have mE:H3 q=some (.bz (iz bI)):=OP.all q _ LB Hx;have kp:cQ r H H3:=k8.trans OP;refine⟨_,Z,bx ⟨_,Z,q,_,Z,.inl (ft.of mE),_,Z,_,_,Z,Z,_,Z,?_⟩⟩;rw[eA];by_cases hl:bI.length<=n
    ·rw[ak hl]at k;rw[ay (by omega:¬(n:Int)< (bI.length:Int))];exact bx ⟨_,Z,k _ _ oA kp ⟨q,Z,by rw[cu.at Hq];exact mE⟩⟩
    ·rw[ah hl]at k;rw[aD (by omega:(n:Int)< (bI.length:Int))];exact bQ (eU.of k kp).ji
   ·refine⟨_,Z,bQ ?_⟩;have st:=Bo cC;rw[ah iY]at st;refine⟨fun σ' H'=>σ'=[some (.ref r),some (bV n),some (.ref q)]/\∃b r',xX cC=some (b,r')/\jU K a H' r r'/\H' q=some (.bz (iz (bI++[b])))/\cQ r H H',fun σ' H' ⟨e1,b,r',eb,hc',hq',ZT⟩=>?_,?_⟩
    ·have ll:=Im eb;refine⟨r'.length,ll,e1,bI++[b],r',Z,hc',hq',ZT,?_,by simp;omega⟩;rw[inv,st,eb];fin2;cases bH r' with
     |none=>rfl
     |some z=>simp
    ·refine⟨_,Z,.inl ⟨Z,_,ft.of LB⟩,_,Z,r,cC,Z,jc,?_⟩;cases eb:xX cC with
     |none=>rw[eb]at st;rw[inv,st]at k;exact eU.of k k8
     |some x=>
      obtain⟨b,r'⟩:=x;intro v H3 oA OP ev;cases ev;have mE:H3 q=some (.bz (iz bI)):=OP.all q _ LB Hx;obtain⟨_,_,hr3⟩:=oA.rd;refine⟨q,_,_,Z,Z,mE,by rw[eA];exact mM (by omega),Z,b,r',Z,?_,?_,?_⟩
      ·exact hc.put (k8.trans OP) oA Hq
      ·rw[au];show some (HO.bz (iz bI++[bV b]))=_;unfold iz;rw[cg];rfl
      ·exact(k8.trans OP).put Hq
  ·have e:vM n aH=none:=by
    unfold vM;split
    ·exact absurd Z iY
    ·rfl
   rw[e]at k;exact k
theorem jU.ne{H:Hp}{r x C dx:ao}{fs:List (Str×V)}{aH:LN}(h:jU K a H r aH)(hx:H x=some (.ins C dx fs))(n:fs.lookup ("place":Str)=none):x≠r:=by obtain⟨tx,p,⟨dx1,ta,e,hs,hp,hl⟩,hr⟩:=h;refine vk hx e fun z=>?_;injection z with _ _ z;rw[z]at n;cases n
theorem kO.keep{H H':Hp}{r x:ao}{aH:LN}{l:cN}(h:kO a H x l)(c:jU K a H r aH)(k:cQ r H H'):kO a H' x l:=by obtain⟨dx,e⟩:=h;exact⟨dx,k.all _ _ e (c.ne e Z)⟩
theorem kO.same{H H':Hp}{x:ao}{l:cN}(h:kO a H x l)(s:aS H H'):kO a H' x l:=let⟨dx,e⟩:=h;⟨dx,s _ _ e⟩
def pq(vc:Nat)(t:LN):Option (Nat×LN):=if t.takeWhile aJ=[]\/(vc:Int)< ((t.takeWhile aJ).length:Int)\/((t.takeWhile aJ).head?=some 48/\1< (t.takeWhile aJ).length)then none else some (cS (t.takeWhile aJ),t.dropWhile aJ)
def mv(lo hi:Int)(t:LN):Option (Int×LN):=if t.head?=some 45 then(match pq 19 t.tail with
  |none=>none
  |some (n,s)=>if n=0 then none else if-(n:Int)<lo\/hi< -(n:Int)then none else some (-(n:Int),s))
 else match pq 19 t with
  |none=>none
  |some (n,s)=>if(n:Int)<lo\/hi< (n:Int)then none else some ((n:Int),s)
def Zhm(z:Int)(v:V)(_:Hp):Prop:=v= .int z
inductive Zhn(K:ae)(a:cV)(vs:LV)(H:Hp)(Q:VK)(E:XK):Prop
 |mk (r:ao) (aH:LN) (x:ao) (l:cN) (_:vs=[.ref r,.ref x]) (_:jU K a H r aH) (_:kO a H x l) (_:wb K a E r H Q Zhm (mv (pd l) (pj l) aH))
theorem yk(T:il K mg a):iW P w K mg base 3 "read_whole_literal" ql (Zhn K a):=by
 refine fI T.qB T.Aa T.qB.b2 oT ?_
 ·lk;obtain⟨r,aH,x,l,rfl,hc,hx,k⟩:=h;have nd:=oT.nd;refine⟨_,ai (bq (i:=2) nd (fD (pv 0) (kJ T) hr bh (ag (aP T.Zg7) az))) (ai (bq (i:=3) nd (fD (pv 0) (tK T) hr dj (ag (aP T.yh) az))) (ai (bK (eX (pv 2)) (ai (bK (bf gP (pv 3) bL (bw _)) (aq (cF T.bt hr.hd)) aL) (aq (bq (i:=3) nd (QX HK (pv 3))))) aL) (ai (bK (yA (bf Jl (pv 3) (aI (pv 1) Z) (bw _)) (uJ (bf oP (pv 3) (aI (pv 1) Z) (bw _)))).pt (aq (cF T.bt hr.hd)) aL) (aq (aN (pv 3)))))),?_⟩;walk;obtain⟨tx,p,⟨dx,ta,hH,hs,hp,hl⟩,k7⟩:=id hc;have Znp:∀(H2:Hp)(b:Bool)(z:Int)(s:LN),jU K a H2 r s->cQ r H H2->wb K a E r H Q Zhm (if z<pd l\/pj l<z then none else some (z,s))->(dF (ZlL (tOr (Zac (tOp (rI0 fun i j=> .bl (decide (i<j))) (m7 3) (Pb K (m7 1) "low"))) (Zac (tOp (rI0 fun i j=> .bl (decide (j<i))) (m7 3) (Pb K (m7 1) "high")))) (Zea E a.g9) ZdF) (Zbr (m7 3))) {nx:=fun _ H'=>Q .ik H',rt:=Q} [some (.ref r),some (.ref x),some (.bl b),some (.int z)] H2:=fun H2 b z s jc k8 k2=>by
   obtain⟨dxl,hl2⟩:=hx.keep hc k8;refine⟨_,Z,_,Z,x,_,dxl,_,_,Z,hl2,T.wO,T.J9,Z,_,_,Z,Z,_,Z,?_⟩;by_cases h1:z<pd l
   ·rw[aD h1];rw[ak (.inl h1)]at k2;exact bQ (bQ (eU.of k2 k8).ji)
   rw[ay h1];refine bx ⟨_,Z,_,Z,x,_,dxl,_,_,Z,hl2,T.wO,T.wQ,Z,_,_,Z,Z,_,Z,?_⟩;by_cases h2:pj l<z
   ·rw[aD h2];rw[ak (.inr h2)]at k2;exact bQ (eU.of k2 k8).ji
   rw[ay h2];rw[ah (by rintro (y|y);exact h1 y;exact h2 y)]at k2;exact bx ⟨_,Z,k2 _ _ jc k8 Z⟩
  refine⟨_,Z,r,dx,_,Z,hH,Z,r,aH,45,Z,hc,fun r1 er H1 j9 jO=>?_,fun iY=>?_⟩
  ·subst er;have k:wb K a E r H Q Zhm (match pq 19 r1 with
    |none=>none
    |some (n,s)=>if n=0 then none else if-(n:Int)<pd l\/pj l< -(n:Int)then none else some (-(n:Int),s)):=k
   obtain⟨tx1,p1,⟨dx1,ta1,EC,_⟩,_⟩:=id j9;refine⟨_,Z,r,dx1,_,Z,EC,Z,r,r1,19,Z,j9,fun hb=>?_,fun hg H2 jc k8=>?_⟩
   ·have ed:pq 19 r1=none:=ak hb;rw[ed]at k;exact eU.of k jO
   ·have ed:pq 19 r1=some (cS (r1.takeWhile aJ),r1.dropWhile aJ):=ah hg;rw[ed]at k;dsimp only at k;generalize cS (r1.takeWhile aJ)=n at k⊢;generalize r1.dropWhile aJ=s at k jc;have kp:=jO.trans k8;refine⟨_,Z,_,Z,bQ ⟨_,Z,Z,_,Z,?_⟩⟩;by_cases h0:n=0
    ·rw[ak h0]at k;rw[aD (by rw[h0];rfl:V.int (n:Int)=V.int 0)];exact bQ (eU.of k kp).ji
    ·rw[ah h0]at k;rw[ay (by intro z;injection z with z;exact h0 (by omega):¬V.int (n:Int)=V.int 0)];refine bx ⟨_,Z,_,Z,?_⟩;exact Znp H2 true _ s jc kp k
  ·unfold mv at k;rw[ah iY]at k;refine⟨_,Z,r,dx,_,Z,hH,Z,r,aH,19,Z,hc,fun hb=>?_,fun hg H2 jc k8=>?_⟩
   ·have ed:pq 19 aH=none:=ak hb;rw[ed]at k;exact k
   ·have ed:pq 19 aH=some (cS (aH.takeWhile aJ),aH.dropWhile aJ):=ah hg;rw[ed]at k;dsimp only at k;generalize cS (aH.takeWhile aJ)=n at k⊢;generalize aH.dropWhile aJ=s at k jc;refine⟨_,Z,_,Z,bx ?_⟩;exact Znp H2 false _ s jc k8 k
def kP(l:cN)(t:LN):Option (gK×LN):=match l with
 | .text n=> (vM n t).map fun x=> (.str x.1,x.2)
 |l=> (mv (pd l) (pj l) t).map fun x=> (.num x.1,x.2)
def Zi(x:gK)(v:V)(H:Hp):Prop:=uC H v x
inductive Zmz(K:ae)(a:cV)(vs:LV)(H:Hp)(Q:VK)(E:XK):Prop
 |mk (r:ao) (aH:LN) (x:ao) (l:cN) (_:vs=[.ref r,.ref x]) (_:jU K a H r aH) (_:kO a H x l) (_:wb K a E r H Q Zi (kP l aH))
theorem m4(T:il K mg a):iW P w K mg base 6 "read_literal" sP (Zmz K a):=by
 refine fI T.Ad T.Np T.Ad.b2 K9 ?_
 ·lk;obtain⟨r,aH,x,l,rfl,hc,hx,k⟩:=h;refine⟨_,ai (bK (eX (du (pv 1) (NJ T) hr bh)) (aq (aN (ba (AA T) hr dj (ag (pv 0) (ag (aI (pv 1) Z) az))))) aL) (aq (aN (ba (yk T) hr dj (ag (pv 0) (ag (pv 1) az))))),?_⟩;walk;obtain⟨dxl,hl⟩:=id hx;refine⟨_,Z,x,dxl,_,Z,hl,Z,x,l,Z,hx,_,Z,?_⟩;have whole:EO l=false->wb K a E r H Q Zhm (mv (pd l) (pj l) aH):=fun hT=>by
   have e:kP l aH=(mv (pd l) (pj l) aH).map fun x=> (.num x.1,x.2):=by
    cases l with
    |text n=>cases hT
    |bit=>rfl
    |int n=>rfl
   rw[e]at k;cases ep:mv (pd l) (pj l) aH with
   |none=>rw[ep]at k;exact k
   |some y=>rw[ep]at k;obtain⟨z,s⟩:=y;exact fun v H' h1 h2 h3=>k v H' h1 h2 h3
  cases l with
  |text n=>
   refine bQ ⟨_,Z,_,Z,x,_,dxl,_,_,Z,hl,T.wO,T.wQ,Z,r,aH,n,Z,hc,?_⟩;have k:wb K a E r H Q Zi ((vM n aH).map fun x=> (.str x.1,x.2)):=k;cases ep:vM n aH with
   |none=>rw[ep]at k;exact k
   |some y=>rw[ep]at k;obtain⟨t,s⟩:=y;exact fun v H' h1 h2 h3=>k v H' h1 h2 h3
  |bit=>exact bx ⟨_,Z,_,Z,r,aH,x,.bit,Z,hc,hx,whole Z⟩
  |int n=>exact bx ⟨_,Z,_,Z,r,aH,x,.int n,Z,hc,hx,whole Z⟩
end
end MW
namespace L2
open PySem PySem.Spec PyProof.Rows
section
variable{K:ae}{X:Cx K}
inductive ZmA(x:V)(y:V)(H:Hp)(Q:VK):Prop
 |mk (a:_) (b:_) (xs:_) (ys:_) (_:x= .ref a) (_:y= .ref b) (_:H a=some (.f6 xs)) (_:H b=some (.f6 ys)) (_:xs.length+ys.length<=sizeLine) (_:∀p H',H' p=some (.f6 (xs++ys))->((H'=H/\(p=a\/p=b))\/(H p=none/\H'=bp H p (.f6 (xs++ys))))->Q (.ref p) H')
theorem Gy:uL X (QL .Add) ZmA:=by
 intro aw s σ H x y v u Q I rx ry h;obtain⟨a,b,xs,ys,rfl,rfl,ha,hb,hz,q⟩:=h;cases rx;cases ry;obtain⟨fc,r1,p1,_⟩:=I.tuple (qU.of ha);obtain⟨Hl,r2,p2,_⟩:=I.tuple (qU.of hb);obtain⟨⟨cls,dd,data,sl⟩,ho,hc,n,hd⟩:=id p1;obtain⟨⟨Ztu,U5,ZrI,L1⟩,U2,jc,n2,hd2⟩:=id p2;simp only at hc hd jc hd2;subst hc hd jc hd2;have e:fc.toArray++Hl.toArray=(fc++Hl).toArray:=by simp
 by_cases hv:fc=[]
 ·have ex:xs=[]:=r1.Zag.mp hv;exact concat_meets ⟨_,ho,Z⟩ ⟨_,U2,Z⟩ UT Zdk ya wk (vj _ _) (tuple_addW0 a b fc.toArray Hl.toArray n n2 dd U5 sl L1 (by simp[hv])) ⟨ho,U2,.ref b,H,I,Z,q b H (by rw[ex];exact hb) (.inl ⟨Z,.inr Z⟩)⟩
 ·by_cases hw:Hl=[]
  ·have ey:ys=[]:=r2.Zag.mp hw;exact concat_meets ⟨_,ho,Z⟩ ⟨_,U2,Z⟩ UT Zdk ya wk (vj _ _) (tuple_addW1 a b fc.toArray Hl.toArray n n2 dd U5 sl L1 (by simpa using hv) (by simp[hw])) ⟨ho,U2,.ref a,H,I,Z,q a H (by rw[ey,cJ];exact ha) (.inl ⟨Z,.inl Z⟩)⟩
  ·refine concat_meets ⟨_,ho,Z⟩ ⟨_,U2,Z⟩ UT Zdk ya wk (vj _ _) (tuple_addW2 a b fc.toArray Hl.toArray n n2 dd U5 sl L1 (by simpa using hv) (by simpa using hw) (by rw[bX,bX,<-r1.length,<-r2.length];exact hz)) ⟨ho,U2,?_⟩;rw[e];refine⟨.ref s.heap.objs.size,_,I.dW (t':=s.toks) (o:= .f6 (xs++ys)) (fun b ob q=>bb.get?_push_of_some _ q) (aC _) ?_,Z,q _ _ au (.inr ⟨I.fN.gE (aC _),Z⟩)⟩;exact⟨by rw[aX];exact hz,_,r1.append r2,IsTup.new _ _⟩
theorem j7:EW X (.builtin "isinstance") (fun xs H Q=> ∃x C t b,xs=[x,.ref C]/\wu K H x t/\lV K t (.ref C)=some b/\Q (.bl b) H):=by intro aw s σ H xs us Q I r h;obtain⟨x,C,t,b,rfl,ty,e,q⟩:=h;obtain⟨u1,u2,rfl,r1,r2⟩:=ZlS r;cases r2;exact Zby I r1 ty e fun tk=> ⟨.bl b,H,I.Yl tk,Z,q⟩
end
theorem m5{K:ae}{H:Hp}:∀t:LN,E1 K H (t.map fun b:Nat=>V.int (b:Int)) (t.map fun b:Nat=>bJ.int (b:Int))
 |[]=> .nil
 |c::r=> .cons (.int _) (m5 r)
theorem AB:∀s t:LN,bJ.eqvAll (s.map fun b:Nat=>bJ.int (b:Int)) (t.map fun b:Nat=>bJ.int (b:Int))=decide (s=t)
 |[],[]=>by simp[bJ.eqvAll]
 |[],d::t=>by simp[bJ.eqvAll]
 |c::s,[]=>by simp[bJ.eqvAll]
 |c::s,d::t=>by rw[aY,aY,bJ.eqvAll,bJ.eqv,AB s t,dI];simp;intro _;omega
theorem AD:∀t:LN,bJ.canLayAll0 (t.map fun b:Nat=>bJ.int (b:Int))=true
 |[]=>rfl
 |c::r=>by rw[aY,bJ.canLayAll0,AD r];rfl
theorem wX:∀t:LN,bJ.depthAll (t.map fun b:Nat=>bJ.int (b:Int))<=1
 |[]=>by simp[bJ.depthAll]
 |c::r=>by rw[aY,bJ.depthAll,bJ.depth];have:=wX r;omega
theorem Ek(t:LN):SeqAt.shaped (.tuple (t.map fun b:Nat=>bJ.int (b:Int)))=true:=by unfold SeqAt.shaped;rw[bJ.canLay0,AD,bJ.depth,aD (by have:=wX t;omega)];rfl
theorem pw(t:LN):SeqAt.shaped (.list (t.map fun b:Nat=>bJ.int (b:Int)))=true:=by unfold SeqAt.shaped;rw[bJ.canLay0,AD,bJ.depth,aD (by have:=wX t;omega)];rfl
section
variable{K:ae}{X:Cx K}
inductive ZmB(x:V)(y:V)(H:Hp)(Q:VK):Prop
 |mk (p q:ao) (s t:LN) (_:x= .ref p) (_:y= .ref q) (_:H p=some (.f6 (s.map fun b:Nat=>V.int (b:Int)))) (_:H q=some (.f6 (t.map fun b:Nat=>V.int (b:Int)))) (_:Q (.bl (decide (s=t))) H)
theorem Zj(hu:X.A.units+64<oN):uL X (di .Eq) ZmB:=by intro aw s σ H x y v u Q I rx ry h;obtain⟨p,q,s',t,rfl,rfl,hp,hq,k⟩:=h;refine SN hu aw s σ H _ _ v u Q I rx ry ⟨_,_,.f6 (qU.of hp) (m5 s'),.f6 (qU.of hq) (m5 t),Ek _,Ek _,?_⟩;rw[bJ.eqv,AB];exact k
inductive Zpr(x:V)(y:V)(H:Hp)(Q:VK):Prop
 |mk (p q:ao) (s t:LN) (_:x= .ref p) (_:y= .ref q) (_:H p=some (.bz (s.map fun b:Nat=>V.int (b:Int)))) (_:H q=some (.bz (t.map fun b:Nat=>V.int (b:Int)))) (_:Q (.bl (decide (s=t))) H)
theorem Zez(hu:X.A.units+64<oN):uL X (di .Eq) Zpr:=by intro aw s σ H x y v u Q I rx ry h;obtain⟨p,q,s',t,rfl,rfl,hp,hq,k⟩:=h;refine SN hu aw s σ H _ _ v u Q I rx ry ⟨_,_,.bz (ft.of hp) (m5 s'),.bz (ft.of hq) (m5 t),pw _,pw _,?_⟩;rw[bJ.eqv,AB];exact k
inductive ZiA(x:V)(y:V)(H:Hp)(Q:VK):Prop
 |mk (q:ao) (t:LN) (_:x= .ik) (_:y= .ref q) (_:H q=some (.f6 (t.map fun b:Nat=>V.int (b:Int)))) (_:Q (.bl false) H)
theorem Zho(hu:X.A.units+64<oN):uL X (di .Eq) ZiA:=by intro aw s σ H x y v u Q I rx ry h;obtain⟨q,t,rfl,rfl,hq,k⟩:=h;refine SN hu aw s σ H _ _ v u Q I rx ry ⟨_,_,.ik,.f6 (qU.of hq) (m5 t),Z,Ek _,?_⟩;rw[bJ.eqv];exact k
end
theorem Zk{prog:aV}{w:bG}{d:ao}(hd:(d==jG)=false):MeetsIn prog w (Builtin.«dict.__len__» ⟨[.ref d],[]⟩) (fun _ R s=> ∃o es ep,s.heap.get? d=some o/\o.data= .dict es ep/\R (.ok (.ret (.int es.size s.toks))) {s with toks:=s.toks+1}):= .of_wp fun A R s ⟨o,es,ep,ho,Zf0,h⟩=>by show bZ _ _ (dictSize d>>=_) _ _ s;unfold dictSize;refine bA (bA (wpAny_dictEntries ho Zf0 (dG ?_)));show bZ _ _ (Builtin.Dict.pendingCount d>>=_) _ _ s;refine bA (wpAny_pendingCount_other hd ?_);refine wpAny_ret_mkInt ?_;rw[Nat.add_zero];exact h
theorem Zb7{prog:aV}{w:bG}{A:cD}{E:VS}{s:aB}{d:ao}{o:Obj}{es:Array Zdx}{ep:Nat}{Q:VS}(hd:(d==jG)=false)(ht:s.TypeIs (.ref d) "dict")(ho:s.heap.get? d=some o)(Zf0:o.data= .dict es ep)(Ztt:(es.size:Int)<2^63) (h:Q (.int es.size (s.toks+1)) {s with toks:=s.toks+1+1}):bZ (b7 prog w) A (Builtin.«len» ⟨[.ref d],[]⟩) (fun tS s'=> ∃r,tS= .done (.ret r)/\Q r s') E s:=by unfold Builtin.«len»;refine bA (m:=oneArg "len" _) (dG ?_);refine bA (m:=callSpecial? (.ref d) (Str.ofString "__len__")) (wpAny_callSpecial?_slot (name:=Str.ofString "__len__") ht F.slot_dict_len (call_meetsIn F.slot_dict_len ht F.entry_dict_len (F.args_dict_len_1 _) (Zk hd) ⟨o,es,ep,ho,Zf0,?_⟩));show bZ _ _ _ _ _ {s with toks:=s.toks+1};refine bA (wpAny_holding (dG ?_));refine bA (wpAny_letGo ?_);show bZ _ _ (if((es.size:Nat):Int)<0 then _ else _) _ _ _;rw[ah (by omega)];show bZ _ _ (if((es.size:Nat):Int)≥2^63 then _ else _) _ _ _;rw[ah (by omega)];exact bA (wpAny_mkInt (dG ⟨_,Z,h⟩))
section
variable{K:ae}{X:Cx K}
theorem Zb8:EW X (.builtin "len") (fun xs H Q=> ∃a br,xs=[V.ref a]/\H a=some (.dT br)/\Q (.int br.length) H):=by
 intro aw s σ H xs us Q I r h;obtain⟨a,br,rfl,ha,q⟩:=h;obtain⟨u,rfl,ru⟩:=Zad r;cases ru;obtain⟨z,hd,ys,oI,o,es,ep,ho,hx,Zf0,hes,_⟩:=(show iD X.prog X.w H s.heap a (.dT br)from I.fN a _ ha);have hl:es.size=br.length:=by rw[<-eJ,hes,aZ,Paired.length oI]
 refine Calls.call_function_entry kind_len plain_len entry_len (args_len1 _) (Zb7 hd ⟨o,ho,hx.1⟩ ho Zf0 (by rw[hl];rw[Vf]at z;omega) ?_);rw[hl];exact⟨.int br.length,H,I.Yl _,⟨_,Z⟩,q⟩
end
end L2
namespace MW
open PySem PySem.Spec PyProof.Rows L2
variable{P:aV}{w:bG}{K:ae}{mg:SV}{base:bb}{a:cV}
noncomputable abbrev bW:=Vacola.Kind
mutual
def dZ(a:cV)(H:Hp):bW->V->Prop
 | .leaf l,v=> ∃x,v= .ref x/\kO a H x l
 | .group c fs,v=> ∃x dx fl xs,v= .ref x/\H x=some (.ins a.lZ dx (NG.zip [.bl c,.ref fl]))/\H fl=some (.bz xs)/\fj a H fs xs
def fj(a:cV)(H:Hp):Zvn->LV->Prop
 | .nil,xs=>xs=[]
 | .cons h k r,xs=> ∃x KS dx np kv,xs= .ref x::KS/\H x=some (.ins a.kU dx (Az.zip [bV h.number,.ref np,bV (c9 h.mode),kv]))/\H np=some (.f6 (iz h.name))/\dZ a H k kv/\fj a H r KS
end
mutual
theorem dZ.same{a:cV}{H H':Hp}(s:aS H H'):∀(k:bW)(v:V),dZ a H k v->dZ a H' k v
 | .leaf l,v,h=>by
  obtain⟨x,e,q⟩:=h
  exact⟨x,e,q.same s⟩
 | .group c fs,v,h=>by
  obtain⟨x,dx,fl,xs,e,h1,h2,h3⟩:=h
  exact⟨x,dx,fl,xs,e,s _ _ h1,s _ _ h2,fj.same s fs xs h3⟩
theorem fj.same{a:cV}{H H':Hp}(s:aS H H'):∀(fs:Zvn)(xs:LV),fj a H fs xs->fj a H' fs xs
 | .nil,xs,h=>h
 | .cons hd k r,xs,h=>by
  obtain⟨x,KS,dx,np,kv,e,h1,h2,h3,h4⟩:=h
  exact⟨x,KS,dx,np,kv,e,s _ _ h1,s _ _ h2,dZ.same s k kv h3,fj.same s r KS h4⟩
end
inductive l9(a:cV)(H:Hp)(x:cH×bW)(v:V):Prop
 |mk (p:_) (dx:_) (np:_) (kv:_) (_:v= .ref p) (_:H p=some (.ins a.kU dx (Az.zip [bV x.1.number,.ref np,bV (c9 x.1.mode),kv]))) (_:H np=some (.f6 (iz x.1.name))) (_:dZ a H x.2 kv)
theorem l9.same{a:cV}{H H':Hp}{x:cH×bW}{v:V}(h:l9 a H x v)(s:aS H H'):l9 a H' x v:=by obtain⟨p,dx,np,kv,e,h1,h2,h3⟩:=h;exact⟨p,dx,np,kv,e,s _ _ h1,s _ _ h2,dZ.same s _ _ h3⟩
abbrev ma(a:cV)(H:Hp):List (cH×bW)->LV->Prop:=Paired (l9 a H)
def fieldsOf:List (cH×bW)->Zvn
 |[]=> .nil
 |x::r=> .cons x.1 x.2 (fieldsOf r)
theorem pZ:∀fs:Zvn,fieldsOf fs.list=fs
 | .nil=>rfl
 | .cons h k r=>by show Zvn.cons h k (fieldsOf r.list)=_;rw[pZ r]
theorem Du:∀xs:List (cH×bW),(fieldsOf xs).list=xs
 |[]=>rfl
 |x::r=>by show(x.1,x.2)::(fieldsOf r).list=_;rw[Du r]
theorem ma.at{a:cV}{H:Hp}:∀{xs:List (cH×bW)}{vs:LV},ma a H xs vs->fj a H (fieldsOf xs) vs
 |_,_,.nil=>rfl
 |_,_,.cons h t=>by obtain⟨p,dx,np,kv,rfl,h1,h2,h3⟩:=h;exact⟨p,_,dx,np,kv,Z,h1,h2,h3,ma.at t⟩
theorem fj.l{a:cV}{H:Hp}:∀{fs:Zvn}{vs:LV},fj a H fs vs->ma a H fs.list vs
 | .nil,_,h=>by cases(show _=[]from h);exact .nil
 | .cons hd k r,_,h=>by obtain⟨x,KS,dx,np,kv,rfl,h1,h2,h3,h4⟩:=h;exact .cons ⟨x,dx,np,kv,Z,h1,h2,h3⟩ (fj.l h4)
theorem ma.same{a:cV}{H H':Hp}{xs:List (cH×bW)}{vs:LV}(h:ma a H xs vs)(s:aS H H'):ma a H' xs vs:=Paired.wm h fun _ _ q=>q.same s
theorem i8{α β:Type}{F:α->β->Prop}{x:α}{y:β}(q:F x y):∀{l:List α}{m:List β},Paired F l m->Paired F (l++[x]) (m++[y])
 |_,_,.nil=> .cons q .nil
 |_,_,.cons r t=> .cons r (i8 q t)
theorem iE{α β:Type}{F:α->β->Prop}:∀{l:List α}{m:List β}{i:Nat}{y:β},Paired F l m->m[i]? =some y->∃x,l[i]? =some x/\F x y
 |_,_,_,_,.nil,e=>by simp at e
 |_,_,0,_,.cons r _,e=>by simp at e;subst e;exact⟨_,Z,r⟩
 |_,_,i+1,y,.cons _ t,e=>by obtain⟨x,h1,h2⟩:=iE (i:=i) (y:=y) t (by simpa using e);exact⟨x,by simpa using h1,h2⟩
def Gz(cR:Bool)(t:LN):Option (eS×LN):=match t with
 |[]=>none
 |c::r=>match lu c with
  |none=>none
  |some m=>if cR=true/\m≠ .one then none else some (m,r)
def vN(cR:Bool)(m:eS)(k:bW)(t:LN):Option (Option gK×LN):=if t.head?=some 61 then(match cR,m,k with
  |false,.one,.leaf l=> (kP l t.tail).map fun x=> (some x.1,x.2)
  |_,_,_=>none)
 else some (none,t)
abbrev RK:=LN->Option (bW×LN)
def jm(pk:RK)(cR:Bool)(t:LN):Option ((cH×bW)×LN):=match pq 3 t with
 |none=>none
 |some (n,t1)=>if n=0 then none else if bF (t1.takeWhile ax)=false then none else match Gz cR (t1.dropWhile ax)with
  |none=>none
  |some (m,t3)=>match pk t3 with
   |none=>none
   |some (k,t4)=>if m= .keyed/\(fF k).isNone=true then none else match vN cR m k t4 with
    |none=>none
    |some (d,t5)=>some (({number:=n,name:=t1.takeWhile ax,mode:=m,dflt:=d},k),t5)
def wY(bI:List (cH×bW))(h:cH):Bool:=(match bI.getLast? with
 |some x=>decide (x.1.number<h.number)
 |none=>true)&&bI.all fun x=>decide (x.1.name≠h.name)
def mO(pk:RK)(cR:Bool):Nat->List (cH×bW)->LN->Option (List (cH×bW)×LN)
 |0,_,_=>none
 |f+1,bI,t=>if t.head?=some 59 then(match jm pk cR t.tail with
   |none=>none
   |some (x,s)=>if wY bI x.1 then mO pk cR f (bI++[x]) s else none)
  else some (bI,t)
def qH(pk:RK)(cR:Bool)(t:LN):Option (bW×LN):=match jm pk cR t with
 |none=>none
 |some (x,t2)=>match mO pk cR (t2.length+1) [x] t2 with
  |none=>none
  |some (xs,t3)=>if t3.head?=some (bP cR)then some (.group cR (fieldsOf xs),t3.tail)else none
def mw(pg:RK):RK:=fun t=>if t.head?=some 123\/t.head?=some 60 then pg t else(kD t).map fun x=> (.leaf x.1,x.2)
def iq:Nat->RK
 |0,_=>none
 |n+1,t=>if t.head?=some 60 then qH (mw (iq n)) true t.tail else if t.head?=some 123 then qH (mw (iq n)) false t.tail else none
def iS(n:Nat):RK:=mw (iq n)
section
def ZaB(m:eS)(v:V)(_:Hp):Prop:=v=bV (c9 m)
inductive ZjV(K:ae)(a:cV)(vs:LV)(H:Hp)(Q:VK)(E:XK):Prop
 |mk (r:ao) (aH:LN) (c:Bool) (_:vs=[.ref r,.bl c]) (_:jU K a H r aH) (_:wb K a E r H Q ZaB (Gz c aH))
theorem Ui(T:il K mg a):iW P w K mg base 3 "read_mode" JI (ZjV K a):=by
 refine fI T.Kd T.Ws T.Kd.b2 Ft ?_
 ·lk;obtain⟨r,aH,ch,rfl,hc,k⟩:=h;have nd:=Ft.nd;refine⟨_,ai (bq (i:=2) nd (du (pv 0) (Bm T) hr dj)) (ai (bK (bf gP (pv 2) (aP T.wR) (bw _)) (aq (aN (pv 2))) aL) (ai (bK (yA (eX (pv 1)) (uJ (bf wx (pv 2) (nP (ag (aP T.Qc) (ag (aP T.FX) (ag (aP T.LM) az)))) Z))).pt (aq (cF T.bt hr.hd)) aL) (aq (aN (pv 2))))),?_⟩;walk;obtain⟨tx,p,⟨dx,ta,hH,hs,hp,hl⟩,k7⟩:=id hc;refine⟨_,Z,r,dx,_,Z,hH,Z,r,aH,Z,hc,?_⟩;cases aH with
  |nil=>exact k
  |cons c cC=>
   intro H1 j9 jO;have k:wb K a E r H Q ZaB (match lu c with
    |none=>none
    |some m=>if ch=true/\m≠ .one then none else some (m,cC)):=k
   refine⟨_,Z,Z,_,Z,?_⟩;by_cases O3:c=33
   ·subst O3;have e:lu 33=some .one:=rfl;rw[e]at k;dsimp only at k;rw[ah (by rintro ⟨_,z⟩;exact z Z)]at k;exact bQ ⟨_,Z,k _ _ j9 jO Z⟩
   rw[ay (by intro z;injection z with z;exact O3 (by omega))];refine bx ⟨_,Z,_,Z,?_⟩;cases ch with
   |true=>
    refine bQ (bQ ?_);have:∀m,lu c=some m->m≠ .one:=fun m hm z=>by
     subst z;unfold lu at hm;rw[ah O3]at hm;repeat (split at hm;first|cases hm|skip)
     all_goals cases hm
    cases em:lu c with
    |none=>rw[em]at k;exact(eU.of k jO).ji
    |some m=>rw[em]at k;dsimp only at k;rw[ak ⟨Z,this m em⟩]at k;exact(eU.of k jO).ji
   |false=>
    refine bx ⟨_,Z,(mr 3),fun q hq=> ⟨q,_,Z,.inr (qU.of au),Z,Z,_,Z,?_⟩⟩;have jc:=j9.dW (o:= .f6 [.int 63,.int 42,.int 37]) hq;have k8:=jO.dW (o:= .f6 [.int 63,.int 42,.int 37]) hq;have U3:EN (V.int (c:Int)) [.int 63,.int 42,.int 37]=(decide (c=63)||decide (c=42)||decide (c=37)):=by unfold EN;simp only[dD,LD,U0];rw[dI];simp;omega
    rw[U3];by_cases h63:c=63
    ·subst h63;exact bx ⟨_,Z,k _ _ jc k8 Z⟩
    by_cases h42:c=42
    ·subst h42;exact bx ⟨_,Z,k _ _ jc k8 Z⟩
    by_cases h37:c=37
    ·subst h37;exact bx ⟨_,Z,k _ _ jc k8 Z⟩
    have em:lu c=none:=by unfold lu;rw[ah O3,ah h63,ah h42,ah h37]
    rw[em]at k;rw[ay h63,ay h42,ay h37];exact bQ (eU.of k k8).ji
theorem Zhp(T:il K mg a){H:Hp}{x:ao}{l:cN}(h:kO a H x l):wu K H (.ref x) (.ref a.jR):=by obtain⟨dx,e⟩:=h;exact .ins e T.wO T.LP.ha T.LP.hn T.LP.htk T.LP.hm
theorem ZeA(T:il K mg a){H:Hp}{x dx:ao}{fs:List (Str×V)}(e:H x=some (.ins a.lZ dx fs)):wu K H (.ref x) (.ref a.lZ):= .ins e T.mJ T.Gs.ha T.Gs.hn T.Gs.htk T.Gs.hm
def ZjW:bW->Bool
 | .leaf _=>true
 | .group _ _=>false
theorem isi(T:il K mg a){H:Hp}{k:bW}{v:V}(h:dZ a H k v):∃t,wu K H v t/\lV K t (.ref a.jR)=some (ZjW k):=by
 cases k with
 |leaf l=>obtain⟨x,rfl,q⟩:=h;exact⟨_,Zhp T q,T.T7⟩
 |group c fs=>obtain⟨x,dx,fl,xs,rfl,h1,_⟩:=h;exact⟨_,ZeA T h1,T.Qo⟩
def okG:bW->Prop
 | .group _ .nil=>False
 |_=>True
inductive ZeB(a:cV)(vs:LV)(H:Hp)(Q:VK)(_:XK):Prop
 |mk (v:_) (k:_) (_:vs=[v]) (_:dZ a H k v) (_:okG k) (_:Q (.bl (fF k).isSome) H)
theorem Zl(T:il K mg a):iW P w K mg base 1 "has_key" Ri (ZeB a):=by
 refine cI T.Rp T.ZbY T.Rp.b1 MK ?_
 ·lk;obtain⟨v,kd,rfl,hk,ok,k⟩:=h;have nd:=MK.nd;refine⟨_,ai (bK (yA (eX (jQ j7 (by rfl) T.jx (by decide +kernel) (ag (pv 0) (ag (tF T.Ef) az)))) (uJ (eX (aI (pv 0) Z)))).pt (aq (aN vm)) aL) (ai (bq (i:=1) nd (iJ fi (aI (pv 0) Z) bL)) (aq (aN (SF (mS gP (aI (pv 1) Z) (aP T.wR) (bw _)) (SE (jQ j7 (by rfl) T.jx (by decide +kernel) (ag (aI (pv 1) Z) (ag (tF T.Ef) az)))))))),?_⟩;walk;obtain⟨t,ty,ki⟩:=isi T hk;refine⟨_,Z,_,_,t,_,Z,ty,ki,_,Z,?_⟩;cases kd with
  |leaf l=>exact bQ (bQ k)
  |group c fs=>
   refine bx ?_;obtain⟨x,dx,fl,xs,rfl,h1,h2,h3⟩:=hk;refine⟨_,Z,x,_,dx,_,_,Z,h1,T.mJ,T.kj,Z,_,Z,?_⟩;cases c with
   |true=>exact bQ k
   |false=>
    refine bx ?_;cases fs with
    |nil=>exact absurd ok (by exact fun z=>z)
    |cons h kd2 rs=>
     obtain⟨p,KS,dx2,np,kv,rfl,g1,g2,g3,g4⟩:=h3;refine⟨_,Z,x,_,dx,_,_,Z,h1,T.mJ,T.jr,Z,fl,_,_,_,Z,Z,ft.of h2,fh (xs:=V.ref p::KS) (j:=0) Z,?_⟩;refine⟨_,Z,p,_,dx2,_,_,Z,g1,T.gF,T.mK,Z,Z,_,Z,?_⟩;obtain⟨t2,ty2,ki2⟩:=isi T g3;by_cases hm:h.mode= .one
     ·rw[hm];refine bQ ⟨_,Z,p,_,dx2,_,_,Z,g1,T.gF,T.iX,Z,_,_,t2,_,Z,ty2,ki2,?_⟩;have e:(fF (.group false (.cons h kd2 rs))).isSome=ZjW kd2:=by
       cases kd2 with
       |leaf l=>simp[fF,hm,ZjW]
       |group _ _=>rfl
      rw[e]at k;exact k
     ·have e1:decide (bV (c9 h.mode)=V.int 33)=false:=by cases e:h.mode<;>first|exact absurd e hm|rfl
      rw[e1];refine bx ?_;have e:(fF (.group false (.cons h kd2 rs))).isSome=false:=by
       cases kd2 with
       |leaf l=>simp[fF,hm]
       |group _ _=>rfl
      rw[e]at k;exact k
end
section
theorem Io{α β:Type}{F:α->β->Prop}{x:α}:∀{l:List α}{m:List β},Paired F (l++[x]) m->∃m' y,m=m'++[y]/\F x y/\Paired F l m'
 |[],_,.cons r .nil=> ⟨[],_,Z,r,.nil⟩
 |_::_,_,.cons r t=>by obtain⟨m',y,e,q,t'⟩:=Io t;exact⟨_::m',y,by rw[e];rfl,q,.cons r t'⟩
inductive ZeC(a:cV)(vs:LV)(H:Hp)(Q:VK)(E:XK):Prop
 |mk (q:ao) (ys:LV) (v:V) (bI:List (cH×bW)) (x:cH×bW) (_:vs=[.ref q,v]) (_:H q=some (.bz ys)) (_:ma a H bI ys) (_:l9 a H x v) (_:bI≠ []) (_:(wY bI x.1=true->Q .ik H)) (_:(wY bI x.1=false->E (.ref a.g9) none H))
theorem Lp(T:il K mg a):iW P w K mg base 1 "check_beside" zf (ZeC a):=by
 refine fI T.Af T.Nr T.Af.b2 xG ?_
 ·lk;obtain⟨q,ys,v,bI,x,rfl,hq,hf,hx,iY,k1,k2⟩:=h;have nd:=xG.nd;refine⟨_,ai (bK (bf BZ (aI (pv 1) Z) (aI (iJ fi (pv 0) (QX HK bL)) Z) (bw _)) (aq (cF T.bt hr.hd)) aL) (aq (lC Mz Z (kT (pv 0)) (gW (i:=2) nd) (aq (bK (bf (Zj hr.units) (aI (pv 2) Z) (aI (pv 1) Z) (bw _)) (aq (cF T.bt hr.hd)) aL)))),?_⟩;walk;obtain⟨p,dx,np,kv,rfl,g1,g2,g3⟩:=hx;obtain⟨QI,z,rfl⟩:∃QI z,bI=QI++[z]:=⟨bI.dropLast,bI.getLast iY,(lh iY).symm⟩;obtain⟨uG,y,rfl,hz,hf'⟩:=Io hf;obtain⟨p2,dx2,np2,kv2,rfl,e1,e2,e3⟩:=hz;have bs:wY (QI++[z]) x.1=(decide (z.1.number<x.1.number)&&(QI++[z]).all fun y=>decide (y.1.name≠x.1.name)):=by unfold wY;rw[EL];rfl
  refine⟨_,Z,p,_,dx,_,_,Z,g1,T.gF,T.qZ,Z,_,Z,_,Z,q,_,_,_,Z,Z,ft.of hq,EX uG (.ref p2),p2,_,dx2,_,_,Z,e1,T.gF,T.qZ,Z,_,_,Z,Z,_,Z,?_⟩;by_cases h1:x.1.number<=z.1.number
  ·rw[aD (by omega:(x.1.number:Int)<=(z.1.number:Int))];exact bQ (k2 (by rw[bs,ay (by omega)];rfl))
  rw[ay (by omega:¬(x.1.number:Int)<=(z.1.number:Int))];rw[aD (by omega),Yd]at bs;refine bx ⟨_,Z,q,Z,⟨_,ft.of hq⟩,lE (K:=K) (a:=q) (xs:=uG++[.ref p2]) (fun i σ H'=> ∃v2,σ=[some (.ref q),some (.ref p),v2]/\H'=H/\((QI++[z]).take i).all (fun y=>decide (y.1.name≠x.1.name))=true) ⟨none,Z,Z,Z⟩ (fun i σ H' _ h9=>by obtain⟨_,_,e,_⟩:=h9;exact by rw[e];exact ft.of hq) ?_ ?_⟩
  ·rintro i v σ H' hi ⟨v2,rfl,rfl,tX⟩;walk;obtain⟨y,hy,p3,Sk,np3,kv3,rfl,f1,f2,f3⟩:=iE hf hi;refine⟨_,Z,p3,_,Sk,_,_,Z,f1,T.gF,T.jC,Z,_,Z,p,_,dx,_,_,Z,g1,T.gF,T.jC,Z,np3,np,_,_,Z,Z,f2,g2,_,Z,?_⟩;by_cases hn:y.1.name=x.1.name
   ·rw[aD hn];refine bQ (k2 ?_);rw[bs,ia];intro hh;have:=fU.mp hh y (bj hy);exact absurd hn (of_decide_eq_true this)
   ·rw[ay hn];refine bx ⟨_,Z,Z,?_⟩;rw[i7 hy,List.all_append,tX];simp[hn]
  ·rintro σ H' ⟨v2,rfl,rfl,tX⟩;walk;have jL:(uG++[V.ref p2]).length=(QI++[z]).length:=(Paired.length hf).symm;rw[jL,gT]at tX;exact k1 (by rw[bs];exact tX)
def r9(a:cV)(k:bW)(v:V)(H:Hp):Prop:=dZ a H k v
def WL(a:cV)(x:cH×bW)(v:V)(H:Hp):Prop:=l9 a H x v
inductive WM(K:ae)(a:cV)(n:Nat)(pk:RK)(vs:LV)(H:Hp)(Q:VK)(E:XK):Prop
 |mk (r:ao) (aH:LN) (d:Nat) (_:vs=[.ref r,bV d]) (_:d+n=6) (_:jU K a H r aH) (_:wb K a E r H Q (r9 a) (pk aH))
inductive LR(K:ae)(a:cV)(n:Nat)(vs:LV)(H:Hp)(Q:VK)(E:XK):Prop
 |mk (r:ao) (aH:LN) (d:Nat) (_:vs=[.ref r,bV d]) (_:d+n=7) (_:jU K a H r aH) (_:wb K a E r H Q (r9 a) (iq n aH))
theorem wb.SH{α:Type}{E:XK}{r:ao}{H:Hp}{Q:VK}{rep:α->V->Hp->Prop}{o:Option (α×LN)}(k:wb K a E r H Q rep o)(e:o=none):eU a E r H:=by rw[e]at k;exact k
theorem wb.ZiB{α:Type}{E:XK}{r:ao}{H H2:Hp}{Q:VK}{rep:α->V->Hp->Prop}{o:Option (α×LN)}(k:wb K a E r H Q rep o)(kp:cQ r H H2)(nr:H2 r≠none)(m8:∀x v G G',aS G G'->rep x v G->rep x v G'):wb K a E r H2 Q rep o:=by
 cases o with
 |none=>exact eU.of k kp
 |some y=>exact fun v H' h1 h2 h3=>k v H' h1 (kp.trans h2) (m8 _ _ _ _ (cu.left fun b=>kp.new nr) h3)
theorem wb.map{α β:Type}{E:XK}{r:ao}{H:Hp}{Q:VK}{rep:β->V->Hp->Prop}{f:α->β}{o:Option (α×LN)}(k:wb K a E r H Q rep (o.map fun x=> (f x.1,x.2))):wb K a E r H Q (fun x=>rep (f x)) o:=by
 cases o with
 |none=>exact k
 |some y=>exact k
theorem RB:∀(x:bW)(v:V)(G G':Hp),aS G G'->r9 a x v G->r9 a x v G':=fun _ _ _ _ s h=>dZ.same s _ _ h
theorem Uj(T:il K mg a){n:Nat}(G:iW P w K mg base (3*n+10) "read_group" nS (LR K a n)):iW P w K mg base (3*n+11) "read_kind" uq (WM K a n (iS n)):=by
 refine fI T.Ke T.Wt T.Ke.b2 S3 ?_
 ·lk;obtain⟨r,aH,d,rfl,hdn,hc,k⟩:=h;refine⟨_,ai (bK (bf o6 (du (pv 0) (vL T) hr bh (by omega)) (nP (ag (aP T.wN) (ag (aP T.Ng) az))) Z) (aq (aN (ba G hr dj (ag (pv 0) (ag (iu kM (pv 1) bL) az)) (by rfl) (aC _)))) aL) (aq (aN (ba (Ug T) hr dj (ag (pv 0) az) (by rfl) (by omega)))),?_⟩;walk;obtain⟨tx,p,⟨dx,ta,hH,hs,hp,hl⟩,k7⟩:=id hc;refine⟨_,Z,r,dx,_,Z,hH,Z,r,aH,Z,hc,(mr 2),fun q hq=> ⟨q,_,Z,.inr (qU.of au),Z,Z,_,Z,?_⟩⟩;have jc:=hc.dW (o:= .f6 [.int 123,.int 60]) hq;have k8:cQ r H (bp H q (.f6 [.int 123,.int 60])):=(cQ.refl r H).dW hq;generalize bp H q (.f6 [.int 123,.int 60])=H2 at jc k8;have U3:EN (V.int (hd aH)) [.int 123,.int 60]=decide (aH.head?=some 123\/aH.head?=some 60):=by have h1:(hd aH=123)↔aH.head?=some 123:=Rz (c:=123);have h2:(hd aH=60)↔aH.head?=some 60:=Rz (c:=60);unfold EN;simp only[dD,LD,U0];rw[dI];simp;rw[<-h1,<-h2];constructor<;> (intro h;omega)
  rw[U3];by_cases hg:aH.head?=some 123\/aH.head?=some 60
  ·rw[aD hg];have k:wb K a E r H Q (r9 a) (if aH.head?=some 123\/aH.head?=some 60 then iq n aH else _):=k;rw[ak hg]at k;exact bQ ⟨_,Z,_,Z,_,_,Z,Z,r,aH,d+1,Z,by omega,jc,k.ZiB k8 jc.there RB⟩
  ·rw[ay hg];have k:wb K a E r H Q (r9 a) (if aH.head?=some 123\/aH.head?=some 60 then iq n aH else(kD aH).map fun x=> (.leaf x.1,x.2)):=k;rw[ah hg]at k;exact bx ⟨_,Z,r,aH,Z,jc,wb.map (f:=fun l=>iU l) (rep:=r9 a) (k.ZiB k8 jc.there RB)⟩
theorem WN{pk:RK}{c:Bool}:∀{f:Nat}{bI:List (cH×bW)}{t:LN}{xs:List (cH×bW)}{s:LN},mO pk c f bI t=some (xs,s)->bI≠ []->xs≠ []
 |0,_,_,_,_,h,_=>by cases h
 |f+1,bI,t,xs,s,h,iY=>by
  unfold mO at h;by_cases BN:t.head?=some 59
  ·rw[ak BN]at h;cases e:jm pk c t.tail with
   |none=>rw[e]at h;cases h
   |some y=>
    obtain⟨y,u⟩:=y;rw[e]at h;dsimp only at h;by_cases hb:wY bI y.1=true
    ·rw[ak hb]at h;exact WN h (by simp)
    ·rw[ah hb]at h;cases h
  ·rw[ah BN]at h;have:=aA bU (af h);have e:bI=xs:=this;rw[<-e];exact iY
theorem WO{pk:RK}{c:Bool}{t s:LN}{k:bW}(h:qH pk c t=some (k,s)):okG k:=by
 unfold qH at h;cases e:jm pk c t with
 |none=>rw[e]at h;cases h
 |some y=>
  obtain⟨y,u⟩:=y;rw[e]at h;dsimp only at h;cases e2:mO pk c (u.length+1) [y] u with
  |none=>rw[e2]at h;cases h
  |some z=>
   obtain⟨xs,u2⟩:=z;rw[e2]at h;dsimp only at h;by_cases hz:u2.head?=some (bP c)
   ·rw[ak hz]at h;have:=aA bU (af h);have e3:ua c (fieldsOf xs)=k:=this;rw[<-e3];have ne:=WN e2 (by simp);cases xs with
    |nil=>exact absurd Z ne
    |cons x r=>exact trivial
   ·rw[ah hz]at h;cases h
theorem ZeD{n:Nat}{t s:LN}{k:bW}(h:iS n t=some (k,s)):okG k:=by
 unfold iS mw at h;by_cases hg:t.head?=some 123\/t.head?=some 60
 ·rw[ak hg]at h;cases n with
  |zero=>cases h
  |succ n=>
   unfold iq at h;by_cases h1:t.head?=some 60
   ·rw[ak h1]at h;exact WO h
   ·rw[ah h1]at h;by_cases h2:t.head?=some 123
    ·rw[ak h2]at h;exact WO h
    ·rw[ah h2]at h;cases h
 ·rw[ah hg]at h;cases e:kD t with
  |none=>rw[e]at h;cases h
  |some y=>rw[e]at h;have:=aA bU (af h);have e3:iU y.1=k:=this;rw[<-e3];exact trivial
end
section
inductive ZaC(K:ae)(a:cV)(n:Nat)(vs:LV)(H:Hp)(Q:VK)(E:XK):Prop
 |mk (r:ao) (aH:LN) (c:Bool) (d:Nat) (_:vs=[.ref r,.bl c,bV d]) (_:d+n=6) (_:jU K a H r aH) (_:wb K a E r H Q (WL a) (jm (iS n) c aH))
theorem eZ{r:ao}{H H1 H2:Hp}(k:cQ r H1 H2)(hr:H r≠none):aS (cu H H1) (cu H H2):=cu.right fun b o e q=>k.all b o q fun z=>by rw[z]at e;exact hr e
theorem Zhq(m:eS)(k:bW)(t:LN):vN true m k (61::t)=none:=by unfold vN;rw[ak (show(61::t).head?=some 61 from Z)]
theorem ZjY{m:eS}(k:bW)(t:LN)(hm:m≠ .one):vN false m k (61::t)=none:=by unfold vN;rw[ak (show(61::t).head?=some 61 from Z)];cases m<;>first|exact absurd rfl hm|rfl
theorem ZjZ(c:Bool)(fs:Zvn)(t:LN):vN false .one (.group c fs) (61::t)=none:=by unfold vN;rw[ak (show(61::t).head?=some 61 from Z)]
theorem Zj0(l:cN)(t:LN):vN false .one (.leaf l) (61::t)=(kP l t).map fun x=> (some x.1,x.2):=by unfold vN;rw[ak (show(61::t).head?=some 61 from Z)];rfl
theorem Qs(T:il K mg a){n:Nat}(G:iW P w K mg base (3*n+11) "read_kind" uq (WM K a n (iS n))):iW P w K mg base (3*n+12) "read_field" wD (ZaC K a n):=by
 refine fI T.F6 T.TU T.F6.b3 Co ?_
 ·lk;obtain⟨r,aH,ch,d,rfl,hdn,hc,k⟩:=h;have nd:=Co.nd;refine⟨_,ai (bq (i:=3) nd (fD (pv 0) (tK T) hr dj (ag bL az) (by omega))) (ai (bK (bf gP (pv 3) bL (bw _)) (aq (cF T.bt hr.hd)) aL) (ai (bq (i:=4) nd (du (pv 0) (l8 T) hr dj (by omega))) (ai (bq (i:=5) nd (ba (Ui T) hr dj (ag (pv 0) (ag (pv 1) az)) (by rfl) (by omega))) (ai (bq (i:=6) nd (ba G hr dj (ag (pv 0) (ag (pv 2) az)) (by rfl) (aC _))) (ai (bK (HH (bf gP (pv 5) (aP T.LM) (bw _)) (A9 (wt (eX (ba (Zl T) hr bh (ag (pv 6) az) (by rfl) (by omega)))))).pt (aq (cF T.bt hr.hd)) aL) (ai (bK (eX (fD (pv 0) (kJ T) hr bh (ag (aP T.Nh) az) (by omega))) (ai (bK (yA (eX (pv 1)) (yA (bf BY (pv 5) (aP T.wR) (bw _)) (uJ (wt (eX (jQ j7 (by rfl) T.jx (by decide +kernel) (ag (pv 6) (ag (tF T.Ef) az)))))))).pt (aq (cF T.bt hr.hd)) aL) (aq (dm (ba (m4 T) hr dj (ag (pv 0) (ag (pv 6) az)) (by rfl) (by omega))))) aL) (aq (aN (ie (Qq T) hr bh (ag (pv 3) (ag (pv 4) (ag (pv 5) (ag (pv 6) az)))) (by rfl) (by omega)))))))))),?_⟩;walk;obtain⟨tx,p,⟨dx,ta,hH,hs,hp,hl⟩,k7⟩:=id hc;refine⟨_,Z,r,dx,_,Z,hH,Z,r,aH,3,Z,hc,fun hb=>?_,fun hg H1 j9 jO=>?_⟩
  ·have ed:pq 3 aH=none:=ak hb;refine k.SH ?_;unfold jm;rw[ed]
  have ed:pq 3 aH=some (cS (aH.takeWhile aJ),aH.dropWhile aJ):=ah hg;generalize cS (aH.takeWhile aJ)=num at ed⊢;generalize aH.dropWhile aJ=t1 at ed j9;have pf:jm (iS n) ch aH=(if num=0 then none else if bF (t1.takeWhile ax)=false then none else match Gz ch (t1.dropWhile ax)with
   |none=>none
   |some (m,t3)=>match iS n t3 with
    |none=>none
    |some (k,t4)=>if m= .keyed/\(fF k).isNone=true then none else match vN ch m k t4 with
     |none=>none
     |some (d,t5)=>some (({number:=num,name:=t1.takeWhile ax,mode:=m,dflt:=d},k),t5)):=by
   unfold jm;rw[ed];try rfl
  rw[pf]at k;refine⟨_,Z,Z,_,Z,?_⟩;by_cases h0:num=0
  ·rw[ak h0]at k;rw[aD (by rw[h0];rfl:V.int (num:Int)=V.int 0)];exact bQ (eU.of k jO).ji
  rw[ah h0]at k;rw[ay (by intro z;injection z with z;exact h0 (by omega):¬V.int (num:Int)=V.int 0)];obtain⟨_,_,⟨dx1,ta1,EC,_⟩,_⟩:=id j9;refine bx ⟨_,Z,r,dx1,_,Z,EC,Z,r,t1,Z,j9,fun hb=>?_,fun hg2 H2 np Zp3 hnp jc k8=>?_⟩
  ·rw[ak hb]at k;exact eU.of k jO
  rw[ah (by rw[hg2];exact aK)]at k;generalize t1.dropWhile ax=t2 at k jc;generalize t1.takeWhile ax=nm at k hnp;have O4:=jO.trans k8;have npr:np≠r:=by obtain⟨_,_,e⟩:=jc.rd;exact vk hnp e (by intro z;cases z)
  refine⟨_,Z,_,Z,r,t2,ch,Z,jc,?_⟩;cases em:Gz ch t2 with
  |none=>rw[em]at k;exact eU.of k O4
  |some y=>
  obtain⟨m,t3⟩:=y;rw[em]at k;dsimp only at k;intro v H3 oA OP ev;cases ev;have sq:=O4.trans OP;refine⟨_,Z,_,Z,r,t3,d,Z,hdn,oA,?_⟩;cases ek:iS n t3 with
  |none=>rw[ek]at k;exact eU.of k sq
  |some y=>
  obtain⟨kd,t4⟩:=y;rw[ek]at k;dsimp only at k;intro kv H4 x8 oz hkv;have hkv:dZ a (cu H3 H4) kd kv:=hkv;have L3:=sq.trans oz;have k24:=OP.trans oz;have ZkN:dZ a H4 kd kv:=dZ.same (cu.sub _ _) _ _ hkv;have okg:=ZeD ek;have tail:∀(H5:Hp)(dl:Option gK)(t5:LN),jU K a H5 r t5->cQ r H4 H5->wb K a E r H Q (WL a) (some (({number:=num,name:=nm,mode:=m,dflt:=dl},kd),t5))->(Zbr (Vq a.kU (o8 a.kU Az) [] E0 (nO (m7 3) (nO (m7 4) (nO (m7 5) (nO (m7 6) yD)))))) {nx:=fun _ H'=>Q .ik H',rt:=Q} [some (.ref r),some (.bl ch),some (bV d),some (bV num),some (.ref np),some (bV (c9 m)),some kv] H5:=fun H5 dl t5 U6 Hm kk=>by
    refine⟨_,Z,_,Z,_,Z,_,Z,fun x xZ nx Yq ne=> ⟨x,xZ,_,Z,Z,au,Z,?_⟩⟩;rw[fC];have sm:aS H5 (bp (bp H5 xZ (.own x)) x (.ins a.kU xZ (Az.zip [bV num,.ref np,bV (c9 m),kv]))):=kX nx Yq;have I0:=L3.trans Hm;have Zp4:H5 np=some (.f6 (iz nm)):=(k24.trans Hm).all _ _ hnp npr;have npn:H np=none:=jO.new j9.there Zp3;refine kk (.ref x) _ (U6.same sm) (I0.trans (aS.keep sm)) ⟨x,xZ,np,kv,Z,?_,?_,?_⟩
    ·rw[cu.at (I0.new U6.there nx),au];rfl
    ·rw[cu.at npn];exact sm _ _ Zp4
    ·refine dZ.same ?_ _ _ hkv;intro b o e;have q1:=(eZ Hm oA.there) b o e;have q2:=(cu.right (H:=H3) (fun b o _ q=>sm b o q)) b o q1;exact(cu.left fun b=>sq.new oA.there) b o q2
  refine⟨_,Z,Z,_,Z,?_⟩;by_cases rj:m= .keyed/\(fF kd).isNone=true
  ·rw[ak rj]at k;rw[rj.1];refine bQ ⟨_,Z,kv,kd,Z,ZkN,okg,_,Z,?_⟩;have e:(fF kd).isSome=false:=by
    cases q:fF kd with
    |none=>rfl
    |some z=>rw[q]at rj;cases rj.2
   rw[e];exact bQ (eU.of k L3).ji
  rw[ah rj]at k;refine(fun go=>Pe (fun h=>?_) (fun _=>go)) ?_
  ·have e:m= .keyed:=by cases m<;>first|rfl|exact absurd h (by decide)
   refine⟨_,Z,kv,kd,Z,ZkN,okg,_,Z,?_⟩;have e2:(fF kd).isSome=true:=by
    cases q:fF kd with
    |none=>exact absurd ⟨e,by rw[q];rfl⟩ rj
    |some z=>rfl
   rw[e2];exact go
  refine bx ?_;obtain⟨_,_,⟨dx4,ta4,hH4,_⟩,_⟩:=id x8;refine⟨_,Z,r,dx4,_,Z,hH4,Z,r,t4,61,Z,x8,fun t5 et H5 U6 Hm=>?_,fun iY=>?_⟩
  ·subst et;refine⟨_,Z,bQ ⟨_,Z,_,Z,?_⟩⟩;have I0:=L3.trans Hm;cases ch with
   |true=>rw[Zhq]at k;exact bQ (bQ (eU.of k I0).ji)
   |false=>
   refine bx ⟨_,Z,Z,_,Z,?_⟩;by_cases hm:m= .one
   ·subst hm;refine bx ?_;obtain⟨t,ty,ki⟩:=isi T ZkN;have Zns:dZ a H5 kd kv:=by refine dZ.same ?_ _ _ hkv;intro b o e;exact cu.sub _ _ b o ((eZ Hm oA.there) b o e)
    obtain⟨t,ty,ki⟩:=isi T Zns;refine⟨_,Z,_,_,t,_,Z,ty,ki,_,Z,?_⟩;cases kd with
    |group c fs=>rw[ZjZ]at k;exact bQ (eU.of k I0).ji
    |leaf l=>
     refine bx ?_;rw[Zj0]at k;obtain⟨xl,rfl,hxl⟩:=Zns;refine⟨_,Z,_,Z,r,t5,xl,l,Z,U6,hxl,?_⟩;cases el:kP l t5 with
     |none=>rw[el]at k;exact eU.of k I0
     |some y=>obtain⟨lv,t6⟩:=y;rw[el]at k;intro v H6 ZW kp6 _;exact tail H6 (some lv) t6 ZW (Hm.trans kp6) k
   ·have e1:decide (bV (c9 m)=V.int 33)=false:=by cases e:m<;>first|exact absurd e hm|rfl
    have e2:(!decide (bV (c9 m)=V.int 33))=true:=by rw[e1];rfl
    rw[e2];refine bQ (bQ ?_);rw[ZjY _ _ hm]at k;exact(eU.of k I0).ji
  ·refine⟨_,Z,bx ?_⟩;have e:vN ch m kd t4=some (none,t4):=by unfold vN;rw[ah iY]
   rw[e]at k;exact tail H4 none t4 x8 (cQ.refl r H4) k
end
theorem NK(p:Nat->Bool):∀t:LN,(t.dropWhile p).length<=t.length
 |[]=>aC _
 |c::r=>by
  rw[nA];split
  ·exact Nat.le_succ_of_le (NK p r)
  ·exact aC _
theorem ZiC{p:Nat->Bool}{t:LN}(h:t.takeWhile p≠ []):(t.dropWhile p).length<t.length:=by
 cases t with
 |nil=>exact absurd Z h
 |cons c r=>
  rw[nu]at h;rw[nA];split at h
  ·rename_i e;rw[ak e];exact Nat.lt_succ_of_le (NK p r)
  ·exact absurd Z h
theorem Bp{m n:Nat}{t s:LN}(h:pq m t=some (n,s)):s.length<t.length:=by
 unfold pq at h;split at h
 ·cases h
 ·rename_i hz;have e:t.dropWhile aJ=s:=aA bo (af h);rw[<-e];exact ZiC fun z=>hz (.inl z)
theorem dS{t:LN}{c:Nat}(h:t.head?=some c):t.tail.length<t.length:=by
 cases t with
 |nil=>cases h
 |cons d r=>simp
theorem WQ{lo hi n:Nat}{t s:LN}(h:lL lo hi t=some (n,s)):s.length<t.length:=by
 unfold lL eF at h;dsimp only at h;split at h
 ·cases h
 ·rename_i n' s' e;split at e
  ·cases e
  ·rename_i hz;have e1:t.dropWhile aJ=s':=aA bo (af e);split at h
   ·have e2:s'=s:=aA bo (af h);rw[<-e2,<-e1];exact ZiC fun z=>hz (.inl z)
   ·cases h
theorem NL{l:cN}{t s:LN}(h:kD t=some (l,s)):s.length<t.length:=by
 unfold kD at h;split at h
 ·have e:_=s:=aA bo (af h);rw[<-e];simp
 ·rename_i r;cases e:lL 2 64 r with
  |none=>rw[e]at h;cases h
  |some y=>rw[e]at h;have e2:y.2=s:=aA bo (af h);have:=WQ (n:=y.1) (s:=y.2) e;rw[<-e2];simp;omega
 ·rename_i r;cases e:lL 1 999 r with
  |none=>rw[e]at h;cases h
  |some y=>rw[e]at h;have e2:y.2=s:=aA bo (af h);have:=WQ (n:=y.1) (s:=y.2) e;rw[<-e2];simp;omega
 ·cases h
theorem ZmC:∀(n:Nat)(t x s:LN),t.length<=n->bH t=some (x,s)->s.length<t.length:=by
 intro n;induction n with
 |zero=>
  intro t x s hl h;cases t with
  |nil=>rw[Bo]at h;cases h
  |cons c r=>simp at hl
 |succ n ih=>
  intro t x s hl h;rw[Bo]at h;split at h
  ·rename_i ZV;have e:t.tail=s:=aA bo (af h);rw[<-e];exact dS ZV
  ·split at h
   ·cases h
   ·rename_i b r eb;have l1:=Im eb;cases e:bH r with
    |none=>rw[e]at h;cases h
    |some y=>rw[e]at h;have e2:y.2=s:=aA bo (af h);have:=ih r y.1 y.2 (by omega) e;rw[<-e2];omega
theorem ZeE{n:Nat}{t x s:LN}(h:vM n t=some (x,s)):s.length<t.length:=by
 unfold vM at h;split at h
 ·rename_i r;split at h
  ·cases h
  ·rename_i y u e;split at h
   ·have e2:u=s:=aA bo (af h);have:=ZmC r.length r y u (aC _) e;rw[<-e2];simp;omega
   ·cases h
 ·cases h
theorem Zb9{lo hi z:Int}{t s:LN}(h:mv lo hi t=some (z,s)):s.length<t.length:=by
 unfold mv at h;split at h
 ·rename_i h45;split at h
  ·cases h
  ·rename_i n u e;have l1:=Bp e;have l2:=dS h45;split at h
   ·cases h
   ·split at h
    ·cases h
    ·have e2:u=s:=aA bo (af h);rw[<-e2];omega
 ·split at h
  ·cases h
  ·rename_i n u e;have l1:=Bp e;split at h
   ·cases h
   ·have e2:u=s:=aA bo (af h);rw[<-e2];omega
theorem LU{l:cN}{x:gK}{t s:LN}(h:kP l t=some (x,s)):s.length<t.length:=by
 unfold kP at h;split at h
 ·rename_i n;cases e:vM n t with
  |none=>rw[e]at h;cases h
  |some y=>rw[e]at h;have e2:y.2=s:=aA bo (af h);rw[<-e2];exact ZeE e
 ·cases e:mv (pd l) (pj l) t with
  |none=>rw[e]at h;cases h
  |some y=>rw[e]at h;have e2:y.2=s:=aA bo (af h);rw[<-e2];exact Zb9 e
theorem GB{c:Bool}{m:eS}{t s:LN}(h:Gz c t=some (m,s)):s.length<t.length:=by
 unfold Gz at h;split at h
 ·cases h
 ·split at h
  ·cases h
  ·split at h
   ·cases h
   ·have e2:_=s:=aA bo (af h);rw[<-e2];simp
theorem Uk{c:Bool}{m:eS}{k:bW}{t s:LN}{d:Option gK}(h:vN c m k t=some (d,s)):s.length<=t.length:=by
 unfold vN at h;split at h
 ·rename_i L4;split at h
  ·rename_i l;cases e:kP l t.tail with
   |none=>rw[e]at h;cases h
   |some y=>rw[e]at h;have e2:y.2=s:=aA bo (af h);have:=LU (x:=y.1) (s:=y.2) e;have:=dS L4;rw[<-e2];omega
  ·cases h
 ·have e2:t=s:=aA bo (af h);rw[<-e2];exact aC _
def Shr(pk:RK):Prop:=∀t k s,pk t=some (k,s)->s.length<t.length
theorem px{pk:RK}(hp:Shr pk){c:Bool}{x:cH×bW}{t s:LN}(h:jm pk c t=some (x,s)):s.length<t.length:=by
 unfold jm at h;split at h
 ·cases h
 ·rename_i n t1 e1;split at h
  ·cases h
  ·split at h
   ·cases h
   ·split at h
    ·cases h
    ·rename_i m t3 e3;split at h
     ·cases h
     ·rename_i k t4 e4;split at h
      ·cases h
      ·split at h
       ·cases h
       ·rename_i d t5 e5;have e:t5=s:=aA bo (af h);have l1:=Bp e1;have l2:=NK ax t1;have l3:=GB e3;have l4:=hp _ _ _ e4;have l5:=Uk e5;rw[<-e];omega
theorem WR{pk:RK}(hp:Shr pk){c:Bool}:∀{f:Nat}{bI xs:List (cH×bW)}{t s:LN},mO pk c f bI t=some (xs,s)->s.length<=t.length
 |0,_,_,_,_,h=>by cases h
 |f+1,bI,xs,t,s,h=>by
  unfold mO at h;split at h
  ·rename_i BN;split at h
   ·cases h
   ·rename_i x u e;split at h
    ·have l1:=WR hp h;have l2:=px hp e;have l3:=dS BN;omega
    ·cases h
  ·have e:t=s:=aA bo (af h);rw[<-e];exact aC _
theorem WS{pk:RK}(hp:Shr pk){c:Bool}{k:bW}{t s:LN}(h:qH pk c t=some (k,s)):s.length<t.length:=by
 unfold qH at h;split at h
 ·cases h
 ·rename_i x t2 e1;split at h
  ·cases h
  ·rename_i xs t3 e2;split at h
   ·rename_i hz;have e:t3.tail=s:=aA bo (af h);have l1:=px hp e1;have l2:=WR hp e2;have l3:=dS hz;rw[<-e];omega
   ·cases h
theorem RD:∀n,Shr (iq n)
 |0,_,_,_,h=>by cases h
 |n+1,t,k,s,h=>by
  have ih:=RD n;have hk:Shr (mw (iq n)):=fun t k s h=>by
   unfold mw at h;split at h
   ·exact ih _ _ _ h
   ·cases e:kD t with
    |none=>rw[e]at h;cases h
    |some y=>rw[e]at h;have e2:y.2=s:=aA bo (af h);rw[<-e2];exact NL e
  unfold iq at h;split at h
  ·rename_i Hn;have:=WS hk h;have:=dS Hn;omega
  ·split at h
   ·rename_i A5;have:=WS hk h;have:=dS A5;omega
   ·cases h
theorem jV(n:Nat):Shr (iS n):=fun t k s h=>by
 unfold iS mw at h;split at h
 ·exact RD n _ _ _ h
 ·cases e:kD t with
  |none=>rw[e]at h;cases h
  |some y=>rw[e]at h;have e2:y.2=s:=aA bo (af h);rw[<-e2];exact NL e
section
theorem cu.Zj1{H1 H2 R:Hp}(h:∀b o,H1 b=none->H2 b=some o->R b=none):aS (cu H1 H2) (cu R H2):=fun b o e=>by
 have e2:=cu.sub _ _ b o e;have e1:H1 b=none:=by
  unfold cu at e;cases q:H1 b with
  |none=>rfl
  |some u=>rw[q]at e;cases e
 rw[cu.at (h b o e1 e2)];exact e2
theorem Zm(pk:RK)(c:Bool)(f:Nat)(bI:List (cH×bW))(t:LN):mO pk c (f+1) bI (59::t)=(match jm pk c t with
  |none=>none
  |some (x,s)=>if wY bI x.1 then mO pk c f (bI++[x]) s else none):=by
 rw[mO,ak (show(59::t).head?=some 59 from Z)];rfl
theorem Zcb(pk:RK)(c:Bool){f:Nat}(bI:List (cH×bW)){t:LN}(h:t.head?≠some 59)(hf:0<f):mO pk c f bI t=some (bI,t):=by
 cases f with
 |zero=>exact absurd hf (eW _)
 |succ f=>rw[mO,ah h]
theorem Zcc(T:il K mg a):iW P w K mg base 10 "read_group" nS (LR K a 0):=by
 refine fI T.rX T.FY T.rX.b2 uQ ?_
 ·lk;obtain⟨r,aH,d,rfl,hdn,hc,k⟩:=h;refine⟨_,ai (bK (bf oP (pv 1) (aP T.FW) (bw _)) (aq (cF T.bt hr.hd)) aL) Ba,?_⟩;walk;refine⟨_,Z,_,_,Z,Z,_,Z,?_⟩;rw[aD (by omega:(6:Int)< (d:Int))];exact bQ (eU.ji k)
theorem Zcd(T:il K mg a){n:Nat}(GF:iW P w K mg base (3*n+12) "read_field" wD (ZaC K a n)):iW P w K mg base (3*(n+1)+10) "read_group" nS (LR K a (n+1)):=by
 refine fI T.rX T.FY T.rX.b2 uQ ?_
 ·lk;obtain⟨r,aH,d,rfl,hdn,hc,k⟩:=h;have nd:=uQ.nd;have hj:3*n+12<=3*(n+1)+9:=by omega
  have ZkP:∃t,KZ (uf (Be P w) P w K mg base wC "read_group" (aE lY) a.rQ la A bC s H E) ((ic lY).drop 6) t/\∀(H1 R:Hp)(c:Bool)(t1:LN)(q:ao)(v4:Option V)(bI:List (cH×bW))(ys:LV),jU K a H1 r t1->cQ r H H1->H q=none->H1 q=some (.bz ys)->ma a (cu R H1) bI ys->(∀b,R b=none->H b=none)->wb K a E r H Q (r9 a) (some (.group c (fieldsOf bI),t1))->t {nx:=fun _ H'=>Q .ik H',rt:=Q} [some (.ref r),some (bV d),some (.bl c),some (.ref q),v4] H1:=by
   refine⟨_,aq (aN (ie (Qp T) hr bh (ag (pv 2) (ag (pv 3) az)) (by rfl) (by omega))),?_⟩;intro H1 R c t1 q v4 bI ys j9 jO Hq hq hf hR k;refine⟨_,Z,_,Z,fun x xZ nx Yq ne=> ⟨x,xZ,_,Z,Z,au,Z,?_⟩⟩;rw[fC];have sm:aS H1 (bp (bp H1 xZ (.own x)) x (.ins a.lZ xZ (NG.zip [.bl c,.ref q]))):=kX nx Yq;refine k (.ref x) _ (j9.same sm) (jO.trans (aS.keep sm)) ⟨x,xZ,q,ys,Z,?_,?_,?_⟩
   ·rw[cu.at (jO.new j9.there nx),au];rfl
   ·rw[cu.at Hq];exact sm _ _ hq
   ·refine ma.at (hf.same fun b o e=>?_);have q1:=(cu.right (H:=R) (fun b o _ q=>sm b o q)) b o e;exact(cu.left hR) b o q1
  obtain⟨te,pe,he⟩:=ZkP;have body:∃t,KZ (uf (Be P w) P w K mg base wC "read_group" (aE lY) a.rQ la A bC s H E) ((ic lY).drop 3) t/\∀(H1:Hp)(c:Bool)(t1:LN),jU K a H1 r t1->cQ r H H1->wb K a E r H Q (r9 a) (qH (iS n) c t1)->t {nx:=fun _ H'=>Q .ik H',rt:=Q} [some (.ref r),some (bV d),some (.bl c),none,none] H1:=by
   refine⟨_,ai (bq (i:=3) nd (dO (ag (ba GF hr dj (ag (pv 0) (ag (pv 2) (ag (pv 1) az))) (by rfl) hj) az))) (ai (qc Mz (eX (fD (pv 0) (kJ T) hr bh (ag (aP T.J3) az) (by omega))) (ai (bq (i:=4) nd (ba GF hr dj (ag (pv 0) (ag (pv 2) (ag (pv 1) az))) (by rfl) hj)) (ai (dm (ba (Lp T) hr dj (ag (pv 3) (ag (pv 4) az)) (by rfl) (by omega))) (aq (dm (ui b9 cA cB jq (pv 3) (ag (pv 4) az))))))) (ai (dm (fD (pv 0) (mZ T) hr dj (ag (yB (eX (pv 2)) (aP T.Bh) (aP T.va)) az) (by omega))) pe)),?_⟩;intro H1 c t1 j9 jO k;walk;unfold qH at k;refine⟨_,Z,_,Z,_,Z,r,t1,c,d,Z,by omega,j9,?_⟩;cases e1:jm (iS n) c t1 with
   |none=>rw[e1]at k;exact eU.of k jO
   |some y=>
   obtain⟨x,t2⟩:=y;rw[e1]at k;dsimp only at k;intro v H2 jc k8 hv;have hv:l9 a (cu H1 H2) x v:=hv;refine⟨(mr 1),fun q hq=>?_⟩;have O4:=jO.trans k8;have Hq:H q=none:=O4.new jc.there hq;have hR:∀b,H b=none->b≠q->(bp H q (.bz [])) b=none:=fun b e z=>by rw[aF z];exact e
   obtain⟨_,_,hH⟩:=hc.rd;have yr:(bp H q (.bz [])) r≠none:=by rw[aF (aR hH Hq),hH];exact fun z=>by cases z
   have L5:∀(G:Hp)(o:HO),cu (bp H q (.bz [])) (bp G q o)=cu (bp H q (.bz [])) G:=fun G o=>by
    funext b;by_cases z:b=q
    ·subst z;unfold cu;rw[au]
    ·unfold cu;rw[aF z,aF z]
   have U7:∀b,(bp H q (.bz [])) b=none->H b=none:=fun b e=>by
    by_cases z:b=q
    ·rw[z];exact Hq
    ·rw[aF z]at e;exact e
   generalize bp H q (.bz [])=R at hR yr L5 U7;have Zbh:=jc.len;refine⟨fun m σ H3=> ∃(v4:Option V)(bI:List (cH×bW))(ys:LV)(t3:LN)(f:Nat),σ=[some (.ref r),some (bV d),some (.bl c),some (.ref q),v4]/\t3.length=m/\jU K a H3 r t3/\H3 q=some (.bz ys)/\ma a (cu R H3) bI ys/\bI≠ []/\cQ r H H3/\t3.length<f/\mO (iS n) c (t2.length+1) [x] t2=mO (iS n) c f bI t3/\bI.length+t3.length<=17001,⟨_,none,[x],[v],t2,t2.length+1,Z,Z,jc.dW hq,au,?_,by simp,O4.dW hq,bT _,Z,by simp;omega⟩,?_⟩
   ·refine .cons (hv.same ?_) .nil;rw[L5];exact cu.Zj1 fun b o e e2=>hR b (jO.new j9.there e) fun z=>by rw[z,hq]at e2;cases e2
   rintro m σ H3 ⟨v4,bI,ys,t3,f,rfl,rfl,oA,mE,hf3,iY,sq,hfu,gO,jL⟩;walk;obtain⟨_,_,⟨Sk,ta3,ES,_⟩,_⟩:=id oA;have Hx:q≠r:=vk mE ES (by intro z;cases z);refine⟨_,Z,r,Sk,_,Z,ES,Z,r,t3,59,Z,oA,fun t4 et H4 x8 oz=>?_,fun Znt=>?_⟩
   ·subst et;obtain⟨f,rfl⟩:∃f',f=f'+1:=⟨f-1,by simp at hfu;omega⟩;rw[Zm]at gO;refine⟨_,Z,bQ ⟨fun σ' H'=> ∃(v4:Option V)(bI:List (cH×bW))(ys:LV)(t3:LN)(f:Nat),σ'=[some (.ref r),some (bV d),some (.bl c),some (.ref q),v4]/\t3.length< (59::t4).length/\jU K a H' r t3/\H' q=some (.bz ys)/\ma a (cu R H') bI ys/\bI≠ []/\cQ r H H'/\t3.length<f/\mO (iS n) c (t2.length+1) [x] t2=mO (iS n) c f bI t3/\bI.length+t3.length<=17001,fun σ' H' h9=>by obtain⟨v4,bI,ys,t3,f,h1,h2,h3⟩:=h9;exact⟨t3.length,h2,v4,bI,ys,t3,f,h1,Z,h3⟩,?_⟩⟩;walk;have L3:=sq.trans oz;refine⟨_,Z,_,Z,_,Z,r,t4,c,d,Z,by omega,x8,?_⟩;cases e5:jm (iS n) c t4 with
    |none=>rw[e5]at gO;rw[gO]at k;exact eU.of k L3
    |some y=>
    obtain⟨x5,t5⟩:=y;rw[e5]at gO;dsimp only at gO;intro v5 H5 U6 Hm hv5;have hv5:l9 a (cu H4 H5) x5 v5:=hv5;have I0:=L3.trans Hm;have k35:=oz.trans Hm;have U8:H4 q=some (.bz ys):=oz.all _ _ mE Hx;have hq5:H5 q=some (.bz ys):=k35.all _ _ mE Hx;have hf5:ma a (cu R H5) bI ys:=hf3.same (eZ k35 yr);have Zp6:l9 a (cu R H5) x5 v5:=hv5.same (cu.left fun b e=>hR b (L3.new x8.there e) fun z=>by rw[z,U8]at e;cases e);refine⟨_,Z,_,Z,q,ys,v5,bI,x5,Z,hq5,hf5.same (cu.sub _ _),hv5.same (cu.sub _ _),iY,fun hb=>?_,fun hb=>?_⟩
    ·rw[ak hb]at gO;have l5:=px (jV n) e5;refine⟨_,Z,.inl ⟨Z,_,ft.of hq5⟩,_,Z,q,_,_,Z,Z,hq5,?_,some v5,bI++[x5],ys++[v5],t5,f,Z,by simp;omega,hc.put I0 U6 Hq,au,?_,by simp,I0.put Hq,by simp at hfu;omega,gO,by simp at jL⊢;omega⟩
     ·have:=Paired.length hf3;exact mM (by simp at jL;omega)
     ·rw[L5];exact i8 Zp6 hf5
    ·rw[ah (by rw[hb];exact aK)]at gO;rw[gO]at k;exact(eU.of k I0).ji
   ·refine⟨_,Z,bx ?_⟩;rw[gO,Zcb _ _ _ Znt (by omega)]at k;dsimp only at k;refine⟨_,Z,r,Sk,_,Z,ES,Z,_,Z,_,Z,?_⟩;cases c with
    |true=>
     refine bQ ⟨r,t3,62,Z,oA,fun t4 et H4 x8 oz=>?_,fun ZkO=>?_⟩
     ·subst et;rw[ak (show(62::t4).head?=some (bP true)from Z)]at k;exact he H4 R true t4 q v4 bI ys x8 (sq.trans oz) Hq (oz.all _ _ mE Hx) (hf3.same (eZ oz yr)) U7 k
     ·rw[ah (show¬t3.head?=some (bP true)from ZkO)]at k;exact eU.of k sq
    |false=>
     refine bx ⟨r,t3,125,Z,oA,fun t4 et H4 x8 oz=>?_,fun ZkO=>?_⟩
     ·subst et;rw[ak (show(125::t4).head?=some (bP false)from Z)]at k;exact he H4 R false t4 q v4 bI ys x8 (sq.trans oz) Hq (oz.all _ _ mE Hx) (hf3.same (eZ oz yr)) U7 k
     ·rw[ah (show¬t3.head?=some (bP false)from ZkO)]at k;exact eU.of k sq
  obtain⟨tb,pb,hbd⟩:=body;refine⟨_,ai (bK (bf oP (pv 1) (aP T.FW) (bw _)) (aq (cF T.bt hr.hd)) aL) (ai (bq (i:=2) nd (fD (pv 0) (kJ T) hr bh (ag (aP T.Ng) az) (by omega))) (ai (bK (wt (eX (pv 2))) (aq (dm (fD (pv 0) (mZ T) hr dj (ag (aP T.wN) az) (by omega)))) aL) pb)),?_⟩;walk;refine⟨_,Z,_,_,Z,Z,_,Z,?_⟩;rw[ay (by omega:¬(6:Int)< (d:Int))];obtain⟨_,_,⟨dx,ta,hH,_⟩,_⟩:=id hc;refine bx ⟨_,Z,r,dx,_,Z,hH,Z,r,aH,60,Z,hc,fun t1 et H1 j9 jO=>?_,fun iY=>?_⟩
  ·subst et;unfold iq at k;rw[ak (show(60::t1).head?=some 60 from Z)]at k;exact⟨_,Z,_,Z,bx (hbd H1 true t1 j9 jO k)⟩
  ·unfold iq at k;rw[ah iY]at k;refine⟨_,Z,_,Z,bQ ⟨_,Z,r,dx,_,Z,hH,Z,r,aH,123,Z,hc,fun t1 et H1 j9 jO=>?_,fun Zp5=>?_⟩⟩
   ·subst et;rw[ak (show(123::t1).head?=some 123 from Z)]at k;exact hbd H1 false t1 j9 jO k
   ·rw[ah Zp5]at k;exact k
theorem Dv(T:il K mg a):∀n,iW P w K mg base (3*n+10) "read_group" nS (LR K a n)
 |0=>Zcc T
 |n+1=>Zcd T (Qs T (Uj T (Dv T n)))
end
end MW
namespace L2
open PySem PySem.Spec PyProof.Rows
theorem NM{K:ae}{a:ao}{xs:LV}{g:TG}{tb:TS}{D:DR}{σ:St}{H:Hp}(Pv:Nat->St->Hp->Prop)(h0:Pv 0 σ H)(hl:∀i σ H,i<=xs.length->Pv i σ H->ft K H a xs) (hs:∀i x σ H T,xs[i]? =some x->Pv i σ H->H T=none->g (.ref T) σ (bp H T (.f6 [.int (i:Nat),x])) fun σ2 H2=>tb {D with nx:=Pv (i+1),ct:=Pv (i+1),bk:=D.nx} σ2 H2)(hd:∀σ H,Pv xs.length σ H->D.nx σ H):∃W:Nat->Nat->St->Hp->Prop,(∃m,W 0 m σ H)/\∀i m σ H,W i m σ H->((Ite K a).K4 i H/\D.nx σ H)\/((Ite K a).go i H/\∃N:St->Hp->Prop,(∀σ' H',N σ' H'->∃m',m'<m/\W (i+1) m' σ' H')/\∀x H',(Ite K a).yld i H x H'->g x σ H' fun σ2 H2=>tb {D with nx:=N,ct:=N,bk:=D.nx} σ2 H2):=by
 refine⟨fun i m σ H=>m=xs.length-i/\i<=xs.length/\Pv i σ H,⟨xs.length,by simp,bB _,h0⟩,?_⟩;rintro i m σ H ⟨rfl,hi,p⟩;have q:=hl i σ H hi p;by_cases qR:i<xs.length
 ·refine .inr ⟨⟨xs,xs[i],q,by simp[qR]⟩,Pv (i+1),fun σ' H' p'=> ⟨xs.length-(i+1),by omega,Z,qR,p'⟩,fun v H' y=>?_⟩;obtain⟨T,x,rfl,hT,rfl,y⟩:=y;exact hs i x σ _ T (y xs q) p hT
 ·have e:i=xs.length:=by omega
  subst e;exact .inl ⟨⟨xs,q,aC _⟩,hd σ H p⟩
end L2
namespace MW
open PySem PySem.Spec PyProof.Rows L2
variable{P:aV}{w:bG}{K:ae}{mg:SV}{base:bb}{a:cV}
abbrev Dx:=LN×(LN×cN)
mutual
def kY:bW->LN->LN->List Dx
 | .leaf l,p,d=>[(d,p,l)]
 | .group _ fs,p,d=>kZ fs 0 p (d++[46])
def kZ:Zvn->Nat->LN->LN->List Dx
 | .nil,_,_,_=>[]
 | .cons h k r,i,p,d=>kY k (p++[i]) (d++h.name)++kZ r (i+1) p d
end
def NN(cs:List Dx)(c:Dx):List Dx:=if(cs.any fun x=>decide (x.1=c.1))=true then cs.map (fun x=>if x.1=c.1 then(x.1,c.2)else x)else cs++[c]
def tL(cs:List Dx)(l:List Dx):List Dx:=l.foldl NN cs
theorem GG(cs l m:List Dx):tL cs (l++m)=tL (tL cs l) m:=by unfold tL;rw[List.foldl_append]
theorem ZeF(cs:List Dx)(c:Dx):(NN cs c).length<=cs.length+1:=by
 unfold NN;split
 ·rw[aZ];omega
 ·simp
theorem RE:∀(l cs:List Dx),(tL cs l).length<=cs.length+l.length
 |[],cs=>by simp[tL]
 |c::l,cs=>by have h1:=RE l (NN cs c);have h2:=ZeF cs c;show(tL (NN cs c) l).length<=_;simp;omega
def wfK:Nat->bW->Prop
 |_,.leaf _=>True
 |0,.group _ _=>False
 |n+1,.group _ fs=>fs.list.length<=17000/\∀x∈fs.list,x.1.name.length<=12/\(x.1.mode= .keyed->(fF x.2).isSome=true)/\wfK n x.2
def yl(n:LN):List i5:=n.map fun b:Nat=>aQ (b:Int)
theorem GI:∀{n m:LN},yl n=yl m->n=m
 |[],[],_=>rfl
 |[],_::_,h=>by cases h
 |_::_,[],h=>by cases h
 |b::n,c::m,h=>by have h:(aQ (b:Int):i5)::yl n=aQ (c:Int)::yl m:=h;injection h with h1 h2;injection h1 with h1;rw[GI h2,show b=c by omega]
theorem ZaD(n:LN):(yl n).map kV=iz n:=by unfold yl iz;rw[eM];rfl
noncomputable def isD:HO->Bool
 | .dK _=>true
 | .dT _=>true
 |_=>false
def rL(H H':Hp):Prop:=∀b o,H b=some o->isD o=false->H' b=some o
theorem rL.trans{H H1 H2:Hp}(a:rL H H1)(b:rL H1 H2):rL H H2:=fun c o h n=>b c o (a c o h n) n
theorem aS.gG{H H1:Hp}(a:aS H H1):rL H H1:=fun c o h _=>a c o h
theorem cQ.gG{c:ao}{H H':Hp}{o:HO}(k:cQ c H H')(h:H c=some o)(ho:isD o=true):rL H H':=fun b u e n=>k.all b u e fun z=>by rw[z,h]at e;injection e with e;rw[e]at ho;rw[ho]at n;cases n
theorem kO.gG{a:cV}{H H':Hp}{x:ao}{l:cN}(h:kO a H x l)(s:rL H H'):kO a H' x l:=let⟨dx,e⟩:=h;⟨dx,s _ _ e Z⟩
mutual
theorem dZ.gG{a:cV}{H H':Hp}(s:rL H H'):∀(k:bW)(v:V),dZ a H k v->dZ a H' k v
 | .leaf l,v,h=>by
  obtain⟨x,e,q⟩:=h
  exact⟨x,e,q.gG s⟩
 | .group c fs,v,h=>by
  obtain⟨x,dx,fl,xs,e,h1,h2,h3⟩:=h
  exact⟨x,dx,fl,xs,e,s _ _ h1 Z,s _ _ h2 Z,fj.gG s fs xs h3⟩
theorem fj.gG{a:cV}{H H':Hp}(s:rL H H'):∀(fs:Zvn)(xs:LV),fj a H fs xs->fj a H' fs xs
 | .nil,xs,h=>h
 | .cons hd k r,xs,h=>by
  obtain⟨x,KS,dx,np,kv,e,h1,h2,h3,h4⟩:=h
  exact⟨x,KS,dx,np,kv,e,s _ _ h1 Z,s _ _ h2 Z,dZ.gG s k kv h3,fj.gG s r KS h4⟩
end
inductive Dy(a:cV)(H:Hp)(c:LN×cN)(v:V):Prop
 |mk (x:_) (dx:_) (pp:_) (lx:_) (_:v= .ref x) (_:H x=some (.ins a.kz dx (sA.zip [.ref pp,.ref lx]))) (_:H pp=some (.f6 (iz c.1))) (_:kO a H lx c.2)
theorem Dy.gG{a:cV}{H H':Hp}{c:LN×cN}{v:V}(h:Dy a H c v)(s:rL H H'):Dy a H' c v:=by obtain⟨x,dx,pp,lx,e,h1,h2,h3⟩:=h;exact⟨x,dx,pp,lx,e,s _ _ h1 Z,s _ _ h2 Z,h3.gG s⟩
abbrev mx(a:cV)(H:Hp):List Dx->List (List i5×V)->Prop:=Paired fun c kv=>kv.1=yl c.1/\Dy a H c.2 kv.2
theorem mx.gG{a:cV}{H H':Hp}{cs:List Dx}{br:List (List i5×V)}(h:mx a H cs br)(s:rL H H'):mx a H' cs br:=Paired.wm h fun _ _ q=> ⟨q.1,q.2.gG s⟩
theorem WT{a:cV}{H:Hp}(n:LN):∀{cs:List Dx}{br:List (List i5×V)},mx a H cs br->(br.any fun kv=>decide (kv.1=yl n))=cs.any fun x=>decide (x.1=n)
 |_,_,.nil=>rfl
 |_,_,.cons r t=>by rw[dD,dD,WT n t,r.1];congr 1;rw[decide_eq_decide];exact⟨fun z=>GI z,fun z=>by rw[z]⟩
theorem WU{a:cV}{H:Hp}{n:LN}{c:LN×cN}{v:V}(hv:Dy a H c v):∀{cs:List Dx}{br:List (List i5×V)},mx a H cs br->mx a H (cs.map fun x=>if x.1=n then(x.1,c)else x) (br.map fun kv=>if kv.1=yl n then(kv.1,v)else kv)
 |_,_,.nil=> .nil
 |_,_,.cons (a:=x) (b:=y) r t=>by
  refine .cons ?_ (WU hv t);by_cases e:x.1=n
  ·fin2;rw[ak e,ak (by rw[r.1,e])];exact⟨r.1,hv⟩
  ·fin2;rw[ah e,ah (by rw[r.1];exact fun z=>e (GI z))];exact r
theorem mx.put{a:cV}{H:Hp}{cs:List Dx}{br:List (List i5×V)}{c:Dx}{v:V}(h:mx a H cs br)(hv:Dy a H c.2 v):mx a H (NN cs c) (lW br (yl c.1) v):=by
 unfold NN lW;rw[WT c.1 h];split
 ·exact WU hv h
 ·exact i8 (F:=fun(c:Dx)(kv:List i5×V)=>kv.1=yl c.1/\Dy a H c.2 kv.2) (x:=c) (y:=(yl c.1,v)) ⟨Z,hv⟩ h
theorem NO:∀(fs:Zvn)(i:Nat)(p d:LN),kZ fs i p d=(fs.list.zipIdx i).flatMap fun x=>kY x.1.2 (p++[x.2]) (d++x.1.1.name)
 | .nil,_,_,_=>rfl
 | .cons h k r,i,p,d=>by show kY k (p++[i]) (d++h.name)++kZ r (i+1) p d=_;rw[NO r];show _=(((h,k)::r.list).zipIdx i).flatMap _;rw[List.zipIdx_cons,dM]
theorem Zn(fs:Zvn)(p d:LN){i:Nat}{x:cH×bW}(h:fs.list[i]? =some x):((fs.list.take (i+1)).zipIdx 0).flatMap (fun x=>kY x.1.2 (p++[x.2]) (d++x.1.1.name))=((fs.list.take i).zipIdx 0).flatMap (fun x=>kY x.1.2 (p++[x.2]) (d++x.1.1.name))++kY x.2 (p++[i]) (d++x.1.name):=by have hi:i<fs.list.length:=(aW.mp h).1;rw[i7 h,List.zipIdx_append,ka,gR,lz (fZ hi)];simp
theorem Zcf(fs:Zvn)(p d:LN)(i:Nat):(((fs.list.take i).zipIdx 0).flatMap (fun x=>kY x.1.2 (p++[x.2]) (d++x.1.1.name))).length<=(kZ fs 0 p d).length:=by
 rw[NO];have e:fs.list=fs.list.take i++fs.list.drop i:=(BS i _).symm;have e2:(fs.list.zipIdx 0).flatMap (fun x=>kY x.1.2 (p++[x.2]) (d++x.1.1.name))=((fs.list.take i++fs.list.drop i).zipIdx 0).flatMap (fun x=>kY x.1.2 (p++[x.2]) (d++x.1.1.name)):=by rw[<-e]
 rw[e2,List.zipIdx_append,ka,aX];omega
theorem AE{H H':Hp}{p:ao}{o:HO}{C:Prop}(h:(H'=H/\C)\/(H p=none/\H'=bp H p o)):aS H H':=by
 rcases h with⟨h,_⟩|⟨n,h⟩
 ·rw[h];exact aS.refl H
 ·rw[h];exact aS.dW (aS.refl H) n
theorem cu.same{R H H':Hp}(s:aS H H'):aS (cu R H) (cu R H'):=cu.right fun b o _ e=>s b o e
theorem cu.gG{R H H':Hp}(s:rL H H'):rL (cu R H) (cu R H'):=fun b o e n=>by
 have e2:=cu.sub _ _ b o e;have e1:R b=none:=by
  unfold cu at e;cases q:R b with
  |none=>rfl
  |some u=>rw[q]at e;cases e
 rw[cu.at e1];exact s b o e2 n
theorem cu.out{R H:Hp}{b:ao}{o:HO}(e:cu R H b=some o):R b=none:=by
 unfold cu at e;cases q:R b with
 |none=>rfl
 |some u=>rw[q]at e;cases e
theorem NP(p:LN)(i:Nat):iz p++[V.int (i:Int)]=iz (p++[i]):=by unfold iz;rw[cg];rfl
theorem ZaE(p q:LN):iz p++iz q=iz (p++q):=by unfold iz;rw[cg]
section
inductive Zcg(K:ae)(a:cV)(n:Nat)(vs:LV)(H:Hp)(Q:VK)(_:XK):Prop
 |mk (R:Hp) (c pp dd:ao) (v:V) (ch:Bool) (fs:Zvn) (p d:LN) (cs:List Dx) (br:List (List i5×V)) (_:vs=[.ref c,v,.ref pp,.ref dd]) (_:(∀b,H b=none->R b=none)) (_:H c=some (.dT br)) (_:mx a (cu R H) cs br) (_:dZ a (cu R H) (.group ch fs) v) (_:wfK n (.group ch fs)) (_:cu R H pp=some (.f6 (iz p))) (_:H dd=some (.f6 (iz d))) (_:p.length+n<=10) (_:d.length+13*n<=200) (_:cs.length+(kZ fs 0 p d).length<=17000) (_:∀H' QJ,H' c=some (.dT QJ)->mx a (cu R H') (tL cs (kZ fs 0 p d)) QJ->cQ c H H'->Q .ik H')
theorem AF(T:il K mg a):∀n,iW P w K mg base (n+3) "add_columns" Cp (Zcg K a n)
 |0=>by
  refine cI T.pV T.C2 T.pV.b4 sQ ?_
  ·lk;obtain⟨R,c,pp,dd,v,ch,fs,p,d,cs,br,rfl,_,_,_,_,h,_⟩:=h;exact absurd h (by exact fun z=>z)
 |n+1=>by
  have IH:=AF T n;refine cI T.pV T.C2 T.pV.b4 sQ ?_
  ·lk;obtain⟨R,c,pp,dd,v,ch,fs,p,d,cs,br,rfl,hR,hc,hcs,hk,L6,hpp,hdd,hpl,hdl,jL,k⟩:=h;have nd:=sQ.nd;refine⟨_,aq (lC iw.never Z (SU Z T.Aw (ag (aI (pv 1) Z) az)) (YH Z (vn (gW (i:=4) nd) (vn (gW (i:=5) nd) SG))) (ai (bq (i:=6) nd (iu Gy (pv 2) (nP (ag (pv 4) az)))) (ai (bq (i:=7) nd (iu Gy (pv 3) (aI (pv 5) Z))) (aq (bK (eX (jQ j7 (by rfl) T.jx (by decide +kernel) (ag (aI (pv 5) Z) (ag (tF T.Ef) az)))) (aq (E3 (jI hr) (pv 0) (pv 7) (ie (NH T) hr bh (ag (pv 6) (ag (aI (pv 5) Z) az)) (by rfl) (by omega)) Z)) (aq (dm (ba IH hr bh (ag (pv 0) (ag (aI (pv 5) Z) (ag (pv 6) (ag (iu Gy (pv 7) (nP (ag (aP T.Zek) az))) az)))) (by rfl) (aC _))))))))),?_⟩;obtain⟨g,dg,fl,xs,rfl,g1n,g2n,g3⟩:=hk;have g1:=cu.sub _ _ _ _ g1n;have g2:=cu.sub _ _ _ _ g2n;have L6:∀x∈fs.list,x.1.name.length<=12/\(x.1.mode= .keyed->(fF x.2).isSome=true)/\wfK n x.2:=L6.2;have hfl:=fj.l g3;have hxl:xs.length=fs.list.length:=(Paired.length hfl).symm;refine⟨_,Z,g,_,dg,_,_,Z,g1,T.mJ,T.jr,Z,fl,xs,Z,ft.of g2,NM (K:=K) (a:=fl) (xs:=xs) (fun i σ H'=> ∃(v4 v5 v6 v7:Option V)(QJ:List (List i5×V)),σ=[some (.ref c),some (.ref g),some (.ref pp),some (.ref dd),v4,v5,v6,v7]/\H' c=some (.dT QJ)/\mx a (cu R H') (tL cs (((fs.list.take i).zipIdx 0).flatMap (fun x=>kY x.1.2 (p++[x.2]) (d++x.1.1.name)))) QJ/\cQ c H H') ⟨none,none,none,none,br,Z,hc,hcs,cQ.refl c H⟩ (fun i σ H' _ h9=>by obtain⟨_,_,_,_,_,_,_,_,kp⟩:=h9;exact ft.of (kp.gG hc Z _ _ g2 Z)) ?_ ?_⟩
   ·rintro i y σ H1 Tt hi ⟨v4,v5,v6,v7,kvs1,rfl,j9,hcs1,jO⟩ hTt;obtain⟨x,hx,pf,df,np,kv,rfl,f1n,f2n,f3⟩:=iE hfl hi;have f1:=cu.sub _ _ _ _ f1n;have f2:=cu.sub _ _ _ _ f2n;obtain⟨w1,_,w2⟩:=L6 x (bj hx);have hx1:=Zn fs p d hx;have Sj:=Zcf fs p d (i+1);rw[hx1,aX]at Sj;have Zbh:=RE (((fs.list.take i).zipIdx 0).flatMap (fun x=>kY x.1.2 (p++[x.2]) (d++x.1.1.name))) cs;have sd1:=jO.gG hc Z;generalize ((fs.list.take i).zipIdx 0).flatMap (fun x=>kY x.1.2 (p++[x.2]) (d++x.1.1.name))=done at hcs1 hx1 Sj Zbh;have s0:=aS.dW (o:=(.f6 [.int (i:Nat),.ref pf])) (aS.refl H1) hTt;refine⟨Tt,_,Z,qU.of au,Z,_,_,Z,_,_,Z,Z,?_⟩;generalize bp H1 Tt (.f6 [.int (i:Nat),.ref pf])=G0 at s0;refine⟨_,Z,_,Z,(mr 1),fun q hq=>?_⟩;have s1:aS H1 (bp G0 q (.f6 [.int (i:Nat)])):=aS.dW s0 hq;have R1:∀b,H1 b=none->R b=none:=fun b e=>hR b (by
     cases q2:H b with
     |none=>rfl
     |some o=>
      by_cases z:b=c
      ·rw[z,j9]at e;cases e
      ·rw[jO.all b o q2 z]at e;cases e)
    have Rq:R q=none:=R1 q (s0.free hq);have eq1:= @au G0 q (.f6 [.int (i:Nat)]);generalize bp G0 q (.f6 [.int (i:Nat)])=G1 at s1 eq1;refine⟨pp,q,_,_,Z,Z,s1 _ _ (sd1 _ _ (cu.sub _ _ _ _ hpp) Z),eq1,by rw[eA];exact fZ (mM (by simp;omega)),fun p6 H6 hp6 or6=>?_⟩;rw[NP]at hp6;have s6:aS H1 H6:=s1.trans (AE or6);have Znz:cu R H6 p6=some (.f6 (iz (p++[i]))):=by
     rw[cu.at]
     ·exact hp6
     ·rcases or6 with⟨_,z|z⟩|⟨z,_⟩
      ·rw[z];exact cu.out hpp
      ·rw[z];exact Rq
      ·exact R1 p6 (s1.free z)
    refine⟨_,Z,_,Z,pf,_,df,_,_,Z,s6 _ _ (sd1 _ _ f1 Z),T.gF,T.jC,Z,dd,np,_,_,Z,Z,s6 _ _ (sd1 _ _ hdd Z),s6 _ _ (sd1 _ _ f2 Z),by rw[eA,eA];exact fZ (mM (by omega)),fun p7 H7 hp7 or7=>?_⟩;rw[ZaE]at hp7;have s67:aS H6 H7:=AE or7;have s7:aS H1 H7:=s6.trans s67;have sd7:rL H H7:=sd1.trans (aS.gG s7);have f17:=sd7 _ _ f1 Z;have Zf2:dZ a (cu R H7) x.2 kv:=dZ.gG (cu.gG sd7) _ _ f3;have hk7:dZ a H7 x.2 kv:=dZ.same (cu.sub _ _) _ _ Zf2;have hc7:H7 c=some (.dT kvs1):=s7 _ _ j9;have ZnA:=hcs1.gG (aS.gG (cu.same (R:=R) s7));have kp7:cQ c H H7:=jO.trans (aS.keep s7);obtain⟨t,ty,ki⟩:=isi T hk7;refine⟨_,Z,pf,_,df,_,_,Z,f17,T.gF,T.iX,Z,_,_,t,_,Z,ty,ki,_,Z,?_⟩;cases hkd:x.2 with
    |leaf l=>
     rw[hkd]at Zf2 hx1 Sj;obtain⟨lx,rfl,hlx⟩:=Zf2;refine bQ ⟨_,Z,_,Z,pf,_,df,_,_,Z,f17,T.gF,T.iX,Z,fun y dy ny Sl ney=> ⟨y,dy,_,Z,Z,au,Z,?_⟩⟩;rw[fC];have s8:aS H7 (bp (bp H7 dy (.own y)) y (.ins a.kz dy (sA.zip ([.ref p6,.ref lx]++[])))):=kX ny Sl;have e8:(bp (bp H7 dy (.own y)) y (.ins a.kz dy (sA.zip ([.ref p6,.ref lx]++[])))) y=some (.ins a.kz dy (sA.zip [.ref p6,.ref lx])):=au;generalize bp (bp H7 dy (.own y)) y (.ins a.kz dy (sA.zip ([.ref p6,.ref lx]++[])))=H8 at s8 e8⊢;have hc8:H8 c=some (.dT kvs1):=s8 _ _ hc7;have hkl:H8 p7=some (.f6 ((yl (d++x.1.name)).map kV)):=by rw[ZaD];exact s8 _ _ hp7
     have Zp9:kvs1.length<sizeLine:=by rw[<-Paired.length hcs1];exact mM (by omega)
     refine⟨_,Z,_,Z,c,_,Z,K1.t hc8 hkl Zp9,?_⟩;have hD:rL (cu R H8) (cu R (bp H8 c (.dT (lW kvs1 (yl (d++x.1.name)) (.ref y))))):=cu.gG fun b o e n=>by
      by_cases z:b=c
      ·rw[z,hc8]at e;injection e with e;rw[<-e]at n;cases n
      ·rw[aF z];exact e
     refine⟨_,_,_,_,_,Z,au,?_,?_⟩
     ·rw[hx1,GG];show mx a _ (NN (tL cs done) (d++x.1.name,p++[i],l)) _;refine(mx.put (c:=(d++x.1.name,p++[i],l)) (ZnA.gG (aS.gG (cu.same s8))) ⟨y,dy,p6,lx,Z,by rw[cu.at (R1 y (s7.free ny))];exact e8,cu.same s8 _ _ (cu.same s67 _ _ Znz),hlx.same (cu.same s8)⟩).gG hD
     ·have kp8:cQ c H H8:=kp7.trans (aS.keep s8);refine⟨fun b o e n=>by rw[aF n];exact kp8.all b o e n,fun t e=>?_⟩;unfold Zg at e;rw[hc]at e;cases e
    |group ch2 fs2=>
     rw[hkd]at Zf2 hx1 Sj w2;refine bx ⟨_,Z,_,Z,pf,_,df,_,_,Z,f17,T.gF,T.iX,Z,_,Z,_,Z,(mr 1),fun q2 LB=>?_⟩;have s8:=aS.dW (o:=(.f6 [.int 46])) (aS.refl H7) LB;have e8:= @au H7 q2 (.f6 [.int 46]);generalize bp H7 q2 (.f6 [.int 46])=G8 at s8 e8;refine⟨p7,q2,_,_,Z,Z,s8 _ _ hp7,e8,by rw[eA];exact fZ (mM (by simp;omega)),fun p9 H9 hp9 or9=>?_⟩;have hp9:H9 p9=some (.f6 (iz (d++x.1.name)++[V.int ((46:Nat):Int)])):=hp9;rw[NP]at hp9;have s9:aS H7 H9:=s8.trans (AE or9);have kp9:cQ c H H9:=kp7.trans (aS.keep s9);refine⟨R,c,p6,p9,kv,ch2,fs2,p++[i],d++x.1.name++[46],tL cs done,kvs1,Z,fun b e=>R1 b (s7.free (s9.free e)),s9 _ _ hc7,ZnA.gG (aS.gG (cu.same s9)),dZ.same (cu.same s9) _ _ Zf2,w2,cu.same s9 _ _ (cu.same s67 _ _ Znz),hp9,by simp;omega,by simp;omega,?_,fun H10 Znu h1 h2 h3=>?_⟩
     ·have:(kY (.group ch2 fs2) (p++[i]) (d++x.1.name)).length=(kZ fs2 0 (p++[i]) (d++x.1.name++[46])).length:=rfl;omega
     ·refine⟨_,_,_,_,Znu,Z,h1,?_,kp9.trans h3⟩;rw[hx1,GG];exact h2
   ·rintro σ H1 ⟨v4,v5,v6,v7,kvs1,rfl,j9,hcs1,jO⟩;walk;rw[hxl,gT,<-NO]at hcs1;exact k H1 kvs1 j9 hcs1 jO
end
def wfX(n:Nat)(x:cH×bW):Prop:=x.1.name.length<=12/\(x.1.mode= .keyed->(fF x.2).isSome=true)/\wfK n x.2
theorem ZeG{s:LN}(h:bF s=true):s.length<=12:=by
 cases s with
 |nil=>cases h
 |cons c r=>have h:(iA c&&(c::r).all ax&&decide ((c::r).length<=12))=true:=h;rw[bu]at h;exact of_decide_eq_true h.2
def Wf(n:Nat)(pk:RK):Prop:=∀t k s,t.length<=17000->pk t=some (k,s)->wfK n k/\gz k+s.length<=t.length
theorem RF{n:Nat}{pk:RK}(hp:Wf n pk)(hs:Shr pk){c:Bool}{x:cH×bW}{t s:LN}(hl:t.length<=17000)(h:jm pk c t=some (x,s)):wfX n x/\gz x.2+s.length<t.length:=by
 unfold jm at h;split at h
 ·cases h
 ·rename_i n t1 e1;split at h
  ·cases h
  ·split at h
   ·cases h
   ·rename_i hgn;split at h
    ·cases h
    ·rename_i m t3 e3;split at h
     ·cases h
     ·rename_i k t4 e4;split at h
      ·cases h
      ·rename_i vW;split at h
       ·cases h
       ·rename_i d t5 e5;have e:=af h;have e6:t5=s:=aA bo e;have e7:({number:=n,name:=t1.takeWhile ax,mode:=m,dflt:=d},k)=x:=aA bU e;have l1:=Bp e1;have l2:=NK ax t1;have l3:=GB e3;have l4:=hp _ _ _ (by omega) e4;have l5:=Uk e5;rw[<-e7,<-e6];refine⟨⟨ZeG ?_,fun hm=>?_,l4.1⟩,?_⟩
        ·cases q:bF (t1.takeWhile ax)with
         |true=>rfl
         |false=>exact absurd q hgn
        ·cases q:fF k with
         |none=>exact absurd ⟨hm,by rw[q];rfl⟩ vW
         |some z=>rfl
        ·have:=l4.2;show gz k+t5.length<t.length;omega
theorem Kn:∀(xs:List (cH×bW))(x:cH×bW),bR (fieldsOf (xs++[x]))=bR (fieldsOf xs)+gz x.2
 |[],x=>by show bR (.cons x.1 x.2 .nil)=bR .nil+_;simp[bR]
 |y::r,x=>by show bR (.cons y.1 y.2 (fieldsOf (r++[x])))=bR (.cons y.1 y.2 (fieldsOf r))+_;rw[bR,bR,Kn r x];omega
theorem WV{n:Nat}{pk:RK}(hp:Wf n pk)(hs:Shr pk){c:Bool}:∀{f:Nat}{bI xs:List (cH×bW)}{t s:LN},t.length<=17000->mO pk c f bI t=some (xs,s)->(∀x∈bI,wfX n x)->(∀x∈xs,wfX n x)/\bR (fieldsOf xs)+s.length<=bR (fieldsOf bI)+t.length/\xs.length+s.length<=bI.length+t.length
 |0,_,_,_,_,_,h,_=>by cases h
 |f+1,bI,xs,t,s,hl,h,ha=>by
  unfold mO at h;split at h
  ·rename_i BN;split at h
   ·cases h
   ·rename_i x u e;split at h
    ·have l3:=dS BN;have l2:=RF hp hs (by omega) e;have l1:=WV hp hs (by omega) h fun y hy=>by
      rcases cz.mp hy with z|z
      ·exact ha y z
      ·rw[cn.mp z];exact l2.1
     rw[Kn,aX]at l1;exact⟨l1.1,by omega,by have:=l1.2.2;simp at this;omega⟩
    ·cases h
  ·have e:=af h;have e1:bI=xs:=aA bU e;have e2:t=s:=aA bo e;rw[<-e1,<-e2];exact⟨ha,aC _,aC _⟩
theorem WW{n:Nat}{pk:RK}(hp:Wf n pk)(hs:Shr pk){c:Bool}{k:bW}{t s:LN}(hl:t.length<=17000)(h:qH pk c t=some (k,s)):wfK (n+1) k/\gz k+s.length<t.length:=by
 unfold qH at h;split at h
 ·cases h
 ·rename_i x t2 e1;split at h
  ·cases h
  ·rename_i xs t3 e2;split at h
   ·rename_i hz;have e:=af h;have e3:t3.tail=s:=aA bo e;have e4:ua c (fieldsOf xs)=k:=aA bU e;have l1:=RF hp hs hl e1;have l2:=WV hp hs (by omega) e2 (fun y hy=>by rw[cn.mp hy];exact l1.1);have l3:=dS hz;rw[<-e3,<-e4];refine⟨?_,?_⟩
    ·show(fieldsOf xs).list.length<=17000/\∀x∈(fieldsOf xs).list,_;rw[Du];exact⟨by have:=l2.2.2;simp at this;omega,l2.1⟩
    ·have e5:bR (fieldsOf [x])=gz x.2:=by show bR (.cons x.1 x.2 .nil)=_;simp[bR]
     show bR (fieldsOf xs)+_<_;omega
   ·cases h
theorem Ip:∀n,Wf n (iq n)
 |0,_,_,_,_,h=>by cases h
 |n+1,t,k,s,hl,h=>by
  have ih:=Ip n;have hk:Wf n (mw (iq n)):=fun t k s hl h=>by
   unfold mw at h;split at h
   ·exact ih _ _ _ hl h
   ·cases e:kD t with
    |none=>rw[e]at h;cases h
    |some y=>rw[e]at h;have e1:=af h;have e2:y.2=s:=aA bo e1;have e3:iU y.1=k:=aA bU e1;have l:=NL (l:=y.1) (s:=y.2) e;rw[<-e2,<-e3];refine⟨by cases n<;>exact trivial,?_⟩;show 1+_<=_;omega
  unfold iq at h;split at h
  ·rename_i Hn;have:=dS Hn;have l:=WW hk (jV n) (by omega) h;exact⟨l.1,by omega⟩
  ·split at h
   ·rename_i A5;have:=dS A5;have l:=WW hk (jV n) (by omega) h;exact⟨l.1,by omega⟩
   ·cases h
mutual
theorem Zch:∀(k:bW)(p d:LN),(kY k p d).length=gz k
 | .leaf l,p,d=>rfl
 | .group c fs,p,d=>by
  show(kZ fs 0 p (d++[46])).length=bR fs
  exact vO fs 0 p (d++[46])
theorem vO:∀(fs:Zvn)(i:Nat)(p d:LN),(kZ fs i p d).length=bR fs
 | .nil,_,_,_=>rfl
 | .cons h k r,i,p,d=>by
  show(kY k (p++[i]) (d++h.name)++kZ r (i+1) p d).length=gz k+bR r
  rw[aX,Zch k,vO r]
end
def dP(fs:Zvn):List Dx:=tL [] (kZ fs 0 [] [])
def md(t:LN):Option Zvn:=if 2000<t.length then none else match iq 6 t with
 |none=>none
 |some (k,s)=>if s=[]then(match k with
  | .group false fs=>if 40< (dP fs).length then none else some fs
  |_=>none)else none
inductive gi(a:cV)(H:Hp)(fs:Zvn)(v:V):Prop
 |mk (x:_) (dx:_) (gv:_) (c:_) (br:_) (_:v= .ref x) (_:H x=some (.ins a.kC dx (sC.zip [gv,.ref c]))) (_:dZ a H (.group false fs) gv) (_:H c=some (.dT br)) (_:mx a H (dP fs) br)
theorem gi.same{a:cV}{H H':Hp}{fs:Zvn}{v:V}(h:gi a H fs v)(s:aS H H'):gi a H' fs v:=by obtain⟨x,dx,gv,c,br,e,h1,h2,h3,h4⟩:=h;exact⟨x,dx,gv,c,br,e,s _ _ h1,dZ.same s _ _ h2,s _ _ h3,h4.gG (aS.gG s)⟩
def ZmD{α:Type}(a:cV)(E:XK)(H:Hp)(Q:VK)(rep:α->V->Hp->Prop):Option α->Prop
 |none=> ∀H',aS H H'->E (.ref a.g9) none H'
 |some x=> ∀v H',aS H H'->rep x v (cu H H')->Q v H'
inductive WX(K:ae)(a:cV)(vs:LV)(H:Hp)(Q:VK)(E:XK):Prop
 |mk (ta:ao) (tx:LN) (_:vs=[.ref ta]) (_:H ta=some (.bz (iz tx))) (_:tx.length<=17000) (_:ZmD a E H Q (fun fs v G=>gi a G fs v) (md tx))
theorem cQ.gE{r:ao}{H H1 H2:Hp}(k:cQ r H1 H2)(s:aS H H1)(n:H r=none):aS H H2:=fun b o e=>k.all b o (s b o e) fun z=>by rw[z,n]at e;cases e
theorem RG{n:Nat}{t s:LN}{k:bW}(h:iq n t=some (k,s)):∃c fs,k= .group c fs:=by
 have body:∀{pk:RK}{c:Bool}{t:LN},qH pk c t=some (k,s)->∃c fs,k= .group c fs:=fun{pk c t} h=>by
  unfold qH at h;split at h
  ·cases h
  ·split at h
   ·cases h
   ·split at h
    ·exact⟨_,_,(aA bU (af h)).symm⟩
    ·cases h
 cases n with
 |zero=>cases h
 |succ n=>
  unfold iq at h;split at h
  ·exact body h
  ·split at h
   ·exact body h
   ·cases h
section
theorem NQ(T:il K mg a):iW P w K mg base 29 "read_schema" Cn (WX K a):=by
 refine fI T.C5 T.Qe T.C5.b1 ze ?_
 ·lk;obtain⟨ta,tx,rfl,hta,hl,k⟩:=h;have nd:=ze.nd;refine⟨_,ai (bK (bf oP (rZ T (pv 0)) (aP T.BK) (bw _)) (aq (cF T.bt hr.hd)) aL) (ai (bq (i:=1) nd (ie (tJ T) hr bh (ag (pv 0) az))) (ai (bq (i:=2) nd (ba (Dv T 6) hr dj (ag (pv 1) (ag bL az)))) (ai (dm (du (pv 1) (Ay T) hr dj)) (ai (bK (eX (aI (pv 2) Z)) (aq (cF T.bt hr.hd)) aL) (ai (bq (i:=3) nd Zd4) (ai (dm (ba (AF T 6) hr bh (ag (pv 3) (ag (pv 2) (ag (nP az) (ag (nP az) az)))))) (ai (bK (bf oP (jQ Zb8 (by rfl) T.Zes Su (ag (pv 3) az)) (aP T.Qb) (bw _)) (aq (cF T.bt hr.hd)) aL) (aq (aN (ie (NI T) hr bh (ag (pv 2) (ag (pv 3) az)))))))))))),?_⟩;walk;refine⟨_,Z,ta,_,Z,.inl (ft.of hta),_,_,Z,Z,_,Z,?_⟩;rw[eA];unfold md at k;by_cases OQ:2000<tx.length
  ·rw[ak OQ]at k;rw[aD (by omega:(2000:Int)< (tx.length:Int))];exact bQ (k H (aS.refl H))
  rw[ah OQ]at k;rw[ay (by omega:¬(2000:Int)< (tx.length:Int))];refine bx ⟨_,Z,fun r dx nr ndr ner=>?_⟩;have sm0:aS H (bp (bp H dx (.own r)) r (.ins a.cK dx [])):=kX nr ndr;refine⟨r,dx,ta,tx,Z,au,sm0 _ _ hta,hl,fun H1 hat kp0=> ⟨Z,?_⟩⟩;have s1:aS H H1:=kp0.gE sm0 nr;have j9:jU K a H1 r tx:=⟨tx,0,hat,Z⟩;refine⟨_,Z,r,tx,1,Z,Z,j9,?_⟩;cases eg:iq 6 tx with
  |none=>rw[eg]at k;exact fun H' ZT=>k H' (ZT.gE s1 nr)
  |some y=>
  obtain⟨kd,s⟩:=y;rw[eg]at k;dsimp only at k;intro gv H2 jc k8 hgv;have s2:aS H H2:=k8.gE s1 nr;obtain⟨_,_,⟨dx2,ta2,hH2,_⟩,_⟩:=id jc;refine⟨_,Z,r,dx2,_,Z,hH2,Z,r,s,Z,jc,fun hs=>?_,fun hs=>?_⟩;rotate_left
  ·rw[ah hs]at k;exact fun H' ZT=>k H' (ZT.gE s2 nr)
  rw[ak hs]at k;obtain⟨c,fs,rfl⟩:=RG eg;have hgv:dZ a (cu H1 H2) (.group c fs) gv:=hgv;have ZkS:dZ a (cu H H2) (.group c fs) gv:=dZ.same (cu.left fun b e=>s1.free e) _ _ hgv;obtain⟨g,dg,fl,xs,rfl,g1,g2,g3⟩:=id ZkS;refine⟨_,Z,g,_,dg,_,_,Z,cu.sub _ _ _ _ g1,T.mJ,T.kj,Z,_,Z,?_⟩;cases c with
  |true=>exact bQ (k H2 s2)
  |false=>
  have k:ZmD a E H Q (fun fs v G=>gi a G fs v) (if 40< (dP fs).length then none else some fs):=k;refine bx fun c hc=> ⟨_,Z,_,Z,bB _,fun q1 hq1=> ⟨bB _,fun q2 LB=>?_⟩⟩;have wf:=Ip 6 _ _ _ hl eg;have s3:=aS.dW (o:=(.dT [])) (aS.refl H2) hc;have e3:= @au H2 c (.dT []);generalize bp H2 c (.dT [])=H3 at s3 e3 hq1 LB⊢;have s4:=aS.dW (o:=(.f6 [])) (aS.refl H3) hq1;have e4:= @au H3 q1 (.f6 []);generalize bp H3 q1 (.f6 [])=H4 at s4 e4 LB⊢;have s5:=aS.dW (o:=(.f6 [])) (aS.refl H4) LB;have e5:= @au H4 q2 (.f6 []);generalize bp H4 q2 (.f6 [])=H5 at s5 e5⊢;have s25:aS H2 H5:=(s3.trans s4).trans s5;have s05:aS H H5:=s2.trans s25;have Hc:H c=none:=s2.free hc;have Hq1:H q1=none:=(s2.trans s3).free hq1;have lv:(kZ fs 0 [] []).length=bR fs:=vO fs 0 [] [];have lv2:bR fs+s.length<=tx.length:=wf.2;refine⟨H,c,q1,q2,.ref g,false,fs,[],[],[],[],Z,fun b e=>s05.free e,s5 _ _ (s4 _ _ e3),.nil,dZ.same (cu.same s25) _ _ ZkS,wf.1,by rw[cu.at Hq1];exact s5 _ _ e4,e5,by decide,by decide,by simp;omega,fun H6 ZkR h1 h2 h3=>?_⟩;have sd6:rL H5 H6:=h3.gG (s5 _ _ (s4 _ _ e3)) Z;have s6:aS H H6:=h3.gE s05 Hc;refine⟨_,Z,c,ZkR,Z,h1,_,_,Z,Z,_,Z,?_⟩;have jL:ZkR.length=(dP fs).length:=(Paired.length h2).symm;rw[jL];by_cases LC:40< (dP fs).length
  ·rw[ak LC]at k;rw[aD (by omega:(40:Int)< ((dP fs).length:Int))];exact bQ (k H6 s6)
  rw[ah LC]at k;rw[ay (by omega:¬(40:Int)< ((dP fs).length:Int))];refine bx ⟨_,Z,_,Z,fun x xZ nx Yq ne=> ⟨x,xZ,_,Z,Z,au,Z,?_⟩⟩;rw[fC];have s7:aS H6 (bp (bp H6 xZ (.own x)) x (.ins a.kC xZ (sC.zip ([.ref g,.ref c]++[])))):=kX nx Yq;have e7:(bp (bp H6 xZ (.own x)) x (.ins a.kC xZ (sC.zip ([.ref g,.ref c]++[])))) x=some (.ins a.kC xZ (sC.zip [.ref g,.ref c])):=au;generalize bp (bp H6 xZ (.own x)) x (.ins a.kC xZ (sC.zip ([.ref g,.ref c]++[])))=H7 at s7 e7⊢;refine k (.ref x) H7 (s6.trans s7) ⟨x,xZ,.ref g,c,ZkR,Z,by rw[cu.at (s6.free nx)];exact e7,?_,by rw[cu.at Hc];exact s7 _ _ h1,h2.gG (aS.gG (cu.same s7))⟩;exact dZ.gG (cu.gG (((aS.gG s25).trans sd6).trans (aS.gG s7))) _ _ ZkS
end
end MW
namespace HL
open PySem PyProof.Rows L2
noncomputable def AG:List Int->List Int->Bool
 |[],[]=>false
 |[],_::_=>true
 |_::_,[]=>false
 |x::xs,y::ys=>if x=y then AG xs ys else decide (x<y)
theorem Ko:∀{ns ms:List Int},(ns=[]\/ms=[])->AG ns ms=decide (ns.length<ms.length)
 |[],[],_=>by simp[AG]
 |[],_::_,_=>by simp[AG]
 |_::_,[],_=>by simp[AG]
 |_::_,_::_,h=>by rcases h with h|h<;>cases h
section
open PySem.SeqAt
open PySem.MeetsSeq PySem.MeetsSeq2 PySem.MeetsSeq3
theorem Zj2(l b:ao)(dz ck:Array aj)(n n2:Nat)(dd U5:Option ao)(sl L1:Array (Option aj))(k:Nat):∀(i:Nat)(ns ms:List Int),dz.size-i=k->i<=dz.size->i<=ck.size->lT (dz.toList.drop i) ns->lT (ck.toList.drop i) ms->Meets (Builtin.«list.__eq__.loop» ⟨[.ref l,.ref b,Z3 i,Z3 0],[]⟩) (fun A R s=>s.heap.get? l=some {cls:= .type "list",dict:=dd,data:= .seq dz n,slots:=sl}/\s.heap.get? b=some {cls:= .type "list",dict:=U5,data:= .seq ck n2,slots:=L1}/\R (.ok (.ret (.bool (AG ns ms)))) s):=by
 induction k with
 |zero=>
  intro i ns ms hk Zf3 Zf4 hi hj prog w A R s h;obtain⟨hp,g,d,tk,os⟩:=s;obtain⟨hl,hb,h⟩:=h;wp_walk using aT hl,aT hb;have hn:ns=[]:=by have e:dz.toList.drop i=[]:=fW (by simp;omega);rw[e]at hi;cases hi;rfl
  have X8:dz[((i:Nat):Int).toNat]? =none:=by simp;omega
  rw[X8];rw[Ko (.inl hn)]at h;have z1:=hi.length;have z2:=hj.length;rw[fV,eJ]at z1 z2;wp_walk using aT hl,aT hb;show R (.ok (.ret (.bool (decide (dz.size<ck.size))))) _;have e:decide (ns.length<ms.length)=decide (dz.size<ck.size):=by rw[decide_eq_decide];omega
  rw[<-e];exact h
 |succ k ih=>
  intro i ns ms hk Zf3 Zf4 hi hj prog w A R s h;obtain⟨hp,g,d,tk,os⟩:=s;obtain⟨hl,hb,h⟩:=h;wp_walk using aT hl,aT hb;have qR:i<dz.size:=by omega
  have X8:dz[((i:Nat):Int).toNat]? =some dz[i]:=by simp[qR]
  have X6:dz.toList.drop i=dz[i]::dz.toList.drop (i+1):=by rw[dY (by simpa using qR)];simp
  rw[X8];by_cases OR:i<ck.size
  ·have X9:ck[((i:Nat):Int).toNat]? =some ck[i]:=by simp[OR]
   have hd2:ck.toList.drop i=ck[i]::ck.toList.drop (i+1):=by rw[dY (by simpa using OR)];simp
   have hc:((i:Int)+1)=((i+1:Nat):Int):=by push_cast;rfl
   rw[X9];rw[X6]at hi;rw[hd2]at hj;generalize eq1:dz[i]=x1 at hi X8;generalize eq2:ck[i]=x2 at hj X9;cases hi with
   |cons x t hi'=>
   cases hj with
   |cons y u hj'=>
   rename_i nsr msr;obtain⟨e,he,X7⟩:=HT.Mq A.in1 ⟨hp,g,d,tk,os⟩ x t y u;refine bA (he prog w _ _ ?_);have h:R (.ok (.ret (.bool (if x=y then AG nsr msr else decide (x<y))))) ⟨hp,g,d,tk,os⟩:=h;cases e with
   |true=>rw[ak (X7.mp Z)]at h;wp_walk;rw[hc];exact⟨uc plain_eq_loop _,oY entry_eq_loop (by rw[cD.under_plainId plain_eq_loop _];exact ih (i+1) _ _ (by omega) qR OR hi' hj' prog w A R _ ⟨hl,hb,h⟩)⟩
   |false=>
    rw[ah (fun q=>absurd (X7.mpr q) bc)]at h;wp_walk using aT hl,aT hb;rw[X8,X9];have hri:∀(Q:VS)(E:VS),Q (.bool (decide (x<y))) ⟨hp,g,d,tk,os⟩->bZ (b7 prog w) A.in1 (richCompare .Lt (.int x t) (.int y u)) Q E ⟨hp,g,d,tk,os⟩:=fun Q E hq=>
     (PyProof.Rows.lt_int hq:bZ (b7 prog w) A.in1 (di .Lt (.int x t) (.int y u)) Q E ⟨hp,g,d,tk,os⟩)
    wp_walk using hri;exact h
  ·have X9:ck[((i:Nat):Int).toNat]? =none:=by simp;omega
   rw[X9];have hm:ms=[]:=by have e:ck.toList.drop i=[]:=fW (by simp;omega);rw[e]at hj;cases hj;rfl
   rw[Ko (.inr hm)]at h;have z1:=hi.length;have z2:=hj.length;rw[fV,eJ]at z1 z2;wp_walk using aT hl,aT hb;show R (.ok (.ret (.bool (decide (dz.size<ck.size))))) _;have e:decide (ns.length<ms.length)=decide (dz.size<ck.size):=by rw[decide_eq_decide];omega
   rw[<-e];exact h
theorem Zj3(l b:ao)(dz ck:Array aj)(n n2:Nat)(dd U5:Option ao)(sl L1:Array (Option aj))(ns ms:List Int)(hi:lT dz.toList ns)(hj:lT ck.toList ms):Meets (Builtin.«list.__lt__» ⟨[.ref l,.ref b],[]⟩) (fun A R s=>s.heap.get? l=some {cls:= .type "list",dict:=dd,data:= .seq dz n,slots:=sl}/\s.heap.get? b=some {cls:= .type "list",dict:=U5,data:= .seq ck n2,slots:=L1}/\R (.ok (.ret (.bool (AG ns ms)))) s):=by intro prog w A R s h;obtain⟨hp,g,d,tk,os⟩:=s;obtain⟨hl,hb,h⟩:=h;have f3:=AutoSeq1.sub_list_list;wp_walk using aT hl,aT hb;exact⟨uc plain_eq_loop _,oY entry_eq_loop (by rw[cD.under_plainId plain_eq_loop _];exact Zj2 l b dz ck n n2 dd U5 sl L1 _ 0 ns ms Z (bB _) (bB _) (by simpa using hi) (by simpa using hj) prog w A R _ ⟨hl,hb,h⟩)⟩
end
noncomputable def AH:List Int->List Int->Bool
 |[],[]=>true
 |[],_::_=>true
 |_::_,[]=>false
 |x::xs,y::ys=>if x=y then AH xs ys else decide (x<=y)
theorem Kp:∀{ns ms:List Int},(ns=[]\/ms=[])->AH ns ms=decide (ns.length<=ms.length)
 |[],[],_=>by simp[AH]
 |[],_::_,_=>by simp[AH]
 |_::_,[],_=>by simp[AH]
 |_::_,_::_,h=>by rcases h with h|h<;>cases h
section
open PySem.SeqAt
open PySem.MeetsSeq PySem.MeetsSeq2 PySem.MeetsSeq3
theorem Zj4(l b:ao)(dz ck:Array aj)(n n2:Nat)(dd U5:Option ao)(sl L1:Array (Option aj))(k:Nat):∀(i:Nat)(ns ms:List Int),dz.size-i=k->i<=dz.size->i<=ck.size->lT (dz.toList.drop i) ns->lT (ck.toList.drop i) ms->Meets (Builtin.«list.__eq__.loop» ⟨[.ref l,.ref b,Z3 i,Z3 1],[]⟩) (fun A R s=>s.heap.get? l=some {cls:= .type "list",dict:=dd,data:= .seq dz n,slots:=sl}/\s.heap.get? b=some {cls:= .type "list",dict:=U5,data:= .seq ck n2,slots:=L1}/\R (.ok (.ret (.bool (AH ns ms)))) s):=by
 induction k with
 |zero=>
  intro i ns ms hk Zf3 Zf4 hi hj prog w A R s h;obtain⟨hp,g,d,tk,os⟩:=s;obtain⟨hl,hb,h⟩:=h;wp_walk using aT hl,aT hb;have hn:ns=[]:=by have e:dz.toList.drop i=[]:=fW (by simp;omega);rw[e]at hi;cases hi;rfl
  have X8:dz[((i:Nat):Int).toNat]? =none:=by simp;omega
  rw[X8];rw[Kp (.inl hn)]at h;have z1:=hi.length;have z2:=hj.length;rw[fV,eJ]at z1 z2;wp_walk using aT hl,aT hb;show R (.ok (.ret (.bool (decide (dz.size<=ck.size))))) _;have e:decide (ns.length<=ms.length)=decide (dz.size<=ck.size):=by rw[decide_eq_decide];omega
  rw[<-e];exact h
 |succ k ih=>
  intro i ns ms hk Zf3 Zf4 hi hj prog w A R s h;obtain⟨hp,g,d,tk,os⟩:=s;obtain⟨hl,hb,h⟩:=h;wp_walk using aT hl,aT hb;have qR:i<dz.size:=by omega
  have X8:dz[((i:Nat):Int).toNat]? =some dz[i]:=by simp[qR]
  have X6:dz.toList.drop i=dz[i]::dz.toList.drop (i+1):=by rw[dY (by simpa using qR)];simp
  rw[X8];by_cases OR:i<ck.size
  ·have X9:ck[((i:Nat):Int).toNat]? =some ck[i]:=by simp[OR]
   have hd2:ck.toList.drop i=ck[i]::ck.toList.drop (i+1):=by rw[dY (by simpa using OR)];simp
   have hc:((i:Int)+1)=((i+1:Nat):Int):=by push_cast;rfl
   rw[X9];rw[X6]at hi;rw[hd2]at hj;generalize eq1:dz[i]=x1 at hi X8;generalize eq2:ck[i]=x2 at hj X9;cases hi with
   |cons x t hi'=>
   cases hj with
   |cons y u hj'=>
   rename_i nsr msr;obtain⟨e,he,X7⟩:=HT.Mq A.in1 ⟨hp,g,d,tk,os⟩ x t y u;refine bA (he prog w _ _ ?_);have h:R (.ok (.ret (.bool (if x=y then AH nsr msr else decide (x<=y))))) ⟨hp,g,d,tk,os⟩:=h;cases e with
   |true=>rw[ak (X7.mp Z)]at h;wp_walk;rw[hc];exact⟨uc plain_eq_loop _,oY entry_eq_loop (by rw[cD.under_plainId plain_eq_loop _];exact ih (i+1) _ _ (by omega) qR OR hi' hj' prog w A R _ ⟨hl,hb,h⟩)⟩
   |false=>
    rw[ah (fun q=>absurd (X7.mpr q) bc)]at h;wp_walk using aT hl,aT hb;rw[X8,X9];have hri:∀(Q:VS)(E:VS),Q (.bool (decide (x<=y))) ⟨hp,g,d,tk,os⟩->bZ (b7 prog w) A.in1 (richCompare .LtE (.int x t) (.int y u)) Q E ⟨hp,g,d,tk,os⟩:=fun Q E hq=>
     (PyProof.Rows.le_int hq:bZ (b7 prog w) A.in1 (di .LtE (.int x t) (.int y u)) Q E ⟨hp,g,d,tk,os⟩)
    wp_walk using hri;exact h
  ·have X9:ck[((i:Nat):Int).toNat]? =none:=by simp;omega
   rw[X9];have hm:ms=[]:=by have e:ck.toList.drop i=[]:=fW (by simp;omega);rw[e]at hj;cases hj;rfl
   rw[Kp (.inr hm)]at h;have z1:=hi.length;have z2:=hj.length;rw[fV,eJ]at z1 z2;wp_walk using aT hl,aT hb;show R (.ok (.ret (.bool (decide (dz.size<=ck.size))))) _;have e:decide (ns.length<=ms.length)=decide (dz.size<=ck.size):=by rw[decide_eq_decide];omega
   rw[<-e];exact h
theorem Zj5(l b:ao)(dz ck:Array aj)(n n2:Nat)(dd U5:Option ao)(sl L1:Array (Option aj))(ns ms:List Int)(hi:lT dz.toList ns)(hj:lT ck.toList ms):Meets (Builtin.«list.__le__» ⟨[.ref l,.ref b],[]⟩) (fun A R s=>s.heap.get? l=some {cls:= .type "list",dict:=dd,data:= .seq dz n,slots:=sl}/\s.heap.get? b=some {cls:= .type "list",dict:=U5,data:= .seq ck n2,slots:=L1}/\R (.ok (.ret (.bool (AH ns ms)))) s):=by intro prog w A R s h;obtain⟨hp,g,d,tk,os⟩:=s;obtain⟨hl,hb,h⟩:=h;have f3:=AutoSeq1.sub_list_list;wp_walk using aT hl,aT hb;exact⟨uc plain_eq_loop _,oY entry_eq_loop (by rw[cD.under_plainId plain_eq_loop _];exact Zj4 l b dz ck n n2 dd U5 sl L1 _ 0 ns ms Z (bB _) (bB _) (by simpa using hi) (by simpa using hj) prog w A R _ ⟨hl,hb,h⟩)⟩
end
noncomputable def AI:List Int->List Int->Bool
 |[],[]=>false
 |[],_::_=>false
 |_::_,[]=>true
 |x::xs,y::ys=>if x=y then AI xs ys else decide (y<x)
theorem Kq:∀{ns ms:List Int},(ns=[]\/ms=[])->AI ns ms=decide (ns.length>ms.length)
 |[],[],_=>by simp[AI]
 |[],_::_,_=>by simp[AI]
 |_::_,[],_=>by simp[AI]
 |_::_,_::_,h=>by rcases h with h|h<;>cases h
section
open PySem.SeqAt
open PySem.MeetsSeq PySem.MeetsSeq2 PySem.MeetsSeq3
theorem Zj6(l b:ao)(dz ck:Array aj)(n n2:Nat)(dd U5:Option ao)(sl L1:Array (Option aj))(k:Nat):∀(i:Nat)(ns ms:List Int),dz.size-i=k->i<=dz.size->i<=ck.size->lT (dz.toList.drop i) ns->lT (ck.toList.drop i) ms->Meets (Builtin.«list.__eq__.loop» ⟨[.ref l,.ref b,Z3 i,Z3 4],[]⟩) (fun A R s=>s.heap.get? l=some {cls:= .type "list",dict:=dd,data:= .seq dz n,slots:=sl}/\s.heap.get? b=some {cls:= .type "list",dict:=U5,data:= .seq ck n2,slots:=L1}/\R (.ok (.ret (.bool (AI ns ms)))) s):=by
 induction k with
 |zero=>
  intro i ns ms hk Zf3 Zf4 hi hj prog w A R s h;obtain⟨hp,g,d,tk,os⟩:=s;obtain⟨hl,hb,h⟩:=h;wp_walk using aT hl,aT hb;have hn:ns=[]:=by have e:dz.toList.drop i=[]:=fW (by simp;omega);rw[e]at hi;cases hi;rfl
  have X8:dz[((i:Nat):Int).toNat]? =none:=by simp;omega
  rw[X8];rw[Kq (.inl hn)]at h;have z1:=hi.length;have z2:=hj.length;rw[fV,eJ]at z1 z2;wp_walk using aT hl,aT hb;show R (.ok (.ret (.bool (decide (dz.size>ck.size))))) _;have e:decide (ns.length>ms.length)=decide (dz.size>ck.size):=by rw[decide_eq_decide];omega
  rw[<-e];exact h
 |succ k ih=>
  intro i ns ms hk Zf3 Zf4 hi hj prog w A R s h;obtain⟨hp,g,d,tk,os⟩:=s;obtain⟨hl,hb,h⟩:=h;wp_walk using aT hl,aT hb;have qR:i<dz.size:=by omega
  have X8:dz[((i:Nat):Int).toNat]? =some dz[i]:=by simp[qR]
  have X6:dz.toList.drop i=dz[i]::dz.toList.drop (i+1):=by rw[dY (by simpa using qR)];simp
  rw[X8];by_cases OR:i<ck.size
  ·have X9:ck[((i:Nat):Int).toNat]? =some ck[i]:=by simp[OR]
   have hd2:ck.toList.drop i=ck[i]::ck.toList.drop (i+1):=by rw[dY (by simpa using OR)];simp
   have hc:((i:Int)+1)=((i+1:Nat):Int):=by push_cast;rfl
   rw[X9];rw[X6]at hi;rw[hd2]at hj;generalize eq1:dz[i]=x1 at hi X8;generalize eq2:ck[i]=x2 at hj X9;cases hi with
   |cons x t hi'=>
   cases hj with
   |cons y u hj'=>
   rename_i nsr msr;obtain⟨e,he,X7⟩:=HT.Mq A.in1 ⟨hp,g,d,tk,os⟩ x t y u;refine bA (he prog w _ _ ?_);have h:R (.ok (.ret (.bool (if x=y then AI nsr msr else decide (y<x))))) ⟨hp,g,d,tk,os⟩:=h;cases e with
   |true=>rw[ak (X7.mp Z)]at h;wp_walk;rw[hc];exact⟨uc plain_eq_loop _,oY entry_eq_loop (by rw[cD.under_plainId plain_eq_loop _];exact ih (i+1) _ _ (by omega) qR OR hi' hj' prog w A R _ ⟨hl,hb,h⟩)⟩
   |false=>
    rw[ah (fun q=>absurd (X7.mpr q) bc)]at h;wp_walk using aT hl,aT hb;rw[X8,X9];have hri:∀(Q:VS)(E:VS),Q (.bool (decide (y<x))) ⟨hp,g,d,tk,os⟩->bZ (b7 prog w) A.in1 (richCompare .Gt (.int x t) (.int y u)) Q E ⟨hp,g,d,tk,os⟩:=fun Q E hq=>
     (PyProof.Rows.gt_int hq:bZ (b7 prog w) A.in1 (di .Gt (.int x t) (.int y u)) Q E ⟨hp,g,d,tk,os⟩)
    wp_walk using hri;exact h
  ·have X9:ck[((i:Nat):Int).toNat]? =none:=by simp;omega
   rw[X9];have hm:ms=[]:=by have e:ck.toList.drop i=[]:=fW (by simp;omega);rw[e]at hj;cases hj;rfl
   rw[Kq (.inr hm)]at h;have z1:=hi.length;have z2:=hj.length;rw[fV,eJ]at z1 z2;wp_walk using aT hl,aT hb;show R (.ok (.ret (.bool (decide (dz.size>ck.size))))) _;have e:decide (ns.length>ms.length)=decide (dz.size>ck.size):=by rw[decide_eq_decide];omega
   rw[<-e];exact h
theorem Zj7(l b:ao)(dz ck:Array aj)(n n2:Nat)(dd U5:Option ao)(sl L1:Array (Option aj))(ns ms:List Int)(hi:lT dz.toList ns)(hj:lT ck.toList ms):Meets (Builtin.«list.__gt__» ⟨[.ref l,.ref b],[]⟩) (fun A R s=>s.heap.get? l=some {cls:= .type "list",dict:=dd,data:= .seq dz n,slots:=sl}/\s.heap.get? b=some {cls:= .type "list",dict:=U5,data:= .seq ck n2,slots:=L1}/\R (.ok (.ret (.bool (AI ns ms)))) s):=by intro prog w A R s h;obtain⟨hp,g,d,tk,os⟩:=s;obtain⟨hl,hb,h⟩:=h;have f3:=AutoSeq1.sub_list_list;wp_walk using aT hl,aT hb;exact⟨uc plain_eq_loop _,oY entry_eq_loop (by rw[cD.under_plainId plain_eq_loop _];exact Zj6 l b dz ck n n2 dd U5 sl L1 _ 0 ns ms Z (bB _) (bB _) (by simpa using hi) (by simpa using hj) prog w A R _ ⟨hl,hb,h⟩)⟩
end
end HL
namespace L2
open PySem PySem.Spec PyProof.Rows
abbrev iL(t:LN):List Int:=t.map fun b:Nat=> (b:Int)
theorem NR:∀s t:LN,HL.AG (iL s) (iL t)=fP s t
 |[],[]=>rfl
 |[],_::_=>rfl
 |_::_,[]=>rfl
 |c::s,d::t=>by
  show(if(c:Int)=(d:Int)then HL.AG (iL s) (iL t)else decide ((c:Int)< (d:Int)))=(decide (c<d)||(c==d&&fP s t));by_cases e:c=d
  ·subst e;rw[ak Z,NR s t];simp
  ·rw[ah (by omega)];have e2:(c==d)=false:=by simpa using e
   rw[e2,vf,nL,decide_eq_decide];omega
theorem NS:∀s t:LN,HL.AI (iL s) (iL t)=fP t s
 |[],[]=>rfl
 |[],_::_=>rfl
 |_::_,[]=>rfl
 |c::s,d::t=>by
  show(if(c:Int)=(d:Int)then HL.AI (iL s) (iL t)else decide ((d:Int)< (c:Int)))=(decide (d<c)||(d==c&&fP t s));by_cases e:c=d
  ·subst e;rw[ak Z,NS s t];simp
  ·rw[ah (by omega)];have e2:(d==c)=false:=by simpa using fun z=>e z.symm
   rw[e2,vf,nL,decide_eq_decide];omega
theorem NT:∀s t:LN,HL.AH (iL s) (iL t)=!fP t s
 |[],[]=>rfl
 |[],_::_=>rfl
 |_::_,[]=>rfl
 |c::s,d::t=>by
  show(if(c:Int)=(d:Int)then HL.AH (iL s) (iL t)else decide ((c:Int)<=(d:Int)))=!(decide (d<c)||(d==c&&fP t s));by_cases e:c=d
  ·subst e;rw[ak Z,NT s t];simp
  ·rw[ah (by omega)];have e2:(d==c)=false:=by simpa using fun z=>e z.symm
   rw[e2,vf,nL,<-decide_not,decide_eq_decide];omega
section
variable{K:ae}{X:Cx K}
inductive rL2(f:LN->LN->Bool)(x:V)(y:V)(H:Hp)(Q:VK):Prop
 |mk (p q:ao) (s t:LN) (_:x= .ref p) (_:y= .ref q) (_:H p=some (.bz (s.map fun b:Nat=>V.int (b:Int)))) (_:H q=some (.bz (t.map fun b:Nat=>V.int (b:Int)))) (_:Q (.bl (f s t)) H)
theorem pz{aw:PL}{s:aB}{σ:St}{H:Hp}{p:ao}{t:LN}(I:cM X aw σ H s)(h:H p=some (.bz (t.map fun b:Nat=>V.int (b:Int)))):∃(fc:List aj)(n:Nat),s.heap.get? p=some {cls:= .type "list",dict:=none,data:= .seq fc.toArray n,slots:=#[]}/\lT fc.toArray.toList (iL t):=by obtain⟨z,fc,n,r,e⟩:=(show iD X.prog X.w H s.heap p (.bz _)from I.fN p _ h);refine⟨fc,n,e,?_⟩;refine YV (ns:=iL t) ?_;rw[eM];exact r
theorem Zj8(hu:X.A.units<oN):uL X (di .Lt) (rL2 fP):=by intro aw s σ H x y v u Q I rx ry h;obtain⟨p,q,s',t,rfl,rfl,hp,hq,k⟩:=h;cases rx;cases ry;obtain⟨i1,n1,e1,a1⟩:=pz I hp;obtain⟨i2,n2,e2,a2⟩:=pz I hq;refine EI (op:= .Lt) ⟨_,e1,Z⟩ ⟨_,e2,Z⟩ PySem.F.slot_list_lt PySem.F.entry_list_lt (PySem.F.args_list_lt_2 _ _) (HL.Zj3 p q _ _ n1 n2 _ _ _ _ _ _ a1 a2) ⟨e1,e2,show aj.bool (HL.AG (iL s') (iL t))≠aj.notImplemented/\_ from⟨(fun x=>nomatch x),?_⟩⟩ hu;rw[NR];exact⟨.bl _,H,I,Z,k⟩
theorem Zj9(hu:X.A.units<oN):uL X (di .LtE) (rL2 fun s t=>!fP t s):=by intro aw s σ H x y v u Q I rx ry h;obtain⟨p,q,s',t,rfl,rfl,hp,hq,k⟩:=h;cases rx;cases ry;obtain⟨i1,n1,e1,a1⟩:=pz I hp;obtain⟨i2,n2,e2,a2⟩:=pz I hq;refine EI (op:= .LtE) ⟨_,e1,Z⟩ ⟨_,e2,Z⟩ PySem.F.slot_list_le PySem.F.entry_list_le (PySem.F.args_list_le_2 _ _) (HL.Zj5 p q _ _ n1 n2 _ _ _ _ _ _ a1 a2) ⟨e1,e2,show aj.bool (HL.AH (iL s') (iL t))≠aj.notImplemented/\_ from⟨(fun x=>nomatch x),?_⟩⟩ hu;rw[NT];exact⟨.bl _,H,I,Z,k⟩
theorem Zka(hu:X.A.units<oN):uL X (di .Gt) (rL2 fun s t=>fP t s):=by intro aw s σ H x y v u Q I rx ry h;obtain⟨p,q,s',t,rfl,rfl,hp,hq,k⟩:=h;cases rx;cases ry;obtain⟨i1,n1,e1,a1⟩:=pz I hp;obtain⟨i2,n2,e2,a2⟩:=pz I hq;refine EI (op:= .Gt) ⟨_,e1,Z⟩ ⟨_,e2,Z⟩ PySem.F.slot_list_gt PySem.F.entry_list_gt (PySem.F.args_list_gt_2 _ _) (HL.Zj7 p q _ _ n1 n2 _ _ _ _ _ _ a1 a2) ⟨e1,e2,show aj.bool (HL.AI (iL s') (iL t))≠aj.notImplemented/\_ from⟨(fun x=>nomatch x),?_⟩⟩ hu;rw[NS];exact⟨.bl _,H,I,Z,k⟩
end
end L2
namespace MW
open PySem PySem.Spec PyProof.Rows L2
variable{P:aV}{w:bG}{K:ae}{mg:SV}{base:bb}{a:cV}
mutual
def gj(H:Hp):dh->V->Prop
 | .lit l,v=>uC H v l
 | .group ss,v=> ∃p xs,v= .ref p/\H p=some (.bz xs)/\fk H ss xs
def fk(H:Hp):List (List dh)->LV->Prop
 |[],xs=>xs=[]
 |o::r,xs=> ∃q ys KS,xs= .ref q::KS/\H q=some (.bz ys)/\jW H o ys/\fk H r KS
def jW(H:Hp):List dh->LV->Prop
 |[],ys=>ys=[]
 |v::r,ys=> ∃y uG,ys=y::uG/\gj H v y/\jW H r uG
end
theorem uC.same{H H':Hp}(s:aS H H'){v:V}:∀{l:gK},uC H v l->uC H' v l
 | .num _,h=>h
 | .str _,h=>let⟨p,e,q⟩:=h;⟨p,e,s _ _ q⟩
mutual
theorem gj.same{H H':Hp}(s:aS H H'):∀(x:dh)(v:V),gj H x v->gj H' x v
 | .lit l,v,h=>uC.same s (l:=l) h
 | .group ss,v,h=>by
  obtain⟨p,xs,e,h1,h2⟩:=h
  exact⟨p,xs,e,s _ _ h1,fk.same s ss xs h2⟩
theorem fk.same{H H':Hp}(s:aS H H'):∀(ss:List (List dh))(xs:LV),fk H ss xs->fk H' ss xs
 |[],xs,h=>h
 |o::r,xs,h=>by
  obtain⟨q,ys,KS,e,h1,h2,h3⟩:=h
  exact⟨q,ys,KS,e,s _ _ h1,jW.same s o ys h2,fk.same s r KS h3⟩
theorem jW.same{H H':Hp}(s:aS H H'):∀(o:List dh)(ys:LV),jW H o ys->jW H' o ys
 |[],ys,h=>h
 |v::r,ys,h=>by
  obtain⟨y,uG,e,h1,h2⟩:=h
  exact⟨y,uG,e,gj.same s v y h1,jW.same s r uG h2⟩
end
theorem jW.p{H:Hp}:∀{o:List dh}{ys:LV},jW H o ys->Paired (fun x v=>gj H x v) o ys
 |[],ys,h=>by cases(show ys=[]from h);exact .nil
 |v::r,ys,h=>by obtain⟨y,uG,rfl,h1,h2⟩:=h;exact .cons h1 (jW.p h2)
theorem jW.of{H:Hp}:∀{o:List dh}{ys:LV},Paired (fun x v=>gj H x v) o ys->jW H o ys
 |_,_,.nil=>rfl
 |_,_,.cons h t=> ⟨_,_,Z,h,jW.of t⟩
theorem fk.snoc{H:Hp}{o:List dh}{q:ao}{ys:LV}(h1:H q=some (.bz ys))(h2:jW H o ys):∀{ss:List (List dh)}{xs:LV},fk H ss xs->fk H (ss++[o]) (xs++[.ref q])
 |[],xs,h=>by cases(show xs=[]from h);exact⟨q,ys,[],Z,h1,h2,Z⟩
 |o'::r,xs,h=>by obtain⟨q',uG,KS,rfl,g1,g2,g3⟩:=h;exact⟨q',uG,KS++[.ref q],Z,g1,g2,fk.snoc h1 h2 g3⟩
def Fz:HO->Prop
 | .bz _=>True
 | .f6 _=>True
 | .ins _ _ fs=>fs.lookup ("place":Str)=none
 |_=>False
def ZaF(H H':Hp):Prop:=∀b o,H b=some o->Fz o->H' b=some o
theorem cQ.f{K:ae}{a:cV}{r:ao}{H H':Hp}{aH:LN}(k:cQ r H H')(c:jU K a H r aH):ZaF H H':=fun b o e f=>k.all b o e fun z=>by obtain⟨tx,p,⟨dx,ta,e2,_⟩,_⟩:=c;rw[z,e2]at e;injection e with e;rw[<-e]at f;cases f
mutual
theorem dZ.f{a:cV}{H H':Hp}(s:ZaF H H'):∀(k:bW)(v:V),dZ a H k v->dZ a H' k v
 | .leaf l,v,h=>by
  obtain⟨x,e,dx,q⟩:=h
  exact⟨x,e,dx,s _ _ q Z⟩
 | .group c fs,v,h=>by
  obtain⟨x,dx,fl,xs,e,h1,h2,h3⟩:=h
  exact⟨x,dx,fl,xs,e,s _ _ h1 Z,s _ _ h2 trivial,fj.f s fs xs h3⟩
theorem fj.f{a:cV}{H H':Hp}(s:ZaF H H'):∀(fs:Zvn)(xs:LV),fj a H fs xs->fj a H' fs xs
 | .nil,xs,h=>h
 | .cons hd k r,xs,h=>by
  obtain⟨x,KS,dx,np,kv,e,h1,h2,h3,h4⟩:=h
  exact⟨x,KS,dx,np,kv,e,s _ _ h1 Z,s _ _ h2 trivial,dZ.f s k kv h3,fj.f s r KS h4⟩
end
theorem l9.f{a:cV}{H H':Hp}{x:cH×bW}{v:V}(h:l9 a H x v)(s:ZaF H H'):l9 a H' x v:=by obtain⟨p,dx,np,kv,e,h1,h2,h3⟩:=h;exact⟨p,dx,np,kv,e,s _ _ h1 Z,s _ _ h2 trivial,dZ.f s _ _ h3⟩
abbrev RV:=LN->Option (dh×LN)
noncomputable def p4(bI:List dh)(v:dh):Bool:=match bI.getLast? with
 |some u=>iH (hW u) (hW v)
 |none=>false
def ig(one:RV)(m:eS):Nat->List dh->LN->Option (List dh×LN)
 |0,_,_=>none
 |f+1,bI,t=>if t.head?=some 44 then(if m= .one\/m= .opt then none else match one t.tail with
   |none=>none
   |some (v,s)=>if m= .keyed/\p4 bI v=false then none else ig one m f (bI++[v]) s)
  else some (bI,t)
def nB(one:RV)(m:eS)(t:LN):Option (List dh×LN):=match one t with
 |none=>none
 |some (v,s)=>ig one m (s.length+1) [v] s
def fw(t:LN):Option (LN×LN):=if bF (t.takeWhile ax)=true then some (t.takeWhile ax,t.dropWhile ax)else none
def my(t:LN):Option (Option LN×LN):=if t.head?=some 125 then some (none,t)else(fw t).map fun x=> (some x.1,x.2)
def rM(t:LN):Option (Option LN×LN):=if t.head?=some 59 then(fw t.tail).map fun x=> (some x.1,x.2)else some (none,t)
mutual
def fE:bW->RV
 | .leaf l,t=> (kP l t).map fun x=> (.lit x.1,x.2)
 | .group false fs,t=>if t.head?=some 123 then(match my t.tail with
   |none=>none
   |some (nm,t1)=>match b8 fs nm t1 with
    |none=>none
    |some (ss,Bu,t2)=>if Bu=none/\t2.head?=some 125 then some (.group ss,t2.tail)else none)
  else none
 | .group true fs,t=>if t.head?=some 60 then(match fw t.tail with
   |none=>none
   |some (nm,t1)=>if(fs.list.any fun x=>decide (x.1.name=nm))=true/\t1.head?=some 58 then(match dX fs nm t1.tail with
     |none=>none
     |some (ss,t2)=>if t2.head?=some 62 then some (.group ss,t2.tail)else none)
    else none)
  else none
def b8:Zvn->Option LN->LN->Option (List (List dh)×Option LN×LN)
 | .nil,nm,t=>some ([],nm,t)
 | .cons h k r,nm,t=>if nm=some h.name then(if t.head?=some 58 then(match nB (fun u=>fE k u) h.mode t.tail with
    |none=>none
    |some (vs,t1)=>match rM t1 with
     |none=>none
     |some (Bu,t2)=> (b8 r Bu t2).map fun x=> (vs::x.1,x.2))
   else none)
  else if h.mode= .one then none else(b8 r nm t).map fun x=> ([]::x.1,x.2)
def dX:Zvn->LN->LN->Option (List (List dh)×LN)
 | .nil,_,t=>some ([],t)
 | .cons h k r,nm,t=>if h.name=nm then(match fE k t with
   |none=>none
   |some (v,t1)=> (dX r nm t1).map fun x=> ([v]::x.1,x.2))
  else(dX r nm t).map fun x=> ([]::x.1,x.2)
end
def mP(fs:Zvn)(t:LN):Option dh:=if 4000<t.length then none else match fE (.group false fs) t with
 |none=>none
 |some (v,s)=>if s=[]then some v else none
def ZeH(one:RV):Prop:=∀t v s,one t=some (v,s)->s.length<t.length
theorem Kr{one:RV}(hp:ZeH one){m:eS}:∀{f:Nat}{bI vs:List dh}{t s:LN},ig one m f bI t=some (vs,s)->s.length<=t.length
 |0,_,_,_,_,h=>by cases h
 |f+1,bI,vs,t,s,h=>by
  unfold ig at h;split at h
  ·rename_i Ja;split at h
   ·cases h
   ·split at h
    ·cases h
    ·rename_i v u e;split at h
     ·cases h
     ·have l1:=Kr hp h;have l2:=hp _ _ _ e;have l3:=dS Ja;omega
  ·have e:t=s:=aA bo (af h);rw[<-e];exact aC _
theorem ZeI{one:RV}(hp:ZeH one){m:eS}{vs:List dh}{t s:LN}(h:nB one m t=some (vs,s)):s.length<t.length:=by
 unfold nB at h;split at h
 ·cases h
 ·rename_i v u e;have l1:=Kr hp h;have l2:=hp _ _ _ e;omega
theorem tM{t n s:LN}(h:fw t=some (n,s)):s.length<=t.length:=by
 unfold fw at h;split at h
 ·have e:t.dropWhile ax=s:=aA bo (af h);rw[<-e];exact NK _ _
 ·cases h
theorem RH{t s:LN}{n:Option LN}(h:my t=some (n,s)):s.length<=t.length:=by
 unfold my at h;split at h
 ·have e:t=s:=aA bo (af h);rw[<-e];exact aC _
 ·cases e:fw t with
  |none=>rw[e]at h;cases h
  |some y=>rw[e]at h;have e2:y.2=s:=aA bo (af h);rw[<-e2];exact tM e
theorem WY{t s:LN}{n:Option LN}(h:rM t=some (n,s)):s.length<=t.length:=by
 unfold rM at h;split at h
 ·rename_i BN;cases e:fw t.tail with
  |none=>rw[e]at h;cases h
  |some y=>rw[e]at h;have e2:y.2=s:=aA bo (af h);have:=tM (n:=y.1) (s:=y.2) e;have:=dS BN;rw[<-e2];omega
 ·have e:t=s:=aA bo (af h);rw[<-e];exact aC _
mutual
theorem wZ:∀k:bW,ZeH (fE k)
 | .leaf l,t,v,s,h=>by
  rw[fE]at h
  cases e:kP l t with
  |none=>rw[e]at h;cases h
  |some y=>
   rw[e]at h
   have e2:y.2=s:=aA bo (af h)
   rw[<-e2];exact LU e
 | .group false fs,t,v,s,h=>by
  rw[fE]at h
  split at h
  ·rename_i A5
   split at h
   ·cases h
   ·rename_i nm t1 e1
    split at h
    ·cases h
    ·rename_i ss Bu t2 e2
     split at h
     ·rename_i hz
      have e:t2.tail=s:=aA bo (af h)
      have l1:=dS A5
      have l2:=RH e1
      have l3:=Iq fs _ _ _ _ _ e2
      have l4:=dS hz.2
      rw[<-e];omega
     ·cases h
  ·cases h
 | .group true fs,t,v,s,h=>by
  rw[fE]at h
  split at h
  ·rename_i Hn
   split at h
   ·cases h
   ·rename_i nm t1 e1
    split at h
    ·rename_i hz
     split at h
     ·cases h
     ·rename_i ss t2 e2
      split at h
      ·rename_i Sm
       have e:t2.tail=s:=aA bo (af h)
       have l1:=dS Hn
       have l2:=tM e1
       have l3:=dS hz.2
       have l4:=Ir fs _ _ _ _ e2
       have l5:=dS Sm
       rw[<-e];omega
      ·cases h
    ·cases h
  ·cases h
theorem Iq:∀(fs:Zvn)(nm:Option LN)(t:LN)(ss:List (List dh))(Bu:Option LN)(s:LN),b8 fs nm t=some (ss,Bu,s)->s.length<=t.length
 | .nil,nm,t,ss,Bu,s,h=>by
  rw[b8]at h
  have e:t=s:=aA (fun x=>x.2.2) (af h)
  rw[<-e];exact aC _
 | .cons hd k r,nm,t,ss,Bu,s,h=>by
  rw[b8]at h
  split at h
  ·split at h
   ·rename_i h58
    split at h
    ·cases h
    ·rename_i vs t1 e1
     split at h
     ·cases h
     ·rename_i Jb t2 e2
      cases e3:b8 r Jb t2 with
      |none=>rw[e3]at h;cases h
      |some y=>
       obtain⟨p5,nm4,t3⟩:=y
       rw[e3]at h
       have e:t3=s:=aA (fun x=>x.2.2) (af h)
       have l1:=dS h58
       have l2:=ZeI (wZ k) e1
       have l3:=WY e2
       have l4:=Iq r _ _ _ _ _ e3
       rw[<-e];omega
   ·cases h
  ·split at h
   ·cases h
   ·cases e3:b8 r nm t with
    |none=>rw[e3]at h;cases h
    |some y=>
     obtain⟨p5,nm4,t3⟩:=y
     rw[e3]at h
     have e:t3=s:=aA (fun x=>x.2.2) (af h)
     rw[<-e];exact Iq r _ _ _ _ _ e3
theorem Ir:∀(fs:Zvn)(nm t:LN)(ss:List (List dh))(s:LN),dX fs nm t=some (ss,s)->s.length<=t.length
 | .nil,nm,t,ss,s,h=>by
  rw[dX]at h
  have e:t=s:=aA bo (af h)
  rw[<-e];exact aC _
 | .cons hd k r,nm,t,ss,s,h=>by
  rw[dX]at h
  split at h
  ·split at h
   ·cases h
   ·rename_i v t1 e1
    cases e3:dX r nm t1 with
    |none=>rw[e3]at h;cases h
    |some y=>
     rw[e3]at h
     have e:y.2=s:=aA bo (af h)
     have l1:=wZ k _ _ _ e1
     have l2:=Ir r _ _ _ _ e3
     rw[<-e];omega
  ·cases e3:dX r nm t with
   |none=>rw[e3]at h;cases h
   |some y=>
    rw[e3]at h
    have e:y.2=s:=aA bo (af h)
    rw[<-e];exact Ir r _ _ _ _ e3
end
def Ks(l:cN):gK->Prop
 | .num _=>EO l=false
 | .str _=>EO l=true
theorem El{l:cN}{t s:LN}{x:gK}(h:kP l t=some (x,s)):Ks l x:=by
 unfold kP at h;split at h
 ·rename_i n;cases e:vM n t with
  |none=>rw[e]at h;cases h
  |some y=>rw[e]at h;have e2:gK.str y.1=x:=aA bU (af h);rw[<-e2];rfl
 ·rename_i hl;cases e:mv (pd l) (pj l) t with
  |none=>rw[e]at h;cases h
  |some y=>
   rw[e]at h;have e2:gK.num y.1=x:=aA bU (af h);rw[<-e2];show EO l=false;cases l with
   |text n=>exact absurd Z (hl n)
   |bit=>rfl
   |int n=>rfl
def ZeJ(l:cN)(v:dh):Prop:=∃x aH,v= .group ([.lit x]::aH)/\Ks l x
theorem Zci{one:RV}{t s:LN}{vs:List dh}(h:nB one .one t=some (vs,s)):∃v u,one t=some (v,u)/\vs=[v]:=by
 unfold nB at h;split at h
 ·cases h
 ·rename_i v u e;rw[ig]at h;split at h
  ·rw[ak (.inl Z)]at h;cases h
  ·exact⟨v,u,e,(aA bU (af h)).symm⟩
theorem ZeK{k:bW}{h:cH}{l:cN}{t s:LN}{v:dh}(hk:fF k=some (h,l))(hv:fE k t=some (v,s)):ZeJ l v:=by
 cases k with
 |leaf l'=>cases hk
 |group c fs=>
  cases c with
  |true=>cases fs<;>cases hk
  |false=>
   cases fs with
   |nil=>cases hk
   |cons h' k' r=>
    cases k' with
    |group c2 fs2=>cases hk
    |leaf l'=>
     have hk:(if h'.mode= .one then some (h',l')else none)=some (h,l):=hk;by_cases hm:h'.mode= .one
     ·rw[ak hm]at hk;have e:=af hk;have e1:h'=h:=aA bU e;have e2:l'=l:=aA bo e;subst e1 e2;rw[fE]at hv;split at hv
      ·split at hv
       ·cases hv
       ·rename_i nm t1 _;split at hv
        ·cases hv
        ·rename_i ss Bu t2 es;split at hv
         ·have ev:dh.group ss=v:=aA bU (af hv);rw[b8]at es;split at es
          ·split at es
           ·split at es
            ·cases es
            ·rename_i vs t3 eo;split at es
             ·cases es
             ·rename_i Jb t4 _;rw[hm]at eo;obtain⟨v0,u0,e0,rfl⟩:=Zci eo;rw[fE]at e0;cases el:kP l' t1.tail with
              |none=>rw[el]at e0;cases e0
              |some y=>
               rw[el]at e0;have e3:dh.lit y.1=v0:=aA bU (af e0);cases er:b8 r Jb t4 with
               |none=>rw[er]at es;cases es
               |some z=>rw[er]at es;have e4:[v0]::z.1=ss:=aA bU (af es);exact⟨y.1,z.1,by rw[<-ev,<-e4,<-e3],El el⟩
           ·cases es
          ·first|(rw[ak hm]at es;cases es)|cases es
         ·cases hv
      ·cases hv
     ·rw[ah hm]at hk;cases hk
section
inductive Ul(vs:LV)(H:Hp)(Q:VK)(_:XK):Prop
 |mk (v:_) (x:_) (aH:_) (_:vs=[v]) (_:gj H (.group ([.lit x]::aH)) v) (_:∀u,uC H u x->Q u H)
theorem RI(T:il K mg a):iW P w K mg base 1 "key_of" MM Ul:=by
 refine cI T.Wu T.Zeq T.Wu.b1 ZbM ?_
 ·lk;obtain⟨v,x,aH,rfl,hv,k⟩:=h;refine⟨_,aq (aN (iJ fi (iJ fi (pv 0) bL) bL)),?_⟩;obtain⟨p,xs,rfl,h1,q,ys,KS,rfl,h2,⟨y,uG,rfl,h3,h4⟩,h5⟩:=hv;refine⟨_,Z,p,_,_,_,Z,Z,ft.of h1,fh (xs:=V.ref q::KS) (j:=0) Z,q,_,_,_,Z,Z,ft.of h2,fh (xs:=y::uG) (j:=0) Z,?_⟩;exact k y h3
inductive GJ(K:ae)(a:cV)(n:Nat)(vs:LV)(H:Hp)(Q:VK)(E:XK):Prop
 |mk (r:ao) (aH:LN) (v:V) (k:bW) (_:vs=[.ref r,v]) (_:jU K a H r aH) (_:dZ a H k v) (_:wfK n k) (_:wb K a E r H Q (fun x v G=>gj G x v) (fE k aH))
def Zhr(os:List dh)(v:V)(G:Hp):Prop:=∃q ys,v= .ref q/\G q=some (.bz ys)/\jW G os ys
inductive ZeL(K:ae)(a:cV)(n:Nat)(vs:LV)(H:Hp)(Q:VK)(E:XK):Prop
 |mk (r:ao) (aH:LN) (v:V) (x:cH×bW) (_:vs=[.ref r,v]) (_:jU K a H r aH) (_:l9 a H x v) (_:(x.1.mode= .keyed->(fF x.2).isSome=true)/\wfK n x.2/\wb K a E r H Q Zhr (nB (fE x.2) x.1.mode aH))
theorem ZeM(m:eS):EN (bV (c9 m)) [.int 42,.int 37]=!decide (m= .one\/m= .opt):=by cases m<;>rfl
theorem Um(one:RV)(m:eS)(f:Nat)(bI:List dh)(t:LN):ig one m (f+1) bI (44::t)=(if m= .one\/m= .opt then none else match one t with
  |none=>none
  |some (v,s)=>if m= .keyed/\p4 bI v=false then none else ig one m f (bI++[v]) s):=by
 rw[ig,ak (show(44::t).head?=some 44 from Z)];rfl
theorem WZ(one:RV)(m:eS){f:Nat}(bI:List dh){t:LN}(h:t.head?≠some 44)(hf:0<f):ig one m f bI t=some (bI,t):=by
 cases f with
 |zero=>exact absurd hf (eW _)
 |succ f=>rw[ig,ah h]
theorem rN(T:il K mg a){n j:Nat}(hj:3<=j)(GV:iW P w K mg base j "read_value" ke (GJ K a n)):iW P w K mg base (j+1) "read_occurrences" nc (ZeL K a n):=by
 refine fI T.tu T.Eh T.tu.b2 rC ?_
 ·lk;obtain⟨r,aH,fv,x,rfl,hc,hx,vW,L6,k⟩:=h;have nd:=rC.nd;refine⟨_,ai (bq (i:=2) nd (dO (ag (ba GV hr dj (ag (pv 0) (ag (aI (pv 1) Z) az)) (by rfl) (aC _)) az))) (ai (qc Mz (eX (fD (pv 0) (kJ T) hr bh (ag (aP T.Zar) az) (by omega))) (ai (bK (bf wx (aI (pv 1) Z) (nP (ag (aP T.FX) (ag (aP T.LM) az))) Z) (aq (cF T.bt hr.hd)) aL) (ai (bq (i:=3) nd (ba GV hr dj (ag (pv 0) (ag (aI (pv 1) Z) az)) (by rfl) (aC _))) (ai (bK (HH (bf gP (aI (pv 1) Z) (aP T.LM) (bw _)) (A9 (bf (uL.or BZ (Zj9 hr.YS)) (ba (RI T) hr bh (ag (pv 3) az) (by rfl) (by omega)) (ba (RI T) hr bh (ag (iJ fi (pv 2) (QX HK bL)) az) (by rfl) (by omega)) (bw _)))).pt (aq (cF T.bt hr.hd)) aL) (aq (dm (ui b9 cA cB jq (pv 2) (ag (pv 3) az)))))))) (aq (aN (pv 2)))),?_⟩;walk;obtain⟨pf,df,np,kv,rfl,f1,f2,f3⟩:=id hx;unfold nB at k;refine⟨_,Z,_,Z,pf,_,df,_,_,Z,f1,T.gF,T.iX,Z,r,aH,kv,x.2,Z,hc,f3,L6,?_⟩;cases e1:fE x.2 aH with
  |none=>rw[e1]at k;exact k
  |some y=>
  obtain⟨v1,t2⟩:=y;rw[e1]at k;dsimp only at k;intro vv H2 jc k8 hv;have hv:gj (cu H H2) v1 vv:=hv;refine⟨(mr 1),fun q hq=>?_⟩;have Hq:H q=none:=k8.new jc.there hq;obtain⟨_,_,hH⟩:=hc.rd;have hR:∀b,H b=none->b≠q->(bp H q (.bz [])) b=none:=fun b e z=>by rw[aF z];exact e
  have yr:(bp H q (.bz [])) r≠none:=by rw[aF (aR hH Hq),hH];exact fun z=>by cases z
  have L5:∀(G:Hp)(o:HO),cu (bp H q (.bz [])) (bp G q o)=cu (bp H q (.bz [])) G:=fun G o=>by
   funext b;by_cases z:b=q
   ·subst z;unfold cu;rw[au]
   ·unfold cu;rw[aF z,aF z]
  have U7:∀b,(bp H q (.bz [])) b=none->H b=none:=fun b e=>by
   by_cases z:b=q
   ·rw[z];exact Hq
   ·rw[aF z]at e;exact e
  generalize bp H q (.bz [])=R at hR yr L5 U7;have Zbh:=jc.len;have Zf7:∀{t s:LN}{v:dh},fE x.2 t=some (v,s)->x.1.mode= .keyed->∃l,(∃h,fF x.2=some (h,l))/\ZeJ l v:=fun{t s v} ev hm=>by obtain⟨y,ey⟩:=v8.mp (vW hm);exact⟨y.2,⟨y.1,ey⟩,ZeK ey ev⟩
  refine⟨fun m σ H3=> ∃(v3:Option V)(bI:List dh)(ys:LV)(t3:LN)(f:Nat),σ=[some (.ref r),some (.ref pf),some (.ref q),v3]/\t3.length=m/\jU K a H3 r t3/\H3 q=some (.bz ys)/\Paired (fun x v=>gj (cu R H3) x v) bI ys/\bI≠ []/\(∀u∈bI,∃t s,fE x.2 t=some (u,s))/\cQ r H H3/\t3.length<f/\ig (fE x.2) x.1.mode (t2.length+1) [v1] t2=ig (fE x.2) x.1.mode f bI t3/\bI.length+t3.length<=17001,⟨_,none,[v1],[vv],t2,t2.length+1,Z,Z,jc.dW hq,au,?_,by simp,?_,k8.dW hq,bT _,Z,by simp;omega⟩,?_⟩
  ·refine .cons ?_ .nil;rw[L5];exact gj.same (cu.Zj1 fun b o e e2=>hR b e fun z=>by rw[z,hq]at e2;cases e2) _ _ hv
  ·intro u hu;rw[cn.mp hu];exact⟨aH,t2,e1⟩
  rintro m σ H3 ⟨v3,bI,ys,t3,f,rfl,rfl,oA,mE,hf3,iY,tX,sq,hfu,gO,jL⟩;walk;obtain⟨_,_,⟨Sk,ta3,ES,_⟩,_⟩:=id oA;have Hx:q≠r:=vk mE ES (by intro z;cases z);refine⟨_,Z,r,Sk,_,Z,ES,Z,r,t3,44,Z,oA,fun t4 et H4 x8 oz=>?_,fun Zf6=>?_⟩
  ·subst et;obtain⟨f,rfl⟩:∃f',f=f'+1:=⟨f-1,by simp at hfu;omega⟩;rw[Um]at gO;refine⟨_,Z,bQ ⟨fun σ' H'=> ∃(v3:Option V)(bI:List dh)(ys:LV)(t3:LN)(f:Nat),σ'=[some (.ref r),some (.ref pf),some (.ref q),v3]/\t3.length< (44::t4).length/\jU K a H' r t3/\H' q=some (.bz ys)/\Paired (fun x v=>gj (cu R H') x v) bI ys/\bI≠ []/\(∀u∈bI,∃t s,fE x.2 t=some (u,s))/\cQ r H H'/\t3.length<f/\ig (fE x.2) x.1.mode (t2.length+1) [v1] t2=ig (fE x.2) x.1.mode f bI t3/\bI.length+t3.length<=17001,fun σ' H' h9=>by obtain⟨v3,bI,ys,t3,f,h1,h2,h3⟩:=h9;exact⟨t3.length,h2,v3,bI,ys,t3,f,h1,Z,h3⟩,?_⟩⟩;walk;have L3:=sq.trans oz;have g1:=(L3.f hc) _ _ f1 Z;refine⟨_,Z,pf,_,df,_,_,Z,g1,T.gF,T.mK,Z,(mr 2),fun q5 hq5=> ⟨q5,_,Z,.inr (qU.of au),Z,Z,_,Z,?_⟩⟩;have U6:=x8.dW (o:= .f6 [.int 42,.int 37]) hq5;have Hm:cQ r H4 (bp H4 q5 (.f6 [.int 42,.int 37])):=(cQ.refl r H4).dW hq5;generalize bp H4 q5 (.f6 [.int 42,.int 37])=H5 at U6 Hm;have I0:=L3.trans Hm;rw[show EN (bV (c9 x.1.mode)) [.int 42,.int 37]=!decide (x.1.mode= .one\/x.1.mode= .opt)from ZeM _];by_cases hm:x.1.mode= .one\/x.1.mode= .opt
   ·rw[ak hm]at gO;rw[gO]at k;rw[aD hm];exact bQ (eU.of k I0).ji
   rw[ah hm]at gO;rw[ay hm];have g5:=(I0.f hc) _ _ f1 Z;refine bx ⟨_,Z,_,Z,pf,_,df,_,_,Z,g5,T.gF,T.iX,Z,r,t4,kv,x.2,Z,U6,dZ.f (I0.f hc) _ _ f3,L6,?_⟩;cases e6:fE x.2 t4 with
   |none=>rw[e6]at gO;rw[gO]at k;exact eU.of k I0
   |some y=>
   obtain⟨v6,t6⟩:=y;rw[e6]at gO;dsimp only at gO;intro vv6 H6 ZW kp6 hv6;have hv6:gj (cu H5 H6) v6 vv6:=hv6;have k16:=I0.trans kp6;have k36:=(oz.trans Hm).trans kp6;have Zqd:H5 q=some (.bz ys):=(oz.trans Hm).all _ _ mE Hx;have U9:H6 q=some (.bz ys):=k36.all _ _ mE Hx;have hf6:Paired (fun x v=>gj (cu R H6) x v) bI ys:=Paired.wm hf3 fun x v h=>gj.same (eZ k36 yr) _ _ h;have Zqe:gj (cu R H6) v6 vv6:=gj.same (cu.left fun b e=>hR b (I0.new U6.there e) fun z=>by rw[z,Zqd]at e;cases e) _ _ hv6;have g6:=(k16.f hc) _ _ f1 Z;have l6:=wZ x.2 _ _ _ e6;have Hw:=Paired.length hf3;have cmp:x.1.mode= .keyed->∀Q':VK,Q' (.bl (!p4 bI v6)) H6->(tOp (fun x y H Q=> (rI0 fun i j=>V.bl (decide (i<=j))) x y H Q\/(rL2 fun s t=>!fP t s) x y H Q) (Jo Ul [] E0 (nO (m7 3) yD)) (Jo Ul [] E0 (nO (tOp (Zl1 K) (m7 2) (tUn (rU fun i=>V.int (-i)) (tC (.int 1)))) yD))) [some (.ref r),some (.ref pf),some (.ref q),some vv6] H6 Q':=fun hm Q' hQ=>by
    obtain⟨QI,z,rfl⟩:∃QI z,bI=QI++[z]:=⟨bI.dropLast,bI.getLast iY,(lh iY).symm⟩;obtain⟨uG,y,rfl,hz,_⟩:=Io hf6;obtain⟨tz,sz,ez⟩:=tX z (by simp);obtain⟨l,⟨h1,hl1⟩,xz,rz,rfl,ty1⟩:=Zf7 ez hm;obtain⟨l2,⟨h2,hl2⟩,x6,r6,rfl,ty2⟩:=Zf7 e6 hm;have el:l=l2:=by rw[hl1]at hl2;exact aA bo (af hl2)
    subst el;have er:p4 (QI++[.group ([.lit xz]::rz)]) (.group ([.lit x6]::r6))=jl xz x6:=by unfold p4;rw[EL];rfl
    rw[er]at hQ;refine⟨_,Z,vv6,x6,r6,Z,gj.same (cu.sub _ _) _ _ hv6,fun u hu=>?_⟩;refine⟨_,Z,_,Z,q,_,_,_,Z,Z,ft.of U9,EX uG y,y,xz,rz,Z,gj.same (cu.sub _ _) _ _ hz,fun u' hu'=>?_⟩;cases x6 with
    |num i=>
     cases xz with
     |num j'=>
      refine .inl ⟨i,j',hu,hu',?_⟩;have e:(!jl (.num j') (.num i))=decide (i<=j'):=by show(!decide (j'<i))=_;rw[<-decide_not,decide_eq_decide];omega
      rw[e]at hQ;exact hQ
     |str s'=>have t1:EO l=true:=ty1;have t2:EO l=false:=ty2;rw[t1]at t2;cases t2
    |str s6=>
     cases xz with
     |num j'=>have t1:EO l=false:=ty1;have t2:EO l=true:=ty2;rw[t1]at t2;cases t2
     |str s'=>obtain⟨p1,rfl,hp1⟩:=hu;obtain⟨p2,rfl,hp2⟩:=hu';exact .inr ⟨p1,p2,s6,s',Z,Z,hp1,hp2,hQ⟩
   refine⟨_,Z,pf,_,df,_,_,Z,g6,T.gF,T.mK,Z,Z,_,Z,?_⟩;by_cases rj:x.1.mode= .keyed/\p4 bI v6=false
   ·rw[ak rj]at gO;rw[gO]at k;rw[show decide (bV (c9 x.1.mode)=V.int 37)=true by rw[rj.1];rfl];refine bQ (cmp rj.1 _ ⟨_,Z,?_⟩);rw[rj.2];exact bQ (eU.of k k16).ji
   rw[ah rj]at gO;refine(fun go=>Pe (fun h=>?_) (fun _=>go)) ?_
   ·have hm:x.1.mode= .keyed:=by cases hmm:x.1.mode<;>first|rfl|(rw[hmm]at h;exact absurd h (by decide))
    have e:p4 bI v6=true:=by
     cases e:p4 bI v6 with
     |true=>rfl
     |false=>exact absurd ⟨hm,e⟩ rj
    have hQ:=cmp hm;rw[e]at hQ;exact hQ _ ⟨_,Z,go⟩
   refine bx ⟨_,Z,.inl ⟨Z,_,ft.of U9⟩,_,Z,q,_,_,Z,Z,U9,?_,some vv6,bI++[v6],ys++[vv6],t6,f,Z,by simp;omega,hc.put k16 ZW Hq,au,?_,by simp,?_,k16.put Hq,by simp at hfu;omega,gO,by simp at jL⊢;omega⟩
   ·exact mM (by simp at jL;omega)
   ·rw[L5];exact i8 (F:=fun x v=>gj (cu R H6) x v) Zqe hf6
   ·intro u hu;rcases cz.mp hu with z|z
    ·exact tX u z
    ·rw[cn.mp z];exact⟨t4,t6,e6⟩
  ·refine⟨_,Z,bx ⟨_,Z,?_⟩⟩;rw[gO,WZ _ _ _ Zf6 (by omega)]at k;refine k (.ref q) H3 oA sq ⟨q,ys,Z,by rw[cu.at Hq];exact mE,jW.of (Paired.wm hf3 fun x v h=>gj.same (cu.left U7) _ _ h)⟩
end
theorem og{α:Type}{l:List α}{i:Nat}{x:α}(h:l[i]? =some x):l.drop i=x::l.drop (i+1):=by obtain⟨hi,e⟩:=aW.mp h;rw[dY hi,e]
theorem ZeN{fs:Zvn}{i:Nat}{x:cH×bW}(h:fs.list[i]? =some x)(nm:Option LN)(t:LN):b8 (fieldsOf (fs.list.drop i)) nm t=(if nm=some x.1.name then(if t.head?=some 58 then(match nB (fE x.2) x.1.mode t.tail with
    |none=>none
    |some (vs,t1)=>match rM t1 with
     |none=>none
     |some (Bu,t2)=> (b8 (fieldsOf (fs.list.drop (i+1))) Bu t2).map fun x=> (vs::x.1,x.2))
   else none)
  else if x.1.mode= .one then none else(b8 (fieldsOf (fs.list.drop (i+1))) nm t).map fun x=> ([]::x.1,x.2)):=by
 rw[og h];show b8 (.cons x.1 x.2 (fieldsOf (fs.list.drop (i+1)))) nm t=_;rw[b8];try rfl
theorem ZeO{fs:Zvn}{i:Nat}{x:cH×bW}(h:fs.list[i]? =some x)(nm:LN)(t:LN):dX (fieldsOf (fs.list.drop i)) nm t=(if x.1.name=nm then(match fE x.2 t with
   |none=>none
   |some (v,t1)=> (dX (fieldsOf (fs.list.drop (i+1))) nm t1).map fun x=> ([v]::x.1,x.2))
  else(dX (fieldsOf (fs.list.drop (i+1))) nm t).map fun x=> ([]::x.1,x.2)):=by
 rw[og h];show dX (.cons x.1 x.2 (fieldsOf (fs.list.drop (i+1)))) nm t=_;rw[dX];try rfl
theorem map_cons{α β:Type}(o:Option (List α×β))(done:List α)(y:α):(o.map fun x=> (y::x.1,x.2)).map (fun x=> (done++x.1,x.2))=o.map fun x=> ((done++[y])++x.1,x.2):=by
 cases o with
 |none=>rfl
 |some z=>simp
def ZmE(H:Hp):Option LN->V->Prop
 |none,v=>v= .ik
 |some n,v=> ∃p,v= .ref p/\H p=some (.f6 (iz n))
section
inductive W4(K:ae)(a:cV)(n:Nat)(ch:Bool)(vs:LV)(H:Hp)(Q:VK)(E:XK):Prop
 |mk (r:ao) (aH:LN) (v:V) (fs:Zvn) (_:vs=[.ref r,v]) (_:jU K a H r aH) (_:dZ a H (.group ch fs) v) (_:wfK n (.group ch fs)) (_:wb K a E r H Q (fun x v G=>gj G x v) (fE (.group ch fs) aH))
def Em(o:Option (List (List dh)×Option LN×LN)):Option (dh×LN):=match o with
 |none=>none
 |some (ss,Bu,t2)=>if Bu=none/\t2.head?=some 125 then some (.group ss,t2.tail)else none
theorem GK(fs:Zvn)(t:LN):fE (.group false fs) (123::t)=(match my t with
  |none=>none
  |some (nm,t1)=>Em (b8 fs nm t1)):=by
 rw[fE,ak (show(123::t).head?=some 123 from Z)];show(match my t with
  |none=>none
  |some (nm,t1)=>match b8 fs nm t1 with
   |none=>none
   |some (ss,Bu,t2)=>if Bu=none/\t2.head?=some 125 then some (dh.group ss,t2.tail)else none)=_
 cases my t<;>rfl
theorem AJ(T:il K mg a){n j:Nat}(hj:4<=j)(GO:iW P w K mg base j "read_occurrences" nc (ZeL K a n)):iW P w K mg base (j+1) "read_record" pR (W4 K a (n+1) false):=by
 refine fI T.C7 T.Qg T.C7.b2 zg ?_
 ·lk;obtain⟨r,aH,gv,fs,rfl,hc,hg,L6,k⟩:=h;have nd:=zg.nd;obtain⟨g,dg,fl,xs,rfl,g1,g2,g3⟩:=hg;obtain⟨Zqg,L6⟩:=L6;have hfl:=fj.l g3;have hxl:xs.length=fs.list.length:=(Paired.length hfl).symm;have ZR:∃t,KZ (uf (Be P w) P w K mg base Cr "read_record" (aE pP) a.u6 la A bC s H E) ((ic pP).drop 4) t/\∀(H1:Hp)(t1:LN)(q:ao)(nm:Option LN)(nv:V),jU K a H1 r t1->cQ r H H1->H q=none->H1 q=some (.bz [])->ZmE H1 nm nv->wb K a E r H Q (fun x v G=>gj G x v) (Em (b8 fs nm t1))->t {nx:=fun _ H'=>Q .ik H',rt:=Q} [some (.ref r),some (.ref g),some (.ref q),some nv,none] H1:=by
   refine⟨_,ai (lC Mz Z (kT (aI (pv 1) Z)) (gW (i:=4) nd) (aq (bK (bf (uL.or (Zj hr.units) (Zho hr.units)) (pv 3) (aI (pv 4) Z) (bw _)) (ai (dm (fD (pv 0) (mZ T) hr dj (ag (aP T.Zas) az) (by omega))) (ai (dm (ui b9 cA cB jq (pv 2) (ag (ba GO hr dj (ag (pv 0) (ag (pv 4) az)) (by rfl) (aC _)) az))) (aq (bq (i:=3) nd (yB (eX (fD (pv 0) (kJ T) hr bh (ag (aP T.J3) az) (by omega))) (du (pv 0) (l8 T) hr dj (by omega)) oZ))))) (aq (bK (bf gP (aI (pv 4) Z) (aP T.wR) (bw _)) (aq (cF T.bt hr.hd)) (aq (dm (ui b9 cA cB jq (pv 2) (ag (dO az) az))))))))) (ai (bK (nN (Z8 (pv 3))) (aq (cF T.bt hr.hd)) aL) (ai (dm (fD (pv 0) (mZ T) hr dj (ag (aP T.va) az) (by omega))) (aq (aN (pv 2))))),?_⟩;intro H1 t1 q nm nv j9 jO Hq hq1 hnm k;walk;have hR:∀b,H b=none->b≠q->(bp H q (.bz [])) b=none:=fun b e z=>by rw[aF z];exact e
   obtain⟨_,_,hH⟩:=hc.rd;have yr:(bp H q (.bz [])) r≠none:=by rw[aF (aR hH Hq),hH];exact fun z=>by cases z
   have L5:∀(G:Hp)(o:HO),cu (bp H q (.bz [])) (bp G q o)=cu (bp H q (.bz [])) G:=fun G o=>by
    funext b;by_cases z:b=q
    ·subst z;unfold cu;rw[au]
    ·unfold cu;rw[aF z,aF z]
   have U7:∀b,(bp H q (.bz [])) b=none->H b=none:=fun b e=>by
    by_cases z:b=q
    ·rw[z];exact Hq
    ·rw[aF z]at e;exact e
   generalize bp H q (.bz [])=R at hR yr L5 U7;have g1':=(jO.f hc) _ _ g1 Z;refine⟨_,Z,g,_,dg,_,_,Z,g1',T.mJ,T.jr,Z,fl,Z,⟨_,ft.of ((jO.f hc) _ _ g2 trivial)⟩,lE (K:=K) (a:=fl) (xs:=xs) (fun i σ H3=> ∃(Jb:Option LN)(nv3:V)(v4:Option V)(done:List (List dh))(ys:LV)(t3:LN),σ=[some (.ref r),some (.ref g),some (.ref q),some nv3,v4]/\done.length=i/\ys.length=i/\jU K a H3 r t3/\H3 q=some (.bz ys)/\fk (cu R H3) done ys/\ZmE H3 Jb nv3/\cQ r H H3/\b8 fs nm t1=(b8 (fieldsOf (fs.list.drop i)) Jb t3).map fun x=> (done++x.1,x.2)) ⟨nm,nv,none,[],[],t1,Z,Z,Z,j9,hq1,Z,hnm,jO,?_⟩ (fun i σ H3 _ h9=>by obtain⟨_,_,_,_,_,_,_,_,_,_,_,_,_,kp,_⟩:=h9;exact ft.of ((kp.f hc) _ _ g2 trivial)) ?_ ?_⟩
   ·rw[ib,pZ];cases b8 fs nm t1<;>rfl
   ·rintro i y σ H3 hi ⟨Jb,nv3,v4,done,ys,t3,rfl,hdl,Hw,oA,mE,Yr,hnm3,sq,gO⟩;walk;obtain⟨x,hx,hxf⟩:=iE hfl hi;have ZnI:i<17000:=by have:=(aW.mp hi).1;omega
    rw[ZeN hx]at gO;have ZkV:=hxf.f (sq.f hc);obtain⟨pf,df,np,kv,rfl,f1,f2,f3⟩:=id ZkV;obtain⟨w1,w2,w3⟩:=L6 x (bj hx);obtain⟨_,_,⟨Sk,ta3,ES,_⟩,_⟩:=id oA;have Hx:q≠r:=vk mE ES (by intro z;cases z);refine⟨_,Z,_,Z,pf,_,df,_,_,Z,f1,T.gF,T.jC,Z,?_⟩;have test:∀Q':VK,Q' (.bl (decide (Jb=some x.1.name))) H3->(ZmB nv3 (.ref np) H3 Q'\/ZiA nv3 (.ref np) H3 Q'):=fun Q' hQ=>by
     cases Jb with
     |none=>have e:nv3= .ik:=hnm3;rw[e];refine .inr ⟨np,_,Z,Z,f2,?_⟩;rw[ay (by intro z;cases z)]at hQ;exact hQ
     |some nn=>obtain⟨p,rfl,hp⟩:=hnm3;refine .inl ⟨p,np,nn,x.1.name,Z,Z,hp,f2,?_⟩;rw[show decide (some nn=some x.1.name)=decide (nn=x.1.name) by rw[decide_eq_decide];exact⟨fun z=>af z,fun z=>by rw[z]⟩]at hQ;exact hQ
    refine test _ ⟨_,Z,?_⟩;by_cases hm:Jb=some x.1.name
    ·rw[aD hm];rw[ak hm]at gO;refine bQ ⟨_,Z,r,Sk,_,Z,ES,Z,r,t3,58,Z,oA,fun t4 et H4 x8 oz=>?_,fun iY=>?_⟩
     ·subst et;rw[ak (show(58::t4).head?=some 58 from Z)]at gO;dsimp only[List.tail_cons]at gO;have L3:=sq.trans oz;have U8:H4 q=some (.bz ys):=oz.all _ _ mE Hx;refine⟨_,Z,.inl ⟨Z,_,ft.of U8⟩,_,Z,_,Z,r,t4,_,x,Z,x8,hxf.f (L3.f hc),w2,w3,?_⟩;cases e5:nB (fE x.2) x.1.mode t4 with
      |none=>rw[e5]at gO;have gO:b8 fs nm t1=none:=gO;rw[gO]at k;exact eU.of k L3
      |some y5=>
      obtain⟨os,t5⟩:=y5;rw[e5]at gO;dsimp only at gO;intro v5 H5 U6 Hm hv5;have k35:=oz.trans Hm;have I0:=sq.trans k35;have hq5:H5 q=some (.bz ys):=k35.all _ _ mE Hx;obtain⟨qo,zs,rfl,ho1,U2⟩:=hv5;have ZnJ:aS (cu H4 H5) (cu R H5):=cu.left fun b e=>hR b (L3.new x8.there e) fun z=>by rw[z,U8]at e;cases e
      have hs5:fk (cu R H5) (done++[os]) (ys++[.ref qo]):=fk.snoc (ZnJ _ _ ho1) (jW.same ZnJ _ _ U2) (fk.same (eZ k35 yr) _ _ Yr);refine⟨q,_,_,Z,Z,hq5,mM (by omega),?_⟩;have ZW:jU K a (bp H5 q (.bz (ys++[.ref qo]))) r t5:=hc.put I0 U6 Hq;have kp6:cQ r H (bp H5 q (.bz (ys++[.ref qo]))):=I0.put Hq;have U9:= @au H5 q (.bz (ys++[.ref qo]));have hs6:fk (cu R (bp H5 q (.bz (ys++[.ref qo])))) (done++[os]) (ys++[.ref qo]):=by rw[L5];exact hs5
      generalize bp H5 q (.bz (ys++[.ref qo]))=H6 at ZW kp6 U9 hs6;obtain⟨_,_,⟨dx6,ta6,hH6,_⟩,_⟩:=id ZW;refine⟨_,Z,r,dx6,_,Z,hH6,Z,r,t5,59,Z,ZW,fun t7 et H7 hc7 kp7=>?_,fun iY=>?_⟩
      ·subst et;have en:rM (59::t7)=(fw t7).map fun x=> (some x.1,x.2):=by unfold rM;rw[ak (show(59::t7).head?=some 59 from Z)];rfl
       rw[en]at gO;have k17:=kp6.trans kp7;obtain⟨_,_,⟨dx7,ta7,hH7,_⟩,_⟩:=id hc7;refine⟨_,Z,bQ ⟨_,Z,r,dx7,_,Z,hH7,Z,r,t7,Z,hc7,fun rj=>?_,fun vX H8 q8 n8 hq8 hc8 kp8=>?_⟩⟩
       ·have ep:fw t7=none:=by unfold fw;rw[ah (by rw[rj];exact aK)]
        rw[ep]at gO;have gO:b8 fs nm t1=none:=gO;rw[gO]at k;exact eU.of k k17
       ·have ep:fw t7=some (t7.takeWhile ax,t7.dropWhile ax):=by unfold fw;rw[ak vX]
        rw[ep]at gO;have gO:b8 fs nm t1=((b8 (fieldsOf (fs.list.drop (i+1))) (some (t7.takeWhile ax)) (t7.dropWhile ax)).map fun x=> (os::x.1,x.2)).map fun x=> (done++x.1,x.2):=gO;rw[map_cons]at gO;have k68:=kp7.trans kp8;refine⟨some (t7.takeWhile ax),.ref q8,_,done++[os],ys++[.ref qo],t7.dropWhile ax,Z,by simp;omega,by simp;omega,hc8,k68.all _ _ U9 Hx,fk.same (eZ k68 yr) _ _ hs6,⟨q8,Z,hq8⟩,kp6.trans k68,gO⟩
      ·have en:rM t5=some (none,t5):=by unfold rM;rw[ah iY]
       rw[en]at gO;have gO:b8 fs nm t1=((b8 (fieldsOf (fs.list.drop (i+1))) none t5).map fun x=> (os::x.1,x.2)).map fun x=> (done++x.1,x.2):=gO;rw[map_cons]at gO;refine⟨_,Z,bx ?_⟩;exact⟨none,.ik,_,done++[os],ys++[.ref qo],t5,Z,by simp;omega,by simp;omega,ZW,U9,hs6,Z,kp6,gO⟩
     ·rw[ah iY]at gO;have gO:b8 fs nm t1=none:=gO;rw[gO]at k;exact eU.of k sq
    ·rw[ay hm];rw[ah hm]at gO;refine bx ⟨_,Z,pf,_,df,_,_,Z,f1,T.gF,T.mK,Z,Z,_,Z,?_⟩;by_cases h1:x.1.mode= .one
     ·rw[ak h1]at gO;have gO:b8 fs nm t1=none:=gO;rw[gO]at k;rw[show decide (bV (c9 x.1.mode)=V.int 33)=true by rw[h1];rfl];exact bQ (eU.of k sq).ji
     rw[ah h1,map_cons]at gO;rw[show decide (bV (c9 x.1.mode)=V.int 33)=false by cases hmm:x.1.mode<;>first|rfl|exact absurd hmm h1];refine bx ⟨_,Z,.inl ⟨Z,_,ft.of mE⟩,(mr 0),fun qe Va=> ⟨q,ys,_,Z,Z,?_,mM (by omega),?_⟩⟩
     ·rw[aF (aR mE Va)];exact mE
     ·have x8:=oA.dW (o:= .bz []) Va;have oz:cQ r H3 (bp H3 qe (.bz [])):=(cQ.refl r H3).dW Va;have he4:= @au H3 qe (.bz []);have nqe:qe≠q:=fun z=>by rw[z,mE]at Va;cases Va
      generalize bp H3 qe (.bz [])=H4 at x8 oz he4;have L3:=sq.trans oz;have hqR:R qe=none:=hR _ (sq.new oA.there Va) nqe;refine⟨Jb,nv3,_,done++[[]],ys++[.ref qe],t3,Z,by simp;omega,by simp;omega,hc.put L3 x8 Hq,au,?_,?_,L3.put Hq,gO⟩
      ·rw[L5];exact fk.snoc (o:=[]) (ys:=[]) (by rw[cu.at hqR];exact he4) Z (fk.same (eZ oz yr) _ _ Yr)
      ·cases Jb with
       |none=>exact hnm3
       |some nn=>
        obtain⟨p,e,hp⟩:=hnm3;refine⟨p,e,?_⟩;have npq:p≠q:=fun z=>by rw[z,mE]at hp;cases hp
        have npr:p≠r:=fun z=>by rw[z,ES]at hp;cases hp
        rw[aF npq];exact oz.all _ _ hp npr
   ·rintro σ H3 ⟨Jb,nv3,v4,done,ys,t3,rfl,hdl,Hw,oA,mE,Yr,hnm3,sq,gO⟩;walk;rw[hxl,ko]at gO;have gO:b8 fs nm t1=some (done++[],Jb,t3):=gO;rw[cJ]at gO;rw[gO]at k;unfold Em at k;dsimp only at k;obtain⟨_,_,⟨Sk,ta3,ES,_⟩,_⟩:=id oA;have Hx:q≠r:=vk mE ES (by intro z;cases z);refine⟨_,Z,_,Z,?_⟩;cases Jb with
    |some nn=>obtain⟨p,rfl,hp⟩:=hnm3;rw[ah (by rintro ⟨z,_⟩;cases z)]at k;exact bQ (eU.of k sq).ji
    |none=>
     have e:nv3= .ik:=hnm3;subst e;refine bx ⟨_,Z,r,Sk,_,Z,ES,Z,r,t3,125,Z,oA,fun t4 et H4 x8 oz=>?_,fun iY=>?_⟩
     ·subst et;rw[ak ⟨Z,Z⟩]at k;refine⟨_,Z,k _ H4 x8 (sq.trans oz) ⟨q,ys,Z,?_,?_⟩⟩
      ·rw[cu.at Hq];exact oz.all _ _ mE Hx
      ·exact fk.same (cu.left U7) _ _ (fk.same (eZ oz yr) _ _ Yr)
     ·rw[ah (fun z=>iY z.2)]at k;exact eU.of k sq
  obtain⟨tl,pl,hl⟩:=ZR;refine⟨_,ai (dm (fD (pv 0) (mZ T) hr dj (ag (aP T.wN) az) (by omega))) (ai (bq (i:=2) nd (dO az)) (ai (bq (i:=3) nd oZ) (ai (bK (bf BY (du (pv 0) (vL T) hr bh (by omega)) (aP T.va) (bw _)) (aq (bq (i:=3) nd (du (pv 0) (l8 T) hr dj (by omega)))) aL) pl))),?_⟩;walk;obtain⟨_,_,⟨dx,ta,hH,_⟩,_⟩:=id hc;refine⟨_,Z,r,dx,_,Z,hH,Z,r,aH,123,Z,hc,fun t1 et H1 j9 jO=>?_,fun iY=>?_⟩
  ·subst et;rw[GK]at k;refine⟨(mr 0),fun q hq=>?_⟩;have Hq:H q=none:=jO.new j9.there hq;have jc:=j9.dW (o:= .bz []) hq;have k8:cQ r H (bp H1 q (.bz [])):=jO.dW hq;have LB:= @au H1 q (.bz []);generalize bp H1 q (.bz [])=H2 at jc k8 LB;obtain⟨_,_,⟨dx2,ta2,hH2,_⟩,_⟩:=id jc;have Hx:q≠r:=vk LB hH2 (by intro z;cases z);refine⟨_,Z,r,dx2,_,Z,hH2,Z,r,t1,Z,jc,?_⟩;refine⟨Z,_,Z,?_⟩;by_cases OS:t1.head?=some 125
   ·rw[show decide (V.int (hd t1)=V.int 125)=true by rw[show hd t1=125 from Rz.mpr OS];rfl];refine bx ?_;unfold my at k;rw[ak OS]at k;exact hl H2 t1 q none .ik jc k8 Hq LB Z k
   ·rw[show decide (V.int (hd t1)=V.int 125)=false from ay fun z=>OS (Rz.mp (by injection z))];unfold my at k;rw[ah OS]at k;refine bQ ⟨_,Z,r,dx2,_,Z,hH2,Z,r,t1,Z,jc,fun rj=>?_,fun vX H8 q8 n8 hq8 hc8 kp8=>?_⟩
    ·have ep:fw t1=none:=by unfold fw;rw[ah (by rw[rj];exact aK)]
     rw[ep]at k;exact eU.of k k8
    ·have ep:fw t1=some (t1.takeWhile ax,t1.dropWhile ax):=by unfold fw;rw[ak vX]
     rw[ep]at k;exact hl H8 _ q (some (t1.takeWhile ax)) (.ref q8) hc8 (k8.trans kp8) Hq (kp8.all _ _ LB Hx) ⟨q8,Z,hq8⟩ k
  ·rw[show fE (.group false fs) aH=none by rw[fE,ah iY]]at k;exact k
end
end MW
namespace L2
open PySem PySem.Spec PyProof.Rows
section
variable{K:ae}{X:Cx K}
inductive Zhs(K:ae)(x:V)(y:V)(H:Hp)(Q:VK):Prop
 |mk (d:_) (xs:_) (_:Dp K H x d) (_:Dp K H y (.list xs)) (_:(d.canLay0=true/\d.depth<=60)) (_:bJ.canLayAll0 xs=true) (_:Q (.bl (!xs.any fun y=>bJ.eqv y d)) H)
theorem Zcj(hu:X.A.units+64<oN):uL X (di .NotIn) (Zhs K):=by intro aw s σ H x y v u Q I rx ry h;obtain⟨d,xs,hd,he,sd,se,q⟩:=h;obtain⟨as,r1⟩:=Dp.B0 I d x v hd rx;obtain⟨bs,r2⟩:=Dp.B0 I _ y u he ry;refine SeqAt.notIn_list_reads r2 r1 se sd.1 ?_ ⟨.bl _,H,I,Z,q⟩;have:=Nat.min_le_right (bJ.depthAll xs) d.depth;omega
end
theorem ZaG{K:ae}{H:Hp}:∀{ns:List LN}{vs:LV},Paired (fun n v=> ∃p,v=V.ref p/\H p=some (.f6 (n.map fun b:Nat=>V.int (b:Int)))) ns vs->E1 K H vs (ns.map fun n=>bJ.tuple (n.map fun b:Nat=>bJ.int (b:Int)))
 |_,_,.nil=> .nil
 |_,_,.cons ⟨p,e,h⟩ t=>by subst e;exact .cons (.f6 (qU.of h) (m5 _)) (ZaG t)
theorem W5:∀ns:List LN,bJ.canLayAll0 (ns.map fun n=>bJ.tuple (n.map fun b:Nat=>bJ.int (b:Int)))=true
 |[]=>rfl
 |n::r=>by rw[aY,bJ.canLayAll0,W5 r,bJ.canLay0,AD];rfl
theorem ZeP(n:LN):(bJ.tuple (n.map fun b:Nat=>bJ.int (b:Int))).canLay0=true/\(bJ.tuple (n.map fun b:Nat=>bJ.int (b:Int))).depth<=60:=by rw[bJ.canLay0,AD,bJ.depth];exact⟨Z,by have:=wX n;omega⟩
theorem W6(m:LN):∀ns:List LN,(ns.map fun n=>bJ.tuple (n.map fun b:Nat=>bJ.int (b:Int))).any (fun y=>bJ.eqv y (bJ.tuple (m.map fun b:Nat=>bJ.int (b:Int))))=ns.any fun n=>decide (n=m)
 |[]=>rfl
 |n::r=>by rw[aY,dD,dD,W6 m r,bJ.eqv,AB]
end L2
namespace MW
open PySem PySem.Spec PyProof.Rows L2
variable{P:aV}{w:bG}{K:ae}{mg:SV}{base:bb}{a:cV}
section
def RJ(o:Option (List (List dh)×LN)):Option (dh×LN):=match o with
 |none=>none
 |some (ss,t2)=>if t2.head?=some 62 then some (.group ss,t2.tail)else none
theorem LW(fs:Zvn)(t:LN):fE (.group true fs) (60::t)=(match fw t with
  |none=>none
  |some (nm,t1)=>if(fs.list.any fun x=>decide (x.1.name=nm))=true/\t1.head?=some 58 then RJ (dX fs nm t1.tail)else none):=by
 rw[fE,ak (show(60::t).head?=some 60 from Z)];show(match fw t with
  |none=>none
  |some (nm,t1)=>if(fs.list.any fun x=>decide (x.1.name=nm))=true/\t1.head?=some 58 then(match dX fs nm t1.tail with
   |none=>none
   |some (ss,t2)=>if t2.head?=some 62 then some (dh.group ss,t2.tail)else none)else none)=_
 cases fw t<;>rfl
theorem NU(T:il K mg a){n j:Nat}(hj:4<=j)(GV:iW P w K mg base j "read_value" ke (GJ K a n)):iW P w K mg base (j+1) "read_choice" uR (W4 K a (n+1) true):=by
 refine fI T.C8 T.Qh T.C8.b2 zh ?_
 ·lk;obtain⟨r,aH,gv,fs,rfl,hc,hg,L6,k⟩:=h;have nd:=zh.nd;obtain⟨g,dg,fl,xs,rfl,g1,g2,g3⟩:=hg;obtain⟨Zqg,L6⟩:=L6;have hfl:=fj.l g3;have hxl:xs.length=fs.list.length:=(Paired.length hfl).symm;have ZR:∃t,KZ (uf (Be P w) P w K mg base Cs "read_choice" (aE pQ) a.u7 la A bC s H E) ((ic pQ).drop 4) t/\∀(H1:Hp)(t1:LN)(np:ao)(nm:LN),jU K a H1 r t1->cQ r H H1->H1 np=some (.f6 (iz nm))->wb K a E r H Q (fun x v G=>gj G x v) (RJ (dX fs nm t1))->t {nx:=fun _ H'=>Q .ik H',rt:=Q} [some (.ref r),some (.ref g),some (.ref np),none,none] H1:=by
   refine⟨_,ai (bq (i:=4) nd (dO az)) (ai (lC Mz Z (kT (aI (pv 1) Z)) (gW (i:=3) nd) (aq (dm (ui b9 cA cB jq (pv 4) (ag (yB (bf (Zj hr.units) (aI (pv 3) Z) (pv 2) (bw _)) (dO (ag (ba GV hr dj (ag (pv 0) (ag (aI (pv 3) Z) az)) (by rfl) (aC _)) az)) (dO az)) az))))) (ai (dm (fD (pv 0) (mZ T) hr dj (ag (aP T.Bh) az) (by omega))) (aq (aN (pv 4))))),?_⟩;intro H1 t1 np nm j9 jO hnp k;walk;refine⟨(mr 0),fun q Zh8=>?_⟩;have Hq:H q=none:=jO.new j9.there Zh8;have ZnM:(bp H1 q (.bz [])) np=some (.f6 (iz nm)):=by rw[aF (aR hnp Zh8)];exact hnp
   have jc:=j9.dW (o:= .bz []) Zh8;have k8:cQ r H (bp H1 q (.bz [])):=jO.dW Zh8;have LB:= @au H1 q (.bz []);generalize bp H1 q (.bz [])=H2 at jc k8 LB ZnM;have hR:∀b,H b=none->b≠q->(bp H q (.bz [])) b=none:=fun b e z=>by rw[aF z];exact e
   obtain⟨_,_,hH⟩:=hc.rd;have yr:(bp H q (.bz [])) r≠none:=by rw[aF (aR hH Hq),hH];exact fun z=>by cases z
   have L5:∀(G:Hp)(o:HO),cu (bp H q (.bz [])) (bp G q o)=cu (bp H q (.bz [])) G:=fun G o=>by
    funext b;by_cases z:b=q
    ·subst z;unfold cu;rw[au]
    ·unfold cu;rw[aF z,aF z]
   have U7:∀b,(bp H q (.bz [])) b=none->H b=none:=fun b e=>by
    by_cases z:b=q
    ·rw[z];exact Hq
    ·rw[aF z]at e;exact e
   generalize bp H q (.bz [])=R at hR yr L5 U7;have g1':=(k8.f hc) _ _ g1 Z;refine⟨_,Z,g,_,dg,_,_,Z,g1',T.mJ,T.jr,Z,fl,Z,⟨_,ft.of ((k8.f hc) _ _ g2 trivial)⟩,lE (K:=K) (a:=fl) (xs:=xs) (fun i σ H3=> ∃(v3:Option V)(done:List (List dh))(ys:LV)(t3:LN),σ=[some (.ref r),some (.ref g),some (.ref np),v3,some (.ref q)]/\ys.length=i/\jU K a H3 r t3/\H3 q=some (.bz ys)/\fk (cu R H3) done ys/\H3 np=some (.f6 (iz nm))/\cQ r H H3/\dX fs nm t1=(dX (fieldsOf (fs.list.drop i)) nm t3).map fun x=> (done++x.1,x.2)) ⟨none,[],[],t1,Z,Z,jc,LB,Z,ZnM,k8,?_⟩ (fun i σ H3 _ h9=>by obtain⟨_,_,_,_,_,_,_,_,_,_,kp,_⟩:=h9;exact ft.of ((kp.f hc) _ _ g2 trivial)) ?_ ?_⟩
   ·rw[ib,pZ];cases dX fs nm t1<;>rfl
   ·rintro i y σ H3 hi ⟨v3,done,ys,t3,rfl,Hw,oA,mE,Yr,Ho,sq,gO⟩;walk;obtain⟨x,hx,hxf⟩:=iE hfl hi;have ZnI:i<17000:=by have:=(aW.mp hi).1;omega
    rw[ZeO hx]at gO;have ZkV:=hxf.f (sq.f hc);obtain⟨pf,df,xp,kv,rfl,f1,f2,f3⟩:=id ZkV;obtain⟨w1,w2,w3⟩:=L6 x (bj hx);obtain⟨_,_,⟨Sk,ta3,ES,_⟩,_⟩:=id oA;have Hx:q≠r:=vk mE ES (by intro z;cases z);have npr:np≠r:=fun z=>by rw[z,ES]at Ho;cases Ho
    have npq:np≠q:=fun z=>by rw[z,mE]at Ho;cases Ho
    refine⟨_,Z,.inl ⟨Z,_,ft.of mE⟩,_,Z,pf,_,df,_,_,Z,f1,T.gF,T.jC,Z,_,Z,xp,np,x.1.name,nm,Z,Z,f2,Ho,_,Z,?_⟩;by_cases hm:x.1.name=nm
    ·rw[ak hm]at gO;rw[aD hm];refine bQ ⟨_,Z,_,Z,pf,_,df,_,_,Z,f1,T.gF,T.iX,Z,r,t3,kv,x.2,Z,oA,f3,w3,?_⟩;cases e4:fE x.2 t3 with
     |none=>rw[e4]at gO;have gO:dX fs nm t1=none:=gO;rw[gO]at k;exact eU.of k sq
     |some y4=>
     obtain⟨v4,t4⟩:=y4;rw[e4]at gO;dsimp only at gO;rw[map_cons]at gO;intro vv4 H4 x8 oz hv4;have hv4:gj (cu H3 H4) v4 vv4:=hv4;have L3:=sq.trans oz;have U8:H4 q=some (.bz ys):=oz.all _ _ mE Hx;refine⟨(mr 1),fun qe Va=>?_⟩;have nqe:qe≠q:=fun z=>by rw[z,U8]at Va;cases Va
     have U6:=x8.dW (o:= .bz [vv4]) Va;have Hm:cQ r H4 (bp H4 qe (.bz [vv4])):=(cQ.refl r H4).dW Va;have he5:= @au H4 qe (.bz [vv4]);generalize bp H4 qe (.bz [vv4])=H5 at U6 Hm he5;have I0:=L3.trans Hm;have k35:=oz.trans Hm;have hqR:R qe=none:=hR _ (L3.new x8.there Va) nqe;have hq5:H5 q=some (.bz ys):=Hm.all _ _ U8 Hx;have Zqm:aS (cu H3 H4) (cu R H4):=cu.left fun b e=>hR b (sq.new oA.there e) fun z=>by rw[z,mE]at e;cases e
     have hv5:gj (cu R H5) v4 vv4:=gj.same (eZ Hm yr) _ _ (gj.same Zqm _ _ hv4);refine⟨q,ys,_,Z,Z,hq5,mM (by omega),some (.ref pf),done++[[v4]],ys++[.ref qe],t4,Z,by simp;omega,hc.put I0 U6 Hq,au,?_,?_,I0.put Hq,gO⟩
     ·rw[L5];exact fk.snoc (o:=[v4]) (ys:=[vv4]) (by rw[cu.at hqR];exact he5) ⟨vv4,[],Z,hv5,Z⟩ (fk.same (eZ k35 yr) _ _ Yr)
     ·rw[aF npq];exact k35.all _ _ Ho npr
    ·rw[ah hm,map_cons]at gO;rw[ay hm];refine bx ⟨(mr 0),fun qe Va=>?_⟩;have nqe:qe≠q:=fun z=>by rw[z,mE]at Va;cases Va
     have U6:=oA.dW (o:= .bz []) Va;have Hm:cQ r H3 (bp H3 qe (.bz [])):=(cQ.refl r H3).dW Va;have he5:= @au H3 qe (.bz []);generalize bp H3 qe (.bz [])=H5 at U6 Hm he5;have I0:=sq.trans Hm;have hqR:R qe=none:=hR _ (sq.new oA.there Va) nqe;have hq5:H5 q=some (.bz ys):=Hm.all _ _ mE Hx;refine⟨q,ys,_,Z,Z,hq5,mM (by omega),some (.ref pf),done++[[]],ys++[.ref qe],t3,Z,by simp;omega,hc.put I0 U6 Hq,au,?_,?_,I0.put Hq,gO⟩
     ·rw[L5];exact fk.snoc (o:=[]) (ys:=[]) (by rw[cu.at hqR];exact he5) Z (fk.same (eZ Hm yr) _ _ Yr)
     ·rw[aF npq];exact Hm.all _ _ Ho npr
   ·rintro σ H3 ⟨v3,done,ys,t3,rfl,Hw,oA,mE,Yr,Ho,sq,gO⟩;walk;rw[hxl,ko]at gO;have gO:dX fs nm t1=some (done++[],t3):=gO;rw[cJ]at gO;rw[gO]at k;unfold RJ at k;dsimp only at k;obtain⟨_,_,⟨Sk,ta3,ES,_⟩,_⟩:=id oA;have Hx:q≠r:=vk mE ES (by intro z;cases z);refine⟨_,Z,r,Sk,_,Z,ES,Z,r,t3,62,Z,oA,fun t4 et H4 x8 oz=>?_,fun iY=>?_⟩
    ·subst et;rw[ak (show(62::t4).head?=some 62 from Z)]at k;refine⟨_,Z,k _ H4 x8 (sq.trans oz) ⟨q,ys,Z,?_,?_⟩⟩
     ·rw[cu.at Hq];exact oz.all _ _ mE Hx
     ·exact fk.same (cu.left U7) _ _ (fk.same (eZ oz yr) _ _ Yr)
    ·rw[ah iY]at k;exact eU.of k sq
  obtain⟨tl,pl,hl⟩:=ZR;refine⟨_,ai (dm (fD (pv 0) (mZ T) hr dj (ag (aP T.Ng) az) (by omega))) (ai (bq (i:=2) nd (du (pv 0) (l8 T) hr dj (by omega))) (ai (bK (bf (Zcj hr.units) (pv 2) (Zio (te:=Pb K (m7 3) "name") (own:=[("field",3)]) Z nd (kT (aI (pv 1) Z)) (Ms (by rfl)) (fun _ _ _ _ _=>by exact gW (i:=3) nd) (fun _ _ _ _ _=>by exact ZgN) (fun _ _ _ _ _=>by exact aI (pv 3) Z)) Z) (aq (cF T.bt hr.hd)) aL) (ai (dm (fD (pv 0) (mZ T) hr dj (ag (aP T.Zas) az) (by omega))) pl))),?_⟩;walk;obtain⟨_,_,⟨dx,ta,hH,_⟩,_⟩:=id hc;refine⟨_,Z,r,dx,_,Z,hH,Z,r,aH,60,Z,hc,fun t1 et H1 j9 jO=>?_,fun iY=>?_⟩
  ·subst et;rw[LW]at k;obtain⟨_,_,⟨dx1,ta1,EC,_⟩,_⟩:=id j9;refine⟨_,Z,r,dx1,_,Z,EC,Z,r,t1,Z,j9,fun rj=>?_,fun vX H2 np n2 hnp jc k8=>?_⟩
   ·have ep:fw t1=none:=by unfold fw;rw[ah (by rw[rj];exact aK)]
    rw[ep]at k;exact eU.of k jO
   ·have ep:fw t1=some (t1.takeWhile ax,t1.dropWhile ax):=by unfold fw;rw[ak vX]
    rw[ep]at k;dsimp only at k;generalize t1.takeWhile ax=nm at k hnp;generalize t1.dropWhile ax=t2 at k jc;have O4:=jO.trans k8;have g1':=(O4.f hc) _ _ g1 Z;refine⟨_,Z,_,Z,g,_,dg,_,_,Z,g1',T.mJ,T.jr,Z,fl,Z,⟨_,ft.of ((O4.f hc) _ _ g2 trivial)⟩,fun D hD=>?_⟩;refine SR (K:=K) (a:=fl) (xs:=xs) (fun i H3=> ∃ys,H3=bp H2 D (.bz ys)/\Paired (fun n v=> ∃p,v=V.ref p/\H2 p=some (.f6 (iz n))) ((fs.list.take i).map fun x=>x.1.name) ys) ⟨[],Z,.nil⟩ (fun i H3 _ ⟨ys,e,_⟩=>?_) ?_ ?_
    ·rw[e];have z:=(O4.f hc) _ _ g2 trivial;exact ft.of (by rw[aF (aR z hD)];exact z)
    ·rintro i y H3 hi ⟨ys,rfl,sr⟩;walk;obtain⟨x,hx,hxf⟩:=iE hfl hi;obtain⟨pf,df,xp,kv,rfl,f1,f2,f3⟩:=hxf.f (O4.f hc);have ZnI:i<17000:=by have:=(aW.mp hi).1;omega
     have Hw:=Paired.length sr;rw[aZ,gR]at Hw;refine⟨Z,?_⟩;unfold Zl5;fin2;rw[ak Z];refine⟨_,Z,pf,_,df,_,_,Z,by rw[aF (aR f1 hD)];exact f1,T.gF,T.jC,Z,ys,au,mM (by omega),ys++[.ref xp],fC,?_⟩;rw[i7 hx,cg];exact i8 (F:=fun n v=> ∃p,v=V.ref p/\H2 p=some (.f6 (iz n))) ⟨xp,Z,f2⟩ sr
    ·rintro H3 ⟨ys,rfl,sr⟩;walk;rw[hxl,gT]at sr;have Vb:= @au H2 D (.bz ys);have oA:=jc.dW (o:= .bz ys) hD;have OP:cQ r H (bp H2 D (.bz ys)):=O4.dW hD;have Ho:(bp H2 D (.bz ys)) np=some (.f6 (iz nm)):=by rw[aF (aR hnp hD)];exact hnp
     have ZnO:Paired (fun n v=> ∃p,v=V.ref p/\(bp H2 D (.bz ys)) p=some (.f6 (n.map fun b:Nat=>V.int (b:Int)))) (fs.list.map fun x=>x.1.name) ys:=Paired.wm sr fun n v ⟨p,e,h⟩=> ⟨p,e,by rw[aF (aR h hD)];exact h⟩;generalize bp H2 D (.bz ys)=H3 at Vb oA OP Ho ZnO;refine⟨_,_,.f6 (qU.of Ho) (m5 nm),.bz (ft.of Vb) (ZaG ZnO),ZeP _,W5 _,_,Z,?_⟩;rw[W6];rw[List.any_map];by_cases U3:(fs.list.any fun x=>decide (x.1.name=nm))=true
     ·rw[show(fs.list.any ((fun n=>decide (n=nm))∘fun x=>x.1.name))=true from U3];obtain⟨_,_,⟨Sk,ta3,ES,_⟩,_⟩:=id oA;refine bx ⟨_,Z,r,Sk,_,Z,ES,Z,r,t2,58,Z,oA,fun t4 et H4 x8 oz=>?_,fun iY=>?_⟩
      ·subst et;rw[ak ⟨U3,Z⟩]at k;have npr:np≠r:=fun z=>by rw[z,ES]at Ho;cases Ho
       exact hl H4 t4 np nm x8 (OP.trans oz) (oz.all _ _ Ho npr) k
      ·rw[ah (fun z=>iY z.2)]at k;exact eU.of k OP
     ·rw[show(fs.list.any ((fun n=>decide (n=nm))∘fun x=>x.1.name))=false from ia.mpr U3];rw[ah (fun z=>U3 z.1)]at k;exact bQ (eU.of k OP).ji
  ·rw[show fE (.group true fs) aH=none by rw[fE,ah iY]]at k;exact k
end
mutual
noncomputable def tN:dh->Nat
 | .lit _=>1
 | .group ss=>1+vP ss
noncomputable def vP:List (List dh)->Nat
 |[]=>0
 |o::r=>jy o+vP r
noncomputable def jy:List dh->Nat
 |[]=>0
 |v::r=>tN v+jy r
end
theorem Zck(v:dh):1<=tN v:=by cases v<;>simp[tN]
theorem Iu:∀u v:List dh,jy (u++v)=jy u+jy v
 |[],v=>by simp[jy]
 |x::u,v=>by rw[cw,jy,jy,Iu u v,x9]
theorem W7:∀u:List dh,u.length<=jy u
 |[]=>bB _
 |x::u=>by have:=W7 u;have:=Zck x;rw[jy,bg];omega
def SzV(one:RV):Prop:=∀t v s,one t=some (v,s)->tN v+s.length<=t.length
theorem Kt{one:RV}(hp:SzV one){m:eS}:∀{f:Nat}{bI vs:List dh}{t s:LN},ig one m f bI t=some (vs,s)->jy vs+s.length<=jy bI+t.length
 |0,_,_,_,_,h=>by cases h
 |f+1,bI,vs,t,s,h=>by
  unfold ig at h;split at h
  ·rename_i Ja;split at h
   ·cases h
   ·split at h
    ·cases h
    ·rename_i v u e;split at h
     ·cases h
     ·have l1:=Kt hp h;have l2:=hp _ _ _ e;have l3:=dS Ja;rw[Iu,jy,jy]at l1;omega
  ·have e:t=s:=aA bo (af h);have e1:bI=vs:=aA bU (af h);rw[<-e,<-e1];exact aC _
theorem ZeQ{one:RV}(hp:SzV one){m:eS}{vs:List dh}{t s:LN}(h:nB one m t=some (vs,s)):jy vs+s.length<=t.length:=by
 unfold nB at h;split at h
 ·cases h
 ·rename_i v u e;have l1:=Kt hp h;have l2:=hp _ _ _ e;rw[jy,jy]at l1;omega
mutual
theorem Uo:∀k:bW,SzV (fE k)
 | .leaf l,t,v,s,h=>by
  rw[fE]at h
  cases e:kP l t with
  |none=>rw[e]at h;cases h
  |some y=>
   rw[e]at h
   have e2:y.2=s:=aA bo (af h)
   have e3:dh.lit y.1=v:=aA bU (af h)
   have:=LU (x:=y.1) (s:=y.2) e
   rw[<-e2,<-e3,tN];omega
 | .group false fs,t,v,s,h=>by
  rw[fE]at h
  split at h
  ·rename_i A5
   split at h
   ·cases h
   ·rename_i nm t1 e1
    split at h
    ·cases h
    ·rename_i ss Bu t2 e2
     split at h
     ·rename_i hz
      have e:t2.tail=s:=aA bo (af h)
      have e3:dh.group ss=v:=aA bU (af h)
      have l1:=dS A5
      have l2:=RH e1
      have l3:=Iv fs _ _ _ _ _ e2
      have l4:=dS hz.2
      rw[<-e,<-e3,tN];omega
     ·cases h
  ·cases h
 | .group true fs,t,v,s,h=>by
  rw[fE]at h
  split at h
  ·rename_i Hn
   split at h
   ·cases h
   ·rename_i nm t1 e1
    split at h
    ·rename_i hz
     split at h
     ·cases h
     ·rename_i ss t2 e2
      split at h
      ·rename_i Sm
       have e:t2.tail=s:=aA bo (af h)
       have e3:dh.group ss=v:=aA bU (af h)
       have l1:=dS Hn
       have l2:=tM e1
       have l3:=dS hz.2
       have l4:=Iw fs _ _ _ _ e2
       have l5:=dS Sm
       rw[<-e,<-e3,tN];omega
      ·cases h
    ·cases h
  ·cases h
theorem Iv:∀(fs:Zvn)(nm:Option LN)(t:LN)(ss:List (List dh))(Bu:Option LN)(s:LN),b8 fs nm t=some (ss,Bu,s)->vP ss+s.length<=t.length
 | .nil,nm,t,ss,Bu,s,h=>by
  rw[b8]at h
  have e:t=s:=aA (fun x=>x.2.2) (af h)
  have e1:[]=ss:=aA (fun x=>x.1) (af h)
  rw[<-e,<-e1,vP];omega
 | .cons hd k r,nm,t,ss,Bu,s,h=>by
  rw[b8]at h
  split at h
  ·split at h
   ·rename_i h58
    split at h
    ·cases h
    ·rename_i vs t1 e1
     split at h
     ·cases h
     ·rename_i Jb t2 e2
      cases e3:b8 r Jb t2 with
      |none=>rw[e3]at h;cases h
      |some y=>
       obtain⟨p5,nm4,t3⟩:=y
       rw[e3]at h
       have e:t3=s:=aA (fun x=>x.2.2) (af h)
       have e4:vs::p5=ss:=aA (fun x=>x.1) (af h)
       have l1:=dS h58
       have l2:=ZeQ (Uo k) e1
       have l3:=WY e2
       have l4:=Iv r _ _ _ _ _ e3
       rw[<-e,<-e4,vP];omega
   ·cases h
  ·split at h
   ·cases h
   ·cases e3:b8 r nm t with
    |none=>rw[e3]at h;cases h
    |some y=>
     obtain⟨p5,nm4,t3⟩:=y
     rw[e3]at h
     have e:t3=s:=aA (fun x=>x.2.2) (af h)
     have e4:[]::p5=ss:=aA (fun x=>x.1) (af h)
     have l4:=Iv r _ _ _ _ _ e3
     rw[<-e,<-e4,vP,jy];omega
theorem Iw:∀(fs:Zvn)(nm t:LN)(ss:List (List dh))(s:LN),dX fs nm t=some (ss,s)->vP ss+s.length<=t.length
 | .nil,nm,t,ss,s,h=>by
  rw[dX]at h
  have e:t=s:=aA bo (af h)
  have e1:[]=ss:=aA (fun x=>x.1) (af h)
  rw[<-e,<-e1,vP];omega
 | .cons hd k r,nm,t,ss,s,h=>by
  rw[dX]at h
  split at h
  ·split at h
   ·cases h
   ·rename_i v t1 e1
    cases e3:dX r nm t1 with
    |none=>rw[e3]at h;cases h
    |some y=>
     rw[e3]at h
     have e:y.2=s:=aA bo (af h)
     have e4:[v]::y.1=ss:=aA (fun x=>x.1) (af h)
     have l1:=Uo k _ _ _ e1
     have l2:=Iw r _ _ y.1 y.2 e3
     rw[<-e,<-e4,vP,jy,jy];omega
  ·cases e3:dX r nm t with
   |none=>rw[e3]at h;cases h
   |some y=>
    rw[e3]at h
    have e:y.2=s:=aA bo (af h)
    have e4:[]::y.1=ss:=aA (fun x=>x.1) (af h)
    have l2:=Iw r _ _ y.1 y.2 e3
    rw[<-e,<-e4,vP,jy];omega
end
theorem Zht{fs:Zvn}{t:LN}{v:dh}(h:mP fs t=some v):tN v<=4000:=by
 unfold mP at h;split at h
 ·cases h
 ·split at h
  ·cases h
  ·rename_i v' s e;split at h
   ·have e2:v'=v:=af h;have:=Uo _ _ _ _ e;rw[<-e2];omega
   ·cases h
noncomputable def Up(i:Nat):dh->Option (List dh)
 | .group ss=>ss[i]?
 | .lit _=>none
def deeper(i:Nat):List dh->Option (List dh)
 |[]=>some []
 |v::r=>match Up i v with
  |none=>none
  |some o=> (deeper i r).map fun x=>o++x
def rb:LN->List dh->Option (List dh)
 |[],vs=>some vs
 |i::p,vs=>match deeper i vs with
  |none=>none
  |some ws=>rb p ws
theorem ZaH:∀(ss:List (List dh))(i:Nat)(o:List dh),ss[i]? =some o->jy o<=vP ss
 |[],_,_,h=>by cases h
 |o'::r,0,o,h=>by have e:o'=o:=af h;rw[e,vP];omega
 |o'::r,i+1,o,h=>by have:=ZaH r i o (by simpa using h);rw[vP];omega
theorem RL(i:Nat):∀(vs ws:List dh),deeper i vs=some ws->jy ws<=jy vs
 |[],ws,h=>by rw[<-af h];exact aC _
 |v::r,ws,h=>by
  rw[deeper]at h;cases e:Up i v with
  |none=>rw[e]at h;cases h
  |some o=>
   rw[e]at h;cases e2:deeper i r with
   |none=>rw[e2]at h;cases h
   |some x=>
    rw[e2]at h;have e3:o++x=ws:=af h;have l1:=RL i r x e2;cases v with
    |lit l=>cases e
    |group ss=>have:=ZaH ss i o e;rw[<-e3,Iu,jy,tN];omega
section
theorem ZaI{E:XK}{r:ao}{H:Hp}{Q:VK}{l:cN}{t:LN}(k:wb K a E r H Q (fun x v G=>gj G x v) (fE (.leaf l) t)):wb K a E r H Q Zi (kP l t):=by
 rw[fE]at k;cases e:kP l t with
 |none=>rw[e]at k;exact k
 |some y=>rw[e]at k;exact k
theorem Zcl(T:il K mg a):iW P w K mg base 7 "read_value" ke (GJ K a 0):=by
 refine fI T.rY T.F7 T.rY.b2 Cq ?_
 ·lk;obtain⟨r,aH,v,kd,rfl,hc,hk,L6,k⟩:=h;refine⟨_,ai (bK (eX (jQ j7 (by rfl) T.jx (by decide +kernel) (ag (pv 1) (ag (tF T.Ef) az)))) (aq (aN (ba (m4 T) hr dj (ag (pv 0) (ag (pv 1) az))))) aL) Ba,?_⟩;walk;obtain⟨t,ty,ki⟩:=isi T hk;refine⟨_,Z,_,_,t,_,Z,ty,ki,_,Z,?_⟩;cases kd with
  |group c fs=>exact absurd L6 (by exact fun z=>z)
  |leaf l=>obtain⟨x,rfl,hx⟩:=hk;exact bQ ⟨_,Z,_,Z,r,aH,x,l,Z,hc,hx,ZaI k⟩
theorem Zcm(T:il K mg a){n j:Nat}(hj:6<=j)(GR:iW P w K mg base j "read_record" pR (W4 K a (n+1) false))(GC:iW P w K mg base j "read_choice" uR (W4 K a (n+1) true)):iW P w K mg base (j+1) "read_value" ke (GJ K a (n+1)):=by
 refine fI T.rY T.F7 T.rY.b2 Cq ?_
 ·lk;obtain⟨r,aH,v,kd,rfl,hc,hk,L6,k⟩:=h;refine⟨_,ai (bK (eX (jQ j7 (by rfl) T.jx (by decide +kernel) (ag (pv 1) (ag (tF T.Ef) az)))) (aq (aN (ba (m4 T) hr dj (ag (pv 0) (ag (pv 1) az)) (by rfl) (by omega)))) aL) (ai (bK (eX (aI (pv 1) Z)) (aq (aN (ba GC hr dj (ag (pv 0) (ag (pv 1) az)) (by rfl) (aC _)))) aL) (aq (aN (ba GR hr dj (ag (pv 0) (ag (pv 1) az)) (by rfl) (aC _))))),?_⟩;walk;obtain⟨t,ty,ki⟩:=isi T hk;refine⟨_,Z,_,_,t,_,Z,ty,ki,_,Z,?_⟩;cases kd with
  |leaf l=>obtain⟨x,rfl,hx⟩:=hk;exact bQ ⟨_,Z,_,Z,r,aH,x,l,Z,hc,hx,ZaI k⟩
  |group c fs=>
   obtain⟨g,dg,fl,xs,rfl,g1,g2,g3⟩:=id hk;refine bx ⟨_,Z,g,_,dg,_,_,Z,g1,T.mJ,T.kj,Z,_,Z,?_⟩;cases c with
   |true=>exact bQ ⟨_,Z,_,Z,r,aH,_,fs,Z,hc,hk,L6,k⟩
   |false=>exact bx ⟨_,Z,_,Z,r,aH,_,fs,Z,hc,hk,L6,k⟩
theorem Dz(T:il K mg a):∀n,iW P w K mg base (3*n+7) "read_value" ke (GJ K a n)
 |0=>Zcl T
 |n+1=>by have IH:=Dz T n;have GO:=rN T (by omega:3<=3*n+7) IH;have GR:=AJ T (by omega:4<=3*n+7+1) GO;have GC:=NU T (by omega:4<=3*n+7) IH;exact Zcm T (j:=3*n+7+1+1) (by omega) GR (GC.m8 (by omega))
theorem Lq(T:il K mg a):iW P w K mg base 24 "read_record" pR (W4 K a 6 false):=AJ T (by decide) (rN T (by decide) (Dz T 5))
noncomputable abbrev w8:LS:=["text","record","held"]
theorem GL{H:Hp}{p q:ao}{x y:HO}(n:p≠q):bp (bp H p x) q y=bp (bp H q y) p x:=by
 funext b;by_cases z:b=q
 ·subst z;rw[au,aF (eQ n),au]
 ·rw[aF z];by_cases z2:b=p
  ·subst z2;rw[au,au]
  ·rw[aF z2,aF z2,aF z]
inductive Zcn(a:cV)(vs:LV)(H:Hp)(Q:VK)(_:XK):Prop
 |mk (x dx:ao) (t r:V) (_:vs=[.ref x,t,r]) (_:H x=some (.ins a.qx dx [])) (_:∀hd,H hd=none->Q .ik (bp (bp H hd (.dK [])) x (.ins a.qx dx (w8.zip [t,r,.ref hd]))))
theorem W8(T:il K mg a):WD P w K mg base 1 a.qx "Row" DY (Zcn a):=by
 refine⟨a.D0,a.M7,T.Nu.ok0 VQ (fun vs H Q E h=>?_) (fun la A bC s H vs Q E hr h=>?_),T.ZjI,T.Zmu,T.Nu.b3⟩
 ·obtain⟨x,dx,t,r,rfl,_⟩:=h;rfl
 ·obtain⟨x,dx,t,r,rfl,hx,k⟩:=h;refine⟨_,ai (dr (pv 0) (pv 1) Z) (ai (dr (pv 0) (pv 2) Z) (aq (dr (pv 0) Mu Z))),?_⟩;walk;refine⟨_,Z,_,Z,x,_,dx,_,Z,hx,T.ra,T.qC,(by exact ND 0),?_⟩;refine⟨_,Z,_,Z,x,_,dx,_,Z,au,T.ra,T.C6,(by exact ND 1),?_⟩;rw[fC];intro hd nhd;have n:hd≠x:=fun z=>by rw[z,au]at nhd;cases nhd
  have nH:H hd=none:=by rw[aF n]at nhd;exact nhd
  refine⟨_,Z,x,_,dx,_,Z,(by rw[aF (eQ n)];exact au),T.ra,T.qD,(by exact ND 2),?_⟩;rw[GL (eQ n),fC];exact k hd nH
inductive RM(a:cV)(H:Hp)(ta hd:ao)(val:dh)(v:V):Prop
 |mk (x:_) (dx:_) (rv:_) (_:v= .ref x) (_:H x=some (.ins a.qx dx (w8.zip [.ref ta,rv,.ref hd]))) (_:gj H val rv)
theorem RM.same{H H':Hp}{ta hd:ao}{val:dh}{v:V}(h:RM a H ta hd val v)(s:aS H H'):RM a H' ta hd val v:=by obtain⟨x,dx,rv,e,h1,h2⟩:=h;exact⟨x,dx,rv,e,s _ _ h1,gj.same s _ _ h2⟩
theorem cu.off{H H1 H2:Hp}{hd:ao}{o':HO}(s:aS H1 H2)(n:H1 hd=none):aS (cu H H1) (cu (bp H hd o') H2):=fun b o e=>by
 have e1:=cu.out e;rw[cu.at e1]at e;have z:b≠hd:=fun z=>by rw[z,n]at e;cases e
 rw[cu.at (by rw[aF z];exact e1)];exact s _ _ e
inductive ZmF(K:ae)(a:cV)(vs:LV)(H:Hp)(Q:VK)(E:XK):Prop
 |mk (sv:V) (ta:ao) (tx:LN) (fs:Zvn) (_:vs=[sv,.ref ta]) (_:gi a H fs sv) (_:wfK 6 (.group false fs)) (_:H ta=some (.bz (iz tx))) (_:tx.length<=17000) (_:match mP fs tx with|none=> ∀H',aS H H'->E (.ref a.g9) none H'|some val=> ∀v hd H',aS H H'->H hd=none->H' hd=some (.dK [])->RM a (cu (bp H hd (.dK [])) H') ta hd val v->Q v H')
theorem Ku(T:il K mg a):iW P w K mg base 25 "read_row" ML (ZmF K a):=by
 refine fI T.Nv T.Zb T.Nv.b2 JJ ?_
 ·lk;obtain⟨sv,ta,tx,fs,rfl,hsc,L6,hta,hl,k⟩:=h;have nd:=JJ.nd;refine⟨_,ai (bK (bf oP (rZ T (pv 1)) (aP T.Ih) (bw _)) (aq (cF T.bt hr.hd)) aL) (ai (bq (i:=2) nd (ie (tJ T) hr bh (ag (pv 1) az))) (ai (bq (i:=3) nd (ba (Lq T) hr dj (ag (pv 2) (ag (aI (pv 0) Z) az)))) (ai (dm (du (pv 2) (Ay T) hr dj)) (aq (aN (ie (W8 T) hr bh (ag (pv 1) (ag (pv 3) az)))))))),?_⟩;walk;obtain⟨sx,sdx,gv,cd,br,rfl,s1,s2,_⟩:=hsc;refine⟨_,Z,ta,_,Z,.inl (ft.of hta),_,_,Z,Z,_,Z,?_⟩;rw[eA];unfold mP at k;by_cases h4:4000<tx.length
  ·rw[ak h4]at k;rw[aD (by omega:(4000:Int)< (tx.length:Int))];exact bQ (k H (aS.refl H))
  rw[ah h4]at k;rw[ay (by omega:¬(4000:Int)< (tx.length:Int))];refine bx ⟨_,Z,fun r dx nr ndr ner=>?_⟩;have sm0:aS H (bp (bp H dx (.own r)) r (.ins a.cK dx [])):=kX nr ndr;refine⟨r,dx,ta,tx,Z,au,sm0 _ _ hta,hl,fun H1 hat kp0=> ⟨Z,?_⟩⟩;have s01:aS H H1:=kp0.gE sm0 nr;have j9:jU K a H1 r tx:=⟨tx,0,hat,Z⟩;refine⟨_,Z,_,Z,sx,_,sdx,_,_,Z,s01 _ _ s1,T.Bj,T.vI,Z,r,tx,gv,fs,Z,j9,dZ.same s01 _ _ s2,L6,?_⟩;cases eg:fE (.group false fs) tx with
  |none=>rw[eg]at k;exact fun H' ZT=>k H' (ZT.gE s01 nr)
  |some y=>
  obtain⟨val,t2⟩:=y;rw[eg]at k;dsimp only at k;intro rv H2 jc k8 Sn;have s02:aS H H2:=k8.gE s01 nr;have Sn:gj (cu H1 H2) val rv:=Sn;have Zqp:gj (cu H H2) val rv:=gj.same (cu.left fun b e=>s01.free e) _ _ Sn;obtain⟨_,_,⟨dx2,ta2,hH2,_⟩,_⟩:=id jc;refine⟨_,Z,r,dx2,_,Z,hH2,Z,r,t2,Z,jc,fun hs=>?_,fun hs=>?_⟩;rotate_left
  ·rw[ah hs]at k;exact fun H' ZT=>k H' (ZT.gE s02 nr)
  rw[ak hs]at k;refine⟨_,Z,_,Z,fun x xZ nx Yq ne=> ⟨x,xZ,_,_,Z,au,fun hd nhd=> ⟨Z,?_⟩⟩⟩;have zx:hd≠x:=fun z=>by rw[z,au]at nhd;cases nhd
  have n1:(bp H2 xZ (.own x)) hd=none:=by rw[aF zx]at nhd;exact nhd
  have zd:hd≠xZ:=fun z=>by rw[z,au]at n1;cases n1
  have n2:H2 hd=none:=by rw[aF zd]at n1;exact n1
  rw[GL (eQ zx),fC];have s7:aS H2 (bp (bp (bp H2 xZ (.own x)) hd (.dK [])) x (.ins a.qx xZ (w8.zip [.ref ta,rv,.ref hd]))):=fun b o e=>by rw[aF (aR e nx),aF (aR e n2),aF (aR e Yq)];exact e
  have e7:(bp (bp (bp H2 xZ (.own x)) hd (.dK [])) x (.ins a.qx xZ (w8.zip [.ref ta,rv,.ref hd]))) x=some (.ins a.qx xZ (w8.zip [.ref ta,rv,.ref hd])):=au;have f7:(bp (bp (bp H2 xZ (.own x)) hd (.dK [])) x (.ins a.qx xZ (w8.zip [.ref ta,rv,.ref hd]))) hd=some (.dK []):=by rw[aF zx];exact au
  generalize bp (bp (bp H2 xZ (.own x)) hd (.dK [])) x (.ins a.qx xZ (w8.zip [.ref ta,rv,.ref hd]))=H7 at s7 e7 f7⊢;exact k (.ref x) hd H7 (s02.trans s7) (s02.free n2) f7 ⟨x,xZ,rv,Z,by rw[cu.at (by rw[aF (eQ zx)];exact s02.free nx)];exact e7,gj.same (cu.off s7 n2) _ _ Zqp⟩
theorem W9{H:Hp}:∀{ss:List (List dh)}{xs:LV}{i:Nat}{o:List dh},fk H ss xs->ss[i]? =some o->∃q ys,xs[i]? =some (.ref q)/\H q=some (.bz ys)/\jW H o ys
 |[],_,_,_,_,h=>by cases h
 |o'::r,xs,0,o,hs,h=>by obtain⟨q,ys,KS,rfl,h1,h2,h3⟩:=hs;have e:o'=o:=af h;subst e;exact⟨q,ys,Z,h1,h2⟩
 |o'::r,xs,i+1,o,hs,h=>by obtain⟨q,ys,KS,rfl,h1,h2,h3⟩:=hs;obtain⟨q',uG,e,h4,h5⟩:=W9 (i:=i) h3 (by simpa using h);exact⟨q',uG,by simpa using e,h4,h5⟩
theorem Xa{α β:Type}{F:α->β->Prop}:∀{l l':List α}{m m':List β},Paired F l m->Paired F l' m'->Paired F (l++l') (m++m')
 |_,_,_,_,.nil,h=>h
 |_,_,_,_,.cons a t,h=> .cons a (Xa t h)
inductive Zhu(a:cV)(vs:LV)(H:Hp)(Q:VK)(_:XK):Prop
 |mk (x dx ta pp:ao) (rv hv:V) (val:dh) (path:LN) (Vc:List dh) (_:vs=[.ref x,.ref pp]) (_:H x=some (.ins a.qx dx (w8.zip [.ref ta,rv,hv]))) (_:gj H val rv) (_:tN val<=17000) (_:H pp=some (.f6 (iz path))) (_:rb path [val]=some Vc) (_:∀q ys H',aS H H'->H' q=some (.bz ys)->Paired (fun x v=>gj H x v) Vc ys->Q (.ref q) H')
theorem Lr(T:il K mg a):iW P w K mg base 1 "values_along" zi (Zhu a):=by
 refine cI T.Ag T.Nt T.Ag.b2 xH ?_
 ·lk;obtain⟨x,dx,ta,pp,rv,hv0,val,path,Vc,rfl,hx,hv,hsz,hpp,hal,k⟩:=h;have nd:=xH.nd;refine⟨_,ai (bq (i:=2) nd (dO (ag (aI (pv 0) Z) az))) (ai (lC iw.never Z (Zjj (pv 1)) (gW (i:=3) nd) (ai (bq (i:=4) nd (dO az)) (ai (lC iw.never Z (kT (pv 2)) (gW (i:=5) nd) (aq (dm (ui b9 Sv Sw Q2 (pv 4) (ag (iJ fi (pv 5) (pv 3)) az))))) (aq (bq (i:=2) nd (pv 4)))))) (aq (aN (pv 2)))),?_⟩;walk;refine⟨_,Z,x,_,dx,_,_,Z,hx,T.ra,T.C6,Z,(mr 1),fun q0 hq0=>?_⟩;have s0:=aS.dW (o:=(.bz [rv])) (aS.refl H) hq0;have e0:= @au H q0 (.bz [rv]);generalize bp H q0 (.bz [rv])=H0 at s0 e0;refine⟨_,Z,pp,Z,⟨_,qU.of (s0 _ _ hpp)⟩,Zgx (K:=K) (a:=pp) (xs:=iz path) (fun i σ H3=> ∃(qf:ao)(v3 v4 v5:Option V)(cur:List dh)(ys:LV),σ=[some (.ref x),some (.ref pp),some (.ref qf),v3,v4,v5]/\aS H H3/\H3 qf=some (.bz ys)/\Paired (fun x v=>gj H x v) cur ys/\jy cur<=17000/\rb (path.drop i) cur=some Vc) ⟨q0,none,none,none,[val],[rv],Z,s0,e0,.cons hv .nil,by rw[jy,jy];omega,hal⟩ (fun i σ H3 _ h9=>by obtain⟨_,_,_,_,_,_,_,s3,_⟩:=h9;exact qU.of (s3 _ _ hpp)) ?_ ?_⟩
  ·rintro i y σ H3 hi ⟨qf,v3,v4,v5,cur,ys,rfl,s3,hqf,sr,hcs,OT⟩;walk;rw[T8]at hi;cases hp:path[i]? with
   |none=>rw[hp]at hi;cases hi
   |some pl=>
   rw[hp]at hi;have ey:bV pl=y:=af hi;subst ey;rw[og hp,rb]at OT;cases ed:deeper pl cur with
   |none=>rw[ed]at OT;cases OT
   |some ws=>
   rw[ed]at OT;dsimp only at OT;have hws:=RL pl cur ws ed;refine⟨(mr 0),fun qd hqd=>?_⟩;have s4:=aS.dW (o:=(.bz [])) (aS.refl H3) hqd;have e4:= @au H3 qd (.bz []);have Hqd:H qd=none:=s3.free hqd;have nq:qf≠qd:=fun z=>by rw[z,hqd]at hqf;cases hqf
   generalize bp H3 qd (.bz [])=H4 at s4 e4;have s04:=s3.trans s4;refine⟨_,Z,qf,Z,⟨_,ft.of (s4 _ _ hqf)⟩,lE (K:=K) (a:=qf) (xs:=ys) (fun j σ H5=> ∃(v5:Option V)(bI:List dh)(zs:LV),σ=[some (.ref x),some (.ref pp),some (.ref qf),some (bV pl),some (.ref qd),v5]/\aS H H5/\H5 qf=some (.bz ys)/\H5 qd=some (.bz zs)/\Paired (fun x v=>gj H x v) bI zs/\(deeper pl (cur.drop j)).map (fun x=>bI++x)=some ws) ⟨v5,[],[],Z,s04,s4 _ _ hqf,e4,.nil,?_⟩ (fun j σ H5 _ h9=>by obtain⟨_,_,_,_,_,h,_⟩:=h9;exact ft.of h) ?_ ?_⟩
   ·rw[ib,ed];rfl
   ·rintro j y σ H5 hj ⟨v5,bI,zs,rfl,s5,h5f,h5d,Ya,gO⟩;walk;obtain⟨u,hu,ZkW⟩:=iE sr hj;rw[og hu,deeper]at gO;cases es:Up pl u with
    |none=>rw[es]at gO;cases gO
    |some o=>
    rw[es]at gO;cases er:deeper pl (cur.drop (j+1))with
    |none=>rw[er]at gO;cases gO
    |some rst=>
    rw[er]at gO;have gO:bI++(o++rst)=ws:=af gO;cases u with
    |lit l=>cases es
    |group ss=>
    obtain⟨p,xs,rfl,p1,p2⟩:=ZkW;obtain⟨qo,os,o1,o2,o3⟩:=W9 p2 es;have X4:bI.length+o.length<=jy ws:=by have:=W7 ws;rw[<-gO]at this;simp only[aX]at this;rw[<-gO];omega
    have l2:=Paired.length Ya;have l3:=Paired.length (jW.p o3);refine⟨_,Z,.inl ⟨Z,_,ft.of h5d⟩,_,Z,_,Z,p,_,_,_,Z,Z,ft.of (s5 _ _ p1),fh o1,qd,qo,zs,os,Z,Z,h5d,s5 _ _ o2,fZ (mM (by omega)),?_⟩;refine⟨some (.ref p),bI++o,zs++os,Z,fun b u e=>?_,?_,au,Xa Ya (jW.p o3),?_⟩
    ·rw[aF (aR e Hqd)];exact s5 _ _ e
    ·rw[aF nq];exact h5f
    ·rw[er,<-gO,<-dJ];rfl
   ·rintro σ H5 ⟨v5,bI,zs,rfl,s5,h5f,h5d,Ya,gO⟩;walk;have Hw:=Paired.length sr;rw[<-Hw,ko]at gO;have gO:bI++[]=ws:=af gO;rw[cJ]at gO;subst gO;refine⟨_,Z,qd,some (bV pl),some (.ref qd),v5,bI,zs,Z,s5,h5d,Ya,by omega,OT⟩
  ·rintro σ H3 ⟨qf,v3,v4,v5,cur,ys,rfl,s3,hqf,sr,hcs,OT⟩;walk;rw[eA,ko]at OT;have OT:cur=Vc:=af OT;subst OT;exact⟨_,Z,k qf ys H3 s3 hqf sr⟩
end
inductive PC where
 |atom (p:LN) (t:Nat) (x:Option gK)
 |comp (s:Nat) (l:List PC)
def Iy(H:Hp):Option gK->V->Prop
 |none,v=>v= .ik
 |some x,v=>uC H v x
mutual
def fR(a:cV)(H:Hp):PC->V->Prop
 | .atom p t x,v=> ∃y dy pp xv,v= .ref y/\H y=some (.ins a.kh dy (Bn.zip [.ref pp,bV t,xv]))/\H pp=some (.f6 (iz p))/\Iy H x xv
 | .comp s l,v=> ∃y dy q ys,v= .ref y/\H y=some (.ins a.fQ dy (lK.zip [bV s,.ref q]))/\H q=some (.bz ys)/\iK a H l ys
def iK(a:cV)(H:Hp):List PC->LV->Prop
 |[],ys=>ys=[]
 |c::r,ys=> ∃y uG,ys=y::uG/\fR a H c y/\iK a H r uG
end
theorem Iy.same{H H':Hp}(s:aS H H'):∀{x:Option gK}{v:V},Iy H x v->Iy H' x v
 |none,_,h=>h
 |some _,_,h=>uC.same s h
mutual
theorem fR.same{a:cV}{H H':Hp}(s:aS H H'):∀(c:PC)(v:V),fR a H c v->fR a H' c v
 | .atom p t x,v,h=>by
  obtain⟨y,dy,pp,xv,e,h1,h2,h3⟩:=h
  exact⟨y,dy,pp,xv,e,s _ _ h1,s _ _ h2,h3.same s⟩
 | .comp sg l,v,h=>by
  obtain⟨y,dy,q,ys,e,h1,h2,h3⟩:=h
  exact⟨y,dy,q,ys,e,s _ _ h1,s _ _ h2,iK.same s l ys h3⟩
theorem iK.same{a:cV}{H H':Hp}(s:aS H H'):∀(l:List PC)(ys:LV),iK a H l ys->iK a H' l ys
 |[],_,h=>h
 |c::r,ys,h=>by
  obtain⟨y,uG,e,h1,h2⟩:=h
  exact⟨y,uG,e,fR.same s c y h1,iK.same s r uG h2⟩
end
theorem iK.p{a:cV}{H:Hp}:∀{l:List PC}{ys:LV},iK a H l ys->Paired (fR a H) l ys
 |[],ys,h=>by cases(show ys=[]from h);exact .nil
 |v::r,ys,h=>by obtain⟨y,uG,rfl,h1,h2⟩:=h;exact .cons h1 (iK.p h2)
theorem iK.of{a:cV}{H:Hp}:∀{l:List PC}{ys:LV},Paired (fR a H) l ys->iK a H l ys
 |_,_,.nil=>rfl
 |_,_,.cons h t=> ⟨_,_,Z,h,iK.of t⟩
def gH:Nat->LN->LN->Option (LN×LN)
 |0,_,_=>none
 |f+1,bI,t=>if t.head?=some 46 then(match fw t.tail with
   |none=>none
   |some (n,s)=>gH f (bI++[46]++n) s)
  else some (bI,t)
def oh(t:LN):Option (LN×LN):=match fw t with
 |none=>none
 |some (n,s)=>gH (s.length+1) n s
def mz(c:Nat)(l:cN):Bool:=if c=94 then EO l else(decide (c=60)||(decide (c=62)||decide (c=61)))
def vb(c:PC)(t:LN):Option (PC×LN):=if t.head?=some 41 then some (c,t.tail)else none
def AK(p:LN)(l:cN)(t:LN):Option (PC×LN):=match t with
 |[]=>none
 |c::r=>if c=63 then vb (.atom p c none) r else if mz c l=false then none else match kP l r with
  |none=>none
  |some (x,s)=>vb (.atom p c (some x)) s
def xY(cs:List Dx)(t:LN):Option (PC×LN):=match oh t with
 |none=>none
 |some (d,t1)=>match cs.find? fun x=>decide (x.1=d)with
  |none=>none
  |some c=>AK c.2.1 c.2.2 t1
abbrev RC:=LN->Option (PC×LN)
def gc(one:RC):Nat->List PC->LN->Option (List PC×LN)
 |0,_,_=>none
 |f+1,bI,t=>if t.head?=some 44 then(match one t.tail with
   |none=>none
   |some (c,s)=>gc one f (bI++[c]) s)
  else some (bI,t)
def pA(one:RC)(t:LN):Option (List PC×LN):=if t.head?=some 91 then(match one t.tail with
  |none=>none
  |some (c,s)=>match gc one (s.length+1) [c] s with
   |none=>none
   |some (l,u)=>if u.head?=some 93 then some (l,u.tail)else none)
 else none
def iM(cs:List Dx):Nat->RC
 |0,_=>none
 |n+1,t=>match t with
  |[]=>none
  |c::r=>if c=40 then xY cs r else if c=84\/c=70 then some (.comp c [],r)else if c=33 then(iM cs n r).map fun x=> (.comp c [x.1],x.2)else if c=38\/c=124 then(pA (iM cs n) r).map fun x=> (.comp c x.1,x.2)else none
def gC(cs:List Dx)(t:LN):Option PC:=if 500<t.length then none else match iM cs 21 t with
 |none=>none
 |some (c,s)=>if s=[]then some c else none
def Zcp(one:RC):Prop:=∀t c s,one t=some (c,s)->s.length<t.length
theorem GN:∀{f:Nat}{bI d:LN}{t s:LN},gH f bI t=some (d,s)->s.length<=t.length
 |0,_,_,_,_,h=>by cases h
 |f+1,bI,d,t,s,h=>by
  unfold gH at h;split at h
  ·rename_i h46;split at h
   ·cases h
   ·rename_i n u e;have l1:=GN h;have l2:=tM e;have l3:=dS h46;omega
  ·have e:t=s:=aA bo (af h);rw[<-e];exact aC _
theorem Zo{t d s:LN}(h:oh t=some (d,s)):s.length<=t.length:=by
 unfold oh at h;split at h
 ·cases h
 ·rename_i n u e;have l1:=GN h;have l2:=tM e;omega
theorem RN{c c':PC}{t s:LN}(h:vb c t=some (c',s)):s.length<t.length:=by
 unfold vb at h;split at h
 ·rename_i h41;have e:t.tail=s:=aA bo (af h);rw[<-e];exact dS h41
 ·cases h
theorem ZeR{p:LN}{l:cN}{t s:LN}{c:PC}(h:AK p l t=some (c,s)):s.length<t.length:=by
 unfold AK at h;split at h
 ·cases h
 ·split at h
  ·have:=RN h;simp;omega
  ·split at h
   ·cases h
   ·split at h
    ·cases h
    ·rename_i e;have l1:=RN h;have l2:=LU e;simp;omega
theorem ZeS(cs:List Dx):Zcp (xY cs):=fun t c s h=>by
 unfold xY at h;split at h
 ·cases h
 ·rename_i d t1 e;split at h
  ·cases h
  ·have l1:=ZeR h;have l2:=Zo e;omega
theorem GQ{one:RC}(hp:Zcp one):∀{f:Nat}{bI l:List PC}{t s:LN},gc one f bI t=some (l,s)->s.length<=t.length
 |0,_,_,_,_,h=>by cases h
 |f+1,bI,l,t,s,h=>by
  unfold gc at h;split at h
  ·rename_i Ja;split at h
   ·cases h
   ·rename_i c u e;have l1:=GQ hp h;have l2:=hp _ _ _ e;have l3:=dS Ja;omega
  ·have e:t=s:=aA bo (af h);rw[<-e];exact aC _
theorem Zcq{one:RC}(hp:Zcp one){l:List PC}{t s:LN}(h:pA one t=some (l,s)):s.length<t.length:=by
 unfold pA at h;split at h
 ·rename_i h91;split at h
  ·cases h
  ·rename_i c u e;split at h
   ·cases h
   ·rename_i l' u' e2;split at h
    ·rename_i h93;have e3:u'.tail=s:=aA bo (af h);have l1:=dS h91;have l2:=hp _ _ _ e;have l3:=GQ hp e2;have l4:=dS h93;rw[<-e3];omega
    ·cases h
 ·cases h
theorem qI(cs:List Dx):∀n,Zcp (iM cs n)
 |0,t,c,s,h=>by cases h
 |n+1,[],c,s,h=>by cases h
 |n+1,d::r,c,s,h=>by
  rw[iM]at h;split at h
  ·have:=ZeS cs _ _ _ h;simp;omega
  ·split at h
   ·have e:r=s:=aA bo (af h);rw[<-e];simp
   ·split at h
    ·cases e:iM cs n r with
     |none=>rw[e]at h;cases h
     |some x=>rw[e]at h;have e2:x.2=s:=aA bo (af h);have:=qI cs n _ _ _ e;rw[<-e2];simp;omega
    ·split at h
     ·cases e:pA (iM cs n) r with
      |none=>rw[e]at h;cases h
      |some x=>rw[e]at h;have e2:x.2=s:=aA bo (af h);have:=Zcq (qI cs n) (l:=x.1) (s:=x.2) e;rw[<-e2];simp;omega
     ·cases h
theorem Xb{a:cV}{H:Hp}(n:LN):∀{cs:List Dx}{br:List (List i5×V)},mx a H cs br->(∃c v,cs.find? (fun x=>decide (x.1=n))=some c/\iV br (yl n)=some v/\Dy a H c.2 v)\/(cs.find? (fun x=>decide (x.1=n))=none/\iV br (yl n)=none)
 |_,_,.nil=> .inr ⟨Z,Z⟩
 |_,_,.cons (a:=x) (b:=y) r t=>by
  by_cases e:x.1=n
  ·refine .inl ⟨x,y.2,?_,jd (by rw[r.1,e]),r.2⟩;rw[cT,aD e]
  ·have hk:¬y.1=yl n:=by rw[r.1];exact fun z=>e (GI z)
   rw[cT,ay e,iR hk];exact Xb n t
def ZeT{α:Type}(K:ae)(a:cV)(E:XK)(r:ao)(R H:Hp)(Q:VK)(rep:α->V->Hp->Prop):Option (α×LN)->Prop
 |none=>eU a E r H
 |some (x,s)=> ∀v H',jU K a H' r s->cQ r H H'->rep x v (cu R H')->Q v H'
section
inductive ZeU(K:ae)(a:cV)(vs:LV)(H:Hp)(Q:VK)(E:XK):Prop
 |mk (r:ao) (aH:LN) (_:vs=[.ref r]) (_:jU K a H r aH) (_:match oh aH with|none=>eU a E r H|some (d,s)=> ∀p H',jU K a H' r s->cQ r H H'->H' p=some (.f6 (iz d))->Q (.ref p) H')
theorem RO{t n s:LN}(h:fw t=some (n,s)):n.length+s.length<=t.length:=by
 unfold fw at h;split at h
 ·have e1:t.takeWhile ax=n:=aA bU (af h);have e2:t.dropWhile ax=s:=aA bo (af h);have e3:=aA oC (j6 (p:=ax) (l:=t));rw[aX]at e3;rw[<-e1,<-e2];omega
 ·cases h
theorem GU(f:Nat)(bI t:LN):gH (f+1) bI (46::t)=(match fw t with
  |none=>none
  |some (n,s)=>gH f (bI++[46]++n) s):=by
 rw[gH,ak (show(46::t).head?=some 46 from Z)];rfl
theorem Kv{f:Nat}(bI:LN){t:LN}(h:t.head?≠some 46)(hf:0<f):gH f bI t=some (bI,t):=by
 cases f with
 |zero=>exact absurd hf (eW _)
 |succ f=>rw[gH,ah h]
theorem NV(T:il K mg a):iW P w K mg base 4 "read_dotted" Cu (ZeU K a):=by
 refine fI T.Dd T.Qi T.Dd.b1 zk ?_
 ·lk;obtain⟨r,aH,rfl,hc,k⟩:=h;have nd:=zk.nd;refine⟨_,ai (bq (i:=1) nd (du (pv 0) (l8 T) hr dj)) (ai (qc Mz (eX (fD (pv 0) (kJ T) hr bh (ag (aP T.Zek) az))) (aq (bq (i:=1) nd (iu Gy (iu Gy (pv 1) (nP (ag (aP T.Zek) az))) (du (pv 0) (l8 T) hr dj))))) (aq (aN (pv 1)))),?_⟩;walk;obtain⟨_,_,⟨dx,ta,hH,_⟩,_⟩:=id hc;unfold oh at k;refine⟨_,Z,r,dx,_,Z,hH,Z,r,aH,Z,hc,fun rj=>?_,fun vX H1 q1 n1 hq1 j9 jO=>?_⟩
  ·have ep:fw aH=none:=by unfold fw;rw[ah (by rw[rj];exact aK)]
   rw[ep]at k;exact k
  ·have ep:fw aH=some (aH.takeWhile ax,aH.dropWhile ax):=by unfold fw;rw[ak vX]
   rw[ep]at k;dsimp only at k;have ln:=RO ep;have jL:=hc.len;generalize aH.takeWhile ax=n0 at k hq1 ln;generalize aH.dropWhile ax=t0 at k j9 ln;refine⟨fun m σ H3=> ∃(p:ao)(bI t3:LN)(f:Nat),σ=[some (.ref r),some (.ref p)]/\t3.length=m/\jU K a H3 r t3/\H3 p=some (.f6 (iz bI))/\cQ r H H3/\t3.length<f/\gH (t0.length+1) n0 t0=gH f bI t3/\bI.length+t3.length<=17000,⟨_,q1,n0,t0,t0.length+1,Z,Z,j9,hq1,jO,bT _,Z,by omega⟩,?_⟩;rintro m σ H3 ⟨p,bI,t3,f,rfl,rfl,oA,hp3,sq,hfu,gO,hle⟩;walk;obtain⟨_,_,⟨Sk,ta3,ES,_⟩,_⟩:=id oA;refine⟨_,Z,r,Sk,_,Z,ES,Z,r,t3,46,Z,oA,fun t4 et H4 x8 oz=>?_,fun iY=>?_⟩
   ·subst et;obtain⟨f,rfl⟩:∃f',f=f'+1:=⟨f-1,by simp at hfu;omega⟩;rw[GU]at gO;refine⟨_,Z,bQ ⟨fun σ' H'=> ∃(p:ao)(bI t3:LN)(f:Nat),σ'=[some (.ref r),some (.ref p)]/\t3.length< (46::t4).length/\jU K a H' r t3/\H' p=some (.f6 (iz bI))/\cQ r H H'/\t3.length<f/\gH (t0.length+1) n0 t0=gH f bI t3/\bI.length+t3.length<=17000,fun σ' H' h9=>by obtain⟨p,bI,t3,f,h1,h2,h3⟩:=h9;exact⟨t3.length,h2,p,bI,t3,f,h1,Z,h3⟩,?_⟩⟩;walk;have npr:p≠r:=fun z=>by rw[z,ES]at hp3;cases hp3
    have hp4:H4 p=some (.f6 (iz bI)):=oz.all _ _ hp3 npr;refine⟨_,Z,(mr 1),fun q5 hq5=>?_⟩;have s5:=aS.dW (o:=(.f6 [.int 46])) (aS.refl H4) hq5;have e5:= @au H4 q5 (.f6 [.int 46]);generalize bp H4 q5 (.f6 [.int 46])=H5 at s5 e5;refine⟨p,q5,_,_,Z,Z,s5 _ _ hp4,e5,by rw[eA];exact fZ (mM (by simp at hle⊢;omega)),fun p6 H6 hp6 or6=>?_⟩;have s6:aS H4 H6:=s5.trans (AE or6);rw[show iz bI++[V.int 46]=iz (bI++[46])from NP bI 46]at hp6;have ZW:=x8.same s6;have k16:=(sq.trans oz).trans (aS.keep s6);obtain⟨_,_,⟨dx6,ta6,hH6,_⟩,_⟩:=id ZW;have np6:p6≠r:=fun z=>by rw[z,hH6]at hp6;cases hp6
    refine⟨_,Z,r,dx6,_,Z,hH6,Z,r,t4,Z,ZW,fun rj=>?_,fun vX H7 q7 n7 hq7 hc7 kp7=>?_⟩
    ·have ep:fw t4=none:=by unfold fw;rw[ah (by rw[rj];exact aK)]
     rw[ep]at gO;rw[gO]at k;exact eU.of k k16
    ·have ep:fw t4=some (t4.takeWhile ax,t4.dropWhile ax):=by unfold fw;rw[ak vX]
     rw[ep]at gO;dsimp only at gO;have ln7:=RO ep;generalize t4.takeWhile ax=n7 at gO hq7 ln7;generalize t4.dropWhile ax=t7 at gO hc7 ln7;refine⟨p6,q7,_,_,Z,Z,kp7.all _ _ hp6 np6,hq7,by rw[eA,eA];exact fZ (mM (by simp at hle⊢;omega)),fun p8 H8 hp8 or8=>?_⟩;have s8:aS H7 H8:=AE or8;rw[ZaE]at hp8;exact⟨p8,_,t7,f,Z,by simp;omega,hc7.same s8,hp8,(k16.trans kp7).trans (aS.keep s8),by simp at hfu;omega,gO,by simp at hle⊢;omega⟩
   ·refine⟨_,Z,bx ⟨_,Z,?_⟩⟩;rw[gO,Kv _ iY (by omega)]at k;exact k p H3 oA sq hp3
inductive ZeV(a:cV)(vs:LV)(H:Hp)(Q:VK)(_:XK):Prop
 |mk (c:Nat) (x:ao) (l:cN) (_:vs=[bV c,.ref x]) (_:kO a H x l) (_:∀H',aS H H'->Q (.bl (mz c l)) H')
theorem Qt(T:il K mg a):iW P w K mg base 2 "is_test_of" wG (ZeV a):=by
 refine cI T.Gb T.TX T.Gb.b2 Pt ?_
 ·lk;obtain⟨c,x,l,rfl,hx,k⟩:=h;refine⟨_,ai (bK (bf gP (pv 0) (aP T.Zav) (bw _)) (aq (aN (du (pv 1) (NJ T) hr bh))) aL) (aq (aN (mS o6 (pv 0) (nP (ag (aP T.Ng) (ag (aP T.Bh) (ag (aP T.Nh) az)))) Z))),?_⟩;walk;refine⟨_,Z,Z,_,Z,?_⟩;unfold mz at k;by_cases h:c=94
  ·subst h;obtain⟨dx,e⟩:=id hx;refine bQ ⟨_,Z,x,dx,_,Z,e,Z,x,l,Z,hx,?_⟩;exact k H (aS.refl H)
  ·rw[ah h]at k;rw[show decide (bV c=V.int 94)=false from ay fun z=>h (by injection z with z;omega)];refine bx ⟨_,Z,(mr 3),fun q hq=> ⟨q,_,Z,.inr (qU.of au),Z,Z,?_⟩⟩;have e:EN (bV c) [.int 60,.int 62,.int 61]=(decide (c=60)||(decide (c=62)||decide (c=61))):=by
    have one:∀n:Nat,U0 (.int (n:Int)) (bV c)=decide (c=n):=fun n=>by show decide ((n:Int)=(c:Int))=decide (c=n);rw[decide_eq_decide];omega
    show(U0 (.int 60) (bV c)||(U0 (.int 62) (bV c)||(U0 (.int 61) (bV c)||false)))=_;rw[nL];exact congr (aA or (one 60)) (congr (aA or (one 62)) (one 61))
   show Q (.bl (EN (bV c) [.int 60,.int 62,.int 61])) _;rw[e];exact k _ (aS.dW (aS.refl H) hq)
end
section
inductive ZeW(K:ae)(a:cV)(tail:LV)(pc:List Dx->RC)(vs:LV)(H:Hp)(Q:VK)(E:XK):Prop
 |mk (r:ao) (aH:LN) (sv:V) (fs:Zvn) (R:Hp) (_:vs= .ref r::sv::tail) (_:jU K a H r aH) (_:R r≠none) (_:(∀b,H b=none->R b=none)) (_:gi a (cu R H) fs sv) (_:ZeT K a E r R H Q (fun c v G=>fR a G c v) (pc (dP fs) aH))
def Zkb(K:ae)(a:cV):Sp:=ZeW K a [] xY
theorem Uq(T:il K mg a):iW P w K mg base 7 "read_atom" JK (Zkb K a):=by
 refine fI T.Kg T.Wv T.Kg.b2 Fu ?_
 ·lk;obtain⟨r,aH,sv,fs,R,rfl,hc,yr,hR,hs,k⟩:=h;have nd:=Fu.nd;obtain⟨sx,sdx,gv,cd,br,rfl,s1,s2,s3,s4⟩:=hs;have ZkP:∃t,KZ (uf (Be P w) P w K mg base JL "read_atom" (aE uo) a.zL la A bC s H E) ((ic uo).drop 6) t/\∀(H1:Hp)(t1:LN)(dv:V)(col:LN×cN)(cv xv:V)(ts:Nat)(x:Option gK),jU K a H1 r t1->cQ r H H1->Dy a (cu R H1) col cv->Iy (cu R H1) x xv->ZeT K a E r R H Q (fun c v G=>fR a G c v) (vb (.atom col.1 ts x) t1)->t {nx:=fun _ H'=>Q .ik H',rt:=Q} [some (.ref r),some (.ref sx),some dv,some cv,some (bV ts),some xv] H1:=by
   refine⟨_,ai (dm (fD (pv 0) (mZ T) hr dj (ag (aP T.P7) az))) (aq (aN (ie (Uc T) hr bh (ag (aI (pv 3) Z) (ag (pv 4) (ag (pv 5) az)))))),?_⟩;intro H1 t1 dv col cv xv ts x j9 jO Zk0 hx k;walk;obtain⟨_,_,⟨dx1,ta1,EC,_⟩,_⟩:=id j9;unfold vb at k;refine⟨_,Z,r,dx1,_,Z,EC,Z,r,t1,41,Z,j9,fun t2 et H2 jc k8=>?_,fun iY=>?_⟩
   ·subst et;rw[ak (show(41::t2).head?=some 41 from Z)]at k;have sm:=eZ k8 yr;obtain⟨cx,cdx,pp,lx,rfl,c1,c2,c3⟩:=Zk0.gG (aS.gG sm);have hx2:=hx.same sm;refine⟨_,Z,cx,_,cdx,_,_,Z,cu.sub _ _ _ _ c1,T.Bi,T.Ae,Z,_,Z,_,Z,fun y dy ny Sl ney=> ⟨y,dy,_,Z,Z,au,Z,?_⟩⟩;rw[fC];have s7:aS H2 (bp (bp H2 dy (.own y)) y (.ins a.kh dy (Bn.zip ([.ref pp,bV ts,xv]++[])))):=kX ny Sl;have e7:(bp (bp H2 dy (.own y)) y (.ins a.kh dy (Bn.zip ([.ref pp,bV ts,xv]++[])))) y=some (.ins a.kh dy (Bn.zip [.ref pp,bV ts,xv])):=au;generalize bp (bp H2 dy (.own y)) y (.ins a.kh dy (Bn.zip ([.ref pp,bV ts,xv]++[])))=H7 at s7 e7⊢;have O4:=jO.trans k8;refine k (.ref y) H7 (jc.same s7) (O4.trans (aS.keep s7)) ⟨y,dy,pp,xv,Z,?_,cu.same s7 _ _ c2,hx2.same (cu.same s7)⟩;rw[cu.at (hR _ (O4.new jc.there ny))];exact e7
   ·rw[ah iY]at k;exact eU.of k jO
  obtain⟨te,pe,he⟩:=ZkP;refine⟨_,ai (bq (i:=2) nd (ba (NV T) hr dj (ag (pv 0) az))) (ai (bK (nN (o7 (jI hr) (pv 2) (aI (pv 1) Z))) (aq (cF T.bt hr.hd)) aL) (ai (bq (i:=3) nd (lX (jI hr) (aI (pv 1) Z) (pv 2))) (ai (bq (i:=4) nd (du (pv 0) (Bm T) hr dj)) (ai (bq (i:=5) nd oZ) (ai (bK (bf BY (pv 4) (aP T.Y9) (bw _)) (ai (bK (wt (eX (ba (Qt T) hr bh (ag (pv 4) (ag (aI (pv 3) Z) az))))) (aq (cF T.bt hr.hd)) aL) (aq (bq (i:=5) nd (ba (m4 T) hr dj (ag (pv 0) (ag (aI (pv 3) Z) az)))))) aL) pe))))),?_⟩;walk;unfold xY at k;refine⟨_,Z,r,aH,Z,hc,?_⟩;cases ed:oh aH with
  |none=>rw[ed]at k;exact k
  |some y=>
  obtain⟨d,t1⟩:=y;rw[ed]at k;dsimp only at k;intro p H1 j9 jO hp1;have sm1:=eZ jO yr;have f1:=cu.sub _ _ _ _ (sm1 _ _ s1);have f3:=cu.sub _ _ _ _ (sm1 _ _ s3);have ZnR:H1 p=some (.f6 ((yl d).map kV)):=by rw[ZaD];exact hp1
  refine⟨_,Z,_,Z,sx,_,sdx,_,_,Z,f1,T.Bj,T.n9,Z,cd,_,Z,kx.t f3 ZnR,_,Z,?_⟩;rcases Xb d s4 with⟨c,cv,ef,ev,Zk0⟩|⟨ef,ev⟩;rotate_left
  ·rw[ef]at k;rw[ev];exact bQ (eU.of k jO).ji
  rw[ef]at k;dsimp only at k;rw[ev];have g:=kx.t (a:=cd) f3 ZnR;rw[ev]at g;refine bx ⟨_,Z,sx,_,sdx,_,_,Z,f1,T.Bj,T.n9,Z,_,Z,cd,cv,Z,g,?_⟩;obtain⟨_,_,⟨dx1,ta1,EC,_⟩,_⟩:=id j9;unfold AK at k;refine⟨_,Z,r,dx1,_,Z,EC,Z,r,t1,Z,j9,?_⟩;cases t1 with
  |nil=>exact eU.of k jO
  |cons ts t2=>
  dsimp only at k;intro H2 jc k8;have O4:=jO.trans k8;have Zk1:Dy a (cu R H2) c.2 cv:=Zk0.gG (aS.gG (eZ O4 yr));refine⟨_,Z,Z,_,Z,?_⟩;by_cases h63:ts=63
  ·rw[ak h63]at k;rw[show decide (bV ts=V.int 63)=true by rw[h63];rfl];exact bx (he H2 t2 _ c.2 cv .ik ts none jc O4 Zk1 Z k)
  rw[ah h63]at k;rw[show decide (bV ts=V.int 63)=false from ay fun z=>h63 (by injection z with z;omega)];obtain⟨cx,cdx,pp,lx,rfl,c1,c2,c3⟩:=id Zk1;have c3':kO a H2 lx c.2.2:=c3.same (cu.sub _ _);refine bQ ⟨_,Z,_,Z,cx,_,cdx,_,_,Z,cu.sub _ _ _ _ c1,T.Bi,T.tq,Z,ts,lx,c.2.2,Z,c3',fun H3 s23=> ⟨_,Z,?_⟩⟩;have sq:=O4.trans (aS.keep s23);have oA:=jc.same s23;cases ht:mz ts c.2.2 with
  |false=>rw[ak ht]at k;exact bQ (eU.of k sq).ji
  |true=>
  rw[ah (by rw[ht];exact aK)]at k;refine bx ⟨_,Z,_,Z,cx,_,cdx,_,_,Z,s23 _ _ (cu.sub _ _ _ _ c1),T.Bi,T.tq,Z,r,t2,lx,c.2.2,Z,oA,c3'.same s23,?_⟩;cases el:kP c.2.2 t2 with
  |none=>rw[el]at k;exact eU.of k sq
  |some y=>
  obtain⟨x,t4⟩:=y;rw[el]at k;dsimp only at k;intro xv H4 x8 oz hx4;have hx4:uC (cu H3 H4) xv x:=hx4;exact he H4 t4 _ c.2 _ xv ts (some x) x8 (sq.trans oz) (Zk1.gG (aS.gG ((cu.same s23).trans (eZ oz yr)))) (uC.same (cu.left fun b e=>hR b (sq.new oA.there e)) hx4) k
inductive AL(K:ae)(a:cV)(n:Nat)(vs:LV)(H:Hp)(Q:VK)(E:XK):Prop
 |mk (d:Nat) (_:d+n=21) (_:∃(r:ao)(aH:LN)(sv:V)(fs:Zvn)(R:Hp),vs=[.ref r,sv,bV d]/\jU K a H r aH/\R r≠none/\(∀b,H b=none->R b=none)/\gi a (cu R H) fs sv/\ZeT K a E r R H Q (fun c v G=>fR a G c v) (iM (dP fs) n aH))
inductive ZaJ(K:ae)(a:cV)(n:Nat)(vs:LV)(H:Hp)(Q:VK)(E:XK):Prop
 |mk (d:Nat) (r:ao) (aH:LN) (sv:V) (fs:Zvn) (R:Hp) (_:d+n=21) (_:vs=[.ref r,sv,bV d]) (_:jU K a H r aH) (_:R r≠none) (_:(∀b,H b=none->R b=none)) (_:gi a (cu R H) fs sv) (_:ZeT K a E r R H Q (fun l v G=> ∃q ys,v= .ref q/\G q=some (.bz ys)/\iK a G l ys) (pA (iM (dP fs) n) aH))
theorem Qu(one:RC)(f:Nat)(bI:List PC)(t:LN):gc one (f+1) bI (44::t)=(match one t with
  |none=>none
  |some (c,s)=>gc one f (bI++[c]) s):=by
 rw[gc,ak (show(44::t).head?=some 44 from Z)];rfl
theorem Ur(one:RC){f:Nat}(bI:List PC){t:LN}(h:t.head?≠some 44)(hf:0<f):gc one f bI t=some (bI,t):=by
 cases f with
 |zero=>exact absurd hf (eW _)
 |succ f=>rw[gc,ah h]
theorem Qv(T:il K mg a){n j:Nat}(hj:3<=j)(GW:iW P w K mg base j "read_within" kI (AL K a n)):iW P w K mg base (j+1) "read_parts" wF (ZaJ K a n):=by
 refine fI T.Ga T.TV T.Ga.b3 Ct ?_
 ·lk;obtain⟨d,r,aH,sv,fs,R,hdn,rfl,hc,yr,hR,hs,k⟩:=h;have nd:=Ct.nd;refine⟨_,ai (dm (fD (pv 0) (mZ T) hr dj (ag (aP T.P8) az) (by omega))) (ai (bq (i:=3) nd (dO (ag (ba GW hr dj (ag (pv 0) (ag (pv 1) (ag (pv 2) az))) (by rfl) (aC _)) az))) (ai (qc Mz (eX (fD (pv 0) (kJ T) hr bh (ag (aP T.Zar) az) (by omega))) (aq (dm (ui b9 cA cB jq (pv 3) (ag (ba GW hr dj (ag (pv 0) (ag (pv 1) (ag (pv 2) az))) (by rfl) (aC _)) az))))) (ai (dm (fD (pv 0) (mZ T) hr dj (ag (aP T.Ni) az) (by omega))) (aq (aN (pv 3)))))),?_⟩;walk;obtain⟨_,_,⟨dx,ta,hH,_⟩,_⟩:=id hc;unfold pA at k;refine⟨_,Z,r,dx,_,Z,hH,Z,r,aH,91,Z,hc,fun t1 et H1 j9 jO=>?_,fun iY=>?_⟩;rotate_left
  ·rw[ah iY]at k;exact k
  subst et;rw[ak (show(91::t1).head?=some 91 from Z)]at k;dsimp only[List.tail_cons]at k;have hR1:∀b,H1 b=none->R b=none:=fun b e=>hR b (jO.new j9.there e);refine⟨_,Z,_,Z,_,Z,d,hdn,r,t1,sv,fs,R,Z,j9,yr,hR1,hs.same (eZ jO yr),?_⟩;cases e1:iM (dP fs) n t1 with
  |none=>rw[e1]at k;exact eU.of k jO
  |some y=>
  obtain⟨c1,t2⟩:=y;rw[e1]at k;dsimp only at k;intro vv H2 jc k8 hv;have hv:fR a (cu R H2) c1 vv:=hv;refine⟨(mr 1),fun q hq=>?_⟩;have O4:=jO.trans k8;have Hq:H q=none:=O4.new jc.there hq;have Rq:R q=none:=hR q Hq;have hR':∀b,b≠q->(bp R q (.bz [])) b=R b:=fun b z=>aF z;have nrq:r≠q:=fun z=>yr (by rw[z];exact Rq);have Zc5:(bp R q (.bz [])) r≠none:=by rw[aF nrq];exact yr
  have L5:∀(G:Hp)(o:HO),cu (bp R q (.bz [])) (bp G q o)=cu (bp R q (.bz [])) G:=fun G o=>by
   funext b;by_cases z:b=q
   ·subst z;unfold cu;rw[au]
   ·unfold cu;rw[aF z,aF z]
  have U7:∀b,(bp R q (.bz [])) b=none->R b=none:=fun b e=>by
   by_cases z:b=q
   ·rw[z];exact Rq
   ·rw[aF z]at e;exact e
  have hRn:∀G:Hp,G q=none->aS (cu R G) (cu (bp R q (.bz [])) G):=fun G g=>cu.Zj1 fun b o e e2=>by rw[aF (fun z=>by rw[z,g]at e2;cases e2)];exact e
  generalize bp R q (.bz [])=R' at hR' Zc5 L5 U7 hRn;have Zbh:=jc.len;have Zqs:∀(G:Hp)(ys:LV){t:LN},jU K a G r t->cQ r H G->G q=some (.bz ys)->∀b,G b=none->R' b=none:=fun G ys t hcG kG hqG b e=>by rw[hR' b (fun z=>by rw[z,hqG]at e;cases e)];exact hR b (kG.new hcG.there e)
  have hs2:gi a (cu R' H2) fs sv:=(hs.same (eZ O4 yr)).same (hRn H2 hq);refine⟨fun m σ H3=> ∃(bI:List PC)(ys:LV)(t3:LN)(f:Nat),σ=[some (.ref r),some sv,some (bV d),some (.ref q)]/\t3.length=m/\jU K a H3 r t3/\H3 q=some (.bz ys)/\Paired (fR a (cu R' H3)) bI ys/\gi a (cu R' H3) fs sv/\cQ r H H3/\t3.length<f/\gc (iM (dP fs) n) (t2.length+1) [c1] t2=gc (iM (dP fs) n) f bI t3/\bI.length+t3.length<=17001,⟨_,[c1],[vv],t2,t2.length+1,Z,Z,jc.dW hq,au,?_,?_,O4.dW hq,bT _,Z,by simp;omega⟩,?_⟩
  ·rw[L5];exact .cons (fR.same (hRn H2 hq) _ _ hv) .nil
  ·rw[L5];exact hs2
  rintro m σ H3 ⟨bI,ys,t3,f,rfl,rfl,oA,mE,hf3,Yr,sq,hfu,gO,jL⟩;walk;obtain⟨_,_,⟨Sk,ta3,ES,_⟩,_⟩:=id oA;have Hx:q≠r:=vk mE ES (by intro z;cases z);refine⟨_,Z,r,Sk,_,Z,ES,Z,r,t3,44,Z,oA,fun t4 et H4 x8 oz=>?_,fun Zf6=>?_⟩
  ·subst et;obtain⟨f,rfl⟩:∃f',f=f'+1:=⟨f-1,by simp at hfu;omega⟩;rw[Qu]at gO;refine⟨_,Z,bQ ⟨fun σ' H'=> ∃(bI:List PC)(ys:LV)(t3:LN)(f:Nat),σ'=[some (.ref r),some sv,some (bV d),some (.ref q)]/\t3.length< (44::t4).length/\jU K a H' r t3/\H' q=some (.bz ys)/\Paired (fR a (cu R' H')) bI ys/\gi a (cu R' H') fs sv/\cQ r H H'/\t3.length<f/\gc (iM (dP fs) n) (t2.length+1) [c1] t2=gc (iM (dP fs) n) f bI t3/\bI.length+t3.length<=17001,fun σ' H' h9=>by obtain⟨bI,ys,t3,f,h1,h2,h3⟩:=h9;exact⟨t3.length,h2,bI,ys,t3,f,h1,Z,h3⟩,?_⟩⟩;walk;have L3:=sq.trans oz;have U8:H4 q=some (.bz ys):=oz.all _ _ mE Hx;have hs4:=Yr.same (eZ oz Zc5);refine⟨_,Z,.inl ⟨Z,_,ft.of U8⟩,_,Z,_,Z,_,Z,d,hdn,r,t4,sv,fs,R',Z,x8,Zc5,Zqs H4 ys x8 L3 U8,hs4,?_⟩;cases e6:iM (dP fs) n t4 with
   |none=>rw[e6]at gO;rw[gO]at k;exact eU.of k L3
   |some y=>
   obtain⟨c6,t6⟩:=y;rw[e6]at gO;dsimp only at gO;intro vv6 H6 ZW kp6 hv6;have hv6:fR a (cu R' H6) c6 vv6:=hv6;have k16:=L3.trans kp6;have k36:=oz.trans kp6;have U9:H6 q=some (.bz ys):=k36.all _ _ mE Hx;have l6:=qI (dP fs) n _ _ _ e6;have Hw:=Paired.length hf3;refine⟨q,_,_,Z,Z,U9,mM (by simp at jL;omega),bI++[c6],ys++[vv6],t6,f,Z,by simp;omega,hc.put k16 ZW Hq,au,?_,?_,k16.put Hq,by simp at hfu;omega,gO,by simp at jL⊢;omega⟩
   ·rw[L5];exact i8 (F:=fR a (cu R' H6)) hv6 (Paired.wm hf3 fun x v h=>fR.same (eZ k36 Zc5) _ _ h)
   ·rw[L5];exact hs4.same (eZ kp6 Zc5)
  ·refine⟨_,Z,bx ?_⟩;rw[gO,Ur _ _ Zf6 (by omega)]at k;dsimp only at k;refine⟨_,Z,r,Sk,_,Z,ES,Z,r,t3,93,Z,oA,fun t4 et H4 x8 oz=>?_,fun iY=>?_⟩
   ·subst et;rw[ak (show(93::t4).head?=some 93 from Z)]at k;refine⟨_,Z,k (.ref q) H4 x8 (sq.trans oz) ⟨q,ys,Z,by rw[cu.at Rq];exact oz.all _ _ mE Hx,iK.of (Paired.wm hf3 fun x v h=>fR.same (cu.left U7) _ _ (fR.same (eZ oz Zc5) _ _ h))⟩⟩
   ·rw[ah iY]at k;exact eU.of k sq
theorem Zp(T:il K mg a):iW P w K mg base 9 "read_within" kI (AL K a 0):=by
 refine fI T.pX T.Dc T.pX.b3 sR ?_
 ·lk;obtain⟨d,hdn,r,aH,sv,fs,R,rfl,hc,yr,hR,hs,k⟩:=h;refine⟨_,ai (bK (bf oP (pv 2) (aP T.C9) (bw _)) (aq (cF T.bt hr.hd)) aL) Ba,?_⟩;walk;refine⟨_,Z,_,_,Z,Z,_,Z,?_⟩;rw[aD (by omega:(20:Int)< (d:Int))];exact bQ (eU.ji k)
theorem ZeX(c:Nat)(x y:Nat):EN (bV c) [.int (x:Int),.int (y:Int)]=decide (c=x\/c=y):=by
 have one:∀n:Nat,U0 (.int (n:Int)) (bV c)=decide (c=n):=fun n=>by show decide ((n:Int)=(c:Int))=decide (c=n);rw[decide_eq_decide];omega
 show(U0 (.int x) (bV c)||(U0 (.int y) (bV c)||false))=_;rw[one,one,nL,Bool.decide_or]
theorem Zq(T:il K mg a){n j:Nat}(hj:9<=j)(GW:iW P w K mg base j "read_within" kI (AL K a n))(GP:iW P w K mg base j "read_parts" wF (ZaJ K a n)):iW P w K mg base (j+1) "read_within" kI (AL K a (n+1)):=by
 refine fI T.pX T.Dc T.pX.b3 sR ?_
 ·lk;obtain⟨d,hdn,r,aH,sv,fs,R,rfl,hc,yr,hR,hs,k⟩:=h;have nd:=sR.nd;refine⟨_,ai (bK (bf oP (pv 2) (aP T.C9) (bw _)) (aq (cF T.bt hr.hd)) aL) (ai (bq (i:=3) nd (du (pv 0) (Bm T) hr dj (by omega))) (ai (bK (bf gP (pv 3) (aP T.TN) (bw _)) (aq (aN (ba (Uq T) hr dj (ag (pv 0) (ag (pv 1) az)) (by rfl) (by omega)))) aL) (ai (bK (bf o6 (pv 3) (nP (ag (aP T.Zau) (ag (aP T.Zat) az))) Z) (aq (aN (ie (o9 T) hr bh (ag (pv 3) (ag (dO az) az)) (by rfl) (by omega)))) aL) (ai (bK (bf gP (pv 3) (aP T.CY) (bw _)) (aq (aN (ie (o9 T) hr bh (ag (pv 3) (ag (dO (ag (ba GW hr dj (ag (pv 0) (ag (pv 1) (ag (iu kM (pv 2) bL) az))) (by rfl) (aC _)) az)) az)) (by rfl) (by omega)))) aL) (ai (bK (bf o6 (pv 3) (nP (ag (aP T.J2) (ag (aP T.Zmt) az))) Z) (aq (aN (ie (o9 T) hr bh (ag (pv 3) (ag (ba GP hr dj (ag (pv 0) (ag (pv 1) (ag (iu kM (pv 2) bL) az))) (by rfl) (aC _)) az)) (by rfl) (by omega)))) aL) (aq (cF T.bt hr.hd))))))),?_⟩;walk;have ZnT:∀{c n:Nat},¬c=n->decide (bV c=V.int (n:Int))=false:=fun{c n} h=>ay fun z=>h (by injection z with z;omega);refine⟨_,Z,_,_,Z,Z,_,Z,?_⟩;rw[ay (by omega:¬(20:Int)< (d:Int))];obtain⟨_,_,⟨dx,ta,hH,_⟩,_⟩:=id hc;refine bx ⟨_,Z,r,dx,_,Z,hH,Z,r,aH,Z,hc,?_⟩;cases aH with
  |nil=>exact k
  |cons c t1=>
  rw[iM]at k;intro H1 j9 jO;have hR1:∀b,H1 b=none->R b=none:=fun b e=>hR b (jO.new j9.there e);have hs1:=hs.same (eZ jO yr);have yC:∀(H2:Hp)(t2:LN)(q:ao)(ys:LV)(l:List PC),jU K a H2 r t2->cQ r H H2->cu R H2 q=some (.bz ys)->iK a (cu R H2) l ys->ZeT K a E r R H Q (fun c v G=>fR a G c v) (some (.comp c l,t2))->∀(y dy:ao),H2 y=none->H2 dy=none->dy≠y->Q (.ref y) (bp (bp H2 dy (.own y)) y (.ins a.fQ dy (lK.zip ([bV c,.ref q]++[])))):=by intro H2 t2 q ys l jc k8 hq hl k y dy ny Sl ney;have s7:aS H2 (bp (bp H2 dy (.own y)) y (.ins a.fQ dy (lK.zip ([bV c,.ref q]++[])))):=kX ny Sl;have e7:(bp (bp H2 dy (.own y)) y (.ins a.fQ dy (lK.zip ([bV c,.ref q]++[])))) y=some (.ins a.fQ dy (lK.zip [bV c,.ref q])):=au;generalize bp (bp H2 dy (.own y)) y (.ins a.fQ dy (lK.zip ([bV c,.ref q]++[])))=H7 at s7 e7⊢;refine k (.ref y) H7 (jc.same s7) (k8.trans (aS.keep s7)) ⟨y,dy,q,ys,Z,?_,cu.same s7 _ _ hq,iK.same (cu.same s7) _ _ hl⟩;rw[cu.at (hR _ (k8.new jc.there ny))];exact e7
  refine⟨_,Z,Z,_,Z,?_⟩;by_cases LC:c=40
  ·rw[ak LC]at k;rw[show decide (bV c=V.int 40)=true by rw[LC];rfl];refine bQ ⟨_,Z,_,Z,r,t1,sv,fs,R,Z,j9,yr,hR1,hs1,?_⟩;cases e:xY (dP fs) t1 with
   |none=>rw[e]at k;exact eU.of k jO
   |some y=>rw[e]at k;exact fun v H' hc' ZT hv=>k v H' hc' (jO.trans ZT) hv
  rw[ah LC]at k;rw[show decide (bV c=V.int 40)=false from ZnT LC];refine bx ⟨_,Z,(mr 2),fun q2 LB=> ⟨q2,_,Z,.inr (qU.of au),Z,Z,_,Z,?_⟩⟩;have s2:=aS.dW (o:=(.f6 [.int 84,.int 70])) (aS.refl H1) LB;generalize bp H1 q2 (.f6 [.int 84,.int 70])=H2 at s2;have jc:=j9.same s2;have k8:=jO.trans (aS.keep s2);rw[show(if false=true then !EN (bV c) [.int 84,.int 70]else EN (bV c) [.int 84,.int 70])=decide (c=84\/c=70)from ZeX c 84 70];by_cases htf:c=84\/c=70
  ·rw[ak htf]at k;rw[aD htf];refine bQ ⟨_,Z,(mr 0),fun q3 mE=>fun y dy ny Sl ney=> ⟨y,dy,_,Z,Z,au,Z,?_⟩⟩;rw[fC];exact yC _ t1 q3 [] [] (jc.dW mE) (k8.dW mE) (by rw[cu.at (hR _ (k8.new jc.there mE))];exact au) Z k y dy ny Sl ney
  rw[ah htf]at k;rw[ay htf];have hR2:∀b,H2 b=none->R b=none:=fun b e=>hR b (k8.new jc.there e);have hs2:=hs1.same (cu.same s2);refine bx ⟨_,Z,Z,_,Z,?_⟩;by_cases O3:c=33
  ·rw[ak O3]at k;rw[show decide (bV c=V.int 33)=true by rw[O3];rfl];refine bQ ⟨_,Z,_,Z,_,Z,_,Z,_,_,Z,Z,d+1,by omega,r,t1,sv,fs,R,?_,jc,yr,hR2,hs2,?_⟩
   ·show [V.ref r,sv,V.int ((d:Int)+1)]=[V.ref r,sv,bV (d+1)];rw[show((d:Int)+1)=((d+1:Nat):Int) by omega]
   cases e:iM (dP fs) n t1 with
   |none=>rw[e]at k;exact eU.of k k8
   |some y=>
   obtain⟨c3,t3⟩:=y;rw[e]at k;intro vv H3 oA OP hv;have hv:fR a (cu R H3) c3 vv:=hv;have sq:=k8.trans OP;refine⟨(mr 1),fun q3 mE=>fun y dy ny Sl ney=> ⟨y,dy,_,Z,Z,au,Z,?_⟩⟩;rw[fC];exact yC _ t3 q3 [vv] [c3] (oA.dW mE) (sq.dW mE) (by rw[cu.at (hR _ (sq.new oA.there mE))];exact au) ⟨vv,[],Z,fR.same (cu.same (aS.dW (aS.refl H3) mE)) _ _ hv,Z⟩ k y dy ny Sl ney
  rw[ah O3]at k;rw[show decide (bV c=V.int 33)=false from ZnT O3];refine bx ⟨_,Z,(mr 2),fun q2 LB=> ⟨q2,_,Z,.inr (qU.of au),Z,Z,_,Z,?_⟩⟩;have s3:=aS.dW (o:=(.f6 [.int 38,.int 124])) (aS.refl H2) LB;generalize bp H2 q2 (.f6 [.int 38,.int 124])=H3 at s3;have oA:=jc.same s3;have OP:=k8.trans (aS.keep s3);have hR3:∀b,H3 b=none->R b=none:=fun b e=>hR b (OP.new oA.there e);have Yr:=hs2.same (cu.same s3);rw[show(if false=true then !EN (bV c) [.int 38,.int 124]else EN (bV c) [.int 38,.int 124])=decide (c=38\/c=124)from ZeX c 38 124];by_cases ZX:c=38\/c=124
  ·rw[ak ZX]at k;rw[aD ZX];refine bQ ⟨_,Z,_,Z,_,Z,_,Z,_,_,Z,Z,d+1,r,t1,sv,fs,R,by omega,?_,oA,yr,hR3,Yr,?_⟩
   ·show [V.ref r,sv,V.int ((d:Int)+1)]=[V.ref r,sv,bV (d+1)];rw[show((d:Int)+1)=((d+1:Nat):Int) by omega]
   cases e:pA (iM (dP fs) n) t1 with
   |none=>rw[e]at k;exact eU.of k OP
   |some y=>
   obtain⟨l,t4⟩:=y;rw[e]at k;rintro vv H4 x8 oz ⟨q,ys,rfl,hq,hl⟩;walk;refine fun y dy ny Sl ney=> ⟨y,dy,_,Z,Z,au,Z,?_⟩;rw[fC];exact yC H4 t4 q ys l x8 (OP.trans oz) hq hl k y dy ny Sl ney
  rw[ah ZX]at k;rw[ay ZX];exact bx (eU.of k OP).ji
theorem AM(T:il K mg a):∀n,iW P w K mg base (2*n+9) "read_within" kI (AL K a n)
 |0=>Zp T
 |n+1=>by have IH:=AM T n;have GP:=Qv T (by omega:3<=2*n+9) IH;exact Zq T (j:=2*n+9+1) (by omega) (IH.m8 (by omega)) GP
inductive Xc(K:ae)(a:cV)(vs:LV)(H:Hp)(Q:VK)(E:XK):Prop
 |mk (sv:V) (ta:ao) (tx:LN) (fs:Zvn) (R:Hp) (_:vs=[sv,.ref ta]) (_:(∀b,H b=none->R b=none)) (_:gi a (cu R H) fs sv) (_:H ta=some (.bz (iz tx))) (_:tx.length<=17000) (_:match gC (dP fs) tx with|none=> ∀H',aS H H'->E (.ref a.g9) none H'|some c=> ∀v H',aS H H'->fR a (cu R H') c v->Q v H')
theorem GX(T:il K mg a):iW P w K mg base 52 "read_condition" vB (Xc K a):=by
 refine fI T.vJ T.Ii T.vJ.b2 ur ?_
 ·lk;obtain⟨sv,ta,tx,fs,R,rfl,hR,hsc,hta,hl,k⟩:=h;have nd:=ur.nd;refine⟨_,ai (bK (bf oP (rZ T (pv 1)) (aP T.wU) (bw _)) (aq (cF T.bt hr.hd)) aL) (ai (bq (i:=2) nd (ie (tJ T) hr bh (ag (pv 1) az))) (ai (bq (i:=3) nd (ba (AM T 21) hr dj (ag (pv 2) (ag (pv 0) (ag bL az))))) (ai (dm (du (pv 2) (Ay T) hr dj)) (aq (aN (pv 3)))))),?_⟩;walk;refine⟨_,Z,ta,_,Z,.inl (ft.of hta),_,_,Z,Z,_,Z,?_⟩;rw[eA];unfold gC at k;by_cases h4:500<tx.length
  ·rw[ak h4]at k;rw[aD (by omega:(500:Int)< (tx.length:Int))];exact bQ (k H (aS.refl H))
  rw[ah h4]at k;rw[ay (by omega:¬(500:Int)< (tx.length:Int))];refine bx ⟨_,Z,fun r dx nr ndr ner=>?_⟩;have sm0:aS H (bp (bp H dx (.own r)) r (.ins a.cK dx [])):=kX nr ndr;refine⟨r,dx,ta,tx,Z,au,sm0 _ _ hta,hl,fun H1 hat kp0=> ⟨Z,?_⟩⟩;have s01:aS H H1:=kp0.gE sm0 nr;have j9:jU K a H1 r tx:=⟨tx,0,hat,Z⟩;have Rr:R r=none:=hR r nr;have e1:∀b,b≠r->(bp R r (.bz [])) b=R b:=fun b z=>aF z;have e2:(bp R r (.bz [])) r≠none:=by rw[au];intro z;cases z
  generalize bp R r (.bz [])=R' at e1 e2;have hR1:∀b,H1 b=none->R' b=none:=fun b e=>by rw[e1 b (fun z=>by rw[z]at e;exact j9.there e)];exact hR b (s01.free e)
  have Zqt:aS (cu R H) (cu R' H1):=fun b o e=>by have e3:=cu.out e;have e4:=cu.sub _ _ _ _ e;rw[cu.at (by rw[e1 b (fun z=>by rw[z,nr]at e4;cases e4)];exact e3)];exact s01 _ _ e4
  refine⟨_,Z,_,Z,0,Z,r,tx,sv,fs,R',Z,j9,e2,hR1,hsc.same Zqt,?_⟩;cases eg:iM (dP fs) 21 tx with
  |none=>rw[eg]at k;exact fun H' ZT=>k H' (ZT.gE s01 nr)
  |some y=>
  obtain⟨c,t2⟩:=y;rw[eg]at k;dsimp only at k;intro cv H2 jc k8 Vd;have s02:aS H H2:=k8.gE s01 nr;have Vd:fR a (cu R' H2) c cv:=Vd;obtain⟨_,_,⟨dx2,ta2,hH2,_⟩,_⟩:=id jc;refine⟨_,Z,r,dx2,_,Z,hH2,Z,r,t2,Z,jc,fun hs=>?_,fun hs=>?_⟩;rotate_left
  ·rw[ah hs]at k;exact fun H' ZT=>k H' (ZT.gE s02 nr)
  rw[ak hs]at k;refine⟨_,Z,k cv H2 s02 (fR.same (cu.left fun b e=>?_) _ _ Vd)⟩;by_cases z:b=r
  ·rw[z];exact Rr
  ·rw[e1 b z]at e;exact e
end
noncomputable def Kw(t:Nat)(x:Option gK)(v:gK):Bool:=match x with
 |none=>true
 |some y=>if t=60 then jl v y else if t=62 then jl y v else if t=61 then decide (v=y)else match v,y with
  | .str a,.str b=>decide (a.take b.length=b)
  |_,_=>false
def Iz(t:Nat)(x:Option gK)(Vc:List dh):Bool:=Vc.any fun u=>match u with
 | .lit y=>Kw t x y
 | .group _=>false
def Xd(p:LN)(t:Nat)(x:Option gK)(val:dh):Bool:=match rb p [val]with
 |none=>false
 |some Vc=>Iz t x Vc
mutual
def jk(val:dh):PC->Bool
 | .atom p t x=>Xd p t x val
 | .comp s l=>if s=84 then true else if s=70 then false else if s=33 then Zhv val l else if s=38 then Qw val l else DA val l
def Zhv(val:dh):List PC->Bool
 |[]=>false
 |c::_=>!jk val c
def Qw(val:dh):List PC->Bool
 |[]=>true
 |c::r=>jk val c&&Qw val r
def DA(val:dh):List PC->Bool
 |[]=>false
 |c::r=>jk val c||DA val r
end
def OkX(l:cN)(t:Nat):Option gK->Prop
 |none=>t=63
 |some y=>Ks l y/\mz t l=true
mutual
def OkC(val:dh):PC->Prop
 | .atom p t x=> ∃l Vc,rb p [val]=some Vc/\(∀u∈Vc,∃y,u= .lit y/\Ks l y)/\OkX l t x
 | .comp s l=> (s=33->l≠ [])/\Xe val l
def Xe(val:dh):List PC->Prop
 |[]=>True
 |c::r=>OkC val c/\Xe val r
end
mutual
def w9:PC->Nat
 | .atom _ _ _=>0
 | .comp _ l=>mj l+1
def mj:List PC->Nat
 |[]=>0
 |c::r=>max (w9 c) (mj r)
end
theorem Xe.get{val:dh}:∀{l:List PC}{i:Nat}{c:PC},Xe val l->l[i]? =some c->OkC val c
 |[],_,_,_,h=>by cases h
 |d::r,0,c,h,e=>by have e:d=c:=af e;rw[<-e];exact h.1
 |d::r,i+1,c,h,e=>Xe.get (i:=i) h.2 (by simpa using e)
theorem IA:∀{l:List PC}{i:Nat}{c:PC},l[i]? =some c->w9 c<=mj l
 |[],_,_,h=>by cases h
 |d::r,0,c,e=>by have e:d=c:=af e;rw[<-e,mj];exact Nat.le_max_left _ _
 |d::r,i+1,c,e=>by have:=IA (l:=r) (i:=i) (c:=c) (by simpa using e);rw[mj];exact cc this (Nat.le_max_right _ _)
theorem ZeY(s:LN)(n:Nat):K0 (iz s) none (some (n:Int))=iz (s.take n):=by
 unfold K0;rw[HT.Bb,show HT.UZ (iz s).length 0 none=0 from Z,ib,Nat.sub_zero,eA];unfold iz;rw[xq];rcases Nat.le_total n s.length with h|h
 ·rw[lz h]
 ·rw[Nat.min_eq_right h,A6 (by simp),A6 (by simpa using h)]
section
inductive Zhw(K:ae)(a:cV)(vs:LV)(H:Hp)(Q:VK)(_:XK):Prop
 |mk (v xv:V) (u:gK) (t:Nat) (x:Option gK) (l:cN) (_:vs=[v,bV t,xv]) (_:uC H v u) (_:Ks l u) (_:Iy H x xv) (_:OkX l t x) (_:∀H',aS H H'->Q (.bl (Kw t x u)) H')
theorem pB{c n:Nat}(h:¬c=n):decide (bV c=V.int (n:Int))=false:=ay fun z=>h (by injection z with z;omega)
theorem Qx(T:il K mg a):iW P w K mg base 1 "holds_test" wI (Zhw K a):=by
 refine cI T.Gf T.T1 T.Gf.b3 Pu ?_
 ·lk;obtain⟨v,xv,u,t,x,l,rfl,hv,ty,hx,ok,k⟩:=h;refine⟨_,ai (bK (bf gP (pv 1) (aP T.Ng) (bw _)) (aq (aN (mS (uL.or Jl (Zj8 hr.YS)) (pv 0) (pv 2) (bw _)))) aL) (ai (bK (bf gP (pv 1) (aP T.Bh) (bw _)) (aq (aN (mS (uL.or oP (Zka hr.YS)) (pv 0) (pv 2) (bw _)))) aL) (ai (bK (bf gP (pv 1) (aP T.Nh) (bw _)) (aq (aN (mS (uL.or gP (Zez hr.units)) (pv 0) (pv 2) (bw _)))) aL) (ai (bK (bf gP (pv 1) (aP T.Zav) (bw _)) (aq (aN (mS (Zez hr.units) (vp Bc (pv 0) Zaf (pO (rZ T (pv 2)))) (pv 2) (bw _)))) aL) (aq (aN vm))))),?_⟩;walk;refine⟨_,Z,Z,_,Z,?_⟩;cases x with
  |none=>have e:t=63:=ok;subst e;refine bx ⟨_,Z,Z,_,Z,bx ⟨_,Z,Z,_,Z,bx ⟨_,Z,Z,_,Z,bx ?_⟩⟩⟩;exact k H (aS.refl H)
  |some y=>
  obtain⟨ty2,it⟩:=ok;have hx:uC H xv y:=hx;have k0:=k;have k:=k H (aS.refl H);by_cases Hn:t=60
  ·subst Hn;refine bQ ⟨_,Z,_,Z,?_⟩;cases u with
   |num i=>
    cases y with
    |num j=>exact .inl ⟨i,j,hv,hx,k⟩
    |str s'=>have t1:EO l=false:=ty;have t2:EO l=true:=ty2;rw[t1]at t2;cases t2
   |str s6=>
    cases y with
    |num j=>have t1:EO l=true:=ty;have t2:EO l=false:=ty2;rw[t1]at t2;cases t2
    |str s'=>obtain⟨p1,rfl,hp1⟩:=hv;obtain⟨p2,rfl,hp2⟩:=hx;exact .inr ⟨p1,p2,s6,s',Z,Z,hp1,hp2,k⟩
  rw[show decide (bV t=V.int 60)=false from pB Hn];refine bx ⟨_,Z,Z,_,Z,?_⟩;by_cases Sm:t=62
  ·subst Sm;refine bQ ⟨_,Z,_,Z,?_⟩;cases u with
   |num i=>
    cases y with
    |num j=>exact .inl ⟨i,j,hv,hx,k⟩
    |str s'=>have t1:EO l=false:=ty;have t2:EO l=true:=ty2;rw[t1]at t2;cases t2
   |str s6=>
    cases y with
    |num j=>have t1:EO l=true:=ty;have t2:EO l=false:=ty2;rw[t1]at t2;cases t2
    |str s'=>obtain⟨p1,rfl,hp1⟩:=hv;obtain⟨p2,rfl,hp2⟩:=hx;exact .inr ⟨p1,p2,s6,s',Z,Z,hp1,hp2,k⟩
  rw[show decide (bV t=V.int 62)=false from pB Sm];refine bx ⟨_,Z,Z,_,Z,?_⟩;by_cases L4:t=61
  ·subst L4;refine bQ ⟨_,Z,_,Z,?_⟩;cases u with
   |num i=>
    cases y with
    |num j=>
     have hv:v= .int i:=hv;have hx:xv= .int j:=hx;subst hv hx;refine .inl ⟨Z,?_⟩;have e:decide (gK.num i=gK.num j)=decide (V.int i=V.int j):=by rw[decide_eq_decide];exact⟨fun z=>by injection z with z;rw[z],fun z=>by injection z with z;rw[z]⟩
     have k:Q (.bl (decide (gK.num i=gK.num j))) H:=k;rw[e]at k;exact k
    |str s'=>have t1:EO l=false:=ty;have t2:EO l=true:=ty2;rw[t1]at t2;cases t2
   |str s6=>
    cases y with
    |num j=>have t1:EO l=true:=ty;have t2:EO l=false:=ty2;rw[t1]at t2;cases t2
    |str s'=>
     obtain⟨p1,rfl,hp1⟩:=hv;obtain⟨p2,rfl,hp2⟩:=hx;refine .inr ⟨p1,p2,s6,s',Z,Z,hp1,hp2,?_⟩;have e:decide (gK.str s6=gK.str s')=decide (s6=s'):=by rw[decide_eq_decide];exact⟨fun z=>by injection z,fun z=>by rw[z]⟩
     have k:Q (.bl (decide (gK.str s6=gK.str s'))) H:=k;rw[e]at k;exact k
  rw[show decide (bV t=V.int 61)=false from pB L4];refine bx ⟨_,Z,Z,_,Z,?_⟩;have h94:t=94:=by
   unfold mz at it;by_cases z:t=94
   ·exact z
   ·rw[ah z]at it;simp[Hn,L4,Sm]at it
  subst h94;have tt:EO l=true:=it;cases u with
  |num i=>have t1:EO l=false:=ty;rw[t1]at tt;cases tt
  |str s6=>
   cases y with
   |num j=>have t2:EO l=false:=ty2;rw[t2]at tt;cases tt
   |str s'=>obtain⟨p1,rfl,hp1⟩:=hv;obtain⟨p2,rfl,hp2⟩:=hx;refine bQ ⟨_,Z,⟨_,Z,p2,_,Z,.inl (ft.of hp2),?_⟩⟩;refine⟨_,Z,?_⟩;refine⟨p1,_,Z,ft.of hp1,fun q hq=>?_⟩;rw[eA,ZeY];refine⟨_,Z,q,p2,s6.take s'.length,s',Z,Z,au,by rw[aF (aR hp2 hq)];exact hp2,?_⟩;exact k0 _ (aS.dW (aS.refl H) hq)
inductive Zcr(a:cV)(H:Hp)(x:ao)(val:dh):Prop
 |mk (dx:_) (ta:_) (rv:_) (hv:_) (_:H x=some (.ins a.qx dx (w8.zip [.ref ta,rv,hv]))) (_:gj H val rv)
theorem Zcr.same{H H':Hp}{x:ao}{val:dh}(h:Zcr a H x val)(s:aS H H'):Zcr a H' x val:=by obtain⟨dx,ta,rv,hv,h1,h2⟩:=h;exact⟨dx,ta,rv,hv,s _ _ h1,gj.same s _ _ h2⟩
inductive Zhx(a:cV)(vs:LV)(H:Hp)(Q:VK)(_:XK):Prop
 |mk (x:ao) (cv:V) (val:dh) (p:LN) (t:Nat) (y:Option gK) (_:vs=[.ref x,cv]) (_:Zcr a H x val) (_:tN val<=17000) (_:fR a H (.atom p t y) cv) (_:OkC val (.atom p t y)) (_:∀H',aS H H'->Q (.bl (Xd p t y val)) H')
theorem Zcs{t:Nat}{x:Option gK}{u:List dh}{y:gK}:Iz t x (u++[.lit y])=(Iz t x u||Kw t x y):=by unfold Iz;rw[List.any_append,dD,LD,nL]
theorem Zct{t:Nat}{x:Option gK}{u:List dh}{i:Nat}(h:Iz t x (u.take i)=true):Iz t x u=true:=by unfold Iz at h⊢;rw[gS]at h⊢;obtain⟨y,hy,e⟩:=h;exact⟨y,EM hy,e⟩
theorem DB(T:il K mg a):iW P w K mg base 2 "holds_atom" Fw (Zhx a):=by
 refine cI T.Ge T.TZ T.Ge.b2 Cw ?_
 ·lk;obtain⟨x,cv,val,p,t,y,rfl,Hr,hsz,Vd,ok,k⟩:=h;have nd:=Cw.nd;refine⟨_,ai (lC iw.never Z (kT (ba (Lr T) hr bh (ag (pv 0) (ag (aI (pv 1) Z) az)))) (gW (i:=2) nd) (aq (bK (eX (ba (Qx T) hr bh (ag (pv 2) (ag (aI (pv 1) Z) (ag (aI (pv 1) Z) az))))) (aq (aN vm)) aL))) (aq (aN vm)),?_⟩;walk;obtain⟨c,dc,pp,xv,rfl,c1,c2,c3⟩:=Vd;obtain⟨l,Vc,e1,Zqu,okx⟩:=ok;obtain⟨dx,ta,rv,hv0,r1,r2⟩:=Hr;have ek:Xd p t y val=Iz t y Vc:=by unfold Xd;rw[e1]
  rw[ek]at k;refine⟨_,Z,_,Z,c,_,dc,_,_,Z,c1,T.Bk,T.F8,Z,x,dx,ta,pp,rv,hv0,val,p,Vc,Z,r1,r2,hsz,c2,e1,fun q ys H1 s1 hq sr=>?_⟩;refine⟨q,Z,⟨_,ft.of hq⟩,lE (K:=K) (a:=q) (xs:=ys) (fun i σ H3=> ∃v2:Option V,σ=[some (.ref x),some (.ref c),v2]/\aS H1 H3/\Iz t y (Vc.take i)=false) ⟨none,Z,aS.refl H1,Z⟩ (fun i σ H3 _ h9=>by obtain⟨_,_,s3,_⟩:=h9;exact ft.of (s3 _ _ hq)) ?_ ?_⟩
  ·rintro i v σ H3 hi ⟨v2,rfl,s3,hno⟩;walk;obtain⟨u,hu,ZkW⟩:=iE sr hi;obtain⟨z,rfl,tz⟩:=Zqu u (bj hu);have s03:=s1.trans s3;refine⟨_,Z,_,Z,c,_,dc,_,_,Z,s03 _ _ c1,T.Bk,T.F9,Z,_,Z,c,_,dc,_,_,Z,s03 _ _ c1,T.Bk,T.xR,Z,v,xv,z,t,y,l,Z,uC.same s03 (l:=z) ZkW,tz,c3.same s03,okx,fun H4 s4=> ⟨_,Z,?_⟩⟩;have et:Iz t y (Vc.take (i+1))=(Iz t y (Vc.take i)||Kw t y z):=by rw[i7 hu,Zcs]
   cases eh:Kw t y z with
   |true=>refine bQ ?_;rw[hno,eh]at et;have:=k H4 (s03.trans s4);rw[Zct et]at this;exact this
   |false=>refine bx ⟨_,Z,s3.trans s4,?_⟩;rw[et,hno,eh];rfl
  ·rintro σ H3 ⟨v2,rfl,s3,hno⟩;walk;have:=k H3 (s1.trans s3);rw[<-Paired.length sr,gT]at hno;rw[hno]at this;exact this
inductive Bq(a:cV)(n:Nat)(vs:LV)(H:Hp)(Q:VK)(_:XK):Prop
 |mk (x:ao) (cv:V) (val:dh) (c:PC) (_:vs=[.ref x,cv]) (_:Zcr a H x val) (_:tN val<=17000) (_:fR a H c cv) (_:OkC val c) (_:w9 c<=n) (_:∀H',aS H H'->Q (.bl (jk val c)) H')
inductive GY(a:cV)(n:Nat)(f:dh->List PC->Bool)(vs:LV)(H:Hp)(Q:VK)(_:XK):Prop
 |mk (x q:ao) (ys:LV) (val:dh) (l:List PC) (_:vs=[.ref x,.ref q]) (_:Zcr a H x val) (_:tN val<=17000) (_:H q=some (.bz ys)) (_:iK a H l ys) (_:Xe val l) (_:mj l<=n) (_:∀H',aS H H'->Q (.bl (f val l)) H')
theorem ZaK(val:dh):∀l:List PC,Qw val l=l.all fun c=>jk val c
 |[]=>by rw[Qw];rfl
 |c::r=>by rw[Qw,ZaK val r];rfl
theorem Xf(val:dh):∀l:List PC,DA val l=l.any fun c=>jk val c
 |[]=>by rw[DA];rfl
 |c::r=>by rw[DA,Xf val r];rfl
theorem Us(T:il K mg a){n j:Nat}(GH:iW P w K mg base j "holds" uu (Bq a n)):iW P w K mg base (j+1) "holds_all" zl (GY a n Qw):=by
 refine cI T.Kh T.Ww T.Kh.b2 Fv ?_
 ·lk;obtain⟨x,q,ys,val,l,rfl,Hr,hsz,hq,hl,ok,dp,k⟩:=h;have nd:=Fv.nd;refine⟨_,ai (lC iw.never Z (kT (pv 1)) (gW (i:=2) nd) (aq (bK (wt (eX (ba GH hr bh (ag (pv 0) (ag (pv 2) az)) (by rfl) (aC _)))) (aq (aN vm)) aL))) (aq (aN vm)),?_⟩;walk;rw[ZaK]at k;have hp:=iK.p hl;refine⟨_,Z,q,Z,⟨_,ft.of hq⟩,lE (K:=K) (a:=q) (xs:=ys) (fun i σ H3=> ∃v2:Option V,σ=[some (.ref x),some (.ref q),v2]/\aS H H3/\(l.take i).all (fun c=>jk val c)=true) ⟨none,Z,aS.refl H,Z⟩ (fun i σ H3 _ h9=>by obtain⟨_,_,s3,_⟩:=h9;exact ft.of (s3 _ _ hq)) ?_ ?_⟩
  ·rintro i v σ H3 hi ⟨v2,rfl,s3,hyes⟩;walk;obtain⟨c,hc,Vd⟩:=iE hp hi;refine⟨_,Z,_,Z,x,v,val,c,Z,Hr.same s3,hsz,fR.same s3 _ _ Vd,ok.get hc,cc (IA hc) dp,fun H4 s4=> ⟨_,Z,?_⟩⟩;cases eh:jk val c with
   |false=>
    refine bQ ?_;have e:(l.all fun c=>jk val c)=false:=by rw[List.all_eq_false];exact⟨c,bj hc,by rw[eh];exact aK⟩
    have:=k H4 (s3.trans s4);rw[e]at this;exact this
   |true=>refine bx ⟨_,Z,s3.trans s4,?_⟩;rw[i7 hc,List.all_append,hyes,HF,eh];rfl
  ·rintro σ H3 ⟨v2,rfl,s3,hyes⟩;walk;have:=k H3 s3;rw[<-Paired.length hp,gT]at hyes;rw[hyes]at this;exact this
theorem Qy(T:il K mg a){n j:Nat}(GH:iW P w K mg base j "holds" uu (Bq a n)):iW P w K mg base (j+1) "holds_some" wH (GY a n DA):=by
 refine cI T.Gd T.TY T.Gd.b2 Cv ?_
 ·lk;obtain⟨x,q,ys,val,l,rfl,Hr,hsz,hq,hl,ok,dp,k⟩:=h;have nd:=Cv.nd;refine⟨_,ai (lC iw.never Z (kT (pv 1)) (gW (i:=2) nd) (aq (bK (eX (ba GH hr bh (ag (pv 0) (ag (pv 2) az)) (by rfl) (aC _))) (aq (aN vm)) aL))) (aq (aN vm)),?_⟩;walk;rw[Xf]at k;have hp:=iK.p hl;refine⟨_,Z,q,Z,⟨_,ft.of hq⟩,lE (K:=K) (a:=q) (xs:=ys) (fun i σ H3=> ∃v2:Option V,σ=[some (.ref x),some (.ref q),v2]/\aS H H3/\(l.take i).any (fun c=>jk val c)=false) ⟨none,Z,aS.refl H,Z⟩ (fun i σ H3 _ h9=>by obtain⟨_,_,s3,_⟩:=h9;exact ft.of (s3 _ _ hq)) ?_ ?_⟩
  ·rintro i v σ H3 hi ⟨v2,rfl,s3,hno⟩;walk;obtain⟨c,hc,Vd⟩:=iE hp hi;refine⟨_,Z,_,Z,x,v,val,c,Z,Hr.same s3,hsz,fR.same s3 _ _ Vd,ok.get hc,cc (IA hc) dp,fun H4 s4=> ⟨_,Z,?_⟩⟩;cases eh:jk val c with
   |true=>
    refine bQ ?_;have e:(l.any fun c=>jk val c)=true:=by rw[gS];exact⟨c,bj hc,eh⟩
    have:=k H4 (s3.trans s4);rw[e]at this;exact this
   |false=>refine bx ⟨_,Z,s3.trans s4,?_⟩;rw[i7 hc,List.any_append,hno,dD,eh];rfl
  ·rintro σ H3 ⟨v2,rfl,s3,hno⟩;walk;have:=k H3 s3;rw[<-Paired.length hp,gT]at hno;rw[hno]at this;exact this
theorem Zcu(T:il K mg a):iW P w K mg base 3 "holds" uu (Bq a 0):=by
 refine cI T.LO T.Zaw T.LO.b2 VR ?_
 ·lk;obtain⟨x,cv,val,c,rfl,Hr,hsz,Vd,ok,dp,k⟩:=h;refine⟨_,ai (bK (eX (jQ j7 (by rfl) T.jx (by decide +kernel) (ag (pv 1) (ag (tF T.Zc) az)))) (aq (aN (ba (DB T) hr bh (ag (pv 0) (ag (pv 1) az))))) aL) Ba,?_⟩;walk;cases c with
  |comp sg l=>rw[w9]at dp;omega
  |atom p t y=>
  obtain⟨c,dc,pp,xv,rfl,c1,c2,c3⟩:=id Vd;have ty:wu K H (.ref c) (.ref a.kh):= .ins c1 T.Bk T.uz.ha T.uz.hn T.uz.htk T.uz.hm;refine⟨_,Z,_,_,_,_,Z,ty,T.Gr,_,Z,bQ ⟨_,Z,_,Z,x,_,val,p,t,y,Z,Hr,hsz,Vd,ok,?_⟩⟩;rw[jk]at k;exact k
theorem Zcv(T:il K mg a){n j:Nat}(hj:3<=j)(GH:iW P w K mg base j "holds" uu (Bq a n))(GA:iW P w K mg base j "holds_all" zl (GY a n Qw))(GS:iW P w K mg base j "holds_some" wH (GY a n DA)):iW P w K mg base (j+1) "holds" uu (Bq a (n+1)):=by
 refine cI T.LO T.Zaw T.LO.b2 VR ?_
 ·lk;obtain⟨x,cv,val,c,rfl,Hr,hsz,Vd,ok,dp,k⟩:=h;refine⟨_,ai (bK (eX (jQ j7 (by rfl) T.jx (by decide +kernel) (ag (pv 1) (ag (tF T.Zc) az)))) (aq (aN (ba (DB T) hr bh (ag (pv 0) (ag (pv 1) az)) (by rfl) (by omega)))) aL) (ai (bK (bf gP (aI (pv 1) Z) (aP T.Zau) (bw _)) (aq (aN vm)) aL) (ai (bK (bf gP (aI (pv 1) Z) (aP T.Zat) (bw _)) (aq (aN vm)) aL) (ai (bK (bf gP (aI (pv 1) Z) (aP T.CY) (bw _)) (aq (aN (Zjf (ba GH hr bh (ag (pv 0) (ag (iJ fi (aI (pv 1) Z) bL) az)) (by rfl) (aC _))))) aL) (ai (bK (bf gP (aI (pv 1) Z) (aP T.J2) (bw _)) (aq (aN (ba GA hr bh (ag (pv 0) (ag (aI (pv 1) Z) az)) (by rfl) (aC _)))) aL) (aq (aN (ba GS hr bh (ag (pv 0) (ag (aI (pv 1) Z) az)) (by rfl) (aC _)))))))),?_⟩;walk;cases c with
  |atom p t y=>obtain⟨c,dc,pp,xv,rfl,c1,c2,c3⟩:=id Vd;have ty:wu K H (.ref c) (.ref a.kh):= .ins c1 T.Bk T.uz.ha T.uz.hn T.uz.htk T.uz.hm;refine⟨_,Z,_,_,_,_,Z,ty,T.Gr,_,Z,bQ ⟨_,Z,_,Z,x,_,val,p,t,y,Z,Hr,hsz,Vd,ok,?_⟩⟩;rw[jk]at k;exact k
  |comp sg l=>
   obtain⟨c,dc,q,ys,rfl,c1,c2,c3⟩:=id Vd;have ty:wu K H (.ref c) (.ref a.fQ):= .ins c1 T.ju T.uA.ha T.uA.hn T.uA.htk T.uA.hm;rw[jk]at k;rw[w9]at dp;obtain⟨ok1,ok2⟩:=ok;refine⟨_,Z,_,_,_,_,Z,ty,T.Ik,_,Z,bx ⟨_,Z,c,_,dc,_,_,Z,c1,T.ju,T.jT,Z,Z,_,Z,?_⟩⟩;by_cases h84:sg=84
   ·rw[ak h84]at k;rw[show decide (bV sg=V.int 84)=true by rw[h84];rfl];exact bQ (k H (aS.refl H))
   rw[ah h84]at k;rw[show decide (bV sg=V.int 84)=false from pB h84];refine bx ⟨_,Z,c,_,dc,_,_,Z,c1,T.ju,T.jT,Z,Z,_,Z,?_⟩;by_cases h70:sg=70
   ·rw[ak h70]at k;rw[show decide (bV sg=V.int 70)=true by rw[h70];rfl];exact bQ (k H (aS.refl H))
   rw[ah h70]at k;rw[show decide (bV sg=V.int 70)=false from pB h70];refine bx ⟨_,Z,c,_,dc,_,_,Z,c1,T.ju,T.jT,Z,Z,_,Z,?_⟩;by_cases O3:sg=33
   ·rw[ak O3]at k;rw[show decide (bV sg=V.int 33)=true by rw[O3];rfl];cases l with
    |nil=>exact absurd Z (ok1 O3)
    |cons c0 r0=>
    obtain⟨y0,uG,rfl,hy0,_⟩:=c3;rw[Zhv]at k;rw[mj]at dp;refine bQ ⟨_,Z,_,Z,c,_,dc,_,_,Z,c1,T.ju,T.kW,Z,q,_,_,_,Z,Z,ft.of c2,fh (xs:=y0::uG) (j:=0) Z,x,y0,val,c0,Z,Hr,hsz,hy0,ok2.1,by omega,fun H4 s4=> ⟨_,Z,k H4 s4⟩⟩
   rw[ah O3]at k;rw[show decide (bV sg=V.int 33)=false from pB O3];refine bx ⟨_,Z,c,_,dc,_,_,Z,c1,T.ju,T.jT,Z,Z,_,Z,?_⟩;by_cases h38:sg=38
   ·rw[ak h38]at k;rw[show decide (bV sg=V.int 38)=true by rw[h38];rfl];exact bQ ⟨_,Z,_,Z,c,_,dc,_,_,Z,c1,T.ju,T.kW,Z,x,q,ys,val,l,Z,Hr,hsz,c2,c3,ok2,by omega,k⟩
   rw[ah h38]at k;rw[show decide (bV sg=V.int 38)=false from pB h38];exact bx ⟨_,Z,_,Z,c,_,dc,_,_,Z,c1,T.ju,T.kW,Z,x,q,ys,val,l,Z,Hr,hsz,c2,c3,ok2,by omega,k⟩
theorem Xg(T:il K mg a):∀n,iW P w K mg base (2*n+3) "holds" uu (Bq a n)
 |0=>Zcu T
 |n+1=>by have IH:=Xg T n;exact Zcv T (j:=2*n+3+1) (by omega) (IH.m8 (by omega)) (Us T IH) (Qy T IH)
end
theorem Zcw{p:LN}{l:cN}{t s:LN}{c:PC}(h:AK p l t=some (c,s)):w9 c=0:=by
 have cl:∀{p:LN}{d:Nat}{x:Option gK}{t s:LN}{c:PC},vb (.atom p d x) t=some (c,s)->w9 c=0:=fun{p d x t s c} h=>by
  unfold vb at h;split at h
  ·have e:PC.atom p d x=c:=aA bU (af h);rw[<-e,w9]
  ·cases h
 unfold AK at h;split at h
 ·cases h
 ·split at h
  ·exact cl h
  ·split at h
   ·cases h
   ·split at h
    ·cases h
    ·exact cl h
theorem Zcx{cs:List Dx}{t s:LN}{c:PC}(h:xY cs t=some (c,s)):w9 c=0:=by
 unfold xY at h;split at h
 ·cases h
 ·split at h
  ·cases h
  ·exact Zcw h
theorem RP:∀(l m:List PC),mj (l++m)=max (mj l) (mj m)
 |[],m=>by simp[mj]
 |c::l,m=>by rw[cw,mj,mj,RP l m,Nat.max_assoc]
theorem DC{one:RC}{n:Nat}(hp:∀t c s,one t=some (c,s)->w9 c<=n):∀{f:Nat}{bI l:List PC}{t s:LN},mj bI<=n->gc one f bI t=some (l,s)->mj l<=n
 |0,_,_,_,_,_,h=>by cases h
 |f+1,bI,l,t,s,ha,h=>by
  unfold gc at h;split at h
  ·split at h
   ·cases h
   ·rename_i c u e;refine DC hp ?_ h;rw[RP,mj,mj];have:=hp _ _ _ e;omega
  ·have e:bI=l:=aA bU (af h);rw[<-e];exact ha
theorem Br(cs:List Dx):∀(n:Nat)(t:LN)(c:PC)(s:LN),iM cs n t=some (c,s)->w9 c<=n
 |0,t,c,s,h=>by cases h
 |n+1,[],c,s,h=>by cases h
 |n+1,d::r,c,s,h=>by
  rw[iM]at h;split at h
  ·rw[Zcx h];omega
  ·split at h
   ·have e:PC.comp d []=c:=aA bU (af h);rw[<-e,w9,mj];omega
   ·split at h
    ·cases e:iM cs n r with
     |none=>rw[e]at h;cases h
     |some x=>rw[e]at h;have e2:PC.comp d [x.1]=c:=aA bU (af h);have:=Br cs n _ _ _ e;rw[<-e2,w9,mj,mj];omega
    ·split at h
     ·cases e:pA (iM cs n) r with
      |none=>rw[e]at h;cases h
      |some x=>
       rw[e]at h;have e2:PC.comp d x.1=c:=aA bU (af h);rw[<-e2,w9];refine Pa ?_;unfold pA at e;split at e
       ·split at e
        ·cases e
        ·rename_i c1 u e1;split at e
         ·cases e
         ·rename_i l u' e3;split at e
          ·have e4:l=x.1:=aA bU (af e);rw[<-e4];refine DC (Br cs n) ?_ e3;rw[mj,mj];have:=Br cs n _ _ _ e1;omega
          ·cases e
       ·cases e
     ·cases h
theorem AN{cs:List Dx}{t:LN}{c:PC}(h:gC cs t=some c):w9 c<=21:=by
 unfold gC at h;split at h
 ·cases h
 ·split at h
  ·cases h
  ·rename_i c' s e;split at h
   ·rw[<-af h];exact Br cs 21 _ _ _ e
   ·cases h
structure cX where
 num:Nat
 eV:List Int
 text:LN
noncomputable def Ym(n:Nat):Nat:=[0,0,1,2,1,2,2,2,1,1,2,1,0,1,1].getD n 0
noncomputable def IB(n:Nat):Bool:=[true,false,true,false,true,true,false,false,false,false,false,false,false,false,false].getD n false
def cX.ok(c:cX):Prop:=c.num<15/\c.eV.length=Ym c.num/\(IB c.num=false->c.text=[])/\c.text.length<=17000
def fX(c:cX):LV:=bV c.num::(c.eV.map V.int++(if IB c.num=true then bV c.text.length::iz c.text else []))
inductive pC(a:cV)(H:Hp)(i:Nat)(c:cX)(v:V):Prop
 |mk (y:_) (dy:_) (q:_) (t:_) (_:v= .ref y) (_:H y=some (.ins a.kN dy (pY.zip [bV i,bV c.num,.ref q,.ref t]))) (_:H q=some (.bz (c.eV.map V.int))) (_:H t=some (.bz (iz c.text)))
theorem pC.same{a:cV}{H H':Hp}{i:Nat}{c:cX}{v:V}(h:pC a H i c v)(s:aS H H'):pC a H' i c v:=by obtain⟨y,dy,q,t,e,h1,h2,h3⟩:=h;exact⟨y,dy,q,t,e,s _ _ h1,s _ _ h2,s _ _ h3⟩
def mB:Nat->List cX->List (Nat×cX)
 |_,[]=>[]
 |i,c::r=> (i,c)::mB (i+(fX c).length) r
theorem Kx:∀(i:Nat)(l:List cX)(c:cX),mB i (l++[c])=mB i l++[(i+(l.flatMap fX).length,c)]
 |i,[],c=>rfl
 |i,x::l,c=>by rw[cw,mB,Kx,mB,dM,aX,cw,x9]
theorem En:∀(i:Nat)(l:List cX),(mB i l).length=l.length
 |_,[]=>rfl
 |i,_::l=>by rw[mB,bg,bg,En]
theorem ZaL(u v w:LV):K0 (u++(v++w)) (some ((u.length:Nat):Int)) (some ((u.length+v.length:Nat):Int))=v:=by unfold K0;rw[HT.Bb,HT.Bb,lz (by simp),lz (by simp),Nat.add_sub_cancel_left,EK,List.take_left]
theorem ZeZ(u w:LV)(x:V):atI (u++(x::w)) ((u.length:Nat):Int)=some x:=fh (by rw[UW (aC _),Nat.sub_self];rfl)
theorem ft.same{K:ae}{H H':Hp}{p:ao}{xs:LV}(h:ft K H p xs)(s:aS H H'):ft K H' p xs:=by
 rcases h with h|h
 ·rcases h with h|⟨o,h⟩
  ·exact .inl (.inl (s _ _ h))
  ·exact .inl (.inr ⟨o,s _ _ h⟩)
 ·exact .inr h
theorem qU.same{K:ae}{H H':Hp}{p:ao}{xs:LV}(h:qU K H p xs)(s:aS H H'):qU K H' p xs:=by
 rcases h with h|h
 ·rcases h with h|⟨o,h⟩
  ·exact .inl (.inl (s _ _ h))
  ·exact .inl (.inr ⟨o,s _ _ h⟩)
 ·exact .inr h
section
theorem Zcy(T:il K mg a)(H:Hp){n:Nat}(h:n<15):∃(xs:LV)(b:ao),qU K H a.FP xs/\xs[n]? =some (.ref b)/\qU K H b [bV (Ym n),.bl (IB n)]:=by
 refine⟨_,[a.D1,a.D2,a.D3,a.D4,a.D5,a.D6,a.D7,a.D8,a.D9,a.Ea,a.zO,a.zP,a.zQ,a.zR,a.zS].getD n 0,.inr T.ZbS,?_,?_⟩
 ·match n,h with
  |0,_=>rfl
  |1,_=>rfl
  |2,_=>rfl
  |3,_=>rfl
  |4,_=>rfl
  |5,_=>rfl
  |6,_=>rfl
  |7,_=>rfl
  |8,_=>rfl
  |9,_=>rfl
  |10,_=>rfl
  |11,_=>rfl
  |12,_=>rfl
  |13,_=>rfl
  |14,_=>rfl
 ·match n,h with
  |0,_=>exact .inr T.Wb
  |1,_=>exact .inr T.Wc
  |2,_=>exact .inr T.We
  |3,_=>exact .inr T.Wg
  |4,_=>exact .inr T.Wh
  |5,_=>exact .inr T.Wi
  |6,_=>exact .inr T.Wj
  |7,_=>exact .inr T.Wk
  |8,_=>exact .inr T.Wl
  |9,_=>exact .inr T.Wm
  |10,_=>exact .inr T.TC
  |11,_=>exact .inr T.TF
  |12,_=>exact .inr T.TH
  |13,_=>exact .inr T.TJ
  |14,_=>exact .inr T.TK
inductive Zhy(K:ae)(a:cV)(vs:LV)(H:Hp)(Q:VK)(_:XK):Prop
 |mk (p:ao) (cs:List cX) (_:vs=[.ref p]) (_:ft K H p (cs.flatMap fX)) (_:(∀c∈cs,c.ok)) (_:cs.length<=400) (_:∀q ys H',aS H H'->cu H H' q=some (.bz ys)->Paired (fun c v=>pC a (cu H H') c.1 c.2 v) (mB 0 cs) ys->Q (.ref q) H')
theorem NW(T:il K mg a):iW P w K mg base 3 "split_calls" Ck (Zhy K a):=by
 refine cI T.CW T.P6 T.CW.b1 yY ?_
 ·lk;obtain⟨p,cs,rfl,hp,fN,ZnW,k⟩:=h;have nd:=yY.nd;refine⟨_,ai (bq (i:=1) nd (dO az)) (ai (bq (i:=2) nd (bL)) (ai (qc iw.never (bf Jl (pv 2) (rZ T (pv 0)) (bw _)) (ai (bq (i:=3) nd (iJ fi (pv 0) (pv 2))) (ai (bq (i:=4) nd (iJ Mr (tF T.Zej) (pv 3))) (ai (bq (i:=5) nd (iu kM (iu kM (pv 2) bL) (iJ Mr (pv 4) bL))) (ai (bq (i:=6) nd (pv 5)) (ai (bq (i:=7) nd (dO az)) (ai (bK (eX (iJ Mr (pv 4) bL)) (ai (bq (i:=6) nd (iu kM (iu kM (pv 5) bL) (iJ fi (pv 0) (pv 5)))) (aq (bq (i:=7) nd (vp Bc (pv 0) (pO (iu kM (pv 5) bL)) (pO (pv 6)))))) (aL)) (ai (dm (ui b9 cA cB jq (pv 1) (ag (ie (Ub T) hr bh (ag (pv 2) (ag (pv 3) (ag (vp Bc (pv 0) (pO (iu kM (pv 2) bL)) (pO (pv 5))) (ag (pv 7) az))))) az))) (aq (bq (i:=2) nd (pv 6))))))))))) (aq (aN (pv 1))))),?_⟩;walk;refine⟨(mr 0),fun qf hqf=>?_⟩;have sf:=aS.dW (o:=(.bz [])) (aS.refl H) hqf;have ef:= @au H qf (.bz []);have npf:∀(G:Hp)(o:HO),aS H G->aS H (bp G qf o):=fun G o sG b u e=>by rw[aF (aR e hqf)];exact sG b u e
  have hR:∀b,H b=none->b≠qf->(bp H qf (.bz [])) b=none:=fun b e z=>by rw[aF z];exact e
  have L5:∀(G:Hp)(o:HO),cu (bp H qf (.bz [])) (bp G qf o)=cu (bp H qf (.bz [])) G:=fun G o=>by
   funext b;by_cases z:b=qf
   ·subst z;unfold cu;rw[au]
   ·unfold cu;rw[aF z,aF z]
  have U7:∀b,(bp H qf (.bz [])) b=none->H b=none:=fun b e=>by
   by_cases z:b=qf
   ·rw[z];exact hqf
   ·rw[aF z]at e;exact e
  generalize hRR:bp H qf (.bz [])=R at hR L5 U7 sf ef
  let L:=cs.flatMap fX
  refine⟨fun m σ H3=> ∃(i:Nat)(v3 v4 v5 v6 v7:Option V)(ys:LV),σ=[some (.ref p),some (.ref qf),some (bV ((cs.take i).flatMap fX).length),v3,v4,v5,v6,v7]/\i<=cs.length/\m=cs.length-i/\aS H H3/\H3 qf=some (.bz ys)/\Paired (fun c v=>pC a (cu R H3) c.1 c.2 v) (mB 0 (cs.take i)) ys,⟨_,0,none,none,none,none,none,[],Z,bB _,Z,sf,ef,.nil⟩,?_⟩;rintro m σ H3 ⟨i,v3,v4,v5,v6,v7,ys,rfl,hi,rfl,s3,mE,sr⟩;walk;have hp3:=ft.same hp s3;refine⟨_,Z,_,Z,p,_,Z,.inl hp3,_,_,Z,Z,_,Z,?_⟩;have split:cs.flatMap fX=(cs.take i).flatMap fX++(cs.drop i).flatMap fX:=by rw[<-ka,BS]
  by_cases qR:i<cs.length;rotate_left
  ·have e:i=cs.length:=by omega
   subst e;rw[gT]at sr⊢;rw[ay (by omega)];refine bx ⟨_,Z,k qf ys H3 s3 (by rw[cu.at hqf];exact mE) (Paired.wm sr fun c v h=>h.same (cu.left U7))⟩
  obtain⟨c,hc⟩:∃c,cs[i]? =some c:=⟨cs[i],by simp[qR]⟩;obtain⟨c1,c2,c3,c4⟩:=fN c (bj hc);have EB:((cs.take (i+1)).flatMap fX).length=((cs.take i).flatMap fX).length+(fX c).length:=by rw[i7 hc,ka,aX,dM,OY,cJ]
  rw[og hc,dM]at split;have Hw:=Paired.length sr;rw[En,gR]at Hw;have ZnX:mB 0 (cs.take (i+1))=mB 0 (cs.take i)++[(((cs.take i).flatMap fX).length,c)]:=by rw[i7 hc,Kx,k9]
  generalize (cs.take i).flatMap fX=pre at split EB ZnX;generalize (cs.drop (i+1)).flatMap fX=post at split;rw[split]at hp3;rw[split];unfold fX at hp3;have hL:pre.length< (pre++(fX c++post)).length:=by unfold fX;simp
  rw[aD (by omega:((pre.length:Nat):Int)< (((pre++(fX c++post)).length:Nat):Int))];obtain⟨xs,b,l1,l2,l3⟩:=Zcy T H3 c1;have d1:pre++((bV c.num::(c.eV.map V.int++(if IB c.num=true then bV c.text.length::iz c.text else [])))++post)=(pre++[bV c.num])++(c.eV.map V.int++((if IB c.num=true then bV c.text.length::iz c.text else [])++post)):=by simp
  have a1:=ZeZ pre ((c.eV.map V.int++(if IB c.num=true then bV c.text.length::iz c.text else []))++post) (bV c.num);refine bQ ⟨fun σ' H'=> ∃(i':Nat)(v3 v4 v5 v6 v7:Option V)(ys:LV),σ'=[some (.ref p),some (.ref qf),some (bV ((cs.take i').flatMap fX).length),v3,v4,v5,v6,v7]/\i'<=cs.length/\i'=i+1/\aS H H'/\H' qf=some (.bz ys)/\Paired (fun c v=>pC a (cu R H') c.1 c.2 v) (mB 0 (cs.take i')) ys,fun σ' H' h9=>by obtain⟨i',w3,w4,w5,w6,w7,zs,h1,h2,h3,h4⟩:=h9;exact⟨cs.length-i',by omega,i',w3,w4,w5,w6,w7,zs,h1,h2,Z,h4⟩,?_⟩;walk;refine⟨_,Z,_,Z,p,_,_,_,Z,Z,hp3,a1,?_⟩;refine⟨_,Z,a.FP,xs,_,_,Z,Z,l1,fh l2,?_⟩;refine⟨_,Z,_,_,Z,Z,_,Z,b,_,_,_,Z,Z,l3,fh (j:=0) Z,_,_,Z,Z,?_⟩;have en:((pre.length:Nat):Int)+1+((Ym c.num:Nat):Int)=(((pre++[bV c.num]).length+(c.eV.map V.int).length:Nat):Int):=by simp;omega
  have ep:((pre.length:Nat):Int)+1=(((pre++[bV c.num]).length:Nat):Int):=by simp
  rw[show V.int (((pre.length:Nat):Int)+1+((Ym c.num:Nat):Int))=V.int (((pre++[bV c.num]).length+(c.eV.map V.int).length:Nat):Int)from aA V.int en];refine⟨_,Z,(mr 0),fun q7 hq7=>?_⟩;rw[d1]at hp3;have s7:=aS.dW (o:=(.bz [])) (aS.refl H3) hq7;have e7:= @au H3 q7 (.bz []);generalize bp H3 q7 (.bz [])=H7 at s7 e7;have s07:=s3.trans s7;have n7:H q7=none:=s3.free hq7;have z7:q7≠qf:=fun z=>by rw[z,mE]at hq7;cases hq7
  have m1:=ZaL (pre++[bV c.num]) (c.eV.map V.int) ((if IB c.num=true then bV c.text.length::iz c.text else [])++post);have tS:∀(H8:Hp)(q8 q6:ao)(y dy:ao),aS H7 H8->cu R H8 q8=some (.bz (iz c.text))->H8 q6=none->(bp H8 q6 (.bz (c.eV.map V.int))) y=none->(bp H8 q6 (.bz (c.eV.map V.int))) dy=none->pC a (cu R (bp (bp (bp H8 q6 (.bz (c.eV.map V.int))) dy (.own y)) y (.ins a.kN dy (pY.zip ([bV pre.length,bV c.num,.ref q6,.ref q8]++[]))))) pre.length c (.ref y)/\aS H3 (bp (bp (bp H8 q6 (.bz (c.eV.map V.int))) dy (.own y)) y (.ins a.kN dy (pY.zip ([bV pre.length,bV c.num,.ref q6,.ref q8]++[])))):=by
   intro H8 q8 q6 y dy s8 h8 U9 ny Sl;have s6:=aS.dW (o:=(.bz (c.eV.map V.int))) (aS.refl H8) U9;have e6:= @au H8 q6 (.bz (c.eV.map V.int));generalize bp H8 q6 (.bz (c.eV.map V.int))=H6 at s6 e6 ny Sl⊢;have s9:aS H6 (bp (bp H6 dy (.own y)) y (.ins a.kN dy (pY.zip ([bV pre.length,bV c.num,.ref q6,.ref q8]++[])))):=kX ny Sl;have e9:(bp (bp H6 dy (.own y)) y (.ins a.kN dy (pY.zip ([bV pre.length,bV c.num,.ref q6,.ref q8]++[])))) y=some (.ins a.kN dy (pY.zip [bV pre.length,bV c.num,.ref q6,.ref q8])):=au;generalize bp (bp H6 dy (.own y)) y (.ins a.kN dy (pY.zip ([bV pre.length,bV c.num,.ref q6,.ref q8]++[])))=H9 at s9 e9⊢;have zy:y≠qf:=fun z=>by rw[z,s6 _ _ (s8 _ _ (s7 _ _ mE))]at ny;cases ny
   have z6:q6≠qf:=fun z=>by rw[z,s8 _ _ (s7 _ _ mE)]at U9;cases U9
   refine⟨⟨y,dy,q6,q8,Z,?_,?_,cu.same (s6.trans s9) _ _ h8⟩,((s7.trans s8).trans s6).trans s9⟩
   ·rw[cu.at (hR _ (((s07.trans s8).trans s6).free ny) zy)];exact e9
   ·rw[cu.at (hR _ ((s07.trans s8).free U9) z6)];exact s9 _ _ e6
  have step:∀(H9:Hp)(y:ao),pC a (cu R H9) pre.length c (.ref y)->aS H3 H9->H9 qf=some (.bz ys)/\aS H (bp H9 qf (.bz (ys++[.ref y])))/\Paired (fun c v=>pC a (cu R (bp H9 qf (.bz (ys++[.ref y])))) c.1 c.2 v) (mB 0 (cs.take (i+1))) (ys++[.ref y]):=by intro H9 y hcy s9;refine⟨s9 _ _ mE,npf _ _ (s3.trans s9),?_⟩;rw[L5,ZnX];exact i8 (F:=fun(c:Nat×cX) v=>pC a (cu R H9) c.1 c.2 v) (x:=(pre.length,c)) hcy (Paired.wm sr fun c v h=>h.same (cu.same s9))
  have h17:ys.length<=17000:=by omega
  refine⟨_,Z,b,_,_,_,Z,Z,qU.same l3 s7,fh (j:=1) Z,_,Z,?_⟩;cases ht:IB c.num with
  |false=>
   have hl:(fX c).length=1+c.eV.length:=by unfold fX;rw[ht];simp;omega
   have et:=c3 ht;have hp7:=ft.same hp3 s7;refine bx ⟨_,Z,.inl ⟨Z,_,ft.of (s7 _ _ mE)⟩,_,Z,_,Z,_,Z,_,Z,_,_,Z,Z,_,Z,_,Z,_,Z,p,_,Z,hp7,fun q6 U9=>?_⟩;rw[ep,m1];refine⟨_,Z,fun y dy ny Sl ney=> ⟨y,dy,_,Z,Z,au,Z,?_⟩⟩;rw[fC];obtain⟨f1,f2⟩:=tS H7 q7 q6 y dy (aS.refl H7) (by rw[cu.at (hR _ n7 z7),et];exact e7) U9 ny Sl;generalize bp (bp (bp H7 q6 (.bz (c.eV.map V.int))) dy (.own y)) y (.ins a.kN dy (pY.zip ([bV pre.length,bV c.num,.ref q6,.ref q7]++[])))=H9 at f1 f2⊢;obtain⟨g1,g2,g3⟩:=step H9 y f1 f2;refine⟨qf,_,_,Z,Z,g1,mM h17,_,Z,i+1,some (bV c.num),some (.ref b),some (V.int (((pre++[bV c.num]).length+(c.eV.map V.int).length:Nat):Int)),some (V.int (((pre++[bV c.num]).length+(c.eV.map V.int).length:Nat):Int)),some (.ref q7),ys++[.ref y],?_,qR,Z,g2,au,g3⟩;have EB:=EB;rw[hl]at EB;have ee:((pre++[bV c.num]).length+(c.eV.map V.int).length:Nat)=pre.length+(1+c.eV.length):=by simp;omega
   rw[<-ee]at EB;rw[EB];rfl
  |true=>
   have hl:(fX c).length=1+c.eV.length+1+c.text.length:=by unfold fX;rw[ht,ak Z];simp[eA];omega
   rw[ht,ak Z]at hp3 m1;have d2:(pre++[bV c.num])++(c.eV.map V.int++((bV c.text.length::iz c.text)++post))=((pre++[bV c.num])++c.eV.map V.int)++(bV c.text.length::(iz c.text++post)):=by simp
   have d3:(pre++[bV c.num])++(c.eV.map V.int++((bV c.text.length::iz c.text)++post))=((pre++[bV c.num])++(c.eV.map V.int++[bV c.text.length]))++(iz c.text++post):=by simp
   have a2:=ZeZ ((pre++[bV c.num])++c.eV.map V.int) (iz c.text++post) (bV c.text.length);rw[<-d2,aX]at a2;have m2:=ZaL ((pre++[bV c.num])++(c.eV.map V.int++[bV c.text.length])) (iz c.text) post;rw[<-d3]at m2;have hp7:=ft.same hp3 s7;refine bQ ⟨_,Z,_,_,Z,Z,_,Z,_,Z,p,_,_,_,Z,Z,hp7,a2,_,_,Z,Z,?_⟩;have e1:(((pre++[bV c.num]).length+(c.eV.map V.int).length:Nat):Int)+1=((((pre++[bV c.num])++(c.eV.map V.int++[bV c.text.length])).length:Nat):Int):=by simp;omega
   rw[show V.int ((((pre++[bV c.num]).length+(c.eV.map V.int).length:Nat):Int)+1+((c.text.length:Nat):Int))=V.int (((((pre++[bV c.num])++(c.eV.map V.int++[bV c.text.length])).length+(iz c.text).length:Nat)):Int) by show V.int _=V.int _;rw[e1,eA];rfl];refine⟨_,Z,_,Z,_,_,Z,Z,_,Z,_,Z,_,Z,p,_,Z,hp7,fun q8 hq8=>?_⟩;rw[e1,m2];have s8:=aS.dW (o:=(.bz (iz c.text))) (aS.refl H7) hq8;have e8:= @au H7 q8 (.bz (iz c.text));generalize bp H7 q8 (.bz (iz c.text))=H8 at s8 e8;have z8:q8≠qf:=fun z=>by rw[z,s7 _ _ mE]at hq8;cases hq8
   have hp8:=ft.same hp7 s8;refine⟨_,Z,.inl ⟨Z,_,ft.of (s8 _ _ (s7 _ _ mE))⟩,_,Z,_,Z,_,Z,_,Z,_,_,Z,Z,_,Z,_,Z,_,Z,p,_,Z,hp8,fun q6 U9=>?_⟩;rw[ep,m1];refine⟨_,Z,fun y dy ny Sl ney=> ⟨y,dy,_,Z,Z,au,Z,?_⟩⟩;rw[fC];obtain⟨f1,f2⟩:=tS H8 q8 q6 y dy s8 (by rw[cu.at (hR _ (s07.free hq8) z8)];exact e8) U9 ny Sl;generalize bp (bp (bp H8 q6 (.bz (c.eV.map V.int))) dy (.own y)) y (.ins a.kN dy (pY.zip ([bV pre.length,bV c.num,.ref q6,.ref q8]++[])))=H9 at f1 f2⊢;obtain⟨g1,g2,g3⟩:=step H9 y f1 f2;refine⟨qf,_,_,Z,Z,g1,mM h17,_,Z,i+1,some (bV c.num),some (.ref b),some (V.int (((pre++[bV c.num]).length+(c.eV.map V.int).length:Nat):Int)),some (V.int (((((pre++[bV c.num])++(c.eV.map V.int++[bV c.text.length])).length+(iz c.text).length:Nat)):Int)),some (.ref q8),ys++[.ref y],?_,qR,Z,g2,au,g3⟩;have EB:=EB;rw[hl]at EB;have ee:(((pre++[bV c.num])++(c.eV.map V.int++[bV c.text.length])).length+(iz c.text).length:Nat)=pre.length+(1+c.eV.length+1+c.text.length):=by simp[eA];omega
   rw[<-ee]at EB;rw[EB];rfl
end
end MW
namespace L2
open PySem PySem.Spec PyProof.Rows
theorem GZ{P:aV}{w:bG}:∀{ns:List Int}{vs:List (i5×aj)}{bI:List aj},vs.map (·.1)=ns.map aQ->bI.length=vs.length->(∀(j:Nat)(v:aj),bI[j]? =some v->∃k x,vs[j]? =some (k,x)/\(jN P w).is k v=true)->lT bI ns
 |[],[],[],_,_,_=> .nil
 |[],[],_::_,_,h,_=>by cases h
 |[],_::_,_,h,_,_=>by cases h
 |_::_,[],_,h,_,_=>by cases h
 |_::_,_::_,[],_,h,_=>by cases h
 |n::ns,q::vs,a::bI,h1,h2,h3=>by
  rw[aY,aY]at h1;injection h1 with e1 e2;obtain⟨k,x,e,hk⟩:=h3 0 a Z;have e:q=(k,x):=af e;rw[e]at e1;have e1:k=aQ n:=e1;subst e1;have hk:aj.isInt n a=true:=hk;obtain⟨t,rfl⟩:∃t,a= .int n t:=by cases a<;>simp[aj.isInt]at hk;exact⟨_,by rw[hk]⟩
  exact .cons n t (GZ e2 (by simpa using h2) fun j v hj=>by have:=h3 (j+1) v (by simpa using hj);simpa using this)
section
variable{K:ae}{X:Cx K}
inductive Ze0(vs:LV)(H:Hp)(Q:VK):Prop
 |mk (a:ao) (br:List (i5×V)) (ns:List Int) (_:vs=[V.ref a]) (_:H a=some (.dK br)) (_:br.map (·.1)=ns.map aQ) (_:∀(ns':List Int)(p:ao),ns'.Perm ns->ns'.Pairwise (·<=·)->H p=none->Q (.ref p) (bp H p (.bz (ns'.map V.int))))
theorem NX(hh:X.A.handled=none):EW X (.builtin "sorted") Ze0:=by
 intro aw s σ H vs us Q I r h;obtain⟨a,br,ns,rfl,ha,hk,q⟩:=h;rw[fA.Zl3 r];obtain⟨z,hd,xs,oI,dd⟩:=Zd0 I.fN ha;have jL:br.length=xs.length:=Paired.length oI;have hkx:xs.map (·.1)=ns.map aQ:=by
  rw[<-hk];clear hk ha z jL dd;induction oI with
  |nil=>rfl
  |cons p t ih=>rw[aY,aY,ih,p.1]
 obtain⟨ep,hat⟩:=dd.dictAt;have hn:ns.length=br.length:=by have:=aA oC hk;simpa using this.symm
 refine Calls.call_function_entry kind_sorted plain_sorted entry_sorted (args_sorted1 _) ?_;unfold Builtin.«sorted»;refine bA (m:=checkCount "sorted" 1 1 _) (dG ?_);refine bA (PySem.W.kdu_collect (A:=X.A.in1) (PySem.W.kdl_dict (knd:=jN X.prog X.w) («kvs»:=xs) (ep:=ep) hd) hh hat (by rw[<-jL];exact z) fun h' tk bI keep Ya=>?_);have hI:lT bI.toList ns:=GZ (P:=X.prog) (w:=X.w) hkx (by rw[eJ];exact Ya.1) fun j v e=>Ya.2 j v (by rw[<-Array.getElem?_toList];exact e);have hl:bI.toList.length<=sizeLine:=by rw[eJ,Ya.1,<-jL];exact z
 refine bA (wpAny_newList ?_ hl);have hoL:(h'.push (seqObj "list" bI.toList.toArray 0)).get? h'.objs.size=some (seqObj "list" bI.toList.toArray 0):=bb.get?_push_size _ Z;refine bA (wpAny_holding (wpAny_call_entry slot_list_sort ⟨_,hoL,Z⟩ entry_list_sort (list_sort_treeAny hoL hI hl fun out ns' a1 a2 a3=> ⟨_,Z,?_⟩) (args_list_sort _)));refine dG ⟨_,Z,?_⟩;have I1:cM X aw σ H {s with heap:=h',toks:=tk}:=I.mm keep;obtain⟨ep',he'⟩:=sortedHeap_at (vs:=bI.toList) (out:=out) hoL;have ZnZ:(ns'.map V.int).length<=sizeLine:=by rw[aZ,a2.length_eq,hn];exact z
 refine⟨.ref _,bp H h'.objs.size (.bz (ns'.map V.int)),I1.dW (t':=tk) (fun b o hb=>?_) (aC _) ⟨ZnZ,out.toList,ep',EZ a1,he'⟩,Z,q ns' _ a2 a3 (I1.fN.gE (aC _))⟩;have qR:b<h'.objs.size:=bb.lt_size hb;rw[sortedHeap_old (dU qR) (bb.lt_size (bb.get?_push_of_some _ hb)),bb.get?_push_of_some _ hb]
theorem Xh:EW X (.type "dict") (fun xs H Q=> ∃a br,xs=[V.ref a]/\H a=some (.dK br)/\∀p,H p=none->Q (.ref p) (bp H p (.dK br))):=by intro aw s σ H xs us Q I r h;obtain⟨a,br,rfl,ha,q⟩:=h;rw[fA.Zl3 r];exact Zd5 I (.inl ha) fun p s' hp I'=> ⟨.ref p,_,I',Z,q p hp⟩
end
end L2
namespace MW
open PySem PySem.Spec PyProof.Rows L2
variable{P:aV}{w:bG}{K:ae}{mg:SV}{base:bb}{a:cV}
abbrev ym:=LN×dh
abbrev bN:=List (Int×ym)
def oi(rs:bN)(n:Int):Option ym:=(rs.find? fun x=>decide (x.1=n)).map (·.2)
def xb(rs:bN)(n:Int)(r:ym):bN:=if(rs.any fun x=>decide (x.1=n))=true then rs.map (fun x=>if x.1=n then(x.1,r)else x)else rs++[(n,r)]
def rO(rs:bN)(n:Int):bN:=rs.filter fun x=>decide (x.1≠n)
theorem IC{m n:Int}:(aQ m:i5)=aQ n↔m=n:=⟨fun z=>aQ.inj z,fun z=>by rw[z]⟩
inductive dk where
 |put (n:Int) (r:ym)
 |look (n:Int)
 |ask (c:PC)
 |replace (n:Int) (r:ym)
 |drop (n:Int)
noncomputable def nE:dk->Nat
 | .put _ _=>2
 | .look _=>3
 | .ask _=>4
 | .replace _ _=>5
 | .drop _=>6
noncomputable def Xi:dk->V
 | .put n _=> .int n
 | .look n=> .int n
 | .ask _=> .ik
 | .replace n _=> .int n
 | .drop n=> .int n
def mC(rs:bN)(n:Int):Bool:=(oi rs n).isSome
def mD(rs:bN):dk->bN
 | .put n r=>xb rs n r
 | .look _=>rs
 | .ask _=>rs
 | .replace n r=>if mC rs n=true then xb rs n r else rs
 | .drop n=>if mC rs n=true then rO rs n else rs
noncomputable def NY(l:List Int):List Int:=l.mergeSort fun a b=>decide (a<=b)
theorem NZ:∀{l m:List Int},l.Perm m->l.Pairwise (·<=·)->m.Pairwise (·<=·)->l=m
 |[],m,h,_,_=>by rw[List.nil_perm.mp h]
 |x::l,[],h,_,_=>absurd (List.perm_nil.mp h) (by simp)
 |x::l,y::m,h,h1,h2=>by
  obtain⟨a1,a2⟩:=kR.mp h1;obtain⟨b1,b2⟩:=kR.mp h2;have e:x=y:=by
   have hx:x∈y::m:=h.mem_iff.mp aM;have hy:y∈x::l:=h.mem_iff.mpr aM;rcases aU.mp hx with z|z
   ·exact z
   ·rcases aU.mp hy with u|u
    ·exact u.symm
    ·exact Int.le_antisymm (a1 _ u) (b1 _ z)
  subst e;rw[NZ (List.Perm.cons_inv h) a2 b2]
theorem N0{l m:List Int}(h:m.Perm l)(h2:m.Pairwise (·<=·)):m=NY l:=by refine NZ (h.trans (List.mergeSort_perm l _).symm) h2 ?_;have:=List.pairwise_mergeSort (le:=fun a b:Int=>decide (a<=b)) (fun a b c h1 h2=>by simp at h1 h2⊢;omega) (fun a b=>by simp;omega) l;exact this.imp fun h=>by simpa using h
def AO(rs:bN)(c:PC)(n:Int):Bool:=match oi rs n with
 |some r=>jk r.2 c
 |none=>false
def AQ(rs:bN)(c:PC):List Int:=(NY (rs.map (·.1))).filter (AO rs c)
def jE(rs:bN):dk->List Int
 | .put n _=>[n]
 | .look n=>match oi rs n with
  |some r=> (r.1.length:Int)::r.1.map fun b:Nat=> (b:Int)
  |none=>[0]
 | .ask c=> ((AQ rs c).length:Int)::AQ rs c
 | .replace n _=>if mC rs n=true then [1]else [0]
 | .drop n=>if mC rs n=true then [1]else [0]
def Ze1(rs:bN)(c:PC):Prop:=∀r∈rs,OkC r.2.2 c/\tN r.2.2<=17000
theorem oj{rs:bN}{n:Int}{r:ym}(h:oi rs n=some r):(n,r)∈rs:=by
 unfold oi at h;cases e:rs.find? fun x=>decide (x.1=n)with
 |none=>rw[e]at h;cases h
 |some y=>
  rw[e]at h;have e2:y.2=r:=af h;have e3:=lj e;have e4:y.1=n:=by simpa using e3
  rw[<-e2,<-e4];exact f9 e
theorem Ky{rs:bN}{n:Int}(h:n∈rs.map (·.1)):∃r,oi rs n=some r:=by
 obtain⟨x,hx,e⟩:=bE.mp h;unfold oi;cases e2:rs.find? fun x=>decide (x.1=n)with
 |some y=>exact⟨_,Z⟩
 |none=>have:=vg.mp e2 x hx;exact absurd e (by simpa using this)
theorem ID{p:Int->Bool}{l:List Int}{i:Nat}{x:Int}(h:l[i]? =some x):(l.take (i+1)).filter p=(l.take i).filter p++(if p x=true then [x]else []):=by rw[i7 h,List.filter_append];congr 1;cases e:p x<;>simp[e]
def OkD(rs:bN):dk->Prop
 | .ask c=>Ze1 rs c/\w9 c<=21
 |_=>True
def jX(fs:Zvn)(c:cX)(next:Int):Option dk:=if c.num=2 then(mP fs c.text).map fun v=> .put next (c.text,v)else if c.num=4 then(gC (dP fs) c.text).map .ask else if c.num=5 then(mP fs c.text).map fun v=> .replace (c.eV.getD 1 0) (c.text,v)else if c.num=3 then some (.look (c.eV.getD 1 0))else some (.drop (c.eV.getD 1 0))
structure Fr where
 G:Hp
 L:ao->Option dh
 Zvl:List (Int×PC)
structure Le(F F':Fr):Prop where
 gs:aS F.G F'.G
 ls:∀b v,F.L b=some v->F'.L b=some v
 am:∀p c,F.Zvl.lookup p=some c->F'.Zvl.lookup p=some c
theorem Le.refl(F:Fr):Le F F:=⟨aS.refl _,fun _ _ h=>h,fun _ _ h=>h⟩
theorem Le.trans{A B C:Fr}(h:Le A B)(k:Le B C):Le A C:=⟨h.gs.trans k.gs,fun b v e=>k.ls b v (h.ls b v e),fun p c e=>k.am p c (h.am p c e)⟩
structure Ls(Zvl:List (Int×PC))(val:dh)(br:List (i5×V)):Prop where
 nd:(br.map (·.1)).Nodup
 of:∀kv∈br,∃p c,kv.1=aQ p/\Zvl.lookup p=some c/\kv.2=V.bl (jk val c)
structure jJ(F:Fr)(H:Hp):Prop where
 sub:aS F.G H
 off:∀b v,F.L b=some v->F.G b=none
 oH:∀b v,F.L b=some v->∃br,H b=some (.dK br)/\Ls F.Zvl v br
 vc:F.Zvl.length<=400
structure iT(F:Fr)(H:Hp)(F':Fr)(H':Hp):Prop where
 le:Le F F'
 ch:∀b o,H b=some o->F.L b=none->H' b=some o
 al:∀b,H b≠none->H' b≠none
 gn:∀b,H b≠none->F'.G b=F.G b
 ln:∀b,H b≠none->F'.L b=F.L b
structure iG(F:Fr)(H:Hp)(F':Fr)(H':Hp):Prop extends iT F H F' H' where
 gm:F'.Zvl=F.Zvl
theorem iT.refl(F:Fr)(H:Hp):iT F H F H:=⟨Le.refl F,fun _ _ h _=>h,fun _ h=>h,fun _ _=>rfl,fun _ _=>rfl⟩
theorem iG.refl(F:Fr)(H:Hp):iG F H F H:=⟨iT.refl F H,Z⟩
theorem iT.trans{F F1 F2:Fr}{H H1 H2:Hp}(x:iT F H F1 H1)(y:iT F1 H1 F2 H2):iT F H F2 H2:=by
 have nz:∀b o,H b=some o->H b≠none:=fun b o e z=>by rw[e]at z;cases z
 refine⟨x.le.trans y.le,fun b o e l=>?_,fun b h=>y.al b (x.al b h),fun b h=>?_,fun b h=>?_⟩
 ·exact y.ch b o (x.ch b o e l) (by rw[x.ln b (nz b o e)];exact l)
 ·rw[y.gn b (x.al b h),x.gn b h]
 ·rw[y.ln b (x.al b h),x.ln b h]
theorem iG.trans{F F1 F2:Fr}{H H1 H2:Hp}(x:iG F H F1 H1)(y:iG F1 H1 F2 H2):iG F H F2 H2:=⟨x.toiT.trans y.toiT,y.gm.trans x.gm⟩
theorem si{α:Type}{x:Option α}{o:α}(h:x=some o):x≠none:=fun z=>by rw[h]at z;cases z
theorem rP{α:Type}{x:Option α}(h:x≠none):∃o,x=some o:=by
 cases x with
 |none=>exact absurd Z h
 |some o=>exact⟨o,Z⟩
theorem jJ.g0{F:Fr}{H:Hp}(z:jJ F H){b:ao}(h:H b=none):F.G b=none:=by
 cases e:F.G b with
 |none=>rfl
 |some o=>rw[z.sub b o e]at h;cases h
theorem jJ.l0{F:Fr}{H:Hp}(z:jJ F H){b:ao}(h:H b=none):F.L b=none:=by
 cases e:F.L b with
 |none=>rfl
 |some o=>obtain⟨br,k,_⟩:=z.oH b o e;rw[k]at h;cases h
theorem iG.same{F:Fr}{H H':Hp}(s:aS H H'):iG F H F H':=⟨⟨Le.refl F,fun b o h _=>s b o h,fun b h=>by obtain⟨o,e⟩:=rP h;rw[s b o e];exact fun z=> (by cases z),fun _ _=>rfl,fun _ _=>rfl⟩,Z⟩
theorem jJ.same{F:Fr}{H H':Hp}(z:jJ F H)(s:aS H H'):jJ F H':=⟨z.sub.trans s,z.off,fun b v h=>let⟨br,e,k⟩:=z.oH b v h;⟨br,s _ _ e,k⟩,z.vc⟩
theorem iG.U1{F F':Fr}{H H':Hp}{p:ao}{o:HO}(x:iG F H F' H')(h:H p=none):iG F H F' (bp H' p o):=by
 refine⟨⟨x.le,fun b u e l=>?_,fun b e=>?_,x.gn,x.ln⟩,x.gm⟩
 ·rw[aF (aR e h)];exact x.ch b u e l
 ·by_cases z:b=p
  ·rw[z,au];exact fun u=>by cases u
  ·rw[aF z];exact x.al b e
theorem jJ.U1{F:Fr}{H:Hp}{p:ao}{o:HO}(z:jJ F H)(g:F.G p=none)(l:F.L p=none):jJ F (bp H p o):=by
 refine⟨fun b u e=>?_,z.off,fun b v e=>?_,z.vc⟩
 ·have n:b≠p:=fun y=>by rw[y,g]at e;cases e
  rw[aF n];exact z.sub b u e
 ·have n:b≠p:=fun y=>by rw[y,l]at e;cases e
  rw[aF n];exact z.oH b v e
def Fr.ER(F:Fr)(p:ao)(o:HO):Fr:=⟨bp F.G p o,F.L,F.Zvl⟩
theorem Le.ER{F:Fr}{p:ao}{o:HO}(h:F.G p=none):Le F (F.ER p o):=⟨fun b u e=>by show bp F.G p o b=_;rw[aF (aR e h)];exact e,fun _ _ e=>e,fun _ _ e=>e⟩
theorem iG.ER{F F':Fr}{H H':Hp}{p:ao}{o:HO}(x:iG F H F' H')(h:H p=none)(g:F'.G p=none):iG F H (F'.ER p o) H':=by refine⟨⟨x.le.trans (Le.ER g),x.ch,x.al,fun b e=>?_,x.ln⟩,x.gm⟩;have n:b≠p:=fun y=>e (by rw[y];exact h);show bp F'.G p o b=_;rw[aF n];exact x.gn b e
theorem jJ.ER{F:Fr}{H:Hp}{p:ao}{o:HO}(z:jJ F H)(l:F.L p=none)(h:H p=some o):jJ (F.ER p o) H:=by
 refine⟨fun b u e=>?_,fun b v e=>?_,z.oH,z.vc⟩
 ·have e:bp F.G p o b=some u:=e;by_cases n:b=p
  ·rw[n,au]at e;rw[n,h];exact e
  ·rw[aF n]at e;exact z.sub b u e
 ·have e:F.L b=some v:=e;have n:b≠p:=fun y=>by rw[y,l]at e;cases e
  show bp F.G p o b=none;rw[aF n];exact z.off b v e
theorem Fr.om{F:Fr}{p:ao}{o:HO}:(F.ER p o).G p=some o:=au
theorem iG.new{F:Fr}{H:Hp}{p:ao}{o:HO}(z:jJ F H)(h:H p=none):iG F H (F.ER p o) (bp H p o)/\jJ (F.ER p o) (bp H p o):=⟨(iG.U1 (iG.refl F H) h).ER h (z.g0 h),(z.U1 (z.g0 h) (z.l0 h)).ER (z.l0 h) au⟩
theorem iG.tmp{F:Fr}{H:Hp}{p:ao}{o:HO}(z:jJ F H)(h:H p=none):iG F H F (bp H p o)/\jJ F (bp H p o):=⟨iG.U1 (iG.refl F H) h,z.U1 (z.g0 h) (z.l0 h)⟩
theorem iT.free{F F':Fr}{H H':Hp}(x:iT F H F' H'){b:ao}(h:H' b=none):H b=none:=by
 cases e:H b with
 |none=>rfl
 |some o=>exact absurd h (x.al b (si e))
theorem iT.own{F F':Fr}{H H':Hp}(x:iT F H F' H'){b:ao}{o:HO}(h:H b=some o)(l:F.L b=none):H' b=some o/\F'.L b=none/\F'.G b=F.G b:=⟨x.ch b o h l,by rw[x.ln b (si h)];exact l,x.gn b (si h)⟩
def Add(G H H':Hp):Hp:=fun b=>match H b with
 |none=>H' b
 |some _=>G b
theorem Add.new{G H H':Hp}:aS (cu H H') (Add G H H'):=fun b o e=>by have n:=cu.out e;rw[cu.at n]at e;unfold Add;rw[n];exact e
theorem Add.old{F:Fr}{H H':Hp}(z:jJ F H):aS F.G (Add F.G H H'):=fun b o e=>by unfold Add;rw[z.sub b o e];exact e
def Off(G H:Hp):Hp:=fun b=>match G b with
 |none=>H b
 |some _=>none
theorem Off.free{G H:Hp}:∀b,H b=none->Off G H b=none:=fun b e=>by
 unfold Off;cases G b with
 |none=>exact e
 |some _=>rfl
theorem Off.in{F:Fr}{H:Hp}(z:jJ F H):aS F.G (cu (Off F.G H) H):=fun b o e=>by
 have:Off F.G H b=none:=by unfold Off;rw[e]
 rw[cu.at this];exact z.sub b o e
theorem Off.add{F:Fr}{H H':Hp}(z:jJ F H)(s:aS H H'):aS (cu (Off F.G H) H') (Add F.G H H'):=fun b o e=>by
 have n:=cu.out e;rw[cu.at n]at e;unfold Off at n;unfold Add;cases g:F.G b with
 |none=>rw[g]at n;have n:H b=none:=n;rw[n];exact e
 |some u=>rw[z.sub b u g];have:=s b u (z.sub b u g);rw[this]at e;exact e
theorem iG.add{F:Fr}{H H':Hp}(z:jJ F H)(s:aS H H'):iG F H ⟨Add F.G H H',F.L,F.Zvl⟩ H'/\jJ ⟨Add F.G H H',F.L,F.Zvl⟩ H':=by
 refine⟨⟨⟨⟨Add.old z,fun _ _ e=>e,fun _ _ e=>e⟩,fun b o e _=>s b o e,(iG.same (F:=F) s).al,fun b e=>?_,fun _ _=>rfl⟩,Z⟩,fun b o e=>?_,fun b v e=>?_,(z.same s).oH,z.vc⟩
 ·obtain⟨o,e⟩:=rP e;show Add F.G H H' b=_;unfold Add;rw[e]
 ·have e:Add F.G H H' b=some o:=e;unfold Add at e;cases q:H b with
  |none=>rw[q]at e;exact e
  |some u=>rw[q]at e;exact s _ _ (z.sub b o e)
 ·have e:F.L b=some v:=e;obtain⟨br,k,_⟩:=z.oH b v e;show Add F.G H H' b=none;unfold Add;rw[k];exact z.off b v e
def Fr.row(F:Fr)(H H':Hp)(hd:ao)(val:dh):Fr:=⟨Add F.G (bp H hd (.dK [])) H',fun b=>if b=hd then some val else F.L b,F.Zvl⟩
theorem iG.row{F:Fr}{H H':Hp}{hd:ao}{val:dh}(z:jJ F H)(s:aS H H')(n:H hd=none)(h:H' hd=some (.dK [])):iG F H (F.row H H' hd val) H'/\jJ (F.row H H' hd val) H':=by
 have gd:Add F.G (bp H hd (.dK [])) H' hd=none:=by unfold Add;rw[au];exact z.g0 n
 refine⟨⟨⟨⟨fun b o e=>?_,fun b v e=>?_,fun _ _ e=>e⟩,fun b o e _=>s b o e,(iG.same (F:=F) s).al,fun b e=>?_,fun b e=>?_⟩,Z⟩,fun b o e=>?_,fun b v e=>?_,fun b v e=>?_,z.vc⟩
 ·show Add F.G (bp H hd (.dK [])) H' b=some o;unfold Add;have y:b≠hd:=fun y=>by rw[y,z.g0 n]at e;cases e
  rw[aF y,z.sub b o e];exact e
 ·show(if b=hd then some val else F.L b)=some v;have y:b≠hd:=fun y=>by rw[y,z.l0 n]at e;cases e
  rw[ah y];exact e
 ·obtain⟨o,e⟩:=rP e;show Add F.G (bp H hd (.dK [])) H' b=_;unfold Add;rw[aF (aR e n),e]
 ·obtain⟨o,e⟩:=rP e;show(if b=hd then some val else F.L b)=_;rw[ah (aR e n)]
 ·have e:Add F.G (bp H hd (.dK [])) H' b=some o:=e;have y:b≠hd:=fun y=>by rw[y,gd]at e;cases e
  unfold Add at e;rw[aF y]at e;cases q:H b with
  |none=>rw[q]at e;exact e
  |some u=>rw[q]at e;exact s _ _ (z.sub b o e)
 ·have e:(if b=hd then some val else F.L b)=some v:=e;show Add F.G (bp H hd (.dK [])) H' b=none;by_cases y:b=hd
  ·rw[y];exact gd
  ·rw[ah y]at e;obtain⟨br,k,_⟩:=z.oH b v e;unfold Add;rw[aF y,k];exact z.off b v e
 ·have e:(if b=hd then some val else F.L b)=some v:=e;by_cases y:b=hd
  ·rw[y];exact⟨[],h,.nil,fun kv q=>by cases q⟩
  ·rw[ah y]at e;exact(z.same s).oH b v e
theorem Fr.Zhz{F:Fr}{H H':Hp}{hd:ao}{val:dh}:aS (cu (bp H hd (.dK [])) H') (F.row H H' hd val).G:=Add.new
theorem Fr.Ze2{F:Fr}{H H':Hp}{hd:ao}{val:dh}:(F.row H H' hd val).L hd=some val:=ak Z
def Fr.N1(F:Fr)(p:Int)(c:PC):Fr:=⟨F.G,F.L,F.Zvl++[(p,c)]⟩
theorem Eo{p:Int}{c:PC}:∀{l m:List (Int×PC)},l.lookup p=some c->(l++m).lookup p=some c
 |[],m,h=>by cases h
 |x::l,m,h=>by
  rw[cw,dH]at*;split at h
  ·exact h
  ·exact Eo h
theorem N2{p:Int}{c:PC}:∀{l:List (Int×PC)},l.lookup p=none->(l++[(p,c)]).lookup p=some c
 |[],h=>by rw[gL,dH,beq_self_eq_true]
 |x::l,h=>by
  rw[cw,dH];rw[dH]at h;split at h
  ·cases h
  ·exact N2 h
theorem Ls.m8{Zvl Γ':List (Int×PC)}{val:dh}{br:List (i5×V)}(h:Ls Zvl val br)(k:∀p c,Zvl.lookup p=some c->Γ'.lookup p=some c):Ls Γ' val br:=⟨h.nd,fun kv m=>let⟨p,c,e1,e2,e3⟩:=h.of kv m;⟨p,c,e1,k p c e2,e3⟩⟩
theorem iT.N1{F:Fr}{H:Hp}{p:Int}{c:PC}:iT F H (F.N1 p c) H:=⟨⟨aS.refl _,fun _ _ e=>e,fun _ _ e=>Eo e⟩,fun _ _ h _=>h,fun _ h=>h,fun _ _=>rfl,fun _ _=>rfl⟩
theorem iG.N1{F F':Fr}{H H':Hp}{p:Int}{c:PC}(x:iG F H F' H'):iG (F.N1 p c) H (F'.N1 p c) H':=⟨⟨⟨x.le.gs,x.le.ls,fun q d e=>by
 show(F'.Zvl++[(p,c)]).lookup q=_;rw[x.gm];exact e⟩,x.ch,x.al,x.gn,x.ln⟩,by
 show F'.Zvl++[(p,c)]=F.Zvl++[(p,c)];rw[x.gm]⟩
theorem jJ.N1{F:Fr}{H:Hp}{p:Int}{c:PC}(z:jJ F H)(m:F.Zvl.length<400):jJ (F.N1 p c) H:=⟨z.sub,z.off,fun b v e=>let⟨br,k,h⟩:=z.oH b v e;⟨br,k,h.m8 fun _ _ e=>Eo e⟩,by show(F.Zvl++[(p,c)]).length<=400;rw[aX];simp;omega⟩
theorem Xj{α:Type}[DecidableEq α]:∀{l m:List α},l.Nodup->(∀x∈l,x∈m)->l.length<=m.length
 |[],m,_,_=>bB _
 |x::l,m,h,k=>by obtain⟨h1,h2⟩:=t8.mp h;have hx:=k x aM;have:=Xj (m:=m.erase x) h2 fun y hy=> (List.mem_erase_of_ne (fun z=>h1 (by rw[<-z];exact hy))).mpr (k y (aG _ hy));rw[List.length_erase_of_mem hx]at this;have pos:0<m.length:=List.length_pos_of_mem hx;rw[bg];omega
theorem N3{p:Int}{c:PC}:∀{l:List (Int×PC)},l.lookup p=some c->p∈l.map (·.1)
 |[],h=>by cases h
 |x::l,h=>by
  rw[dH]at h;rw[aY];split at h
  ·rename_i e;exact aU.mpr (.inl (by simpa using e))
  ·exact aG _ (N3 h)
theorem Ls.len{Zvl:List (Int×PC)}{val:dh}{br:List (i5×V)}(h:Ls Zvl val br):br.length<=Zvl.length:=by
 have:=Xj (l:=br.map (·.1)) (m:=(Zvl.map (·.1)).map aQ) h.nd fun k hk=>by obtain⟨kv,m,rfl⟩:=bE.mp hk;obtain⟨p,c,e1,e2,_⟩:=h.of kv m;rw[e1];exact bE.mpr ⟨p,N3 e2,Z⟩
 simpa using this
inductive Ep(a:cV)(F:Fr)(m:ym)(v:V):Prop
 |mk (ta:_) (hd:_) (_:RM a F.G ta hd m.2 v) (_:F.G ta=some (.bz (iz m.1))) (_:F.L hd=some m.2)
theorem Ep.le{a:cV}{F F':Fr}{m:ym}{v:V}(h:Ep a F m v)(s:Le F F'):Ep a F' m v:=let⟨ta,hd,h1,h2,h3⟩:=h;⟨ta,hd,h1.same s.gs,s.gs _ _ h2,s.ls _ _ h3⟩
abbrev k6(a:cV)(F:Fr):bN->List (i5×V)->Prop:=Paired fun r kv=>kv.1=aQ r.1/\Ep a F r.2 kv.2
theorem k6.le{a:cV}{F F':Fr}{rs:bN}{br:List (i5×V)}(h:k6 a F rs br)(s:Le F F'):k6 a F' rs br:=Paired.wm h fun _ _ q=> ⟨q.1,q.2.le s⟩
inductive fJ(a:cV)(F:Fr)(rs:bN)(v:V):Prop
 |mk (d:_) (br:_) (_:v= .ref d) (_:F.G d=some (.dK br)) (_:k6 a F rs br)
theorem fJ.le{a:cV}{F F':Fr}{rs:bN}{v:V}(h:fJ a F rs v)(s:Le F F'):fJ a F' rs v:=let⟨d,br,e,h1,h2⟩:=h;⟨d,br,e,s.gs _ _ h1,k6.le h2 s⟩
theorem lM{a:cV}{F:Fr}(n:Int):∀{rs:bN}{br:List (i5×V)},k6 a F rs br->(∃r v,oi rs n=some r/\iV br (aQ n)=some v/\Ep a F r v)\/(oi rs n=none/\iV br (aQ n)=none)
 |_,_,.nil=> .inr ⟨Z,Z⟩
 |_,_,.cons (a:=x) (b:=y) r t=>by
  unfold oi;by_cases e:x.1=n
  ·refine .inl ⟨x.2,y.2,?_,jd (by rw[r.1,e]),r.2⟩;rw[cT,aD e];rfl
  ·have hk:¬y.1=aQ n:=by rw[r.1];exact fun z=>e (IC.mp z)
   rw[cT,ay e,iR hk];exact lM n t
theorem Xk{a:cV}{F:Fr}(n:Int):∀{rs:bN}{br:List (i5×V)},k6 a F rs br->(br.any fun kv=>decide (kv.1=aQ n))=rs.any fun x=>decide (x.1=n)
 |_,_,.nil=>rfl
 |_,_,.cons r t=>by rw[dD,dD,Xk n t,r.1];congr 1;rw[decide_eq_decide];exact IC
theorem Xl{a:cV}{F:Fr}{n:Int}{m:ym}{v:V}(hv:Ep a F m v):∀{rs:bN}{br:List (i5×V)},k6 a F rs br->k6 a F (rs.map fun x=>if x.1=n then(x.1,m)else x) (br.map fun kv=>if kv.1=aQ n then(kv.1,v)else kv)
 |_,_,.nil=> .nil
 |_,_,.cons (a:=x) (b:=y) r t=>by
  refine .cons ?_ (Xl hv t);by_cases e:x.1=n
  ·fin2;rw[ak e,ak (by rw[r.1,e])];exact⟨r.1,hv⟩
  ·fin2;rw[ah e,ah (by rw[r.1];exact fun z=>e (IC.mp z))];exact r
theorem k6.put{a:cV}{F:Fr}{rs:bN}{br:List (i5×V)}{n:Int}{m:ym}{v:V}(h:k6 a F rs br)(hv:Ep a F m v):k6 a F (xb rs n m) (lW br (aQ n) v):=by
 unfold xb lW;rw[Xk n h];split
 ·exact Xl hv h
 ·exact i8 (F:=fun(r:Int×ym)(kv:i5×V)=>kv.1=aQ r.1/\Ep a F r.2 kv.2) (x:=(n,m)) (y:=(aQ n,v)) ⟨Z,hv⟩ h
theorem k6.drop{a:cV}{F:Fr}{n:Int}:∀{rs:bN}{br:List (i5×V)},k6 a F rs br->k6 a F (rO rs n) (oQ br (aQ n))
 |_,_,.nil=> .nil
 |_,_,.cons (a:=x) (b:=y) r t=>by
  have ih:=k6.drop (n:=n) t;unfold rO oQ at ih⊢;by_cases e:x.1=n
  ·rw[oE (by simp[e]),oE (by rw[r.1,e];simp)];exact ih
  ·rw[oF (by simp[e]),oF (by rw[r.1];simp[e])];exact .cons r ih
theorem IE{a:cV}{F:Fr}:∀{rs:bN}{br:List (i5×V)},k6 a F rs br->br.map (·.1)=(rs.map (·.1)).map aQ
 |_,_,.nil=>rfl
 |_,_,.cons r t=>by rw[aY,aY,aY,IE t,r.1]
def Ze3(a:cV)(F:Fr):dk->V->Prop
 | .put _ r,v=>Ep a F r v
 | .replace _ r,v=>Ep a F r v
 |_,v=>v= .ik
def Xm(a:cV)(F:Fr)(p:Int):dk->V->Prop
 | .ask c,v=>fR a F.G c v/\F.Zvl.lookup p=some c
 |_,v=>v= .ik
inductive tO(a:cV)(F:Fr)(d:dk)(v:V):Prop
 |mk (p:_) (y:_) (dy:_) (rv:_) (cv:_) (_:v= .ref y) (_:F.G y=some (.ins a.lJ dy (uB.zip [.int p,bV (nE d),Xi d,rv,cv]))) (_:Ze3 a F d rv) (_:Xm a F p d cv)
theorem Ze3.le{a:cV}{F F':Fr}(s:Le F F'):∀{d:dk}{v:V},Ze3 a F d v->Ze3 a F' d v
 | .put _ _,_,h=>Ep.le h s
 | .replace _ _,_,h=>Ep.le h s
 | .look _,_,h=>h
 | .ask _,_,h=>h
 | .drop _,_,h=>h
theorem Xm.le{a:cV}{F F':Fr}{p:Int}(s:Le F F'):∀{d:dk}{v:V},Xm a F p d v->Xm a F' p d v
 | .put _ _,_,h=>h
 | .replace _ _,_,h=>h
 | .look _,_,h=>h
 | .ask _,_,h=> ⟨fR.same s.gs _ _ h.1,s.am _ _ h.2⟩
 | .drop _,_,h=>h
theorem tO.le{a:cV}{F F':Fr}{d:dk}{v:V}(h:tO a F d v)(s:Le F F'):tO a F' d v:=by obtain⟨p,y,dy,rv,cv,e,h1,h2,h3⟩:=h;exact⟨p,y,dy,rv,cv,e,s.gs _ _ h1,h2.le s,h3.le s⟩
section
inductive ZhA(a:cV)(vs:LV)(H:Hp)(Q:VK)(_:XK):Prop
 |mk (rv dv:V) (rs:bN) (d:dk) (F:Fr) (_:vs=[rv,dv]) (_:jJ F H) (_:fJ a F rs rv) (_:tO a F d dv) (_:rs.length<=17000) (_:∀v F' H',iG F H F' H'->jJ F' H'->fJ a F' (mD rs d) v->Q v H')
theorem Zpv(d:dk):EN (bV (nE d)) [.int 3,.int 4]=match d with
 | .look _=>true
 | .ask _=>true
 |_=>false:=by cases d<;>rfl
theorem Qz(T:il K mg a):iW P w K mg base 1 "rows_after" Fx (ZhA a):=by
 refine cI T.Gg T.T2 T.Gg.b2 Cy ?_
 ·lk;obtain⟨rv,dv,rs,d,F,rfl,zF,Jc,hd,h17,k⟩:=h;have nd:=Cy.nd;refine⟨_,ai (bK (bf o6 (aI (pv 1) Z) (nP (ag (aP T.Zeh) (ag (aP T.Zaq) az))) Z) (aq (aN (pv 0))) aL) (ai (bK (HH (bf BY (aI (pv 1) Z) (aP T.Rn) (bw _)) (A9 (nN (o7 (jI hr) (aI (pv 1) Z) (pv 0))))).pt (aq (aN (pv 0))) aL) (ai (bq (i:=2) nd (HP Xh (by rfl) T.Zet (by decide +kernel) (ag (pv 0) az))) (ai (bK (bf gP (aI (pv 1) Z) (aP T.Zei) (bw _)) (aq (dm (E4 (pv 2) (aI (pv 1) Z) ⟨Z,Z,Z,Z⟩))) (aq (E3 (jI hr) (pv 2) (aI (pv 1) Z) (aI (pv 1) Z) Z))) (aq (aN (pv 2)))))),?_⟩;walk;obtain⟨dd,br,rfl,r1,r2⟩:=id Jc;obtain⟨p0,y,dy,QG,cv,rfl,d1,d2,d3⟩:=id hd;have d1':=zF.sub _ _ d1;have r1':=zF.sub _ _ r1;refine⟨_,Z,y,_,dy,_,_,Z,d1',T.dR,T.dN,Z,(mr 2),fun q hq=> ⟨q,_,Z,.inr (qU.of au),Z,Z,_,Z,?_⟩⟩;have s1:=aS.dW (o:=(.f6 [.int 3,.int 4])) (aS.refl H) hq;generalize bp H q (.f6 [.int 3,.int 4])=H1 at s1;rw[show(if false=true then !EN (bV (nE d)) [.int 3,.int 4]else EN (bV (nE d)) [.int 3,.int 4])=_ from Zpv d];have z1:=zF.same s1;have kk:mD rs d=rs->Q (.ref dd) H1:=fun e=>k _ F H1 (iG.same s1) z1 (by rw[e];exact Jc);have put:∀(n:Int)(r:ym)(p:ao),H1 p=none->mD rs d=xb rs n r->Ep a F r QG->Q (.ref p) (bp (bp H1 p (.dK br)) p (.dK (lW br (aQ n) QG))):=by intro n r p np e hx;rw[fC];obtain⟨x2,z2⟩:=iG.new (o:= .dK (lW br (aQ n) QG)) z1 np;refine k _ _ _ ((iG.same s1).trans x2) z2 ⟨p,_,Z,Fr.om,?_⟩;rw[e];exact k6.put (r2.le x2.le) (hx.le x2.le)
  have d1n:=s1 _ _ d1';have r1n:=s1 _ _ r1';cases d with
  |look n=>exact bQ ⟨_,Z,kk Z⟩
  |ask c=>exact bQ ⟨_,Z,kk Z⟩
  |put n r=>refine bx ⟨_,Z,y,_,dy,_,_,Z,d1n,T.dR,T.dN,Z,Z,_,Z,bx ?_⟩;refine bx ⟨_,Z,dd,br,Z,r1n,fun p np=>?_⟩;have s2:=aS.dW (o:=(.dK br)) (aS.refl H1) np;refine⟨_,Z,y,_,dy,_,_,Z,s2 _ _ d1n,T.dR,T.dN,Z,Z,_,Z,bx ?_⟩;refine⟨_,Z,y,_,dy,_,_,Z,s2 _ _ d1n,T.dR,T.Ah,Z,_,Z,_,Z,y,_,dy,_,_,Z,s2 _ _ d1n,T.dR,T.eY,Z,p,_,Z,K1.k (k:=aQ n) au (mM (by rw[<-Paired.length r2];exact h17)),?_⟩;exact⟨_,Z,put n r p np Z d2⟩
  |replace n r=>
   refine bx ⟨_,Z,y,_,dy,_,_,Z,d1n,T.dR,T.dN,Z,Z,_,Z,bQ ?_⟩;refine⟨_,Z,y,_,dy,_,_,Z,d1n,T.dR,T.eY,Z,_,Z,dd,_,Z,kx.k (k:=aQ n) r1n,_,Z,?_⟩;rcases lM n r2 with⟨r0,v0,e1,e2,e3⟩|⟨e1,e2⟩
   ·rw[e2];refine bx ⟨_,Z,dd,br,Z,r1n,fun p np=>?_⟩;have s2:=aS.dW (o:=(.dK br)) (aS.refl H1) np;refine⟨_,Z,y,_,dy,_,_,Z,s2 _ _ d1n,T.dR,T.dN,Z,Z,_,Z,bx ?_⟩;refine⟨_,Z,y,_,dy,_,_,Z,s2 _ _ d1n,T.dR,T.Ah,Z,_,Z,_,Z,y,_,dy,_,_,Z,s2 _ _ d1n,T.dR,T.eY,Z,p,_,Z,K1.k (k:=aQ n) au (mM (by rw[<-Paired.length r2];exact h17)),?_⟩;refine⟨_,Z,put n r p np ?_ d2⟩;show(if mC rs n=true then xb rs n r else rs)=_;rw[ak (by unfold mC;rw[e1];rfl)]
   ·rw[e2];refine bQ ⟨_,Z,kk ?_⟩;show(if mC rs n=true then xb rs n r else rs)=_;rw[ah (by unfold mC;rw[e1];exact aK)]
  |drop n=>
   refine bx ⟨_,Z,y,_,dy,_,_,Z,d1n,T.dR,T.dN,Z,Z,_,Z,bQ ?_⟩;refine⟨_,Z,y,_,dy,_,_,Z,d1n,T.dR,T.eY,Z,_,Z,dd,_,Z,kx.k (k:=aQ n) r1n,_,Z,?_⟩;rcases lM n r2 with⟨r0,v0,e1,e2,e3⟩|⟨e1,e2⟩
   ·rw[e2];refine bx ⟨_,Z,dd,br,Z,r1n,fun p np=>?_⟩;have s2:=aS.dW (o:=(.dK br)) (aS.refl H1) np;refine⟨_,Z,y,_,dy,_,_,Z,s2 _ _ d1n,T.dR,T.dN,Z,Z,_,Z,bQ ?_⟩;refine⟨_,Z,p,Z,.inl ⟨_,.inl au⟩,_,Z,y,_,dy,_,_,Z,s2 _ _ d1n,T.dR,T.eY,Z,br,aQ n,v0,au,Z,e2,?_⟩;rw[fC];obtain⟨x2,z2⟩:=iG.new (o:= .dK (oQ br (aQ n))) z1 np;refine⟨_,Z,k _ _ _ ((iG.same s1).trans x2) z2 ⟨p,_,Z,Fr.om,?_⟩⟩;show k6 a _ (if mC rs n=true then rO rs n else rs) _;rw[ak (by unfold mC;rw[e1];rfl)];exact k6.drop (r2.le x2.le)
   ·rw[e2];refine bQ ⟨_,Z,kk ?_⟩;show(if mC rs n=true then rO rs n else rs)=_;rw[ah (by unfold mC;rw[e1];exact aK)]
end
theorem Ls.val{Zvl:List (Int×PC)}{val:dh}{br:List (i5×V)}(h:Ls Zvl val br){p:Int}{c:PC}{v:V}(g:Zvl.lookup p=some c)(e:iV br (aQ p)=some v):v= .bl (jk val c):=by
 unfold iV at e;cases q:br.find? fun kv=>decide (kv.1=aQ p)with
 |none=>rw[q]at e;cases e
 |some kv=>
  rw[q]at e;have e:kv.2=v:=af e;have e1:kv.1=aQ p:=by simpa using lj q
  obtain⟨p',c',h1,h2,h3⟩:=h.of kv (f9 q);have:p'=p:=by rw[e1]at h1;exact(IC.mp h1).symm
  subst this;rw[g]at h2;have:c=c':=af h2;subst this;rw[<-e,h3]
theorem Ls.put{Zvl:List (Int×PC)}{val:dh}{br:List (i5×V)}(h:Ls Zvl val br){p:Int}{c:PC}(g:Zvl.lookup p=some c)(e:iV br (aQ p)=none):Ls Zvl val (lW br (aQ p) (.bl (jk val c))):=by
 rw[ZdY _ e];refine⟨?_,fun kv m=>?_⟩
 ·rw[cg,pM];refine⟨h.nd,by simp,fun x hx y hy z=>?_⟩;have hy:y=aQ p:=by simpa using hy
  exact Zd6 e (by rw[<-hy,<-z];exact hx)
 ·rcases cz.mp m with m|m
  ·exact h.of kv m
  ·have m:kv=(aQ p,.bl (jk val c)):=by simpa using m
   rw[m];exact⟨p,c,Z,g,Z⟩
theorem jJ.Ze4{F:Fr}{H:Hp}{hd:ao}{val:dh}{br:List (i5×V)}(z:jJ F H)(l:F.L hd=some val)(hk:Ls F.Zvl val br):jJ F (bp H hd (.dK br)):=by
 have g:=z.off _ _ l;refine⟨fun b u e=>?_,z.off,fun b v e=>?_,z.vc⟩
 ·have n:b≠hd:=fun y=>by rw[y,g]at e;cases e
  rw[aF n];exact z.sub b u e
 ·by_cases n:b=hd
  ·subst n;have:val=v:=by rw[l]at e;exact af e
   subst this;exact⟨br,au,hk⟩
  ·rw[aF n];exact z.oH b v e
theorem iG.Ze4{F:Fr}{H:Hp}{hd:ao}{val:dh}{o:HO}(l:F.L hd=some val):iG F H F (bp H hd o):=by
 refine⟨⟨Le.refl F,fun b u e q=>?_,fun b e=>?_,fun _ _=>rfl,fun _ _=>rfl⟩,Z⟩
 ·have n:b≠hd:=fun y=>by rw[y,l]at q;cases q
  rw[aF n];exact e
 ·by_cases n:b=hd
  ·rw[n,au];exact fun u=>by cases u
  ·rw[aF n];exact e
noncomputable abbrev Zkc:LS:=["rows","deed","numbers","number"]
theorem ZaN:aO Zkc zp (aE yR):=je
section
inductive ZmH(a:cV)(vs:LV)(H:Hp)(Q:VK)(_:XK):Prop
 |mk (rv dv:V) (m:ym) (c:PC) (F:Fr) (_:vs=[rv,dv]) (_:jJ F H) (_:Ep a F m rv) (_:tO a F (.ask c) dv) (_:OkC m.2 c) (_:tN m.2<=17000) (_:w9 c<=21) (_:∀H',iG F H F H'->jJ F H'->Q (.bl (jk m.2 c)) H')
theorem N4(T:il K mg a):iW P w K mg base 46 "holds_asked" uS (ZmH a):=by
 refine cI T.De T.Qj T.De.b2 zq ?_
 ·lk;obtain⟨rv,dv,m,c,F,rfl,zF,Hr,Zn1,fN,hsz,Zk3,k⟩:=h;have nd:=zq.nd;refine⟨_,ai (bK (nN (o7 (jI hr) (aI (pv 1) Z) (aI (pv 0) Z))) (aq (E3 (jI hr) (aI (pv 0) Z) (aI (pv 1) Z) (ba (Xg T 21) hr bh (ag (pv 0) (ag (aI (pv 1) Z) az))) Z)) aL) (aq (aN (lX (jI hr) (aI (pv 0) Z) (aI (pv 1) Z)))),?_⟩;walk;obtain⟨ta,hd,⟨x,dx,rv',rfl,x1,x2⟩,x3,x4⟩:=Hr;obtain⟨p,y,dy,QG,cv,rfl,d1,d2,d3,d4⟩:=Zn1;obtain⟨br,h1,hk⟩:=zF.oH hd _ x4;have x1H:=zF.sub _ _ x1;have d1H:=zF.sub _ _ d1;refine⟨_,Z,y,_,dy,_,_,Z,d1H,T.dR,T.mL,Z,_,Z,x,_,dx,_,_,Z,x1H,T.ra,T.qD,Z,hd,_,Z,kx.k (k:=aQ p) h1,_,Z,?_⟩;cases e:iV br (aQ p)with
  |some v=>have g:=kx.k (a:=hd) (k:=aQ p) h1;rw[e]at g;refine bx ⟨_,Z,x,_,dx,_,_,Z,x1H,T.ra,T.qD,Z,_,Z,y,_,dy,_,_,Z,d1H,T.dR,T.mL,Z,hd,v,Z,g,?_⟩;rw[hk.val d4 e];exact k H (iG.refl F H) zF
  |none=>refine bQ ⟨_,Z,_,Z,y,_,dy,_,_,Z,d1H,T.dR,T.uy,Z,x,cv,m.2,c,Z,⟨dx,ta,rv',_,x1H,gj.same zF.sub _ _ x2⟩,hsz,fR.same zF.sub _ _ d3,fN,Zk3,fun H1 s1=>?_⟩;have z1:=zF.same s1;have hk2:=hk.put d4 e;refine⟨_,Z,x,_,dx,_,_,Z,s1 _ _ x1H,T.ra,T.qD,Z,_,Z,y,_,dy,_,_,Z,s1 _ _ d1H,T.dR,T.mL,Z,hd,_,Z,K1.k (k:=aQ p) (s1 _ _ h1) (mM (by have:=hk.len;have:=zF.vc;omega)),?_⟩;have z2:=z1.Ze4 x4 hk2;have x2':=(iG.same (F:=F) s1).trans (iG.Ze4 (H:=H1) (o:= .dK (lW br (aQ p) (.bl (jk m.2 c)))) x4);have e2:= @au H1 hd (.dK (lW br (aQ p) (.bl (jk m.2 c))));generalize bp H1 hd (.dK (lW br (aQ p) (.bl (jk m.2 c))))=H2 at z2 x2' e2⊢;have g:=kx.k (a:=hd) (k:=aQ p) e2;rw[Vz,ak Z]at g;refine⟨_,Z,x,_,dx,_,_,Z,z2.sub _ _ x1,T.ra,T.qD,Z,_,Z,y,_,dy,_,_,Z,z2.sub _ _ d1,T.dR,T.mL,Z,hd,_,Z,g,?_⟩;exact k H2 x2' z2
inductive ZmI(a:cV)(vs:LV)(H:Hp)(Q:VK)(_:XK):Prop
 |mk (rv dv:V) (rs:bN) (c:PC) (F:Fr) (_:vs=[rv,dv]) (_:jJ F H) (_:fJ a F rs rv) (_:tO a F (.ask c) dv) (_:Ze1 rs c) (_:w9 c<=21) (_:rs.length<=16000) (_:∀q F' H',iG F H F' H'->jJ F' H'->F'.G q=some (.bz ((jE rs (.ask c)).map V.int))->Q (.ref q) H')
theorem Lu(T:il K mg a):iW P w K mg base 47 "reply_to_ask" zp (ZmI a):=by
 refine cI T.Ai T.Nw T.Ai.b2 ZaN ?_
 ·lk;obtain⟨rv,dv,rs,c,F,rfl,zF,Jc,hdv,fN,Zk3,h16,k⟩:=h;have nd:=ZaN.nd;refine⟨_,ai (ZdX (i:=2) (own:=[("number",3)]) (te:=m7 3) (tt:=tB (Jo (ZmH a) [] E0 (nO (Ziq (m7 0) (m7 3)) (nO (m7 1) yD)))) Z nd Z Z (ZgO Z Z Z Z) (kT (jQ (NX hr.hd) (by rfl) T.WC (by decide +kernel) (ag (pv 0) az))) (Ms (by rfl)) (fun _ _ _ _ _=>by exact gW (i:=3) nd) (fun _ _ _ _ _=>by exact Zai (eX (ba (N4 T) hr bh (ag (lX (jI hr) (pv 0) (pv 3)) (ag (pv 1) az))))) (fun _ _ _ _ _=>by exact pv 3)) (aq (aN (iu SM (dO (ag (rZ T (pv 2)) az)) (pv 2)))),?_⟩;walk;obtain⟨d,br,rfl,r1,r2⟩:=id Jc;have hkl:=Paired.length r2;refine⟨_,Z,d,br,rs.map (·.1),Z,zF.sub _ _ r1,IE r2,fun ns q So hpw hq=>?_⟩;have ens:=N0 So hpw;have hnl:ns.length=rs.length:=by rw[So.length_eq,aZ]
  have s1:=aS.dW (o:=(.bz (ns.map V.int))) (aS.refl H) hq;have e1:= @au H q (.bz (ns.map V.int));have z1:=zF.same s1;have lq:F.L q=none:=zF.l0 hq;generalize bp H q (.bz (ns.map V.int))=H1 at s1 e1 z1;refine⟨q,Z,⟨_,ft.of e1⟩,fun D hD=>SR (K:=K) (a:=q) (xs:=ns.map V.int) (fun i H3=>iG F H1 F H3/\jJ F H3/\H3 D=some (.bz (((ns.take i).filter (AO rs c)).map V.int))) ⟨(iG.tmp z1 hD).1,(iG.tmp z1 hD).2,au⟩ (fun i H3 _ h=>ft.of (h.1.ch _ _ e1 lq)) ?_ ?_⟩
  ·rintro i y H3 hi ⟨s3,z3,Vb⟩;walk;rw[hZ]at hi;cases hn:ns[i]? with
   |none=>rw[hn]at hi;cases hi
   |some n=>
   rw[hn]at hi;have ey:V.int n=y:=af hi;subst ey;obtain⟨r,er⟩:=Ky (rs:=rs) (So.mem_iff.mp (bj hn));rcases lM n r2 with⟨r',v,g1,g2,g3⟩|⟨g1,g2⟩;rotate_left
   ·rw[g1]at er;cases er
   have g:=kx.k (a:=d) (k:=aQ n) (z3.sub _ _ r1);rw[g2]at g;obtain⟨ok1,ok2⟩:=fN (n,r') (oj g1);refine⟨Z,⟨_,Z,_,Z,d,v,Z,g,_,Z,v,dv,r',c,F,Z,z3,g3,hdv,ok1,ok2,Zk3,fun H4 s4 z4=> ⟨_,Z,?_⟩⟩⟩;have lD:F.L D=none:=z1.l0 hD;have gD:F.G D=none:=z1.g0 hD;have hD4:=s4.ch _ _ Vb lD;have eh:AO rs c n=jk r'.2 c:=by unfold AO;rw[g1]
   have ef:=ID (p:=AO rs c) hn;rw[eh]at ef;cases ec:jk r'.2 c with
   |true=>
    rw[ec,ak Z]at ef;try dsimp only
    rw[ak Z];have jL:((ns.take i).filter (AO rs c)).length<=16000:=by have l1:=iB (AO rs c) (ns.take i);rw[gR]at l1;omega
    refine⟨_,Z,_,hD4,mM (by simp;omega),(s3.trans s4).U1 hD,z4.U1 gD lD,?_⟩;rw[ef,cg];exact au
   |false=>
    rw[ec,ah aK,cJ]at ef;try dsimp only
    rw[ah aK];refine⟨s3.trans s4,z4,?_⟩;rw[ef];exact hD4
  ·rintro H3 ⟨s3,z3,Vb⟩;walk;rw[aZ,gT,ens]at Vb;have Vb:H3 D=some (.bz ((AQ rs c).map V.int)):=Vb;have jL:(AQ rs c).length<=16000:=by
    have l1:=iB (AO rs c) ns;rw[ens]at l1;have l2:(NY (rs.map (·.1))).length=rs.length:=by rw[<-ens];exact hnl
    unfold AQ;omega
   refine⟨_,Z,D,_,Z,.inl (ft.of Vb),(mr 1),fun q4 U8=>?_⟩;rw[aZ];have s4:=aS.dW (o:=(.bz [V.int ((AQ rs c).length:Int)])) (aS.refl H3) U8;have e4:= @au H3 q4 (.bz [V.int ((AQ rs c).length:Int)]);generalize bp H3 q4 (.bz [V.int ((AQ rs c).length:Int)])=H4 at s4 e4;have z4:=z3.same s4;have x4:=((iG.same (F:=F) s1).trans s3).trans (iG.same s4);refine⟨_,Z,q4,D,_,_,Z,Z,e4,s4 _ _ Vb,fZ (mM (by simp;omega)),fun p hp=>?_⟩;obtain⟨x5,z5⟩:=iG.new (o:= .bz ([V.int ((AQ rs c).length:Int)]++(AQ rs c).map V.int)) z4 hp;exact k p _ _ (x4.trans x5) z5 Fr.om
inductive ZhB(a:cV)(vs:LV)(H:Hp)(Q:VK)(_:XK):Prop
 |mk (rv dv:V) (rs:bN) (d:dk) (F:Fr) (_:vs=[rv,dv]) (_:jJ F H) (_:fJ a F rs rv) (_:tO a F d dv) (_:OkD rs d) (_:rs.length<=16000) (_:(∀r∈rs,r.2.1.length<=16000)) (_:∀q F' H',iG F H F' H'->jJ F' H'->F'.G q=some (.bz ((jE rs d).map V.int))->Q (.ref q) H')
theorem Xn(T:il K mg a):iW P w K mg base 48 "reply_of" MO (ZhB a):=by
 refine cI T.Ny T.Ze T.Ny.b2 JM ?_
 ·lk;obtain⟨rv,dv,rs,d,F,rfl,zF,Jc,hd,fN,h16,htx,k⟩:=h;have nd:=JM.nd;refine⟨_,ai (bK (bf gP (aI (pv 1) Z) (aP T.Rn) (bw _)) (aq (aN (dO (ag (aI (pv 1) Z) az)))) aL) (ai (bK (bf gP (aI (pv 1) Z) (aP T.Zaq) (bw _)) (aq (aN (ba (Lu T) hr bh (ag (pv 0) (ag (pv 1) az))))) aL) (ai (bK (nN (o7 (jI hr) (aI (pv 1) Z) (pv 0))) (aq (aN (dO (ag bL az)))) aL) (ai (bK (bf gP (aI (pv 1) Z) (aP T.Zeh) (bw _)) (ai (bq (i:=2) nd (aI (lX (jI hr) (pv 0) (aI (pv 1) Z)) Z)) (aq (aN (iu SM (dO (ag (rZ T (pv 2)) az)) (pv 2))))) aL) (aq (aN (dO (ag bL az))))))),?_⟩;walk;obtain⟨dd,br,rfl,r1G,r2⟩:=id Jc;obtain⟨p0,y,dy,QG,cv,rfl,d1G,d2,d3⟩:=id hd;have r1:=zF.sub _ _ r1G;have d1:=zF.sub _ _ d1G;have one:∀(v:V)(q:ao),H q=none->(jE rs d).map V.int=[v]->Q (.ref q) (bp H q (.bz [v])):=fun v q hq e=>k q _ _ (iG.new zF hq).1 (iG.new zF hq).2 (by rw[e];exact Fr.om);refine⟨_,Z,y,_,dy,_,_,Z,d1,T.dR,T.dN,Z,Z,_,Z,?_⟩;cases d with
  |put n r=>exact bQ ⟨_,Z,y,_,dy,_,_,Z,d1,T.dR,T.eY,Z,(mr 1),fun q hq=>one _ q hq Z⟩
  |ask c=>refine bx ⟨_,Z,y,_,dy,_,_,Z,d1,T.dR,T.dN,Z,Z,_,Z,bQ ?_⟩;exact⟨_,Z,_,Z,_,_,rs,c,F,Z,zF,Jc,hd,fN.1,fN.2,h16,k⟩
  |look n=>
   refine bx ⟨_,Z,y,_,dy,_,_,Z,d1,T.dR,T.dN,Z,Z,_,Z,bx ?_⟩;refine⟨_,Z,y,_,dy,_,_,Z,d1,T.dR,T.eY,Z,_,Z,dd,_,Z,kx.k (k:=aQ n) r1,_,Z,?_⟩;have ep:jE rs (.look n)=(match oi rs n with
    |some r=> (r.1.length:Int)::r.1.map fun b:Nat=> (b:Int)
    |none=>[0]):=rfl
   rcases lM n r2 with⟨r,v,g1,g2,g3⟩|⟨g1,g2⟩
   ·rw[g2];rw[g1]at ep;have g:=kx.k (a:=dd) (k:=aQ n) r1;rw[g2]at g;obtain⟨ta,hd',⟨x,dx,rv,rfl,x1G,x2⟩,x3G,x4⟩:=g3;have x1:=zF.sub _ _ x1G;have x3:=zF.sub _ _ x3G;have hl:r.1.length<=16000:=htx _ (oj g1);refine bx ⟨_,Z,y,_,dy,_,_,Z,d1,T.dR,T.dN,Z,Z,_,Z,bQ ?_⟩;refine⟨_,Z,_,Z,y,_,dy,_,_,Z,d1,T.dR,T.eY,Z,dd,.ref x,Z,g,x,_,dx,_,_,Z,x1,T.ra,T.qC,Z,?_⟩;refine⟨_,Z,ta,_,Z,.inl (ft.of x3),(mr 1),fun q4 U8=>?_⟩;rw[eA];have s4:=aS.dW (o:=(.bz [V.int (r.1.length:Int)])) (aS.refl H) U8;have e4:= @au H q4 (.bz [V.int (r.1.length:Int)]);generalize bp H q4 (.bz [V.int (r.1.length:Int)])=H4 at s4 e4;refine⟨_,Z,q4,ta,_,_,Z,Z,e4,s4 _ _ x3,fZ (mM (by simp[eA];omega)),fun p hp=>?_⟩;obtain⟨x5,z5⟩:=iG.new (o:= .bz ([V.int (r.1.length:Int)]++iz r.1)) (zF.same s4) hp;refine k p _ _ ((iG.same (F:=F) s4).trans x5) z5 ?_;rw[ep];show _=some (HO.bz (V.int (r.1.length:Int)::(r.1.map fun b:Nat=> (b:Int)).map V.int));rw[eM];exact Fr.om
   ·rw[g2];rw[g1]at ep;exact bQ ⟨(mr 1),fun q hq=>one _ q hq (by rw[ep];rfl)⟩
  |replace n r=>
   refine bx ⟨_,Z,y,_,dy,_,_,Z,d1,T.dR,T.dN,Z,Z,_,Z,bx ?_⟩;refine⟨_,Z,y,_,dy,_,_,Z,d1,T.dR,T.eY,Z,_,Z,dd,_,Z,kx.k (k:=aQ n) r1,_,Z,?_⟩;have ep:jE rs (.replace n r)=if mC rs n=true then [1]else [0]:=rfl;rcases lM n r2 with⟨r,v,g1,g2,g3⟩|⟨g1,g2⟩
   ·rw[g2];rw[ak (by unfold mC;rw[g1];rfl)]at ep;refine bx ⟨_,Z,y,_,dy,_,_,Z,d1,T.dR,T.dN,Z,Z,_,Z,bx ?_⟩;exact⟨(mr 1),fun q hq=>one _ q hq (by rw[ep];rfl)⟩
   ·rw[g2];rw[ah (by unfold mC;rw[g1];exact aK)]at ep;exact bQ ⟨(mr 1),fun q hq=>one _ q hq (by rw[ep];rfl)⟩
  |drop n=>
   refine bx ⟨_,Z,y,_,dy,_,_,Z,d1,T.dR,T.dN,Z,Z,_,Z,bx ?_⟩;refine⟨_,Z,y,_,dy,_,_,Z,d1,T.dR,T.eY,Z,_,Z,dd,_,Z,kx.k (k:=aQ n) r1,_,Z,?_⟩;have ep:jE rs (.drop n)=if mC rs n=true then [1]else [0]:=rfl;rcases lM n r2 with⟨r,v,g1,g2,g3⟩|⟨g1,g2⟩
   ·rw[g2];rw[ak (by unfold mC;rw[g1];rfl)]at ep;refine bx ⟨_,Z,y,_,dy,_,_,Z,d1,T.dR,T.dN,Z,Z,_,Z,bx ?_⟩;exact⟨(mr 1),fun q hq=>one _ q hq (by rw[ep];rfl)⟩
   ·rw[g2];rw[ah (by unfold mC;rw[g1];exact aK)]at ep;exact bQ ⟨(mr 1),fun q hq=>one _ q hq (by rw[ep];rfl)⟩
end
def Fr.Zr(F:Fr)(p:Int):dk->Fr
 | .ask c=>F.N1 p c
 |_=>F
theorem Ze5(F:Fr)(p:Int)(d:dk):(F.Zr p d).Zvl.length<=F.Zvl.length+1:=by
 cases d with
 |ask c=>show(F.Zvl++[(p,c)]).length<=_;simp
 |_=>exact mH _
theorem Zcz(F:Fr)(p:Int)(d:dk):∀x∈(F.Zr p d).Zvl,x∈F.Zvl\/x.1=p:=fun x h=>by
 cases d with
 |ask c=>
  have h:x∈F.Zvl++[(p,c)]:=h;rcases cz.mp h with h|h
  ·exact .inl h
  ·have h2:x=(p,c):=by simpa using h
   exact .inr (by rw[h2])
 |_=>exact .inl h
theorem iT.Zr{F:Fr}{H:Hp}(p:Int)(d:dk):iT F H (F.Zr p d) H:=by
 cases d with
 |ask c=>exact iT.N1
 |_=>exact iT.refl F H
section
inductive Ze6(K:ae)(a:cV)(vs:LV)(H:Hp)(Q:VK)(E:XK):Prop
 |mk (sv cv:V) (next:Int) (fs:Zvn) (i:Nat) (c:cX) (F:Fr) (_:vs=[sv,cv,.int next]) (_:jJ F H) (_:gi a F.G fs sv) (_:wfK 6 (.group false fs)) (_:pC a F.G i c cv) (_:c.ok) (_:2<=c.num) (_:c.num<=6) (_:F.Zvl.lookup (i:Int)=none) (_:F.Zvl.length<400) (_:match jX fs c next with|none=> ∀H',aS H H'->E (.ref a.g9) none H'|some d=> ∀v F' H',iG (F.Zr (i:Int) d) H F' H'->jJ F' H'->tO a F' d v->Q v H')
theorem Ut(T:il K mg a):iW P w K mg base 53 "read_deed" zo (Ze6 K a):=by
 refine fI T.Kj T.Wy T.Kj.b3 S9 ?_
 ·lk;obtain⟨sv,cv,next,fs,ci,c,F,rfl,zF,Zn3,L6,qP,fN,h2,h6,hgm,hgl,k⟩:=h;refine⟨_,ai (bK (bf gP (aI (pv 1) Z) (aP T.Rn) (bw _)) (aq (aN (ie (r8 T) hr bh (ag (aI (pv 1) Z) (ag (aP T.Rn) (ag (pv 2) (ag (ba (Ku T) hr dj (ag (pv 0) (ag (aI (pv 1) Z) az))) (ag oZ az)))))))) aL) (ai (bK (bf gP (aI (pv 1) Z) (aP T.Zaq) (bw _)) (aq (aN (ie (r8 T) hr bh (ag (aI (pv 1) Z) (ag (aP T.Zaq) (ag oZ (ag oZ (ag (ba (GX T) hr dj (ag (pv 0) (ag (aI (pv 1) Z) az))) az)))))))) aL) (ai (bK (bf gP (aI (pv 1) Z) (aP T.Ie) (bw _)) (aq (aN (ie (r8 T) hr bh (ag (aI (pv 1) Z) (ag (aP T.Ie) (ag (iJ fi (aI (pv 1) Z) bL) (ag (ba (Ku T) hr dj (ag (pv 0) (ag (aI (pv 1) Z) az))) (ag oZ az)))))))) aL) (aq (aN (ie (r8 T) hr bh (ag (aI (pv 1) Z) (ag (aI (pv 1) Z) (ag (iJ fi (aI (pv 1) Z) bL) (ag oZ (ag oZ az)))))))))),?_⟩;walk;obtain⟨y,dy,q,t,rfl,c1,c2,c3⟩:=qP;have c1':=zF.sub _ _ c1;have c2':=zF.sub _ _ c2;have c3':=zF.sub _ _ c3;obtain⟨o1,o2,o3,o4⟩:=fN;have Zn4:gi a H fs sv:=Zn3.same zF.sub;have yC:∀(d:dk)(F2:Fr)(H2:Hp)(rv cv':V),iG (F.Zr (ci:Int) d) H F2 H2->jJ F2 H2->Ze3 a F2 d rv->Xm a F2 (ci:Int) d cv'->jX fs c next=some d->∀(x dx:ao),H2 x=none->H2 dx=none->Q (.ref x) (bp (bp H2 dx (.own x)) x (.ins a.lJ dx (uB.zip ([bV ci,bV (nE d),Xi d,rv,cv']++[])))):=by intro d F2 H2 rv cv' x2 z2 hr Vd e x dx nx ndx;rw[e]at k;have s7:aS H2 (bp (bp H2 dx (.own x)) x (.ins a.lJ dx (uB.zip ([bV ci,bV (nE d),Xi d,rv,cv']++[])))):=kX nx ndx;have e7:(bp (bp H2 dx (.own x)) x (.ins a.lJ dx (uB.zip ([bV ci,bV (nE d),Xi d,rv,cv']++[])))) x=some (.ins a.lJ dx (uB.zip [bV ci,bV (nE d),Xi d,rv,cv'])):=au;generalize bp (bp H2 dx (.own x)) x (.ins a.lJ dx (uB.zip ([bV ci,bV (nE d),Xi d,rv,cv']++[])))=H7 at s7 e7⊢;have z7:=z2.same s7;have l7:=z2.l0 nx;have g7:=z2.g0 nx;have x7:iG F2 H2 (F2.ER x (.ins a.lJ dx (uB.zip [bV ci,bV (nE d),Xi d,rv,cv']))) H7:=(iG.same s7).ER nx g7;exact k (.ref x) _ H7 (x2.trans x7) (z7.ER l7 e7) ⟨(ci:Int),x,dx,rv,cv',rfl,Fr.om,hr.le x7.le,Vd.le x7.le⟩
  have Zk6:jX fs c next=none->∀H',aS H H'->E (.ref a.g9) none H':=fun e=>by rw[e]at k;exact k
  have Zn5:∀{val:dh}{v:V}{hd:ao}{H':Hp},aS H H'->H hd=none->H' hd=some (.dK [])->RM a (cu (bp H hd (.dK [])) H') t hd val v->Ep a (F.row H H' hd val) (c.text,val) v:=fun{val v hd H'} s' n' e' h=> ⟨t,hd,h.same Fr.Zhz,(iG.row zF s' n' e').1.le.gs _ _ c3,Fr.Ze2⟩;refine⟨_,Z,y,_,dy,_,_,Z,c1',T.cY,T.cj,Z,Z,_,Z,?_⟩;by_cases n2:c.num=2
  ·rw[show decide (bV c.num=V.int 2)=true by rw[n2];rfl];have ep:jX fs c next=(mP fs c.text).map fun v=> .put next (c.text,v):=by unfold jX;rw[ak n2]
   refine bQ ⟨_,Z,y,_,dy,_,_,Z,c1',T.cY,T.mI,Z,_,Z,_,Z,_,Z,y,_,dy,_,_,Z,c1',T.cY,T.nZ,Z,sv,t,c.text,fs,Z,Zn4,L6,c3',o4,?_⟩;cases er:mP fs c.text with
   |none=>exact Zk6 (by rw[ep,er];rfl)
   |some val=>intro v hd H2 s2 n2 e2 hv;refine fun x dx nx ndx nex=> ⟨x,dx,_,Z,Z,au,Z,?_⟩;rw[fC];exact yC (.put next (c.text,val)) _ H2 v .ik (iG.row zF s2 n2 e2).1 (iG.row zF s2 n2 e2).2 (Zn5 s2 n2 e2 hv) Z (by rw[ep,er];rfl) x dx nx ndx
  rw[show decide (bV c.num=V.int 2)=false from pB n2];refine bx ⟨_,Z,y,_,dy,_,_,Z,c1',T.cY,T.cj,Z,Z,_,Z,?_⟩;by_cases n4:c.num=4
  ·rw[show decide (bV c.num=V.int 4)=true by rw[n4];rfl];have ep:jX fs c next=(gC (dP fs) c.text).map .ask:=by unfold jX;rw[ah n2,ak n4]
   refine bQ ⟨_,Z,y,_,dy,_,_,Z,c1',T.cY,T.mI,Z,_,Z,_,Z,y,_,dy,_,_,Z,c1',T.cY,T.nZ,Z,sv,t,c.text,fs,Off F.G H,Z,Off.free,Zn3.same (Off.in zF),c3',o4,?_⟩;cases er:gC (dP fs) c.text with
   |none=>exact Zk6 (by rw[ep,er];rfl)
   |some pc=>intro v H2 s2 hv;refine fun x dx nx ndx nex=> ⟨x,dx,_,Z,Z,au,Z,?_⟩;rw[fC];obtain⟨xa,za⟩:=iG.add zF s2;exact yC (.ask pc) _ H2 .ik v (xa.N1 (p:=(ci:Int)) (c:=pc)) (za.N1 hgl) Z ⟨fR.same (Off.add zF s2) _ _ hv,N2 hgm⟩ (by rw[ep,er];rfl) x dx nx ndx
  rw[show decide (bV c.num=V.int 4)=false from pB n4];refine bx ⟨_,Z,y,_,dy,_,_,Z,c1',T.cY,T.cj,Z,Z,_,Z,?_⟩;have hn:∃n0 n1,c.eV=[n0,n1]:=by
   have e:c.eV.length=2:=by
    have:c.num=3\/c.num=5\/c.num=6:=by omega
    rcases this with z|z|z<;>rw[o2,z]<;>rfl
   match h:c.eV,e with
   |[n0,n1],_=>exact⟨n0,n1,Z⟩
  obtain⟨n0,n1,hn⟩:=hn;have hat:atI (c.eV.map V.int) 1=some (.int n1):=by rw[hn];exact fh (xs:=[V.int n0,V.int n1]) (j:=1) Z
  have hgd:c.eV.getD 1 0=n1:=by rw[hn];rfl
  by_cases n5:c.num=5
  ·rw[show decide (bV c.num=V.int 5)=true by rw[n5];rfl];have ep:jX fs c next=(mP fs c.text).map fun v=> .replace n1 (c.text,v):=by unfold jX;rw[ah n2,ah n4,ak n5,hgd]
   refine bQ ⟨_,Z,y,_,dy,_,_,Z,c1',T.cY,T.mI,Z,_,Z,y,_,dy,_,_,Z,c1',T.cY,T.dB,Z,q,_,_,_,Z,Z,ft.of c2',hat,_,Z,_,Z,y,_,dy,_,_,Z,c1',T.cY,T.nZ,Z,sv,t,c.text,fs,Z,Zn4,L6,c3',o4,?_⟩;cases er:mP fs c.text with
   |none=>exact Zk6 (by rw[ep,er];rfl)
   |some val=>intro v hd H2 s2 n2 e2 hv;refine fun x dx nx ndx nex=> ⟨x,dx,_,Z,Z,au,Z,?_⟩;rw[fC];exact yC (.replace n1 (c.text,val)) _ H2 v .ik (iG.row zF s2 n2 e2).1 (iG.row zF s2 n2 e2).2 (Zn5 s2 n2 e2 hv) Z (by rw[ep,er];rfl) x dx nx ndx
  rw[show decide (bV c.num=V.int 5)=false from pB n5];refine bx ⟨_,Z,y,_,dy,_,_,Z,c1',T.cY,T.mI,Z,_,Z,y,_,dy,_,_,Z,c1',T.cY,T.cj,Z,_,Z,y,_,dy,_,_,Z,c1',T.cY,T.dB,Z,q,_,_,_,Z,Z,ft.of c2',hat,fun x dx nx ndx nex=> ⟨x,dx,_,Z,Z,au,Z,?_⟩⟩;rw[fC];by_cases n3:c.num=3
  ·have:=yC (.look n1) F H .ik .ik (iG.refl F H) zF Z Z (by unfold jX;rw[ah n2,ah n4,ah n5,ak n3,hgd]) x dx nx ndx;rw[n3];exact this
  ·have n6:c.num=6:=by omega
   have:=yC (.drop n1) F H .ik .ik (iG.refl F H) zF Z Z (by unfold jX;rw[ah n2,ah n4,ah n5,ah n3,hgd]) x dx nx ndx;rw[n6];exact this
end
end MW
namespace L2
open PySem PySem.Spec PyProof.Rows
section
variable{K:ae}{X:Cx K}
inductive ZmJ{K:ae}(X:Cx K)(k:Nat)(f:ao)(sp:Sp):Prop
 |mk (fd:eL) (ps:LS) (_:ue X.prog X.w K X.mg X.base (Be X.prog X.w) k f fd ps sp) (_:j5 K (.ref f)=true) (_:lF K fd ps [])
inductive ZhC{K:ae}(X:Cx K)(k:Nat)(E:XK)(t:TA)(σ:St)(Q:VK)(x:V)(H1:Hp):Prop
 |mk (f:_) (sp:_) (_:x= .ref f) (_:ZmJ X k f sp) (_:t σ H1 fun xs H2=>sp xs H2 Q E)
def Zkd{K:ae}(X:Cx K)(k:Nat)(E:XK)(tf:TE)(t:TA):TE:=fun σ H Q=>tf σ H fun x H1=>ZhC X k E t σ Q x H1
theorem Ze7{k:Nat}{E:XK}{a b e:Expr}{es:List Expr}{p pos:Pos}{tf:TE}{t:TA}(hf:PE X (.Subscript a b p) tf)(hr:ku k X.A)(hx:mn (Be X.prog X.w) X E)(ha:PA X (e::es) t) (he:bY (e::es) X.bS=(false,jb e X.bS)::bY es X.bS:=by rfl)(hpl:(km pos (bY es X.bS)).any (·.1)=false:=by rfl):PE X (.Call (.Subscript a b p) (e::es) [] pos) (Zkd X k E tf t):=by intro aw s σ H Q I h;have arm:jb (.Call (.Subscript a b p) (e::es) [] pos) X.bS=(do Z4 pos (<-jb (.Subscript a b p) X.bS) [] (km pos (bY (e::es) X.bS)) (Jg pos (ug [] X.bS))):=rfl;rw[arm];refine bA (jK (hf aw s σ H _ I h) fun u s1 ⟨x,H1,I1,rx,f,sp,ex,⟨fd,ps,F,hk,hb⟩,q⟩=>?_);subst ex;obtain rfl:u=aj.ref f:=rx;refine ud (h₀:=X.base) I1.ok.Mj.kin hk (jK (ha pos aw s1 σ H1 _ I1 q) fun us s2 ⟨vs,H2,I2,r,q2⟩=> ⟨I2.EV,?_⟩) he hpl;exact SI F hr hb .nil hx I2 r (by rw[cJ];exact q2)
end
theorem AR{K:ae}{H:Hp}:∀t:List Int,E1 K H (t.map V.int) (t.map bJ.int)
 |[]=> .nil
 |c::r=> .cons (.int _) (AR r)
theorem IF:∀s t:List Int,bJ.eqvAll (s.map bJ.int) (t.map bJ.int)=decide (s=t)
 |[],[]=>by simp[bJ.eqvAll]
 |[],d::t=>by simp[bJ.eqvAll]
 |c::s,[]=>by simp[bJ.eqvAll]
 |c::s,d::t=>by rw[aY,aY,bJ.eqvAll,bJ.eqv,IF s t,dI];simp
theorem RQ:∀t:List Int,bJ.canLayAll0 (t.map bJ.int)=true
 |[]=>rfl
 |c::r=>by rw[aY,bJ.canLayAll0,RQ r];rfl
theorem Kz:∀t:List Int,bJ.depthAll (t.map bJ.int)<=1
 |[]=>by simp[bJ.depthAll]
 |c::r=>by rw[aY,bJ.depthAll,bJ.depth];have:=Kz r;omega
theorem uD(t:List Int):SeqAt.shaped (.list (t.map bJ.int))=true:=by unfold SeqAt.shaped;rw[bJ.canLay0,RQ,bJ.depth,aD (by have:=Kz t;omega)];rfl
section
variable{K:ae}{X:Cx K}
inductive Zke(f:Bool->Bool)(x:V)(y:V)(H:Hp)(Q:VK):Prop
 |mk (p q:ao) (s t:List Int) (_:x= .ref p) (_:y= .ref q) (_:H p=some (.bz (s.map V.int))) (_:H q=some (.bz (t.map V.int))) (_:Q (.bl (f (decide (s=t)))) H)
theorem Zkf(hu:X.A.units+64<oN):uL X (di .Eq) (Zke id):=by intro aw s σ H x y v u Q I rx ry h;obtain⟨p,q,s',t,rfl,rfl,hp,hq,k⟩:=h;refine SN hu aw s σ H _ _ v u Q I rx ry ⟨_,_,.bz (ft.of hp) (AR s'),.bz (ft.of hq) (AR t),uD _,uD _,?_⟩;rw[bJ.eqv,IF];exact k
theorem Ze8(hu:X.A.units+64<oN):uL X (di .NotEq) (Zke not):=by intro aw s σ H x y v u Q I rx ry h;obtain⟨p,q,s',t,rfl,rfl,hp,hq,k⟩:=h;refine ZdV hu aw s σ H _ _ v u Q I rx ry ⟨_,_,.bz (ft.of hp) (AR s'),.bz (ft.of hq) (AR t),uD _,uD _,?_⟩;rw[bJ.eqv,IF];exact k
end
end L2
namespace MW
open PySem PySem.Spec PyProof.Rows L2
variable{P:aV}{w:bG}{K:ae}{mg:SV}{base:bb}{a:cV}
def pE:cN->Prop
 | .int n=>2<=n/\n<=64
 |_=>True
def N5(s:LN):Prop:=∃d r,s=d::r/\aJ d=true
theorem tP{m n:Nat}{t s:LN}:pq m t=some (n,s)↔ip t=some (n,s)/\(t.takeWhile aJ).length<=m:=by
 unfold pq ip;fin2;by_cases h1:t.takeWhile aJ=[]\/((t.takeWhile aJ).head?=some 48/\1< (t.takeWhile aJ).length)
 ·rw[ak h1,ak (by rcases h1 with z|z;exact .inl z;exact .inr (.inr z))];simp
 ·rw[ah h1];by_cases h2:(t.takeWhile aJ).length<=m
  ·rw[ah (by
    rintro (z|z|z)
    ·exact h1 (.inl z)
    ·omega
    ·exact h1 (.inr z))]
   simp[h2]
  ·rw[ak (.inr (.inl (by omega)))];simp[h2]
theorem AS:∀(run:LN)(bI:Nat),bI*10^run.length<=run.foldl (fun n c=>10*n+(c-48)) bI
 |[],bI=>by simp
 |c::r,bI=>by have:=AS r (10*bI+(c-48));rw[nM,bg,Nat.pow_succ];refine cc ?_ this;rw[Nat.mul_comm (10^r.length) 10,<-Nat.mul_assoc,Nat.mul_comm bI 10];exact Nat.mul_le_mul_right _ (O9 _ _)
theorem N6{p:Nat->Bool}:∀(t:LN)(c:Nat),c∈t.takeWhile p->p c=true
 |[],c,h=>by cases h
 |d::r,c,h=>by
  rw[nu]at h;split at h
  ·rename_i hd;rcases aU.mp h with z|z
   ·rw[z];exact hd
   ·exact N6 r c z
  ·cases h
theorem N7{t:LN}{c:Nat}{r:LN}(h:t.takeWhile aJ=c::r):aJ c=true:=by
 have:c∈t.takeWhile aJ:=by rw[h];exact aM
 exact N6 _ _ this
theorem qJ{c:Nat}(h:aJ c=true):48<=c/\c<=57:=by unfold aJ at h;rw[bu]at h;exact⟨of_decide_eq_true h.1,of_decide_eq_true h.2⟩
theorem G2{t s:LN}{n:Nat}(h:ip t=some (n,s))(hl:19< (t.takeWhile aJ).length):10^19<=n:=by
 unfold ip at h;dsimp only at h;split at h
 ·cases h
 ·rename_i hz;have e:cS (t.takeWhile aJ)=n:=aA bU (af h);cases hr:t.takeWhile aJ with
  |nil=>exact absurd (.inl hr) hz
  |cons c r=>
   have hc:=qJ (N7 hr);have U4:c≠48:=fun z=>hz (.inr ⟨by rw[hr,z];rfl,by omega⟩);rw[hr]at hl e;rw[<-e];unfold cS;rw[nM];have:=AS r (10*0+(c-48));refine cc ?_ this;have l1:10^19<=10^r.length:=Nat.pow_le_pow_right (by decide) (by simp at hl;omega);have l2:1<=10*0+(c-48):=by omega
   have l3:=Nat.mul_le_mul_right (10^r.length) l2;rw[Nat.one_mul]at l3;exact cc l1 l3
theorem Zkg{n:Nat}(h:2<=n/\n<=64):(2^(n-1):Int)<=2^63:=by have:(2:Nat)^(n-1)<=2^63:=Nat.pow_le_pow_right (by decide) (by omega);exact_mod_cast this
theorem ZaO{n:Nat}(hn:2<=n/\n<=64)(t:LN):kP (.int n) t=match fO (.int n) t with
  |some (v,r)=>if DN (.int n) v=true then some (v,r)else none
  |none=>none:=by
 have hb:=Zkg hn;have hp:(0:Int)<2^(n-1):=Int.pow_pos (by decide);unfold kP;fin2;unfold mv;have lo:pd (.int n)= -(2^(n-1):Int):=rfl;have hi:pj (.int n)=(2^(n-1):Int)-1:=rfl;have big:((10:Nat)^19:Int) >2^63:=by decide
 have fit:∀z:Int,DN (.int n) (.num z)=(decide (-(2^(n-1):Int)<=z)&&decide (z< (2^(n-1):Int))):=fun _=>rfl;by_cases h45:t.head?=some 45
 ·obtain⟨r,rfl⟩:∃r,t=45::r:=by
   cases t with
   |nil=>cases h45
   |cons c r=>exact⟨r,by rw[af h45]⟩
  rw[ak h45];have er:fO (.int n) (45::r)=(match ip r with
   |some (n,s)=>if n=0 then none else some (.num (-(n:Int)),s)
   |none=>none):=rfl
  rw[er];dsimp only[List.tail_cons];cases hd:ip r with
  |none=>
   have:pq 19 r=none:=by
    cases h:pq 19 r with
    |none=>rfl
    |some y=>rw[(tP.mp h).1]at hd;cases hd
   rw[this];rfl
  |some y=>
   obtain⟨m,s⟩:=y;by_cases hl:(r.takeWhile aJ).length<=19
   ·rw[tP.mpr ⟨hd,hl⟩];fin2;by_cases h0:m=0
    ·rw[ak h0,ak h0];rfl
    ·rw[ah h0,ah h0];fin2;rw[lo,hi,fit];by_cases hf: -(2^(n-1):Int)<= -(m:Int)/\ -(m:Int)< (2^(n-1):Int)
     ·rw[ah (by omega),aD hf.1,aD hf.2];rfl
     ·rw[ak (by omega)];rw[ah (by rw[bu,decide_eq_true_eq,decide_eq_true_eq];exact hf)];rfl
   ·have e:pq 19 r=none:=by
     cases h:pq 19 r with
     |none=>rfl
     |some y=>exact absurd (tP.mp h).2 hl
    rw[e];have hm:=G2 hd (by omega);have h0:m≠0:=fun z=>by rw[z]at hm;exact absurd hm (by decide)
    fin2;rw[ah h0];fin2;rw[fit,ah (by
     rw[bu,decide_eq_true_eq,decide_eq_true_eq];intro hf;have:((10:Nat)^19:Int)<=(m:Int):=by exact_mod_cast hm
     omega)]
    rfl
 ·rw[ah h45];have er:fO (.int n) t=(ip t).map fun x=> (.num (x.1:Int),x.2):=by
   unfold fO;split<;>first|rfl|(rename_i h;cases h)|skip
   all_goals first|rfl|(exfalso;apply h45;simp_all)
  rw[er];cases hd:ip t with
  |none=>
   have:pq 19 t=none:=by
    cases h:pq 19 t with
    |none=>rfl
    |some y=>rw[(tP.mp h).1]at hd;cases hd
   rw[this];rfl
  |some y=>
   obtain⟨m,s⟩:=y;dsimp only[eK];by_cases hl:(t.takeWhile aJ).length<=19
   ·rw[tP.mpr ⟨hd,hl⟩];fin2;rw[lo,hi,fit];by_cases hf: -(2^(n-1):Int)<=(m:Int)/\(m:Int)< (2^(n-1):Int)
    ·rw[ah (by omega),aD hf.1,aD hf.2];rfl
    ·rw[ak (by omega)];rw[ah (by rw[bu,decide_eq_true_eq,decide_eq_true_eq];exact hf)];rfl
   ·have e:pq 19 t=none:=by
     cases h:pq 19 t with
     |none=>rfl
     |some y=>exact absurd (tP.mp h).2 hl
    rw[e];have hm:=G2 hd (by omega);rw[fit,ah (by
     rw[bu,decide_eq_true_eq,decide_eq_true_eq];intro hf;have:((10:Nat)^19:Int)<=(m:Int):=by exact_mod_cast hm
     omega)]
    rfl
theorem RR{n:Nat}{t:LN}(h:t.head?≠some 34):fO (.text n) t=none:=by unfold fO;split<;>simp_all
theorem ZhD{n:Nat}{t:LN}(h:t.head?≠some 34):vM n t=none:=by unfold vM;split<;>simp_all
theorem bO{t:LN}{c:Nat}(h:t.head?=some c):∃r,t=c::r:=by
 cases t with
 |nil=>cases h
 |cons d r=>exact⟨r,by rw[af h]⟩
theorem Xo{n:Nat}(t:LN):kP (.text n) t=match fO (.text n) t with
  |some (v,r)=>if DN (.text n) v=true then some (v,r)else none
  |none=>none:=by
 by_cases ZV:t.head?=some 34
 ·obtain⟨r,rfl⟩:=bO ZV;have e1:fO (.text n) (34::r)=(bH r).map fun x=> (.str x.1,x.2):=rfl;have e2:kP (.text n) (34::r)=((match bH r with
   |none=>none
   |some (s,u)=>if s.length<=n then some (s,u)else none:Option (LN×LN))).map fun x=> (.str x.1,x.2):=rfl
  rw[e1,e2];cases e:bH r with
  |none=>rfl
  |some y=>
   obtain⟨s,u⟩:=y;dsimp only[eK];have f:DN (.text n) (.str s)=decide (s.length<=n):=rfl;rw[f];by_cases h:s.length<=n
   ·rw[ak h,aD h];rfl
   ·rw[ah h,ay h];rfl
 ·rw[RR ZV];show(vM n t).map _=none;rw[ZhD ZV];rfl
theorem Xp{t:LN}(h:t.head?≠some 48)(h':t.head?≠some 49):fO .bit t=none:=by unfold fO;split<;>simp_all
theorem Zkh{c:Nat}{r:LN}(h:aJ c=true)(hr:¬N5 r):(c::r).takeWhile aJ=[c]/\(c::r).dropWhile aJ=r:=by
 cases r with
 |nil=>simp[h]
 |cons d r=>
  have:aJ d=false:=by
   cases e:aJ d with
   |false=>rfl
   |true=>exact absurd ⟨d,r,Z,e⟩ hr
  simp[h,this]
theorem ZhE{t s:LN}{x:gK}(h:kP .bit t=some (x,s)):fO .bit t=some (x,s)/\DN .bit x=true:=by
 have e0:kP .bit t=(mv 0 1 t).map fun x=> (.num x.1,x.2):=rfl;rw[e0]at h;cases hw:mv 0 1 t with
 |none=>rw[hw]at h;cases h
 |some y=>
  obtain⟨z,u⟩:=y;rw[hw]at h;have e1:gK.num z=x:=aA bU (af h);have e2:u=s:=aA bo (af h);subst e1 e2;unfold mv at hw;split at hw
  ·exfalso;split at hw
   ·cases hw
   ·split at hw
    ·cases hw
    ·split at hw
     ·cases hw
     ·rename_i h1 h2;have:=af hw;omega
  ·cases hd:pq 19 t with
   |none=>rw[hd]at hw;cases hw
   |some y=>
    obtain⟨m,u'⟩:=y;rw[hd]at hw;dsimp only at hw;split at hw
    ·cases hw
    ·rename_i hb;have e3:(m:Int)=z:=aA bU (af hw);have e4:u'=u:=aA bo (af hw);subst e3 e4;have hm:m<=1:=by omega
     obtain⟨h1,_⟩:=tP.mp hd;unfold ip at h1;dsimp only at h1;split at h1
     ·cases h1
     ·rename_i hz;have e5:cS (t.takeWhile aJ)=m:=aA bU (af h1);have e6:t.dropWhile aJ=u':=aA bo (af h1);cases hr:t.takeWhile aJ with
      |nil=>exact absurd (.inl hr) hz
      |cons c r=>
       have hc:=qJ (N7 hr);have hr0:r=[]:=by
        cases r with
        |nil=>rfl
        |cons c2 r2=>exfalso;have U4:c≠48:=fun q=>hz (.inr ⟨by rw[hr,q];rfl,by rw[hr];simp⟩);rw[hr]at e5;unfold cS at e5;rw[nM,nM]at e5;have:=AS r2 (10*(10*0+(c-48))+(c2-48));rw[e5]at this;have l1:1<=10^r2.length:=Vj _ _ (by decide);have l2:10*(10*0+(c-48))+(c2-48)<=(10*(10*0+(c-48))+(c2-48))*10^r2.length:=yw _ l1;omega
       subst hr0;rw[hr]at e5;have e7:c-48=m:=by rw[<-e5];simp[cS]
       have ht:t=c::u':=by have:=j6 (p:=aJ) (l:=t);rw[hr,e6]at this;exact this.symm
       have:c=48\/c=49:=by omega
       rcases this with z|z
       ·subst z;have:m=0:=by omega
        subst this;rw[ht];exact⟨Z,Z⟩
       ·subst z;have:m=1:=by omega
        subst this;rw[ht];exact⟨Z,Z⟩
theorem ZhF{t s:LN}{x:gK}(h:fO .bit t=some (x,s)):kP .bit t=some (x,s)\/N5 s:=by
 by_cases hs:N5 s
 ·exact .inr hs
 left;have key:∀(c:Nat)(z:Nat),aJ c=true->c≠45->cS [c]=z->z<=1->t=c::s->kP .bit t=some (.num (z:Int),s):=by
  intro c z hc h45 hw hz ht;subst ht;obtain⟨e1,e2⟩:=Zkh hc hs;show((mv 0 1 (c::s)).map fun x=> (gK.num x.1,x.2))=_;unfold mv;rw[ah (by simpa using h45)];have:pq 19 (c::s)=some (z,s):=by unfold pq;rw[e1,e2,hw];rw[ah (by simp)]
  rw[this];fin2;rw[ah (by omega)];rfl
 by_cases U4:t.head?=some 48
 ·obtain⟨r,rfl⟩:=bO U4;have e:(gK.num 0,r)=(x,s):=af h;have e1:gK.num 0=x:=aA bU e;have e2:r=s:=aA bo e;subst e1 e2;exact key 48 0 Z (by decide) Z (by decide) Z
 ·by_cases h49:t.head?=some 49
  ·obtain⟨r,rfl⟩:=bO h49;have e:(gK.num 1,r)=(x,s):=af h;have e1:gK.num 1=x:=aA bU e;have e2:r=s:=aA bo e;subst e1 e2;exact key 49 1 Z (by decide) Z (by decide) Z
  ·rw[Xp U4 h49]at h;cases h
theorem LX{l:cN}(ok:pE l){t s:LN}{x:gK}(h:kP l t=some (x,s)):fO l t=some (x,s)/\DN l x=true:=by
 have gen:(kP l t=match fO l t with
  |some (v,r)=>if DN l v=true then some (v,r)else none
  |none=>none)->fO l t=some (x,s)/\DN l x=true:=fun e=>by
  rw[e]at h;split at h
  ·rename_i v r e2;split at h
   ·rename_i hf;have e3:v=x:=aA bU (af h);have e4:r=s:=aA bo (af h);subst e3 e4;exact⟨e2,hf⟩
   ·cases h
  ·cases h
 cases l with
 |bit=>exact ZhE h
 |int n=>exact gen (ZaO ok t)
 |text n=>exact gen (Xo t)
theorem Uu{l:cN}(ok:pE l){t s:LN}{x:gK}(h:fO l t=some (x,s))(hf:DN l x=true):kP l t=some (x,s)\/N5 s:=by
 cases l with
 |bit=>exact ZhF h
 |int n=>left;rw[ZaO ok t,h];fin2;rw[ak hf]
 |text n=>left;rw[Xo t,h];fin2;rw[ak hf]
theorem da{ε α β:Type}{x:Except ε α}{f:α->Except ε β}{b:β}:(x>>=f)= .ok b↔∃a,x= .ok a/\f a= .ok b:=by
 cases x with
 |error e=>exact⟨fun h=> (by cases h),fun⟨_,h,_⟩=> (by cases h)⟩
 |ok a=>exact⟨fun h=> ⟨a,Z,h⟩,fun⟨_,h,h2⟩=> (by cases h;exact h2)⟩
theorem Zs{ε α β:Type}{x:Except ε α}{f:α->β}{b:β}:x.map f= .ok b↔∃a,x= .ok a/\f a=b:=by
 cases x with
 |error e=>exact⟨fun h=> (by cases h),fun⟨_,h,_⟩=> (by cases h)⟩
 |ok a=>exact⟨fun h=> ⟨a,Z,(by cases h;rfl)⟩,fun⟨_,h,h2⟩=> (by cases h;rw[<-h2];rfl)⟩
noncomputable def xc(eP:List cH)(h:cH):Bool:=(match eP with
 |x::_=>decide (x.number<h.number)
 |[]=>true)&&eP.all fun x=>decide (x.name≠h.name)
def KA(pk:RK)(c:Bool):Nat->List cH->LN->Option (Zvn×LN)
 |0,_,_=>none
 |f+1,eP,t=>match jm pk c t with
  |none=>none
  |some (x,s)=>if xc eP x.1=true then(if s.head?=some 59 then(KA pk c f (x.1::eP) s.tail).map fun y=> (.cons x.1 x.2 y.1,y.2)else if s.head?=some (bP c)then some (.cons x.1 x.2 .nil,s.tail)else none)else none
theorem N8{pk:RK}(hp:Shr pk){c:Bool}:∀(f g:Nat)(b:List cH)(t:LN),t.length<f->t.length<g->KA pk c f b t=KA pk c g b t
 |0,_,_,_,h,_=>absurd h (de _)
 |_,0,_,_,_,h=>absurd h (de _)
 |f+1,g+1,b,t,h1,h2=>by
  rw[KA,KA];cases e:jm pk c t with
  |none=>rfl
  |some y=>
   obtain⟨x,s⟩:=y;fin2;have l:=px hp e;by_cases BN:s.head?=some 59
   ·have l2:=dS BN;rw[N8 hp f g (x.1::b) s.tail (by omega) (by omega)]
   ·rw[ah BN,ah BN]
theorem Zt(bI:List (cH×bW))(h:cH):wY bI h=xc (bI.map (·.1)).reverse h:=by
 unfold wY xc;congr 1
 ·rw[<-List.map_reverse];rcases List.eq_nil_or_concat bI with e|⟨l,x,e⟩
  ·subst e;rfl
  ·subst e;simp
 ·rw[List.all_reverse,List.all_map];rfl
theorem dA(h:cH)(k:bW)(r:Zvn):(Zvn.cons h k r).list=(h,k)::r.list:=rfl
theorem Xq{pk:RK}(hp:Shr pk){c:Bool}:∀(f:Nat)(bI:List (cH×bW))(s:LN)(g:Nat),s.length<f->s.length<g->(match mO pk c f bI s with
   |none=>none
   |some (xs,t3)=>if t3.head?=some (bP c)then some (fieldsOf xs,t3.tail)else none)=
  (if s.head?=some 59 then(KA pk c g (bI.map (·.1)).reverse s.tail).map fun y=> (fieldsOf (bI++y.1.list),y.2)else if s.head?=some (bP c)then some (fieldsOf bI,s.tail)else none)
 |0,_,_,_,h,_=>absurd h (de _)
 |f+1,bI,s,0,_,h=>absurd h (de _)
 |f+1,bI,s,g+1,h1,h2=>by
  rw[mO];by_cases BN:s.head?=some 59
  ·rw[ak BN,ak BN,KA];have l0:=dS BN;cases e:jm pk c s.tail with
   |none=>rfl
   |some y=>
    obtain⟨x,u⟩:=y;fin2;have l:=px hp e;rw[Zt];by_cases hb:xc (bI.map (·.1)).reverse x.1=true
    ·rw[ak hb,ak hb];have ih:=Xq hp (c:=c) f (bI++[x]) u g (by omega) (by omega);rw[ih];have er:((bI++[x]).map (·.1)).reverse=x.1::(bI.map (·.1)).reverse:=by simp
     rw[er];by_cases hu:u.head?=some 59
     ·rw[ak hu,ak hu];cases KA pk c g (x.1::(bI.map (·.1)).reverse) u.tail with
      |none=>rfl
      |some z=>show some (fieldsOf (bI++[x]++z.1.list),z.2)=some (fieldsOf (bI++(x::z.1.list)),z.2);rw[dJ];rfl
     ·rw[ah hu,ah hu];by_cases hcl:u.head?=some (bP c)
      ·rw[ak hcl,ak hcl];rfl
      ·rw[ah hcl,ah hcl];rfl
    ·rw[ah hb,ah hb];rfl
  ·rw[ah BN,ah BN]
theorem AU{pk:RK}(hp:Shr pk){c:Bool}(t:LN):qH pk c t=(KA pk c (t.length+1) [] t).map fun y=> (.group c y.1,y.2):=by
 unfold qH;rw[KA];cases e:jm pk c t with
 |none=>rfl
 |some y=>
  obtain⟨x,s⟩:=y;fin2;have l:=px hp e;rw[ak (show xc [] x.1=true from Z)];have h:=Xq hp (c:=c) (s.length+1) [x] s t.length (by omega) l;have tS:(if s.head?=some 59 then(KA pk c t.length ([x].map (·.1)).reverse s.tail).map fun y=> (fieldsOf ([x]++y.1.list),y.2)else if s.head?=some (bP c)then some (fieldsOf [x],s.tail)else none)=(if s.head?=some 59 then(KA pk c t.length (x.1::[]) s.tail).map fun y=> (Zvn.cons x.1 x.2 y.1,y.2)else if s.head?=some (bP c)then some (.cons x.1 x.2 .nil,s.tail)else none):=by
   by_cases BN:s.head?=some 59
   ·rw[ak BN,ak BN];show Option.map _ (KA pk c t.length [x.1] s.tail)=Option.map _ (KA pk c t.length [x.1] s.tail);cases KA pk c t.length [x.1] s.tail with
    |none=>rfl
    |some z=>show some (Zvn.cons x.1 x.2 (fieldsOf z.1.list),z.2)=some (Zvn.cons x.1 x.2 z.1,z.2);rw[pZ]
   ·rw[ah BN,ah BN];rfl
  rw[tS]at h;rw[<-h];cases mO pk c (s.length+1) [x] s with
  |none=>rfl
  |some z=>fin2;split<;>rfl
theorem xf{t s:LN}{n:Nat}:(pq 3 t=some (n,s)/\n≠0)↔eF t=some (n,s):=by
 unfold pq eF;fin2;by_cases h0:t.takeWhile aJ=[]
 ·rw[ak (.inl h0),ak (.inl h0)];simp
 ·cases hr:t.takeWhile aJ with
  |nil=>exact absurd hr h0
  |cons c r=>
   have hc:=qJ (N7 hr);by_cases U4:c=48
   ·subst U4;rw[ak (show(48::r=[]\/(48::r).head?=some 48\/3< (48::r).length)from .inr (.inl Z))];by_cases hl:1< (48::r).length
    ·rw[ak (.inr (.inr ⟨Z,hl⟩))];simp
    ·have:r=[]:=by cases r with|nil=>rfl|cons _ _=>simp at hl
     subst this;rw[ah (by simp)];simp[cS];intro h;exact fun _=>h.symm
   ·by_cases hl:3< (c::r).length
    ·rw[ak (.inr (.inl (by omega))),ak (.inr (.inr hl))];simp
    ·rw[ah (by simp at hl⊢;omega),ah (by simp at hl⊢;omega)];refine⟨fun h=>h.1,fun h=> ⟨h,?_⟩⟩;have e:cS (c::r)=n:=aA bU (af h);intro z;rw[z]at e;unfold cS at e;rw[nM]at e;have:=AS r (10*0+(c-48));rw[e]at this;have l1:1<=10^r.length:=Vj _ _ (by decide);have l2:10*0+(c-48)<=(10*0+(c-48))*10^r.length:=yw _ l1;omega
def Ze9(f d su:Nat)(t3:LN)(k:bW)(t4:LN):Prop:=(∃c r fs,t3=(if c=true then 60 else 123)::r/\d<6/\ly f (d+1) c [] su r= .ok (fs,t4)/\k= .group c fs)\/(t3.head?≠some 123/\t3.head?≠some 60/\∃l,HA su t3= .ok (l,t4)/\k= .leaf l)
def ZmK(f d:Nat)(cR:Bool)(eP:List cH)(su:Nat)(h:cH)(k:bW)(t5:LN)(fs:Zvn)(u:LN):Prop:=(∃r aH,t5=59::r/\ly f d cR (h::eP) (su+gz k) r= .ok (aH,u)/\fs= .cons h k aH)\/(t5=bP cR::u/\fs= .cons h k .nil)
def Xr(eP:List cH)(n:Nat):Prop:=∀h r,eP=h::r->h.number<n
theorem ZaP(c:Bool):bP c≠59:=by cases c<;>decide
theorem Zfa{f d:Nat}{cR:Bool}{eP:List cH}{su:Nat}{t u:LN}{fs:Zvn}:ly (f+1) d cR eP su t= .ok (fs,u)↔∃n t1 m t3 k t4 df t5,eF t=some (n,t1)/\Xr eP n/\bF (t1.takeWhile ax)=true/\(eP.any fun h=>h.name==t1.takeWhile ax)=false/\Hz cR (t1.dropWhile ax)= .ok (m,t3)/\Ze9 f d su t3 k t4/\¬(m= .keyed/\(fF k).isNone=true)/\j3 cR m k t4= .ok (df,t5)/\ZmK f d cR eP su {number:=n,name:=t1.takeWhile ax,mode:=m,dflt:=df} k t5 fs u:=by
 rw[ly];rw[da];constructor
 ·rintro ⟨⟨n,t1⟩,h1,h⟩;dsimp only at h;rw[da]at h;obtain⟨⟨name,t2⟩,h2,h⟩:=h;dsimp only at h;rw[da]at h;obtain⟨⟨m,t3⟩,h3,h⟩:=h;dsimp only at h;rw[da]at h;obtain⟨⟨k,t4⟩,h4,h⟩:=h;dsimp only at h;have hn:eF t=some (n,t1)/\Xr eP n:=by
   unfold DO at h1;split at h1
   ·cases h1
   ·rename_i n' r e;split at h1
    ·cases h1;exact⟨e,fun h r z=>by cases z⟩
    ·rename_i hh tl;split at h1
     ·rename_i qR;cases h1;exact⟨e,fun h r z=>by injection z with z1 z2;rw[<-z1];exact qR⟩
     ·cases h1
  have hnm:bF (t1.takeWhile ax)=true/\(eP.any fun h=>h.name==t1.takeWhile ax)=false/\name=t1.takeWhile ax/\t2=t1.dropWhile ax:=by
   unfold O6 at h2;dsimp only at h2;split at h2
   ·cases h2
   ·rename_i g1;split at h2
    ·cases h2
    ·rename_i g2;cases h2;refine⟨?_,?_,Z,Z⟩
     ·cases e:bF (t1.takeWhile ax)with
      |true=>rfl
      |false=>exact absurd e g1
     ·cases e:eP.any fun h=>h.name==t1.takeWhile ax with
      |true=>exact absurd e g2
      |false=>rfl
  obtain⟨Ys,hn2⟩:=hn;obtain⟨g1,g2,rfl,rfl⟩:=hnm;have hk:Ze9 f d su t3 k t4:=by
   split at h4
   ·rename_i r;split at h4
    ·cases h4
    ·rename_i hd;rw[da]at h4;obtain⟨⟨gs,s⟩,e1,e2⟩:=h4;cases e2;exact .inl ⟨false,r,gs,Z,by have:¬6<=d:=hd;omega,e1,Z⟩
   ·rename_i r;split at h4
    ·cases h4
    ·rename_i hd;rw[da]at h4;obtain⟨⟨gs,s⟩,e1,e2⟩:=h4;cases e2;exact .inl ⟨true,r,gs,Z,by have:¬6<=d:=hd;omega,e1,Z⟩
   ·rename_i q1 q2;rw[Zs]at h4;obtain⟨⟨l,s⟩,e1,e2⟩:=h4;cases e2;refine .inr ⟨fun z=>?_,fun z=>?_,l,e1,Z⟩
    ·obtain⟨r,e⟩:=bO z;exact q1 r e
    ·obtain⟨r,e⟩:=bO z;exact q2 r e
  split at h
  ·cases h
  ·rename_i vW;rw[da]at h;obtain⟨⟨df,t5⟩,h5,h⟩:=h;dsimp only at h;refine⟨n,t1,m,t3,k,t4,df,t5,Ys,hn2,g1,g2,h3,hk,vW,h5,?_⟩;split at h
   ·cases h
   ·rename_i c r;split at h
    ·rename_i hc;subst hc;rw[da]at h;obtain⟨⟨aH,s⟩,e1,e2⟩:=h;cases e2;exact .inl ⟨r,aH,Z,e1,Z⟩
    ·split at h
     ·rename_i hc;cases h;subst hc;exact .inr ⟨Z,Z⟩
     ·cases h
 ·rintro ⟨n,t1,m,t3,k,t4,df,t5,Ys,hn2,g1,g2,h3,hk,vW,h5,ht⟩;refine⟨(n,t1),?_,?_⟩
  ·unfold DO;rw[Ys];fin2;cases eP with
   |nil=>rfl
   |cons hh tl=>fin2;rw[ak (hn2 hh tl Z)]
  fin2;rw[da];refine⟨(t1.takeWhile ax,t1.dropWhile ax),?_,?_⟩
  ·unfold O6;fin2;rw[ah (by rw[g1];exact aK),ah (by rw[g2];exact aK)]
  fin2;rw[da];refine⟨(m,t3),h3,?_⟩;fin2;rw[da];refine⟨(k,t4),?_,?_⟩
  ·rcases hk with⟨c,r,gs,rfl,hd,e1,rfl⟩|⟨q1,q2,l,e1,rfl⟩
   ·have hd':¬Vacola.DEEP<=d:=by show¬6<=d;omega
    cases c with
    |false=>show(if Vacola.DEEP<=d then gQ 7 (123::r)else _)=_;rw[ah hd',da];exact⟨(gs,t4),e1,Z⟩
    |true=>show(if Vacola.DEEP<=d then gQ 7 (60::r)else _)=_;rw[ah hd',da];exact⟨(gs,t4),e1,Z⟩
   ·split
    ·exact absurd Z q1
    ·exact absurd Z q2
    ·rw[Zs];exact⟨(l,t4),e1,Z⟩
  fin2;rw[ah vW,da];refine⟨(df,t5),h5,?_⟩;fin2;rcases ht with⟨r,aH,rfl,e1,rfl⟩|⟨rfl,rfl⟩
  ·fin2;rw[ak Z,da];exact⟨(aH,u),e1,Z⟩
  ·fin2;rw[ah (ZaP cR),ak Z]
theorem IG{pk:RK}{cR:Bool}{t s:LN}{x:cH×bW}:jm pk cR t=some (x,s)↔∃n t1 m t3 k t4 df,eF t=some (n,t1)/\bF (t1.takeWhile ax)=true/\Gz cR (t1.dropWhile ax)=some (m,t3)/\pk t3=some (k,t4)/\¬(m= .keyed/\(fF k).isNone=true)/\vN cR m k t4=some (df,s)/\x=({number:=n,name:=t1.takeWhile ax,mode:=m,dflt:=df},k):=by
 unfold jm;constructor
 ·intro h;split at h
  ·cases h
  ·rename_i n t1 e1;split at h
   ·cases h
   ·rename_i hn0;split at h
    ·cases h
    ·rename_i hgn;split at h
     ·cases h
     ·rename_i m t3 e3;split at h
      ·cases h
      ·rename_i k t4 e4;split at h
       ·cases h
       ·rename_i vW;split at h
        ·cases h
        ·rename_i df t5 e5;have e:=af h;have e6:t5=s:=aA bo e;have e7:({number:=n,name:=t1.takeWhile ax,mode:=m,dflt:=df},k)=x:=aA bU e;subst e6;refine⟨n,t1,m,t3,k,t4,df,xf.mp ⟨e1,hn0⟩,?_,e3,e4,vW,e5,e7.symm⟩;cases q:bF (t1.takeWhile ax)with
         |true=>rfl
         |false=>exact absurd q hgn
 ·rintro ⟨n,t1,m,t3,k,t4,df,hn,hg,hm,hk,vW,hd,rfl⟩;obtain⟨e1,hn0⟩:=xf.mpr hn;rw[e1];fin2;rw[ah hn0,ah (by rw[hg];exact aK),hm];fin2;rw[hk];fin2;rw[ah vW,hd]
theorem N9{cR:Bool}{t s:LN}{m:eS}:Hz cR t= .ok (m,s)↔Gz cR t=some (m,s):=by
 unfold Hz Gz;cases t with
 |nil=>exact⟨fun h=> (by cases h),fun h=> (by cases h)⟩
 |cons c r=>
  fin2;cases lu c with
  |none=>exact⟨fun h=> (by cases h),fun h=> (by cases h)⟩
  |some m'=>
   fin2;split
   ·exact⟨fun h=> (by cases h),fun h=> (by cases h)⟩
   ·exact⟨fun h=> (by cases h;rfl),fun h=> (by cases h;rfl)⟩
theorem RS{t r s:LN}{lo hi:Nat}{mk:Nat->cN}{l:cN}:Zdf t r lo hi mk= .ok (l,s)↔(lL lo hi r).map (fun x=> (mk x.1,x.2))=some (l,s):=by
 unfold Zdf lL;cases eF r with
 |none=>exact⟨fun h=> (by cases h),fun h=> (by cases h)⟩
 |some y=>
  fin2;split
  ·exact⟨fun h=> (by cases h;rfl),fun h=> (by cases h;rfl)⟩
  ·exact⟨fun h=> (by cases h),fun h=> (by cases h)⟩
theorem Xs{su:Nat}{t s:LN}{l:cN}:HA su t= .ok (l,s)↔kD t=some (l,s)/\su<40:=by
 unfold HA;rw[da];have key:∀a:cN×LN,((match t with
  |98::r=> .ok (.bit,r)
  |105::r=>Zdf t r 2 64 .int
  |116::r=>Zdf t r 1 999 .text
  |_=>gQ 1 t:Except wd (cN×LN))= .ok a↔kD t=some a):=by
  rintro ⟨l,s⟩;cases t with
  |nil=>exact⟨fun h=> (by cases h),fun h=> (by cases h)⟩
  |cons c r=>
   by_cases h98:c=98
   ·subst h98;exact⟨fun h=> (by cases h;rfl),fun h=> (by cases h;rfl)⟩
   by_cases Zn7:c=105
   ·subst Zn7;exact RS
   by_cases Zn8:c=116
   ·subst Zn8;exact RS
   have e1:kD (c::r)=none:=by unfold kD;split<;>simp_all
   rw[e1];split
   ·rename_i z;injection z with z _;exact absurd z h98
   ·rename_i z;injection z with z _;exact absurd z Zn7
   ·rename_i z;injection z with z _;exact absurd z Zn8
   ·exact⟨fun h=> (by cases h),fun h=> (by cases h)⟩
 constructor
 ·rintro ⟨a,h1,h2⟩;split at h2
  ·cases h2
  ·rename_i hu;cases h2;exact⟨(key _).mp h1,by have:¬40<=su:=hu;omega⟩
 ·rintro ⟨h1,h2⟩;refine⟨(l,s),(key _).mpr h1,?_⟩;rw[ah (show¬Vacola.LEAVES<=su from(show¬40<=su by omega))]
theorem G3{t s:LN}{l:cN}(h:kD t=some (l,s)):pE l:=by
 unfold kD at h;split at h
 ·cases h;trivial
 ·rename_i r;cases e:lL 2 64 r with
  |none=>rw[e]at h;cases h
  |some y=>rw[e]at h;have e2:cN.int y.1=l:=aA bU (af h);rw[<-e2];exact WI (n:=y.1) (s:=y.2) e
 ·rename_i r;cases e:lL 1 999 r with
  |none=>rw[e]at h;cases h
  |some y=>rw[e]at h;have e2:cN.text y.1=l:=aA bU (af h);rw[<-e2];trivial
 ·cases h
def Zki(k:bW):Prop:=∀l,k= .leaf l->pE l
theorem ZaQ{cR:Bool}{m:eS}{k:bW}{t:LN}(h:t.head?≠some 61):j3 cR m k t= .ok (none,t):=by
 unfold j3;split
 ·exact absurd Z h
 ·rfl
theorem ZmL(cR:Bool)(m:eS)(k:bW)(r:LN):j3 cR m k (61::r)=(match cR,m,k with
 |false,.one,.leaf l=> (match fO l r with
  |none=>gQ 1 r
  |some (v,s)=>if DN l v=true then xr (some v,s)else gQ 5 r)
 |_,_,_=>gQ 9 (61::r)):=rfl
theorem ZaR{cR:Bool}{m:eS}{k:bW}{t s:LN}{df:Option gK}(ok:Zki k)(h:vN cR m k t=some (df,s)):j3 cR m k t= .ok (df,s):=by
 unfold vN at h;by_cases L4:t.head?=some 61
 ·obtain⟨r,rfl⟩:=bO L4;rw[ak L4]at h;unfold j3;dsimp only[List.tail_cons]at h⊢;split at h
  ·rename_i l;try dsimp only
   cases e:kP l r with
   |none=>rw[e]at h;cases h
   |some y=>
    obtain⟨x,u⟩:=y;rw[e]at h;cases h;obtain⟨e1,e2⟩:=LX (ok l Z) e;show(match fO l r with
     |none=>gQ 1 r
     |some (v,s)=>if DN l v=true then xr (some v,s)else gQ 5 r)=_
    rw[e1];fin2;rw[ak e2]
  ·cases h
 ·rw[ah L4]at h;cases h;exact ZaQ L4
theorem ZhG{cR:Bool}{m:eS}{k:bW}{t s:LN}{df:Option gK}(ok:Zki k)(h:j3 cR m k t= .ok (df,s)):vN cR m k t=some (df,s)\/N5 s:=by
 unfold vN;by_cases L4:t.head?=some 61
 ·obtain⟨r,rfl⟩:=bO L4;rw[ak L4];rw[ZmL]at h;dsimp only[List.tail_cons];split at h
  ·rename_i l;try dsimp only
   split at h
   ·cases h
   ·rename_i v u e;split at h
    ·rename_i hf;cases h;rcases Uu (ok l Z) e hf with z|z
     ·left;rw[z];rfl
     ·exact .inr z
    ·cases h
  ·cases h
 ·rw[ZaQ L4]at h;cases h;left;rw[ah L4]
theorem Er{eP:List cH}{h:cH}:xc eP h=true↔Xr eP h.number/\(eP.any fun x=>x.name==h.name)=false:=by
 unfold xc Xr;rw[bu];have e2:(eP.all fun x=>decide (x.name≠h.name))=true↔(eP.any fun x=>x.name==h.name)=false:=by
  rw[fU,wg];refine⟨fun q x hx=>?_,fun q x hx=>?_⟩
  ·have:=q x hx;simpa using this
  ·have:=q x hx;simpa using this
 rw[e2];refine and_congr_left fun _=>?_;cases eP with
 |nil=>exact⟨fun _ h r z=> (by cases z),fun _=>rfl⟩
 |cons x r=>exact⟨fun q h' r' z=> (by injection z with z1 z2;rw[<-z1];exact of_decide_eq_true q),fun q=>aD (q x r Z)⟩
theorem ZiF{s:LN}(h:N5 s){c:Nat}{r:LN}(e:s=c::r)(hc:c=59\/c=bP true\/c=bP false):False:=by obtain⟨d,r',e',hd⟩:=h;rw[e]at e';injection e' with e1 e2;have:=qJ hd;rw[<-e1]at this;have c1:bP true=62:=rfl;have c2:bP false=125:=rfl;omega
theorem Oa(m:Nat)(c:Bool)(r:LN):iq (m+1) ((if c=true then 60 else 123)::r)=qH (iS m) c r:=by
 rw[iq];cases c with
 |true=>rfl
 |false=>rfl
theorem qK:∀(f n:Nat)(cR:Bool)(eP:List cH)(su:Nat)(t:LN)(fs:Zvn)(u:LN),n<=6->t.length<f->(ly f (6-n) cR eP su t= .ok (fs,u)↔KA (iS n) cR f eP t=some (fs,u)/\su+bR fs<=40)
 |0,_,_,_,_,_,_,_,_,h=>absurd h (de _)
 |f+1,n,cR,eP,su,t,fs,u,hn6,hl=>by
  have kind:∀(t3 t4:LN)(k:bW),t3.length<f+1->(Ze9 f (6-n) su t3 k t4↔iS n t3=some (k,t4)/\su+gz k<=40):=by
   intro t3 t4 k hl3;have grp:∀(c:Bool)(r:LN),r.length<t3.length->∀gs,(n≠0/\ly f (6-n+1) c [] su r= .ok (gs,t4))↔(∃m,n=m+1/\KA (iS m) c (r.length+1) [] r=some (gs,t4))/\su+bR gs<=40:=by
    intro c r hr gs;cases n with
    |zero=>exact⟨fun h=>absurd Z h.1,fun⟨⟨m,h,_⟩,_⟩=>by cases h⟩
    |succ m=>
     have ih:=qK f m c [] su r gs t4 (by omega) (by omega);rw[N8 (jV m) f (r.length+1) [] r (by omega) (bT _)]at ih;rw[show 6-(m+1)+1=6-m by omega,ih];refine⟨fun h=> ⟨⟨m,Z,h.2.1⟩,h.2.2⟩,fun⟨⟨m',h1,h2⟩,h3⟩=> ⟨by omega,?_,h3⟩⟩;have:m=m':=by omega
     rw[this];exact h2
   unfold iS mw;constructor
   ·rintro (⟨c,r,gs,rfl,hd,e1,rfl⟩|⟨q1,q2,l,e1,rfl⟩)
    ·obtain⟨⟨m,rfl,e2⟩,e3⟩:=(grp c r (by simp) gs).mp ⟨by omega,e1⟩;rw[ak (by cases c<;>simp)];rw[Oa,AU (jV m),e2];exact⟨Z,e3⟩
    ·rw[ah (by rintro (z|z);exact q1 z;exact q2 z)];obtain⟨e2,e3⟩:=Xs.mp e1;rw[e2];exact⟨Z,by rw[gz];omega⟩
   ·rintro ⟨h,LC⟩;by_cases hg:t3.head?=some 123\/t3.head?=some 60
    ·rw[ak hg]at h;obtain⟨c,r,rfl⟩:∃(c:Bool)(r:LN),t3=(if c=true then 60 else 123)::r:=by
      rcases hg with z|z
      ·obtain⟨r,e⟩:=bO z;exact⟨false,r,e⟩
      ·obtain⟨r,e⟩:=bO z;exact⟨true,r,e⟩
     cases n with
     |zero=>cases h
     |succ m=>
      rw[Oa,AU (jV m)]at h;cases e:KA (iS m) c (r.length+1) [] r with
      |none=>rw[e]at h;cases h
      |some y=>obtain⟨gs,t4'⟩:=y;rw[e]at h;have e1:ua c gs=k:=aA bU (af h);have e2:t4'=t4:=aA bo (af h);subst e1 e2;rw[gz]at LC;obtain⟨_,e3⟩:=(grp c r (by simp) gs).mpr ⟨⟨m,Z,e⟩,LC⟩;exact .inl ⟨c,r,gs,Z,by omega,e3,Z⟩
    ·rw[ah hg]at h;cases e:kD t3 with
     |none=>rw[e]at h;cases h
     |some y=>obtain⟨l,t4'⟩:=y;rw[e]at h;have e1:iU l=k:=aA bU (af h);have e2:t4'=t4:=aA bo (af h);subst e1 e2;rw[gz]at LC;exact .inr ⟨fun z=>hg (.inl z),fun z=>hg (.inr z),l,Xs.mpr ⟨e,by omega⟩,Z⟩
  have okl:∀{t3 t4:LN}{k:bW},iS n t3=some (k,t4)->Zki k:=by
   intro t3 t4 k h l hk;subst hk;unfold iS mw at h;split at h
   ·obtain⟨c,gs,z⟩:=RG h;cases z
   ·cases e:kD t3 with
    |none=>rw[e]at h;cases h
    |some y=>rw[e]at h;have e1:iU y.1= .leaf l:=aA bU (af h);injection e1 with e1;rw[<-e1];exact G3 (s:=y.2) e
  rw[Zfa];rw[KA];constructor
  ·rintro ⟨k0,t1,m,t3,k,t4,df,t5,Ys,hn2,g1,g2,h3,hk,vW,h5,ht⟩;have h3:=N9.mp h3;obtain⟨X6,hd0⟩:=xf.mpr Ys;have l1:=Bp X6;have l2:=NK ax t1;have l3:=GB h3;obtain⟨hk1,hk2⟩:=(kind t3 t4 k (by omega)).mp hk;have l4:=jV n _ _ _ hk1;have h5':vN cR m k t4=some (df,t5):=by
    rcases ZhG (okl hk1) h5 with z|z
    ·exact z
    ·exfalso;rcases ht with⟨r,aH,e,_⟩|⟨e,_⟩
     ·exact ZiF z e (.inl Z)
     ·exact ZiF z e (by cases cR;exact .inr (.inr Z);exact .inr (.inl Z))
   have l5:=Uk h5';rw[IG.mpr ⟨k0,t1,m,t3,k,t4,df,Ys,g1,h3,hk1,vW,h5',Z⟩];fin2;rw[ak (Er.mpr ⟨hn2,g2⟩)];rcases ht with⟨r,aH,rfl,e1,rfl⟩|⟨rfl,rfl⟩
   ·rw[ak (show(59::r).head?=some 59 from Z)];obtain⟨i1,i2⟩:=(qK f n cR _ _ r aH u hn6 (by simp at l5;omega)).mp e1;dsimp only[List.tail_cons];rw[i1];exact⟨Z,by rw[bR];omega⟩
   ·rw[ah (by intro z;exact ZaP cR (af z)),ak (show(bP cR::u).head?=some (bP cR)from Z)];exact⟨Z,by rw[bR,bR];omega⟩
  ·rintro ⟨h,LC⟩;cases e:jm (iS n) cR t with
   |none=>rw[e]at h;cases h
   |some y=>
    obtain⟨x,s⟩:=y;rw[e]at h;dsimp only at h;split at h
    ·rename_i hb;obtain⟨k0,t1,m,t3,k,t4,df,Ys,g1,h3,hk1,vW,h5',rfl⟩:=IG.mp e;obtain⟨b1,b2⟩:=Er.mp hb;have lt:=px (jV n) e;obtain⟨X6,hd0⟩:=xf.mpr Ys;have l1:=Bp X6;have l2:=NK ax t1;have l3:=GB h3;split at h
     ·rename_i BN;obtain⟨r,rfl⟩:=bO BN;dsimp only[List.tail_cons]at h;cases er:KA (iS n) cR f ({number:=k0,name:=t1.takeWhile ax,mode:=m,dflt:=df}::eP) r with
      |none=>rw[er]at h;cases h
      |some y=>obtain⟨aH,u'⟩:=y;rw[er]at h;have e1:Zvn.cons {number:=k0,name:=t1.takeWhile ax,mode:=m,dflt:=df} k aH=fs:=aA bU (af h);have e2:u'=u:=aA bo (af h);subst e1 e2;rw[bR]at LC;refine⟨k0,t1,m,t3,k,t4,df,_,Ys,b1,g1,b2,N9.mpr h3,(kind t3 t4 k (by omega)).mpr ⟨hk1,by omega⟩,vW,ZaR (okl hk1) h5',.inl ⟨r,aH,Z,?_,Z⟩⟩;exact(qK f n cR _ _ r aH u' hn6 (by simp at lt;omega)).mpr ⟨er,by omega⟩
     ·split at h
      ·rename_i hcl;obtain⟨r,rfl⟩:=bO hcl;have e1:Zvn.cons {number:=k0,name:=t1.takeWhile ax,mode:=m,dflt:=df} k .nil=fs:=aA bU (af h);have e2:r=u:=aA bo (af h);subst e1 e2;rw[bR,bR]at LC;exact⟨k0,t1,m,t3,k,t4,df,_,Ys,b1,g1,b2,N9.mpr h3,(kind t3 t4 k (by omega)).mpr ⟨hk1,by omega⟩,vW,ZaR (okl hk1) h5',.inr ⟨Z,Z⟩⟩
      ·cases h
    ·cases h
mutual
def GdK:bW->Prop
 | .leaf l=>pE l
 | .group _ fs=>nI fs/\fs.list≠ []
def nI:Zvn->Prop
 | .nil=>True
 | .cons h k r=>bF h.name=true/\(∀x∈r.list,h.name≠x.1.name/\h.number<x.1.number)/\(h.mode= .keyed->(fF k).isSome=true)/\GdK k/\nI r
end
theorem Uv{pk:RK}(hp:∀t k s,pk t=some (k,s)->GdK k){c:Bool}:∀(f:Nat)(eP:List cH)(t:LN)(fs:Zvn)(u:LN),KA pk c f eP t=some (fs,u)->nI fs/\fs.list≠ []/\∀x∈fs.list,(∀b∈eP,b.name≠x.1.name)/\Xr eP x.1.number
 |0,_,_,_,_,h=>by cases h
 |f+1,eP,t,fs,u,h=>by
  rw[KA]at h;split at h
  ·cases h
  ·rename_i x s e;split at h
   ·rename_i hb;obtain⟨b1,b2⟩:=Er.mp hb;obtain⟨k0,t1,m,t3,k,t4,df,Ys,g1,h3,hk1,vW,h5',rfl⟩:=IG.mp e;have bn:∀b∈eP,b.name≠t1.takeWhile ax:=fun b hb z=>by have:=wg.mp b2 b hb;exact this (by simpa using z)
    have Zf7:m= .keyed->(fF k).isSome=true:=fun z=>by
     cases q:fF k with
     |none=>exact absurd ⟨z,by rw[q];rfl⟩ vW
     |some y=>rfl
    split at h
    ·cases er:KA pk c f ({number:=k0,name:=t1.takeWhile ax,mode:=m,dflt:=df}::eP) s.tail with
     |none=>rw[er]at h;cases h
     |some y=>
      obtain⟨aH,u'⟩:=y;rw[er]at h;have e1:Zvn.cons {number:=k0,name:=t1.takeWhile ax,mode:=m,dflt:=df} k aH=fs:=aA bU (af h);subst e1;obtain⟨i1,i2,i3⟩:=Uv hp f _ _ _ _ er;refine⟨⟨g1,fun x hx=> ⟨(i3 x hx).1 _ aM,(i3 x hx).2 _ _ Z⟩,Zf7,hp _ _ _ hk1,i1⟩,by rw[dA];simp,fun x hx=>?_⟩;rw[dA]at hx;rcases aU.mp hx with z|z
      ·subst z;exact⟨bn,b1⟩
      ·refine⟨fun b hb=> (i3 x z).1 b (aG _ hb),fun b r hbr=>?_⟩;have l1:=b1 b r hbr;have l2:=(i3 x z).2 _ _ Z;exact Nat.lt_trans l1 l2
    ·split at h
     ·have e1:Zvn.cons {number:=k0,name:=t1.takeWhile ax,mode:=m,dflt:=df} k .nil=fs:=aA bU (af h);subst e1;refine⟨⟨g1,fun x hx=> (by cases hx),Zf7,hp _ _ _ hk1,trivial⟩,by rw[dA];simp,fun x hx=>?_⟩;rw[dA]at hx;rcases aU.mp hx with z|z
      ·subst z;exact⟨bn,b1⟩
      ·cases z
     ·cases h
   ·cases h
theorem Xt{pk:RK}(hs:Shr pk)(hp:∀t k s,pk t=some (k,s)->GdK k){c:Bool}{t s:LN}{k:bW}(h:qH pk c t=some (k,s)):GdK k:=by
 rw[AU hs]at h;cases e:KA pk c (t.length+1) [] t with
 |none=>rw[e]at h;cases h
 |some y=>rw[e]at h;have e1:ua c y.1=k:=aA bU (af h);rw[<-e1];obtain⟨i1,i2,_⟩:=Uv hp _ _ _ y.1 y.2 e;exact⟨i1,i2⟩
theorem vQ:∀(n:Nat)(t:LN)(k:bW)(s:LN),iq n t=some (k,s)->GdK k
 |0,_,_,_,h=>by cases h
 |n+1,t,k,s,h=>by
  have kd:∀t k s,mw (iq n) t=some (k,s)->GdK k:=fun t k s h=>by
   unfold mw at h;split at h
   ·exact vQ n _ _ _ h
   ·cases e:kD t with
    |none=>rw[e]at h;cases h
    |some y=>rw[e]at h;have e1:iU y.1=k:=aA bU (af h);rw[<-e1];exact G3 (s:=y.2) e
  rw[iq]at h;split at h
  ·exact Xt (jV n) kd h
  ·split at h
   ·exact Xt (jV n) kd h
   ·cases h
theorem vR{n:LN}(h:bF n=true):∀c∈n,c≠46:=by
 cases n with
 |nil=>cases h
 |cons d r=>have h:(iA d&&(d::r).all ax&&decide ((d::r).length<=12))=true:=h;rw[bu,bu]at h;intro c hc z;have:=fU.mp h.1.2 c hc;rw[z]at this;exact absurd this (by decide)
theorem ZaS:∀{m n s u:LN},(∀c∈m,c≠46)->(∀c∈n,c≠46)->(s=[]\/s.head?=some 46)->(u=[]\/u.head?=some 46)->m++s=n++u->m=n/\s=u
 |[],[],s,u,_,_,_,_,h=> ⟨Z,h⟩
 |[],c::n,s,u,_,hn,hs,_,h=>by
  exfalso;rcases hs with z|z
  ·rw[z]at h;cases h
  ·rw[gL]at h;rw[h]at z;exact hn c aM (af z)
 |c::m,[],s,u,hm,_,_,hu,h=>by
  exfalso;rcases hu with z|z
  ·rw[z]at h;cases h
  ·rw[gL]at h;rw[<-h]at z;exact hm c aM (af z)
 |c::m,d::n,s,u,hm,hn,hs,hu,h=>by rw[cw,cw]at h;injection h with h1 h2;obtain⟨e1,e2⟩:=ZaS (fun x hx=>hm x (aG _ hx)) (fun x hx=>hn x (aG _ hx)) hs hu h2;exact⟨by rw[h1,e1],e2⟩
mutual
theorem II:∀(k:bW)(p d:LN),∀x∈kY k p d,∃s,x.1=d++s/\(s=[]\/s.head?=some 46)
 | .leaf l,p,d,x,hx=>by
  rw[kY]at hx
  rw[cn.mp hx]
  exact⟨[],by simp,.inl Z⟩
 | .group c fs,p,d,x,hx=>by
  rw[kY]at hx
  obtain⟨s,e⟩:=RT fs 0 p (d++[46]) x hx
  exact⟨46::s,by rw[e];simp,.inr Z⟩
theorem RT:∀(fs:Zvn)(i:Nat)(p d:LN),∀x∈kZ fs i p d,∃s,x.1=d++s
 | .nil,_,_,_,x,hx=>by cases hx
 | .cons h k r,i,p,d,x,hx=>by
  rw[kZ]at hx
  rcases cz.mp hx with z|z
  ·obtain⟨s,e,_⟩:=II k _ _ x z
   exact⟨h.name++s,by rw[e];simp⟩
  ·exact RT r _ _ _ x z
end
theorem Ob:∀(fs:Zvn)(i:Nat)(p d:LN),∀x∈kZ fs i p d,∃y∈fs.list,∃s,x.1=d++(y.1.name++s)/\(s=[]\/s.head?=some 46)
 | .nil,_,_,_,x,hx=>by cases hx
 | .cons h k r,i,p,d,x,hx=>by
  rw[kZ]at hx;rcases cz.mp hx with z|z
  ·obtain⟨s,e,e2⟩:=II k _ _ x z;exact⟨(h,k),aM,s,by rw[e];simp,e2⟩
  ·obtain⟨y,hy,s,e⟩:=Ob r _ _ _ x z;exact⟨y,aG _ hy,s,e⟩
theorem nI.names:∀{fs:Zvn},nI fs->∀x∈fs.list,bF x.1.name=true
 | .nil,_,x,hx=>by cases hx
 | .cons h k r,g,x,hx=>by
  rw[dA]at hx;rcases aU.mp hx with z|z
  ·rw[z];exact g.1
  ·exact nI.names g.2.2.2.2 x z
mutual
theorem Zfb:∀(k:bW)(p d:LN),GdK k->((kY k p d).map (·.1)).Nodup
 | .leaf l,p,d,_=>by simp[kY]
 | .group c fs,p,d,g=>by
  rw[kY]
  exact Oc fs 0 p (d++[46]) g.1
theorem Oc:∀(fs:Zvn)(i:Nat)(p d:LN),nI fs->((kZ fs i p d).map (·.1)).Nodup
 | .nil,_,_,_,_=>by simp[kZ]
 | .cons h k r,i,p,d,g=>by
  obtain⟨g1,g2,_,g3,g4⟩:=g
  rw[kZ,cg,pM]
  refine⟨Zfb k _ _ g3,Oc r _ _ _ g4,fun a ha b hb=>?_⟩
  obtain⟨x,hx,rfl⟩:=bE.mp ha
  obtain⟨y,hy,rfl⟩:=bE.mp hb
  obtain⟨s,e1,e2⟩:=II k _ _ x hx
  obtain⟨z,hz,s',e3,e4⟩:=Ob r _ _ _ y hy
  intro e
  rw[e1,e3,dJ]at e
  have e5:=List.append_cancel_left e
  exact(g2 z hz).1 (ZaS (vR g1) (vR (nI.names g4 z hz)) e2 e4 e5).1
end
theorem Xu:∀(l cs:List Dx),((cs++l).map (·.1)).Nodup->tL cs l=cs++l
 |[],cs,_=>by simp[tL]
 |c::l,cs,h=>by
  show tL (NN cs c) l=_;have hn:(cs.any fun x=>decide (x.1=c.1))=false:=by rw[wg];intro x hx z;have z:x.1=c.1:=of_decide_eq_true z;rw[cg,pM]at h;exact h.2.2 x.1 (bE.mpr ⟨x,hx,Z⟩) c.1 (by simp) z
  have e:NN cs c=cs++[c]:=by unfold NN;rw[hn];rfl
  rw[e,Xu l (cs++[c]) (by simpa using h)];simp
theorem IJ{fs:Zvn}(g:nI fs):dP fs=kZ fs 0 [] []:=by unfold dP;rw[Xu _ _ (by simpa using Oc fs 0 [] [] g)];rfl
theorem Zkj{r:LN}(h:¬2000< (123::r).length):gU (123::r)=(ly ((123::r).length+1) 1 false [] 0 r>>=fun x=>if x.2=[]then .ok x.1 else gQ 1 x.2):=by unfold gU;rw[ah (show¬Vacola.MOST< (123::r).length from h)];rfl
theorem Zpw{t:LN}(h:t.head?≠some 123)(fs:Zvn):gU t≠ .ok fs:=by
 unfold gU;split
 ·intro z;cases z
 ·split
  ·exact absurd Z h
  ·intro z;cases z
theorem Od{t:LN}{fs:Zvn}:gU t= .ok fs↔md t=some fs:=by
 unfold md;by_cases OQ:2000<t.length
 ·unfold gU;rw[ak (show Vacola.MOST<t.length from OQ),ak OQ];exact⟨fun h=> (by cases h),fun h=> (by cases h)⟩
 rw[ah OQ];by_cases A5:t.head?=some 123
 ·obtain⟨r,rfl⟩:=bO A5;have eg:iq 6 (123::r)=qH (iS 5) false r:=Oa 5 false r;rw[Zkj OQ,eg,AU (jV 5),da];have fu:=N8 (jV 5) (c:=false) ((123::r).length+1) (r.length+1) [] r (by simp;omega) (bT _);constructor
  ·rintro ⟨⟨gs,s⟩,h1,h2⟩;obtain⟨e1,e2⟩:=(qK _ 5 false [] 0 r gs s (by decide) (by simp;omega)).mp h1;rw[fu]at e1;rw[e1];dsimp only[eK]at h2⊢;split at h2
   ·rename_i hs;cases h2;rw[ak hs];have g:=(Uv (fun t k s h=>by
     unfold iS mw at h;split at h
     ·exact vQ 5 _ _ _ h
     ·cases e:kD t with
      |none=>rw[e]at h;cases h
      |some y=>rw[e]at h;have e1:iU y.1=k:=aA bU (af h);rw[<-e1];exact G3 (s:=y.2) e) _ _ _ _ _ e1).1
    rw[ah (by rw[IJ g,vO];omega)]
   ·cases h2
  ·intro h;cases e:KA (iS 5) false (r.length+1) [] r with
   |none=>rw[e]at h;cases h
   |some y=>
    obtain⟨gs,s⟩:=y;rw[e]at h;dsimp only[eK]at h;split at h
    ·rename_i hs;split at h
     ·cases h
     ·rename_i LC;cases h;have g:=(Uv (fun t k s h=>by
       unfold iS mw at h;split at h
       ·exact vQ 5 _ _ _ h
       ·cases e:kD t with
        |none=>rw[e]at h;cases h
        |some y=>rw[e]at h;have e1:iU y.1=k:=aA bU (af h);rw[<-e1];exact G3 (s:=y.2) e) _ _ _ _ _ e).1
      rw[IJ g,vO]at LC;refine⟨(fs,s),(qK _ 5 false [] 0 r fs s (by decide) (by simp;omega)).mpr ⟨by rw[fu];exact e,by omega⟩,?_⟩;fin2;rw[ak hs]
    ·cases h
 ·refine⟨fun h=>absurd h (Zpw A5 fs),fun h=>?_⟩;rw[iq]at h;by_cases Hn:t.head?=some 60
  ·rw[ak Hn]at h;rw[show mw (iq 5)=iS 5 from Z,AU (jV 5)]at h;cases e:KA (iS 5) true (t.tail.length+1) [] t.tail with
   |none=>rw[e]at h;cases h
   |some y=>rw[e]at h;dsimp only[eK]at h;split at h<;>cases h
  ·rw[ah Hn,ah A5]at h;cases h
theorem ZcB{t:LN}{fs:Zvn}(h:md t=some fs):nI fs/\wfK 6 (.group false fs):=by
 unfold md at h;split at h
 ·cases h
 ·rename_i hl;split at h
  ·cases h
  ·rename_i k s e;split at h
   ·split at h
    ·split at h
     ·cases h
     ·cases h;exact⟨(vQ 6 _ _ _ e).1,(Ip 6 _ _ _ (by omega) e).1⟩
    ·cases h
   ·cases h
def qL(one:RV)(m:eS):Nat->Option (Option gK)->LN->Option (List dh×LN)
 |0,_,_=>none
 |f+1,ED,t=>match one t with
  |none=>none
  |some (v,r)=>if m= .keyed/\(ED.any fun p=>!iH p (hW v))=true then none else if r.head?=some 44 then(if m= .one\/m= .opt then none else(qL one m f (some (hW v)) r.tail).map fun x=> (v::x.1,x.2))else some ([v],r)
theorem Oe{one:RV}(hp:ZeH one){m:eS}:∀(f:Nat)(bI:List dh)(w:dh)(t:LN)(g:Nat),t.length<f->t.length<g->ig one m f (bI++[w]) t=if t.head?=some 44 then(if m= .one\/m= .opt then none else(qL one m g (some (hW w)) t.tail).map fun x=> (bI++[w]++x.1,x.2))else some (bI++[w],t)
 |0,_,_,_,_,h,_=>absurd h (de _)
 |_+1,_,_,_,0,_,h=>absurd h (de _)
 |f+1,bI,w,t,g+1,h1,h2=>by
  rw[ig];by_cases Ja:t.head?=some 44
  ·rw[ak Ja,ak Ja];by_cases hm:m= .one\/m= .opt
   ·rw[ak hm,ak hm]
   ·rw[ah hm,ah hm,qL];have l0:=dS Ja;cases e:one t.tail with
    |none=>rfl
    |some y=>
     obtain⟨v,s⟩:=y;fin2;have l1:=hp _ _ _ e;have er:p4 (bI++[w]) v=iH (hW w) (hW v):=by unfold p4;rw[EL];rfl
     have ea:((some (hW w)).any fun p=>!iH p (hW v))=!iH (hW w) (hW v):=rfl;rw[er,ea];by_cases hk:m= .keyed/\iH (hW w) (hW v)=false
     ·rw[ak hk,ak ⟨hk.1,by rw[hk.2];rfl⟩];rfl
     ·rw[ah hk,ah (fun z=>hk ⟨z.1,by simpa using z.2⟩)];rw[Oe hp f (bI++[w]) v s g (by omega) (by omega)];by_cases hs:s.head?=some 44
      ·rw[ak hs,ak hs,ah hm,ah hm];cases qL one m g (some (hW v)) s.tail with
       |none=>rfl
       |some z=>simp
      ·rw[ah hs,ah hs];simp
  ·rw[ah Ja,ah Ja]
theorem LY{one:RV}(hp:ZeH one){m:eS}(t:LN)(g:Nat)(h:t.length<g):nB one m t=qL one m g none t:=by
 cases g with
 |zero=>exact absurd h (de _)
 |succ g=>
  unfold nB;rw[qL];cases e:one t with
  |none=>rfl
  |some y=>obtain⟨v,s⟩:=y;fin2;have l1:=hp _ _ _ e;rw[ah (by rintro ⟨_,z⟩;cases z)];have:=Oe hp (m:=m) (s.length+1) [] v s g (bT _) (by omega);rw[gL]at this;rw[this];rfl
def Fwd(one:RV)(sp:LN->Except wd (dh×LN)):Prop:=∀t v s,one t=some (v,s)->sp t= .ok (v,s)
def Bwd(one:RV)(sp:LN->Except wd (dh×LN)):Prop:=∀t v s,sp t= .ok (v,s)->one t=some (v,s)\/N5 s
theorem AV{s:LN}(h:N5 s){c:Nat}(hc:c<48\/57<c):s.head?≠some c:=by obtain⟨d,r,rfl,hd⟩:=h;intro z;have:=qJ hd;have z:d=c:=af z;omega
theorem ZaT{one:RV}{sp:LN->Except wd (dh×LN)}(hf:Fwd one sp){m:eS}:∀(f:Nat)(ED:Option (Option gK))(t:LN)(vs:List dh)(u:LN),qL one m f ED t=some (vs,u)->lU sp m f ED t= .ok (vs,u)
 |0,_,_,_,_,h=>by cases h
 |f+1,ED,t,vs,u,h=>by
  rw[qL]at h;split at h
  ·cases h
  ·rename_i v r e;rw[lU,da];refine⟨(v,r),hf _ _ _ e,?_⟩;fin2;split at h
   ·cases h
   ·rename_i hk;rw[ah hk];split at h
    ·rename_i Ja;obtain⟨r',rfl⟩:=bO Ja;dsimp only[List.tail_cons]at h⊢;split at h
     ·cases h
     ·rename_i hm;show(if m= .one\/m= .opt then gQ 4 (44::r')else(lU sp m f (some (hW v)) r'>>=fun x=>xr (v::x.1,x.2)))=_;rw[ah hm,da];cases e2:qL one m f (some (hW v)) r' with
      |none=>rw[e2]at h;cases h
      |some y=>rw[e2]at h;cases h;exact⟨y,ZaT hf f _ _ y.1 y.2 e2,Z⟩
    ·rename_i Ja;cases h;split
     ·exact absurd Z Ja
     ·rfl
theorem ZaU{one:RV}{sp:LN->Except wd (dh×LN)}(hb:Bwd one sp){m:eS}:∀(f:Nat)(ED:Option (Option gK))(t:LN)(vs:List dh)(u:LN),lU sp m f ED t= .ok (vs,u)->qL one m f ED t=some (vs,u)\/N5 u
 |0,_,_,_,_,h=>by cases h
 |f+1,ED,t,vs,u,h=>by
  rw[lU,da]at h;obtain⟨⟨v,r⟩,e,h⟩:=h;dsimp only at h;split at h
  ·cases h
  ·rename_i hk;rw[qL];rcases hb _ _ _ e with z|z
   ·rw[z];fin2;rw[ah hk];split at h
    ·rename_i r';rw[ak (show(44::r').head?=some 44 from Z)];split at h
     ·cases h
     ·rename_i hm;rw[da]at h;obtain⟨⟨ws,w⟩,e1,e2⟩:=h;cases e2;rw[ah hm];rcases ZaU hb f _ _ _ _ e1 with q|q
      ·left;dsimp only[List.tail_cons];rw[q];rfl
      ·exact .inr q
    ·rename_i q;cases h;left;rw[ah (fun z=>by obtain⟨r',e'⟩:=bO z;exact q r' e')]
   ·split at h
    ·rename_i r';exact absurd Z (AV z (c:=44) (by omega))
    ·cases h;exact .inr z
theorem xg{n:LN}:∀{fs:Zvn},(fs.byName n).isSome=true↔(fs.list.any fun x=>decide (x.1.name=n))=true:=by
 intro fs;unfold oG;rw[List.find?_isSome,gS];constructor
 ·rintro ⟨x,h1,h2⟩;exact⟨x,h1,by simpa using h2⟩
 ·rintro ⟨x,h1,h2⟩;exact⟨x,h1,by simpa using h2⟩
def Xv(fs:Zvn)(n:LN):Prop:=∃x∈fs.list,x.1.name=n
theorem tQ{fs:Zvn}{n:LN}:(fs.byName n).isSome=true↔Xv fs n:=by
 rw[xg,gS];constructor
 ·rintro ⟨x,h1,h2⟩;exact⟨x,h1,of_decide_eq_true h2⟩
 ·rintro ⟨x,h1,h2⟩;exact⟨x,h1,aD h2⟩
def Zfc(fs:Zvn)(e:HB):Prop:=(e.name=none/\e.here.head?=some 125)\/(∃n,e.name=some n/\n=e.here.takeWhile ax/\bF n=true/\Xv fs n)
def Es(e:HB):LN:=match e.name with
 |none=>e.here
 |some _=>e.here.dropWhile ax
theorem kK{fs:Zvn}{t:LN}{e:HB}:Jd fs t= .ok e↔bF (t.takeWhile ax)=true/\Xv fs (t.takeWhile ax)/\e={name:=some (t.takeWhile ax),here:=t}:=by
 unfold Jd;fin2;by_cases h1:bF (t.takeWhile ax)=false
 ·rw[ak h1];exact⟨fun h=> (by cases h),fun h=> (by rw[h1]at h;cases h.1)⟩
 ·rw[ah h1];have h1':bF (t.takeWhile ax)=true:=by
   cases q:bF (t.takeWhile ax)with
   |true=>rfl
   |false=>exact absurd q h1
  by_cases h2:(fs.byName (t.takeWhile ax)).isNone=true
  ·rw[ak h2];refine⟨fun h=> (by cases h),fun h=>?_⟩;have:=tQ.mpr h.2.1;cases q:fs.byName (t.takeWhile ax)with
   |none=>rw[q]at this;cases this
   |some y=>rw[q]at h2;cases h2
  ·rw[ah h2];refine⟨fun h=> (by cases h;exact⟨h1',tQ.mp (by cases q:fs.byName (t.takeWhile ax)with|none=>rw[q]at h2;exact absurd Z h2|some y=>rfl),Z⟩),fun h=> (by rw[h.2.2])⟩
theorem fS{c:Nat}{t s:LN}:Sr c t= .ok s↔t=c::s:=by
 unfold Sr;cases t with
 |nil=>exact⟨fun h=> (by cases h),fun h=> (by cases h)⟩
 |cons d r=>
  fin2;by_cases h:d=c
  ·rw[ak h];exact⟨fun q=> (by cases q;rw[h]),fun q=> (by injection q with _ q;rw[q])⟩
  ·rw[ah h];exact⟨fun q=> (by cases q),fun q=> (by injection q with q _;exact absurd q h)⟩
theorem G4{fs:Zvn}{u:LN}{e:HB}:Zdg fs u= .ok e↔(∃r,u=59::r/\Jd fs r= .ok e)\/(u.head?=some 125/\e={name:=none,here:=u}):=by
 unfold Zdg;split
 ·rename_i r;refine⟨fun h=> .inl ⟨r,Z,h⟩,fun h=>?_⟩;rcases h with⟨r',z,h⟩|⟨z,_⟩
  ·injection z with _ z;rw[z];exact h
  ·cases z
 ·rename_i r;refine⟨fun h=> (by cases h;exact .inr ⟨Z,Z⟩),fun h=>?_⟩;rcases h with⟨r',z,h⟩|⟨_,z⟩
  ·cases z
  ·rw[z]
 ·rename_i q1 q2;refine⟨fun h=> (by cases h),fun h=>?_⟩;rcases h with⟨r',z,h⟩|⟨z,_⟩
  ·exact absurd z (q1 r')
  ·obtain⟨r',z⟩:=bO z;exact absurd z (q2 r')
theorem IK{fs:Zvn}{t:LN}{e:HB}:Yu fs t= .ok e↔(t.head?=some 125/\e={name:=none,here:=t})\/(t.head?≠some 125/\Jd fs t= .ok e):=by
 unfold Yu;by_cases h:t.head?=some 125
 ·rw[ak h];exact⟨fun q=> (by cases q;exact .inl ⟨h,Z⟩),fun q=> (by rcases q with⟨_,q⟩|⟨q,_⟩;rw[q];exact absurd h q)⟩
 ·rw[ah h];exact⟨fun q=> .inr ⟨h,q⟩,fun q=> (by rcases q with⟨q,_⟩|⟨_,q⟩;exact absurd q h;exact q)⟩
theorem Of:∀(fs:Zvn)(t:LN)(ss:List (List dh))(nm:Option LN)(u:LN),b8 fs none t=some (ss,nm,u)->nm=none/\u=t
 | .nil,t,ss,nm,u,h=>by rw[b8]at h;cases h;exact⟨Z,Z⟩
 | .cons h k r,t,ss,nm,u,e=>by
  rw[b8,ah (fun z=>by cases z)]at e;split at e
  ·cases e
  ·cases e2:b8 r none t with
   |none=>rw[e2]at e;cases e
   |some y=>obtain⟨y1,y2,y3⟩:=y;rw[e2]at e;cases e;exact Of r t y1 _ _ e2
theorem IL:∀(fs:Zvn)(n t:LN)(ss:List (List dh))(u:LN),b8 fs (some n) t=some (ss,none,u)->Xv fs n
 | .nil,n,t,ss,u,h=>by rw[b8]at h;cases h
 | .cons h k r,n,t,ss,u,e=>by
  rw[b8]at e;by_cases hn:some n=some h.name
  ·exact⟨(h,k),aM,(af hn).symm⟩
  ·rw[ah hn]at e;split at e
   ·cases e
   ·cases e2:b8 r (some n) t with
    |none=>rw[e2]at e;cases e
    |some y=>obtain⟨y1,y2,y3⟩:=y;rw[e2]at e;cases e;obtain⟨x,hx,ex⟩:=IL r n t _ _ e2;exact⟨x,aG _ hx,ex⟩
theorem xh:∀(fs:Zvn)(n t:LN),(∀x∈fs.list,x.1.name≠n)->dX fs n t=some (fs.list.map (fun _=>[]),t)
 | .nil,n,t,_=>by rw[dX];rfl
 | .cons h k r,n,t,hn=>by rw[dX,ah (hn (h,k) aM),xh r n t fun x hx=>hn x (aG _ hx)];rfl
theorem js{t n s:LN}:fw t=some (n,s)↔bF (t.takeWhile ax)=true/\n=t.takeWhile ax/\s=t.dropWhile ax:=by
 unfold fw;by_cases h:bF (t.takeWhile ax)=true
 ·rw[ak h];exact⟨fun q=> (by cases q;exact⟨h,Z,Z⟩),fun q=> (by rw[q.2.1,q.2.2])⟩
 ·rw[ah h];exact⟨fun q=> (by cases q),fun q=>absurd q.1 h⟩
theorem Xw{l:cN}(ok:pE l):Fwd (fE (.leaf l)) (tY (.leaf l)):=fun t v s h=>by
 rw[fE]at h;rw[tY];cases e:kP l t with
 |none=>rw[e]at h;cases h
 |some y=>rw[e]at h;cases h;obtain⟨e1,e2⟩:=LX ok (x:=y.1) (s:=y.2) e;unfold UR;rw[e1];fin2;rw[ak e2]
theorem Xx{l:cN}(ok:pE l):Bwd (fE (.leaf l)) (tY (.leaf l)):=fun t v s h=>by
 rw[tY]at h;rw[fE];unfold UR at h;split at h
 ·cases h
 ·rename_i x r e;split at h
  ·rename_i hf;cases h;rcases Uu ok e hf with z|z
   ·left;rw[z];rfl
   ·exact .inr z
  ·cases h
mutual
theorem Uw:∀(k:bW),GdK k->Fwd (fE k) (tY k)
 | .leaf l,g=>Xw g
 | .group false fs,g=>fun t v s h=>by
  by_cases A5:t.head?=some 123
  ·obtain⟨r,rfl⟩:=bO A5
   rw[GK]at h
   rw[tY,da]
   refine⟨r,fS.mpr Z,?_⟩
   rw[da]
   cases ef:my r with
   |none=>rw[ef]at h;cases h
   |some y=>
    obtain⟨nm,t1⟩:=y
    rw[ef]at h
    dsimp only at h
    unfold Em at h
    cases es:b8 fs nm t1 with
    |none=>rw[es]at h;cases h
    |some z=>
     obtain⟨ss,Bu,t2⟩:=z
     rw[es]at h
     dsimp only at h
     split at h
     ·rename_i hz
      obtain⟨rfl,OS⟩:=hz
      obtain⟨w,rfl⟩:=bO OS
      cases h
      unfold my at ef
      by_cases hr:r.head?=some 125
      ·rw[ak hr]at ef
       cases ef
       refine⟨{name:=none,here:=r},IK.mpr (.inl ⟨hr,Z⟩),?_⟩
       rw[da]
       exact⟨(ss,w),vS fs g.1 {name:=none,here:=r} ss w (.inl ⟨Z,hr⟩) es,Z⟩
      ·rw[ah hr]at ef
       cases en:fw r with
       |none=>rw[en]at ef;cases ef
       |some y=>
        obtain⟨n,t1'⟩:=y
        rw[en]at ef
        cases ef
        obtain⟨g1,rfl,rfl⟩:=js.mp en
        have hh:=IL fs _ _ _ _ es
        refine⟨{name:=some (r.takeWhile ax),here:=r},IK.mpr (.inr ⟨hr,kK.mpr ⟨g1,hh,Z⟩⟩),?_⟩
        rw[da]
        exact⟨(ss,w),vS fs g.1 {name:=some (r.takeWhile ax),here:=r} ss w (.inr ⟨_,Z,Z,g1,hh⟩) es,Z⟩
     ·cases h
  ·rw[fE,ah A5]at h
   cases h
 | .group true fs,g=>fun t v s h=>by
  by_cases Hn:t.head?=some 60
  ·obtain⟨r,rfl⟩:=bO Hn
   rw[LW]at h
   rw[tY,da]
   refine⟨r,fS.mpr Z,?_⟩
   cases en:fw r with
   |none=>rw[en]at h;cases h
   |some y=>
    obtain⟨n,t1⟩:=y
    rw[en]at h
    obtain⟨g1,rfl,rfl⟩:=js.mp en
    dsimp only at h
    split at h
    ·rename_i hz
     obtain⟨ha,h58⟩:=hz
     have hh:Xv fs (r.takeWhile ax):=tQ.mp (xg.mpr ha)
     obtain⟨t2,e2⟩:=bO h58
     rw[e2]at h
     dsimp only[List.tail_cons]at h
     rw[da]
     refine⟨_,kK.mpr ⟨g1,hh,Z⟩,?_⟩
     rw[da]
     refine⟨t2,fS.mpr e2,?_⟩
     rw[da]
     unfold RJ at h
     cases et:dX fs (r.takeWhile ax) t2 with
     |none=>rw[et]at h;cases h
     |some z=>
      obtain⟨ss,t3⟩:=z
      rw[et]at h
      dsimp only at h
      split at h
      ·rename_i Sm
       obtain⟨w,rfl⟩:=bO Sm
       cases h
       refine⟨(ss,62::w),RU fs g.1 _ _ _ _ hh et,?_⟩
       fin2
       rw[da]
       exact⟨w,fS.mpr Z,Z⟩
      ·cases h
    ·cases h
  ·rw[fE,ah Hn]at h
   cases h
theorem vS:∀(fs:Zvn),nI fs->∀(e:HB)(ss:List (List dh))(w:LN),Zfc fs e->b8 fs e.name (Es e)=some (ss,none,125::w)->vY fs e= .ok (ss,w)
 | .nil,_,⟨nm,here⟩,ss,w,ok,h=>by
  rcases ok with⟨h1,h2⟩|⟨n,_,_,_,⟨x,hx,_⟩⟩
  ·have h1:nm=none:=h1
   subst h1
   have h:b8 .nil none here=some (ss,none,125::w):=h
   rw[b8]at h
   cases h
   rw[vY]
   rfl
  ·cases hx
 | .cons hd k r,g,⟨nm,here⟩,ss,w,ok,h=>by
  obtain⟨g1,g2,g3,g4,g5⟩:=g
  rw[b8]at h
  rw[vY]
  by_cases hn:nm=some hd.name
  ·subst hn
   have hb:Es ⟨some hd.name,here⟩=here.dropWhile ax:=rfl
   rw[hb]at h
   rw[ak Z]at h
   rw[ak (show({name:=some hd.name,here:=here}:HB).name=some hd.name from Z),da]
   split at h
   ·rename_i h58
    obtain⟨s,es⟩:=bO h58
    refine⟨s,fS.mpr es,?_⟩
    rw[es]at h
    dsimp only[List.tail_cons]at h
    rw[da]
    cases eo:nB (fun u=>fE k u) hd.mode s with
    |none=>rw[eo]at h;cases h
    |some y=>
     obtain⟨vs,t1⟩:=y
     rw[eo]at h
     dsimp only at h
     have eo2:nB (fE k) hd.mode s=some (vs,t1):=eo
     rw[LY (wZ k) s (s.length+1) (bT _)]at eo2
     refine⟨(vs,t1),ZaT (Uw k g4) _ _ _ _ _ eo2,?_⟩
     fin2
     rw[da]
     cases en:rM t1 with
     |none=>rw[en]at h;cases h
     |some z=>
      obtain⟨Bu,t2⟩:=z
      rw[en]at h
      dsimp only at h
      cases er:b8 r Bu t2 with
      |none=>rw[er]at h;cases h
      |some y=>
       obtain⟨p5,Jb,t3⟩:=y
       rw[er]at h
       have h:some (vs::p5,Jb,t3)=some (ss,none,125::w):=h
       cases h
       unfold rM at en
       by_cases BN:t1.head?=some 59
       ·rw[ak BN]at en
        obtain⟨r',rfl⟩:=bO BN
        dsimp only[List.tail_cons]at en
        cases ep:fw r' with
        |none=>rw[ep]at en;cases en
        |some y=>
         obtain⟨n,t2'⟩:=y
         rw[ep]at en
         cases en
         obtain⟨q1,rfl,rfl⟩:=js.mp ep
         have hh:=IL r _ _ _ _ er
         refine⟨{name:=some (r'.takeWhile ax),here:=r'},G4.mpr (.inl ⟨r',Z,kK.mpr ⟨q1,hh,Z⟩⟩),?_⟩
         rw[da]
         exact⟨(p5,w),vS r g5 {name:=some (r'.takeWhile ax),here:=r'} p5 w (.inr ⟨_,Z,Z,q1,hh⟩) er,Z⟩
       ·rw[ah BN]at en
        cases en
        obtain⟨_,e2⟩:=Of r _ _ _ _ er
        have OS:t1.head?=some 125:=by rw[<-e2];rfl
        refine⟨{name:=none,here:=t1},G4.mpr (.inr ⟨OS,Z⟩),?_⟩
        rw[da]
        exact⟨(p5,w),vS r g5 {name:=none,here:=t1} p5 w (.inl ⟨Z,OS⟩) er,Z⟩
   ·cases h
  ·rw[ah hn]at h
   rw[ah (show¬({name:=nm,here:=here}:HB).name=some hd.name from hn)]
   split at h
   ·cases h
   ·rename_i hm
    rw[ah hm,da]
    cases er:b8 r nm (Es ⟨nm,here⟩)with
    |none=>rw[er]at h;cases h
    |some y=>
     obtain⟨p5,Jb,t3⟩:=y
     rw[er]at h
     have h:some ([]::p5,Jb,t3)=some (ss,none,125::w):=h
     cases h
     refine⟨(p5,w),vS r g5 ⟨nm,here⟩ p5 w ?_ er,Z⟩
     rcases ok with ok|⟨n,e1,e2,e3,⟨x,hx,ex⟩⟩
     ·exact .inl ok
     ·refine .inr ⟨n,e1,e2,e3,x,?_,ex⟩
      rw[dA]at hx
      rcases aU.mp hx with z|z
      ·have e1:nm=some n:=e1
       rw[z]at ex
       exact absurd (by rw[e1,<-ex]) hn
      ·exact z
theorem RU:∀(fs:Zvn),nI fs->∀(n t:LN)(ss:List (List dh))(u:LN),Xv fs n->dX fs n t=some (ss,u)->vZ fs n t= .ok (ss,u)
 | .nil,_,n,t,ss,u,hh,h=>by
  obtain⟨x,hx,_⟩:=hh
  cases hx
 | .cons hd k r,g,n,t,ss,u,hh,h=>by
  obtain⟨g1,g2,g3,g4,g5⟩:=g
  rw[dX]at h
  rw[vZ]
  by_cases hn:hd.name=n
  ·rw[ak hn]at h
   rw[ak hn,da]
   cases e:fE k t with
   |none=>rw[e]at h;cases h
   |some y=>
    obtain⟨v,t1⟩:=y
    rw[e]at h
    dsimp only at h
    rw[xh r n t1 fun x hx z=> (g2 x hx).1 (hn.trans z.symm)]at h
    cases h
    exact⟨(v,t1),Uw k g4 _ _ _ e,Z⟩
  ·rw[ah hn]at h
   rw[ah hn,da]
   cases e:dX r n t with
   |none=>rw[e]at h;cases h
   |some y=>
    obtain⟨p5,u'⟩:=y
    rw[e]at h
    cases h
    obtain⟨x,hx,ex⟩:=hh
    rw[dA]at hx
    have hx:x∈r.list:=by
     rcases aU.mp hx with z|z
     ·rw[z]at ex;exact absurd ex hn
     ·exact z
    exact⟨(p5,u'),RU r g5 n t _ _ ⟨x,hx,ex⟩ e,Z⟩
end
mutual
theorem Ux:∀(k:bW),GdK k->Bwd (fE k) (tY k)
 | .leaf l,g=>Xx g
 | .group false fs,g=>fun t v s h=>by
  rw[tY,da]at h
  obtain⟨r,e1,h⟩:=h
  have e1:=fS.mp e1
  subst e1
  rw[da]at h
  obtain⟨e,e2,h⟩:=h
  rw[da]at h
  obtain⟨⟨ss,u⟩,e3,h⟩:=h
  cases h
  left
  rw[GK]
  rcases IK.mp e2 with⟨q1,rfl⟩|⟨q1,q2⟩
  ·have ef:my r=some (none,r):=by unfold my;rw[ak q1]
   rw[ef]
   have es:=vT fs g.1 {name:=none,here:=r} ss s (.inl ⟨Z,q1⟩) e3
   have es:b8 fs none r=some (ss,none,125::s):=es
   fin2
   unfold Em
   rw[es]
   fin2
   rw[ak ⟨Z,Z⟩]
   rfl
  ·obtain⟨g1,g2,rfl⟩:=kK.mp q2
   have ef:my r=some (some (r.takeWhile ax),r.dropWhile ax):=by unfold my;rw[ah q1,js.mpr ⟨g1,Z,Z⟩];rfl
   rw[ef]
   have es:=vT fs g.1 _ ss s (.inr ⟨_,Z,Z,g1,g2⟩) e3
   have es:b8 fs (some (r.takeWhile ax)) (r.dropWhile ax)=some (ss,none,125::s):=es
   fin2
   unfold Em
   rw[es]
   fin2
   rw[ak ⟨Z,Z⟩]
   rfl
 | .group true fs,g=>fun t v s h=>by
  rw[tY,da]at h
  obtain⟨r,e1,h⟩:=h
  have e1:=fS.mp e1
  subst e1
  rw[da]at h
  obtain⟨e,e2,h⟩:=h
  obtain⟨g1,g2,rfl⟩:=kK.mp e2
  rw[da]at h
  obtain⟨s1,e3,h⟩:=h
  have e3:=fS.mp e3
  rw[da]at h
  obtain⟨⟨ss,u⟩,e4,h⟩:=h
  dsimp only at h
  rw[da]at h
  obtain⟨w,e5,h⟩:=h
  have e5:=fS.mp e5
  subst e5
  cases h
  left
  rw[LW,js.mpr ⟨g1,Z,Z⟩]
  fin2
  rw[ak ⟨xg.mp (tQ.mpr g2),by rw[e3];rfl⟩,e3]
  dsimp only[List.tail_cons]
  unfold RJ
  have e4:vZ fs (r.takeWhile ax) s1= .ok (ss,62::s):=e4
  rcases RW fs g.1 _ _ _ _ e4 with z|z
  ·rw[z]
   rfl
  ·exact absurd Z (AV z (c:=62) (by omega))
theorem vT:∀(fs:Zvn),nI fs->∀(e:HB)(ss:List (List dh))(w:LN),Zfc fs e->vY fs e= .ok (ss,w)->b8 fs e.name (Es e)=some (ss,none,125::w)
 | .nil,_,⟨nm,here⟩,ss,w,ok,h=>by
  rcases ok with⟨h1,h2⟩|⟨n,_,_,_,⟨x,hx,_⟩⟩
  ·have h1:nm=none:=h1
   subst h1
   obtain⟨r,e⟩:=bO h2
   have e:here=125::r:=e
   subst e
   rw[vY]at h
   cases h
   show b8 .nil none (125::r)=_
   rw[b8]
   rfl
  ·cases hx
 | .cons hd k r,g,⟨nm,here⟩,ss,w,ok,h=>by
  obtain⟨g1,g2,g3,g4,g5⟩:=g
  rw[b8]
  rw[vY]at h
  by_cases hn:nm=some hd.name
  ·subst hn
   have hb:Es ⟨some hd.name,here⟩=here.dropWhile ax:=rfl
   rw[hb]
   rw[ak Z]
   rw[ak (show({name:=some hd.name,here:=here}:HB).name=some hd.name from Z),da]at h
   obtain⟨s,e1,h⟩:=h
   have e1:=fS.mp e1
   rw[da]at h
   obtain⟨⟨vs,t1⟩,e2,h⟩:=h
   dsimp only at h
   rw[da]at h
   obtain⟨f,e3,h⟩:=h
   rw[da]at h
   obtain⟨⟨p5,w'⟩,e4,h⟩:=h
   cases h
   have e1:here.dropWhile ax=58::s:=e1
   rw[e1,ak (show(58::s).head?=some 58 from Z)]
   dsimp only[List.tail_cons]
   have eo:nB (fE k) hd.mode s=some (vs,t1):=by
    rcases ZaU (Ux k g4) _ _ _ _ _ e2 with z|z
    ·rw[LY (wZ k) s (s.length+1) (bT _)];exact z
    ·exfalso
     rcases G4.mp e3 with⟨r',q,_⟩|⟨q,_⟩
     ·rw[q]at z
      exact AV z (c:=59) (by omega) Z
     ·exact AV z (c:=125) (by omega) q
   rw[show(nB (fun u=>fE k u) hd.mode s)=some (vs,t1)from eo]
   fin2
   rcases G4.mp e3 with⟨r',rfl,q⟩|⟨q,rfl⟩
   ·obtain⟨q1,q2,rfl⟩:=kK.mp q
    have en:rM (59::r')=some (some (r'.takeWhile ax),r'.dropWhile ax):=by unfold rM;rw[ak (show(59::r').head?=some 59 from Z)];dsimp only[List.tail_cons];rw[js.mpr ⟨q1,Z,Z⟩];rfl
    rw[en]
    fin2
    have er:b8 r (some (r'.takeWhile ax)) (r'.dropWhile ax)=some (p5,none,125::w'):=vT r g5 _ p5 w' (.inr ⟨_,Z,Z,q1,q2⟩) e4
    rw[er]
    rfl
   ·have en:rM t1=some (none,t1):=by unfold rM;rw[ah (by rw[q];decide)]
    rw[en]
    fin2
    have er:b8 r none t1=some (p5,none,125::w'):=vT r g5 {name:=none,here:=t1} p5 w' (.inl ⟨Z,q⟩) e4
    rw[er]
    rfl
  ·rw[ah hn]
   rw[ah (show¬({name:=nm,here:=here}:HB).name=some hd.name from hn)]at h
   split at h
   ·cases h
   ·rename_i hm
    rw[ah hm]
    rw[da]at h
    obtain⟨⟨p5,w'⟩,e4,h⟩:=h
    cases h
    have ok':Zfc r ⟨nm,here⟩:=by
     rcases ok with ok|⟨n,e1,e2,e3,⟨x,hx,ex⟩⟩
     ·exact .inl ok
     ·refine .inr ⟨n,e1,e2,e3,x,?_,ex⟩
      rw[dA]at hx
      rcases aU.mp hx with z|z
      ·have e1:nm=some n:=e1
       rw[z]at ex
       exact absurd (by rw[e1,<-ex]) hn
      ·exact z
    have er:b8 r nm (Es ⟨nm,here⟩)=some (p5,none,125::w):=vT r g5 ⟨nm,here⟩ p5 w ok' e4
    rw[er]
    rfl
theorem RW:∀(fs:Zvn),nI fs->∀(n t:LN)(ss:List (List dh))(u:LN),vZ fs n t= .ok (ss,u)->dX fs n t=some (ss,u)\/N5 u
 | .nil,_,n,t,ss,u,h=>by
  rw[vZ]at h
  cases h
 | .cons hd k r,g,n,t,ss,u,h=>by
  obtain⟨g1,g2,g3,g4,g5⟩:=g
  rw[dX]
  rw[vZ]at h
  by_cases hn:hd.name=n
  ·rw[ak hn]
   rw[ak hn,da]at h
   obtain⟨⟨v,t1⟩,e1,h⟩:=h
   cases h
   rcases Ux k g4 _ _ _ e1 with z|z
   ·left
    rw[z]
    fin2
    rw[xh r n u fun x hx z=> (g2 x hx).1 (hn.trans z.symm)]
    rfl
   ·exact .inr z
  ·rw[ah hn]
   rw[ah hn,da]at h
   obtain⟨⟨p5,u'⟩,e1,h⟩:=h
   cases h
   rcases RW r g5 _ _ _ _ e1 with z|z
   ·left
    rw[z]
    rfl
   ·exact .inr z
end
theorem Uy{fs:Zvn}(g:nI fs)(iY:fs.list≠ []){t:LN}{v:dh}:vh fs t= .ok v↔mP fs t=some v:=by
 unfold vh mP;by_cases h:4000<t.length
 ·rw[ak (show Vacolb.MOST<t.length from h),ak h];exact⟨fun h=> (by cases h),fun h=> (by cases h)⟩
 rw[ah (show¬Vacolb.MOST<t.length from h),ah h,da];constructor
 ·rintro ⟨⟨v',s⟩,e1,e2⟩;dsimp only at e2;split at e2
  ·rename_i hs;cases e2;rcases Ux (.group false fs) ⟨g,iY⟩ _ _ _ e1 with z|z
   ·rw[z];fin2;rw[ak hs]
   ·obtain⟨d,r,e,_⟩:=z;rw[hs]at e;cases e
  ·cases e2
 ·intro e;cases e1:fE (.group false fs) t with
  |none=>rw[e1]at e;cases e
  |some y=>
   obtain⟨v',s⟩:=y;rw[e1]at e;dsimp only at e;split at e
   ·rename_i hs;cases e;refine⟨(v,s),Uw (.group false fs) ⟨g,iY⟩ _ _ _ e1,?_⟩;fin2;rw[ak hs]
   ·cases e
theorem ZaV:∀(n:Nat)(run:LN),run.length=n->run≠ []->(∀c∈run,aJ c=true)->¬(run.head?=some 48/\1<run.length)->∀(f:Nat)(bI:LN),cS run<f->Zdv f (cS run) bI=run++bI
 |0,run,hl,iY,_,_,_,_,_=>absurd (eR.mp hl) iY
 |n+1,run,hl,iY,hd,hz,f,bI,hf=>by
  obtain⟨E6,d,rfl⟩:∃E6 d,run=E6++[d]:=⟨run.dropLast,run.getLast iY,(lh iY).symm⟩;have hdd:=qJ (hd d (by simp));have hw:cS (E6++[d])=10*cS E6+(d-48):=NF E6 d;cases f with
  |zero=>exact absurd hf (de _)
  |succ f=>
   rw[hw]at hf⊢;rw[Zdv];by_cases hi:E6=[]
   ·subst hi;have:cS []=0:=rfl;rw[this]at hf⊢;rw[ak (by omega)];rw[show 48+(10*0+(d-48))=d by omega];rfl
   ·have h1:1<=cS E6:=by
     cases E6 with
     |nil=>exact absurd Z hi
     |cons c r=>have hc:=qJ (hd c (by simp));have U4:c≠48:=fun z=>hz ⟨by rw[z];rfl,by simp⟩;unfold cS;rw[nM];have:=AS r (10*0+(c-48));have l1:1<=10^r.length:=Vj _ _ (by decide);have l2:10*0+(c-48)<=(10*0+(c-48))*10^r.length:=yw _ l1;omega
    rw[ah (by omega)];have e1:(10*cS E6+(d-48))/10=cS E6:=by omega
    have e2:48+(10*cS E6+(d-48))%10=d:=by omega
    rw[e1,e2,ZaV n E6 (by simp at hl;omega) hi (fun c hc=>hd c (by simp[hc])) (fun z=>hz ⟨by rw[List.head?_append,z.1];rfl,by simp;omega⟩) f (d::bI) (by omega)];simp
theorem Og{t s:LN}{n:Nat}(h:ip t=some (n,s)):t=Zsv n++s:=by
 unfold ip at h;dsimp only at h;split at h
 ·cases h
 ·rename_i hz;cases h;unfold Zsv;rw[ZaV _ (t.takeWhile aJ) Z (fun z=>hz (.inl z)) (fun c hc=>N6 _ _ hc) (fun z=>hz (.inr z)) _ _ (bT _),cJ,j6]
theorem Xy{a x:Nat}(h:i9 a=some x):Zld x=a/\x<16:=by
 unfold i9 at h;split at h
 ·rename_i hd;have:=qJ hd;cases h;unfold Zld;rw[ak (by omega)];omega
 ·split at h
  ·cases h;unfold Zld;rw[ah (by omega)];omega
  ·cases h
theorem KC:∀(n:Nat)(t x s:LN),t.length<=n->bH t=some (x,s)->t=x.flatMap Yv++(34::s)
 |n,[],x,s,_,h=>by rw[bH]at h;cases h
 |0,c::r,x,s,hl,_=>by simp at hl
 |n+1,c::r,x,s,hl,h=>by
  by_cases ZV:c=34
  ·subst ZV;rw[Bo,ak (show(34::r).head?=some 34 from Z)]at h;cases h;rfl
  ·rw[Bo,ah (by simpa using ZV)]at h;cases eb:xX (c::r)with
   |none=>rw[eb]at h;cases h
   |some y=>
    obtain⟨b,r2⟩:=y;rw[eb]at h;dsimp only at h;have lb:=Im eb;have hb:c::r=Yv b++r2:=by
     unfold xX at eb;dsimp only at eb;by_cases ZU:c=92
     ·rw[ak ZU]at eb;cases r with
      |nil=>cases eb
      |cons a r1=>
       have ea:Lo (a::r1)=(i9 a).map fun x=> (x,r1):=rfl;rw[ea]at eb;cases ha:i9 a with
       |none=>rw[ha]at eb;cases eb
       |some xx=>
        rw[ha]at eb;dsimp only[eK]at eb;cases r1 with
        |nil=>cases eb
        |cons b' r3=>
         have eb':Lo (b'::r3)=(i9 b').map fun x=> (x,r3):=rfl;rw[eb']at eb;cases hb':i9 b' with
         |none=>rw[hb']at eb;cases eb
         |some yy=>
          rw[hb']at eb;dsimp only[eK]at eb;split at eb
          ·cases eb
          ·rename_i hp;cases eb;obtain⟨q1,q2⟩:=Xy ha;obtain⟨q3,q4⟩:=Xy hb';unfold Yv;rw[ah hp,ZU,show(16*xx+yy)/16=xx by omega,show(16*xx+yy)%16=yy by omega,q1,q3];rfl
     ·rw[ah ZU]at eb;split at eb
      ·rename_i hp;cases eb;unfold Yv;rw[ak hp];rfl
      ·cases eb
    cases er:bH r2 with
    |none=>rw[er]at h;cases h
    |some z=>obtain⟨x',s'⟩:=z;rw[er]at h;cases h;have ih:=KC n r2 x' s' (by simp at lb hl;omega) er;rw[hb,dM,dJ,<-ih]
theorem Zfd{l:cN}(ok:pE l){t s:LN}{x:gK}(h:kP l t=some (x,s)):t=Zvj x++s:=by
 obtain⟨h1,_⟩:=LX ok h;cases l with
 |bit=>
  by_cases U4:t.head?=some 48
  ·obtain⟨r,rfl⟩:=bO U4;have e:some (gK.num 0,r)=some (x,s):=h1;cases e;rfl
  ·by_cases h49:t.head?=some 49
   ·obtain⟨r,rfl⟩:=bO h49;have e:some (gK.num 1,r)=some (x,s):=h1;cases e;rfl
   ·rw[Xp U4 h49]at h1;cases h1
 |int n=>
  by_cases h45:t.head?=some 45
  ·obtain⟨r,rfl⟩:=bO h45;have e:(match ip r with
    |some (n,s)=>if n=0 then none else some (gK.num (-(n:Int)),s)
    |none=>none)=some (x,s):=h1
   cases hd:ip r with
   |none=>rw[hd]at e;cases e
   |some y=>
    obtain⟨m,s'⟩:=y;rw[hd]at e;dsimp only at e;split at e
    ·cases e
    ·rename_i h0;cases e;have:=Og hd;show 45::r=L7 (-(m:Int))++s;unfold L7;rw[ak (by omega),show(-(m:Int)).natAbs=m by omega,cw,<-this]
  ·have er:fO (.int n) t=(ip t).map fun x=> (.num (x.1:Int),x.2):=by
    unfold fO;split<;>first|rfl|(rename_i h;cases h)|skip
    all_goals first|rfl|(exfalso;apply h45;simp_all)
   rw[er]at h1;cases hd:ip t with
   |none=>rw[hd]at h1;cases h1
   |some y=>obtain⟨m,s'⟩:=y;rw[hd]at h1;cases h1;have:=Og hd;show t=L7 (m:Int)++s';unfold L7;rw[ah (by omega),show(m:Int).natAbs=m by omega,<-this]
 |text n=>
  by_cases ZV:t.head?=some 34
  ·obtain⟨r,rfl⟩:=bO ZV;have e:(bH r).map (fun x=> (gK.str x.1,x.2))=some (x,s):=h1;cases hq:bH r with
   |none=>rw[hq]at e;cases e
   |some y=>obtain⟨w,s'⟩:=y;rw[hq]at e;cases e;have:=KC _ _ _ _ (aC _) hq;show 34::r=Zsu w++s';unfold Zsu;rw[cw,dJ,List.singleton_append,<-this]
  ·rw[RR ZV]at h1;cases h1
theorem RX(c:Nat)(s:LN){l:List LN}(h:l≠ []):HC c (s::l)=s++(c::HC c l):=by
 cases l with
 |nil=>exact absurd Z h
 |cons x r=>rfl
theorem Xz{one:RV}{sh:dh->LN}(h1:∀t v s,one t=some (v,s)->t=sh v++s){m:eS}:∀(f:Nat)(ED:Option (Option gK))(t:LN)(vs:List dh)(u:LN),qL one m f ED t=some (vs,u)->vs≠ []/\t=HC 44 (vs.map sh)++u
 |0,_,_,_,_,h=>by cases h
 |f+1,ED,t,vs,u,h=>by
  rw[qL]at h;split at h
  ·cases h
  ·rename_i v r e;split at h
   ·cases h
   ·split at h
    ·rename_i Ja;split at h
     ·cases h
     ·cases e2:qL one m f (some (hW v)) r.tail with
      |none=>rw[e2]at h;cases h
      |some y=>obtain⟨ws,w⟩:=y;rw[e2]at h;cases h;obtain⟨i1,i2⟩:=Xz h1 f _ _ _ _ e2;obtain⟨r',rfl⟩:=bO Ja;have i2:r'=HC 44 (ws.map sh)++w:=i2;refine⟨by simp,?_⟩;rw[aY,RX _ _ (by simpa using i1),dJ,cw,<-i2];exact h1 _ _ _ e
    ·cases h;refine⟨by simp,?_⟩;exact h1 _ _ _ e
theorem AW:∀(fs:Zvn),jZ fs (fs.list.map fun _=>[])=[]
 | .nil=>by rw[jZ]
 | .cons h k r=>by rw[dA,aY,jZ,AW r];rfl
theorem G5(r:LN):r=r.takeWhile ax++r.dropWhile ax:=j6.symm
mutual
theorem Oh:∀(k:bW),GdK k->∀(t:LN)(v:dh)(s:LN),fE k t=some (v,s)->t=O7 k v++s
 | .leaf l,g,t,v,s,h=>by
  rw[fE]at h
  cases e:kP l t with
  |none=>rw[e]at h;cases h
  |some y=>
   rw[e]at h
   cases h
   rw[O7]
   exact Zfd g (x:=y.1) (s:=y.2) e
 | .group false fs,g,t,v,s,h=>by
  by_cases A5:t.head?=some 123
  ·obtain⟨r,rfl⟩:=bO A5
   rw[GK]at h
   cases ef:my r with
   |none=>rw[ef]at h;cases h
   |some y=>
    obtain⟨nm,t1⟩:=y
    rw[ef]at h
    dsimp only at h
    unfold Em at h
    cases es:b8 fs nm t1 with
    |none=>rw[es]at h;cases h
    |some z=>
     obtain⟨ss,Bu,t2⟩:=z
     rw[es]at h
     dsimp only at h
     split at h
     ·rename_i hz
      obtain⟨rfl,OS⟩:=hz
      obtain⟨w,rfl⟩:=bO OS
      cases h
      have sl:=Et fs g.1 nm t1 ss _ es
      rw[O7]
      show 123::r=123::(HC 59 (jZ fs ss)++[125])++w
      unfold my at ef
      by_cases hr:r.head?=some 125
      ·rw[ak hr]at ef
       cases ef
       obtain⟨q1,q2⟩:=sl
       rw[q1,q2]
       rfl
      ·rw[ah hr]at ef
       cases en:fw r with
       |none=>rw[en]at ef;cases ef
       |some y=>
        obtain⟨n,t1'⟩:=y
        rw[en]at ef
        cases ef
        obtain⟨g1,rfl,rfl⟩:=js.mp en
        have q2:=sl.2
        rw[<-G5]at q2
        rw[q2]
        simp
     ·cases h
  ·rw[fE,ah A5]at h
   cases h
 | .group true fs,g,t,v,s,h=>by
  by_cases Hn:t.head?=some 60
  ·obtain⟨r,rfl⟩:=bO Hn
   rw[LW]at h
   cases en:fw r with
   |none=>rw[en]at h;cases h
   |some y=>
    obtain⟨n,t1⟩:=y
    rw[en]at h
    obtain⟨g1,rfl,rfl⟩:=js.mp en
    dsimp only at h
    split at h
    ·rename_i hz
     obtain⟨ha,h58⟩:=hz
     have hh:Xv fs (r.takeWhile ax):=tQ.mp (xg.mpr ha)
     obtain⟨t2,e2⟩:=bO h58
     rw[e2]at h
     dsimp only[List.tail_cons]at h
     unfold RJ at h
     cases et:dX fs (r.takeWhile ax) t2 with
     |none=>rw[et]at h;cases h
     |some z=>
      obtain⟨ss,t3⟩:=z
      rw[et]at h
      dsimp only at h
      split at h
      ·rename_i Sm
       obtain⟨w,rfl⟩:=bO Sm
       cases h
       obtain⟨e,q1,q2⟩:=Oi fs g.1 _ _ _ _ hh et
       rw[O7,q1]
       show 60::r=60::((r.takeWhile ax++58::e)++[62])++w
       have:=G5 r
       rw[e2,q2]at this
       have e3:60::((r.takeWhile ax++58::e)++[62])++w=60::(r.takeWhile ax++58::(e++62::w)):=by simp
       rw[e3,<-this]
      ·cases h
    ·cases h
  ·rw[fE,ah Hn]at h
   cases h
theorem Et:∀(fs:Zvn),nI fs->∀(nm:Option LN)(t:LN)(ss:List (List dh))(u:LN),b8 fs nm t=some (ss,none,u)->match nm with
  |none=>jZ fs ss=[]/\t=u
  |some n=>jZ fs ss≠ []/\n++t=HC 59 (jZ fs ss)++u
 | .nil,_,nm,t,ss,u,h=>by
  rw[b8]at h
  cases h
  exact⟨by rw[jZ],Z⟩
 | .cons hd k r,g,nm,t,ss,u,h=>by
  obtain⟨g1,g2,g3,g4,g5⟩:=g
  rw[b8]at h
  by_cases hn:nm=some hd.name
  ·subst hn
   rw[ak Z]at h
   split at h
   ·rename_i h58
    obtain⟨s,rfl⟩:=bO h58
    dsimp only[List.tail_cons]at h
    cases eo:nB (fun u=>fE k u) hd.mode s with
    |none=>rw[eo]at h;cases h
    |some y=>
     obtain⟨vs,t1⟩:=y
     rw[eo]at h
     dsimp only at h
     have eo2:nB (fE k) hd.mode s=some (vs,t1):=eo
     rw[LY (wZ k) s (s.length+1) (bT _)]at eo2
     obtain⟨o1,o2⟩:=Xz (sh:=fun v=>O7 k v) (Oh k g4) _ _ _ _ _ eo2
     cases en:rM t1 with
     |none=>rw[en]at h;cases h
     |some z=>
      obtain⟨Bu,t2⟩:=z
      rw[en]at h
      dsimp only at h
      cases er:b8 r Bu t2 with
      |none=>rw[er]at h;cases h
      |some y=>
       obtain⟨p5,Jb,t3⟩:=y
       rw[er]at h
       have h:some (vs::p5,Jb,t3)=some (ss,none,u):=h
       cases h
       have ih:=Et r g5 Bu t2 p5 u er
       have hv:vs.isEmpty=false:=by cases vs with|nil=>exact absurd Z o1|cons _ _=>rfl
       rw[jZ,hv,ah aK]
       unfold rM at en
       by_cases BN:t1.head?=some 59
       ·rw[ak BN]at en
        obtain⟨r',rfl⟩:=bO BN
        dsimp only[List.tail_cons]at en
        cases ep:fw r' with
        |none=>rw[ep]at en;cases en
        |some y=>
         obtain⟨n,t2'⟩:=y
         rw[ep]at en
         cases en
         obtain⟨q1,rfl,rfl⟩:=js.mp ep
         obtain⟨i1,i2⟩:=ih
         rw[<-G5]at i2
         refine⟨by simp,?_⟩
         rw[RX _ _ i1,o2,i2]
         simp
       ·rw[ah BN]at en
        cases en
        obtain⟨i1,i2⟩:=ih
        refine⟨by simp,?_⟩
        rw[i1,o2,i2]
        show _=(hd.name++_)++u
        simp
   ·cases h
  ·rw[ah hn]at h
   split at h
   ·cases h
   ·cases er:b8 r nm t with
    |none=>rw[er]at h;cases h
    |some y=>
     obtain⟨p5,Jb,t3⟩:=y
     rw[er]at h
     have h:some ([]::p5,Jb,t3)=some (ss,none,u):=h
     cases h
     have ih:=Et r g5 nm t p5 u er
     rw[jZ]
     exact ih
theorem Oi:∀(fs:Zvn),nI fs->∀(n t:LN)(ss:List (List dh))(u:LN),Xv fs n->dX fs n t=some (ss,u)->∃e,jZ fs ss=[n++58::e]/\t=e++u
 | .nil,_,n,t,ss,u,hh,h=>by
  obtain⟨x,hx,_⟩:=hh
  cases hx
 | .cons hd k r,g,n,t,ss,u,hh,h=>by
  obtain⟨g1,g2,g3,g4,g5⟩:=g
  rw[dX]at h
  by_cases hn:hd.name=n
  ·rw[ak hn]at h
   cases e:fE k t with
   |none=>rw[e]at h;cases h
   |some y=>
    obtain⟨v,t1⟩:=y
    rw[e]at h
    dsimp only at h
    rw[xh r n t1 fun x hx z=> (g2 x hx).1 (hn.trans z.symm)]at h
    cases h
    refine⟨O7 k v,?_,Oh k g4 _ _ _ e⟩
    rw[jZ,AW r,hn]
    rfl
  ·rw[ah hn]at h
   cases e:dX r n t with
   |none=>rw[e]at h;cases h
   |some y=>
    obtain⟨p5,u'⟩:=y
    rw[e]at h
    cases h
    obtain⟨x,hx,ex⟩:=hh
    rw[dA]at hx
    have hx:x∈r.list:=by
     rcases aU.mp hx with z|z
     ·rw[z]at ex;exact absurd ex hn
     ·exact z
    obtain⟨e',q1,q2⟩:=Oi r g5 n t p5 _ ⟨x,hx,ex⟩ e
    refine⟨e',?_,q2⟩
    rw[jZ]
    exact q1
end
theorem Zfe{fs:Zvn}(g:nI fs)(iY:fs.list≠ []){t:LN}{v:dh}(h:mP fs t=some v):nG fs v=t:=by
 unfold mP at h;split at h
 ·cases h
 ·cases e1:fE (.group false fs) t with
  |none=>rw[e1]at h;cases h
  |some y=>
   obtain⟨v',s⟩:=y;rw[e1]at h;dsimp only at h;split at h
   ·rename_i hs;cases h;have:=Oh (.group false fs) ⟨g,iY⟩ _ _ _ e1;rw[hs,cJ]at this;exact this.symm
   ·cases h
mutual
def Oj:bW->dh->Prop
 | .leaf l,.lit x=>Ks l x
 | .group _ fs,.group ss=>Ol fs ss
 |_,_=>False
def Ol:Zvn->List (List dh)->Prop
 | .nil,ss=>ss=[]
 | .cons _ k r,ss=> ∃o p5,ss=o::p5/\(∀v∈o,Oj k v)/\Ol r p5
end
theorem ZaW{one:RV}{m:eS}:∀(f:Nat)(ED:Option (Option gK))(t:LN)(vs:List dh)(u:LN),qL one m f ED t=some (vs,u)->∀v∈vs,∃t s,one t=some (v,s)
 |0,_,_,_,_,h=>by cases h
 |f+1,ED,t,vs,u,h=>by
  rw[qL]at h;split at h
  ·cases h
  ·rename_i v r e;split at h
   ·cases h
   ·split at h
    ·split at h
     ·cases h
     ·cases e2:qL one m f (some (hW v)) r.tail with
      |none=>rw[e2]at h;cases h
      |some y=>
       obtain⟨ws,w⟩:=y;rw[e2]at h;cases h;intro x hx;rcases aU.mp hx with z|z
       ·rw[z];exact⟨t,r,e⟩
       ·exact ZaW f _ _ _ _ e2 x z
    ·cases h;intro x hx;rw[cn.mp hx];exact⟨t,_,e⟩
mutual
theorem Om:∀(k:bW)(t:LN)(v:dh)(s:LN),fE k t=some (v,s)->Oj k v
 | .leaf l,t,v,s,h=>by
  rw[fE]at h
  cases e:kP l t with
  |none=>rw[e]at h;cases h
  |some y=>
   rw[e]at h
   cases h
   exact El (x:=y.1) (s:=y.2) e
 | .group false fs,t,v,s,h=>by
  rw[fE]at h
  split at h
  ·split at h
   ·cases h
   ·split at h
    ·cases h
    ·rename_i ss Bu t2 e2
     split at h
     ·cases h
      exact Eu fs _ _ _ _ _ e2
     ·cases h
  ·cases h
 | .group true fs,t,v,s,h=>by
  rw[fE]at h
  split at h
  ·split at h
   ·cases h
   ·split at h
    ·split at h
     ·cases h
     ·rename_i ss t2 e2
      split at h
      ·cases h
       exact Ew fs _ _ _ _ e2
      ·cases h
    ·cases h
  ·cases h
theorem Eu:∀(fs:Zvn)(nm:Option LN)(t:LN)(ss:List (List dh))(Bu:Option LN)(s:LN),b8 fs nm t=some (ss,Bu,s)->Ol fs ss
 | .nil,nm,t,ss,Bu,s,h=>by
  rw[b8]at h
  cases h
  rfl
 | .cons hd k r,nm,t,ss,Bu,s,h=>by
  rw[b8]at h
  split at h
  ·split at h
   ·split at h
    ·cases h
    ·rename_i vs t1 e1
     split at h
     ·cases h
     ·rename_i Jb t2 e2
      cases e3:b8 r Jb t2 with
      |none=>rw[e3]at h;cases h
      |some y=>
       obtain⟨p5,nm4,t3⟩:=y
       rw[e3]at h
       have h:some (vs::p5,nm4,t3)=some (ss,Bu,s):=h
       cases h
       have e1:nB (fE k) hd.mode t.tail=some (vs,t1):=e1
       rw[LY (wZ k) _ _ (bT _)]at e1
       refine⟨vs,p5,Z,fun v hv=>?_,Eu r _ _ _ _ _ e3⟩
       obtain⟨t',s',e⟩:=ZaW _ _ _ _ _ e1 v hv
       exact Om k _ _ _ e
   ·cases h
  ·split at h
   ·cases h
   ·cases e3:b8 r nm t with
    |none=>rw[e3]at h;cases h
    |some y=>
     obtain⟨p5,nm4,t3⟩:=y
     rw[e3]at h
     have h:some ([]::p5,nm4,t3)=some (ss,Bu,s):=h
     cases h
     exact⟨[],p5,Z,fun v hv=> (by cases hv),Eu r _ _ _ _ _ e3⟩
theorem Ew:∀(fs:Zvn)(nm t:LN)(ss:List (List dh))(s:LN),dX fs nm t=some (ss,s)->Ol fs ss
 | .nil,nm,t,ss,s,h=>by
  rw[dX]at h
  cases h
  rfl
 | .cons hd k r,nm,t,ss,s,h=>by
  rw[dX]at h
  split at h
  ·split at h
   ·cases h
   ·rename_i v t1 e1
    cases e3:dX r nm t1 with
    |none=>rw[e3]at h;cases h
    |some y=>
     obtain⟨p5,t3⟩:=y
     rw[e3]at h
     have h:some ([v]::p5,t3)=some (ss,s):=h
     cases h
     refine⟨[v],p5,Z,fun x hx=>?_,Ew r _ _ _ _ e3⟩
     rw[cn.mp hx]
     exact Om k _ _ _ e1
  ·cases e3:dX r nm t with
   |none=>rw[e3]at h;cases h
   |some y=>
    obtain⟨p5,t3⟩:=y
    rw[e3]at h
    have h:some ([]::p5,t3)=some (ss,s):=h
    cases h
    exact⟨[],p5,Z,fun v hv=> (by cases hv),Ew r _ _ _ _ e3⟩
end
theorem XA{fs:Zvn}{t:LN}{v:dh}(h:mP fs t=some v):Oj (.group false fs) v:=by
 unfold mP at h;split at h
 ·cases h
 ·cases e1:fE (.group false fs) t with
  |none=>rw[e1]at h;cases h
  |some y=>
   obtain⟨v',s⟩:=y;rw[e1]at h;dsimp only at h;split at h
   ·cases h;exact Om _ _ _ _ e1
   ·cases h
structure Yn where
 np:LN
 d:LN
 p:LN
 l:cN
mutual
def rg:bW->List Yn
 | .leaf l=>[⟨[],[],[],l⟩]
 | .group _ fs=> (kQ fs 0).map fun x=> {x with d:=46::x.d}
def kQ:Zvn->Nat->List Yn
 | .nil,_=>[]
 | .cons h k r,i=> (rg k).map (fun x=> ⟨h.number::x.np,h.name++x.d,i::x.p,x.l⟩)++kQ r (i+1)
end
mutual
theorem ZcC:∀(k:bW)(p d:LN),kY k p d=(rg k).map fun x=> (d++x.d,p++x.p,x.l)
 | .leaf l,p,d=>by rw[kY,rg];simp
 | .group c fs,p,d=>by
  rw[kY,rg,IM fs 0 p (d++[46]),eM]
  refine kb fun x _=>?_
  simp
theorem IM:∀(fs:Zvn)(i:Nat)(p d:LN),kZ fs i p d=(kQ fs i).map fun x=> (d++x.d,p++x.p,x.l)
 | .nil,_,_,_=>by rw[kZ,kQ];rfl
 | .cons h k r,i,p,d=>by
  rw[kZ,kQ,ZcC k,IM r,cg,eM]
  congr 1
  refine kb fun x _=>?_
  simp
end
mutual
theorem Uz:∀(k:bW)(np:LN)(r d:Nat),(yp k np r d).map (fun c=> (c.path,c.leaf))=(rg k).map fun x=> (np++x.np,x.l)
 | .leaf l,np,r,d=>by rw[yp,rg];simp
 | .group c fs,np,r,d=>by
  rw[yp,rg,xi fs c np r d 0,eM]
  rfl
theorem xi:∀(fs:Zvn)(c:Bool)(np:LN)(r d:Nat)(i:Nat),(tZ fs c np r d).map (fun c=> (c.path,c.leaf))=(kQ fs i).map fun x=> (np++x.np,x.l)
 | .nil,_,_,_,_,_=>by rw[tZ,kQ];rfl
 | .cons h k aH,c,np,r,d,i=>by
  rw[tZ,kQ,cg,Uz k,xi aH c np r d (i+1),cg,eM]
  congr 1
  refine kb fun x _=>?_
  simp
end
theorem lN:∀(fs:Zvn)(i:Nat)(x:Yn),x∈kQ fs i->∃j h k y,fs.list[j]? =some (h,k)/\y∈rg k/\x=⟨h.number::y.np,h.name++y.d,(i+j)::y.p,y.l⟩
 | .nil,i,x,hx=>by rw[kQ]at hx;cases hx
 | .cons h k r,i,x,hx=>by
  rw[kQ]at hx;rcases cz.mp hx with z|z
  ·obtain⟨y,hy,e⟩:=bE.mp z;exact⟨0,h,k,y,Z,hy,by rw[<-e];simp⟩
  ·obtain⟨j,h',k',y,e1,e2,e3⟩:=lN r (i+1) x z;exact⟨j+1,h',k',y,by rw[dA];simpa using e1,e2,by rw[e3];congr 2;omega⟩
theorem nI.at:∀{fs:Zvn},nI fs->∀{j:Nat}{h:cH}{k:bW},fs.list[j]? =some (h,k)->GdK k/\bF h.name=true
 | .nil,_,j,h,k,e=>by cases e
 | .cons h' k' r,g,0,h,k,e=>by rw[dA]at e;cases e;exact⟨g.2.2.2.1,g.1⟩
 | .cons h' k' r,g,j+1,h,k,e=>by rw[dA]at e;exact nI.at (j:=j) g.2.2.2.2 (by simpa using e)
theorem Ol.at:∀{fs:Zvn}{ss:List (List dh)},Ol fs ss->∀{j:Nat}{h:cH}{k:bW},fs.list[j]? =some (h,k)->∃o,ss[j]? =some o/\∀v∈o,Oj k v
 | .nil,ss,_,j,h,k,e=>by cases e
 | .cons h' k' r,ss,g,0,h,k,e=>by obtain⟨o,p5,rfl,h1,h2⟩:=g;rw[dA]at e;cases e;exact⟨o,Z,h1⟩
 | .cons h' k' r,ss,g,j+1,h,k,e=>by obtain⟨o,p5,rfl,h1,h2⟩:=g;rw[dA]at e;obtain⟨o',e1,e2⟩:=Ol.at (j:=j) h2 (by simpa using e);exact⟨o',by simpa using e1,e2⟩
theorem XB:∀{fs:Zvn}{ss:List (List dh)},nI fs->Ol fs ss->∀{j:Nat}{h:cH}{k:bW}{o:List dh},fs.list[j]? =some (h,k)->ss[j]? =some o->(fs.list.zip ss).find? (fun x=>x.1.1.number==h.number)=some ((h,k),o)
 | .nil,ss,_,_,j,h,k,o,e,_=>by cases e
 | .cons h' k' r,ss,g,f,0,h,k,o,e,e2=>by obtain⟨o',p5,rfl,h1,h2⟩:=f;rw[dA]at e⊢;cases e;cases e2;rw[jo,cT];simp
 | .cons h' k' r,ss,g,f,j+1,h,k,o,e,e2=>by
  obtain⟨o',p5,rfl,h1,h2⟩:=f;rw[dA]at e⊢;have e:r.list[j]? =some (h,k):=by simpa using e
  have e2:p5[j]? =some o:=by simpa using e2
  have qR:h'.number<h.number:=(g.2.1 (h,k) (bj e)).2;rw[jo,cT];have:(h'.number==h.number)=false:=by simp;omega
  simp only[this];exact XB g.2.2.2.2 h2 e e2
def Ex(np:LN)(k:bW)(v:dh):List gK:=(Je np k v).filterMap id
theorem ZaX{α β:Type}(f:α->List (Option β)):∀l:List α,(l.flatMap f).filterMap id=l.flatMap fun x=> (f x).filterMap id
 |[]=>rfl
 |x::l=>by rw[dM,dM,List.filterMap_append,ZaX f l]
theorem Zu{c:Bool}{fs:Zvn}{ss:List (List dh)}(g:nI fs)(f:Ol fs ss){j:Nat}{h:cH}{k:bW}{o:List dh}(e:fs.list[j]? =some (h,k))(e2:ss[j]? =some o)(np:LN):Ex (h.number::np) (.group c fs) (.group ss)=o.flatMap (Ex np k):=by
 unfold Ex;have:Je (h.number::np) (.group c fs) (.group ss)=(match(fs.list.zip ss).find? fun x=>x.1.1.number==h.number with
  |some ((_,k),o)=>if o.isEmpty then [none]else o.flatMap (Je np k)
  |none=>[]):=rfl
 rw[this,XB g f e e2];fin2;cases o with
 |nil=>rfl
 |cons v r=>rw[ah (by simp)];exact ZaX _ _
theorem KD{c:Bool}{fs:Zvn}(g:nI fs){j:Nat}{h:cH}{k:bW}(e:fs.list[j]? =some (h,k))(np:LN):∀(vs:List dh),(∀v∈vs,Oj (.group c fs) v)->∃ws,deeper j vs=some ws/\(∀w∈ws,Oj k w)/\vs.flatMap (Ex (h.number::np) (.group c fs))=ws.flatMap (Ex np k)
 |[],_=> ⟨[],Z,fun w hw=> (by cases hw),Z⟩
 |v::r,hv=>by
  obtain⟨ws,e1,e2,e3⟩:=KD g e np r fun x hx=>hv x (aG _ hx);have h0:=hv v aM;cases v with
  |lit x=>cases h0
  |group ss=>
   have h0:Ol fs ss:=h0;obtain⟨o,q1,q2⟩:=Ol.at h0 e;refine⟨o++ws,?_,fun w hw=>?_,?_⟩
   ·rw[deeper];have:Up j (.group ss)=some o:=q1;rw[this,e1];rfl
   ·rcases cz.mp hw with z|z
    ·exact q2 w z
    ·exact e2 w z
   ·rw[dM,ka,Zu g h0 e q1,e3]
theorem Oo:∀(n:Nat)(k:bW)(x:Yn),GdK k->x∈rg k->x.p.length=n->∀vs:List dh,(∀v∈vs,Oj k v)->∃ys:List gK,rb x.p vs=some (ys.map dh.lit)/\(∀y∈ys,Ks x.l y)/\vs.flatMap (Ex x.np k)=ys
 |n,.leaf l,x,g,hx,hn,vs,hv=>by
  rw[rg]at hx;rw[cn.mp hx];show∃ys:List gK,rb [] vs=_/\_/\_;clear hn hx;induction vs with
  |nil=>exact⟨[],Z,fun y hy=> (by cases hy),Z⟩
  |cons v r ih=>
   obtain⟨ys,e1,e2,e3⟩:=ih fun x hx=>hv x (aG _ hx);have h0:=hv v aM;cases v with
   |group ss=>cases h0
   |lit z=>
    refine⟨z::ys,?_,fun y hy=>?_,?_⟩
    ·rw[rb]at e1⊢;rw[af e1];rfl
    ·rcases aU.mp hy with q|q
     ·rw[q];exact h0
     ·exact e2 y q
    ·rw[dM,e3];rfl
 |0,.group c fs,x,g,hx,hn,vs,hv=>by rw[rg]at hx;obtain⟨y,hy,rfl⟩:=bE.mp hx;obtain⟨j,h,k,z,_,_,rfl⟩:=lN fs 0 y hy;cases hn
 |n+1,.group c fs,x,g,hx,hn,vs,hv=>by rw[rg]at hx;obtain⟨y,hy,rfl⟩:=bE.mp hx;obtain⟨j,h,k,z,e1,e2,rfl⟩:=lN fs 0 y hy;obtain⟨ws,q1,q2,q3⟩:=KD g.1 e1 z.np vs hv;obtain⟨ys,r1,r2,r3⟩:=Oo n k z (nI.at g.1 e1).1 e2 (by simpa using hn) ws q2;refine⟨ys,?_,r2,by rw[q3,r3]⟩;show rb ((0+j)::z.p) vs=_;rw[k9,rb,q1];exact r1
theorem IP:∀{n:LN},(∀c∈n,c≠46)->fM n=[n]
 |[],_=>rfl
 |c::r,h=>by rw[fM,ah (h c aM),IP fun x hx=>h x (aG _ hx)]
theorem IQ:∀{n s:LN},(∀c∈n,c≠46)->fM (n++46::s)=n::fM s
 |[],s,_=>by rw[gL,fM,ak Z]
 |c::r,s,h=>by rw[cw,fM,ah (h c aM),IQ fun x hx=>h x (aG _ hx)]
theorem Oq(t:LN):fM t≠ []:=by
 cases t with
 |nil=>simp[fM]
 |cons c r=>
  rw[fM];split
  ·simp
  ·split<;>simp
theorem RY:∀{fs:Zvn},nI fs->∀{j:Nat}{h:cH}{k:bW},fs.list[j]? =some (h,k)->fs.byName h.name=some (h,k)
 | .nil,_,j,h,k,e=>by cases e
 | .cons h' k' r,g,0,h,k,e=>by rw[dA]at e;cases e;unfold oG;rw[dA,cT];simp
 | .cons h' k' r,g,j+1,h,k,e=>by
  rw[dA]at e;have e:r.list[j]? =some (h,k):=by simpa using e
  have ih:=RY g.2.2.2.2 e;unfold oG at ih⊢;rw[dA,cT];have:(h'.name==h.name)=false:=by simpa using(g.2.1 (h,k) (bj e)).1
  simp only[this];exact ih
theorem AX:∀{fs:Zvn},nI fs->∀{j:Nat}{h:cH}{k:bW},fs.list[j]? =some (h,k)->fs.byNumber (h.number:Int)=some (h,k)
 | .nil,_,j,h,k,e=>by cases e
 | .cons h' k' r,g,0,h,k,e=>by rw[dA]at e;cases e;unfold Mf;rw[dA,cT];simp
 | .cons h' k' r,g,j+1,h,k,e=>by
  rw[dA]at e;have e:r.list[j]? =some (h,k):=by simpa using e
  have ih:=AX g.2.2.2.2 e;unfold Mf at ih⊢;rw[dA,cT];have qR:h'.number<h.number:=(g.2.1 (h,k) (bj e)).2;have:((h'.number:Int)==(h.number:Int))=false:=by simp;omega
  simp only[this];exact ih
theorem ZaY:∀(n:Nat)(fs:Zvn)(x:Yn),nI fs->x∈kQ fs 0->x.p.length=n->uH (fM x.d) fs=some x.np/\∃h,yt (x.np.map fG) fs=some (h,.leaf x.l)
 |0,fs,x,g,hx,hn=>by obtain⟨j,h,k,z,_,_,rfl⟩:=lN fs 0 x hx;cases hn
 |n+1,fs,x,g,hx,hn=>by
  obtain⟨j,h,k,z,e1,e2,rfl⟩:=lN fs 0 x hx;obtain⟨gk,gn⟩:=nI.at g e1;have b1:=RY g e1;have b2:=AX g e1;cases k with
  |leaf l=>rw[rg]at e2;rw[cn.mp e2];show uH (fM (h.name++[])) fs=some [h.number]/\∃h',yt [fG h.number] fs=some (h',.leaf l);rw[cJ,IP (vR gn),uH,b1];refine⟨Z,h,?_⟩;have b2:fs.byNumber (fG h.number)=some (h,.leaf l):=b2;rw[yt,b2];rfl
  |group c gs=>
   rw[rg]at e2;obtain⟨y,hy,rfl⟩:=bE.mp e2;obtain⟨i1,h',i2⟩:=ZaY n gs y gk.1 hy (by simpa using hn);show uH (fM (h.name++46::y.d)) fs=some (h.number::y.np)/\∃h',yt (fG h.number::y.np.map fG) fs=some (h',.leaf y.l);rw[IQ (vR gn),uH,b1];fin2;rw[ah (Oq _),i1];refine⟨Z,h',?_⟩;have b2:fs.byNumber (fG h.number)=some (h,.group c gs):=b2;rw[yt,b2];fin2;rw[ah (fun z=>?_)]
   ·exact i2
   ·obtain⟨_,_,_,_,_,_,q⟩:=lN gs 0 y hy;rw[q]at z;cases z
theorem UA:∀{fs:Zvn}{i j:Nat}{h:cH}{k:bW}{y:Yn},fs.list[j]? =some (h,k)->y∈rg k->(⟨h.number::y.np,h.name++y.d,(i+j)::y.p,y.l⟩:Yn)∈kQ fs i
 | .nil,i,j,h,k,y,e,_=>by cases e
 | .cons h' k' r,i,0,h,k,y,e,hy=>by rw[dA]at e;cases e;rw[kQ];exact mF _ (bE.mpr ⟨y,hy,Z⟩)
 | .cons h' k' r,i,j+1,h,k,y,e,hy=>by rw[dA]at e;have:=UA (fs:=r) (i:=i+1) (j:=j) (by simpa using e) hy;rw[kQ];refine fq _ ?_;rw[show i+(j+1)=i+1+j by omega];exact this
theorem Ey:∀t:LN,Yw (fM t)=t
 |[]=>rfl
 |c::r=>by
  have ih:=Ey r;rw[fM];by_cases h:c=46
  ·rw[ak h];cases e:fM r with
   |nil=>exact absurd e (Oq r)
   |cons s l=>rw[e]at ih;show []++(46::Yw (s::l))=_;rw[ih,h];rfl
  ·rw[ah h];cases e:fM r with
   |nil=>exact absurd e (Oq r)
   |cons s l=>
    rw[e]at ih;fin2;cases l with
    |nil=>have ih:s=r:=ih;show c::s=_;rw[ih]
    |cons x l=>have ih:s++(46::Yw (x::l))=r:=ih;show(c::s)++(46::Yw (x::l))=_;rw[cw,ih]
theorem Zv{fs:Zvn}{s:LN}{h:cH}{k:bW}(e:fs.byName s=some (h,k)):h.name=s/\∃j:Nat,fs.list[j]? =some (h,k):=by unfold oG at e;have h1:=lj e;have h2:=f9 e;refine⟨by simpa using h1,?_⟩;exact List.mem_iff_getElem?.mp h2
theorem ZcD:∀(ps:List LN)(fs:Zvn)(np:LN),uH ps fs=some np->np≠ []
 |[],_,_,h=>by cases h
 |s::p,fs,np,h=>by
  rw[uH]at h;split at h
  ·cases h
  ·split at h
   ·cases h;simp
   ·split at h
    ·intro z;subst z;rename_i gs _ _;revert h;generalize uH p _=o;intro h;cases o with
     |none=>cases h
     |some y=>cases h
    ·cases h
theorem ZaZ:∀(ps:List LN)(fs:Zvn)(np:LN)(h:cH)(l:cN),nI fs->uH ps fs=some np->yt (np.map fG) fs=some (h,.leaf l)->∃x∈kQ fs 0,x.np=np/\fM x.d=ps/\x.l=l
 |[],_,_,_,_,_,h,_=>by cases h
 |s::p,fs,np,h,l,g,hp,ha=>by
  rw[uH]at hp;cases eb:fs.byName s with
  |none=>rw[eb]at hp;cases hp
  |some y=>
   obtain⟨h',k⟩:=y;rw[eb]at hp;dsimp only at hp;obtain⟨q1,j,q2⟩:=Zv eb;obtain⟨gk,gn⟩:=nI.at g q2;have b2:fs.byNumber (fG h'.number)=some (h',k):=AX g q2;by_cases hpn:p=[]
   ·rw[ak hpn]at hp;cases hp;have ha:yt [fG h'.number] fs=some (h,.leaf l):=ha;rw[yt,b2]at ha;dsimp only at ha;rw[ak Z]at ha;cases ha;refine⟨_,UA (i:=0) q2 (by rw[rg];exact cn.mpr Z),Z,?_,Z⟩;show fM (h.name++[])=_;rw[cJ,IP (vR gn),q1,hpn]
   ·rw[ah hpn]at hp;cases k with
    |leaf l'=>cases hp
    |group c gs=>
     dsimp only at hp;cases e:uH p gs with
     |none=>rw[e]at hp;cases hp
     |some np'=>rw[e]at hp;cases hp;have ha:yt (fG h'.number::np'.map fG) fs=some (h,.leaf l):=ha;rw[yt,b2]at ha;dsimp only at ha;rw[ah (by simpa using ZcD p gs np' e)]at ha;obtain⟨x,i1,i2,i3,i4⟩:=ZaZ p gs np' h l gk.1 e ha;refine⟨_,UA (i:=0) q2 (y:={x with d:=46::x.d}) (by rw[rg];exact bE.mpr ⟨x,i1,Z⟩),by rw[<-i2],?_,i4⟩;show fM (h'.name++46::x.d)=_;rw[IQ (vR gn),i3,q1]
def PF(a b:Yn):Prop:=a.np.isPrefixOf b.np=false/\b.np.isPrefixOf a.np=false
theorem Za0{n:Nat}{a b:LN}:(n::a).isPrefixOf (n::b)=a.isPrefixOf b:=by simp[List.isPrefixOf]
theorem Za1{m n:Nat}{a b:LN}(h:m≠n):(m::a).isPrefixOf (n::b)=false:=by simp[List.isPrefixOf,h]
mutual
theorem ZhH:∀(k:bW),GdK k->(rg k).Pairwise PF
 | .leaf l,_=>by rw[rg];exact yq _ _
 | .group c fs,g=>by
  rw[rg,LF]
  exact UB fs 0 g.1
theorem UB:∀(fs:Zvn)(i:Nat),nI fs->(kQ fs i).Pairwise PF
 | .nil,i,_=>by rw[kQ];exact .nil
 | .cons h k r,i,g=>by
  obtain⟨g1,g2,g3,g4,g5⟩:=g
  rw[kQ,List.pairwise_append]
  refine⟨?_,UB r (i+1) g5,fun a ha b hb=>?_⟩
  ·rw[LF]
   exact(ZhH k g4).imp fun q=> ⟨by rw[Za0];exact q.1,by rw[Za0];exact q.2⟩
  ·obtain⟨x,hx,rfl⟩:=bE.mp ha
   obtain⟨j,h',k',y,e1,_,rfl⟩:=lN r (i+1) b hb
   have qR:=(g2 (h',k') (bj e1)).2
   have qR:h.number<h'.number:=qR
   exact⟨Za1 (by omega),Za1 (by omega)⟩
end
theorem RZ{fs:Zvn}:(oK fs).map (fun c=> (c.path,c.leaf))=(kQ fs 0).map fun x=> (x.np,x.l):=by have:=xi fs false [] 0 0 0;unfold oK;rw[this];rfl
theorem Zw{fs:Zvn}{i:Nat}{x:Yn}(h:(kQ fs 0)[i]? =some x):∃c,(oK fs)[i]? =some c/\c.path=x.np/\c.leaf=x.l:=by
 have e:((oK fs).map (fun c=> (c.path,c.leaf)))[i]? =((kQ fs 0).map fun x=> (x.np,x.l))[i]? :=by rw[RZ]
 rw[hZ,hZ,h]at e;cases q:(oK fs)[i]? with
 |none=>rw[q]at e;cases e
 |some c=>rw[q]at e;have e:(c.path,c.leaf)=(x.np,x.l):=af e;exact⟨c,Z,aA bU e,aA bo e⟩
theorem Zkk{fs:Zvn}(g:nI fs){i:Nat}{x:Yn}(h:(kQ fs 0)[i]? =some x):(Zsw fs x.np).1=i:=by
 show(oK fs).findIdx (fun c=>x.np.isPrefixOf c.path)=i;have hl:(oK fs).length=(kQ fs 0).length:=by have:=aA oC (RZ (fs:=fs));simpa using this
 have hi:i< (kQ fs 0).length:=(aW.mp h).1;have hi':i< (oK fs).length:=by omega
 rw[List.findIdx_eq hi'];obtain⟨c,q1,q2,_⟩:=Zw h;have ec:(oK fs)[i]=c:=(aW.mp q1).2;refine⟨?_,fun j hj=>?_⟩
 ·rw[ec,q2];exact UX.mpr (List.prefix_refl _)
 ·have hj':j< (kQ fs 0).length:=by omega
  obtain⟨c',p1,p2,_⟩:=Zw (fs:=fs) (i:=j) (x:=(kQ fs 0)[j]) (xo hj');have ec':(oK fs)[j]'(by omega)=c':=(aW.mp p1).2;rw[ec',p2];have pf:=Vk.mp (UB fs 0 g) j i hj' hi hj;have ex:(kQ fs 0)[i]=x:=(aW.mp h).2;rw[ex]at pf;rw[pf.2]
theorem Ot{fs:Zvn}(g:nI fs){i:Nat}{x:Yn}(h:(kQ fs 0)[i]? =some x):pH fs x.d=some (i,x.l):=by obtain⟨e1,h',e2⟩:=ZaY _ fs x g (bj h) Z;unfold pH;rw[e1];fin2;rw[e2];fin2;rw[Zkk g h]
theorem Zx{fs:Zvn}(g:nI fs){d:LN}(h:∀x∈kQ fs 0,x.d≠d):pH fs d=none:=by
 unfold pH;cases e1:uH (fM d) fs with
 |none=>rfl
 |some np=>
  fin2;split
  ·rename_i h' l e2;obtain⟨x,q1,_,q3,_⟩:=ZaZ _ _ _ _ _ g e1 e2;exfalso;refine h x q1 ?_;rw[<-Ey x.d,q3,Ey]
  ·rfl
noncomputable def jg(c:Nat):Bool:=ax c||c==46
def Zy(s:LN):Prop:=∀c r,s=c::r->jg c=false
theorem UC:∀(t:LN)(c:Nat)(r:LN),t.dropWhile ax=c::r->ax c=false
 |[],c,r,h=>by cases h
 |d::t,c,r,h=>by
  rw[nA]at h;split at h
  ·exact UC t c r h
  ·rename_i hd;injection h with h1 h2;rw[<-h1];simpa using hd
theorem KG:∀(f:Nat)(bI t d s:LN),(∀c r,t=c::r->ax c=false)->gH f bI t=some (d,s)->∃e,d=bI++e/\t=e++s/\(∀c∈e,jg c=true)/\Zy s
 |0,_,_,_,_,_,h=>by cases h
 |f+1,bI,t,d,s,ht,h=>by
  rw[gH]at h;split at h
  ·rename_i h46;obtain⟨t',rfl⟩:=bO h46;dsimp only[List.tail_cons]at h;cases en:fw t' with
   |none=>rw[en]at h;cases h
   |some y=>
    obtain⟨n,u⟩:=y;rw[en]at h;dsimp only at h;obtain⟨g1,rfl,rfl⟩:=js.mp en;obtain⟨e,e1,e2,e3,e4⟩:=KG f _ _ _ _ (UC t') h;refine⟨46::(t'.takeWhile ax++e),by rw[e1];simp,?_,fun c hc=>?_,e4⟩
    ·rw[cw,dJ,<-e2,<-G5]
    ·rcases aU.mp hc with z|z
     ·rw[z];rfl
     ·rcases cz.mp z with z|z
      ·unfold jg;rw[N6 _ _ z];rfl
      ·exact e3 c z
  ·rename_i h46;cases h;refine⟨[],by simp,Z,fun c hc=> (by cases hc),fun c r e=>?_⟩;unfold jg;rw[ht c r e,Bool.false_or];have:c≠46:=fun z=>h46 (by rw[e,z];rfl);simpa using this
theorem Zz{t d s:LN}(h:oh t=some (d,s)):t=d++s/\d≠ []/\(∀c∈d,jg c=true)/\Zy s:=by
 unfold oh at h;cases en:fw t with
 |none=>rw[en]at h;cases h
 |some y=>
  obtain⟨n,u⟩:=y;rw[en]at h;dsimp only at h;obtain⟨g1,rfl,rfl⟩:=js.mp en;obtain⟨e,e1,e2,e3,e4⟩:=KG _ _ _ _ _ (UC t) h;refine⟨by rw[e1,dJ,<-e2,<-G5],?_,fun c hc=>?_,e4⟩
  ·rw[e1];cases q:t.takeWhile ax with
   |nil=>rw[q]at g1;cases g1
   |cons c r=>simp
  ·rw[e1]at hc;rcases cz.mp hc with z|z
   ·unfold jg;rw[N6 _ _ z];rfl
   ·exact e3 c z
theorem Zkl{d s:LN}(h:∀c∈d,jg c=true)(hs:Zy s):(d++s).takeWhile jg=d:=by refine(Il (p:=jg) h ?_).1;intro c hc;obtain⟨r,e⟩:=bO hc;exact hs c r e
theorem Ou{n aH:LN}(g:bF n=true)(h:∀c r,aH=c::r->ax c=false):fw (n++aH)=some (n,aH):=by
 have ns:∀c∈n,ax c=true:=by
  cases n with
  |nil=>cases g
  |cons d r=>have g:(iA d&&(d::r).all ax&&decide ((d::r).length<=12))=true:=g;rw[bu,bu]at g;exact fun c hc=>fU.mp g.1.2 c hc
 obtain⟨e1,e2⟩:=Il (p:=ax) (run:=n) (aH:=aH) ns fun c hc=>by obtain⟨r,e⟩:=bO hc;exact h c r e
 rw[js,e1,e2];exact⟨g,Z,Z⟩
theorem ZcE{s:LN}(h:Zy s):∀c r,s=c::r->ax c=false:=fun c r e=>by have:=h c r e;unfold jg at this;rw[Bool.or_eq_false_iff]at this;exact this.1
theorem Zff:∀(n:Nat)(fs:Zvn)(x:Yn),nI fs->x∈kQ fs 0->x.p.length=n->∀(bI s:LN)(f:Nat),Zy s->(x.d++s).length<f->∃nm aH,x.d=nm++aH/\bF nm=true/\(∀c r,aH++s=c::r->ax c=false)/\gH f (bI++nm) (aH++s)=some (bI++x.d,s)
 |0,fs,x,g,hx,hn,_,_,_,_,_=>by obtain⟨j,h,k,z,_,_,rfl⟩:=lN fs 0 x hx;cases hn
 |n+1,fs,x,g,hx,hn,bI,s,f,hs,hf=>by
  obtain⟨j,h,k,z,e1,e2,rfl⟩:=lN fs 0 x hx;obtain⟨gk,gn⟩:=nI.at g e1;cases f with
  |zero=>exact absurd hf (de _)
  |succ f=>
  cases k with
  |leaf l=>
   rw[rg]at e2;rw[cn.mp e2];refine⟨h.name,[],Z,gn,by rw[gL];exact ZcE hs,?_⟩;rw[gL,Kv _ (fun z=>?_) (Nat.succ_pos _)]
   ·show some (bI++h.name,s)=some (bI++(h.name++[]),s);rw[cJ]
   ·obtain⟨r,e⟩:=bO z;have:=hs 46 r e;cases this
  |group c gs=>rw[rg]at e2;obtain⟨y,hy,rfl⟩:=bE.mp e2;have hf:(h.name++46::y.d++s).length<f+1:=hf;obtain⟨nm,aH,q1,q2,q3,q4⟩:=Zff n gs y gk.1 hy (by simpa using hn) (bI++h.name++[46]) s f hs (by simp at hf⊢;omega);refine⟨h.name,46::y.d,Z,gn,fun c r e=>by injection e with e _;rw[<-e];rfl,?_⟩;rw[cw,GU,q1,dJ nm aH s,Ou q2 q3];fin2;rw[show bI++h.name++[46]++nm=(bI++h.name++[46])++nm from Z,q4,<-q1];show some ((bI++h.name++[46])++y.d,s)=some (bI++(h.name++46::y.d),s);simp
theorem DD:∀(f g:Nat)(bI t:LN),t.length<f->t.length<g->gH f bI t=gH g bI t
 |0,_,_,_,h,_=>absurd h (de _)
 |_+1,0,_,_,_,h=>absurd h (de _)
 |f+1,g+1,bI,t,h1,h2=>by
  rw[gH,gH];split
  ·rename_i h46;have l1:=dS h46;cases en:fw t.tail with
   |none=>rfl
   |some y=>obtain⟨n,u⟩:=y;have l2:=tM en;exact DD f g _ u (by omega) (by omega)
  ·rfl
theorem ZcF{fs:Zvn}(g:nI fs){x:Yn}(hx:x∈kQ fs 0){s:LN}(hs:Zy s):oh (x.d++s)=some (x.d,s):=by
 obtain⟨nm,aH,q1,q2,q3,q4⟩:=Zff _ fs x g hx Z [] s ((x.d++s).length+1) hs (bT _);unfold oh;have e:x.d++s=nm++(aH++s):=by rw[q1,dJ]
 rw[e,Ou q2 q3];fin2;rw[gL,gL]at q4;rw[DD ((aH++s).length+1) ((x.d++s).length+1) nm (aH++s) (bT _) (by rw[e];simp;omega)];exact q4
noncomputable def ZmM(t:Nat):Zvo:=if t=60 then .below else if t=62 then .above else if t=61 then .equal else .begins
def toT(t:Nat):Option gK->Option (Zvo×gK)
 |none=>none
 |some y=>some (ZmM t,y)
mutual
def CR(fs:Zvn):PC->Bw->Prop
 | .atom p t x,c=> ∃(i:Nat)(y:Yn),(kQ fs 0)[i]? =some y/\p=y.p/\c= .atom {col:=i,test:=toT t x}/\OkX y.l t x
 | .comp s l,c=> (s=84/\l=[]/\c= .yes)\/(s=70/\l=[]/\c= .no)\/(s=33/\∃d,c= .not d/\CR1 fs l d)\/(s=38/\∃m,c= .all m/\CRs fs l m)\/(s=124/\∃m,c= .any m/\CRs fs l m)
def CR1(fs:Zvn):List PC->Bw->Prop
 |[],_=>False
 |p::r,c=>CR fs p c/\r=[]
def CRs(fs:Zvn):List PC->Zdh->Prop
 |[],m=>m= .nil
 |p::r,m=> ∃c m',m= .cons c m'/\CR fs p c/\CRs fs r m'
end
theorem Zkm{l:cN}(ok:pE l){t s:LN}{x:gK}(h:kP l t=some (x,s)):j4 l t= .ok (x,s):=by obtain⟨e1,e2⟩:=LX ok h;unfold j4;rw[e1];fin2;rw[ak e2]
theorem Zkn{l:cN}(ok:pE l){t s:LN}{x:gK}(h:j4 l t= .ok (x,s)):kP l t=some (x,s)\/N5 s:=by
 unfold j4 at h;split at h
 ·cases h
 ·rename_i v r e;split at h
  ·rename_i hf;cases h;exact Uu ok e hf
  ·cases h
def ZiH(l:cN)(t:LN)(q:Option (Zvo×gK))(s:LN):Prop:=∃r,Zgt l t= .ok (q,r)/\r=41::s
theorem Zfg{p:LN}{l:cN}(ok:pE l){t s:LN}{pc:PC}(h:AK p l t=some (pc,s)):∃c x,pc= .atom p c x/\OkX l c x/\ZiH l t (toT c x) s:=by
 unfold AK at h;cases t with
 |nil=>cases h
 |cons c r=>
  dsimp only at h;by_cases h63:c=63
  ·rw[ak h63]at h;subst h63;unfold vb at h;split at h
   ·rename_i h41;obtain⟨s',rfl⟩:=bO h41;cases h;exact⟨63,none,Z,Z,_,Z,Z⟩
   ·cases h
  ·rw[ah h63]at h;by_cases ht:mz c l=false
   ·rw[ak ht]at h;cases h
   ·rw[ah ht]at h;have ht':mz c l=true:=by
     cases q:mz c l with
     |true=>rfl
     |false=>exact absurd q ht
    cases el:kP l r with
    |none=>rw[el]at h;cases h
    |some y=>
     obtain⟨x,u⟩:=y;rw[el]at h;dsimp only at h;unfold vb at h;split at h
     ·rename_i h41;obtain⟨s',rfl⟩:=bO h41;cases h;refine⟨c,some x,Z,⟨El el,ht'⟩,41::s',?_,Z⟩;have er:=Zkm ok el;unfold mz at ht';by_cases h94:c=94
      ·subst h94;rw[ak Z]at ht';cases l with
       |bit=>cases ht'
       |int n=>cases ht'
       |text n=>show(j4 (.text n) r).map (fun x=> (some (Zvo.begins,x.1),x.2))=_;rw[er];rfl
      ·rw[ah h94]at ht';by_cases Hn:c=60
       ·subst Hn;show(j4 l r).map (fun x=> (some (Zvo.below,x.1),x.2))=_;rw[er];rfl
       ·by_cases Sm:c=62
        ·subst Sm;show(j4 l r).map (fun x=> (some (Zvo.above,x.1),x.2))=_;rw[er];rfl
        ·by_cases L4:c=61
         ·subst L4;show(j4 l r).map (fun x=> (some (Zvo.equal,x.1),x.2))=_;rw[er];rfl
         ·simp[Hn,Sm,L4]at ht'
     ·cases h
theorem Zfh{p:LN}{l:cN}(ok:pE l){t s:LN}{q:Option (Zvo×gK)}(h:ZiH l t q s):∃pc,AK p l t=some (pc,s):=by
 obtain⟨r,h,rfl⟩:=h;have Zic:∀(c:Nat)(u:LN)(o:Zvo),c≠63->mz c l=true->(j4 l u).map (fun x=> (some (o,x.1),x.2))= .ok (q,41::s)->∃pc,AK p l (c::u)=some (pc,s):=by
  intro c u o h63 ht h;rw[Zs]at h;obtain⟨⟨x,v⟩,e1,e2⟩:=h;cases e2;rcases Zkn ok e1 with z|z
  ·refine⟨.atom p c (some x),?_⟩;unfold AK;fin2;rw[ah h63,ah (by rw[ht];exact aK),z];rfl
  ·exact absurd Z (AV z (c:=41) (by omega))
 unfold Zgt at h;split at h
 ·cases h;exact⟨.atom p 63 none,Z⟩
 ·exact Zic 60 _ .below (by decide) (by simp[mz]) h
 ·exact Zic 62 _ .above (by decide) (by simp[mz]) h
 ·exact Zic 61 _ .equal (by decide) (by simp[mz]) h
 ·split at h
  ·exact Zic 94 _ .begins (by decide) (by simp[mz,EO]) h
  ·cases h
 ·cases h
theorem nI.leaf{fs:Zvn}(g:nI fs):∀{n:Nat}{x:Yn},x∈kQ fs 0->x.p.length=n->pE x.l:=by
 intro n x hx hn;induction n generalizing fs x with
 |zero=>obtain⟨j,h,k,z,_,_,rfl⟩:=lN fs 0 x hx;cases hn
 |succ n ih=>
  obtain⟨j,h,k,z,e1,e2,rfl⟩:=lN fs 0 x hx;obtain⟨gk,_⟩:=nI.at g e1;cases k with
  |leaf l=>rw[rg]at e2;rw[cn.mp e2];exact gk
  |group c gs=>rw[rg]at e2;obtain⟨y,hy,rfl⟩:=bE.mp e2;have:=ih gk.1 hy (by simpa using hn);exact this
theorem XC{fs:Zvn}(g:nI fs)(d:LN):(∃(i:Nat)(x:Yn),(kQ fs 0)[i]? =some x/\x.d=d/\(dP fs).find? (fun y=>decide (y.1=d))=some (x.d,x.p,x.l))\/((∀x∈kQ fs 0,x.d≠d)/\(dP fs).find? (fun y=>decide (y.1=d))=none):=by
 rw[IJ g,IM];cases e:((kQ fs 0).map fun x=> (([]:LN)++x.d,([]:LN)++x.p,x.l)).find? (fun y=>decide (y.1=d))with
 |none=>right;refine⟨fun x hx z=>?_,Z⟩;have:=vg.mp e ([]++x.d,[]++x.p,x.l) (bE.mpr ⟨x,hx,Z⟩);exact this (by simpa using z)
 |some y=>left;have h1:=lj e;have h2:=f9 e;obtain⟨x,hx,rfl⟩:=bE.mp h2;obtain⟨i,hi⟩:=List.mem_iff_getElem?.mp hx;exact⟨i,x,hi,by simpa using h1,Z⟩
theorem Zfi{fs:Zvn}(g:nI fs){t s:LN}{pc:PC}(h:xY (dP fs) t=some (pc,s)):∃c,O8 fs t= .ok (c,s)/\CR fs pc c:=by
 unfold xY at h;cases ed:oh t with
 |none=>rw[ed]at h;cases h
 |some y=>
  obtain⟨d,t1⟩:=y;rw[ed]at h;dsimp only at h;obtain⟨q1,q2,q3,q4⟩:=Zz ed;rcases XC g d with⟨i,x,e1,e2,e3⟩|⟨_,e3⟩
  ·rw[e3]at h;dsimp only at h;obtain⟨c,lx,rfl,okx,r,e4,rfl⟩:=Zfg (nI.leaf g (bj e1) Z) h;refine⟨.atom {col:=i,test:=toT c lx},?_,i,x,e1,Z,Z,okx⟩;have er:t.takeWhile (fun c=>ax c||c==46)=d:=by rw[q1];exact Zkl q3 q4
   unfold O8;fin2;rw[er,ah q2,<-e2,Ot g e1];fin2;rw[da];refine⟨(toT c lx,41::s),?_,?_⟩
   ·rw[e2,q1,EK];exact e4
   ·fin2;rw[da];exact⟨s,fS.mpr Z,Z⟩
  ·rw[e3]at h;cases h
theorem Zfj:∀t:LN,Zy (t.drop (t.takeWhile jg).length)
 |[]=>fun c r e=>by cases e
 |d::t=>by
  rw[nu];split
  ·rw[bg,List.drop_succ_cons];exact Zfj t
  ·rename_i h;intro c r e;rw[t9,ib]at e;injection e with e1 _;rw[<-e1];simpa using h
theorem Zfk(t:LN):t=t.takeWhile jg++t.drop (t.takeWhile jg).length:=by
 conv=>lhs;rw[<-BS (t.takeWhile jg).length t]
 congr 1;exact(YF.mp (List.takeWhile_prefix jg)).symm
theorem Zfl{fs:Zvn}(g:nI fs){t s:LN}{c:Bw}(h:O8 fs t= .ok (c,s)):∃pc,xY (dP fs) t=some (pc,s):=by
 unfold O8 at h;have er:t.takeWhile (fun c=>ax c||c==46)=t.takeWhile jg:=rfl;dsimp only at h;rw[er]at h;split at h
 ·cases h
 ·rename_i iY;split at h
  ·cases h
  ·rename_i i l en;rw[da]at h;obtain⟨⟨q,r⟩,e1,h⟩:=h;dsimp only at h;rw[da]at h;obtain⟨s',e2,h⟩:=h;cases h;have e2:=fS.mp e2;subst e2;rcases XC g (t.takeWhile jg)with⟨j,x,f1,f2,f3⟩|⟨f1,_⟩
   ·have nm:=Ot g f1;rw[f2,en]at nm;have el:l=x.l:=aA bo (af nm);have hd:=ZcF g (bj f1) (s:=t.drop (t.takeWhile jg).length) (Zfj t);rw[f2,<-Zfk t]at hd;unfold xY;rw[hd];fin2;rw[f3];fin2;rw[el]at e1;exact Zfh (nI.leaf g (bj f1) Z) ⟨_,e1,Z⟩
   ·rw[Zx g f1]at en;cases en
def pPs(one:RC):Nat->LN->Option (List PC×LN)
 |0,_=>none
 |f+1,t=>match one t with
  |none=>none
  |some (c,r)=>if r.head?=some 44 then(pPs one f r.tail).map fun x=> (c::x.1,x.2)else if r.head?=some 93 then some ([c],r.tail)else none
theorem KH{one:RC}(hp:Zcp one):∀(f:Nat)(bI:List PC)(t:LN)(g:Nat),t.length<f->t.length<g->(match gc one f bI t with
   |none=>none
   |some (l,u)=>if u.head?=some 93 then some (l,u.tail)else none)=(if t.head?=some 44 then(pPs one g t.tail).map fun x=> (bI++x.1,x.2)else if t.head?=some 93 then some (bI,t.tail)else none)
 |0,_,_,_,h,_=>absurd h (de _)
 |_+1,_,_,0,_,h=>absurd h (de _)
 |f+1,bI,t,g+1,h1,h2=>by
  rw[gc];by_cases Ja:t.head?=some 44
  ·rw[ak Ja,ak Ja,pPs];have l0:=dS Ja;cases e:one t.tail with
   |none=>rfl
   |some y=>
    obtain⟨c,r⟩:=y;fin2;have l1:=hp _ _ _ e;rw[KH hp f (bI++[c]) r g (by omega) (by omega)];by_cases hr:r.head?=some 44
    ·rw[ak hr,ak hr];cases pPs one g r.tail with
     |none=>rfl
     |some z=>simp
    ·rw[ah hr,ah hr];by_cases h93:r.head?=some 93
     ·rw[ak h93,ak h93];rfl
     ·rw[ah h93,ah h93];rfl
  ·rw[ah Ja,ah Ja]
theorem Ov{one:RC}(hp:Zcp one)(t:LN)(g:Nat)(h:t.length<g):pA one (91::t)=pPs one g t:=by
 unfold pA;rw[ak (show(91::t).head?=some 91 from Z)];cases g with
 |zero=>exact absurd h (de _)
 |succ g=>
  rw[pPs];dsimp only[List.tail_cons];cases e:one t with
  |none=>rfl
  |some y=>obtain⟨c,r⟩:=y;fin2;have l1:=hp _ _ _ e;have:=KH hp (r.length+1) [c] r g (bT _) (by omega);refine Eq.trans ?_ (this.trans Z);cases gc one (r.length+1) [c] r<;>rfl
theorem Zfm{one:RC}{t:LN}(h:t.head?≠some 91):pA one t=none:=by unfold pA;rw[ah h]
theorem vU{n:Nat}(hn:n<=21):Mg<=21-n↔n<=1:=by show 20<=21-n↔n<=1;omega
theorem Zpz{fs:Zvn}{f d c:Nat}{r:LN}(h1:c≠84)(h2:c≠70)(h3:c≠40)(h4:c≠33)(h5:c≠38)(h6:c≠124):qS fs (f+1) d (c::r)=gQ 1 (c::r):=by rw[qS]<;> (intro r' z;injection z with z _;first|exact h1 z|exact h2 z|exact h3 z|exact h4 z|exact h5 z|exact h6 z)
theorem ZiI{fs:Zvn}{f d:Nat}{r:LN}:qS fs (f+1) d (33::r)=if Mg<=d then gQ 5 (33::r)else(qS fs f (d+1) r).map fun x=> (.not x.1,x.2):=rfl
theorem ZiJ{fs:Zvn}{f d:Nat}{r:LN}:qS fs (f+1) d (38::r)=if Mg<=d then gQ 5 (38::r)else(Sr 91 r>>=fun s=> (pI fs f (d+1) s).map fun x=> (.all x.1,x.2)):=rfl
theorem Zfn{fs:Zvn}{f d:Nat}{r:LN}:qS fs (f+1) d (124::r)=if Mg<=d then gQ 5 (124::r)else(Sr 91 r>>=fun s=> (pI fs f (d+1) s).map fun x=> (.any x.1,x.2)):=rfl
theorem rcs{fs:Zvn}{f d:Nat}{t:LN}:pI fs (f+1) d t=(qS fs f d t>>=fun x=>match x.2 with
  |44::s=> (pI fs f d s).map fun y=> (.cons x.1 y.1,y.2)
  |93::s=> .ok (.cons x.1 .nil,s)
  |_=>gQ 1 x.2):=by
 rw[pI];rfl
theorem XD{fs:Zvn}(g:nI fs):∀f:Nat,(∀(n:Nat)(t:LN)(pc:PC)(s:LN),n<=21->2*t.length+2<=f->iM (dP fs) n t=some (pc,s)->∃c,qS fs f (21-n) t= .ok (c,s)/\CR fs pc c)/\(∀(n:Nat)(t:LN)(l:List PC)(s:LN)(k:Nat),n<=21->2*t.length+3<=f->pPs (iM (dP fs) n) k t=some (l,s)->∃m,pI fs f (21-n) t= .ok (m,s)/\CRs fs l m)
 |0=> ⟨fun n t pc s _ h _=>by omega,fun n t l s k _ h _=>by omega⟩
 |f+1=>by
  obtain⟨ih1,ih2⟩:=XD g f;constructor
  ·intro n t pc s hn hf h;cases n with
   |zero=>cases h
   |succ n=>
   cases t with
   |nil=>cases h
   |cons c r=>
   rw[iM]at h;have d1:21-(n+1)+1=21-n\/n=21:=by omega
   have lr:(c::r).length=r.length+1:=rfl;by_cases LC:c=40
   ·subst LC;rw[ak Z]at h;exact Zfi g h
   rw[ah LC]at h;by_cases htf:c=84\/c=70
   ·rw[ak htf]at h;cases h;rcases htf with rfl|rfl
    ·exact⟨.yes,Z,.inl ⟨Z,Z,Z⟩⟩
    ·exact⟨.no,Z,.inr (.inl ⟨Z,Z,Z⟩)⟩
   rw[ah htf]at h;by_cases O3:c=33
   ·subst O3;rw[ak Z]at h;cases e:iM (dP fs) n r with
    |none=>rw[e]at h;cases h
    |some y=>
     obtain⟨p,u⟩:=y;rw[e]at h;cases h;have hn0:n≠0:=fun z=>by rw[z]at e;cases e
     obtain⟨c',q1,q2⟩:=ih1 n r p u (by omega) (by omega) e;rw[ZiI,ah (by rw[vU hn];omega),show 21-(n+1)+1=21-n by omega,q1];exact⟨.not c',Z,.inr (.inr (.inl ⟨Z,c',Z,q2,Z⟩))⟩
   rw[ah O3]at h;by_cases ZX:c=38\/c=124
   ·rw[ak ZX]at h;by_cases h91:r.head?=some 91
    ·obtain⟨r',rfl⟩:=bO h91;rw[Ov (qI _ n) r' (r'.length+1) (bT _)]at h;cases e:pPs (iM (dP fs) n) (r'.length+1) r' with
     |none=>rw[e]at h;cases h
     |some y=>
      obtain⟨l,u⟩:=y;rw[e]at h;cases h;have hn0:n≠0:=fun z=>by rw[z]at e;cases e
      obtain⟨m,q1,q2⟩:=ih2 n r' l u _ (by omega) (by simp at hf;omega) e;rcases ZX with rfl|rfl
      ·rw[ZiJ,ah (by rw[vU hn];omega),show 21-(n+1)+1=21-n by omega];refine⟨.all m,?_,.inr (.inr (.inr (.inl ⟨Z,m,Z,q2⟩)))⟩;rw[da];refine⟨r',fS.mpr Z,?_⟩;rw[q1];rfl
      ·rw[Zfn,ah (by rw[vU hn];omega),show 21-(n+1)+1=21-n by omega];refine⟨.any m,?_,.inr (.inr (.inr (.inr ⟨Z,m,Z,q2⟩)))⟩;rw[da];refine⟨r',fS.mpr Z,?_⟩;rw[q1];rfl
    ·rw[Zfm h91]at h;cases h
   ·rw[ah ZX]at h;cases h
  ·intro n t l s k hn hf h;cases k with
   |zero=>cases h
   |succ k=>
   rw[pPs]at h;cases e:iM (dP fs) n t with
   |none=>rw[e]at h;cases h
   |some y=>
    obtain⟨p,r⟩:=y;rw[e]at h;dsimp only at h;have lr:=qI _ n _ _ _ e;obtain⟨c,q1,q2⟩:=ih1 n t p r hn (by omega) e;rw[rcs];by_cases Ja:r.head?=some 44
    ·rw[ak Ja]at h;obtain⟨r',rfl⟩:=bO Ja;dsimp only[List.tail_cons]at h;cases e2:pPs (iM (dP fs) n) k r' with
     |none=>rw[e2]at h;cases h
     |some y=>obtain⟨l',u⟩:=y;rw[e2]at h;cases h;obtain⟨m,q3,q4⟩:=ih2 n r' l' u k hn (by simp at lr;omega) e2;refine⟨.cons c m,?_,c,m,Z,q2,q4⟩;rw[da];refine⟨(c,44::r'),q1,?_⟩;show(pI fs f (21-n) r').map (fun y=> (Zdh.cons c y.1,y.2))=_;rw[q3];rfl
    ·rw[ah Ja]at h;split at h
     ·rename_i h93;obtain⟨r',rfl⟩:=bO h93;cases h;refine⟨.cons c .nil,?_,c,.nil,Z,q2,Z⟩;rw[da];exact⟨(c,93::r'),q1,Z⟩
     ·cases h
theorem XF{fs:Zvn}(g:nI fs):∀f:Nat,(∀(n:Nat)(t:LN)(c:Bw)(s:LN),1<=n->n<=21->qS fs f (21-n) t= .ok (c,s)->∃pc,iM (dP fs) n t=some (pc,s))/\(∀(n:Nat)(t:LN)(m:Zdh)(s:LN),1<=n->n<=21->pI fs f (21-n) t= .ok (m,s)->∃l,∀k,t.length<k->pPs (iM (dP fs) n) k t=some (l,s))
 |0=>by
  constructor
  ·intro n t c s _ _ h;have h:(gQ 1 t:Except wd (Bw×LN))= .ok (c,s):=h;cases h
  ·intro n t m s _ _ h;have h:(gQ 1 t:Except wd (Zdh×LN))= .ok (m,s):=h;cases h
 |f+1=>by
  obtain⟨ih1,ih2⟩:=XF g f;constructor
  ·intro n t c s h1 hn h;obtain⟨n,rfl⟩:∃n',n=n'+1:=⟨n-1,by omega⟩;cases t with
   |nil=>have h:(gQ 1 []:Except wd (Bw×LN))= .ok (c,s):=h;cases h
   |cons d r=>
   rw[iM];by_cases LC:d=40
   ·subst LC;rw[ak Z];exact Zfl g h
   rw[ah LC];by_cases htf:d=84\/d=70
   ·rw[ak htf];rcases htf with rfl|rfl
    ·have h:xr (Bw.yes,r)=xr (c,s):=h;cases h;exact⟨_,Z⟩
    ·have h:xr (Bw.no,r)=xr (c,s):=h;cases h;exact⟨_,Z⟩
   rw[ah htf];by_cases O3:d=33
   ·subst O3;rw[ak Z];rw[ZiI]at h;split at h
    ·cases h
    ·rename_i hd;rw[vU hn]at hd;rw[show 21-(n+1)+1=21-n by omega,Zs]at h;obtain⟨⟨c',u⟩,e1,e2⟩:=h;cases e2;obtain⟨pc,q⟩:=ih1 n r c' u (by omega) (by omega) e1;rw[q];exact⟨_,Z⟩
   rw[ah O3];by_cases ZX:d=38\/d=124
   ·rw[ak ZX];rcases ZX with rfl|rfl
    ·rw[ZiJ]at h;split at h
     ·cases h
     ·rename_i hd;rw[vU hn]at hd;rw[show 21-(n+1)+1=21-n by omega,da]at h;obtain⟨r',e1,h⟩:=h;have e1:=fS.mp e1;subst e1;rw[Zs]at h;obtain⟨⟨m,u⟩,e1,e2⟩:=h;cases e2;obtain⟨l,q⟩:=ih2 n r' m u (by omega) (by omega) e1;rw[Ov (qI _ n) r' (r'.length+1) (bT _),q _ (bT _)];exact⟨_,Z⟩
    ·rw[Zfn]at h;split at h
     ·cases h
     ·rename_i hd;rw[vU hn]at hd;rw[show 21-(n+1)+1=21-n by omega,da]at h;obtain⟨r',e1,h⟩:=h;have e1:=fS.mp e1;subst e1;rw[Zs]at h;obtain⟨⟨m,u⟩,e1,e2⟩:=h;cases e2;obtain⟨l,q⟩:=ih2 n r' m u (by omega) (by omega) e1;rw[Ov (qI _ n) r' (r'.length+1) (bT _),q _ (bT _)];exact⟨_,Z⟩
   ·rw[Zpz (fun z=>htf (.inl z)) (fun z=>htf (.inr z)) LC O3 (fun z=>ZX (.inl z)) (fun z=>ZX (.inr z))]at h;cases h
  ·intro n t m s h1 hn h;rw[rcs,da]at h;obtain⟨⟨c,r⟩,e1,h⟩:=h;obtain⟨pc,q1⟩:=ih1 n t c r h1 hn e1;have lr:=qI _ n _ _ _ q1;dsimp only at h;split at h
   ·rename_i r';rw[Zs]at h;obtain⟨⟨m',u⟩,e2,e3⟩:=h;cases e3;obtain⟨l,q2⟩:=ih2 n r' m' u h1 hn e2;refine⟨pc::l,fun k hk=>?_⟩;cases k with
    |zero=>exact absurd hk (de _)
    |succ k=>rw[pPs,q1];fin2;rw[ak (show(44::r').head?=some 44 from Z)];dsimp only[List.tail_cons];rw[q2 k (by simp at lr;omega)];rfl
   ·rename_i r';cases h;refine⟨[pc],fun k hk=>?_⟩;cases k with
    |zero=>exact absurd hk (de _)
    |succ k=>rw[pPs,q1];rfl
   ·cases h
theorem AY{fs:Zvn}(g:nI fs){t:LN}{pc:PC}(h:gC (dP fs) t=some pc):∃c,ij fs t= .ok c/\CR fs pc c:=by
 unfold gC at h;split at h
 ·cases h
 ·rename_i hl;cases e:iM (dP fs) 21 t with
  |none=>rw[e]at h;cases h
  |some y=>
   obtain⟨p,s⟩:=y;rw[e]at h;dsimp only at h;split at h
   ·rename_i hs;cases h;obtain⟨c,q1,q2⟩:=(XD g (2*t.length+2)).1 21 t pc s (aC _) (aC _) e;refine⟨c,?_,q2⟩;unfold ij;rw[ah (show¬Vacoli.MOST<t.length from hl),da];refine⟨(c,s),q1,?_⟩;fin2;rw[ak hs]
   ·cases h
theorem Ow{fs:Zvn}(g:nI fs){t:LN}(h:gC (dP fs) t=none):∃e,ij fs t= .error e:=by
 cases q:ij fs t with
 |error e=>exact⟨e,Z⟩
 |ok c=>
  exfalso;unfold ij at q;split at q
  ·cases q
  ·rename_i hl;rw[da]at q;obtain⟨⟨c',s⟩,e1,e2⟩:=q;dsimp only at e2;split at e2
   ·rename_i hs;obtain⟨pc,q1⟩:=(XF g (2*t.length+2)).1 21 t c' s (by decide) (aC _) e1;unfold gC at h;rw[ah (show¬500<t.length from hl),q1]at h;dsimp only at h;rw[ak hs]at h;cases h
   ·cases e2
theorem XG(b a:LN):decide (a.take b.length=b)=b.isPrefixOf a:=by rw[dI,decide_eq_true_eq,UX,YF];exact⟨fun h=>h.symm,fun h=>h.symm⟩
theorem R0{l:cN}{t:Nat}{x:Option gK}(ok:OkX l t x){y:gK}(ty:Ks l y):Kw t x y=Zvi (toT t x) y:=by
 cases x with
 |none=>rfl
 |some z=>
  obtain⟨tz,it⟩:=ok;unfold Kw toT ZmM;fin2;by_cases Hn:t=60
  ·rw[ak Hn,ak Hn];rfl
  rw[ah Hn,ah Hn];by_cases Sm:t=62
  ·rw[ak Sm,ak Sm];rfl
  rw[ah Sm,ah Sm];by_cases L4:t=61
  ·rw[ak L4,ak L4];show decide (y=z)=(y==z);rw[dI,decide_eq_true_eq,beq_iff_eq]
  rw[ah L4,ah L4];have h94:t=94:=by
   unfold mz at it;by_cases z:t=94
   ·exact z
   ·rw[ah z]at it;simp[Hn,L4,Sm]at it
  subst h94;have tt:EO l=true:=it;cases y with
  |num i=>have t1:EO l=false:=ty;rw[t1]at tt;cases tt
  |str a=>
   cases z with
   |num j=>have t2:EO l=false:=tz;rw[t2]at tt;cases tt
   |str b=>exact XG b a
theorem IS(f:gK->Bool):∀l:List (Option gK),(l.any fun x=>x.any f)=(l.filterMap id).any f
 |[]=>rfl
 |none::r=>by rw[dD,IS f r];rfl
 |some y::r=>by rw[dD,IS f r];rfl
theorem ZcH(t:Nat)(x:Option gK)(ys:List gK):Iz t x (ys.map dh.lit)=ys.any (Kw t x):=by unfold Iz;rw[List.any_map];rfl
theorem ZcI{fs:Zvn}(g:nI fs)(iY:fs.list≠ []){v:dh}(hv:Oj (.group false fs) v){p:LN}{t:Nat}{x:Option gK}{c:Bw}(h:CR fs (.atom p t x) c):jk v (.atom p t x)=pJ fs v c/\OkC v (.atom p t x):=by
 obtain⟨i,y,e1,rfl,rfl,ok⟩:=h;obtain⟨ys,q1,q2,q3⟩:=Oo _ (.group false fs) {y with d:=46::y.d} ⟨g,iY⟩ (by rw[rg];exact bE.mpr ⟨y,bj e1,Z⟩) Z [v] fun u hu=>by rw[cn.mp hu];exact hv
 have q1:rb y.p [v]=some (ys.map dh.lit):=q1;have q3:[v].flatMap (Ex y.np (.group false fs))=ys:=q3;rw[dM,OY,cJ]at q3;constructor
 ·rw[jk];unfold Xd;rw[q1];fin2;rw[ZcH];obtain⟨c,r1,r2,r3⟩:=Zw e1;have er:pJ fs v (.atom {col:=i,test:=toT t x})=ZlD fs {col:=i,test:=toT t x} v:=by rw[pJ]
  rw[er];unfold ZlD;fin2;rw[r1];fin2;unfold Zdw;rw[IS,r2];have q3:(Je y.np (.group false fs) v).filterMap id=ys:=q3;rw[q3,dI,gS,gS];constructor
  ·rintro ⟨z,h1,h2⟩;exact⟨z,h1,by rw[<-R0 ok (q2 z h1)];exact h2⟩
  ·rintro ⟨z,h1,h2⟩;exact⟨z,h1,by rw[R0 ok (q2 z h1)];exact h2⟩
 ·refine⟨y.l,ys.map dh.lit,q1,fun u hu=>?_,ok⟩;obtain⟨z,hz,rfl⟩:=bE.mp hu;exact⟨z,Z,q2 z hz⟩
mutual
theorem Bs{fs:Zvn}(g:nI fs)(iY:fs.list≠ []){v:dh}(hv:Oj (.group false fs) v):∀(pc:PC)(c:Bw),CR fs pc c->jk v pc=pJ fs v c/\OkC v pc
 | .atom p t x,c,h=>ZcI g iY hv h
 | .comp s l,c,h=>by
  rw[jk]
  rcases h with⟨rfl,rfl,rfl⟩|⟨rfl,rfl,rfl⟩|⟨rfl,d,rfl,h⟩|⟨rfl,m,rfl,h⟩|⟨rfl,m,rfl,h⟩
  ·exact⟨by rw[pJ];rfl,fun z=> (by cases z),trivial⟩
  ·exact⟨by rw[pJ];rfl,fun z=> (by cases z),trivial⟩
  ·obtain⟨q1,q2,q3⟩:=Zfo g iY hv l d h
   refine⟨?_,fun _=>q3,q2⟩
   rw[ah (by decide),ah (by decide),ak Z,q1,pJ]
  ·obtain⟨q1,q2,q3⟩:=Ez g iY hv l m h
   refine⟨?_,fun z=> (by cases z),q3⟩
   rw[ah (by decide),ah (by decide),ah (by decide),ak Z,q1,pJ]
  ·obtain⟨q1,q2,q3⟩:=Ez g iY hv l m h
   refine⟨?_,fun z=> (by cases z),q3⟩
   rw[ah (by decide),ah (by decide),ah (by decide),ah (by decide),q2,pJ]
theorem Zfo{fs:Zvn}(g:nI fs)(iY:fs.list≠ []){v:dh}(hv:Oj (.group false fs) v):∀(l:List PC)(d:Bw),CR1 fs l d->Zhv v l=!pJ fs v d/\Xe v l/\l≠ []
 |[],_,h=>by cases h
 |p::r,d,h=>by
  obtain⟨h1,rfl⟩:=h
  obtain⟨q1,q2⟩:=Bs g iY hv p d h1
  exact⟨by rw[Zhv,q1],⟨q2,trivial⟩,by simp⟩
theorem Ez{fs:Zvn}(g:nI fs)(iY:fs.list≠ []){v:dh}(hv:Oj (.group false fs) v):∀(l:List PC)(m:Zdh),CRs fs l m->Qw v l=Zgu fs v m/\DA v l=Zgv fs v m/\Xe v l
 |[],m,h=>by
  have h:m= .nil:=h
  subst h
  exact⟨by rw[Qw,Zgu],by rw[DA,Zgv],trivial⟩
 |p::r,m,h=>by
  obtain⟨c,m',rfl,h1,h2⟩:=h
  obtain⟨q1,q2⟩:=Bs g iY hv p c h1
  obtain⟨r1,r2,r3⟩:=Ez g iY hv r m' h2
  exact⟨by rw[Qw,Zgu,q1,r1],by rw[DA,Zgv,q1,r2],q2,r3⟩
end
abbrev G6(rs:bN):List (Int×dh):=rs.map fun r=> (r.1,r.2.2)
noncomputable abbrev IT(R:Zvq):List (Int×dh):=R.map fun x=> ((x.1:Int),x.2)
structure jj(fs:Zvn)(rs:bN)(R:Zvq):Prop where
 sorted:R.Pairwise fun a b=>a.1<b.1
 UE:(G6 rs).Perm (IT R)
 XI:∀r∈rs,mP fs r.2.1=some r.2.2
theorem LZ{R:Zvq}(h:R.Pairwise fun a b=>a.1<b.1):((IT R).map (·.1)).Nodup:=by unfold IT;rw[eM];refine UY _ (fun a b(ZX:a.1<b.1)=>?_) h;show((a.1:Nat):Int)≠((b.1:Nat):Int);omega
theorem AZ{l:List (Int×dh)}(hn:(l.map (·.1)).Nodup){n:Int}{v:dh}:((l.find? fun x=>decide (x.1=n)).map (·.2)=some v)↔(n,v)∈l:=by
 constructor
 ·intro h;cases e:l.find? fun x=>decide (x.1=n)with
  |none=>rw[e]at h;cases h
  |some y=>
   rw[e]at h;have e2:y.2=v:=af h;have e3:y.1=n:=by simpa using lj e
   rw[<-e2,<-e3];exact f9 e
 ·intro h;cases e:l.find? fun x=>decide (x.1=n)with
  |none=>have:=vg.mp e (n,v) h;exact absurd (aD (show(n,v).1=n from Z)) this
  |some y=>
   have e3:y.1=n:=by simpa using lj e
   have e4:=f9 e;have:y=(n,v):=by
    obtain⟨i,hi,ei⟩:=List.getElem_of_mem e4;obtain⟨j,hj,ej⟩:=List.getElem_of_mem h;have hij:i=j:=by
     by_cases iY:i=j
     ·exact iY
     ·exfalso;have hp:=Vk.mp hn;rcases Nat.lt_or_gt_of_ne iY with z|z
      ·have:=hp i j (by simpa using hi) (by simpa using hj) z;simp[ei,ej,e3]at this
      ·have:=hp j i (by simpa using hj) (by simpa using hi) z;simp[ei,ej,e3]at this
    subst hij;rw[<-ei,ej]
   rw[this];rfl
theorem Zfp(rs:bN)(n:Int):(oi rs n).map (·.2)=((G6 rs).find? fun x=>decide (x.1=n)).map (·.2):=by
 unfold oi G6;rw[List.find?_map];cases e:rs.find? ((fun x=>decide (x.1=n))∘fun r=> (r.1,r.2.2))with
 |none=>have:rs.find? (fun x=>decide (x.1=n))=none:=e;rw[this];rfl
 |some y=>have:rs.find? (fun x=>decide (x.1=n))=some y:=e;rw[this];rfl
theorem Za2(R:Zvq)(n:Int):kF R n=((IT R).find? fun x=>decide (x.1=n)).map (·.2):=by
 unfold kF IT;rw[List.find?_map];have:((fun x:Int×dh=>decide (x.1=n))∘fun x:Nat×dh=> ((x.1:Int),x.2))=fun x:Nat×dh=> (x.1:Int)==n:=by funext x;show decide ((x.1:Int)=n)=((x.1:Int)==n);rw[dI,decide_eq_true_eq,beq_iff_eq]
 rw[this];cases R.find? fun x=> (x.1:Int)==n<;>rfl
theorem jj.get{fs:Zvn}{rs:bN}{R:Zvq}(h:jj fs rs R)(n:Int):(oi rs n).map (·.2)=kF R n:=by
 rw[Zfp,Za2];have nd:=LZ h.sorted;have Yq:((G6 rs).map (·.1)).Nodup:=(h.UE.map _).nodup_iff.mpr nd;cases e:((IT R).find? fun x=>decide (x.1=n)).map (·.2)with
 |some v=>exact(AZ Yq).mpr (h.UE.mem_iff.mpr ((AZ nd).mp e))
 |none=>
  cases e2:((G6 rs).find? fun x=>decide (x.1=n)).map (·.2)with
  |none=>rfl
  |some v=>have:=(AZ nd).mpr (h.UE.mem_iff.mp ((AZ Yq).mp e2));rw[e]at this;cases this
theorem jj.has{fs:Zvn}{rs:bN}{R:Zvq}(h:jj fs rs R)(n:Int):mC rs n=fm R n:=by unfold mC fm;rw[<-h.get n,oO]
theorem jj.look{fs:Zvn}(g:nI fs)(iY:fs.list≠ []){rs:bN}{R:Zvq}(h:jj fs rs R)(n:Int):(∃r v,oi rs n=some r/\kF R n=some v/\nG fs v=r.1/\r.2=v)\/(oi rs n=none/\kF R n=none):=by
 have e:=h.get n;cases q:oi rs n with
 |none=>rw[q]at e;exact .inr ⟨Z,e.symm⟩
 |some r=>rw[q]at e;refine .inl ⟨r,r.2,Z,e.symm,Zfe g iY (h.XI _ (oj q)),Z⟩
theorem Za3(id:Nat)(v:dh):∀(R:Zvq),R.Pairwise (fun a b=>a.1<b.1)->(kH id v R).Pairwise (fun a b=>a.1<b.1)/\∀x,x∈kH id v R↔x=(id,v)\/(x∈R/\x.1≠id)
 |[],_=>by rw[kH];exact⟨yq _ _,fun x=>by simp⟩
 |(i,w)::r,h=>by
  obtain⟨h1,h2⟩:=kR.mp h;obtain⟨ih1,ih2⟩:=Za3 id v r h2;rw[kH];by_cases qR:id<i
  ·rw[ak qR];refine⟨kR.mpr ⟨fun x hx=>?_,h⟩,fun x=>?_⟩
   ·rcases aU.mp hx with z|z
    ·rw[z];exact qR
    ·have:=h1 x z;show id<x.1;have:i<x.1:=this;omega
   ·constructor
    ·intro hx;rcases aU.mp hx with z|z
     ·exact .inl z
     ·refine .inr ⟨z,?_⟩;rcases aU.mp z with y|y
      ·rw[y];show i≠id;omega
      ·have:i<x.1:=h1 x y;omega
    ·rintro (z|⟨z,_⟩)
     ·rw[z];exact aM
     ·exact aG _ z
  ·rw[ah qR];by_cases heq:id=i
   ·rw[ak heq];subst heq;refine⟨kR.mpr ⟨h1,h2⟩,fun x=>?_⟩;constructor
    ·intro hx;rcases aU.mp hx with z|z
     ·exact .inl z
     ·have:id<x.1:=h1 x z;exact .inr ⟨aG _ z,by omega⟩
    ·rintro (z|⟨z,hz⟩)
     ·rw[z];exact aM
     ·rcases aU.mp z with y|y
      ·rw[y]at hz;exact absurd Z hz
      ·exact aG _ y
   ·rw[ah heq];refine⟨kR.mpr ⟨fun x hx=>?_,ih1⟩,fun x=>?_⟩
    ·rcases(ih2 x).mp hx with z|⟨z,_⟩
     ·rw[z];show i<id;omega
     ·exact h1 x z
    ·constructor
     ·intro hx;rcases aU.mp hx with z|z
      ·rw[z];exact .inr ⟨aM,fun q=>heq q.symm⟩
      ·rcases(ih2 x).mp z with y|⟨y,hy⟩
       ·exact .inl y
       ·exact .inr ⟨aG _ y,hy⟩
     ·rintro (z|⟨z,hz⟩)
      ·exact aG _ ((ih2 x).mpr (.inl z))
      ·rcases aU.mp z with y|y
       ·rw[y];exact aM
       ·exact aG _ ((ih2 x).mpr (.inr ⟨y,hz⟩))
theorem ZhI{α:Type}{l m:List α}(h1:l.Nodup)(h2:m.Nodup)(h:∀x,x∈l↔x∈m):l.Perm m:=(List.perm_ext_iff_of_nodup h1 h2).mpr h
theorem ZcJ(rs:bN)(n:Int)(r:ym):(xb rs n r).map (·.1)=if(rs.any fun x=>decide (x.1=n))=true then rs.map (·.1)else rs.map (·.1)++[n]:=by
 unfold xb;split
 ·rw[eM];refine kb fun x _=>?_;show(if x.1=n then(x.1,r)else x).1=x.1;split<;>rfl
 ·rw[cg];rfl
theorem G7(rs:bN)(n:Int)(r:ym)(x:Int×ym):x∈xb rs n r↔x=(n,r)\/(x∈rs/\x.1≠n):=by
 unfold xb;split
 ·rename_i h;rw[bE];constructor
  ·rintro ⟨y,hy,e⟩;by_cases hn:y.1=n
   ·rw[ak hn]at e;left;rw[<-e,hn]
   ·rw[ah hn]at e;rw[<-e];exact .inr ⟨hy,hn⟩
  ·rintro (z|⟨z,hz⟩)
   ·obtain⟨y,hy,ey⟩:=gS.mp h;have ey:y.1=n:=of_decide_eq_true ey;exact⟨y,hy,by rw[ak ey,z,ey]⟩
   ·exact⟨x,z,by rw[ah hz]⟩
 ·rename_i h;rw[cz,cn];constructor
  ·rintro (z|z)
   ·refine .inr ⟨z,fun q=>h (gS.mpr ⟨x,z,aD q⟩)⟩
   ·exact .inl z
  ·rintro (z|⟨z,_⟩)
   ·exact .inr z
   ·exact .inl z
theorem jj.ZmO{fs:Zvn}{rs:bN}{R:Zvq}(h:jj fs rs R):(rs.map (·.1)).Nodup:=by have nd:=LZ h.sorted;have Yq:((G6 rs).map (·.1)).Nodup:=(h.UE.map _).nodup_iff.mpr nd;unfold G6 at Yq;rw[eM]at Yq;exact Yq
theorem XH{l:List (Int×dh)}(h:(l.map (·.1)).Nodup):l.Nodup:=by refine List.Pairwise.imp (fun{a b} q=>?_) (LF.mp h);intro e;exact q (by rw[e])
theorem jj.put{fs:Zvn}{rs:bN}{R:Zvq}(h:jj fs rs R){id:Nat}{r:ym}(hr:mP fs r.1=some r.2):jj fs (xb rs (id:Int) r) (kH id r.2 R):=by
 obtain⟨s1,s2⟩:=Za3 id r.2 R h.sorted;refine⟨s1,ZhI ?_ (XH (LZ s1)) fun x=>?_,fun x hx=>?_⟩
 ·refine XH ?_;unfold G6;rw[eM];show((xb rs (id:Int) r).map (·.1)).Nodup;rw[ZcJ];split
  ·exact h.ZmO
  ·rename_i hn;rw[pM];refine⟨h.ZmO,yq _ _,fun a ha b hb=>?_⟩;rw[cn.mp hb];intro e;obtain⟨y,hy,ey⟩:=bE.mp ha;exact hn (gS.mpr ⟨y,hy,aD (ey.trans e)⟩)
 ·unfold G6 IT;rw[bE,bE];constructor
  ·rintro ⟨y,hy,rfl⟩;rcases(G7 rs _ r y).mp hy with z|⟨z,hz⟩
   ·rw[z];exact⟨(id,r.2),(s2 _).mpr (.inl Z),Z⟩
   ·have:((y.1,y.2.2):Int×dh)∈IT R:=h.UE.mem_iff.mp (bE.mpr ⟨y,z,Z⟩);obtain⟨w,hw,ew⟩:=bE.mp this;refine⟨w,(s2 w).mpr (.inr ⟨hw,fun q=>hz ?_⟩),ew⟩;rw[<-(aA bU ew:((w.1:Nat):Int)=y.1),q]
  ·rintro ⟨w,hw,rfl⟩;rcases(s2 w).mp hw with z|⟨z,hz⟩
   ·rw[z];exact⟨((id:Int),r),(G7 rs _ r _).mpr (.inl Z),Z⟩
   ·have:(((w.1:Int),w.2):Int×dh)∈G6 rs:=h.UE.mem_iff.mpr (bE.mpr ⟨w,z,Z⟩);obtain⟨y,hy,ey⟩:=bE.mp this;refine⟨y,(G7 rs _ r y).mpr (.inr ⟨hy,fun q=>hz ?_⟩),ey⟩;have e1:y.1=(w.1:Int):=aA bU ey;rw[e1]at q;omega
 ·rcases(G7 rs _ r x).mp hx with z|⟨z,_⟩
  ·rw[z];exact hr
  ·exact h.XI x z
theorem jj.drop{fs:Zvn}{rs:bN}{R:Zvq}(h:jj fs rs R)(id:Nat):jj fs (rO rs (id:Int)) (jM id R):=by
 refine⟨h.sorted.filter _,?_,fun x hx=>h.XI x (QO.mp hx).1⟩;have e1:G6 (rO rs (id:Int))=(G6 rs).filter fun x=>decide (x.1≠(id:Int)):=by unfold G6 rO;rw[QQ];rfl
 have e2:IT (jM id R)=(IT R).filter fun x=>decide (x.1≠(id:Int)):=by unfold IT jM;rw[QQ];congr 1;refine List.filter_congr fun x _=>?_;show(x.1 !=id)=decide (((x.1:Nat):Int)≠(id:Int));rw[dI,decide_eq_true_eq,bne_iff_ne];omega
 rw[e1,e2];exact h.UE.filter _
theorem jj.nil(fs:Zvn):jj fs [] []:=⟨.nil,.refl _,fun r h=> (by cases h)⟩
def UD(fs:Zvn):dk->m6->Prop
 | .put n r,.put id v=>n=(id:Int)/\r.2=v/\mP fs r.1=some v
 | .look n,.look m=>n=m
 | .ask pc,.ask c=>CR fs pc c
 | .replace n r,.replace m v=>n=m/\r.2=v/\mP fs r.1=some v
 | .drop n,.drop m=>n=m
 |_,_=>False
noncomputable def G9:dk->ja->List Int
 | .put n _,_=>[n]
 |_,.no=>[0]
 |_,.done=>[1]
 |_,.text t=> (t.length:Int)::t.map fun b:Nat=> (b:Int)
 |_,.ids l=> (l.length:Int)::l.map fun b:Nat=> (b:Int)
theorem KI{fs:Zvn}{rs:bN}{R:Zvq}(h:jj fs rs R):NY (rs.map (·.1))=R.map fun x=> (x.1:Int):=by
 symm;refine N0 ?_ ?_
 ·have:=(h.UE.map (·.1)).symm;unfold G6 IT at this;rw[eM,eM]at this;exact this
 ·refine UY _ (fun a b(ZX:a.1<b.1)=>?_) h.sorted;show((a.1:Nat):Int)<=((b.1:Nat):Int);omega
theorem Zfq{fs:Zvn}(g:nI fs)(iY:fs.list≠ []){rs:bN}{R:Zvq}(h:jj fs rs R){pc:PC}{c:Bw}(hc:CR fs pc c):AQ rs pc=((R.filter fun x=>pJ fs x.2 c).map fun x=>x.1).map fun b:Nat=> (b:Int):=by
 unfold AQ;rw[KI h,QQ,eM];refine aA _ (List.filter_congr fun x hx=>?_);show AO rs pc (x.1:Int)=pJ fs x.2 c;have hm:(((x.1:Int),x.2):Int×dh)∈IT R:=bE.mpr ⟨x,hx,Z⟩;have e:=h.get (x.1:Int);rw[Za2,(AZ (LZ h.sorted)).mpr hm]at e;unfold AO;cases q:oi rs (x.1:Int)with
 |none=>rw[q]at e;cases e
 |some r=>rw[q]at e;have e:r.2=x.2:=af e;fin2;rw[e];refine(Bs g iY ?_ pc c hc).1;have:=h.XI _ (oj q);have this:mP fs r.1=some r.2:=this;rw[e]at this;exact XA this
theorem L0{R:Zvq}{n:Int}(h:fm R n=true):∃id:Nat,n=(id:Int):=by unfold fm kF at h;rw[oO]at h;obtain⟨x,hx,ex⟩:=List.find?_isSome.mp h;exact⟨x.1,(beq_iff_eq.mp ex).symm⟩
theorem me{fs:Zvn}(g:nI fs)(iY:fs.list≠ []){rs:bN}{R:Zvq}(h:jj fs rs R){d:dk}{D:m6}(hd:UD fs d D):jj fs (mD rs d) (iQ fs R D).1/\jE rs d=G9 d (iQ fs R D).2:=by
 cases d with
 |put n r=>
  cases D with
  |put id v=>obtain⟨rfl,rfl,hr⟩:=hd;exact⟨h.put hr,Z⟩
  |_=>cases hd
 |look n=>
  cases D with
  |look m=>
   have hd:n=m:=hd;subst hd;refine⟨h,?_⟩;rcases h.look g iY n with⟨r,v,q1,q2,q3,_⟩|⟨q1,q2⟩
   ·show(match oi rs n with
     |some r=> (r.1.length:Int)::r.1.map fun b:Nat=> (b:Int)
     |none=>[0])=G9 (.look n) (match kF R n with
     |some v=> .text (nG fs v)
     |none=> .no)
    rw[q1,q2];fin2;rw[q3];rfl
   ·show(match oi rs n with
     |some r=> (r.1.length:Int)::r.1.map fun b:Nat=> (b:Int)
     |none=>[0])=G9 (.look n) (match kF R n with
     |some v=> .text (nG fs v)
     |none=> .no)
    rw[q1,q2];rfl
  |_=>cases hd
 |ask pc=>
  cases D with
  |ask c=>have hd:CR fs pc c:=hd;refine⟨h,?_⟩;show((AQ rs pc).length:Int)::AQ rs pc=(((R.filter fun x=>pJ fs x.2 c).map fun x=>x.1).length:Int)::((R.filter fun x=>pJ fs x.2 c).map fun x=>x.1).map fun b:Nat=> (b:Int);rw[Zfq g iY h hd,aZ]
  |_=>cases hd
 |replace n r=>
  cases D with
  |replace m v=>
   obtain⟨rfl,rfl,hr⟩:=hd;have hh:=h.has n;show jj fs (if mC rs n=true then xb rs n r else rs) (if fm R n then(kH n.toNat r.2 R,ja.done)else(R,.no)).1/\(if mC rs n=true then [1]else [0])=G9 (.replace n r) (if fm R n then(kH n.toNat r.2 R,ja.done)else(R,.no)).2;rw[hh];by_cases q:fm R n=true
   ·rw[ak q,ak q,ak q];obtain⟨id,rfl⟩:=L0 q;exact⟨h.put hr,Z⟩
   ·rw[ah q,ah q,ah q];exact⟨h,Z⟩
  |_=>cases hd
 |drop n=>
  cases D with
  |drop m=>
   have hd:n=m:=hd;subst hd;have hh:=h.has n;show jj fs (if mC rs n=true then rO rs n else rs) (if fm R n then(jM n.toNat R,ja.done)else(R,.no)).1/\(if mC rs n=true then [1]else [0])=G9 (.drop n) (if fm R n then(jM n.toNat R,ja.done)else(R,.no)).2;rw[hh];by_cases q:fm R n=true
   ·rw[ak q,ak q,ak q];obtain⟨id,rfl⟩:=L0 q;exact⟨h.drop id,Z⟩
   ·rw[ah q,ah q,ah q];exact⟨h,Z⟩
  |_=>cases hd
def gu(rs:bN):List dk->bN
 |[]=>rs
 |d::r=>gu (mD rs d) r
def fK(rs:bN):List dk->List (List Int)
 |[]=>[]
 |d::r=>jE rs d::fK (mD rs d) r
theorem DE(d:dk):∀(ds:List dk)(rs:bN),gu rs (ds++[d])=mD (gu rs ds) d
 |[],rs=>rfl
 |e::ds,rs=>DE d ds (mD rs e)
theorem DF:∀(ds:List dk)(rs:bN),(fK rs ds).length=ds.length
 |[],rs=>rfl
 |d::r,rs=>by rw[fK,bg,bg,DF]
abbrev DG(fs:Zvn):List dk->List m6->Prop:=Paired (UD fs)
theorem qM(fs:Zvn)(R:Zvq)(D:m6)(Ds:List m6):Zvs fs R (D::Ds)=((Zvs fs (iQ fs R D).1 Ds).1,(iQ fs R D).2::(Zvs fs (iQ fs R D).1 Ds).2):=rfl
theorem XJ(fs:Zvn)(D:m6):∀(Ds:List m6)(R:Zvq),Zvs fs R (Ds++[D])=((iQ fs (Zvs fs R Ds).1 D).1,(Zvs fs R Ds).2++[(iQ fs (Zvs fs R Ds).1 D).2])
 |[],R=>rfl
 |E::Ds,R=>by rw[cw,qM,XJ fs D Ds,qM];rfl
theorem Ha(fs:Zvn):∀(Ds:List m6)(R:Zvq),(Zvs fs R Ds).2.length=Ds.length
 |[],R=>rfl
 |D::Ds,R=>by rw[qM,bg,bg,Ha fs Ds]
theorem Zfr(fs:Zvn)(k:Nat):∀(Ds:List m6)(R:Zvq),(Zvs fs R (Ds.take k)).2=(Zvs fs R Ds).2.take k:=by
 induction k with
 |zero=>intro Ds R;rw[kr,kr];rfl
 |succ k ih=>
  intro Ds R;cases Ds with
  |nil=>rfl
  |cons D r=>rw[gx,qM,qM,gx,ih]
theorem qN{fs:Zvn}(g:nI fs)(iY:fs.list≠ []):∀{ds:List dk}{Ds:List m6},DG fs ds Ds->∀{rs:bN}{R:Zvq},jj fs rs R->jj fs (gu rs ds) (Zvs fs R Ds).1/\fK rs ds=A7 G9 ds (Zvs fs R Ds).2
 |_,_,.nil,rs,R,h=> ⟨h,Z⟩
 |_,_,.cons hd t,rs,R,h=>by obtain⟨p1,p2⟩:=me g iY h hd;obtain⟨i1,i2⟩:=qN g iY t p1;refine⟨i1,?_⟩;rw[fK,qM,i2,p2];rfl
def KJ(fs:Zvn):m6->ja->Prop
 | .put _ _,r=>r= .done
 | .look _,r=>r= .no\/∃t,r= .text t/\t≠ []
 | .ask _,r=> ∃l,r= .ids l
 | .replace _ _,r=>r= .no\/r= .done
 | .drop _,r=>r= .no\/r= .done
theorem Zko{fs:Zvn}{t:LN}{v:dh}(h:mP fs t=some v):t≠ []:=by
 intro z;subst z;unfold mP at h;rw[ah (by decide)]at h;have:fE (.group false fs) []=none:=by rw[fE,ah (by decide)]
 rw[this]at h;cases h
theorem ZA{fs:Zvn}(g:nI fs)(iY:fs.list≠ []){rs:bN}{R:Zvq}(h:jj fs rs R)(D:m6):KJ fs D (iQ fs R D).2:=by
 cases D with
 |put id v=>rfl
 |look n=>
  show(match kF R n with
   |some v=>ja.text (nG fs v)
   |none=> .no)= .no\/∃t,(match kF R n with
   |some v=>ja.text (nG fs v)
   |none=> .no)= .text t/\t≠ []
  rcases h.look g iY n with⟨r,v,q1,q2,q3,_⟩|⟨q1,q2⟩
  ·rw[q2];refine .inr ⟨_,Z,?_⟩;rw[q3];exact Zko (h.XI _ (oj q1))
  ·rw[q2];exact .inl Z
 |ask c=>exact⟨_,Z⟩
 |replace n v=>
  show(if fm R n then(kH n.toNat v R,ja.done)else(R,.no)).2= .no\/(if fm R n then(kH n.toNat v R,ja.done)else(R,.no)).2= .done;split
  ·exact .inr Z
  ·exact .inl Z
 |drop n=>
  show(if fm R n then(jM n.toNat R,ja.done)else(R,.no)).2= .no\/(if fm R n then(jM n.toNat R,ja.done)else(R,.no)).2= .done;split
  ·exact .inr Z
  ·exact .inl Z
theorem IU:∀{a b:LN},(a.map fun x:Nat=> (x:Int))=(b.map fun x:Nat=> (x:Int))->a=b
 |[],[],_=>rfl
 |[],_::_,h=>by cases h
 |_::_,[],h=>by cases h
 |x::a,y::b,h=>by rw[aY,aY]at h;injection h with h1 h2;rw[IU h2,show x=y by omega]
theorem Za4{fs:Zvn}{d:dk}{D:m6}(hd:UD fs d D){r s:ja}(hr:KJ fs D r)(hs:KJ fs D s):G9 d r=G9 d s↔r=s:=by
 refine⟨fun h=>?_,fun h=>by rw[h]⟩;cases d with
 |put n m=>
  cases D with
  |put id v=>have hr:r= .done:=hr;have hs:s= .done:=hs;rw[hr,hs]
  |_=>cases hd
 |look n=>
  cases D with
  |look m=>
   rcases hr with rfl|⟨t,rfl,ht⟩
   ·rcases hs with rfl|⟨u,rfl,hu⟩
    ·rfl
    ·have h:[(0:Int)]=(u.length:Int)::u.map fun b:Nat=> (b:Int):=h;injection h with h1 h2;exfalso;apply hu;cases u with
     |nil=>rfl
     |cons a b=>simp at h1;omega
   ·rcases hs with rfl|⟨u,rfl,hu⟩
    ·have h:(t.length:Int)::t.map (fun b:Nat=> (b:Int))=[(0:Int)]:=h;injection h with h1 h2;exfalso;apply ht;cases t with
     |nil=>rfl
     |cons a b=>simp at h1;omega
    ·have h:(t.length:Int)::t.map (fun b:Nat=> (b:Int))=(u.length:Int)::u.map fun b:Nat=> (b:Int):=h;injection h with _ h2;rw[IU h2]
  |_=>cases hd
 |ask c=>
  cases D with
  |ask c'=>obtain⟨l,rfl⟩:=hr;obtain⟨m,rfl⟩:=hs;have h:(l.length:Int)::l.map (fun b:Nat=> (b:Int))=(m.length:Int)::m.map fun b:Nat=> (b:Int):=h;injection h with _ h2;rw[IU h2]
  |_=>cases hd
 |replace n m=>
  cases D with
  |replace id v=>
   rcases hr with rfl|rfl<;>rcases hs with rfl|rfl
   ·rfl
   ·cases h
   ·cases h
   ·rfl
  |_=>cases hd
 |drop n=>
  cases D with
  |drop m=>
   rcases hr with rfl|rfl<;>rcases hs with rfl|rfl
   ·rfl
   ·cases h
   ·cases h
   ·rfl
  |_=>cases hd
theorem Ox{fs:Zvn}(g:nI fs)(iY:fs.list≠ []):∀{ds:List dk}{Ds:List m6},DG fs ds Ds->∀{rs:bN}{R:Zvq},jj fs rs R->Paired (KJ fs) Ds (Zvs fs R Ds).2
 |_,_,.nil,rs,R,h=> .nil
 |_,_,.cons hd t,rs,R,h=>by rw[qM];exact .cons (ZA g iY h _) (Ox g iY t (me g iY h hd).1)
open L2
def mQ(c:cX):List (List Int):=((c.num:Int)::c.eV)::(if IB c.num=true then [c.text.map fun b:Nat=> (b:Int)]else [])
def cX.bytes(c:cX):Prop:=∀b∈c.text,b<256
theorem n15{p:Nat->Prop}(a0:p 0)(a1:p 1)(a2:p 2)(a3:p 3)(a4:p 4)(a5:p 5)(a6:p 6)(a7:p 7)(a8:p 8)(a9:p 9)(b0:p 10)(b1:p 11)(b2:p 12)(b3:p 13)(b4:p 14)(g:∀k,p (k+15))(k:Nat):p k:=by
 iterate 15 (cases k;assumption;rename_i k)
 exact g k
theorem Zfs(c:List (List Int)):ub c=c:=by
 rcases c with _|⟨_|⟨k|k,r⟩,_|⟨t,_|⟨z,y⟩⟩⟩;all_goals first
  |rfl
  |(refine n15 (p:=fun k=> ∀r,ub [fG k::r]=[fG k::r]) ?_ ?_ ?_ ?_ ?_ ?_ ?_ ?_ ?_ ?_ ?_ ?_ ?_ ?_ ?_ (fun k r=>rfl) k r<;> (intro r;rcases r with _|⟨_,_|⟨_,_|⟨_,_⟩⟩⟩<;>rfl))
  |(refine n15 (p:=fun k=> ∀r,ub [fG k::r,t]=[fG k::r,t]) ?_ ?_ ?_ ?_ ?_ ?_ ?_ ?_ ?_ ?_ ?_ ?_ ?_ ?_ ?_ (fun k r=>rfl) k r<;> (intro r;rcases r with _|⟨_,_|⟨_,_|⟨_,_⟩⟩⟩<;>rfl))
  |(refine n15 (p:=fun k=> ∀r,ub ((fG k::r)::t::z::y)=((fG k::r)::t::z::y)) ?_ ?_ ?_ ?_ ?_ ?_ ?_ ?_ ?_ ?_ ?_ ?_ ?_ ?_ ?_ (fun k r=>rfl) k r<;> (intro r;rcases r with _|⟨_,_|⟨_,_|⟨_,_⟩⟩⟩<;>rfl))
theorem Zft{t:List Int}(h:(t.all fun z=>kc z 8)=true):t=(t.map Int.toNat).map (fun b:Nat=> (b:Int))/\∀b∈t.map Int.toNat,b<256:=by
 have q:∀z∈t,0<=z/\z<256:=fun z hz=>by have:=fU.mp h z hz;unfold kc at this;rw[bu,decide_eq_true_eq,decide_eq_true_eq]at this;exact⟨this.1,by have:=this.2;omega⟩
 constructor
 ·rw[eM];conv=>lhs;rw[<-List.map_id t]
  refine kb fun z hz=>?_;have:=(q z hz).1;show z=((z.toNat:Nat):Int);omega
 ·intro b hb;obtain⟨z,hz,rfl⟩:=bE.mp hb;have:=q z hz;omega
theorem ZC{c:List (List Int)}(h:kL c=true):∃k:cX,c=mQ k/\k.ok/\k.bytes:=by
 have plain:∀(n:Nat)(eV:List Int),n<15->IB n=false->eV.length=Ym n->∃k:cX,[(n:Int)::eV]=mQ k/\k.ok/\k.bytes:=fun n eV h1 h2 h3=>by refine⟨⟨n,eV,[]⟩,?_,⟨h1,h3,fun _=>rfl,by simp⟩,fun b hb=>by cases hb⟩;unfold mQ;rw[ah (by rw[h2];exact aK)]
 have ZY:∀(n:Nat)(eV t:List Int),n<15->IB n=true->eV.length=Ym n->(t.all fun z=>kc z 8)=true->t.length<=17000->∃k:cX,[(n:Int)::eV,t]=mQ k/\k.ok/\k.bytes:=fun n eV t h1 h2 h3 h4 h5=>by obtain⟨e1,e2⟩:=Zft h4;refine⟨⟨n,eV,t.map Int.toNat⟩,?_,⟨h1,h3,fun z=> (by have z:IB n=false:=z;rw[h2]at z;cases z),by rw[aZ];exact h5⟩,e2⟩;unfold mQ;rw[ak h2];fin2;rw[<-e1]
 have no:∀{q:Prop},false=true->q:=fun h=>nomatch h;have tx:∀{t:List Int}{n:Nat},(t.all (fun z:Int=>kc z 8)&&decide (t.length<=n))=true->(t.all fun z=>kc z 8)=true/\t.length<=n:=fun h=>by rw[bu,decide_eq_true_eq]at h;exact h
 have sn:∀{x y:Bool},(x&&y)=true->y=true:=fun h=> (EJ.mp h).2;rcases c with _|⟨_|⟨k|k,r⟩,_|⟨t,_|⟨z,y⟩⟩⟩;all_goals first
  |exact no h
  |exact n15 (p:=fun k=> ∀r,kL ((fG k::r)::t::z::y)=true->_) (fun r h=>by rcases r with _|⟨_,_|⟨_,_|⟨_,_⟩⟩⟩<;>exact no h) (fun r h=>by rcases r with _|⟨_,_|⟨_,_|⟨_,_⟩⟩⟩<;>exact no h) (fun r h=>by rcases r with _|⟨_,_|⟨_,_|⟨_,_⟩⟩⟩<;>exact no h) (fun r h=>by rcases r with _|⟨_,_|⟨_,_|⟨_,_⟩⟩⟩<;>exact no h) (fun r h=>by rcases r with _|⟨_,_|⟨_,_|⟨_,_⟩⟩⟩<;>exact no h) (fun r h=>by rcases r with _|⟨_,_|⟨_,_|⟨_,_⟩⟩⟩<;>exact no h) (fun r h=>by rcases r with _|⟨_,_|⟨_,_|⟨_,_⟩⟩⟩<;>exact no h) (fun r h=>by rcases r with _|⟨_,_|⟨_,_|⟨_,_⟩⟩⟩<;>exact no h) (fun r h=>by rcases r with _|⟨_,_|⟨_,_|⟨_,_⟩⟩⟩<;>exact no h) (fun r h=>by rcases r with _|⟨_,_|⟨_,_|⟨_,_⟩⟩⟩<;>exact no h) (fun r h=>by rcases r with _|⟨_,_|⟨_,_|⟨_,_⟩⟩⟩<;>exact no h) (fun r h=>by rcases r with _|⟨_,_|⟨_,_|⟨_,_⟩⟩⟩<;>exact no h) (fun r h=>by rcases r with _|⟨_,_|⟨_,_|⟨_,_⟩⟩⟩<;>exact no h) (fun r h=>by rcases r with _|⟨_,_|⟨_,_|⟨_,_⟩⟩⟩<;>exact no h) (fun r h=>by rcases r with _|⟨_,_|⟨_,_|⟨_,_⟩⟩⟩<;>exact no h) (fun k r h=>no h) k r h
  |(refine n15 (p:=fun k=> ∀r,kL [fG k::r]=true->∃c:cX,[fG k::r]=mQ c/\c.ok/\c.bytes) ?_ ?_ ?_ ?_ ?_ ?_ ?_ ?_ ?_ ?_ ?_ ?_ ?_ ?_ ?_ (fun k r h=>no h) k r h<;> (intro r h;rcases r with _|⟨_,_|⟨_,_|⟨_,_⟩⟩⟩<;>first|exact no h|exact plain _ _ (by decide) rfl rfl))
  |(refine n15 (p:=fun k=> ∀r,kL [fG k::r,t]=true->∃c:cX,[fG k::r,t]=mQ c/\c.ok/\c.bytes) ?_ ?_ ?_ ?_ ?_ ?_ ?_ ?_ ?_ ?_ ?_ ?_ ?_ ?_ ?_ (fun k r h=>no h) k r h<;> (intro r h;rcases r with _|⟨_,_|⟨_,_|⟨_,_⟩⟩⟩<;>first|exact no h|exact ZY _ _ _ (by decide) rfl rfl (tx h).1 (cc (tx h).2 (by decide))|exact ZY _ _ _ (by decide) rfl rfl (tx (sn h)).1 (cc (tx (sn h)).2 (by decide))|exact ZY _ _ _ (by decide) rfl rfl (tx (sn (sn h))).1 (cc (tx (sn (sn h))).2 (by decide))))
theorem XM:∀cs:List cX,(PyFlat.put (cs.map mQ)).map V.int=cs.flatMap fX
 |[]=>rfl
 |c::cs=>by
  rw[aY,dM,<-XM cs];show(PyFlat.put1 (mQ c)++PyFlat.put (cs.map mQ)).map V.int=_;rw[cg];congr 1;unfold mQ fX;cases h:IB c.num with
  |false=>rw[ah aK,ah aK];show(((c.num:Int)::c.eV)++[]).map V.int=_;simp
  |true=>rw[ak Z,ak Z];show(((c.num:Int)::c.eV)++(PyFlat.putRow (c.text.map fun b:Nat=> (b:Int))++[])).map V.int=_;unfold PyFlat.putRow iz;simp
theorem XN{l:List Int}(h:xt l=true):∃cs:List cX,OZ l=some (cs.map mQ)/\l.map V.int=cs.flatMap fX/\(∀c∈cs,c.ok/\c.bytes)/\cs.length<=400:=by
 unfold xt at h;cases e:OZ l with
 |none=>rw[e]at h;cases h
 |some ds=>
  rw[e]at h;dsimp only at h;rw[bu]at h;obtain⟨h1,h2⟩:=h;unfold VacolqNeutral.asked at h2;rw[bu,bu,decide_eq_true_eq,decide_eq_true_eq]at h2;obtain⟨h3,_,h4⟩:=h2;have all:∀ds:List (List (List Int)),(∀d∈ds,kL d=true)->∃cs:List cX,ds=cs.map mQ/\∀c∈cs,c.ok/\c.bytes:=by
   intro ds;induction ds with
   |nil=>exact fun _=> ⟨[],Z,fun c hc=>by cases hc⟩
   |cons d ds ih=>
    intro hd;obtain⟨cs,e1,e2⟩:=ih fun x hx=>hd x (aG _ hx);obtain⟨k,k1,k2,k3⟩:=ZC (hd d aM);refine⟨k::cs,by rw[aY,<-e1,<-k1],fun c hc=>?_⟩;rcases aU.mp hc with z|z
    ·rw[z];exact⟨k2,k3⟩
    ·exact e2 c z
  obtain⟨cs,e1,e2⟩:=all ds (fU.mp h3);unfold OZ at e;cases e3:PyFlat.calls PyVacolq.shape l.length l with
  |none=>rw[e3]at e;cases e
  |some es=>
   rw[e3]at e;have e4:es.map ub=ds:=af e;have e5:es=ds:=by
    rw[<-e4];conv=>lhs;rw[<-List.map_id es]
    exact kb fun x _=> (Zfs x).symm
   obtain⟨p1,_⟩:=PyFlat.put_calls _ _ _ e3;refine⟨cs,by rw[e1],?_,e2,by rw[e1,aZ]at h4;exact h4⟩;rw[p1,e5,e1];exact XM cs
structure jY where
 d:dk
 rep:List Int
 rs:bN
def fb(rs:bN):List dk->List jY
 |[]=>[]
 |d::r=> ⟨d,jE rs d,mD rs d⟩::fb (mD rs d) r
theorem sj(d:dk):∀(ds:List dk)(rs:bN),fb rs (ds++[d])=fb rs ds++[⟨d,jE (gu rs ds) d,mD (gu rs ds) d⟩]
 |[],rs=>rfl
 |e::ds,rs=>by rw[cw,fb,sj d ds (mD rs e)];rfl
theorem gI:∀(ds:List dk)(rs:bN),(fb rs ds).length=ds.length
 |[],rs=>rfl
 |d::r,rs=>by rw[fb,bg,bg,gI]
theorem jF:∀(ds:List dk)(rs:bN),(fb rs ds).map (·.d)=ds
 |[],rs=>rfl
 |d::r,rs=>by rw[fb,aY,jF]
theorem kl:∀(ds:List dk)(rs:bN),(fb rs ds).map (·.rep)=fK rs ds
 |[],rs=>rfl
 |d::r,rs=>by rw[fb,aY,kl,fK]
theorem UG(k:Nat):∀(ds:List dk)(rs:bN),fb rs (ds.take k)=(fb rs ds).take k:=by
 induction k with
 |zero=>intro ds rs;rw[kr,kr];rfl
 |succ k ih=>
  intro ds rs;cases ds with
  |nil=>rfl
  |cons d r=>rw[gx,fb,fb,gx,ih]
def vV(rs:bN)(l:List jY):bN:=match l.getLast? with
 |some x=>x.rs
 |none=>rs
theorem R3(rs:bN)(l:List jY)(x:jY):vV rs (l++[x])=x.rs:=by unfold vV;rw[mG]
theorem Hb{α:Type}(l:List α):l=[]\/∃m x,l=m++[x]:=by
 cases h:l with
 |nil=>exact .inl Z
 |cons y r=>exact .inr ⟨(y::r).dropLast,(y::r).getLast (by simp),(lh (by simp)).symm⟩
theorem xj(rs:bN)(ds:List dk):vV rs (fb rs ds)=gu rs ds:=by
 rcases Hb ds with rfl|⟨m,x,rfl⟩
 ·rfl
 ·rw[sj,R3,DE]
structure GF(fs:Zvn):Prop where
 g:nI fs
 ne:fs.list≠ []
 wf:wfK 6 (.group false fs)
structure GR(fs:Zvn)(n:Nat)(rs:bN):Prop where
 oI:∃R,jj fs rs R
 len:rs.length<=n
def ZhJ:dk->Nat
 | .ask c=>w9 c
 |_=>0
structure GD(fs:Zvn)(d:dk):Prop where
 oI:∃D,UD fs d D
 dep:ZhJ d<=21
theorem Oy(rs:bN)(n:Int)(r:ym):(xb rs n r).length<=rs.length+1:=by
 unfold xb;split
 ·rw[aZ];omega
 ·rw[aX];simp
theorem R4(rs:bN)(n:Int):(rO rs n).length<=rs.length:=by unfold rO;exact iB _ _
theorem ZD(rs:bN)(d:dk):(mD rs d).length<=rs.length+1:=by
 cases d with
 |put n r=>exact Oy rs n r
 |look n=>exact mH _
 |ask c=>exact mH _
 |replace n r=>
  show(if mC rs n=true then xb rs n r else rs).length<=_;split
  ·exact Oy rs n r
  ·exact mH _
 |drop n=>
  show(if mC rs n=true then rO rs n else rs).length<=_;split
  ·exact Nat.le_succ_of_le (R4 rs n)
  ·exact mH _
theorem GR.next{fs:Zvn}{n:Nat}{rs:bN}{d:dk}(f:GF fs)(h:GR fs n rs)(hd:GD fs d):GR fs (n+1) (mD rs d):=by obtain⟨R,hR⟩:=h.oI;obtain⟨D,hD⟩:=hd.oI;have:=ZD rs d;have:=h.len;exact⟨⟨_,(me f.g f.ne hR hD).1⟩,by omega⟩
theorem GR.all{fs:Zvn}(f:GF fs):∀{ds:List dk}{n:Nat}{rs:bN},GR fs n rs->(∀d∈ds,GD fs d)->GR fs (n+ds.length) (gu rs ds)
 |[],n,rs,h,_=>h
 |d::ds,n,rs,h,k=>by have:=GR.all f (h.next f (k d aM)) fun e he=>k e (aG _ he);rw[bg,show n+(ds.length+1)=n+1+ds.length by omega];exact this
theorem GR.m8{fs:Zvn}{n m:Nat}{rs:bN}(h:GR fs n rs)(l:n<=m):GR fs m rs:=⟨h.oI,cc h.len l⟩
theorem Zfu{fs:Zvn}{t:LN}{v:dh}(h:mP fs t=some v):t.length<=4000:=by
 unfold mP at h;split at h
 ·cases h
 ·omega
theorem GR.text{fs:Zvn}{n:Nat}{rs:bN}(h:GR fs n rs):∀r∈rs,r.2.1.length<=4000:=fun r hr=>by obtain⟨R,hR⟩:=h.oI;exact Zfu (hR.XI r hr)
theorem GR.ok{fs:Zvn}{n:Nat}{rs:bN}{d:dk}(f:GF fs)(h:GR fs n rs)(hd:GD fs d):OkD rs d:=by
 obtain⟨R,hR⟩:=h.oI;obtain⟨D,hD⟩:=hd.oI;cases d with
 |ask c=>
  cases D with
  |ask c'=>have hD:CR fs c c':=hD;refine⟨fun r hr=>?_,hd.dep⟩;have hp:=hR.XI r hr;have l2:=Zht hp;exact⟨(Bs f.g f.ne (XA hp) c c' hD).2,by omega⟩
  |_=>cases hD
 |_=>trivial
inductive A0(a:cV)(F:Fr)(x:jY)(v:V):Prop
 |mk (y:_) (dy:_) (dv:_) (q:_) (rv:_) (_:v= .ref y) (_:F.G y=some (.ins a.u9 dy (Ud.zip [dv,.ref q,rv]))) (_:tO a F x.d dv) (_:F.G q=some (.bz (x.rep.map V.int))) (_:fJ a F x.rs rv)
theorem A0.le{a:cV}{F F':Fr}{x:jY}{v:V}(h:A0 a F x v)(s:Le F F'):A0 a F' x v:=by obtain⟨y,dy,dv,q,rv,e,h1,h2,h3,h4⟩:=h;exact⟨y,dy,dv,q,rv,e,s.gs _ _ h1,h2.le s,s.gs _ _ h3,h4.le s⟩
abbrev fL(a:cV)(F:Fr):List jY->LV->Prop:=Paired (A0 a F)
theorem fL.le{a:cV}{F F':Fr}{l:List jY}{ys:LV}(h:fL a F l ys)(s:Le F F'):fL a F' l ys:=Paired.wm h fun _ _ q=>q.le s
theorem jJ.yC{F:Fr}{H:Hp}{x dx C:ao}{l:List (Str×V)}(z:jJ F H)(nx:H x=none)(ndx:H dx=none):iG F H (F.ER x (.ins C dx l)) (bp (bp H dx (.own x)) x (.ins C dx l))/\jJ (F.ER x (.ins C dx l)) (bp (bp H dx (.own x)) x (.ins C dx l)):=by have s7:aS H (bp (bp H dx (.own x)) x (.ins C dx l)):=kX nx ndx;exact⟨(iG.same s7).ER nx (z.g0 nx),(z.same s7).ER (z.l0 nx) au⟩
theorem Oz{α β:Type}{R:α->β->Prop}{l:List α}{x:α}{ys:List β}(h:Paired R (l++[x]) ys):∃zs y,ys=zs++[y]/\Paired R l zs/\R x y:=by
 induction l generalizing ys with
 |nil=>
  cases h with
  |cons p t=>cases t with
   |nil=>exact⟨[],_,Z,.nil,p⟩
 |cons z l ih=>
  cases h with
  |cons p t=>obtain⟨zs,y,rfl,h1,h2⟩:=ih t;exact⟨_::zs,y,Z,.cons p h1,h2⟩
noncomputable def lO:List (List Int)->List (List Int)->Nat
 |x::r,y::s=>if x=y then lO r s+1 else 0
 |_,_=>0
noncomputable def A1:List (List Int)->List (List Int)->Nat
 |x::r,y::s=> (if x=y then 0 else 1)+A1 r s
 |_,_=>0
theorem R5:∀(l m:List (List Int)),lO l m<=l.length
 |[],m=>by simp[lO]
 |x::l,[]=>by simp[lO]
 |x::l,y::m=>by
  rw[lO];have:=R5 l m;split
  ·rw[bg];omega
  ·exact bB _
noncomputable def nF(x:jY):Bool:=match x.d with
 | .put _ _=>true
 | .replace _ _=>decide (x.rep=[1])
 | .drop _=>decide (x.rep=[1])
 |_=>false
noncomputable def Zfv:dk->Int
 | .put n _=>n
 | .look n=>n
 | .ask _=>0
 | .replace n _=>n
 | .drop n=>n
def uE(l:List jY):List Int:=(l.filter nF).map fun x=>Zfv x.d
def KL(rs:bN)(n:Int):Option LN:=(oi rs n).map (·.1)
def vd(base ji view:bN):List Int->bN->Option bN
 |[],left=>some left
 |n::r,left=>if KL base n=KL ji n then vd base ji view r (match oi view n with
  |some x=>xb left n x
  |none=>if mC left n=true then rO left n else left)else none
section
inductive Zfx(a:cV)(vs:LV)(H:Hp)(Q:VK)(_:XK):Prop
 |mk (rv dv:V) (rs:bN) (d:dk) (F:Fr) (fs:Zvn) (_:vs=[rv,dv]) (_:jJ F H) (_:fJ a F rs rv) (_:tO a F d dv) (_:GF fs) (_:GR fs 15000 rs) (_:GD fs d) (_:∀v F' H',iG F H F' H'->jJ F' H'->A0 a F' ⟨d,jE rs d,mD rs d⟩ v->Q v H')
theorem OA(T:il K mg a):iW P w K mg base 49 "step_on" HX (Zfx a):=by
 refine cI T.Rt T.Zb1 T.Rt.b2 Y3 ?_
 ·lk;obtain⟨rv,dv,rs,d,F,fs,rfl,zF,Jc,hd,gf,gr,gd,k⟩:=h;refine⟨_,aq (aN (ie (Ue T) hr bh (ag (pv 1) (ag (ba (Xn T) hr bh (ag (pv 0) (ag (pv 1) az))) (ag (ba (Qz T) hr bh (ag (pv 0) (ag (pv 1) az))) az))))),?_⟩;have hl:=gr.len;refine⟨_,Z,_,Z,_,Z,rv,dv,rs,d,F,Z,zF,Jc,hd,gr.ok gf gd,by omega,fun r h=>cc (gr.text r h) (by omega),fun q F1 H1 x1 z1 hq=>?_⟩;refine⟨_,Z,_,Z,rv,dv,rs,d,F1,Z,z1,Jc.le x1.le,hd.le x1.le,by omega,fun v F2 H2 x2 z2 hv=>?_⟩;refine fun y dy ny Sl ney=> ⟨y,dy,_,Z,Z,au,Z,?_⟩;rw[fC];obtain⟨x3,z3⟩:=jJ.yC (C:=a.u9) (l:=Ud.zip [dv,.ref q,v]) z2 ny Sl;exact k (.ref y) _ _ ((x1.trans x2).trans x3) z3 ⟨y,dy,dv,q,v,Z,Fr.om,hd.le ((x1.trans x2).trans x3).le,(x2.trans x3).le.gs _ _ hq,hv.le x3.le⟩
inductive Zfy(a:cV)(vs:LV)(H:Hp)(Q:VK)(_:XK):Prop
 |mk (sl:ao) (rv:V) (ys:LV) (rs:bN) (l:List jY) (F:Fr) (_:vs=[.ref sl,rv]) (_:jJ F H) (_:H sl=some (.bz ys)) (_:fL a F l ys) (_:fJ a F rs rv) (_:∀v,fJ a F (vV rs l) v->Q v H)
theorem oo(T:il K mg a):iW P w K mg base 1 "rows_behind" uT (Zfy a):=by
 refine cI T.Df T.Qk T.Df.b2 MP ?_
 ·lk;obtain⟨sl,rv,ys,rs,l,F,rfl,zF,wc,hl,Jc,k⟩:=h;refine⟨_,ai (bK (bf gP (rZ T (pv 0)) bL (bw _)) (aq (aN (pv 1))) aL) (aq (aN (aI (iJ fi (pv 0) (QX HK bL)) Z))),?_⟩;walk;refine⟨_,Z,sl,_,Z,.inl (ft.of wc),Z,_,Z,?_⟩;rcases Hb l with rfl|⟨m,x,rfl⟩
  ·cases hl;exact bQ ⟨_,Z,k rv Jc⟩
  ·obtain⟨zs,y,rfl,h1,h2⟩:=Oz hl;rw[show decide (V.int ((zs++[y]).length:Nat)=V.int 0)=false by rw[decide_eq_false_iff_not];simp;omega];obtain⟨yy,dy,dv,q,rv2,rfl,g1,g2,g3,g4⟩:=h2;refine bx ⟨_,Z,_,Z,sl,_,_,_,Z,Z,ft.of wc,EX zs _,yy,_,dy,_,_,Z,zF.sub _ _ g1,T.mW,T.Gh,Z,k _ ?_⟩;rw[R3];exact g4
inductive Zkp(a:cV)(vs:LV)(H:Hp)(Q:VK)(_:XK):Prop
 |mk (sl:ao) (rv:V) (ys:LV) (rs:bN) (l:List jY) (F:Fr) (fs:Zvn) (n:Nat) (_:vs=[.ref sl,rv]) (_:jJ F H) (_:H sl=some (.bz ys)) (_:F.L sl=none) (_:fL a F l ys) (_:fJ a F rs rv) (_:GF fs) (_:GR fs n rs) (_:(∀x∈l,GD fs x.d)) (_:n+l.length<=15000) (_:∀q zs F' H',iG F H F' H'->jJ F' H'->H q=none->F'.G q=none->F'.L q=none->H' q=some (.bz zs)->fL a F' (fb rs (l.map (·.d))) zs->Q (.ref q) H')
theorem oq(T:il K mg a):iW P w K mg base 50 "done_once_more" vC (Zkp a):=by
 refine cI T.vK T.Ij T.vK.b2 uv ?_
 ·lk;obtain⟨sl,rv,ys,rs,l,F,fs,n,rfl,zF,wc,hlL,hl,Jc,gf,gr,gd,hn,k⟩:=h;have nd:=uv.nd;refine⟨_,ai (bq (i:=2) nd (dO az)) (ai (lC iw.never Z (kT (pv 0)) (gW (i:=3) nd) (aq (dm (ui b9 cA cB jq (pv 2) (ag (ba (OA T) hr bh (ag (ba (oo T) hr bh (ag (pv 2) (ag (pv 1) az))) (ag (aI (pv 3) Z) az))) az))))) (aq (aN (pv 2)))),?_⟩;walk;refine⟨(mr 0),fun q hq=>?_⟩;obtain⟨x0,z0⟩:=iG.tmp (o:= .bz []) zF hq;have e0:= @au H q (.bz []);have gq:=zF.g0 hq;have lq:=zF.l0 hq;generalize bp H q (.bz [])=H0 at x0 z0 e0;have jL:=Paired.length hl;refine⟨_,Z,sl,Z,⟨_,ft.of (x0.ch _ _ wc hlL)⟩,lE (K:=K) (a:=sl) (xs:=ys) (fun i σ H3=> ∃(v3:Option V)(zs:LV)(F3:Fr),σ=[some (.ref sl),some rv,some (.ref q),v3]/\iG F H F3 H3/\jJ F3 H3/\F3.G q=none/\F3.L q=none/\H3 q=some (.bz zs)/\fL a F3 (fb rs ((l.map (·.d)).take i)) zs) ⟨none,[],F,Z,x0,z0,gq,lq,e0,.nil⟩ (fun i σ H3 _ h9=>by obtain⟨_,_,_,_,x3,_⟩:=h9;exact ft.of (x3.ch _ _ wc hlL)) ?_ ?_⟩
  ·rintro i y σ H3 hi ⟨v3,zs,F3,rfl,x3,z3,gq3,lq3,mE,Yt⟩;walk;obtain⟨x,hx,yy,dy,dv,qr,rv2,rfl,g1,g2,g3,g4⟩:=iE hl hi;have hxd:(l.map (·.d))[i]? =some x.d:=by rw[hZ,hx];rfl
   have hgt:GR fs 15000 (gu rs ((l.map (·.d)).take i)):=by
    refine(GR.all gf gr fun d hd=>?_).m8 ?_
    ·obtain⟨x',hx',rfl⟩:=bE.mp (EM hd);exact gd x' hx'
    ·rw[gR,aZ];omega
   have hil:i<l.length:=(aW.mp hx).1;have hzl:=Paired.length Yt;rw[gI,gR,aZ]at hzl;refine⟨_,Z,.inl ⟨Z,_,ft.of mE⟩,_,Z,_,Z,q,rv,zs,rs,_,F3,Z,z3,mE,Yt,Jc.le x3.le,fun rv' Zoa=>?_⟩;rw[xj]at Zoa;refine⟨_,Z,yy,_,dy,_,_,Z,z3.sub _ _ (x3.le.gs _ _ g1),T.mW,T.oa,Z,rv',dv,_,x.d,F3,fs,Z,z3,Zoa,g2.le x3.le,gf,hgt,gd x (bj hx),fun v F4 H4 x4 z4 hv=>?_⟩;obtain⟨o1,o2,o3⟩:=x4.own mE lq3;rw[gq3]at o3;refine⟨q,_,_,Z,Z,o1,mM (by omega),some (.ref yy),zs++[v],F4,Z,(x3.trans x4).U1 hq,z4.U1 o3 o2,o3,o2,au,?_⟩;rw[i7 hxd,sj];exact i8 (F:=A0 a F4) hv (fL.le Yt x4.le)
  ·rintro σ H3 ⟨v3,zs,F3,rfl,x3,z3,gq3,lq3,mE,Yt⟩;walk;rw[<-jL,A6 (by rw[aZ];exact aC _)]at Yt;exact⟨_,Z,k q zs F3 H3 x3 z3 hq gq3 lq3 mE Yt⟩
end
theorem He{l:List jY}{i:Nat}{x:jY}(h:l[i]? =some x):(l.map (·.rep))[i]? =some x.rep:=by rw[hZ,h];rfl
section
inductive Za5(a:cV)(f:List (List Int)->List (List Int)->Nat)(vs:LV)(H:Hp)(Q:VK)(_:XK):Prop
 |mk (sl rl:ao) (ys zs:LV) (l m:List jY) (F:Fr) (_:vs=[.ref sl,.ref rl]) (_:jJ F H) (_:H sl=some (.bz ys)) (_:H rl=some (.bz zs)) (_:fL a F l ys) (_:fL a F m zs) (_:l.length=m.length) (_:∀H',aS H H'->Q (.int (f (l.map (·.rep)) (m.map (·.rep)):Nat)) H')
theorem ot(T:il K mg a):iW P w K mg base 1 "count_before_unlike" oU (Za5 a lO):=by
 refine cI T.oX T.yi T.oX.b2 nT ?_
 ·lk;obtain⟨sl,rl,ys,zs,l,m,F,rfl,zF,wc,hrl,hl,hm,hlm,k⟩:=h;have nd:=nT.nd;refine⟨_,ai (lC iw.never Z (SU Z T.Aw (ag (pv 0) az)) (YH Z (vn (gW (i:=2) nd) (vn (gW (i:=3) nd) SG))) (aq (bK (bf (Ze8 hr.units) (aI (pv 3) Z) (aI (iJ fi (pv 1) (pv 2)) Z) (bw _)) (aq (aN (pv 2))) aL))) (aq (aN (rZ T (pv 0)))),?_⟩;walk;have Hw:=Paired.length hl;have hzl:=Paired.length hm;refine⟨_,Z,sl,ys,Z,ft.of wc,NM (K:=K) (a:=sl) (xs:=ys) (fun i σ H3=> ∃v2 v3:Option V,σ=[some (.ref sl),some (.ref rl),v2,v3]/\aS H H3/\lO (l.map (·.rep)) (m.map (·.rep))=i+lO ((l.map (·.rep)).drop i) ((m.map (·.rep)).drop i)) ⟨none,none,Z,aS.refl H,by rw[ib,ib,k9]⟩ (fun i σ H3 _ h9=>by obtain⟨_,_,_,s3,_⟩:=h9;exact ft.of (s3 _ _ wc)) ?_ ?_⟩
  ·rintro i y σ H3 Tt hi ⟨v2,v3,rfl,s3,hU⟩ hTt;obtain⟨x,hx,yy,dy,dv,qr,rv2,rfl,g1,g2,g3,g4⟩:=iE hl hi;have him:i<zs.length:=by have:=(aW.mp hx).1;omega
   obtain⟨zv,hz⟩:∃z,zs[i]? =some z:=⟨zs[i],by simp[him]⟩;obtain⟨x',hx',yy',dy',dv',qr',ZqL,rfl,g1',g2',g3',g4'⟩:=iE hm hz;have s0:=aS.dW (o:=(.f6 [.int (i:Nat),.ref yy])) (aS.refl H3) hTt;refine⟨Tt,_,Z,qU.of au,Z,_,_,Z,_,_,Z,Z,?_⟩;generalize bp H3 Tt (.f6 [.int (i:Nat),.ref yy])=G0 at s0;have s4:=s3.trans s0;have z4:=zF.same s4;refine⟨_,Z,yy,_,dy,_,_,Z,z4.sub _ _ g1,T.mW,T.jD,Z,_,Z,_,Z,rl,_,_,_,Z,Z,ft.of (s4 _ _ hrl),fh hz,yy',_,dy',_,_,Z,z4.sub _ _ g1',T.mW,T.jD,Z,qr,qr',x.rep,x'.rep,Z,Z,z4.sub _ _ g3,z4.sub _ _ g3',_,Z,?_⟩;rw[og (He hx),og (He hx'),lO]at hU;by_cases e:x.rep=x'.rep
   ·rw[ak e]at hU;rw[aD e];exact bx ⟨_,_,Z,s4,by rw[hU];omega⟩
   ·rw[ah e]at hU;rw[ay e];have:=k G0 s4;rw[hU]at this;exact bQ ⟨_,Z,this⟩
  ·rintro σ H3 ⟨v2,v3,rfl,s3,hU⟩;walk;have:=k H3 s3;rw[hU,List.drop_of_length_le (by rw[aZ];omega)]at this;exact⟨_,Z,sl,_,Z,.inl (ft.of (s3 _ _ wc)),this⟩
theorem Lv(T:il K mg a):iW P w K mg base 1 "count_unlike" zu (Za5 a A1):=by
 refine cI T.Ak T.Nz T.Ak.b2 xI ?_
 ·lk;obtain⟨sl,rl,ys,zs,l,m,F,rfl,zF,wc,hrl,hl,hm,hlm,k⟩:=h;have nd:=xI.nd;refine⟨_,ai (bq (i:=2) nd (bL)) (ai (lC iw.never Z (SU Z T.Aw (ag (pv 0) az)) (YH Z (vn (gW (i:=3) nd) (vn (gW (i:=4) nd) SG))) (aq (bK (bf (Ze8 hr.units) (aI (pv 4) Z) (aI (iJ fi (pv 1) (pv 3)) Z) (bw _)) (aq (bq (i:=2) nd (iu kM (pv 2) bL))) aL))) (aq (aN (pv 2)))),?_⟩;walk;have Hw:=Paired.length hl;have hzl:=Paired.length hm;refine⟨_,Z,sl,ys,Z,ft.of wc,NM (K:=K) (a:=sl) (xs:=ys) (fun i σ H3=> ∃(n:Nat)(v2 v3:Option V),σ=[some (.ref sl),some (.ref rl),some (.int (n:Nat)),v2,v3]/\aS H H3/\A1 (l.map (·.rep)) (m.map (·.rep))=n+A1 ((l.map (·.rep)).drop i) ((m.map (·.rep)).drop i)) ⟨0,none,none,Z,aS.refl H,by rw[ib,ib,k9]⟩ (fun i σ H3 _ h9=>by obtain⟨_,_,_,_,s3,_⟩:=h9;exact ft.of (s3 _ _ wc)) ?_ ?_⟩
  ·rintro i y σ H3 Tt hi ⟨n,v2,v3,rfl,s3,hU⟩ hTt;obtain⟨x,hx,yy,dy,dv,qr,rv2,rfl,g1,g2,g3,g4⟩:=iE hl hi;have him:i<zs.length:=by have:=(aW.mp hx).1;omega
   obtain⟨zv,hz⟩:∃z,zs[i]? =some z:=⟨zs[i],by simp[him]⟩;obtain⟨x',hx',yy',dy',dv',qr',ZqL,rfl,g1',g2',g3',g4'⟩:=iE hm hz;have s0:=aS.dW (o:=(.f6 [.int (i:Nat),.ref yy])) (aS.refl H3) hTt;refine⟨Tt,_,Z,qU.of au,Z,_,_,Z,_,_,Z,Z,?_⟩;generalize bp H3 Tt (.f6 [.int (i:Nat),.ref yy])=G0 at s0;have s4:=s3.trans s0;have z4:=zF.same s4;refine⟨_,Z,yy,_,dy,_,_,Z,z4.sub _ _ g1,T.mW,T.jD,Z,_,Z,_,Z,rl,_,_,_,Z,Z,ft.of (s4 _ _ hrl),fh hz,yy',_,dy',_,_,Z,z4.sub _ _ g1',T.mW,T.jD,Z,qr,qr',x.rep,x'.rep,Z,Z,z4.sub _ _ g3,z4.sub _ _ g3',_,Z,?_⟩;rw[og (He hx),og (He hx'),A1]at hU;by_cases e:x.rep=x'.rep
   ·rw[ak e]at hU;rw[aD e];exact bx ⟨n,_,_,Z,s4,by rw[hU];omega⟩
   ·rw[ah e]at hU;rw[ay e];exact bQ ⟨_,Z,_,_,Z,Z,n+1,_,_,Z,s4,by rw[hU];omega⟩
  ·rintro σ H3 ⟨n,v2,v3,rfl,s3,hU⟩;walk;have:=k H3 s3;rw[hU,List.drop_of_length_le (by rw[aZ];omega)]at this;exact⟨_,Z,this⟩
inductive Za6(a:cV)(vs:LV)(H:Hp)(Q:VK)(_:XK):Prop
 |mk (v:V) (x:jY) (F:Fr) (_:vs=[v]) (_:jJ F H) (_:A0 a F x v) (_:∀H',aS H H'->Q (.bl (nF x)) H')
theorem ZpA(d:dk):EN (bV (nE d)) [.int 5,.int 6]=match d with
 | .replace _ _=>true
 | .drop _=>true
 |_=>false:=by cases d<;>rfl
theorem OB(T:il K mg a):iW P w K mg base 1 "has_written" uU (Za6 a):=by
 refine cI T.Dg T.Ql T.Dg.b1 MR ?_
 ·lk;obtain⟨v,x,F,rfl,zF,hx,k⟩:=h;refine⟨_,ai (bK (bf gP (aI (aI (pv 0) Z) Z) (aP T.Rn) (bw _)) (aq (aN vm)) aL) (aq (aN (SF (mS o6 (aI (aI (pv 0) Z) Z) (nP (ag (aP T.Ie) (ag (aP T.Zei) az))) Z) (SE (mS (Zkf hr.units) (aI (pv 0) Z) (dO (ag bL az)) (bw _)))))),?_⟩;walk;obtain⟨yy,dy,dv,q,rv,rfl,g1,⟨p0,yd,dyd,QG,cv,rfl,d1,d2,d3⟩,g3,g4⟩:=hx;have g1H:=zF.sub _ _ g1;have d1H:=zF.sub _ _ d1;have g3H:=zF.sub _ _ g3;refine⟨_,Z,yy,_,dy,_,_,Z,g1H,T.mW,T.oa,Z,yd,_,dyd,_,_,Z,d1H,T.dR,T.dN,Z,Z,_,Z,?_⟩;have two:∀(H1:Hp),aS H H1->nF x=decide (x.rep=[1])->tOp (Zke id) (Pb K (m7 0) "reply") (ZgE (nO (tC (.int 1)) yD)) [some (.ref yy)] H1 Q:=fun H1 s1 e=>by
   refine⟨_,Z,yy,_,dy,_,_,Z,s1 _ _ g1H,T.mW,T.jD,Z,(mr 1),fun q2 LB=> ⟨q,q2,x.rep,[1],Z,Z,?_,au,?_⟩⟩
   ·exact aS.dW s1 LB _ _ g3H
   ·have:=k _ (aS.dW (o:= .bz [V.int 1]) s1 LB);rw[e]at this;exact this
  by_cases hp:nE x.d=2
  ·have:nF x=true:=by
    unfold nF;cases ed:x.d with
    |put n r=>rfl
    |_=>rw[ed]at hp;exact absurd hp (by simp[nE])
   rw[this]at k;rw[show decide (bV (nE x.d)=V.int 2)=true by rw[hp];rfl];exact bQ (k H (aS.refl H))
  rw[show decide (bV (nE x.d)=V.int 2)=false from pB hp];refine bx ⟨_,Z,yy,_,dy,_,_,Z,g1H,T.mW,T.oa,Z,yd,_,dyd,_,_,Z,d1H,T.dR,T.dN,Z,(mr 2),fun qt hqt=> ⟨qt,_,Z,.inr (qU.of au),Z,Z,_,Z,?_⟩⟩;have s1:=aS.dW (o:=(.f6 [.int 5,.int 6])) (aS.refl H) hqt;generalize bp H qt (.f6 [.int 5,.int 6])=H1 at s1;rw[show(if false=true then !EN (bV (nE x.d)) [.int 5,.int 6]else EN (bV (nE x.d)) [.int 5,.int 6])=_ from ZpA x.d];have no:nF x=false->Q (.bl false) H1:=fun e=>by have:=k H1 s1;rw[e]at this;exact this
  cases ed:x.d with
  |put n r=>rw[ed]at hp;exact absurd Z hp
  |look n=>exact bx (no (by unfold nF;rw[ed]))
  |ask c=>exact bx (no (by unfold nF;rw[ed]))
  |replace n r=>exact bQ (two H1 s1 (by unfold nF;rw[ed]))
  |drop n=>exact bQ (two H1 s1 (by unfold nF;rw[ed]))
def ZcK(H:Hp):Option LN->V->Prop
 |none,v=>v= .ik
 |some t,v=> ∃ta,v= .ref ta/\H ta=some (.bz (iz t))
theorem ZcK.same{H H':Hp}(s:aS H H'):∀{x:Option LN}{v:V},ZcK H x v->ZcK H' x v
 |none,_,h=>h
 |some _,_,⟨ta,e,h⟩=> ⟨ta,e,s _ _ h⟩
inductive Zfz(a:cV)(vs:LV)(H:Hp)(Q:VK)(_:XK):Prop
 |mk (rv:V) (n:Int) (rs:bN) (F:Fr) (_:vs=[rv,.int n]) (_:jJ F H) (_:fJ a F rs rv) (_:∀v,ZcK F.G (KL rs n) v->Q v H)
theorem OC(T:il K mg a):iW P w K mg base 1 "text_in" HZ (Zfz a):=by
 refine cI T.Ru T.Zb2 T.Ru.b2 Y4 ?_
 ·lk;obtain⟨rv,n,rs,F,rfl,zF,Jc,k⟩:=h;refine⟨_,ai (bK (nN (YZ (jI hr) (pv 1) (pv 0))) (aq (aN (aI (lX (jI hr) (pv 0) (pv 1)) Z))) aL) (aq (aN oZ)),?_⟩;walk;obtain⟨d,br,rfl,r1,r2⟩:=Jc;have r1H:=zF.sub _ _ r1;refine⟨_,Z,_,Z,d,_,Z,kx.k (k:=aQ n) r1H,_,Z,?_⟩;unfold KL at k;rcases lM n r2 with⟨r,v,g1,g2,g3⟩|⟨g1,g2⟩
  ·have g:=kx.k (a:=d) (k:=aQ n) r1H;rw[g2]at g⊢;rw[g1]at k;obtain⟨ta,hd,⟨x,dx,rv',rfl,x1,x2⟩,x3,x4⟩:=g3;exact bQ ⟨_,Z,_,Z,d,_,Z,g,x,_,dx,_,_,Z,zF.sub _ _ x1,T.ra,T.qC,Z,k _ ⟨ta,Z,x3⟩⟩
  ·rw[g2];rw[g1]at k;exact bx (k .ik Z)
inductive ZfA(a:cV)(vs:LV)(H:Hp)(Q:VK)(_:XK):Prop
 |mk (sl:ao) (rv:V) (ys:LV) (rs:bN) (l:List jY) (F:Fr) (fs:Zvn) (n:Nat) (_:vs=[.ref sl,rv]) (_:jJ F H) (_:H sl=some (.bz ys)) (_:F.L sl=none) (_:fL a F l ys) (_:fJ a F rs rv) (_:GF fs) (_:GR fs n rs) (_:(∀x∈l,GD fs x.d)) (_:n+l.length<=15000) (_:∀F' H',iG F H F' H'->jJ F' H'->if lO (l.map (·.rep)) (fK rs (l.map (·.d)))<l.length then Q .ik H' else∀v,fJ a F' (gu rs (l.map (·.d))) v->Q v H')
theorem yn(T:il K mg a):iW P w K mg base 51 "rows_left_strictly" qu (ZfA a):=by
 refine cI T.qE T.Aj T.qE.b2 oV ?_
 ·lk;obtain⟨sl,rv,ys,rs,l,F,fs,n,rfl,zF,wc,hlL,hl,Jc,gf,gr,gd,hn,k⟩:=h;have nd:=oV.nd;refine⟨_,ai (bq (i:=2) nd (ba (oq T) hr bh (ag (pv 0) (ag (pv 1) az)))) (ai (bK (bf Jl (ba (ot T) hr bh (ag (pv 0) (ag (pv 2) az))) (rZ T (pv 0)) (bw _)) (aq (aN oZ)) aL) (aq (aN (ba (oo T) hr bh (ag (pv 2) (ag (pv 1) az)))))),?_⟩;walk;refine⟨_,Z,_,Z,sl,rv,ys,rs,l,F,fs,n,Z,zF,wc,hlL,hl,Jc,gf,gr,gd,hn,fun q zs F1 H1 x1 z1 nq gq lq hq Yt=>?_⟩;have QK:=x1.ch _ _ wc hlL;refine⟨_,Z,_,Z,sl,q,ys,zs,l,_,F1,Z,z1,QK,hq,fL.le hl x1.le,Yt,by rw[gI,aZ],fun H2 s2=>?_⟩;have Zgb:=s2 _ _ QK;refine⟨_,Z,sl,_,Z,.inl (ft.of Zgb),_,_,Z,Z,_,Z,?_⟩;have kk:=k F1 H2 (x1.trans (iG.same s2)) (z1.same s2);rw[kl,<-Paired.length hl];by_cases qR:lO (l.map (·.rep)) (fK rs (l.map (·.d)))<l.length
  ·rw[ak qR]at kk;rw[aD (by omega:((lO (l.map (·.rep)) (fK rs (l.map (·.d))):Nat):Int)< ((l.length:Nat):Int))];exact bQ kk
  ·rw[ah qR]at kk;rw[ay (by omega:¬((lO (l.map (·.rep)) (fK rs (l.map (·.d))):Nat):Int)< ((l.length:Nat):Int))];refine bx ⟨_,Z,_,Z,q,rv,zs,rs,_,F1,Z,z1.same s2,s2 _ _ hq,Yt,Jc.le x1.le,fun v hv=>?_⟩;rw[xj]at hv;exact kk v hv
end
noncomputable abbrev ZfB:LS:=["steps","base_rows","committed","view","left","number","step"]
theorem R6:aO ZfB rD (aE rp):=je
theorem ZhK{K:ae}{H:Hp}:∀{x y:Option LN}{u v:V},ZcK H x u->ZcK H y v->∃d e,Dp K H u d/\Dp K H v e/\SeqAt.shaped d=true/\SeqAt.shaped e=true/\bJ.eqv d e=decide (x=y)
 |none,none,_,_,rfl,rfl=> ⟨_,_,.ik,.ik,Z,Z,by simp[bJ.eqv]⟩
 |none,some t,_,_,rfl,⟨ta,rfl,h⟩=> ⟨_,_,.ik,.bz (ft.of h) (m5 t),Z,pw t,by simp[bJ.eqv]⟩
 |some t,none,_,_,⟨ta,rfl,h⟩,rfl=> ⟨_,_,.bz (ft.of h) (m5 t),.ik,pw t,Z,by simp[bJ.eqv]⟩
 |some t,some t',_,_,⟨ta,rfl,h⟩,⟨ta',rfl,h'⟩=> ⟨_,_,.bz (ft.of h) (m5 t),.bz (ft.of h') (m5 t'),pw t,pw t',by rw[bJ.eqv,AB];simp⟩
theorem ZE{l:List jY}{i:Nat}{x:jY}(h:l[i]? =some x):uE (l.take (i+1))=uE (l.take i)++(if nF x=true then [Zfv x.d]else []):=by unfold uE;rw[i7 h,List.filter_append,cg];congr 1;cases e:nF x<;>simp[e]
theorem XO(l:List jY):(uE l).length<=l.length:=by unfold uE;rw[aZ];exact iB _ _
theorem ZF{x:jY}(h:nF x=true):Xi x.d= .int (Zfv x.d):=by
 unfold nF at h;cases e:x.d with
 |put n r=>rfl
 |look n=>rfl
 |ask c=>rw[e]at h;cases h
 |replace n r=>rfl
 |drop n=>rfl
section
inductive ZhL(a:cV)(vs:LV)(H:Hp)(Q:VK)(_:XK):Prop
 |mk (sl:ao) (bv cv:V) (ys:LV) (bs ji:bN) (l:List jY) (F:Fr) (_:vs=[.ref sl,bv,cv]) (_:jJ F H) (_:H sl=some (.bz ys)) (_:F.L sl=none) (_:fL a F l ys) (_:fJ a F bs bv) (_:fJ a F ji cv) (_:ji.length+l.length<=15000) (_:match vd bs ji (vV bs l) (uE l) ji with|none=> ∀H',iG F H F H'->jJ F H'->Q .ik H'|some rs=> ∀v F' H',iG F H F' H'->jJ F' H'->fJ a F' rs v->Q v H')
theorem A2(T:il K mg a):iW P w K mg base 2 "rows_left_loosely" rD (ZhL a):=by
 refine cI T.rK T.BL T.rK.b3 R6 ?_
 ·lk;obtain⟨sl,bv,cv,ys,bs,ji,l,F,rfl,zF,wc,hlL,hl,hbs,Zgc,hn,k⟩:=h;have nd:=R6.nd;refine⟨_,ai (bq (i:=3) nd (ba (oo T) hr bh (ag (pv 0) (ag (pv 1) az)))) (ai (bq (i:=4) nd (HP Xh (by rfl) T.Zet (by decide +kernel) (ag (pv 2) az))) (ai (lC iw.never Z (kT (Zio (te:=Pb K (Pb K (m7 6) "deed") "number") (tt:=tB (Jo (Za6 a) [] E0 (nO (m7 6) yD))) (own:=[("step",6)]) Z nd (kT (pv 0)) (Ms (by rfl)) (fun _ _ _ _ _=>by exact gW (i:=6) nd) (fun _ _ _ _ _=>by exact Zai (eX (ba (OB T) hr bh (ag (pv 6) az)))) (fun _ _ _ _ _=>by exact aI (aI (pv 6) Z) Z))) (gW (i:=5) nd) (ai (bK (bf (ZdV hr.units) (ba (OC T) hr bh (ag (pv 1) (ag (pv 5) az))) (ba (OC T) hr bh (ag (pv 2) (ag (pv 5) az))) (bw _)) (aq (aN oZ)) aL) (aq (bK (nN (YZ (jI hr) (pv 5) (pv 3))) (aq (E3 (jI hr) (pv 4) (pv 5) (lX (jI hr) (pv 3) (pv 5)) Z)) (aq (bK (nN (YZ (jI hr) (pv 5) (pv 4))) (aq (dm (E4 (pv 4) (pv 5) ⟨Z,Z,Z,Z⟩))) aL)))))) (aq (aN (pv 4))))),?_⟩;walk;refine⟨_,Z,_,Z,sl,bv,ys,bs,l,F,Z,zF,wc,hl,hbs,fun vv hvv=>?_⟩;obtain⟨dn,kn,rfl,n1,n2⟩:=id Zgc;refine⟨_,Z,dn,kn,Z,zF.sub _ _ n1,fun p np=>?_⟩;obtain⟨x0,z0⟩:=iG.tmp (o:= .dK kn) zF np;have e0:= @au H p (.dK kn);have gp:=zF.g0 np;have lp:=zF.l0 np;generalize bp H p (.dK kn)=H0 at x0 z0 e0;have Zoc:=x0.ch _ _ wc hlL;refine⟨_,Z,sl,Z,⟨_,ft.of Zoc⟩,fun D hD=>SR (K:=K) (a:=sl) (xs:=ys) (fun i H3=>aS H0 H3/\H3 D=some (.bz ((uE (l.take i)).map V.int))) ⟨aS.dW (aS.refl H0) hD,au⟩ (fun i H3 _ h=>ft.of (h.1 _ _ Zoc)) ?_ ?_⟩
  ·rintro i y H3 hi ⟨s3,Vb⟩;walk;obtain⟨x,hx,hxy⟩:=iE hl hi;have z3:=z0.same s3;have hil:i<l.length:=(aW.mp hx).1;refine⟨Z,_,Z,y,x,F,Z,z3,hxy,fun H4 s4=> ⟨_,Z,?_⟩⟩;have hw:=ZE hx;obtain⟨yy,dy,dv,q,rv,rfl,g1,⟨p0,yd,dyd,QG,cv',rfl,d1,d2,d3⟩,g3,g4⟩:=hxy;have z4:=z3.same s4;cases ew:nF x with
   |true=>
    rw[ew,ak Z]at hw;try dsimp only
    rw[ak Z];have hnl:=XO (l.take i);rw[gR]at hnl;refine⟨_,Z,yy,_,dy,_,_,Z,z4.sub _ _ g1,T.mW,T.oa,Z,yd,_,dyd,_,_,Z,z4.sub _ _ d1,T.dR,T.eY,Z,_,s4 _ _ Vb,mM (by rw[aZ];omega),fun b u e=>?_,?_⟩
    ·rw[aF (aR e hD)];exact s4 _ _ (s3 _ _ e)
    ·rw[hw,cg,ZF ew];exact au
   |false=>
    rw[ew,ah aK,cJ]at hw;try dsimp only
    rw[ah aK];refine⟨s3.trans s4,?_⟩;rw[hw];exact s4 _ _ Vb
  ·rintro H3 ⟨s3,Vb⟩;walk;rw[<-Paired.length hl,gT]at Vb;have z3:=z0.same s3;have x3:=x0.trans (iG.same (F:=F) s3);have nD:H D=none:=x0.free hD;have gD:=zF.g0 nD;have lD:=zF.l0 nD;have pD:D≠p:=fun z=>by rw[z,e0]at hD;cases hD
   generalize vV bs l=view at hvv k;have hnl:=XO l;generalize uE l=eV at Vb k hnl;obtain⟨dw,kw,rfl,w1,w2⟩:=id hvv;refine⟨D,Z,⟨_,ft.of Vb⟩,lE (K:=K) (a:=D) (xs:=eV.map V.int) (fun i σ H4=> ∃(v5:Option V)(br:List (i5×V))(left:bN),σ=[some (.ref sl),some bv,some (.ref dn),some (.ref dw),some (.ref p),v5,none]/\iG F H F H4/\jJ F H4/\H4 D=some (.bz (eV.map V.int))/\H4 p=some (.dK br)/\k6 a F left br/\left.length<=ji.length+i/\vd bs ji view (eV.drop i) left=vd bs ji view eV ji) ⟨none,kn,ji,Z,x3,z3,Vb,s3 _ _ e0,n2,aC _,Z⟩ (fun i σ H4 _ h9=>by obtain⟨_,_,_,_,_,_,h,_⟩:=h9;exact ft.of h) ?_ ?_⟩
   ·rintro i y σ H4 hi ⟨v5,br,left,rfl,x4,z4,hD4,hp4,hleft,hll,hloose⟩;walk;rw[hZ]at hi;cases Ys:eV[i]? with
    |none=>rw[Ys]at hi;cases hi
    |some n=>
    rw[Ys]at hi;have ey:V.int n=y:=af hi;subst ey;have hil:i<eV.length:=(aW.mp Ys).1;rw[og Ys,vd]at hloose;refine⟨_,Z,_,Z,bv,n,bs,F,Z,z4,hbs,fun u hu=> ⟨_,Z,_,Z,_,n,ji,F,Z,z4,Zgc,fun u' hu'=>?_⟩⟩;obtain⟨d,e,q1,q2,q3,q4,q5⟩:=ZhK (K:=K) (hu.same z4.sub) (hu'.same z4.sub);refine⟨d,e,q1,q2,q3,q4,_,Z,?_⟩;rw[q5];by_cases et:KL bs n=KL ji n;rotate_left
    ·rw[ah et]at hloose;rw[<-hloose]at k;rw[ay et];exact bQ (k H4 x4 z4)
    rw[ak et]at hloose;rw[aD et];have w1H:=z4.sub _ _ w1;have hlk:=Paired.length hleft;refine bx ⟨_,Z,_,Z,dw,_,Z,kx.k (k:=aQ n) w1H,_,Z,?_⟩;have chg:∀(QJ:List (i5×V)),iG F H F (bp H4 p (.dK QJ))/\jJ F (bp H4 p (.dK QJ))/\(bp H4 p (.dK QJ)) D=some (.bz (eV.map V.int)):=fun QJ=> ⟨x4.U1 np,z4.U1 gp lp,by rw[aF pD];exact hD4⟩;rcases lM n w2 with⟨r,v,g1,g2,g3⟩|⟨g1,g2⟩
    ·have g:=kx.k (a:=dw) (k:=aQ n) w1H;rw[g2]at g⊢;rw[g1]at hloose;obtain⟨c1,c2,c3⟩:=chg (lW br (aQ n) v);refine bQ ⟨_,Z,_,Z,dw,v,Z,g,_,Z,_,Z,p,_,Z,K1.k (k:=aQ n) hp4 (mM (by omega)),some (.int n),_,xb left n r,Z,c1,c2,c3,au,k6.put hleft g3,?_,hloose⟩;have:=Oy left n r;omega
    ·rw[g2];rw[g1]at hloose;refine bx ⟨_,Z,_,Z,p,_,Z,kx.k (k:=aQ n) hp4,_,Z,?_⟩;rcases lM n hleft with⟨r,v,f1,f2,f3⟩|⟨f1,f2⟩
     ·rw[f2];dsimp only at hloose;rw[ak (by unfold mC;rw[f1];rfl)]at hloose;obtain⟨c1,c2,c3⟩:=chg (oQ br (aQ n));refine bQ ⟨_,Z,p,Z,.inl ⟨_,.inl hp4⟩,_,Z,br,aQ n,v,hp4,Z,f2,?_⟩;refine⟨some (.int n),_,rO left n,Z,c1,c2,c3,au,k6.drop hleft,?_,hloose⟩;have:=R4 left n;omega
     ·rw[f2];dsimp only at hloose;rw[ah (by unfold mC;rw[f1];exact aK)]at hloose;exact bx ⟨some (.int n),br,left,Z,x4,z4,hD4,hp4,hleft,by omega,hloose⟩
   ·rintro σ H4 ⟨v5,br,left,rfl,x4,z4,hD4,hp4,hleft,hll,hloose⟩;walk;rw[aZ,ko,vd]at hloose;rw[<-hloose]at k;refine⟨_,Z,k (.ref p) (F.ER p (.dK br)) H4 (x4.ER np gp) (z4.ER lp hp4) ⟨p,br,Z,Fr.om,k6.le hleft (Le.ER gp)⟩⟩
end
structure hJ where
 base:bN
 ds:List dk
structure bD where
 sch:Option Zvn
 gJ:List bN
 next:Nat
 fg:Int->Option hJ
noncomputable def A3(sch:Option Zvn):bD:=⟨sch,[[]],0,fun _=>none⟩
def iF(S:bD):bN:=S.gJ.getLast?.getD []
noncomputable def pF(f:Int->Option hJ)(n:Int)(s:Option hJ):Int->Option hJ:=fun m=>if m=n then s else f m
structure SOk(S:bD):Prop where
 ne:S.gJ≠ []
 gd:∀fs,S.sch=some fs->GF fs/\(∀rs∈S.gJ,GR fs 60 rs)/\∀n s,S.fg n=some s->GR fs 60 s.base/\(∀d∈s.ds,GD fs d)/\s.ds.length<=40
def cf(c:cX):Int:=c.eV.getD 0 0
def fB(c:cX):Int:=c.eV.getD 1 0
def pS0(S:bD)(c:cX):bD×List Int:=match md c.text with
 |none=> (S,[-1])
 |some fs=> (A3 (some fs),[0])
noncomputable def KN(S:bD):Option Nat:=(List.range 8).find? fun i=> (S.fg (i:Int)).isNone
def pS1(S:bD):bD×List Int:=match KN S with
 |none=> (S,[-5])
 |some i=> ({S with fg:=pF S.fg (i:Int) (some ⟨iF S,[]⟩)},[(i:Int)])
def pS2(fs:Zvn)(s:hJ)(S:bD)(c:cX):bD×List Int:=match jX fs c (S.next:Int)with
 |none=> (S,[-1])
 |some d=>if 40<=s.ds.length then(S,[-6])else({S with next:=if c.num=2 then S.next+1 else S.next,fg:=pF S.fg (cf c) (some ⟨s.base,s.ds++[d]⟩)},jE (gu s.base s.ds) d)
def pS7(s:hJ)(S:bD)(c:cX):bD×List Int:=if fB c<0\/(s.ds.length:Int)<fB c then(S,[-4])else({S with fg:=pF S.fg (cf c) (some ⟨s.base,s.ds.take (fB c).toNat⟩)},[fB c])
def iN(s:hJ)(ji:bN):Nat:=lO (fK s.base s.ds) (fK ji s.ds)
def tR(s:hJ)(ji:bN):Option bN:=vd s.base ji (gu s.base s.ds) (uE (fb s.base s.ds)) ji
def UH(s:hJ)(ji:bN):Option bN:=if iN s ji<s.ds.length then none else some (gu ji s.ds)
def pS8(s:hJ)(S:bD):bD×List Int:=(S,[if iN s (iF S)=s.ds.length then 1 else 0,if(tR s (iF S)).isSome=true then 1 else 0,(iN s (iF S):Int)])
def pS9(s:hJ)(S:bD)(c:cX):bD×List Int:=({S with fg:=pF S.fg (cf c) (some ⟨iF S,s.ds⟩)},[(A1 (fK s.base s.ds) (fK (iF S) s.ds):Int)])
def DH(s:hJ)(mode:Int)(ji:bN):Option bN:=if mode=1 then UH s ji else tR s ji
def IV(s:hJ)(S:bD)(c:cX):bD×List Int:=if fB c=0\/fB c=1 then match DH s (fB c) (iF S)with
  |none=> (S,[-10])
  |some rs=>if 60<rs.length\/60<S.gJ.length then(S,[-7])else({S with gJ:=S.gJ++[rs],fg:=pF S.fg (cf c) none},[(S.gJ.length:Int)])
 else(S,[-4])
def XQ(S:bD)(c:cX):bD×List Int:=({S with fg:=pF S.fg (cf c) none},[0])
def DI(rs:bN):List Int:=(rs.length:Int)::NY (rs.map (·.1))
def ZfD(S:bD):bD×List Int:=(S,DI (iF S))
def XR(S:bD)(c:cX):bD×List Int:=(S,match oi (iF S) (cf c)with
 |none=>[-4]
 |some r=> (r.1.length:Int)::r.1.map fun b:Nat=> (b:Int))
def UI(S:bD)(c:cX):bD×List Int:=(S,if cf c<0 then [-4]else match S.gJ[(cf c).toNat]? with
 |none=>[-4]
 |some rs=>DI rs)
def QA(fs:Zvn)(s:hJ)(S:bD)(c:cX):bD×List Int:=if c.num<=6 then pS2 fs s S c else if c.num=7 then pS7 s S c else if c.num=8 then pS8 s S else if c.num=9 then pS9 s S c else if c.num=10 then IV s S c else XQ S c
def qO(S:bD)(c:cX):bD×List Int:=if c.num=0 then pS0 S c else match S.sch with
 |none=> (S,[-2])
 |some fs=>if c.num=1 then pS1 S else if c.num<=11 then(match S.fg (cf c)with
   |none=> (S,[-3])
   |some s=>QA fs s S c)
  else if c.num=12 then ZfD S else if c.num=13 then XR S c else UI S c
inductive uF where
 |t
 |h
 |d
 |s (n:Int)
 |l (n:Int)
noncomputable abbrev lP:LS:=["schema","history","sessions","next_row"]
noncomputable abbrev gX:LS:=["base_rows","steps"]
inductive A4(a:cV)(F:Fr)(H:Hp)(ow:ao->Option uF)(n:Int)(s:hJ)(v:V):Prop
 |mk (sa:_) (dsa:_) (sl:_) (rv:_) (ys:_) (_:v= .ref sa) (_:ow sa=some (.s n)) (_:ow sl=some (.l n)) (_:H sa=some (.ins a.eB dsa (gX.zip [rv,.ref sl]))) (_:H sl=some (.bz ys)) (_:fJ a F s.base rv) (_:fL a F (fb s.base s.ds) ys)
def eO(a:cV)(F:Fr)(H:Hp)(ow:ao->Option uF)(n:Int):Option hJ->Option V->Prop
 |none,none=>True
 |some s,some v=>A4 a F H ow n s v
 |_,_=>False
def KO(a:cV)(F:Fr):Option Zvn->V->Prop
 |none,v=>v= .ik
 |some fs,v=>gi a F.G fs v
inductive ZmP(a:cV)(F:Fr)(H:Hp)(ow:ao->Option uF)(t:ao)(S:bD)(c:Nat):Prop
 |mk (dt:_) (hh:_) (sd:_) (sv:_) (Bv:_) (br:_) (_:ow t=some .t) (_:ow hh=some .h) (_:ow sd=some .d) (_:H t=some (.ins a.cU dt (lP.zip [sv,.ref hh,.ref sd,bV S.next]))) (_:H hh=some (.bz Bv)) (_:H sd=some (.dK br)) (_:KO a F S.sch sv) (_:Paired (fJ a F) S.gJ Bv) (_:S.gJ.length<=c+1) (_:br.length<=c) (_:∀n,eO a F H ow n (S.fg n) (iV br (aQ n)))
structure Wd(a:cV)(F:Fr)(H:Hp)(ow:ao->Option uF)(t:ao)(S:bD)(c:Nat):Prop where
 fz:jJ F H
 free:∀b x,ow b=some x->H b≠none/\F.G b=none/\F.L b=none
 cG:F.Zvl.length<=c
 Yo:ZmP a F H ow t S c
structure O1(F:Fr)(H:Hp)(ow:ao->Option uF)(F':Fr)(H':Hp)(EE:ao->Option uF):Prop where
 le:Le F F'
 keep:∀b o,H b=some o->F.L b=none->ow b=none->H' b=some o
 al:∀b,H b≠none->H' b≠none
 gn:∀b,H b≠none->F'.G b=F.G b
 ln:∀b,H b≠none->F'.L b=F.L b
 on:∀b,H b≠none->ow b=none->EE b=none
theorem iT.mov{F F':Fr}{H H':Hp}(x:iT F H F' H')(ow:ao->Option uF):O1 F H ow F' H' ow:=⟨x.le,fun b o h l _=>x.ch b o h l,x.al,x.gn,x.ln,fun _ _ h=>h⟩
theorem O1.trans{F F1 F2:Fr}{H H1 H2:Hp}{ow ow1 ow2:ao->Option uF}(x:O1 F H ow F1 H1 ow1)(y:O1 F1 H1 ow1 F2 H2 ow2):O1 F H ow F2 H2 ow2:=by
 refine⟨x.le.trans y.le,fun b o h l n=>?_,fun b h=>y.al b (x.al b h),fun b h=>?_,fun b h=>?_,fun b h n=>y.on b (x.al b h) (x.on b h n)⟩
 ·exact y.keep b o (x.keep b o h l n) (by rw[x.ln b (si h)];exact l) (x.on b (si h) n)
 ·rw[y.gn b (x.al b h),x.gn b h]
 ·rw[y.ln b (x.al b h),x.ln b h]
theorem O1.chg{F:Fr}{H H':Hp}{ow EE:ao->Option uF}(k:∀b,H b≠none->ow b=none->H' b=H b/\EE b=none)(al:∀b,H b≠none->H' b≠none):O1 F H ow F H' EE:=⟨Le.refl F,fun b o h _ n=>by rw[(k b (si h) n).1];exact h,al,fun _ _=>rfl,fun _ _=>rfl,fun b h n=> (k b h n).2⟩
theorem jJ.chg{F:Fr}{H H':Hp}(z:jJ F H)(k:∀b,F.G b≠none\/F.L b≠none->H' b=H b):jJ F H':=by
 refine⟨fun b o e=>?_,z.off,fun b v e=>?_,z.vc⟩
 ·rw[k b (.inl (si e))];exact z.sub b o e
 ·rw[k b (.inr (si e))];exact z.oH b v e
theorem jz{H:Hp}{p q:ao}{o:HO}(h:(bp H p o) q=none):q≠p/\H q=none:=by
 have n:q≠p:=fun z=>by rw[z,au]at h;cases h
 exact⟨n,by rw[aF n]at h;exact h⟩
theorem gi.le{a:cV}{F F':Fr}{fs:Zvn}{v:V}(h:gi a F.G fs v)(s:Le F F'):gi a F'.G fs v:=h.same s.gs
theorem KO.le{a:cV}{F F':Fr}(s:Le F F'):∀{o:Option Zvn}{v:V},KO a F o v->KO a F' o v
 |none,_,h=>h
 |some _,_,h=>gi.le h s
theorem A4.to{a:cV}{F F':Fr}{H H':Hp}{ow EE:ao->Option uF}{n:Int}{s:hJ}{v:V}(h:A4 a F H ow n s v)(e:Le F F')(k:∀b x,ow b=some x->(x= .s n\/x= .l n)->H' b=H b/\EE b=some x):A4 a F' H' EE n s v:=by obtain⟨sa,dsa,sl,rv,ys,rfl,o1,o2,h1,h2,h3,h4⟩:=h;obtain⟨k1,k2⟩:=k sa _ o1 (.inl Z);obtain⟨k3,k4⟩:=k sl _ o2 (.inr Z);exact⟨sa,dsa,sl,rv,ys,Z,k2,k4,by rw[k1];exact h1,by rw[k3];exact h2,h3.le e,fL.le h4 e⟩
theorem eO.to{a:cV}{F F':Fr}{H H':Hp}{ow EE:ao->Option uF}{n:Int}(e:Le F F')(k:∀b x,ow b=some x->(x= .s n\/x= .l n)->H' b=H b/\EE b=some x):∀{s:Option hJ}{v:Option V},eO a F H ow n s v->eO a F' H' EE n s v
 |none,none,_=>trivial
 |some _,some _,h=>A4.to h e k
 |none,some _,h=>h.elim
 |some _,none,h=>h.elim
theorem eO.has{a:cV}{F:Fr}{H:Hp}{ow:ao->Option uF}{n:Int}{s:hJ}:∀{v:Option V},eO a F H ow n (some s) v->∃x,v=some x/\A4 a F H ow n s x
 |some x,h=> ⟨x,Z,h⟩
 |none,h=>h.elim
theorem eO.ZiL{a:cV}{F:Fr}{H:Hp}{ow:ao->Option uF}{n:Int}:∀{v:Option V},eO a F H ow n none v->v=none
 |some x,h=>h.elim
 |none,h=>rfl
theorem Wd.ext{a:cV}{F F':Fr}{H H':Hp}{ow:ao->Option uF}{t:ao}{S:bD}{c c':Nat}(W:Wd a F H ow t S c)(x:iT F H F' H')(z:jJ F' H')(hc:c<=c')(hg:F'.Zvl.length<=c'):Wd a F' H' ow t S c':=by
 have kp:∀b y,ow b=some y->H' b=H b:=fun b y e=>by obtain⟨f1,f2,f3⟩:=W.free b y e;obtain⟨o,f1⟩:=rP f1;rw[x.ch b o f1 f3,f1]
 refine⟨z,fun b y e=>?_,hg,?_⟩
 ·obtain⟨f1,f2,f3⟩:=W.free b y e;exact⟨x.al b f1,by rw[x.gn b f1];exact f2,by rw[x.ln b f1];exact f3⟩
 ·obtain⟨dt,hh,sd,sv,Bv,br,o1,o2,o3,h1,h2,h3,h4,h5,h6,h7,h8⟩:=W.Yo;exact⟨dt,hh,sd,sv,Bv,br,o1,o2,o3,by rw[kp _ _ o1];exact h1,by rw[kp _ _ o2];exact h2,by rw[kp _ _ o3];exact h3,h4.le x.le,Paired.wm h5 fun _ _ q=>q.le x.le,by omega,by omega,fun n=>eO.to x.le (fun b y e _=> ⟨kp b y e,e⟩) (h8 n)⟩
theorem UJ{α β:Type}{F:α->β->Prop}:∀{l:List α}{m:List β}{i:Nat}{x:α},Paired F l m->l[i]? =some x->∃y,m[i]? =some y/\F x y
 |_,_,_,_,.nil,h=>by cases h
 |_,_,0,x,.cons p t,h=> ⟨_,Z,by rw[<-af h];exact p⟩
 |_,_,i+1,x,.cons p t,h=>by obtain⟨y,h1,h2⟩:=UJ (i:=i) t (by simpa using h);exact⟨y,by simpa using h1,h2⟩
theorem ZfE{S:bD}(h:S.gJ≠ []){a:cV}{F:Fr}{Bv:LV}(hp:Paired (fJ a F) S.gJ Bv):∃zs v,Bv=zs++[v]/\fJ a F (iF S) v:=by
 rcases Hb S.gJ with e|⟨m,x,e⟩
 ·exact absurd e h
 ·rw[e]at hp;obtain⟨zs,y,rfl,_,h2⟩:=Oz hp;refine⟨zs,y,Z,?_⟩;unfold iF;rw[e,mG];exact h2
theorem Bt{S:bD}(h:S.gJ≠ []):iF S∈S.gJ:=by
 rcases Hb S.gJ with e|⟨m,x,e⟩
 ·exact absurd e h
 ·unfold iF;rw[e,mG];simp
def IW(a:cV)(t:ao)(S:bD)(ow:ao->Option uF)(F:Fr)(i:Nat)(n:Nat)(r:bD×List Int)(H:Hp)(Q:VK):Prop:=∀q F' H' EE,Wd a F' H' EE t r.1 (n+1)->O1 F H ow F' H' EE->(∀x∈F'.Zvl,x∈F.Zvl\/x.1=(i:Int))->F'.G q=some (.bz (r.2.map V.int))->Q (.ref q) H'
inductive lQ(a:cV)(pre:bD->cX->Prop)(f:bD->cX->bD×List Int)(vs:LV)(H:Hp)(Q:VK)(_:XK):Prop
 |mk (t:ao) (cv:V) (S:bD) (ow:ao->Option uF) (F:Fr) (i:Nat) (c:cX) (n:Nat) (_:vs=[.ref t,cv]) (_:Wd a F H ow t S n) (_:SOk S) (_:pC a F.G i c cv) (_:c.ok) (_:(∀x∈F.Zvl,x.1< (i:Int))) (_:n<400) (_:pre S c) (_:IW a t S ow F i n (f S c) H Q)
theorem IW.same{a:cV}{t:ao}{S:bD}{ow:ao->Option uF}{F F':Fr}{i n:Nat}{l:List Int}{r:bD×List Int}{H H':Hp}{Q:VK}{q:ao}(k:IW a t S ow F i n r H Q)(e:r=(S,l))(W:Wd a F H ow t S n)(x:iT F H F' H')(z:jJ F' H')(g:F'.Zvl.length<=n+1)(gk:∀x∈F'.Zvl,x∈F.Zvl\/x.1=(i:Int)) (h:F'.G q=some (.bz (l.map V.int))):Q (.ref q) H':=by subst e;exact k q F' H' ow (W.ext x z (mH n) g) (x.mov ow) gk h
theorem IW.one{a:cV}{t:ao}{S:bD}{ow:ao->Option uF}{F F':Fr}{i n:Nat}{m:Int}{r:bD×List Int}{H H':Hp}{Q:VK}{q:ao}(k:IW a t S ow F i n r H Q)(e:r=(S,[m]))(W:Wd a F H ow t S n)(x:iT F H F' H')(z:jJ F' H')(g:F'.Zvl.length<=n+1)(gk:∀x∈F'.Zvl,x∈F.Zvl\/x.1=(i:Int)) (h:H' q=none):Q (.ref q) (bp H' q (.bz [.int m])):=k.same e W (x.trans (iG.new z h).1.toiT) (iG.new (o:= .bz [.int m]) z h).2 g gk Fr.om
theorem IW.tS{a:cV}{t:ao}{S:bD}{ow EE:ao->Option uF}{F F':Fr}{i n:Nat}{r:bD×List Int}{H H':Hp}{Q:VK}{q:ao}(k:IW a t S ow F i n r H Q)(W:Wd a F' H' EE t r.1 (n+1))(m:O1 F H ow F' H' EE)(gk:∀x∈F'.Zvl,x∈F.Zvl\/x.1=(i:Int))(h:H' q=none):Q (.ref q) (bp H' q (.bz (r.2.map V.int))):=by obtain⟨x,z⟩:=iG.new (o:= .bz (r.2.map V.int)) W.fz h;exact k q _ _ EE (W.ext x.toiT z (aC _) W.cG) (m.trans (x.toiT.mov EE)) gk Fr.om
theorem ou{c:cX}(h:c.ok)(k:1<=Ym c.num):atI (c.eV.map V.int) 0=some (.int (cf c)):=by
 obtain⟨_,o2,_⟩:=h;unfold cf;match e:c.eV with
 |[]=>rw[e]at o2;simp at o2;omega
 |x::r=>exact fh (xs:=(x::r).map V.int) (j:=0) Z
theorem XS{c:cX}(h:c.ok)(k:2<=Ym c.num):atI (c.eV.map V.int) 1=some (.int (fB c)):=by
 obtain⟨_,o2,_⟩:=h;unfold fB;match e:c.eV with
 |[]=>rw[e]at o2;simp at o2;omega
 |[x]=>rw[e]at o2;simp at o2;omega
 |x::y::r=>exact fh (xs:=(x::y::r).map V.int) (j:=1) Z
section
inductive XT(a:cV)(vs:LV)(H:Hp)(Q:VK)(_:XK):Prop
 |mk (t:ao) (S:bD) (ow:ao->Option uF) (F:Fr) (n:Nat) (_:vs=[.ref t]) (_:Wd a F H ow t S n) (_:S.gJ≠ []) (_:∀v,fJ a F (iF S) v->Q v H)
theorem iO(T:il K mg a):Met P w K mg base 1 a.cU "committed_rows" kf (XT a):=by
 refine⟨a.kg,a.nY,T.oe.ok0 vD (fun vs H Q E h=>?_) (fun la A bC s H vs Q E hr h=>?_),T.dQ,T.wV,T.oe.b1⟩
 ·obtain⟨t,S,ow,F,n,rfl,_⟩:=h;rfl
 ·obtain⟨t,S,ow,F,n,rfl,W,iY,k⟩:=h;refine⟨_,aq (aN (iJ fi (aI (pv 0) Z) (QX HK bL))),?_⟩;obtain⟨dt,hh,sd,sv,Bv,br,o1,o2,o3,h1,h2,h3,h4,h5,h6,h7,h8⟩:=W.Yo;obtain⟨zs,v,rfl,hv⟩:=ZfE iY h5;exact⟨_,Z,t,_,dt,_,_,Z,h1,T.dQ,T.i6,Z,_,Z,hh,_,_,_,Z,Z,ft.of h2,EX zs v,k v hv⟩
inductive ZcN(a:cV)(vs:LV)(H:Hp)(Q:VK)(_:XK):Prop
 |mk (t:ao) (S:bD) (ow:ao->Option uF) (F:Fr) (n:Nat) (_:vs=[.ref t]) (_:Wd a F H ow t S n) (_:Q (.int ((S.gJ.length:Int)-1)) H)
theorem rh(T:il K mg a):Met P w K mg base 1 a.cU "commit_count" lG (ZcN a):=by
 refine⟨a.lI,a.qz,T.qF.ok0 ye (fun vs H Q E h=>?_) (fun la A bC s H vs Q E hr h=>?_),T.dQ,T.Aq,T.qF.b1⟩
 ·obtain⟨t,S,ow,F,n,rfl,_⟩:=h;rfl
 ·obtain⟨t,S,ow,F,n,rfl,W,k⟩:=h;refine⟨_,aq (aN (iu HJ (rZ T (aI (pv 0) Z)) bL)),?_⟩;obtain⟨dt,hh,sd,sv,Bv,br,o1,o2,o3,h1,h2,h3,h4,h5,h6,h7,h8⟩:=W.Yo;rw[Paired.length h5]at k;exact⟨_,Z,t,_,dt,_,_,Z,h1,T.dQ,T.i6,Z,hh,_,Z,.inl (ft.of h2),_,_,Z,Z,k⟩
inductive Zks(a:cV)(vs:LV)(H:Hp)(Q:VK)(_:XK):Prop
 |mk (rv:V) (rs:bN) (F:Fr) (_:vs=[rv]) (_:jJ F H) (_:fJ a F rs rv) (_:rs.length<=16000) (_:∀q F' H',iG F H F' H'->jJ F' H'->F'.Zvl=F.Zvl->F'.G q=some (.bz ((DI rs).map V.int))->Q (.ref q) H')
theorem DJ(T:il K mg a):iW P w K mg base 1 "numbers_of" wK (Zks a):=by
 refine cI T.Gp T.T5 T.Gp.b1 Pz ?_
 ·lk;obtain⟨rv,rs,F,rfl,zF,Jc,hl,k⟩:=h;refine⟨_,aq (aN (iu SM (dO (ag (Ziy T (pv 0)) az)) (jQ (NX hr.hd) (by rfl) T.WC (by decide +kernel) (ag (pv 0) az)))),?_⟩;obtain⟨d,br,rfl,r1,r2⟩:=Jc;have hkl:=Paired.length r2;have r1H:=zF.sub _ _ r1;refine⟨_,Z,d,br,Z,r1H,(mr 1),fun q4 U8=>?_⟩;rw[<-hkl];have s4:=aS.dW (o:=(.bz [V.int (rs.length:Int)])) (aS.refl H) U8;have e4:= @au H q4 (.bz [V.int (rs.length:Int)]);generalize bp H q4 (.bz [V.int (rs.length:Int)])=H4 at s4 e4;refine⟨_,Z,d,br,rs.map (·.1),Z,s4 _ _ r1H,IE r2,fun ns q So hpw hq=>?_⟩;have ens:=N0 So hpw;have hnl:ns.length=rs.length:=by rw[So.length_eq,aZ]
  have s1:=aS.dW (o:=(.bz (ns.map V.int))) (aS.refl H4) hq;have e1:= @au H4 q (.bz (ns.map V.int));generalize bp H4 q (.bz (ns.map V.int))=H1 at s1 e1;refine⟨q4,q,_,_,Z,Z,s1 _ _ e4,e1,fZ (mM (by simp;omega)),fun p hp=>?_⟩;have z1:=(zF.same s4).same s1;obtain⟨x5,z5⟩:=iG.new (o:= .bz ([V.int (rs.length:Int)]++ns.map V.int)) z1 hp;refine k p _ _ ((iG.same (s4.trans s1)).trans x5) z5 Z ?_;unfold DI;rw[<-ens];exact Fr.om
def UK(S:bD)(_:cX):Prop:=∃fs,S.sch=some fs
theorem OD(T:il K mg a):iW P w K mg base 2 "answer_rows" uV (lQ a UK fun S _=>ZfD S):=by
 refine cI T.Dn T.Dj T.Dn.b2 MU ?_
 ·lk;obtain⟨t,cv,S,ow,F,i,c,n,rfl,W,hS,hc,ok,hG,hn,⟨fs,iZ⟩,k⟩:=h;refine⟨_,aq (aN (ba (DJ T) hr bh (ag (du (pv 0) (iO T) hr bh) az))),?_⟩;obtain⟨dt,hh,sd,sv,Bv,br,o1,o2,o3,h1,h2,h3,h4,h5,h6,h7,h8⟩:=W.Yo;have hl:=((hS.gd fs iZ).2.1 _ (Bt hS.ne)).len;have hcG:=W.cG;exact⟨_,Z,t,dt,_,Z,h1,Z,t,S,ow,F,n,Z,W,hS.ne,fun v hv=> ⟨v,_,F,Z,W.fz,hv,by omega,fun q F' H' x z eg hq=>k.same Z W x.toiT z (by rw[eg];omega) (fun y hy=> .inl (by rw[<-eg];exact hy)) hq⟩⟩
def ZhN(S:bD)(c:cX):Prop:=1<=Ym c.num/\∃fs,S.sch=some fs
theorem QB(T:il K mg a):iW P w K mg base 2 "answer_row" FC (lQ a ZhN XR):=by
 refine cI T.Gq T.Gj T.Gq.b2 CD ?_
 ·lk;obtain⟨t,cv,S,ow,F,i,c,n,rfl,W,hS,hc,ok,hG,hn,⟨ZZ,fs,iZ⟩,k⟩:=h;have nd:=CD.nd;refine⟨_,ai (bq (i:=2) nd (du (pv 0) (iO T) hr bh)) (ai (bq (i:=3) nd (iJ fi (aI (pv 1) Z) bL)) (ai (bK (nN (o7 (jI hr) (pv 3) (pv 2))) (aq (aN (dO (ag (aP T.mX) az)))) aL) (aq (aN (iu SM (dO (ag (rZ T (aI (lX (jI hr) (pv 2) (pv 3)) Z)) az)) (aI (lX (jI hr) (pv 2) (pv 3)) Z)))))),?_⟩;walk;obtain⟨dt,hh,sd,sv,Bv,br,o1,o2,o3,h1,h2,h3,h4,h5,h6,h7,h8⟩:=W.Yo;obtain⟨y,dy,cq,ct,rfl,c1,c2,c3⟩:=hc;have zF:=W.fz;have hcG:=W.cG;have hgr:=(hS.gd fs iZ).2.1 _ (Bt hS.ne);refine⟨_,Z,t,dt,_,Z,h1,Z,t,S,ow,F,n,Z,W,hS.ne,fun v hv=>?_⟩;obtain⟨d,kv,rfl,r1,r2⟩:=hv;have r1H:=zF.sub _ _ r1;refine⟨_,Z,y,_,dy,_,_,Z,zF.sub _ _ c1,T.cY,T.dB,Z,cq,_,_,_,Z,Z,ft.of (zF.sub _ _ c2),ou ok ZZ,?_⟩;refine⟨_,Z,_,Z,d,_,Z,kx.k (k:=aQ (cf c)) r1H,_,Z,?_⟩;have gk:∀x∈F.Zvl,x∈F.Zvl\/x.1=(i:Int):=fun x h=> .inl h;rcases lM (cf c) r2 with⟨r,v,g1,g2,g3⟩|⟨g1,g2⟩
  ·have g:=kx.k (a:=d) (k:=aQ (cf c)) r1H;rw[g2]at g⊢;obtain⟨ta,hd,⟨x,dx,rv',rfl,x1,x2⟩,x3,x4⟩:=g3;have x1H:=zF.sub _ _ x1;have x3H:=zF.sub _ _ x3;have hl:r.1.length<=4000:=hgr.text _ (oj g1);refine bx ⟨_,Z,_,Z,d,_,Z,g,x,_,dx,_,_,Z,x1H,T.ra,T.qC,Z,ta,_,Z,.inl (ft.of x3H),(mr 1),fun q4 U8=>?_⟩;rw[eA];have s4:=aS.dW (o:=(.bz [V.int (r.1.length:Int)])) (aS.refl H) U8;have e4:= @au H q4 (.bz [V.int (r.1.length:Int)]);generalize bp H q4 (.bz [V.int (r.1.length:Int)])=H4 at s4 e4;have g':=kx.k (a:=d) (k:=aQ (cf c)) (s4 _ _ r1H);rw[g2]at g';refine⟨_,Z,_,Z,d,_,Z,g',x,_,dx,_,_,Z,s4 _ _ x1H,T.ra,T.qC,Z,q4,ta,_,_,Z,Z,e4,s4 _ _ x3H,fZ (mM (by simp[eA];omega)),fun p hp=>?_⟩;obtain⟨x5,z5⟩:=iG.new (o:= .bz ([V.int (r.1.length:Int)]++iz r.1)) (zF.same s4) hp;refine k.same (l:=(r.1.length:Int)::r.1.map fun b:Nat=> (b:Int)) (by unfold XR;rw[g1]) W ((iG.same s4).trans x5).toiT z5 (by show F.Zvl.length<=_;omega) gk ?_;rw[aY,eM];exact Fr.om
  ·rw[g2];exact bQ ⟨(mr 1),fun q hq=>k.one (by unfold XR;rw[g1]) W (iT.refl F H) zF (by omega) gk hq⟩
theorem OE(T:il K mg a):iW P w K mg base 2 "answer_then" CF (lQ a ZhN UI):=by
 refine cI T.Dq T.Dk T.Dq.b2 zE ?_
 ·lk;obtain⟨t,cv,S,ow,F,i,c,n,rfl,W,hS,hc,ok,hG,hn,⟨ZZ,fs,iZ⟩,k⟩:=h;have nd:=zE.nd;refine⟨_,ai (bq (i:=2) nd (iJ fi (aI (pv 1) Z) bL)) (ai (bK (yA (bf Jl (pv 2) bL (bw _)) (uJ (bf oP (pv 2) (du (pv 0) (rh T) hr bh) (bw _)))).pt (aq (aN (dO (ag (aP T.mX) az)))) aL) (aq (aN (ba (DJ T) hr bh (ag (iJ fi (aI (pv 0) Z) (pv 2)) az))))),?_⟩;walk;obtain⟨dt,hh,sd,sv,Bv,br,o1,o2,o3,h1,h2,h3,h4,h5,h6,h7,h8⟩:=W.Yo;obtain⟨y,dy,cq,ct,rfl,c1,c2,c3⟩:=hc;have zF:=W.fz;have hcG:=W.cG;have gk:∀x∈F.Zvl,x∈F.Zvl\/x.1=(i:Int):=fun x h=> .inl h;refine⟨_,Z,y,_,dy,_,_,Z,zF.sub _ _ c1,T.cY,T.dB,Z,cq,_,_,_,Z,Z,ft.of (zF.sub _ _ c2),ou ok ZZ,?_⟩;refine⟨_,Z,_,_,Z,Z,_,Z,?_⟩;by_cases UQ:cf c<0
  ·rw[aD UQ];refine bQ (bQ ⟨(mr 1),fun q hq=>k.one (by unfold UI;rw[ak UQ]) W (iT.refl F H) zF (by omega) gk hq⟩)
  rw[ay UQ];refine bx ⟨_,Z,_,Z,t,dt,_,Z,h1,Z,t,S,ow,F,n,Z,W,_,_,Z,Z,_,Z,?_⟩;by_cases Zda:(S.gJ.length:Int)-1<cf c
  ·rw[aD Zda];refine bQ ⟨(mr 1),fun q hq=>k.one ?_ W (iT.refl F H) zF (by omega) gk hq⟩;unfold UI;rw[ah UQ,List.getElem?_eq_none (by omega)]
  rw[ay Zda];have qR:(cf c).toNat<S.gJ.length:=by omega
  obtain⟨rs,Jc⟩:∃rs,S.gJ[(cf c).toNat]? =some rs:=⟨S.gJ[(cf c).toNat],by simp[qR]⟩;obtain⟨v,hv,Sn⟩:=UJ h5 Jc;have hgr:=(hS.gd fs iZ).2.1 _ (bj Jc);have hl:=hgr.len;have hat:atI Bv (cf c)=some v:=by have:=fh hv;rw[show(((cf c).toNat:Nat):Int)=cf c by omega]at this;exact this
  refine bx ⟨_,Z,t,_,dt,_,_,Z,h1,T.dQ,T.i6,Z,_,Z,hh,_,_,_,Z,Z,ft.of h2,hat,v,rs,F,Z,zF,Sn,by omega,fun q F' H' x z eg hq=>k.same (l:=DI rs) ?_ W x.toiT z (by rw[eg];omega) (fun y hy=> .inl (by rw[<-eg];exact hy)) hq⟩;unfold UI;rw[ah UQ,Jc]
end
section
def ZiM(a:cV)(t dt:ao)(v:V)(H:Hp)(Q:VK):Prop:=∀H' e hh sd,H e=none->H hh=none->H sd=none->e≠t->hh≠t->sd≠t->e≠hh->e≠sd->hh≠sd->H' t=some (.ins a.cU dt (lP.zip [v,.ref hh,.ref sd,.int 0]))->H' e=some (.dK [])->H' hh=some (.bz [.ref e])->H' sd=some (.dK [])->(∀b,b≠t->b≠e->b≠hh->b≠sd->H' b=H b)->Q .ik H'
inductive Zkt(a:cV)(vs:LV)(H:Hp)(Q:VK)(_:XK):Prop
 |mk (t dt:ao) (fl:List (Str×V)) (v:V) (_:vs=[.ref t,v]) (_:H t=some (.ins a.cU dt fl)) (_:(fl=[]\/∃x y z u,fl=lP.zip [x,y,z,u])) (_:ZiM a t dt v H Q)
theorem DK(T:il K mg a):Met P w K mg base 1 a.cU "start_anew" ng (Zkt a):=by
 refine⟨a.ni,a.tj,T.tw.ok0 BE (fun vs H Q E h=>?_) (fun la A bC s H vs Q E hr h=>?_),T.dQ,T.Ej,T.tw.b2⟩
 ·obtain⟨t,dt,fl,v,rfl,_⟩:=h;rfl
 ·obtain⟨t,dt,fl,v,rfl,ht,hfl,k⟩:=h;refine⟨_,ai (dr (pv 0) (pv 1) Z) (ai (dr (pv 0) (dO (ag Mu az)) Z) (ai (dr (pv 0) Mu Z) (aq (dr (pv 0) bL Z)))),?_⟩;walk;have tS:∀(e hh sd:ao)(f1 f2 f3 f4:List (Str×V)),(bp H t (.ins a.cU dt f1)) e=none->(bp (bp H t (.ins a.cU dt f1)) e (.dK [])) hh=none->(bp (bp (bp (bp H t (.ins a.cU dt f1)) e (.dK [])) hh (.bz [.ref e])) t (.ins a.cU dt f2)) sd=none->f4=lP.zip [v,.ref hh,.ref sd,.int 0]->Q .ik (bp (bp (bp (bp (bp (bp (bp H t (.ins a.cU dt f1)) e (.dK [])) hh (.bz [.ref e])) t (.ins a.cU dt f2)) sd (.dK [])) t (.ins a.cU dt f3)) t (.ins a.cU dt f4)):=by
   intro e hh sd f1 f2 f3 f4 n1 n2 n3 e4;obtain⟨a1,a2⟩:=jz n1;obtain⟨b1,b2⟩:=jz n2;obtain⟨b3,b4⟩:=jz b2;obtain⟨c1,c2⟩:=jz n3;obtain⟨c3,c4⟩:=jz c2;obtain⟨c5,c6⟩:=jz c4;obtain⟨c7,c8⟩:=jz c6;refine k _ e hh sd a2 b4 c8 a1 b3 c1 (eQ b1) (eQ c5) (eQ c3) ?_ ?_ ?_ ?_ fun b q1 q2 q3 q4=>?_
   ·rw[<-e4];exact au
   ·rw[aF a1,aF a1,aF (eQ c5),aF a1,aF (eQ b1)];exact au
   ·rw[aF b3,aF b3,aF (eQ c3),aF b3];exact au
   ·rw[aF c1,aF c1];exact au
   ·rw[aF q1,aF q1,aF q4,aF q1,aF q3,aF q2,aF q1]
  have tat:∀{e hh:ao}{f1:List (Str×V)},(bp H t (.ins a.cU dt f1)) e=none->(bp (bp H t (.ins a.cU dt f1)) e (.dK [])) hh=none->(bp (bp (bp H t (.ins a.cU dt f1)) e (.dK [])) hh (.bz [.ref e])) t=some (.ins a.cU dt f1):=by intro e hh f1 n1 n2;obtain⟨a1,_⟩:=jz n1;obtain⟨b1,b2⟩:=jz n2;obtain⟨b3,_⟩:=jz b2;rw[aF (eQ b3),aF (eQ a1)];exact au
  have Zod:∀{G:Hp}{sd:ao}{f2:List (Str×V)},(bp G t (.ins a.cU dt f2)) sd=none->(bp (bp G t (.ins a.cU dt f2)) sd (.dK [])) t=some (.ins a.cU dt f2):=by intro G sd f2 n;obtain⟨c1,_⟩:=jz n;rw[aF (eQ c1)];exact au
  rcases hfl with rfl|⟨x,y,z,u,rfl⟩
  ·refine⟨_,Z,_,Z,t,_,dt,_,Z,ht,T.dQ,T.mY,(ND 0),?_⟩;intro e n1;refine⟨(mr 1),fun hh n2=> ⟨_,Z,t,_,dt,_,Z,tat n1 n2,T.dQ,T.i6,(ND 1),?_⟩⟩;intro sd n3;refine⟨_,Z,t,_,dt,_,Z,Zod n3,T.dQ,T.dC,(ND 2),?_⟩;exact⟨_,Z,t,_,dt,_,Z,au,T.dQ,T.jw,(ND 3),tS e hh sd _ _ _ _ n1 n2 n3 Z⟩
  ·refine⟨_,Z,_,Z,t,_,dt,_,Z,ht,T.dQ,T.mY,(ND 4),?_⟩;intro e n1;refine⟨(mr 1),fun hh n2=> ⟨_,Z,t,_,dt,_,Z,tat n1 n2,T.dQ,T.i6,(ND 4),?_⟩⟩;intro sd n3;refine⟨_,Z,t,_,dt,_,Z,Zod n3,T.dQ,T.dC,(ND 4),?_⟩;exact⟨_,Z,t,_,dt,_,Z,au,T.dQ,T.jw,(ND 4),tS e hh sd _ _ _ _ n1 n2 n3 Z⟩
inductive ZcO(a:cV)(vs:LV)(H:Hp)(Q:VK)(_:XK):Prop
 |mk (t dt:ao) (_:vs=[.ref t]) (_:H t=some (.ins a.cU dt [])) (_:ZiM a t dt .ik H Q)
theorem QC(T:il K mg a):WD P w K mg base 2 a.cU "Table" wJ (ZcO a):=by
 refine⟨a.wM,a.FR,T.Gm.ok0 Pw (fun vs H Q E h=>?_) (fun la A bC s H vs Q E hr h=>?_),T.Zer,T.Zhf,T.Gm.b1⟩
 ·obtain⟨t,dt,rfl,_⟩:=h;rfl
 ·obtain⟨t,dt,rfl,ht,k⟩:=h;refine⟨_,aq (dm (fD (pv 0) (DK T) hr bh (ag oZ az))),?_⟩;exact⟨_,Z,t,dt,_,Z,ht,Z,t,dt,_,_,Z,ht,.inl Z,k⟩
theorem Wd.ZmQ{F:Fr}{H H':Hp}{t dt e hh sd:ao}{v:V}{sch:Option Zvn}{n:Nat}(zF:jJ F H)(gt:F.G t=none)(lt:F.L t=none)(ne:H e=none)(nhh:H hh=none)(nsd:H sd=none)(q1:e≠t)(q2:hh≠t)(q3:sd≠t)(q4:e≠hh)(q5:e≠sd)(q6:hh≠sd) (e1:H' t=some (.ins a.cU dt (lP.zip [v,.ref hh,.ref sd,.int 0])))(e2:H' e=some (.dK []))(e3:H' hh=some (.bz [.ref e]))(e4:H' sd=some (.dK []))(oth:∀b,b≠t->b≠e->b≠hh->b≠sd->H' b=H b)(hv:KO a F sch v)(hc:F.Zvl.length<=n):Wd a (F.ER e (.dK [])) H' (fun b=>if b=t then some .t else if b=hh then some .h else if b=sd then some .d else none) t (A3 sch) n:=by
 have z1:jJ F H':=zF.chg fun b h=>oth b (fun z=>by rw[z,gt,lt]at h;rcases h with h|h<;>exact h rfl) (fun z=>by rw[z,zF.g0 ne,zF.l0 ne]at h;rcases h with h|h<;>exact h rfl) (fun z=>by rw[z,zF.g0 nhh,zF.l0 nhh]at h;rcases h with h|h<;>exact h rfl) (fun z=>by rw[z,zF.g0 nsd,zF.l0 nsd]at h;rcases h with h|h<;>exact h rfl);have le:Le F (F.ER e (.dK [])):=Le.ER (zF.g0 ne);refine⟨z1.ER (zF.l0 ne) e2,fun b x h=>?_,hc,dt,hh,sd,v,[.ref e],[],ak Z,?_,?_,e1,e3,e4,hv.le le,.cons ⟨e,[],Z,Fr.om,.nil⟩ .nil,?_,bB _,fun m=>trivial⟩
 ·have gl:∀p,p≠e->(F.ER e (.dK [])).G p=F.G p:=fun p h=>aF h;by_cases z:b=t
  ·subst z;exact⟨by rw[e1];exact fun u=> (by cases u),by rw[gl _ (eQ q1)];exact gt,lt⟩
  ·by_cases z2:b=hh
   ·subst z2;exact⟨by rw[e3];exact fun u=> (by cases u),by rw[gl _ (eQ q4)];exact zF.g0 nhh,zF.l0 nhh⟩
   ·by_cases z3:b=sd
    ·subst z3;exact⟨by rw[e4];exact fun u=> (by cases u),by rw[gl _ (eQ q5)];exact zF.g0 nsd,zF.l0 nsd⟩
    ·rw[ah z,ah z2,ah z3]at h;cases h
 ·try dsimp only
  rw[ah q2,ak Z]
 ·try dsimp only
  rw[ah q3,ah (eQ q6),ak Z]
 ·show 1<=n+1;omega
def ZmR(_:bD)(c:cX):Prop:=c.num=0
theorem IX(T:il K mg a):iW P w K mg base 60 "answer_schema" xJ (lQ a ZmR pS0):=by
 refine cI T.xV T.xT T.xV.b2 vE ?_
 ·lk;obtain⟨t,cv,S,ow,F,i,c,n,rfl,W,hS,hc,ok,hG,hn,hp,k⟩:=h;have nd:=vE.nd;refine⟨_,ai (Zec (Ec:=fun H'=>aS H H'/\md c.text=none) (tb:=Zbs (Jo (WX K a) [] (fun c' _ H'=>c'= .ref a.g9/\(aS H H'/\md c.text=none)) (nO (Pb K (m7 1) "text") yD)) (BX 2)) (ts:=Zbr (ZgE (nO (tC (.int (-1))) yD))) T.bt Z Z Z Z (fun pn=>by exact aq (bq (i:=2) nd (ba (NQ T) hr (Ziv Z Z Z) (ag (aI (pv 1) Z) az)))) (fun e=>by exact aq (aN (dO (ag (aP T.Al) az))))) (ai (dm (fD (pv 0) (DK T) hr bh (ag (pv 2) az))) (aq (aN (dO (ag bL az))))),?_⟩;walk;obtain⟨dt,hh,sd,sv,Bv,br,o1,o2,o3,h1,h2,h3,h4,h5,h6,h7,h8⟩:=W.Yo;obtain⟨y,dy,cq,ct,rfl,c1,c2,c3⟩:=hc;have zF:=W.fz;have hcG:=W.cG;obtain⟨f1,f2,f3⟩:=W.free t _ o1;have gk:∀x∈F.Zvl,x∈F.Zvl\/x.1=(i:Int):=fun x h=> .inl h;refine⟨⟨_,Z,y,_,dy,_,_,Z,zF.sub _ _ c1,T.cY,T.nZ,Z,ct,c.text,Z,zF.sub _ _ c3,ok.2.2.2,?_⟩,fun σ' H' jL ⟨s1,en⟩=>?_⟩
  ·cases e:md c.text with
   |none=>exact fun H' s=> ⟨Z,s,Z⟩
   |some fs=>
    intro v H1 s1 hv;obtain⟨x1,z1⟩:=iG.add zF s1;have hv1:gi a (Add F.G H H1) fs v:=hv.same Add.new;have g1:Add F.G H H1 t=none:=(x1.gn t f1).trans f2;refine⟨_,Z,t,dt,_,Z,s1 _ _ h1,Z,_,Z,t,dt,_,v,Z,s1 _ _ h1,.inr ⟨_,_,_,_,Z⟩,fun H' e' hh' sd' ne nhh nsd q1 q2 q3 q4 q5 q6 e1 e2 e3 e4 oth=>?_⟩;have W2:Wd a _ H' _ t (A3 (some fs)) (n+1):=Wd.ZmQ (a:=a) (F:=⟨Add F.G H H1,F.L,F.Zvl⟩) z1 g1 f3 ne nhh nsd q1 q2 q3 q4 q5 q6 e1 e2 e3 e4 oth hv1 (by show F.Zvl.length<=_;omega);have ep:pS0 S c=(A3 (some fs),[0]):=by unfold pS0;rw[e]
    rw[ep]at k;refine⟨(mr 1),fun q hq=>k.tS W2 ?_ gk hq⟩;refine(x1.toiT.mov ow).trans ⟨Le.ER (z1.g0 ne),fun b o h l w=>?_,fun b h=>?_,fun b h=>?_,fun _ _=>rfl,fun b h w=>?_⟩
    ·rw[oth b (fun z=>by rw[z,o1]at w;cases w) (aR h ne) (aR h nhh) (aR h nsd)];exact h
    ·obtain⟨o,h⟩:=rP h;by_cases z:b=t
     ·rw[z,e1];exact fun u=>by cases u
     ·rw[oth b z (aR h ne) (aR h nhh) (aR h nsd),h];exact fun u=>by cases u
    ·obtain⟨o,h⟩:=rP h;exact aF (aR h ne)
    ·obtain⟨o,h⟩:=rP h;rw[ah (fun z=>by rw[z,o1]at w;cases w),ah (aR h nhh),ah (aR h nsd)]
  ·exact⟨(mr 1),fun q hq=>k.one (by unfold pS0;rw[en]) W (iG.same s1).toiT (zF.same s1) (by omega) gk hq⟩
end
theorem R7(k:i5):∀(br:List (i5×V))(j:i5),iV (oQ br k) j=if j=k then none else iV br j
 |[],j=>by unfold oQ iV;split<;>rfl
 |p::r,j=>by
  have ih:=R7 k r j;unfold oQ at ih⊢;by_cases e:p.1=k
  ·rw[oE (by simp[e]),ih];by_cases z:j=k
   ·rw[ak z,ak z]
   ·rw[ah z,ah z,iR (fun y=>z (by rw[<-y,e]))]
  ·rw[oF (by simp[e])];by_cases y:p.1=j
   ·rw[jd y,jd y,ah (fun z=>e (by rw[y,z]))]
   ·rw[iR y,ih,iR y]
theorem ZcP(br:List (i5×V))(k:i5):(oQ br k).length<=br.length:=iB _ _
theorem ZfF(br:List (i5×V))(k:i5)(v:V):(lW br k v).length<=br.length+1:=by
 unfold lW;split
 ·rw[aZ];omega
 ·rw[aX];simp
section
variable{a:cV}{F F':Fr}{H H':Hp}{ow EE:ao->Option uF}
def ZG(H:Hp)(ow:ao->Option uF)(n:Int)(H':Hp)(EE:ao->Option uF):Prop:=∀m b x,m≠n->ow b=some x->(x= .s m\/x= .l m)->H' b=H b/\EE b=some x
theorem XU{S:bD}{br:List (i5×V)}{n:Int}{s:hJ}{v:V}(h:∀m,eO a F H ow m (S.fg m) (iV br (aQ m)))(le:Le F F')(o:ZG H ow n H' EE)(hv:iV br (aQ n)=some v)(new:A4 a F' H' EE n s v):∀m,eO a F' H' EE m (pF S.fg n (some s) m) (iV br (aQ m)):=fun m=>by
 unfold pF;by_cases e:m=n
 ·subst e;rw[ak Z,hv];exact new
 ·rw[ah e];exact eO.to le (fun b x h1 h2=>o m b x e h1 h2) (h m)
theorem ZfG{S:bD}{br:List (i5×V)}{n:Int}{s:hJ}{v:V}(h:∀m,eO a F H ow m (S.fg m) (iV br (aQ m)))(le:Le F F')(o:ZG H ow n H' EE)(new:A4 a F' H' EE n s v):∀m,eO a F' H' EE m (pF S.fg n (some s) m) (iV (lW br (aQ n) v) (aQ m)):=fun m=>by
 rw[Vz];unfold pF;by_cases e:m=n
 ·subst e;rw[ak Z,ak Z];exact new
 ·rw[ah e,ah (fun z=>e (IC.mp z))];exact eO.to le (fun b x h1 h2=>o m b x e h1 h2) (h m)
theorem ZcQ{S:bD}{br:List (i5×V)}{n:Int}(h:∀m,eO a F H ow m (S.fg m) (iV br (aQ m)))(le:Le F F')(o:ZG H ow n H' EE):∀m,eO a F' H' EE m (pF S.fg n none m) (iV (oQ br (aQ n)) (aQ m)):=fun m=>by
 rw[R7];unfold pF;by_cases e:m=n
 ·subst e;rw[ak Z,ak Z];trivial
 ·rw[ah e,ah (fun z=>e (IC.mp z))];exact eO.to le (fun b x h1 h2=>o m b x e h1 h2) (h m)
theorem j8{ow:ao->Option uF}{b c:ao}{x y:uF}(h1:ow b=some x)(h2:ow c=some y)(n:x≠y):b≠c:=fun z=>by rw[z,h2]at h1;exact n (af h1).symm
end
section
inductive ZH(a:cV)(vs:LV)(H:Hp)(Q:VK)(_:XK):Prop
 |mk (x dx:ao) (v:V) (_:vs=[.ref x,v]) (_:H x=some (.ins a.eB dx [])) (_:∀sl,H sl=none->Q .ik (bp (bp H sl (.bz [])) x (.ins a.eB dx (gX.zip [v,.ref sl]))))
theorem Lw(T:il K mg a):WD P w K mg base 1 a.eB "Session" sS (ZH a):=by
 refine⟨a.sY,a.zX,T.Ar.ok0 La (fun vs H Q E h=>?_) (fun la A bC s H vs Q E hr h=>?_),T.Zf,T.Zb3,T.Ar.b2⟩
 ·obtain⟨x,dx,v,rfl,_⟩:=h;rfl
 ·obtain⟨x,dx,v,rfl,hx,k⟩:=h;refine⟨_,ai (dr (pv 0) (pv 1) Z) (aq (dr (pv 0) (dO az) Z)),?_⟩;walk;refine⟨_,Z,_,Z,x,_,dx,_,Z,hx,T.eC,T.jv,(by exact ND 0),?_⟩;refine⟨(mr 0),fun sl nsl=>?_⟩;obtain⟨n,nH⟩:=jz nsl;refine⟨_,Z,x,_,dx,_,Z,(by rw[aF (eQ n)];exact au),T.eC,T.cO,(by exact ND 1),?_⟩;rw[GL (eQ n),fC];exact k sl nH
inductive ZpC(a:cV)(vs:LV)(H:Hp)(Q:VK)(_:XK):Prop
 |mk (sa dsa sl:ao) (rv dv:V) (ys:LV) (s:hJ) (d:dk) (F:Fr) (fs:Zvn) (_:vs=[.ref sa,dv]) (_:jJ F H) (_:H sa=some (.ins a.eB dsa (gX.zip [rv,.ref sl]))) (_:H sl=some (.bz ys)) (_:F.L sa=none) (_:F.L sl=none) (_:fJ a F s.base rv) (_:fL a F (fb s.base s.ds) ys) (_:tO a F d dv) (_:GF fs) (_:GR fs 60 s.base) (_:(∀d∈s.ds,GD fs d)) (_:GD fs d) (_:s.ds.length<=40) (_:∀q uG F' H1,iG F H F' H1->jJ F' H1->fL a F' (fb s.base (s.ds++[d])) uG->F'.G q=some (.bz ((jE (gu s.base s.ds) d).map V.int))->Q (.ref q) (bp H1 sl (.bz uG)))
theorem QD(T:il K mg a):Met P w K mg base 50 a.eB "do" Fy (ZpC a):=by
 refine⟨a.wL,a.FQ,T.Gk.ok0 Cz (fun vs H Q E h=>?_) (fun la A bC s H vs Q E hr h=>?_),T.eC,T.T6,T.Gk.b2⟩
 ·obtain⟨sa,dsa,sl,rv,dv,ys,s,d,F,fs,rfl,_⟩:=h;rfl
 ·obtain⟨sa,dsa,sl,rv,dv,ys,s,d,F,fs,rfl,zF,KU,wc,lsa,lsl,Sn,sr,hd,gf,gr,Ve,gd,LC,k⟩:=h;have nd:=Cz.nd;refine⟨_,ai (bq (i:=2) nd (ba (OA T) hr bh (ag (ba (oo T) hr bh (ag (aI (pv 0) Z) (ag (aI (pv 0) Z) az))) (ag (pv 1) az)))) (ai (dm (ui b9 cA cB jq (aI (pv 0) Z) (ag (pv 2) az))) (aq (aN (aI (pv 2) Z)))),?_⟩;walk;refine⟨_,Z,sa,_,dsa,_,_,Z,KU,T.eC,T.cO,Z,_,Z,sa,_,dsa,_,_,Z,KU,T.eC,T.jv,Z,sl,rv,ys,s.base,_,F,Z,zF,wc,sr,Sn,fun v hv=>?_⟩;rw[xj]at hv;have g1:GR fs 15000 (gu s.base s.ds):=(GR.all gf gr Ve).m8 (by omega);refine⟨_,Z,v,dv,_,d,F,fs,Z,zF,hv,hd,gf,g1,gd,fun u F1 H1 x1 z1 hu=>?_⟩;have Hw:=Paired.length sr;rw[gI]at Hw;have QK:=x1.ch _ _ wc lsl;have Z0:=x1.ch _ _ KU lsa;obtain⟨y,dy,dv',q,rv',rfl,y1,y2,y3,y4⟩:=id hu;refine⟨_,Z,sa,_,dsa,_,_,Z,Z0,T.eC,T.cO,Z,.inl ⟨Z,_,ft.of QK⟩,_,Z,sl,_,_,Z,Z,QK,mM (by omega),?_⟩;have ny:y≠sl:=fun z=>by have e:=z1.sub _ _ y1;rw[z,QK]at e;cases e
  refine⟨_,Z,y,_,dy,_,_,Z,by rw[aF ny];exact z1.sub _ _ y1,T.mW,T.jD,Z,?_⟩;refine k q (ys++[.ref y]) F1 H1 x1 z1 ?_ y3;rw[sj];exact i8 (F:=A0 a F1) hu (fL.le sr x1.le)
end
theorem OF{p:Nat->Bool}:∀(m k:Nat),(List.range' k m).find? p=none↔∀i,k<=i->i<k+m->p i=false
 |0,k=>by simp;intro i h1 h2;omega
 |m+1,k=>by
  rw[List.range'_succ,cT];cases e:p k with
  |true=>
   constructor
   ·intro h;cases h
   ·intro h;have:=h k (aC _) (by omega);rw[e]at this;cases this
  |false=>
   rw[OF m (k+1)];constructor
   ·intro h i h1 h2;by_cases z:i=k
    ·rw[z];exact e
    ·exact h i (by omega) (by omega)
   ·intro h i h1 h2;exact h i (by omega) (by omega)
theorem OG{p:Nat->Bool}{i:Nat}(h:p i=true):∀(m k:Nat),k<=i->i<k+m->(∀j,k<=j->j<i->p j=false)->(List.range' k m).find? p=some i
 |0,k,h1,h2,_=>by omega
 |m+1,k,h1,h2,h3=>by
  rw[List.range'_succ,cT];by_cases z:k=i
  ·subst z;rw[h]
  ·rw[h3 k (aC _) (by omega)];exact OG h m (k+1) (by omega) (by omega) fun j j1 j2=>h3 j (by omega) j2
theorem ZI{S:bD}{i:Nat}(hi:i<8)(h:S.fg (i:Int)=none)(k:∀j,j<i->S.fg (j:Int)≠none):KN S=some i:=by unfold KN;rw[List.range_eq_range'];refine OG (by rw[h];rfl) 8 0 (bB _) (by omega) fun j _ hj=>?_;obtain⟨s,e⟩:=rP (k j hj);rw[e];rfl
theorem ZJ{S:bD}(k:∀j:Nat,j<8->S.fg (j:Int)≠none):KN S=none:=by unfold KN;rw[List.range_eq_range',OF];intro i _ hi;obtain⟨s,e⟩:=rP (k i (by omega));rw[e];rfl
section
theorem Lx(T:il K mg a):iW P w K mg base 3 "answer_begin" zz (lQ a UK fun S _=>pS1 S):=by
 refine cI T.As T.An T.As.b2 xK ?_
 ·lk;obtain⟨t,cv,S,ow,F,i,c,n,rfl,W,hS,hc,ok,hG,hn,⟨fs,iZ⟩,k⟩:=h;have nd:=xK.nd;refine⟨_,ai (lC iw.never Z (QV Z T.Zay (ag (aP T.Lk) az)) (gW (i:=2) nd) (aq (bK (nN (o7 (jI hr) (pv 2) (aI (pv 0) Z))) (ai (E3 (jI hr) (aI (pv 0) Z) (pv 2) (ie (Lw T) hr bh (ag (du (pv 0) (iO T) hr bh) az)) Z) (aq (aN (dO (ag (pv 2) az))))) aL))) (aq (aN (dO (ag (aP T.Ei) az)))),?_⟩;walk;obtain⟨dt,hh,sd,sv,Bv,br,o1,o2,o3,h1,h2,h3,h4,h5,h6,h7,h8⟩:=id W.Yo;have zF:=W.fz;have hcG:=W.cG;have gk:∀x∈F.Zvl,x∈F.Zvl\/x.1=(i:Int):=fun x h=> .inl h;refine⟨8,Z,by decide,by decide,QW (lo:=0) (n:=(8:Int).toNat) (fun j σ H'=> ∃v,σ=[some (.ref t),some cv,v]/\H'=H/\∀m,m<j->S.fg (m:Int)≠none) ⟨none,Z,Z,fun m h=>by omega⟩ ?_ ?_⟩
  ·rintro j σ H' hj ⟨v,rfl,rfl,ZS⟩;walk;have hj8:j<8:=hj;rw[show(0:Int)+(j:Nat)=(j:Int) by omega];refine⟨_,Z,_,Z,t,_,dt,_,_,Z,h1,T.dQ,T.dC,Z,sd,_,Z,kx.k (k:=aQ (j:Int)) h3,_,Z,?_⟩;have h8j:=h8 (j:Int);cases es:S.fg (j:Int)with
   |some s=>
    rw[es]at h8j;obtain⟨x,ex,_⟩:=eO.has h8j;rw[ex];refine bx ⟨some (.int j),Z,Z,fun m hm=>?_⟩;by_cases z:m=j
    ·rw[z,es];exact fun u=>by cases u
    ·exact ZS m (by omega)
   |none=>
    rw[es]at h8j;have ev:=eO.ZiL h8j;rw[ev];refine bQ ⟨_,Z,t,dt,_,Z,h1,Z,t,S,ow,F,n,Z,W,hS.ne,fun u hu=>fun x dx nx ndx nex=> ⟨x,dx,_,Z,au,fun sl nsl=> ⟨Z,?_⟩⟩⟩;obtain⟨n1,n2⟩:=jz nsl;obtain⟨n3,n4⟩:=jz n2;rw[GL (eQ n1),fC];have s7:aS H' (bp (bp (bp H' dx (.own x)) sl (.bz [])) x (.ins a.eB dx (gX.zip [u,.ref sl]))):=fun b o e=>by rw[aF (aR e nx),aF (aR e n4),aF (aR e ndx)];exact e
    have e7:(bp (bp (bp H' dx (.own x)) sl (.bz [])) x (.ins a.eB dx (gX.zip [u,.ref sl]))) x=some (.ins a.eB dx (gX.zip [u,.ref sl])):=au;have f7:(bp (bp (bp H' dx (.own x)) sl (.bz [])) x (.ins a.eB dx (gX.zip [u,.ref sl]))) sl=some (.bz []):=by rw[aF n1];exact au
    generalize bp (bp (bp H' dx (.own x)) sl (.bz [])) x (.ins a.eB dx (gX.zip [u,.ref sl]))=H7 at s7 e7 f7⊢;have sdx:x≠sd:=fun z=>by rw[z,h3]at nx;cases nx
    have sds:sl≠sd:=fun z=>by rw[z,h3]at n4;cases n4
    have tx:t≠sd:=j8 o1 o3 (fun u=> (by cases u));have hx:hh≠sd:=j8 o2 o3 (fun u=> (by cases u));refine⟨_,Z,t,_,dt,_,_,Z,s7 _ _ h1,T.dQ,T.dC,Z,_,Z,sd,_,Z,K1.k (k:=aQ (j:Int)) (s7 _ _ h3) (mM (by omega)),?_⟩;refine⟨_,Z,(mr 1),fun q hq=>?_⟩;have ep:pS1 S=({S with fg:=pF S.fg (j:Int) (some ⟨iF S,[]⟩)},[(j:Int)]):=by unfold pS1;rw[ZI hj8 es ZS]
    have k2:IW a t S ow F i n (pS1 S) H' Q:=k;rw[ep]at k2;obtain⟨gsd,fsd⟩:=(W.free sd _ o3).2;have oth:∀b y,ow b=some y->b≠sd->(bp H7 sd (.dK (lW br (aQ (j:Int)) (.ref x)))) b=H' b:=fun b y h z=>by obtain⟨o,ho⟩:=rP (W.free b y h).1;rw[aF z,s7 _ _ ho,ho]
    have nox:∀b y,ow b=some y->b≠x:=fun b y h z=> (W.free b y h).1 (by rw[z];exact nx);have ZqR:∀b y,ow b=some y->b≠sl:=fun b y h z=> (W.free b y h).1 (by rw[z];exact n4);have W2:Wd a F (bp H7 sd (.dK (lW br (aQ (j:Int)) (.ref x)))) (fun b=>if b=x then some (.s (j:Int))else if b=sl then some (.l (j:Int))else ow b) t {S with fg:=pF S.fg (j:Int) (some ⟨iF S,[]⟩)} (n+1):=by
     have owk:∀b y,ow b=some y->(if b=x then some (uF.s (j:Int))else if b=sl then some (uF.l (j:Int))else ow b)=some y:=fun b y h=>by rw[ah (nox b y h),ah (ZqR b y h)];exact h
     refine⟨((zF.same s7).U1 gsd fsd),fun b y h=>?_,by omega,dt,hh,sd,sv,Bv,lW br (aQ (j:Int)) (.ref x),owk _ _ o1,owk _ _ o2,owk _ _ o3,by rw[oth _ _ o1 tx];exact h1,by rw[oth _ _ o2 hx];exact h2,au,h4,h5,by show S.gJ.length<=_;omega,by have:=ZfF br (aQ (j:Int)) (.ref x);omega,?_⟩
     ·by_cases z:b=x
      ·rw[z];exact⟨by rw[aF sdx,e7];exact fun u=> (by cases u),zF.g0 nx,zF.l0 nx⟩
      ·rw[ah z]at h;by_cases z2:b=sl
       ·rw[z2];exact⟨by rw[aF sds,f7];exact fun u=> (by cases u),zF.g0 n4,zF.l0 n4⟩
       ·rw[ah z2]at h;obtain⟨w1,w2,w3⟩:=W.free b y h;refine⟨?_,w2,w3⟩;by_cases z3:b=sd
        ·rw[z3,au];exact fun u=>by cases u
        ·rw[oth b y h z3];exact w1
     ·refine ZfG h8 (Le.refl F) (fun m b y hm h hy=> ⟨oth b y h (j8 h o3 (by rcases hy with rfl|rfl<;>exact fun u=> (by cases u))),owk b y h⟩) ⟨x,dx,sl,u,[],Z,ak Z,?_,by rw[aF sdx];exact e7,by rw[aF sds];exact f7,hu,.nil⟩;try dsimp only
      rw[ah n1,ak Z]
    refine k2.tS W2 (O1.chg (fun b h z=>?_) fun b h=>?_) gk hq
    ·obtain⟨o,ho⟩:=rP h;refine⟨by rw[aF (fun y=>by rw[y,o3]at z;cases z),s7 _ _ ho,ho],?_⟩;rw[ah (aR ho nx),ah (aR ho n4)];exact z
    ·obtain⟨o,ho⟩:=rP h;by_cases z:b=sd
     ·rw[z,au];exact fun u=>by cases u
     ·rw[aF z,s7 _ _ ho];exact fun u=>by cases u
  ·rintro σ H' ⟨v,rfl,rfl,ZS⟩;walk;exact⟨(mr 1),fun q hq=>k.one (by show pS1 S=_;unfold pS1;rw[ZJ fun j hj=>ZS j hj]) W (iT.refl F H') zF (by omega) gk hq⟩
end
theorem XW{H:Hp}{p:ao}{o:HO}(h:H p=some o):bp H p o=H:=by
 funext b;by_cases z:b=p
 ·subst z;rw[au,h]
 ·rw[aF z]
theorem ZfH{x:uF}{m n:Int}(h:x= .s m\/x= .l m)(k:m≠n):x≠ .s n:=by
 rcases h with rfl|rfl
 ·exact fun u=>k (uF.s.inj u)
 ·exact fun u=>by cases u
theorem ZfI{x:uF}{m n:Int}(h:x= .s m\/x= .l m)(k:m≠n):x≠ .l n:=by
 rcases h with rfl|rfl
 ·exact fun u=>by cases u
 ·exact fun u=>k (uF.l.inj u)
theorem iT.mm{a:cV}{F F1:Fr}{H H1:Hp}{ow:ao->Option uF}{t:ao}{S:bD}{n:Nat}(W:Wd a F H ow t S n)(x:iT F H F1 H1):∀b y,ow b=some y->H1 b=H b/\F1.G b=none/\F1.L b=none:=fun b y h=>by obtain⟨w1,w2,w3⟩:=W.free b y h;obtain⟨o,e⟩:=rP w1;obtain⟨q1,q2,q3⟩:=x.own e w3;exact⟨by rw[q1,e],by rw[q3];exact w2,q2⟩
theorem O1.put{F:Fr}{H:Hp}{ow:ao->Option uF}{p:ao}{y:uF}{o:HO}(h:ow p=some y):O1 F H ow F (bp H p o) ow:=O1.chg (fun b _ z=> ⟨aF fun e=> (by rw[e,h]at z;cases z),z⟩) fun b e=>by
 by_cases z:b=p
 ·rw[z,au];exact fun u=>by cases u
 ·rw[aF z];exact e
section
variable{a:cV}{F F1 F2:Fr}{H H1 H3:Hp}{ow:ao->Option uF}{t:ao}{S:bD}{n:Nat}{m:Int}{s':hJ}
theorem ZfJ{dt hh sd sa dsa sl:ao}{sv rv:V}{Bv uG:LV}{br:List (i5×V)}{nx:Nat}(W:Wd a F H ow t S n)(o1:ow t=some .t)(o2:ow hh=some .h)(o3:ow sd=some .d)(h2:H hh=some (.bz Bv))(h3:H sd=some (.dK br))(h4:KO a F S.sch sv)(h5:Paired (fJ a F) S.gJ Bv)(h6:S.gJ.length<=n+1)(h7:br.length<=n) (h8:∀m,eO a F H ow m (S.fg m) (iV br (aQ m)))(hv:iV br (aQ m)=some (.ref sa))(o4:ow sa=some (.s m))(o5:ow sl=some (.l m))(KU:H sa=some (.ins a.eB dsa (gX.zip [rv,.ref sl]))) (x1:iT F H F1 H1)(g1:F1.Zvl.length<=n+1)(x2:iG F1 (bp H1 t (.ins a.cU dt (lP.zip [sv,.ref hh,.ref sd,bV nx]))) F2 H3)(z2:jJ F2 H3)(hb:fJ a F s'.base rv)(sr:fL a F2 (fb s'.base s'.ds) uG):Wd a F2 (bp H3 sl (.bz uG)) ow t {S with next:=nx,fg:=pF S.fg m (some s')} (n+1)/\O1 F H ow F2 (bp H3 sl (.bz uG)) ow:=by
 have k1:=iT.mm W x1;have le:Le F F2:=x1.le.trans x2.le;have k2:∀b y,ow b=some y->H3 b=(bp H1 t (.ins a.cU dt (lP.zip [sv,.ref hh,.ref sd,bV nx]))) b/\F2.G b=none/\F2.L b=none:=fun b y h=>by
  obtain⟨q1,q2,q3⟩:=k1 b y h;have e:∃o,(bp H1 t (.ins a.cU dt (lP.zip [sv,.ref hh,.ref sd,bV nx]))) b=some o:=by
   by_cases z:b=t
   ·rw[z,au];exact⟨_,Z⟩
   ·rw[aF z,q1];exact rP (W.free b y h).1
  obtain⟨o,e⟩:=e;obtain⟨p1,p2,p3⟩:=x2.own e q3;exact⟨by rw[p1,e],by rw[p3];exact q2,p2⟩
 have k3:∀b y,ow b=some y->b≠t->b≠sl->(bp H3 sl (.bz uG)) b=H b:=fun b y h z1 z2=>by rw[aF z2,(k2 b y h).1,aF z1,(k1 b y h).1]
 have tsl:t≠sl:=j8 o1 o5 (fun u=> (by cases u));refine⟨⟨z2.U1 (k2 _ _ o5).2.1 (k2 _ _ o5).2.2,fun b y h=> ⟨?_,(k2 b y h).2.1,(k2 b y h).2.2⟩,by rw[x2.gm];exact g1,dt,hh,sd,sv,Bv,br,o1,o2,o3,?_,?_,?_,h4.le le,Paired.wm h5 fun _ _ q=>q.le le,by show S.gJ.length<=_;omega,by omega,?_⟩,?_⟩
 ·by_cases z:b=sl
  ·rw[z,au];exact fun u=>by cases u
  ·rw[aF z,(k2 b y h).1];by_cases z1:b=t
   ·rw[z1,au];exact fun u=>by cases u
   ·rw[aF z1,(k1 b y h).1];exact(W.free b y h).1
 ·rw[aF tsl,(k2 _ _ o1).1];exact au
 ·rw[k3 _ _ o2 (j8 o2 o1 (fun u=> (by cases u))) (j8 o2 o5 (fun u=> (by cases u)))];exact h2
 ·rw[k3 _ _ o3 (j8 o3 o1 (fun u=> (by cases u))) (j8 o3 o5 (fun u=> (by cases u)))];exact h3
 ·refine XU h8 le (fun m' b y hm h hy=> ⟨k3 b y h (j8 h o1 (by rcases hy with rfl|rfl<;>exact fun u=> (by cases u))) (j8 h o5 (ZfI hy hm)),h⟩) hv ⟨sa,dsa,sl,rv,uG,Z,o4,o5,?_,au,hb.le le,sr⟩;rw[k3 _ _ o4 (j8 o4 o1 (fun u=> (by cases u))) (j8 o4 o5 (fun u=> (by cases u)))];exact KU
 ·exact(((x1.mov ow).trans (O1.put o1)).trans (x2.toiT.mov ow)).trans (O1.put o5)
theorem XX{dt hh sd sa dsa q:ao}{sv rv':V}{Bv uG:LV}{br:List (i5×V)}(W:Wd a F H ow t S n)(o1:ow t=some .t)(o2:ow hh=some .h)(o3:ow sd=some .d)(h1:H t=some (.ins a.cU dt (lP.zip [sv,.ref hh,.ref sd,bV S.next])))(h2:H hh=some (.bz Bv))(h3:H sd=some (.dK br))(h4:KO a F S.sch sv)(h5:Paired (fJ a F) S.gJ Bv)(h6:S.gJ.length<=n+1)(h7:br.length<=n) (h8:∀m,eO a F H ow m (S.fg m) (iV br (aQ m)))(hv:iV br (aQ m)=some (.ref sa))(o4:ow sa=some (.s m)) (x1:iT F H F1 H1)(z1:jJ F1 H1)(g1:F1.Zvl.length<=n+1)(nq:H q=none)(gq:F1.G q=none)(lq:F1.L q=none)(hq:H1 q=some (.bz uG))(hb:fJ a F1 s'.base rv')(sr:fL a F1 (fb s'.base s'.ds) uG):Wd a F1 (bp H1 sa (.ins a.eB dsa (gX.zip [rv',.ref q]))) (fun b=>if b=q then some (.l m)else ow b) t {S with fg:=pF S.fg m (some s')} (n+1)/\O1 F H ow F1 (bp H1 sa (.ins a.eB dsa (gX.zip [rv',.ref q]))) (fun b=>if b=q then some (.l m)else ow b):=by
 have k1:=iT.mm W x1;have nqo:∀b y,ow b=some y->b≠q:=fun b y h z=> (W.free b y h).1 (by rw[z];exact nq);have owk:∀b y,ow b=some y->(if b=q then some (uF.l m)else ow b)=some y:=fun b y h=>by rw[ah (nqo b y h)];exact h
 have k3:∀b y,ow b=some y->b≠sa->(bp H1 sa (.ins a.eB dsa (gX.zip [rv',.ref q]))) b=H b:=fun b y h z=>by rw[aF z,(k1 b y h).1]
 have qsa:q≠sa:=eQ (nqo _ _ o4);refine⟨⟨z1.U1 (k1 _ _ o4).2.1 (k1 _ _ o4).2.2,fun b y h=>?_,g1,dt,hh,sd,sv,Bv,br,owk _ _ o1,owk _ _ o2,owk _ _ o3,?_,?_,?_,h4.le x1.le,Paired.wm h5 fun _ _ q=>q.le x1.le,by show S.gJ.length<=_;omega,by omega,?_⟩,?_⟩
 ·by_cases z:b=q
  ·rw[z];exact⟨by rw[aF qsa,hq];exact fun u=> (by cases u),gq,lq⟩
  ·rw[ah z]at h;refine⟨?_,(k1 b y h).2⟩;by_cases z2:b=sa
   ·rw[z2,au];exact fun u=>by cases u
   ·rw[k3 b y h z2];exact(W.free b y h).1
 ·rw[k3 _ _ o1 (j8 o1 o4 (fun u=> (by cases u)))];exact h1
 ·rw[k3 _ _ o2 (j8 o2 o4 (fun u=> (by cases u)))];exact h2
 ·rw[k3 _ _ o3 (j8 o3 o4 (fun u=> (by cases u)))];exact h3
 ·exact XU h8 x1.le (fun m' b y hm h hy=> ⟨k3 b y h (j8 h o4 (ZfH hy hm)),owk b y h⟩) hv ⟨sa,dsa,q,rv',uG,Z,owk _ _ o4,ak Z,au,by rw[aF qsa];exact hq,hb,sr⟩
 ·have M:O1 F H ow F1 (bp H1 sa (.ins a.eB dsa (gX.zip [rv',.ref q]))) ow:=(x1.mov ow).trans (O1.put o4);refine⟨M.le,M.keep,M.al,M.gn,M.ln,fun b h z=>?_⟩;obtain⟨o,e⟩:=rP h;rw[ah (aR e nq)];exact M.on b h z
theorem XY{dt hh sd:ao}{sv:V}{Zgd:LV}{br:List (i5×V)}{hist':List bN}(W:Wd a F H ow t S n)(o1:ow t=some .t)(o2:ow hh=some .h)(o3:ow sd=some .d)(h1:H t=some (.ins a.cU dt (lP.zip [sv,.ref hh,.ref sd,bV S.next])))(h4:KO a F S.sch sv)(h7:br.length<=n) (h8:∀m,eO a F H ow m (S.fg m) (iV br (aQ m)))(x1:iT F H F1 H1)(z1:jJ F1 H1)(g1:F1.Zvl.length<=n+1)(h5:Paired (fJ a F1) hist' Zgd)(h6:hist'.length<=n+2):Wd a F1 (bp (bp H1 hh (.bz Zgd)) sd (.dK (oQ br (aQ m)))) ow t {S with gJ:=hist',fg:=pF S.fg m none} (n+1)/\O1 F H ow F1 (bp (bp H1 hh (.bz Zgd)) sd (.dK (oQ br (aQ m)))) ow:=by
 have k1:=iT.mm W x1;have hs:hh≠sd:=j8 o2 o3 (fun u=> (by cases u));have k3:∀b y,ow b=some y->b≠hh->b≠sd->(bp (bp H1 hh (.bz Zgd)) sd (.dK (oQ br (aQ m)))) b=H b:=fun b y h z1 z2=>by rw[aF z2,aF z1,(k1 b y h).1]
 refine⟨⟨(z1.U1 (k1 _ _ o2).2.1 (k1 _ _ o2).2.2).U1 (k1 _ _ o3).2.1 (k1 _ _ o3).2.2,fun b y h=> ⟨?_,(k1 b y h).2⟩,g1,dt,hh,sd,sv,Zgd,oQ br (aQ m),o1,o2,o3,?_,?_,au,h4.le x1.le,h5,h6,by have:=ZcP br (aQ m);omega,?_⟩,?_⟩
 ·by_cases z:b=sd
  ·rw[z,au];exact fun u=>by cases u
  ·rw[aF z];by_cases z2:b=hh
   ·rw[z2,au];exact fun u=>by cases u
   ·rw[aF z2,(k1 b y h).1];exact(W.free b y h).1
 ·rw[k3 _ _ o1 (j8 o1 o2 (fun u=> (by cases u))) (j8 o1 o3 (fun u=> (by cases u)))];exact h1
 ·rw[aF hs];exact au
 ·exact ZcQ h8 x1.le fun m' b y hm h hy=> ⟨k3 b y h (j8 h o2 (by rcases hy with rfl|rfl<;>exact fun u=> (by cases u))) (j8 h o3 (by rcases hy with rfl|rfl<;>exact fun u=> (by cases u))),h⟩
 ·exact((x1.mov ow).trans (O1.put o2)).trans (O1.put o3)
end
theorem KP{p:Int}:∀{l:List (Int×PC)},(∀x∈l,x.1<p)->l.lookup p=none
 |[],_=>rfl
 |x::l,h=>by have:=h x aM;rw[dH,show(p==x.1)=false by simpa using(by omega:p≠x.1)];exact KP fun y hy=>h y (aG _ hy)
theorem ZcR{fs:Zvn}{c:cX}{next:Nat}{d:dk}(f:GF fs)(h:jX fs c (next:Int)=some d):GD fs d:=by
 unfold jX at h;split at h
 ·cases e:mP fs c.text with
  |none=>rw[e]at h;cases h
  |some v=>rw[e]at h;have h:dk.put (next:Int) (c.text,v)=d:=af h;rw[<-h];exact⟨⟨.put next v,rfl,rfl,e⟩,bB _⟩
 ·split at h
  ·cases e:gC (dP fs) c.text with
   |none=>rw[e]at h;cases h
   |some pc=>rw[e]at h;have h:dk.ask pc=d:=af h;rw[<-h];obtain⟨c',_,hc'⟩:=AY f.g e;exact⟨⟨.ask c',hc'⟩,AN e⟩
  ·split at h
   ·cases e:mP fs c.text with
    |none=>rw[e]at h;cases h
    |some v=>rw[e]at h;have h:dk.replace (c.eV.getD 1 0) (c.text,v)=d:=af h;rw[<-h];exact⟨⟨.replace _ v,Z,Z,e⟩,bB _⟩
   ·split at h
    ·rw[<-af h];exact⟨⟨.look _,Z⟩,bB _⟩
    ·rw[<-af h];exact⟨⟨.drop _,Z⟩,bB _⟩
def Ses(S:bD)(c:cX):Prop:=1<=Ym c.num/\∃fs s,S.sch=some fs/\S.fg (cf c)=some s
def ox(f:Zvn->hJ->bD->cX->bD×List Int)(S:bD)(c:cX):bD×List Int:=match S.sch,S.fg (cf c)with
 |some fs,some s=>f fs s S c
 |_,_=> (S,[])
theorem kE{f:Zvn->hJ->bD->cX->bD×List Int}{S:bD}{c:cX}{fs:Zvn}{s:hJ}(h1:S.sch=some fs)(h2:S.fg (cf c)=some s):ox f S c=f fs s S c:=by unfold ox;rw[h1,h2]
section
theorem OH(T:il K mg a):iW P w K mg base 60 "answer_deed" CA (lQ a (fun S c=>Ses S c/\2<=c.num/\c.num<=6) (ox pS2)):=by
 refine cI T.Dl T.Dh T.Dl.b2 zA ?_
 ·lk;obtain⟨t,cv,S,ow,F,i,c,n,rfl,W,hS,hc,ok,hG,hn,⟨⟨ZZ,fs,s,iZ,EF⟩,jc,ZW⟩,k⟩:=h;have nd:=zA.nd;refine⟨_,ai (bq (i:=2) nd (lX (jI hr) (aI (pv 0) Z) (iJ fi (aI (pv 1) Z) bL))) (ai (Zec (Ec:=fun H'=>aS H H'/\jX fs c (S.next:Int)=none) (tb:=Zbs (Jo (Ze6 K a) [] (fun c' _ H'=>c'= .ref a.g9/\(aS H H'/\jX fs c (S.next:Int)=none)) (nO (Pb K (m7 0) "schema") (nO (m7 1) (nO (Pb K (m7 0) "next_row") yD)))) (BX 3)) (ts:=Zbr (ZgE (nO (tC (.int (-1))) yD))) T.bt Z Z Z Z (fun pn=>by exact aq (bq (i:=3) nd (ba (Ut T) hr (Ziv Z Z Z) (ag (aI (pv 0) Z) (ag (pv 1) (ag (aI (pv 0) Z) az)))))) (fun e=>by exact aq (aN (dO (ag (aP T.Al) az))))) (ai (bK (bf Zil (rZ T (aI (pv 2) Z)) (aP T.T3) (bw _)) (aq (aN (dO (ag (aP T.Ll) az)))) aL) (ai (bK (bf gP (aI (pv 1) Z) (aP T.Rn) (bw _)) (aq (dr (pv 0) (iu kM (aI (pv 0) Z) bL) Z)) aL) (aq (aN (fD (pv 2) (QD T) hr bh (ag (pv 3) az))))))),?_⟩;walk;obtain⟨dt,hh,sd,sv,Bv,br,o1,o2,o3,h1,h2,h3,h4,h5,h6,h7,h8⟩:=id W.Yo;have qP:=hc;obtain⟨y,dy,cq,ct,rfl,c1,c2,c3⟩:=hc;have zF:=W.fz;have hcG:=W.cG;have gk:∀x∈F.Zvl,x∈F.Zvl\/x.1=(i:Int):=fun x h=> .inl h;rw[kE iZ EF]at k;have O5:=h8 (cf c);rw[EF]at O5;obtain⟨vs,Yb,DL⟩:=eO.has O5;obtain⟨sa,dsa,sl,rv,ys,rfl,o4,o5,KU,wc,Sn,sr⟩:=DL;have g:=kx.k (a:=sd) (k:=aQ (cf c)) h3;rw[Yb]at g;obtain⟨gf,Sq,OU⟩:=hS.gd fs iZ;obtain⟨gb,Ve,g40⟩:=OU _ _ EF;rw[iZ]at h4;have Hs:=zF.sub _ _ c1;refine⟨_,Z,t,_,dt,_,_,Z,h1,T.dQ,T.dC,Z,_,Z,y,_,dy,_,_,Z,Hs,T.cY,T.dB,Z,cq,_,_,_,Z,Z,ft.of (zF.sub _ _ c2),ou ok ZZ,sd,_,Z,g,?_⟩;refine⟨⟨_,Z,t,_,dt,_,_,Z,h1,T.dQ,T.mY,Z,_,Z,_,Z,t,_,dt,_,_,Z,h1,T.dQ,T.jw,Z,sv,_,(S.next:Int),fs,i,c,F,Z,zF,h4,gf.wf,qP,ok,jc,ZW,KP hG,by omega,?_⟩,fun σ' H' jL ⟨s1,en⟩=>?_⟩;rotate_left
  ·exact⟨(mr 1),fun q hq=>k.one (by unfold pS2;rw[en]) W (iG.same s1).toiT (zF.same s1) (by omega) gk hq⟩
  cases e:jX fs c (S.next:Int)with
  |none=>exact fun H' s=> ⟨Z,s,Z⟩
  |some d=>
  intro dv F1 H1 x1 z1 hd;have x01:iT F H F1 H1:=(iT.Zr (i:Int) d).trans x1.toiT;have k1:=iT.mm W x01;have g1:F1.Zvl.length<=n+1:=by rw[x1.gm];have:=Ze5 F (i:Int) d;omega
  have gk1:∀x∈F1.Zvl,x∈F.Zvl\/x.1=(i:Int):=fun x h=>by rw[x1.gm]at h;exact Zcz F (i:Int) d x h
  have Z0:H1 sa=_:=(k1 _ _ o4).1.trans KU;have QK:H1 sl=_:=(k1 _ _ o5).1.trans wc;have h11:H1 t=_:=(k1 _ _ o1).1.trans h1;have Hw:=Paired.length sr;rw[gI]at Hw;refine⟨_,Z,sa,_,dsa,_,_,Z,Z0,T.eC,T.cO,Z,sl,_,Z,.inl (ft.of QK),_,_,Z,Z,_,Z,?_⟩;by_cases Zie:40<=s.ds.length
  ·rw[aD (by omega:(40:Int)<=(ys.length:Int))];refine bQ ⟨(mr 1),fun q hq=>k.one ?_ W x01 z1 g1 gk1 hq⟩;unfold pS2;rw[e];fin2;rw[ak Zie]
  rw[ay (by omega:¬(40:Int)<=(ys.length:Int))];have ZqT:=z1.sub _ _ (x01.le.gs _ _ c1);refine bx ⟨_,Z,y,_,dy,_,_,Z,ZqT,T.cY,T.cj,Z,Z,_,Z,?_⟩;have ep:pS2 fs s S c=({S with next:=if c.num=2 then S.next+1 else S.next,fg:=pF S.fg (cf c) (some ⟨s.base,s.ds++[d]⟩)},jE (gu s.base s.ds) d):=by unfold pS2;rw[e];fin2;rw[ah Zie]
  rw[ep]at k;have gd:GD fs d:=ZcR gf e;have tsa:t≠sa:=j8 o1 o4 (fun u=> (by cases u));have tsl:t≠sl:=j8 o1 o5 (fun u=> (by cases u));have Zoe:=Sn.le x01.le;have Zgf:=fL.le sr x01.le;have tS:∀(nx:Nat),(if c.num=2 then S.next+1 else S.next)=nx->∀q uG F2 H3,iG F1 (bp H1 t (.ins a.cU dt (lP.zip [sv,.ref hh,.ref sd,bV nx]))) F2 H3->jJ F2 H3->fL a F2 (fb s.base (s.ds++[d])) uG->F2.G q=some (.bz ((jE (gu s.base s.ds) d).map V.int))->Q (.ref q) (bp H3 sl (.bz uG)):=by intro nx en q uG F2 H3 x2 z2 ZqU hq;rw[en]at k;obtain⟨W2,M⟩:=ZfJ (s':=⟨s.base,s.ds++[d]⟩) W o1 o2 o3 h2 h3 (by rw[iZ];exact h4) h5 h6 h7 h8 Yb o4 o5 KU x01 g1 x2 z2 Sn ZqU;exact k q F2 _ ow W2 M (fun x h=>gk1 x (by rw[<-x2.gm];exact h)) hq
  have zt:∀o,jJ F1 (bp H1 t o):=fun o=>z1.U1 (k1 _ _ o1).2.1 (k1 _ _ o1).2.2;by_cases Zif:c.num=2
  ·rw[show decide (bV c.num=V.int 2)=true by rw[Zif];rfl];refine bQ ⟨_,Z,t,_,dt,_,_,Z,h11,T.dQ,T.jw,Z,_,_,Z,Z,_,Z,t,_,dt,_,Z,h11,T.dQ,T.jw,(ND 4),?_⟩;refine⟨_,Z,sa,dsa,_,Z,by rw[aF (eQ tsa)];exact Z0,Z,_,Z,sa,dsa,sl,rv,dv,ys,s,d,F1,fs,Z,zt _,by rw[aF (eQ tsa)];exact Z0,by rw[aF (eQ tsl)];exact QK,(k1 _ _ o4).2.2,(k1 _ _ o5).2.2,Zoe,Zgf,hd,gf,gb,Ve,gd,g40,?_⟩;exact tS (S.next+1) (by rw[ak Zif])
  ·rw[show decide (bV c.num=V.int 2)=false from pB Zif];refine bx ⟨_,Z,sa,dsa,_,Z,Z0,Z,_,Z,sa,dsa,sl,rv,dv,ys,s,d,F1,fs,Z,z1,Z0,QK,(k1 _ _ o4).2.2,(k1 _ _ o5).2.2,Zoe,Zgf,hd,gf,gb,Ve,gd,g40,?_⟩;have:=tS S.next (by rw[ah Zif]);rw[XW h11]at this;exact this
end
theorem ZfK(ys:LV){k:Int}(h0:0<=k)(hl:k<=(ys.length:Int)):K0 ys none (some k)=ys.take k.toNat:=by obtain⟨m,rfl⟩:∃m:Nat,k=(m:Int):=⟨k.toNat,by omega⟩;unfold K0;rw[HT.Bb,HT.ZdR,ib,Nat.sub_zero,lz (by omega),mi]
theorem Paired.take{α β:Type}{R:α->β->Prop}:∀{l:List α}{m:List β}(k:Nat),Paired R l m->Paired R (l.take k) (m.take k)
 |_,_,0,_=>by rw[kr,kr];exact .nil
 |_,_,k+1,.nil=> .nil
 |_,_,k+1,.cons p t=>by rw[gx,gx];exact .cons p (Paired.take k t)
section
theorem OI(T:il K mg a):iW P w K mg base 1 "answer_undo" CB (lQ a (fun S c=>Ses S c/\2<=Ym c.num) (ox fun _=>pS7)):=by
 refine cI T.Dm T.Di T.Dm.b2 zB ?_
 ·lk;obtain⟨t,cv,S,ow,F,i,c,n,rfl,W,hS,hc,ok,hG,hn,⟨⟨ZZ,fs,s,iZ,EF⟩,jc⟩,k⟩:=h;have nd:=zB.nd;refine⟨_,ai (bq (i:=2) nd (lX (jI hr) (aI (pv 0) Z) (iJ fi (aI (pv 1) Z) bL))) (ai (bq (i:=3) nd (iJ fi (aI (pv 1) Z) bL)) (ai (bK (yA (bf Jl (pv 3) bL (bw _)) (uJ (bf oP (pv 3) (rZ T (aI (pv 2) Z)) (bw _)))).pt (aq (aN (dO (ag (aP T.mX) az)))) aL) (ai (dr (pv 2) (vp Bc (aI (pv 2) Z) Zaf (pO (pv 3))) Z) (aq (aN (dO (ag (pv 3) az))))))),?_⟩;walk;obtain⟨dt,hh,sd,sv,Bv,br,o1,o2,o3,h1,h2,h3,h4,h5,h6,h7,h8⟩:=id W.Yo;obtain⟨y,dy,cq,ct,rfl,c1,c2,c3⟩:=hc;have zF:=W.fz;have hcG:=W.cG;have gk:∀x∈F.Zvl,x∈F.Zvl\/x.1=(i:Int):=fun x h=> .inl h;rw[kE iZ EF]at k;have O5:=h8 (cf c);rw[EF]at O5;obtain⟨vs,Yb,DL⟩:=eO.has O5;obtain⟨sa,dsa,sl,rv,ys,rfl,o4,o5,KU,wc,Sn,sr⟩:=DL;have g:=kx.k (a:=sd) (k:=aQ (cf c)) h3;rw[Yb]at g;have Hs:=zF.sub _ _ c1;have c2H:=zF.sub _ _ c2;have Hw:=Paired.length sr;rw[gI]at Hw;refine⟨_,Z,t,_,dt,_,_,Z,h1,T.dQ,T.dC,Z,_,Z,y,_,dy,_,_,Z,Hs,T.cY,T.dB,Z,cq,_,_,_,Z,Z,ft.of c2H,ou ok ZZ,sd,_,Z,g,?_⟩;refine⟨_,Z,y,_,dy,_,_,Z,Hs,T.cY,T.dB,Z,cq,_,_,_,Z,Z,ft.of c2H,XS ok jc,?_⟩;refine⟨_,Z,_,_,Z,Z,_,Z,?_⟩;by_cases UQ:fB c<0
  ·rw[aD UQ];exact bQ (bQ ⟨(mr 1),fun q hq=>k.one (by unfold pS7;rw[ak (.inl UQ)]) W (iT.refl F H) zF (by omega) gk hq⟩)
  rw[ay UQ];refine bx ⟨_,Z,_,Z,sa,_,dsa,_,_,Z,KU,T.eC,T.cO,Z,sl,_,Z,.inl (ft.of wc),_,_,Z,Z,_,Z,?_⟩;by_cases Zda:(s.ds.length:Int)<fB c
  ·rw[aD (by omega:(ys.length:Int)<fB c)];exact bQ ⟨(mr 1),fun q hq=>k.one (by unfold pS7;rw[ak (.inr Zda)]) W (iT.refl F H) zF (by omega) gk hq⟩
  rw[ay (by omega:¬(ys.length:Int)<fB c)];have ep:pS7 s S c=({S with fg:=pF S.fg (cf c) (some ⟨s.base,s.ds.take (fB c).toNat⟩)},[fB c]):=by unfold pS7;rw[ah (by intro h;rcases h with h|h<;>omega)]
  rw[ep]at k;refine bx ⟨_,Z,sa,_,dsa,_,_,Z,KU,T.eC,T.cO,Z,_,Z,_,Z,sl,_,Z,ft.of wc,fun q nq=>?_⟩;rw[ZfK ys (by omega) (by omega)];obtain⟨x1,z1⟩:=iG.tmp (o:= .bz (ys.take (fB c).toNat)) zF nq;have hq1:= @au H q (.bz (ys.take (fB c).toNat));have gq:=zF.g0 nq;have lq:=zF.l0 nq;generalize bp H q (.bz (ys.take (fB c).toNat))=H1 at x1 z1 hq1;refine⟨_,Z,sa,_,dsa,_,Z,(iT.mm W x1.toiT _ _ o4).1.trans KU,T.eC,T.cO,(ND 2),?_⟩;obtain⟨W2,M⟩:=XX (s':=⟨s.base,s.ds.take (fB c).toNat⟩) (dsa:=dsa) W o1 o2 o3 h1 h2 h3 h4 h5 h6 h7 h8 Yb o4 x1.toiT z1 (by omega) nq gq lq hq1 Sn (by rw[UG];exact Paired.take _ sr);exact⟨_,Z,(mr 1),fun q' hq'=>k.tS W2 M gk hq'⟩
inductive Zku(a:cV)(vs:LV)(H:Hp)(Q:VK)(_:XK):Prop
 |mk (sa dsa sl:ao) (rv cv:V) (ys:LV) (s:hJ) (mode:Int) (ji:bN) (F:Fr) (fs:Zvn) (_:vs=[.ref sa,.int mode,cv]) (_:jJ F H) (_:H sa=some (.ins a.eB dsa (gX.zip [rv,.ref sl]))) (_:H sl=some (.bz ys)) (_:F.L sl=none) (_:fJ a F s.base rv) (_:fL a F (fb s.base s.ds) ys) (_:fJ a F ji cv) (_:GF fs) (_:GR fs 60 ji) (_:(∀d∈s.ds,GD fs d)) (_:s.ds.length<=40) (_:match DH s mode ji with|none=> ∀F' H',iG F H F' H'->jJ F' H'->Q .ik H'|some rs=> ∀v F' H',iG F H F' H'->jJ F' H'->fJ a F' rs v->Q v H')
theorem Hf(T:il K mg a):iW P w K mg base 52 "rows_left" zC (Zku a):=by
 refine cI T.Kl T.WB T.Kl.b3 Td ?_
 ·lk;obtain⟨sa,dsa,sl,rv,cv,ys,s,mode,ji,F,fs,rfl,zF,KU,wc,lsl,Sn,sr,Zgc,gf,gr,Ve,LC,k⟩:=h;refine⟨_,ai (bK (bf gP (pv 1) (aP T.WA) (bw _)) (aq (aN (ba (yn T) hr bh (ag (aI (pv 0) Z) (ag (pv 2) az))))) aL) (aq (aN (ba (A2 T) hr bh (ag (aI (pv 0) Z) (ag (aI (pv 0) Z) (ag (pv 2) az)))))),?_⟩;walk;refine⟨_,Z,Z,_,Z,?_⟩;have hll:=gI s.ds s.base;have ZuB:=gr.len;by_cases hm:mode=1
  ·rw[show decide (V.int mode=V.int 1)=true by rw[hm];rfl];refine bQ ⟨_,Z,sa,_,dsa,_,_,Z,KU,T.eC,T.cO,Z,_,Z,sl,cv,ys,ji,_,F,fs,60,Z,zF,wc,lsl,sr,Zgc,gf,gr,fun x hx=>Ve _ ?_,by omega,fun F' H' x z=>?_⟩
   ·have:=Hu (f:=fun x:jY=>x.d) hx;rw[jF]at this;exact this
   ·rw[jF,kl,hll];unfold DH UH at k;rw[ak hm]at k;unfold iN at k;by_cases hb:lO (fK s.base s.ds) (fK ji s.ds)<s.ds.length
    ·rw[ak hb]at k⊢;exact k F' H' x z
    ·rw[ah hb]at k⊢;exact fun v hv=>k v F' H' x z hv
  ·rw[show decide (V.int mode=V.int 1)=false from ay (fun z=>hm (by injection z))];refine bx ⟨_,Z,sa,_,dsa,_,_,Z,KU,T.eC,T.cO,Z,_,Z,sa,_,dsa,_,_,Z,KU,T.eC,T.jv,Z,_,Z,sl,rv,cv,ys,s.base,ji,_,F,Z,zF,wc,lsl,sr,Sn,Zgc,by omega,?_⟩;unfold DH tR at k;rw[ah hm]at k;rw[xj];cases e:vd s.base ji (gu s.base s.ds) (uE (fb s.base s.ds)) ji with
   |none=>rw[e]at k;exact fun H' x z=>k F H' x z
   |some rs=>rw[e]at k;exact k
end
section
theorem QE(T:il K mg a):iW P w K mg base 60 "answer_why" FA (lQ a Ses (ox fun _ s S _=>pS8 s S)):=by
 refine cI T.Gn T.Gi T.Gn.b2 CC ?_
 ·lk;obtain⟨t,cv,S,ow,F,i,c,n,rfl,W,hS,hc,ok,hG,hn,⟨ZZ,fs,s,iZ,EF⟩,k⟩:=h;have nd:=CC.nd;refine⟨_,ai (bq (i:=2) nd (lX (jI hr) (aI (pv 0) Z) (iJ fi (aI (pv 1) Z) bL))) (ai (bq (i:=3) nd (du (pv 0) (iO T) hr bh)) (ai (bq (i:=4) nd (ba (ot T) hr bh (ag (aI (pv 2) Z) (ag (ba (oq T) hr bh (ag (aI (pv 2) Z) (ag (pv 3) az))) az)))) (ai (bq (i:=5) nd (yB (bf gP (pv 4) (rZ T (aI (pv 2) Z)) (bw _)) bL bL)) (ai (bq (i:=6) nd (yB (nN (Z8 (ba (Hf T) hr bh (ag (pv 2) (ag (aP T.Zax) (ag (pv 3) az)))))) bL bL)) (aq (aN (dO (ag (pv 5) (ag (pv 6) (ag (pv 4) az)))))))))),?_⟩;walk;obtain⟨dt,hh,sd,sv,Bv,br,o1,o2,o3,h1,h2,h3,h4,h5,h6,h7,h8⟩:=id W.Yo;obtain⟨y,dy,cq,ct,rfl,c1,c2,c3⟩:=hc;have zF:=W.fz;have hcG:=W.cG;rw[kE iZ EF]at k;have O5:=h8 (cf c);rw[EF]at O5;obtain⟨vs,Yb,DL⟩:=eO.has O5;obtain⟨sa,dsa,sl,rv,ys,rfl,o4,o5,KU,wc,Sn,sr⟩:=DL;have g:=kx.k (a:=sd) (k:=aQ (cf c)) h3;rw[Yb]at g;have Hs:=zF.sub _ _ c1;have c2H:=zF.sub _ _ c2;obtain⟨gf,Sq,OU⟩:=hS.gd fs iZ;obtain⟨gb,Ve,g40⟩:=OU _ _ EF;have Z1:=Sq _ (Bt hS.ne);have hll:=gI s.ds s.base;have Hw:=Paired.length sr;have lsl:=(W.free sl _ o5).2.2;refine⟨_,Z,t,_,dt,_,_,Z,h1,T.dQ,T.dC,Z,_,Z,y,_,dy,_,_,Z,Hs,T.cY,T.dB,Z,cq,_,_,_,Z,Z,ft.of c2H,ou ok ZZ,sd,_,Z,g,?_⟩;refine⟨_,Z,t,dt,_,Z,h1,Z,t,S,ow,F,n,Z,W,hS.ne,fun nv hnv=>?_⟩;have gdl:∀x∈fb s.base s.ds,GD fs x.d:=fun x hx=>by have:=Hu (f:=fun x:jY=>x.d) hx;rw[jF]at this;exact Ve _ this
  refine⟨_,Z,sa,_,dsa,_,_,Z,KU,T.eC,T.cO,Z,_,Z,sa,_,dsa,_,_,Z,KU,T.eC,T.cO,Z,_,Z,sl,nv,ys,_,_,F,fs,60,Z,zF,wc,lsl,sr,hnv,gf,Z1,gdl,by omega,fun q zs F1 H1 x1 z1 nq gq lq hq Yt=>?_⟩;rw[jF]at Yt;have k1:=iT.mm W x1.toiT;refine⟨sl,q,ys,zs,_,_,F1,Z,z1,(k1 _ _ o5).1.trans wc,hq,fL.le sr x1.le,Yt,by rw[gI,gI],fun H2 s2=>?_⟩;rw[kl,kl];have z2:=z1.same s2;have x2:=x1.trans (iG.same (F:=F1) s2);have k2:=iT.mm W x2.toiT;have Zgg:H2 sa=_:=(k2 _ _ o4).1.trans KU;have Zgb:H2 sl=_:=(k2 _ _ o5).1.trans wc;have hnl:DH s 0 (iF S)=tR s (iF S):=by unfold DH;rw[ah (by decide)]
  have tS:∀(b1:Int),b1=(if iN s (iF S)=s.ds.length then 1 else 0)->∀(b2:Int),b2=(if(tR s (iF S)).isSome=true then 1 else 0)->∀F3 H3,iG F1 H2 F3 H3->jJ F3 H3->∀q',H3 q'=none->Q (.ref q') (bp H3 q' (.bz [.int b1,.int b2,.int ((iN s (iF S):Nat):Int)])):=by intro b1 e1 b2 e2 F3 H3 x3 z3 q' nq';obtain⟨x4,z4⟩:=iG.new (o:= .bz [.int b1,.int b2,.int ((iN s (iF S):Nat):Int)]) z3 nq';have x5:=(x2.trans x3).trans x4;refine k.same (l:=[b1,b2,(iN s (iF S):Int)]) (by unfold pS8;rw[e1,e2]) W x5.toiT z4 (by rw[x5.gm];omega) (fun x h=> .inl (by rw[<-x5.gm];exact h)) Fr.om
  refine⟨_,Z,_,Z,sa,_,dsa,_,_,Z,Zgg,T.eC,T.cO,Z,sl,_,Z,.inl (ft.of Zgb),Z,_,Z,?_⟩;rw[<-Hw,hll];show if decide (V.int ((iN s (iF S):Nat):Int)=V.int ((s.ds.length:Nat):Int))=true then _ else _;by_cases hb:iN s (iF S)=s.ds.length
  ·rw[show decide (V.int ((iN s (iF S):Nat):Int)=V.int ((s.ds.length:Nat):Int))=true from aD (by rw[hb])];refine bQ ⟨_,Z,_,Z,sa,dsa,sl,rv,nv,ys,s,0,iF S,F1,fs,Z,z2,Zgg,Zgb,(k2 _ _ o5).2.2,Sn.le x1.le,fL.le sr x1.le,hnv.le x1.le,gf,Z1,Ve,g40,?_⟩;rw[hnl];cases el:tR s (iF S)with
   |none=>exact fun F3 H3 x3 z3=> ⟨_,Z,bx ⟨_,Z,_,Z,_,Z,(mr 3),fun q' nq'=>tS 1 (by rw[ak hb]) 0 (by rw[el];rfl) F3 H3 x3 z3 q' nq'⟩⟩
   |some rs=>rintro v F3 H3 x3 z3 ⟨dv,kv,rfl,_⟩;walk;exact⟨_,Z,bQ ⟨_,Z,_,Z,_,Z,(mr 3),fun q' nq'=>tS 1 (by rw[ak hb]) 1 (by rw[el];rfl) F3 H3 x3 z3 q' nq'⟩⟩
  ·rw[show decide (V.int ((iN s (iF S):Nat):Int)=V.int ((s.ds.length:Nat):Int))=false from ay (fun z=>hb (by injection z with z;omega))];refine bx ⟨_,Z,_,Z,sa,dsa,sl,rv,nv,ys,s,0,iF S,F1,fs,Z,z2,Zgg,Zgb,(k2 _ _ o5).2.2,Sn.le x1.le,fL.le sr x1.le,hnv.le x1.le,gf,Z1,Ve,g40,?_⟩;rw[hnl];cases el:tR s (iF S)with
   |none=>exact fun F3 H3 x3 z3=> ⟨_,Z,bx ⟨_,Z,_,Z,_,Z,(mr 3),fun q' nq'=>tS 0 (by rw[ah hb]) 0 (by rw[el];rfl) F3 H3 x3 z3 q' nq'⟩⟩
   |some rs=>rintro v F3 H3 x3 z3 ⟨dv,kv,rfl,_⟩;walk;exact⟨_,Z,bQ ⟨_,Z,_,Z,_,Z,(mr 3),fun q' nq'=>tS 0 (by rw[ah hb]) 1 (by rw[el];rfl) F3 H3 x3 z3 q' nq'⟩⟩
theorem Ly(T:il K mg a):iW P w K mg base 60 "answer_again" zD (lQ a Ses (ox fun _=>pS9)):=by
 refine cI T.Au T.Ao T.Au.b2 xM ?_
 ·lk;obtain⟨t,cv,S,ow,F,i,c,n,rfl,W,hS,hc,ok,hG,hn,⟨ZZ,fs,s,iZ,EF⟩,k⟩:=h;have nd:=xM.nd;refine⟨_,ai (bq (i:=2) nd (lX (jI hr) (aI (pv 0) Z) (iJ fi (aI (pv 1) Z) bL))) (ai (bq (i:=3) nd (du (pv 0) (iO T) hr bh)) (ai (bq (i:=4) nd (ba (oq T) hr bh (ag (aI (pv 2) Z) (ag (pv 3) az)))) (ai (bq (i:=5) nd (ba (Lv T) hr bh (ag (aI (pv 2) Z) (ag (pv 4) az)))) (ai (dr (pv 2) (pv 3) Z) (ai (dr (pv 2) (pv 4) Z) (aq (aN (dO (ag (pv 5) az))))))))),?_⟩;walk;obtain⟨dt,hh,sd,sv,Bv,br,o1,o2,o3,h1,h2,h3,h4,h5,h6,h7,h8⟩:=id W.Yo;obtain⟨y,dy,cq,ct,rfl,c1,c2,c3⟩:=hc;have zF:=W.fz;have hcG:=W.cG;rw[kE iZ EF]at k;have O5:=h8 (cf c);rw[EF]at O5;obtain⟨vs,Yb,DL⟩:=eO.has O5;obtain⟨sa,dsa,sl,rv,ys,rfl,o4,o5,KU,wc,Sn,sr⟩:=DL;have g:=kx.k (a:=sd) (k:=aQ (cf c)) h3;rw[Yb]at g;have Hs:=zF.sub _ _ c1;have c2H:=zF.sub _ _ c2;obtain⟨gf,Sq,OU⟩:=hS.gd fs iZ;obtain⟨gb,Ve,g40⟩:=OU _ _ EF;have Z1:=Sq _ (Bt hS.ne);have hll:=gI s.ds s.base;have Hw:=Paired.length sr;have lsl:=(W.free sl _ o5).2.2;refine⟨_,Z,t,_,dt,_,_,Z,h1,T.dQ,T.dC,Z,_,Z,y,_,dy,_,_,Z,Hs,T.cY,T.dB,Z,cq,_,_,_,Z,Z,ft.of c2H,ou ok ZZ,sd,_,Z,g,?_⟩;refine⟨_,Z,t,dt,_,Z,h1,Z,t,S,ow,F,n,Z,W,hS.ne,fun nv hnv=>?_⟩;have gdl:∀x∈fb s.base s.ds,GD fs x.d:=fun x hx=>by have:=Hu (f:=fun x:jY=>x.d) hx;rw[jF]at this;exact Ve _ this
  refine⟨_,Z,sa,_,dsa,_,_,Z,KU,T.eC,T.cO,Z,_,Z,sl,nv,ys,_,_,F,fs,60,Z,zF,wc,lsl,sr,hnv,gf,Z1,gdl,by omega,fun q zs F1 H1 x1 z1 nq gq lq hq Yt=>?_⟩;rw[jF]at Yt;have k1:=iT.mm W x1.toiT;refine⟨_,Z,sa,_,dsa,_,_,Z,(k1 _ _ o4).1.trans KU,T.eC,T.cO,Z,_,Z,sl,q,ys,zs,_,_,F1,Z,z1,(k1 _ _ o5).1.trans wc,hq,fL.le sr x1.le,Yt,by rw[gI,gI],fun H2 s2=>?_⟩;rw[kl,kl];have z2:=z1.same s2;have x2:=x1.trans (iG.same (F:=F1) s2);have k2:=iT.mm W x2.toiT;have Zgg:H2 sa=_:=(k2 _ _ o4).1.trans KU;refine⟨_,Z,_,Z,sa,_,dsa,_,Z,Zgg,T.eC,T.jv,(ND 2),?_⟩;refine⟨_,Z,_,Z,sa,_,dsa,_,Z,au,T.eC,T.cO,(ND 2),?_⟩;rw[fC];obtain⟨W2,M⟩:=XX (s':=⟨iF S,s.ds⟩) (dsa:=dsa) W o1 o2 o3 h1 h2 h3 h4 h5 h6 h7 h8 Yb o4 x2.toiT z2 (by rw[x2.gm];omega) nq gq lq (s2 _ _ hq) (hnv.le x1.le) Yt;exact⟨_,Z,(mr 1),fun q' hq'=>k.tS W2 M (fun x h=> .inl (by rw[<-x2.gm];exact h)) hq'⟩
theorem Lz(T:il K mg a):iW P w K mg base 1 "answer_close" sT (lQ a Ses (ox fun _ _=>XQ)):=by
 refine cI T.Av T.Ap T.Av.b2 Ld ?_
 ·lk;obtain⟨t,cv,S,ow,F,i,c,n,rfl,W,hS,hc,ok,hG,hn,⟨ZZ,fs,s,iZ,EF⟩,k⟩:=h;refine⟨_,ai (dm (E4 (aI (pv 0) Z) (iJ fi (aI (pv 1) Z) bL) ⟨Z,Z,Z,Z⟩)) (aq (aN (dO (ag bL az)))),?_⟩;walk;obtain⟨dt,hh,sd,sv,Bv,br,o1,o2,o3,h1,h2,h3,h4,h5,h6,h7,h8⟩:=id W.Yo;obtain⟨y,dy,cq,ct,rfl,c1,c2,c3⟩:=hc;have zF:=W.fz;have hcG:=W.cG;rw[kE iZ EF]at k;have O5:=h8 (cf c);rw[EF]at O5;obtain⟨vs,Yb,DL⟩:=eO.has O5;have Hs:=zF.sub _ _ c1;have c2H:=zF.sub _ _ c2;refine⟨_,Z,t,_,dt,_,_,Z,h1,T.dQ,T.dC,Z,sd,Z,.inl ⟨_,.inl h3⟩,_,Z,y,_,dy,_,_,Z,Hs,T.cY,T.dB,Z,cq,_,_,_,Z,Z,ft.of c2H,ou ok ZZ,br,aQ (cf c),vs,h3,Z,Yb,?_⟩;obtain⟨W2,M⟩:=XY (m:=cf c) (hist':=S.gJ) W o1 o2 o3 h1 h4 h7 h8 (iT.refl F H) zF (by omega) h5 (by omega);rw[XW h2]at W2 M;exact⟨(mr 1),fun q' hq'=>k.tS W2 M (fun x h=> .inl h) hq'⟩
end
theorem ZpD(m:Int):EN (.int m) [.int 0,.int 1]=decide (m=0\/m=1):=by unfold EN;rw[dD,dD,LD,nL,dI];simp[U0];omega
section
theorem IY(T:il K mg a):iW P w K mg base 60 "answer_commit" xN (lQ a (fun S c=>Ses S c/\2<=Ym c.num) (ox fun _=>IV)):=by
 refine cI T.xW T.xU T.xW.b2 vF ?_
 ·lk;obtain⟨t,cv,S,ow,F,i,c,n,rfl,W,hS,hc,ok,hG,hn,⟨⟨ZZ,fs,s,iZ,EF⟩,jc⟩,k⟩:=h;have nd:=vF.nd;refine⟨_,ai (bq (i:=2) nd (iJ fi (aI (pv 1) Z) bL)) (ai (bq (i:=3) nd (iJ fi (aI (pv 1) Z) bL)) (ai (bK (bf wx (pv 3) (nP (ag (aP T.Zax) (ag (aP T.WA) az))) Z) (aq (aN (dO (ag (aP T.mX) az)))) aL) (ai (bq (i:=4) nd (ba (Hf T) hr bh (ag (lX (jI hr) (aI (pv 0) Z) (pv 2)) (ag (pv 3) (ag (du (pv 0) (iO T) hr bh) az))))) (ai (bK (nN (ZdE (pv 4))) (aq (aN (dO (ag (aP T.yj) az)))) aL) (ai (bK (yA (bf oP (Ziy T (pv 4)) (aP T.Wz) (bw _)) (uJ (bf Zil (du (pv 0) (rh T) hr bh) (aP T.NA) (bw _)))).pt (aq (aN (dO (ag (aP T.NB) az)))) aL) (ai (dm (ui b9 cA cB jq (aI (pv 0) Z) (ag (pv 4) az))) (ai (dm (E4 (aI (pv 0) Z) (pv 2) ⟨Z,Z,Z,Z⟩)) (aq (aN (dO (ag (du (pv 0) (rh T) hr bh) az))))))))))),?_⟩;walk;obtain⟨dt,hh,sd,sv,Bv,br,o1,o2,o3,h1,h2,h3,h4,h5,h6,h7,h8⟩:=id W.Yo;obtain⟨y,dy,cq,ct,rfl,c1,c2,c3⟩:=hc;have zF:=W.fz;have hcG:=W.cG;rw[kE iZ EF]at k;have O5:=h8 (cf c);rw[EF]at O5;obtain⟨vs,Yb,DL⟩:=eO.has O5;obtain⟨sa,dsa,sl,rv,ys,rfl,o4,o5,KU,wc,Sn,sr⟩:=DL;have Hs:=zF.sub _ _ c1;have c2H:=zF.sub _ _ c2;obtain⟨gf,Sq,OU⟩:=hS.gd fs iZ;obtain⟨gb,Ve,g40⟩:=OU _ _ EF;have Z1:=Sq _ (Bt hS.ne);refine⟨_,Z,y,_,dy,_,_,Z,Hs,T.cY,T.dB,Z,cq,_,_,_,Z,Z,ft.of c2H,ou ok ZZ,?_⟩;refine⟨_,Z,y,_,dy,_,_,Z,Hs,T.cY,T.dB,Z,cq,_,_,_,Z,Z,ft.of c2H,XS ok jc,?_⟩;refine⟨_,Z,(mr 2),fun qt hqt=> ⟨qt,_,Z,.inr (qU.of au),Z,Z,_,Z,?_⟩⟩;have s1:=aS.dW (o:=(.f6 [.int 0,.int 1])) (aS.refl H) hqt;generalize bp H qt (.f6 [.int 0,.int 1])=H1 at s1;have z1:=zF.same s1;have x1:iG F H F H1:=iG.same s1;have k1:=iT.mm W x1.toiT;have gk:∀x∈F.Zvl,x∈F.Zvl\/x.1=(i:Int):=fun x h=> .inl h;rw[show(if true=true then !EN (.int (fB c)) [.int 0,.int 1]else EN (.int (fB c)) [.int 0,.int 1])=!decide (fB c=0\/fB c=1)from aA (!·) (ZpD (fB c))];by_cases Yc:fB c=0\/fB c=1;rotate_left
  ·rw[ay Yc];exact bQ ⟨(mr 1),fun q hq=>k.one (by unfold IV;rw[ah Yc]) W x1.toiT z1 (by omega) gk hq⟩
  rw[aD Yc];have W1:=W.ext x1.toiT z1 (mH n) (by omega);have h11:H1 t=_:=(k1 _ _ o1).1.trans h1;have h31:H1 sd=_:=(k1 _ _ o3).1.trans h3;have g:=kx.k (a:=sd) (k:=aQ (cf c)) h31;rw[Yb]at g;refine bx ⟨_,Z,t,_,dt,_,_,Z,h11,T.dQ,T.dC,Z,_,Z,sd,_,Z,g,_,Z,_,Z,t,dt,_,Z,h11,Z,t,S,ow,F,n+1,Z,W1,hS.ne,fun nv hnv=>?_⟩;refine⟨sa,dsa,sl,rv,nv,ys,s,fB c,iF S,F,fs,Z,z1,(k1 _ _ o4).1.trans KU,(k1 _ _ o5).1.trans wc,(k1 _ _ o5).2.2,Sn,sr,hnv,gf,Z1,Ve,g40,?_⟩;cases el:DH s (fB c) (iF S)with
  |none=>intro F2 H2 x2 z2;have x12:=x1.trans x2;refine⟨_,Z,_,Z,bQ ⟨(mr 1),fun q hq=>k.one ?_ W x12.toiT z2 (by rw[x12.gm];omega) (fun x h=> .inl (by rw[<-x12.gm];exact h)) hq⟩⟩;unfold IV;rw[ak Yc,el]
  |some rs=>
   intro v F2 H2 x2 z2 hv;have x12:=x1.trans x2;have k2:=iT.mm W x12.toiT;have gk2:∀x∈F2.Zvl,x∈F.Zvl\/x.1=(i:Int):=fun x h=> .inl (by rw[<-x12.gm];exact h);have gl2:F2.Zvl.length<=n+1:=by rw[x12.gm];omega
   have W2:=W.ext x12.toiT z2 (mH n) gl2;have h12:H2 t=_:=(k2 _ _ o1).1.trans h1;have h22:H2 hh=_:=(k2 _ _ o2).1.trans h2;have h32:H2 sd=_:=(k2 _ _ o3).1.trans h3;obtain⟨d,kd,rfl,r1,r2⟩:=id hv;have hkl:=Paired.length r2;have hhl:=Paired.length h5;refine⟨_,Z,_,Z,bx ⟨_,Z,d,kd,Z,z2.sub _ _ r1,_,_,Z,Z,_,Z,?_⟩⟩;have ep:IV s S c=if 60<rs.length\/60<S.gJ.length then(S,[-7])else({S with gJ:=S.gJ++[rs],fg:=pF S.fg (cf c) none},[(S.gJ.length:Int)]):=by unfold IV;rw[ak Yc,el]
   by_cases Zda:60<rs.length
   ·rw[aD (by omega:(60:Int)< (kd.length:Int))];refine bQ (bQ ⟨(mr 1),fun q hq=>k.one ?_ W x12.toiT z2 gl2 gk2 hq⟩);rw[ep,ak (.inl Zda)]
   rw[ay (by omega:¬(60:Int)< (kd.length:Int))];refine bx ⟨_,Z,t,dt,_,Z,h12,Z,t,S,ow,F2,n+1,Z,W2,_,_,Z,Z,_,Z,?_⟩;by_cases Zie:60<S.gJ.length
   ·rw[aD (by omega:(60:Int)<=(S.gJ.length:Int)-1)];refine bQ ⟨(mr 1),fun q hq=>k.one ?_ W x12.toiT z2 gl2 gk2 hq⟩;rw[ep,ak (.inr Zie)]
   rw[ay (by omega:¬(60:Int)<=(S.gJ.length:Int)-1)];rw[ep,ah (by omega)]at k;have th:t≠hh:=j8 o1 o2 (fun u=>by cases u);have sh:sd≠hh:=j8 o3 o2 (fun u=>by cases u);have ts:t≠sd:=j8 o1 o3 (fun u=>by cases u);refine bx ⟨_,Z,t,_,dt,_,_,Z,h12,T.dQ,T.i6,Z,.inl ⟨Z,_,ft.of h22⟩,_,Z,hh,_,_,Z,Z,h22,mM (by omega),?_⟩;have h3':(bp H2 hh (.bz (Bv++[.ref d]))) sd=some (.dK br):=by rw[aF sh];exact h32
   refine⟨_,Z,t,_,dt,_,_,Z,by rw[aF th];exact h12,T.dQ,T.dC,Z,sd,Z,.inl ⟨_,.inl h3'⟩,_,Z,br,aQ (cf c),_,h3',Z,Yb,?_⟩;obtain⟨W3,M⟩:=XY (m:=cf c) (hist':=S.gJ++[rs]) W o1 o2 o3 h1 h4 h7 h8 x12.toiT z2 gl2 (i8 (F:=fJ a F2) hv (Paired.wm h5 fun _ _ q=>q.le x12.le)) (by rw[aX];simp;omega);refine⟨_,Z,t,dt,_,Z,by rw[aF ts,aF th];exact h12,Z,t,_,ow,F2,n+1,Z,W3,(mr 1),fun q hq=>?_⟩;have:=k.tS W3 M gk2 hq;rw[show((({S with gJ:=S.gJ++[rs],fg:=pF S.fg (cf c) none}:bD).gJ.length:Nat):Int)-1=(S.gJ.length:Int) by show(((S.gJ++[rs]).length:Nat):Int)-1=_;rw[aX];simp];exact this
theorem oy{K:ae}{X:Cx K}{j k:Nat}{x:Str}{ps:LS}{sp:Sp}{f:ao}(c:iW X.prog X.w K X.mg X.base j x ps sp)(h:X.mg x=some (.ref f))(hj:j<=k):ZmJ X k f sp:=by
 obtain⟨f',fd,G,e,b,d⟩:=c.ex;have:f=f':=by rw[h]at e;injection e with e;injection e
 subst this;exact⟨fd,ps,G.m8 hj,b,d⟩
theorem OJ{n:Nat}(h:n<15):EN (bV n) [.int 2,.int 3,.int 4,.int 5,.int 6,.int 7,.int 8,.int 9,.int 10,.int 11]=decide (2<=n/\n<=11):=by
 match n,h with
 |0,_=>rfl
 |1,_=>rfl
 |2,_=>rfl
 |3,_=>rfl
 |4,_=>rfl
 |5,_=>rfl
 |6,_=>rfl
 |7,_=>rfl
 |8,_=>rfl
 |9,_=>rfl
 |10,_=>rfl
 |11,_=>rfl
 |12,_=>rfl
 |13,_=>rfl
 |14,_=>rfl
noncomputable def fnOf(a:cV)(n:Nat):ao:=[a.mU,a.nV,a.fe,a.fe,a.fe,a.fe,a.fe,a.pS,a.rR,a.nW,a.mV,a.nX,a.pT,a.rS,a.pU].getD n 0
theorem XZ(T:il K mg a)(H:Hp){n:Nat}(h:n<15):∃xs:LV,qU K H a.eN xs/\xs[n]? =some (.ref (fnOf a n)):=by
 refine⟨_,.inr T.NC,?_⟩;match n,h with
 |0,_=>rfl
 |1,_=>rfl
 |2,_=>rfl
 |3,_=>rfl
 |4,_=>rfl
 |5,_=>rfl
 |6,_=>rfl
 |7,_=>rfl
 |8,_=>rfl
 |9,_=>rfl
 |10,_=>rfl
 |11,_=>rfl
 |12,_=>rfl
 |13,_=>rfl
 |14,_=>rfl
end
section
theorem ZhO{n:Nat}(h1:2<=n)(h2:n<=11):1<=Ym n:=by
 have:n=2\/n=3\/n=4\/n=5\/n=6\/n=7\/n=8\/n=9\/n=10\/n=11:=by omega
 rcases this with rfl|rfl|rfl|rfl|rfl|rfl|rfl|rfl|rfl|rfl<;>decide
theorem OK(T:il K mg a):iW P w K mg base 61 "answer_call" uW (lQ a (fun _ _=>True) qO):=by
 refine cI T.Dr T.Qn T.Dr.b2 MV ?_
 ·lk;obtain⟨t,cv,S,ow,F,i,c,n,rfl,W,hS,hc,ok,hG,hn,_,k⟩:=h;refine⟨_,ai (bK (HH (bf BY (aI (pv 1) Z) (aP T.Zeg) (bw _)) (A9 (nN (ZdE (aI (pv 0) Z))))).pt (aq (aN (dO (ag (aP T.BM) az)))) aL) (ai (bK (HH (bf o6 (aI (pv 1) Z) (tF T.TB) Z) (A9 (nN (o7 (jI hr) (iJ fi (aI (pv 1) Z) bL) (aI (pv 0) Z))))).pt (aq (aN (dO (ag (aP T.Am) az)))) aL) (aq (aN (Ze7 (iJ Mr (tF T.Qm) (aI (pv 1) Z)) hr bh (ag (pv 0) (ag (pv 1) az)))))),?_⟩;walk;obtain⟨dt,hh,sd,sv,Bv,br,o1,o2,o3,h1,h2,h3,h4,h5,h6,h7,h8⟩:=id W.Yo;have qP:=hc;obtain⟨y,dy,cq,ct,rfl,c1,c2,c3⟩:=hc;have zF:=W.fz;have hcG:=W.cG;have Hs:=zF.sub _ _ c1;have c2H:=zF.sub _ _ c2;have gk:∀x∈F.Zvl,x∈F.Zvl\/x.1=(i:Int):=fun x h=> .inl h;obtain⟨xs,b1,b2⟩:=XZ T H ok.1;have ZqX:∀fs,S.sch=some fs->decide (sv= .ik)=false:=fun fs e=>by rw[e]at h4;obtain⟨sx,sdx,gv,cd,kv,rfl,_⟩:=h4;rfl
  refine⟨_,Z,y,_,dy,_,_,Z,Hs,T.cY,T.cj,Z,Z,_,Z,?_⟩;by_cases jA:c.num=0
  ·rw[show decide (bV c.num=V.int 0)=true by rw[jA];rfl];refine bx (bx ⟨_,Z,y,_,dy,_,_,Z,Hs,T.cY,T.cj,Z,a.rV,_,Z,.inr (.inr T.CV),Z,Z,_,Z,?_⟩);rw[show(if false=true then !EN (bV c.num) _ else EN (bV c.num) _)=_ from OJ ok.1,jA];rw[show qO S c=pS0 S c by unfold qO;rw[ak jA]]at k;exact bx (bx ⟨_,Z,y,_,dy,_,_,Z,Hs,T.cY,T.cj,Z,a.eN,xs,_,_,Z,Z,b1,fh b2,fnOf a c.num,lQ a ZmR pS0,Z,by rw[jA];exact oy (IX T) T.xT (by decide),_,Z,_,Z,t,_,S,ow,F,i,c,n,Z,W,hS,qP,ok,hG,hn,jA,k⟩)
  rw[show decide (bV c.num=V.int 0)=false from pB jA];refine bQ ⟨_,Z,t,_,dt,_,_,Z,h1,T.dQ,T.mY,Z,_,Z,?_⟩;cases iZ:S.sch with
  |none=>rw[iZ]at h4;have h4:sv= .ik:=h4;rw[h4];exact bQ ⟨(mr 1),fun q hq=>k.one (by unfold qO;rw[ah jA,iZ]) W (iT.refl F H) zF (by omega) gk hq⟩
  |some fs=>
  rw[ZqX fs iZ];refine bx ⟨_,Z,y,_,dy,_,_,Z,Hs,T.cY,T.cj,Z,a.rV,_,Z,.inr (.inr T.CV),Z,Z,_,Z,?_⟩;rw[show(if false=true then !EN (bV c.num) _ else EN (bV c.num) _)=_ from OJ ok.1];have hn0:=jA;have BO:qO S c=if c.num=1 then pS1 S else if c.num<=11 then(match S.fg (cf c)with
    |none=> (S,[-3])
    |some s=>QA fs s S c)
   else if c.num=12 then ZfD S else if c.num=13 then XR S c else UI S c:=by
   unfold qO;rw[ah hn0,iZ];try rfl
  by_cases U3:2<=c.num/\c.num<=11
  ·rw[aD U3];have j9:=ZhO U3.1 U3.2;refine bQ ⟨_,Z,y,_,dy,_,_,Z,Hs,T.cY,T.dB,Z,cq,_,_,_,Z,Z,ft.of c2H,ou ok j9,_,Z,t,_,dt,_,_,Z,h1,T.dQ,T.dC,Z,sd,_,Z,kx.k (k:=aQ (cf c)) h3,_,Z,?_⟩;rw[ah (by omega:¬c.num=1),ak U3.2]at BO;have O5:=h8 (cf c);cases EF:S.fg (cf c)with
   |none=>rw[EF]at O5 BO;have ev:=eO.ZiL O5;rw[ev];exact bQ ⟨(mr 1),fun q hq=>k.one BO W (iT.refl F H) zF (by omega) gk hq⟩
   |some s=>
   rw[EF]at O5 BO;obtain⟨vs,Yb,_⟩:=eO.has O5;rw[Yb];have ses:Ses S c:=⟨j9,fs,s,iZ,EF⟩;have BO:qO S c=QA fs s S c:=BO;unfold QA at BO;by_cases h6':c.num<=6
   ·rw[ak h6']at BO;rw[BO,<-kE (f:=pS2) iZ EF]at k;have hfn:fnOf a c.num=a.fe:=by
     have:c.num=2\/c.num=3\/c.num=4\/c.num=5\/c.num=6:=by omega
     rcases this with e|e|e|e|e<;>rw[e]<;>rfl
    exact bx ⟨_,Z,y,_,dy,_,_,Z,Hs,T.cY,T.cj,Z,a.eN,xs,_,_,Z,Z,b1,fh b2,fnOf a c.num,lQ a (fun S c=>Ses S c/\2<=c.num/\c.num<=6) (ox pS2),Z,by rw[hfn];exact oy (OH T) T.Dh (by decide),_,Z,_,Z,t,_,S,ow,F,i,c,n,Z,W,hS,qP,ok,hG,hn,⟨ses,U3.1,h6'⟩,k⟩
   rw[ah h6']at BO;by_cases jA:c.num=7
   ·rw[ak jA]at BO;have k:IW a t S ow F i n (ox (fun _=>pS7) S c) H Q:=by rw[kE iZ EF];rw[BO]at k;exact k
    exact bx ⟨_,Z,y,_,dy,_,_,Z,Hs,T.cY,T.cj,Z,a.eN,xs,_,_,Z,Z,b1,fh b2,fnOf a c.num,lQ a (fun S c=>Ses S c/\2<=Ym c.num) (ox fun _=>pS7),Z,by rw[jA];exact oy (OI T) T.Di (by decide),_,Z,_,Z,t,_,S,ow,F,i,c,n,Z,W,hS,qP,ok,hG,hn,⟨ses,by rw[jA];decide⟩,k⟩
   rw[ah jA]at BO;by_cases jA:c.num=8
   ·rw[ak jA]at BO;have k:IW a t S ow F i n (ox (fun _ s S _=>pS8 s S) S c) H Q:=by rw[kE iZ EF];rw[BO]at k;exact k
    exact bx ⟨_,Z,y,_,dy,_,_,Z,Hs,T.cY,T.cj,Z,a.eN,xs,_,_,Z,Z,b1,fh b2,fnOf a c.num,lQ a Ses (ox fun _ s S _=>pS8 s S),Z,by rw[jA];exact oy (QE T) T.Gi (by decide),_,Z,_,Z,t,_,S,ow,F,i,c,n,Z,W,hS,qP,ok,hG,hn,ses,k⟩
   rw[ah jA]at BO;by_cases jA:c.num=9
   ·rw[ak jA]at BO;have k:IW a t S ow F i n (ox (fun _=>pS9) S c) H Q:=by rw[kE iZ EF];rw[BO]at k;exact k
    exact bx ⟨_,Z,y,_,dy,_,_,Z,Hs,T.cY,T.cj,Z,a.eN,xs,_,_,Z,Z,b1,fh b2,fnOf a c.num,lQ a Ses (ox fun _=>pS9),Z,by rw[jA];exact oy (Ly T) T.Ao (by decide),_,Z,_,Z,t,_,S,ow,F,i,c,n,Z,W,hS,qP,ok,hG,hn,ses,k⟩
   rw[ah jA]at BO;by_cases jA:c.num=10
   ·rw[ak jA]at BO;have k:IW a t S ow F i n (ox (fun _=>IV) S c) H Q:=by rw[kE iZ EF];rw[BO]at k;exact k
    exact bx ⟨_,Z,y,_,dy,_,_,Z,Hs,T.cY,T.cj,Z,a.eN,xs,_,_,Z,Z,b1,fh b2,fnOf a c.num,lQ a (fun S c=>Ses S c/\2<=Ym c.num) (ox fun _=>IV),Z,by rw[jA];exact oy (IY T) T.xU (by decide),_,Z,_,Z,t,_,S,ow,F,i,c,n,Z,W,hS,qP,ok,hG,hn,⟨ses,by rw[jA];decide⟩,k⟩
   rw[ah jA]at BO;by_cases jA:c.num=11
   ·skip;have k:IW a t S ow F i n (ox (fun _ _=>XQ) S c) H Q:=by rw[kE iZ EF];rw[BO]at k;exact k
    exact bx ⟨_,Z,y,_,dy,_,_,Z,Hs,T.cY,T.cj,Z,a.eN,xs,_,_,Z,Z,b1,fh b2,fnOf a c.num,lQ a Ses (ox fun _ _=>XQ),Z,by rw[jA];exact oy (Lz T) T.Ap (by decide),_,Z,_,Z,t,_,S,ow,F,i,c,n,Z,W,hS,qP,ok,hG,hn,ses,k⟩
   exact absurd U3.2 (by omega)
  rw[ay U3];by_cases jA:c.num=1
  ·rw[ak jA]at BO;rw[BO]at k;exact bx (bx ⟨_,Z,y,_,dy,_,_,Z,Hs,T.cY,T.cj,Z,a.eN,xs,_,_,Z,Z,b1,fh b2,fnOf a c.num,lQ a UK (fun S _=>pS1 S),Z,by rw[jA];exact oy (Lx T) T.An (by decide),_,Z,_,Z,t,_,S,ow,F,i,c,n,Z,W,hS,qP,ok,hG,hn,⟨fs,iZ⟩,k⟩)
  rw[ah jA,ah (by omega:¬c.num<=11)]at BO;by_cases jA:c.num=12
  ·rw[ak jA]at BO;rw[BO]at k;exact bx (bx ⟨_,Z,y,_,dy,_,_,Z,Hs,T.cY,T.cj,Z,a.eN,xs,_,_,Z,Z,b1,fh b2,fnOf a c.num,lQ a UK (fun S _=>ZfD S),Z,by rw[jA];exact oy (OD T) T.Dj (by decide),_,Z,_,Z,t,_,S,ow,F,i,c,n,Z,W,hS,qP,ok,hG,hn,⟨fs,iZ⟩,k⟩)
  rw[ah jA]at BO;by_cases jA:c.num=13
  ·rw[ak jA]at BO;rw[BO]at k;exact bx (bx ⟨_,Z,y,_,dy,_,_,Z,Hs,T.cY,T.cj,Z,a.eN,xs,_,_,Z,Z,b1,fh b2,fnOf a c.num,lQ a ZhN XR,Z,by rw[jA];exact oy (QB T) T.Gj (by decide),_,Z,_,Z,t,_,S,ow,F,i,c,n,Z,W,hS,qP,ok,hG,hn,⟨by rw[jA];decide,fs,iZ⟩,k⟩)
  rw[ah jA]at BO;have jA:c.num=14:=by have:=ok.1;omega
  rw[BO]at k;exact bx (bx ⟨_,Z,y,_,dy,_,_,Z,Hs,T.cY,T.cj,Z,a.eN,xs,_,_,Z,Z,b1,fh b2,fnOf a c.num,lQ a ZhN UI,Z,by rw[jA];exact oy (OE T) T.Dk (by decide),_,Z,_,Z,t,_,S,ow,F,i,c,n,Z,W,hS,qP,ok,hG,hn,⟨by rw[jA];decide,fs,iZ⟩,k⟩)
end
theorem ZcT{t:LN}{fs:Zvn}(h:md t=some fs):GF fs:=by
 have g:=ZcB h;refine⟨g.1,?_,g.2⟩;unfold md at h;split at h
 ·cases h
 ·split at h
  ·cases h
  ·rename_i k s e;split at h
   ·split at h
    ·split at h
     ·cases h
     ·cases h;exact(vQ 6 _ _ _ e).2
    ·cases h
   ·cases h
theorem KQ{fs:Zvn}:∀{ds:List dk}{Ds:List m6},DG fs ds Ds->∀{rs ss:List ja},Paired (KJ fs) Ds rs->Paired (KJ fs) Ds ss->lO (A7 G9 ds rs) (A7 G9 ds ss)=iC rs ss
 |_,_,.nil,_,_,.nil,.nil=>rfl
 |_,_,.cons hd t,_,_,.cons (b:=r) h1 t1,.cons (b:=s) h2 t2=>by
  have e:=Za4 hd h1 h2;rw[pN,pN,lO,iC,KQ t t1 t2];by_cases z:r=s
  ·rw[ak (e.mpr z),ak z]
  ·rw[ah (fun y=>z (e.mp y)),ah z]
theorem KR{fs:Zvn}:∀{ds:List dk}{Ds:List m6},DG fs ds Ds->∀{rs ss:List ja},Paired (KJ fs) Ds rs->Paired (KJ fs) Ds ss->A1 (A7 G9 ds rs) (A7 G9 ds ss)=((rs.zip ss).filter fun y=>y.1 !=y.2).length
 |_,_,.nil,_,_,.nil,.nil=>rfl
 |_,_,.cons hd t,_,_,.cons (b:=r) h1 t1,.cons (b:=s) h2 t2=>by
  have e:=Za4 hd h1 h2;rw[pN,pN,A1,KR t t1 t2,jo];by_cases z:r=s
  ·rw[ak (e.mpr z),oE (by simp[z]),k9]
  ·rw[ah (fun y=>z (e.mp y)),oF (by simpa using z),bg,Bz]
theorem R8:∀{rs ss:List ja},rs.length=ss.length->(iC rs ss=rs.length↔rs=ss)
 |[],[],_=>by simp[iC]
 |[],_::_,h=>by cases h
 |_::_,[],h=>by cases h
 |a::r,b::s,h=>by
  rw[iC];by_cases z:a=b
  ·rw[ak z,bg];have:=R8 (rs:=r) (ss:=s) (by simpa using h);constructor
   ·intro q;rw[z,this.mp (by omega)]
   ·intro q;injection q with q1 q2;rw[this.mpr q2]
  ·rw[ah z];constructor
   ·intro q;simp at q
   ·intro q;injection q with q1 q2;exact absurd q1 z
theorem UL{α β:Type}:∀{l:List α}{m:List β},l.length=m.length->(l.zip m).map (·.1)=l
 |[],[],_=>rfl
 |[],_::_,h=>by cases h
 |_::_,[],h=>by cases h
 |a::l,b::m,h=>by rw[jo,aY,UL (by simpa using h)]
theorem Za8{α β:Type}:∀{l:List α}{m:List β},l.length=m.length->(l.zip m).map (·.2)=m
 |[],[],_=>rfl
 |[],_::_,h=>by cases h
 |_::_,[],h=>by cases h
 |a::l,b::m,h=>by rw[jo,aY,Za8 (by simpa using h)]
theorem ZK{fs:Zvn}(f:GF fs){rs:bN}{R:Zvq}(h:jj fs rs R){d:dk}{D:m6}(hd:UD fs d D):(if nF ⟨d,jE rs d,mD rs d⟩=true then [Zfv d]else [])=((([(D,(iQ fs R D).2)]:List (m6×ja)).filterMap fun y=>match y with
   |(.put id _,_)=>some id
   |(.replace id _,.done)=>some id.toNat
   |(.drop id,.done)=>some id.toNat
   |_=>none).map fun n:Nat=> (n:Int)):=by
 have p2:=(me f.g f.ne h hd).2;have hh:=fun n=>h.has n;cases d with
 |put n r=>
  cases D with
  |put id v=>have:n=(id:Int):=hd.1;subst this;rfl
  |_=>cases hd
 |look n=>
  cases D with
  |look m=>rfl
  |_=>cases hd
 |ask c=>
  cases D with
  |ask c'=>rfl
  |_=>cases hd
 |replace n r=>
  cases D with
  |replace m v=>
   have:n=m:=hd.1;subst this;unfold nF;fin2;by_cases z:fm R n=true
   ·have e1:(iQ fs R (.replace n v)).2= .done:=by show(if fm R n then(kH n.toNat v R,ja.done)else(R,.no)).2=_;rw[ak z]
    rw[p2,e1];obtain⟨id,rfl⟩:=L0 z;rfl
   ·have e1:(iQ fs R (.replace n v)).2= .no:=by show(if fm R n then(kH n.toNat v R,ja.done)else(R,.no)).2=_;rw[ah z]
    rw[p2,e1];rfl
  |_=>cases hd
 |drop n=>
  cases D with
  |drop m=>
   have:n=m:=hd;subst this;unfold nF;fin2;by_cases z:fm R n=true
   ·have e1:(iQ fs R (.drop n)).2= .done:=by show(if fm R n then(jM n.toNat R,ja.done)else(R,.no)).2=_;rw[ak z]
    rw[p2,e1];obtain⟨id,rfl⟩:=L0 z;rfl
   ·have e1:(iQ fs R (.drop n)).2= .no:=by show(if fm R n then(jM n.toNat R,ja.done)else(R,.no)).2=_;rw[ah z]
    rw[p2,e1];rfl
  |_=>cases hd
theorem ZL(x:jY)(l:List jY):uE (x::l)=(if nF x=true then [Zfv x.d]else [])++uE l:=by unfold uE;cases e:nF x<;>simp[e]
def tU(l:List (m6×ja)):LN:=l.filterMap fun y=>match y with
 |(.put id _,_)=>some id
 |(.replace id _,.done)=>some id.toNat
 |(.drop id,.done)=>some id.toNat
 |_=>none
theorem QF(y:m6×ja)(l:List (m6×ja)):tU (y::l)=tU [y]++tU l:=by unfold tU;rw[<-List.filterMap_append];rfl
theorem Hg{fs:Zvn}(f:GF fs):∀{ds:List dk}{Ds:List m6},DG fs ds Ds->∀{rs:bN}{R:Zvq},jj fs rs R->uE (fb rs ds)=(tU (Ds.zip (Zvs fs R Ds).2)).map fun n:Nat=> (n:Int)
 |_,_,.nil,rs,R,h=>rfl
 |_,_,.cons hd t,rs,R,h=>by rw[fb,ZL,qM,jo,QF,cg,Hg f t (me f.g f.ne h hd).1];congr 1;exact ZK f h hd
theorem R9{fs:Zvn}(f:GF fs){rs:bN}{R:Zvq}(h:jj fs rs R)(id:Nat):KL rs (id:Int)=gZ fs R id:=by
 unfold KL gZ;rcases h.look f.g f.ne (id:Int)with⟨r,v,q1,q2,q3,_⟩|⟨q1,q2⟩
 ·rw[q1,q2,eK,eK,q3]
 ·rw[q1,q2];rfl
theorem ZcU{rs:bN}{n:Int}(h:oi rs n=none):rO rs n=rs:=by unfold rO;rw[List.filter_eq_self];intro x hx;rw[decide_eq_true_eq];intro e;obtain⟨r,hr⟩:=Ky (rs:=rs) (n:=n) (bE.mpr ⟨x,hx,e⟩);rw[h]at hr;cases hr
theorem OL{fs:Zvn}(f:GF fs){base ji view:bN}{B N Vw:Zvq}(hb:jj fs base B)(hn:jj fs ji N)(hv:jj fs view Vw):∀(ids:LN){left:bN}{Lf:Zvq},jj fs left Lf->match vd base ji view (ids.map fun n:Nat=> (n:Int)) left with
  |none=> (ids.all fun id=>gZ fs B id==gZ fs N id)=false
  |some rs=> (ids.all fun id=>gZ fs B id==gZ fs N id)=true/\jj fs rs (Yj Vw ids Lf)
 |[],left,Lf,h=> ⟨Z,h⟩
 |id::ids,left,Lf,h=>by
  rw[aY,vd,R9 f hb,R9 f hn,HF];by_cases e:gZ fs B id=gZ fs N id
  ·rw[ak e,show(gZ fs B id==gZ fs N id)=true by simpa using e,Yd,Yj];refine OL f hb hn hv ids ?_;rcases hv.look f.g f.ne (id:Int)with⟨r,v,q1,q2,_,q4⟩|⟨q1,q2⟩
   ·rw[q1,q2];fin2;rw[<-q4];exact h.put (hv.XI _ (oj q1))
   ·rw[q1,q2];fin2;cases z:oi left (id:Int)with
    |some r=>rw[ak (by unfold mC;rw[z];rfl)];exact h.drop id
    |none=>rw[ah (by unfold mC;rw[z];exact aK)];have:=h.drop id;rw[ZcU z]at this;exact this
  ·rw[ah e,show(gZ fs B id==gZ fs N id)=false by simpa using e,vf]
theorem X0{fs:Zvn}{rs:bN}{R:Zvq}(h:jj fs rs R):rs.length=R.length:=by have:=h.UE.length_eq;simpa using this
structure EA(fs:Zvn)(past:List Zvq)(s:hJ)(x:fH):Prop where
 oI:∃B,past[x.base]? =some B/\jj fs s.base B/\DG fs s.ds x.deeds/\x.replies=(Zvs fs B x.deeds).2
 l60:s.base.length<=60
 l40:s.ds.length<=40
 dep:∀d∈s.ds,ZhJ d<=21
def tV(fs:Zvn)(past:List Zvq):Option hJ->Option fH->Prop
 |none,none=>True
 |some s,some x=>EA fs past s x
 |_,_=>False
structure ZfL(fs:Zvn)(S:bD)(T:jH):Prop where
 gf:GF fs
 gJ:Paired (fun rs R=>jj fs rs R/\rs.length<=60) S.gJ T.past
 fg:∀n,tV fs T.past (S.fg n) (bM T n)
structure lR(S:bD)(T:jH):Prop where
 sch:S.sch=T.schema
 next:S.next=T.next
 ne:S.gJ≠ []
 n8:T.sessions.length=8
 oH:∀fs,S.sch=some fs->ZfL fs S T
def O2(r:bD×List Int)(r':jH×Vacolq.Answer):Prop:=lR r.1 r'.1/\r.2=jh r'.2
theorem OM{α β:Type}{R:α->β->Prop}:∀{l:List α}{m:List β},Paired R l m->∀x∈l,∃y∈m,R x y
 |_,_,.nil,x,h=>by cases h
 |_,_,.cons p t,x,h=>by
  rcases aU.mp h with rfl|h
  ·exact⟨_,aM,p⟩
  ·obtain⟨y,h1,h2⟩:=OM t x h;exact⟨y,aG _ h1,h2⟩
theorem lR.ok{S:bD}{T:jH}(h:lR S T):SOk S:=by
 refine⟨h.ne,fun fs iZ=>?_⟩;have q:=h.oH fs iZ;refine⟨q.gf,fun rs Jc=>?_,fun n s hs=>?_⟩
 ·obtain⟨R,_,h1,h2⟩:=OM q.gJ rs Jc;exact⟨⟨R,h1⟩,h2⟩
 ·have:=q.fg n;rw[hs]at this;cases e:bM T n with
  |none=>rw[e]at this;exact this.elim
  |some x=>rw[e]at this;have this:EA fs T.past s x:=this;obtain⟨B,_,b1,b2,_⟩:=this.oI;refine⟨⟨⟨B,b1⟩,this.l60⟩,fun d hd=>?_,this.l40⟩;obtain⟨D,_,hD⟩:=OM b2 d hd;exact⟨⟨D,hD⟩,this.dep d hd⟩
theorem tV.get{fs:Zvn}{past:List Zvq}{s:hJ}:∀{x:Option fH},tV fs past (some s) x->∃y,x=some y/\EA fs past s y
 |some y,h=> ⟨y,Z,h⟩
 |none,h=>h.elim
theorem tV.nil{fs:Zvn}{past:List Zvq}:∀{x:Option fH},tV fs past none x->x=none
 |some y,h=>h.elim
 |none,h=>rfl
section
variable{fs:Zvn}{S:bD}{T:jH}
theorem ZfL.ji(q:ZfL fs S T)(iY:S.gJ≠ []):jj fs (iF S) (cW T)/\(iF S).length<=60/\T.past[T.past.length-1]? =some (cW T)/\T.past≠ []:=by
 rcases Hb S.gJ with e|⟨m,x,e⟩
 ·exact absurd e iY
 ·have hp:=q.gJ;rw[e]at hp;obtain⟨zs,y,e2,_,h1,h2⟩:=Oz hp;unfold iF cW;rw[e,e2,mG,mG];refine⟨h1,h2,?_,by simp⟩;simp
theorem Hh{i:Int}{x:fH}(h:bM T i=some x):0<=i/\i.toNat<T.sessions.length:=by
 unfold bM at h;split at h
 ·cases h
 ·rename_i hi;refine⟨by omega,?_⟩;cases e:T.sessions[i.toNat]? with
  |none=>rw[e]at h;cases h
  |some y=>exact(aW.mp e).1
theorem ZhP{i:Int}{x:Option fH}(h0:0<=i)(hl:i.toNat<T.sessions.length)(n:Int):bM {T with sessions:=T.sessions.set i.toNat x} n=if n=i then x else bM T n:=by
 unfold bM;by_cases hn:n<0
 ·rw[ak hn,ah (by omega),ak hn]
 ·rw[ah hn,ah hn];by_cases e:n=i
  ·subst e;rw[ak Z];show((T.sessions.set n.toNat x)[n.toNat]?).bind id=x;rw[pL hl];rfl
  ·rw[ah e];show((T.sessions.set i.toNat x)[n.toNat]?).bind id=_;rw[sy (by omega)]
theorem lR.put{i:Int}{s':Option hJ}{x':Option fH}(h:lR S T)(iZ:S.sch=some fs)(h0:0<=i)(hl:i.toNat<T.sessions.length)(hx:tV fs T.past s' x'):lR {S with fg:=pF S.fg i s'} {T with sessions:=T.sessions.set i.toNat x'}:=by
 refine⟨h.sch,h.next,h.ne,by show(T.sessions.set i.toNat x').length=8;rw[List.length_set];exact h.n8,fun fs' hf=>?_⟩;have hf:S.sch=some fs':=hf;have e:fs=fs':=by rw[iZ]at hf;exact af hf
 subst e;have q:=h.oH fs iZ;refine⟨q.gf,q.gJ,fun n=>?_⟩;rw[ZhP h0 hl];show tV fs T.past (pF S.fg i s' n) _;unfold pF;by_cases e:n=i
 ·rw[ak e,ak e];exact hx
 ·rw[ah e,ah e];exact q.fg n
theorem ZfM(h:lR S T)(c:cX):O2 (pS0 S c) (Vacolq.step T (.schema c.text)):=by
 unfold pS0;show O2 _ (match gU c.text with
  | .error _=> (T,.refused (-1))
  | .ok fs=> ({schema:=some fs},.number 0))
 cases e:md c.text with
 |none=>
  cases q:gU c.text with
  |ok fs=>rw[Od.mp q]at e;cases e
  |error z=>exact⟨h,Z⟩
 |some fs=>
  rw[Od.mpr e];refine⟨⟨Z,Z,by simp[A3],Z,fun fs' hf=>?_⟩,Z⟩;have hf:fs=fs':=af hf;subst hf;refine⟨ZcT e,.cons ⟨jj.nil fs,bB _⟩ .nil,fun n=>?_⟩;have:bM {schema:=some fs} n=none:=by
   unfold bM;split
   ·rfl
   ·show((List.replicate 8 (none:Option fH))[n.toNat]?).bind id=none;rw[YD];split<;>rfl
  rw[this];trivial
theorem ZhQ(h:lR S T)(iZ:S.sch=some fs):O2 (pS1 S) (dE T fs .begin):=by
 have q:=h.oH fs iZ;obtain⟨n1,n2,n3,n4⟩:=q.ji h.ne;have at8:∀i:Nat,i<8->((S.fg (i:Int)).isNone=(T.sessions[i]?.bind id).isNone):=fun i hi=>by
  have:=q.fg (i:Int);unfold bM at this;rw[ah (by omega),mi]at this;cases e1:S.fg (i:Int)with
  |none=>rw[e1]at this;rw[tV.nil this];rfl
  |some s=>rw[e1]at this;obtain⟨y,e2,_⟩:=tV.get this;rw[e2];rfl
 have Zlb:∀i:Nat,(hi:i<T.sessions.length)->(T.sessions[i]?.bind id).isNone=T.sessions[i].isNone:=fun i hi=>by rw[xo hi];rfl
 show O2 (pS1 S) (match T.sessions.findIdx? fun x=>x.isNone with
  |none=> (T,.refused (-5))
  |some i=> ({T with sessions:=T.sessions.set i (some ⟨T.past.length-1,[]⟩)},.number i))
 unfold pS1;have hn8:=h.n8;cases e:KN S with
 |none=>
  have:T.sessions.findIdx? (fun x=>x.isNone)=none:=by rw[List.findIdx?_eq_none_iff];intro x hx;obtain⟨i,hi,rfl⟩:=List.mem_iff_getElem.mp hx;rw[<-Zlb i hi,<-at8 i (by omega)];unfold KN at e;exact ia.mpr (vg.mp e i (UU.mpr (by omega)))
  rw[this];exact⟨h,Z⟩
 |some i=>
  unfold KN at e;have e1:=lj e;have e2:=UU.mp (f9 e);have e3:∀j,j<i->(S.fg (j:Int)).isNone=false:=by intro j hj;rw[List.find?_range_eq_some]at e;have:=e.2.2 j hj;simpa using this
  have:T.sessions.findIdx? (fun x=>x.isNone)=some i:=by
   rw[List.findIdx?_eq_some_iff_getElem];refine⟨by omega,?_,fun j hj=>?_⟩
   ·rw[<-Zlb i (by omega),<-at8 i e2];exact e1
   ·rw[<-Zlb j (by omega),<-at8 j (by omega),e3 j hj];exact aK
  rw[this];refine⟨?_,Z⟩;have:=lR.put (i:=(i:Int)) (s':=some ⟨iF S,[]⟩) (x':=some ⟨T.past.length-1,[]⟩) h iZ (by omega) (by rw[mi];omega) ⟨⟨_,n3,n1,.nil,Z⟩,n2,bB _,fun d hd=>by cases hd⟩;rw[mi]at this;exact this
end
theorem Paired.ZiN{α β:Type}{R:α->β->Prop}:∀{l:List α}{m:List β}(k:Nat),Paired R l m->Paired R (l.take k) (m.take k)
 |_,_,0,_=>by rw[kr,kr];exact .nil
 |_,_,k+1,.nil=> .nil
 |_,_,k+1,.cons p t=>by rw[gx,gx];exact .cons p (Paired.ZiN k t)
section
variable{fs:Zvn}{S:bD}{T:jH}{i:Int}{s:hJ}{x:fH}
theorem EA.len{past:List Zvq}(so:EA fs past s x):x.done.length=s.ds.length:=by obtain⟨B,_,_,h,_⟩:=so.oI;have:=Paired.length h;unfold fH.deeds at this;rw[aZ]at this;omega
theorem lR.nxt(h:lR S T):lR {S with next:=S.next+1} {T with next:=T.next+1}:=⟨h.sch,by show S.next+1=T.next+1;rw[h.next],h.ne,h.n8,fun fs' hf=>let q:=h.oH fs' hf;⟨q.gf,q.gJ,q.fg⟩⟩
theorem Sa(h:lR S T)(iZ:S.sch=some fs)(hx:bM T i=some x)(so:EA fs T.past s x)(hl:s.ds.length<40){d:dk}{D:m6}(hd:UD fs d D)(dep:ZhJ d<=21):lR {S with fg:=pF S.fg i (some ⟨s.base,s.ds++[d]⟩)} (Mh T fs i x D).1/\jE (gu s.base s.ds) d=G9 d (Mh T fs i x D).2:=by
 obtain⟨h0,h8⟩:=Hh hx;have q:=h.oH fs iZ;obtain⟨B,b1,b2,b3,b4⟩:=so.oI;have eb:kS T x=B:=by unfold kS;rw[b1];rfl
 have ev:rk T fs x=(Zvs fs B x.deeds).1:=by unfold rk;rw[eb]
 obtain⟨r1,r2⟩:=qN q.gf.g q.gf.ne b3 b2;obtain⟨p1,p2⟩:=me q.gf.g q.gf.ne r1 hd;have e2:(Mh T fs i x D).2=(iQ fs (Zvs fs B x.deeds).1 D).2:=by show(iQ fs (rk T fs x) D).2=_;rw[ev]
 refine⟨?_,by rw[e2];exact p2⟩;refine lR.put h iZ h0 h8 (x':=some {x with done:=x.done++[(D,(iQ fs (rk T fs x) D).2)]}) ?_;rw[ev];refine⟨⟨B,b1,b2,?_,?_⟩,so.l60,by show(s.ds++[d]).length<=40;rw[aX];simp;omega,fun e he=>?_⟩
 ·show DG fs (s.ds++[d]) ((x.done++[(D,_)]).map fun y:m6×ja=>y.1);rw[cg];exact i8 (F:=UD fs) hd b3
 ·show((x.done++[(D,_)]).map fun y:m6×ja=>y.2)=(Zvs fs B ((x.done++[(D,_)]).map fun y:m6×ja=>y.1)).2;rw[cg,cg];show x.replies++_=(Zvs fs B (x.deeds++[D])).2;rw[XJ,b4];rfl
 ·rcases cz.mp he with he|he
  ·exact so.dep e he
  ·have:e=d:=by simpa using he
   rw[this];exact dep
theorem ZhR{d:dk}(h:nE d≠2)(r:ja):jh (Vacolq.answerOf r)=G9 d r:=by
 cases d with
 |put n m=>exact absurd Z h
 |_=>cases r<;>rfl
theorem X1(f:GF fs){t:LN}(h:mP fs t=none):∃e,vh fs t= .error e:=by
 cases e:vh fs t with
 |error z=>exact⟨z,Z⟩
 |ok v=>rw[(Uy f.g f.ne).mp e]at h;cases h
def X2(fs:Zvn)(p:Option dk)(e:Except Int m6):Prop:=(p=none/\e= .error (-1))\/∃d D,p=some d/\e= .ok D/\UD fs d D/\ZhJ d<=21
theorem Zkv(h:lR S T)(iZ:S.sch=some fs)(hx:bM T i=some x)(so:EA fs T.past s x){p:Option dk}{e:Except Int m6}(dc:X2 fs p e)(np:∀d,p=some d->nE d≠2):O2 (match p with
   |none=> (S,[-1])
   |some d=>if 40<=s.ds.length then(S,[-6])else({S with fg:=pF S.fg i (some ⟨s.base,s.ds++[d]⟩)},jE (gu s.base s.ds) d)) (iI T fs i fun _=>e):=by
 unfold iI;rw[hx];rcases dc with⟨rfl,rfl⟩|⟨d,D,rfl,rfl,hd,dep⟩
 ·exact⟨h,Z⟩
 ·fin2;rw[so.len];by_cases hl:40<=s.ds.length
  ·rw[ak hl,ak (show Ji<=s.ds.length from hl)];exact⟨h,Z⟩
  ·rw[ah hl,ah (show¬Ji<=s.ds.length from hl)];obtain⟨q1,q2⟩:=Sa h iZ hx so (by omega) hd dep;refine⟨q1,?_⟩;fin2;rw[q2,ZhR (np d Z)]
theorem ZmS(h:lR S T)(iZ:S.sch=some fs){c:cX}(hc:c.num=2)(hx:bM T (cf c)=some x)(so:EA fs T.past s x):O2 (pS2 fs s S c) (Mi T fs (cf c) c.text):=by
 have f:=(h.oH fs iZ).gf;unfold Mi iI pS2 jX;rw[hx,ak hc];fin2;unfold Yk;cases e:mP fs c.text with
 |none=>obtain⟨z,ez⟩:=X1 f e;rw[ez];exact⟨h,Z⟩
 |some v=>
  rw[(Uy f.g f.ne).mpr e];fin2;rw[eK,so.len];fin2;by_cases hl:40<=s.ds.length
  ·rw[ak hl,ak (show Ji<=s.ds.length from hl)];exact⟨h,Z⟩
  ·rw[ah hl,ah (show¬Ji<=s.ds.length from hl),ak hc];have hd:UD fs (.put (S.next:Int) (c.text,v)) (.put T.next v):=⟨by rw[h.next],Z,e⟩;obtain⟨q1,q2⟩:=Sa h iZ hx so (by omega) hd (bB _);have:O2 ({S with next:=S.next+1,fg:=pF S.fg (cf c) (some ⟨s.base,s.ds++[.put (S.next:Int) (c.text,v)]⟩)},jE (gu s.base s.ds) (.put (S.next:Int) (c.text,v))) ({(Mh T fs (cf c) x (.put T.next v)).1 with next:=T.next+1},.number T.next):=by
    refine⟨?_,?_⟩
    ·exact q1.nxt
    ·show [(S.next:Int)]=[(T.next:Int)];rw[h.next]
   exact this
theorem Zkw(h:lR S T)(iZ:S.sch=some fs){c:cX}(hx:bM T (cf c)=some x)(so:EA fs T.past s x):O2 (pS7 s S c) (dE T fs (.undo (cf c) (fB c))):=by
 show O2 (pS7 s S c) (match bM T (cf c)with
  |none=> (T,.refused (-3))
  |some x=>if fB c<0\/(x.done.length:Int)<fB c then(T,.refused (-4))else(Hv T (cf c) (some {x with done:=x.done.take (fB c).toNat}),.number (fB c).toNat))
 rw[hx];fin2;unfold pS7;rw[so.len];obtain⟨h0,h8⟩:=Hh hx;by_cases hb:fB c<0\/(s.ds.length:Int)<fB c
 ·rw[ak hb,ak hb];exact⟨h,Z⟩
 ·rw[ah hb,ah hb];obtain⟨B,b1,b2,b3,b4⟩:=so.oI;refine⟨lR.put h iZ h0 h8 (x':=some {x with done:=x.done.take (fB c).toNat}) ⟨⟨B,b1,b2,?_,?_⟩,so.l60,?_,fun d hd=>so.dep d (EM hd)⟩,?_⟩
  ·show DG fs (s.ds.take _) ((x.done.take _).map fun y=>y.1);rw[xq];exact Paired.ZiN _ b3
  ·show((x.done.take _).map fun y=>y.2)=(Zvs fs B ((x.done.take _).map fun y=>y.1)).2;rw[xq,xq];show x.replies.take _=(Zvs fs B (x.deeds.take _)).2;rw[Zfr,b4]
  ·have:=so.l40;show(s.ds.take _).length<=40;rw[gR];omega
  ·show [fB c]=[(((fB c).toNat:Nat):Int)];rw[show(((fB c).toNat:Nat):Int)=fB c by omega]
end
theorem X3:∀l:List (m6×ja),(l.map fun y=>y.1).zip (l.map fun y=>y.2)=l
 |[]=>rfl
 |y::l=>by rw[aY,aY,jo,X3 l]
section
variable{fs:Zvn}{S:bD}{T:jH}{i:Int}{s:hJ}{x:fH}
structure Now(fs:Zvn)(S:bD)(T:jH)(s:hJ)(x:fH)(B:Zvq):Prop where
 gf:GF fs
 base:kS T x=B
 oI:jj fs s.base B
 ji:jj fs (iF S) (cW T)
 ds:DG fs s.ds x.deeds
 ZfO:x.replies=(Zvs fs B x.deeds).2
theorem Now.of(h:lR S T)(iZ:S.sch=some fs)(so:EA fs T.past s x):∃B,Now fs S T s x B:=by have q:=h.oH fs iZ;obtain⟨B,b1,b2,b3,b4⟩:=so.oI;exact⟨B,q.gf,by unfold kS;rw[b1];rfl,b2,(q.ji h.ne).1,b3,b4⟩
theorem Now.eP{B:Zvq}(q:Now fs S T s x B):iN s (iF S)=iC x.replies (Zvs fs (cW T) x.deeds).2/\(iN s (iF S)=s.ds.length↔yx fs (cW T) x=true)/\iN s (iF S)<=s.ds.length:=by
 have g:=q.gf.g;have ne:=q.gf.ne;have e1:iN s (iF S)=iC x.replies (Zvs fs (cW T) x.deeds).2:=by unfold iN;rw[(qN g ne q.ds q.oI).2,(qN g ne q.ds q.ji).2,q.ZfO];exact KQ q.ds (Ox g ne q.ds q.oI) (Ox g ne q.ds q.ji)
 have l1:x.replies.length=s.ds.length:=by rw[q.ZfO,Ha,<-Paired.length q.ds]
 refine⟨e1,?_,?_⟩
 ·rw[e1,<-l1,R8 (by rw[q.ZfO,Ha,Ha])];unfold yx;rw[beq_iff_eq];exact⟨fun z=>z.symm,fun z=>z.symm⟩
 ·unfold iN;have:=R5 (fK s.base s.ds) (fK (iF S) s.ds);rw[DF]at this;exact this
theorem Now.Sb{B:Zvq}(q:Now fs S T s x B):match tR s (iF S)with
  |none=>BU fs (kS T x) (cW T) x=false
  |some rs=>BU fs (kS T x) (cW T) x=true/\jj fs rs (Yj (rk T fs x) (QR x) (cW T)):=by
 have g:=q.gf.g;have ne:=q.gf.ne;have ew:QR x=tU (x.deeds.zip (Zvs fs B x.deeds).2):=by rw[<-q.ZfO];show _=tU ((x.done.map fun y=>y.1).zip (x.done.map fun y=>y.2));rw[X3];rfl
 unfold tR;rw[Hg q.gf q.ds q.oI,<-ew];have ev:rk T fs x=(Zvs fs B x.deeds).1:=by unfold rk;rw[q.base]
 have:=OL q.gf q.oI q.ji (qN g ne q.ds q.oI).1 (QR x) q.ji;unfold BU;rw[q.base,ev];exact this
theorem ZmT(h:lR S T)(iZ:S.sch=some fs)(hx:bM T i=some x)(so:EA fs T.past s x):O2 (pS8 s S) (dE T fs (.why i)):=by
 obtain⟨B,q⟩:=Now.of h iZ so;obtain⟨n1,n2,n3⟩:=q.eP;have nl:=q.Sb;refine⟨h,?_⟩;show _=jh (match bM T i with
  |none=> .refused (-3)
  |some x=> .three (yx fs (cW T) x).toNat (BU fs (kS T x) (cW T) x).toNat (iC x.replies (Zvs fs (cW T) x.deeds).2))
 rw[hx];show [_,_,_]=[(_:Int),_,_];rw[<-n1];congr 1
 ·by_cases z:iN s (iF S)=s.ds.length
  ·rw[ak z,n2.mp z];rfl
  ·rw[ah z,show yx fs (cW T) x=false from ia.mpr fun y=>z (n2.mpr y)];rfl
 ·congr 1;cases e:tR s (iF S)with
  |none=>rw[e]at nl;have nl:_=false:=nl;rw[nl];rfl
  |some rs=>rw[e]at nl;have nl:_/\_:=nl;rw[nl.1];rfl
theorem ZhS(h:lR S T)(iZ:S.sch=some fs){c:cX}(hx:bM T (cf c)=some x)(so:EA fs T.past s x):O2 (pS9 s S c) (dE T fs (.again (cf c))):=by
 obtain⟨B,q⟩:=Now.of h iZ so;obtain⟨m1,m2,m3,_⟩:=(h.oH fs iZ).ji h.ne;have g:=q.gf.g;have ne:=q.gf.ne;obtain⟨h0,h8⟩:=Hh hx;show O2 (pS9 s S c) (match bM T (cf c)with
  |none=> (T,.refused (-3))
  |some x=> (Hv T (cf c) (some ⟨T.past.length-1,x.deeds.zip (Zvs fs (cW T) x.deeds).2⟩),.number ((x.replies.zip (Zvs fs (cW T) x.deeds).2).filter fun y=>y.1 !=y.2).length))
 rw[hx];fin2;unfold pS9;have hl:x.deeds.length=(Zvs fs (cW T) x.deeds).2.length:=by rw[Ha]
 refine⟨lR.put h iZ h0 h8 (x':=some ⟨T.past.length-1,x.deeds.zip (Zvs fs (cW T) x.deeds).2⟩) ⟨⟨_,m3,m1,?_,?_⟩,m2,so.l40,so.dep⟩,?_⟩
 ·show DG fs s.ds ((x.deeds.zip _).map fun y=>y.1);rw[UL hl];exact q.ds
 ·show((x.deeds.zip _).map fun y=>y.2)=(Zvs fs _ ((x.deeds.zip _).map fun y=>y.1)).2;rw[UL hl,Za8 hl]
 ·show [_]=[(_:Int)];rw[(qN g ne q.ds q.oI).2,(qN g ne q.ds q.ji).2,q.ZfO,KR q.ds (Ox g ne q.ds q.oI) (Ox g ne q.ds q.ji)]
theorem ZcV{B:Zvq}(q:Now fs S T s x B){mode:Int}(hm:mode=0\/mode=1):match DH s mode (iF S)with
  |none=>QS T fs x (mode==1)=none
  |some rs=> ∃R,QS T fs x (mode==1)=some R/\jj fs rs R:=by
 obtain⟨n1,n2,n3⟩:=q.eP;have nl:=q.Sb;unfold DH QS;by_cases e:mode=1
 ·rw[ak e,show(mode==1)=true by rw[e];rfl,ak Z];unfold UH;by_cases z:iN s (iF S)<s.ds.length
  ·rw[ak z,ah (fun y=>by have:=n2.mpr y;omega)]
  ·rw[ah z,ak (n2.mp (by omega))];exact⟨_,Z,(qN q.gf.g q.gf.ne q.ds q.ji).1⟩
 ·have e0:mode=0:=by omega
  rw[ah e,show(mode==1)=false by rw[e0];rfl,ah aK];cases z:tR s (iF S)with
  |none=>rw[z]at nl;have nl:_=false:=nl;rw[nl];exact ah aK
  |some rs=>rw[z]at nl;have nl:_/\_:=nl;rw[nl.1,ak Z];exact⟨_,Z,nl.2⟩
theorem tV.ZpE{past:List Zvq}{R:Zvq}:∀{s:Option hJ}{x:Option fH},tV fs past s x->tV fs (past++[R]) s x
 |none,none,_=>trivial
 |some s,some x,h=>by have h:EA fs past s x:=h;obtain⟨B,b1,b2⟩:=h.oI;exact⟨⟨B,by rw[v9 (aW.mp b1).1];exact b1,b2⟩,h.l60,h.l40,h.dep⟩
 |none,some _,h=>h.elim
 |some _,none,h=>h.elim
theorem ZfN(h:lR S T)(iZ:S.sch=some fs){c:cX}(hx:bM T (cf c)=some x)(so:EA fs T.past s x):O2 (IV s S c) (dE T fs (.commit (cf c) (fB c))):=by
 obtain⟨B,q⟩:=Now.of h iZ so;obtain⟨h0,h8⟩:=Hh hx;have hh:=h.oH fs iZ;show O2 (IV s S c) (BV T fs (cf c) (fB c));unfold BV IV;rw[hx];fin2;by_cases hm:fB c=0\/fB c=1
 ·rw[ak hm,ah (fun z=>z hm)];have:=ZcV q hm;cases e:DH s (fB c) (iF S)with
  |none=>rw[e]at this;have this:_=none:=this;rw[this];exact⟨h,Z⟩
  |some rs=>
   rw[e]at this;obtain⟨R,r1,r2⟩:=this;rw[r1];fin2;have l1:=X0 r2;have l2:=Paired.length hh.gJ;by_cases z:60<rs.length\/60<S.gJ.length
   ·rw[ak z,ak (show Vacolq.ROWS<R.length\/Vacolq.COMMITS<T.past.length by rw[<-l1,<-l2];exact z)];exact⟨h,Z⟩
   ·rw[ah z,ah (show¬(Vacolq.ROWS<R.length\/Vacolq.COMMITS<T.past.length) by rw[<-l1,<-l2];exact z)];have p:=lR.put (s':=none) (x':=none) h iZ h0 h8 trivial;have ph:=p.oH fs iZ;refine⟨⟨p.sch,p.next,by simp,p.n8,fun fs' hf=>?_⟩,?_⟩
    ·have hf:S.sch=some fs':=hf;have e:fs=fs':=by rw[iZ]at hf;exact af hf
     subst e;refine⟨ph.gf,i8 (F:=fun rs R=>jj fs rs R/\rs.length<=60) ⟨r2,by omega⟩ hh.gJ,fun n=>tV.ZpE (ph.fg n)⟩
    ·show [(S.gJ.length:Int)]=[(T.past.length:Int)];rw[l2]
 ·rw[ah hm,ak hm];exact⟨h,Z⟩
theorem ZhT(h:lR S T)(iZ:S.sch=some fs){c:cX}(hx:bM T (cf c)=some x):O2 (XQ S c) (dE T fs (.close (cf c))):=by
 obtain⟨h0,h8⟩:=Hh hx;show O2 (XQ S c) (match bM T (cf c)with
  |none=> (T,.refused (-3))
  |some _=> (Hv T (cf c) none,.number 0))
 rw[hx];exact⟨lR.put (s':=none) (x':=none) h iZ h0 h8 trivial,Z⟩
theorem Sd{rs:bN}{R:Zvq}(h:jj fs rs R):DI rs=jh (.ids (R.map fun x=>x.1)):=by unfold DI;rw[KI h,X0 h];show _=(((R.map fun x=>x.1).length:Nat):Int)::(R.map fun x=>x.1).map fun b:Nat=> (b:Int);rw[aZ,eM];rfl
theorem Zkx(h:lR S T)(iZ:S.sch=some fs):O2 (ZfD S) (dE T fs .rows):=⟨h,Sd ((h.oH fs iZ).ji h.ne).1⟩
theorem ZmU(h:lR S T)(iZ:S.sch=some fs)(c:cX):O2 (XR S c) (dE T fs (.row (cf c))):=by
 have hh:=h.oH fs iZ;refine⟨h,?_⟩;show(match oi (iF S) (cf c)with
  |none=>[-4]
  |some r=> (r.1.length:Int)::r.1.map fun b:Nat=> (b:Int))=jh (match kF (cW T) (cf c)with
  |none=> .refused (-4)
  |some v=> .text (nG fs v))
 rcases(hh.ji h.ne).1.look hh.gf.g hh.gf.ne (cf c)with⟨r,v,q1,q2,q3,_⟩|⟨q1,q2⟩
 ·rw[q1,q2];fin2;rw[q3];rfl
 ·rw[q1,q2];rfl
theorem Zky(h:lR S T)(iZ:S.sch=some fs)(c:cX):O2 (UI S c) (dE T fs (.then_ (cf c))):=by
 have hh:=h.oH fs iZ;refine⟨h,?_⟩;show(if cf c<0 then [-4]else match S.gJ[(cf c).toNat]? with
  |none=>[-4]
  |some rs=>DI rs)=jh (if cf c<0 then .refused (-4)else match T.past[(cf c).toNat]? with
  |none=> .refused (-4)
  |some rows=> .ids (rows.map fun x=>x.1))
 by_cases z:cf c<0
 ·rw[ak z,ak z];rfl
 ·rw[ah z,ah z];cases e:S.gJ[(cf c).toNat]? with
  |none=>
   have:T.past[(cf c).toNat]? =none:=by rw[List.getElem?_eq_none_iff]at e⊢;rw[<-Paired.length hh.gJ];exact e
   rw[this];rfl
  |some rs=>obtain⟨R,r1,r2,_⟩:=UJ hh.gJ e;rw[r1];exact Sd r2
end
theorem ZhU(t:LN):jP (t.map fun b:Nat=> (b:Int))=t:=by
 unfold jP;rw[eM];have:(Int.toNat∘fun b:Nat=> (b:Int))=id:=by funext b;simp
 rw[this,List.map_id]
theorem ZfP{t:LN}(h:∀b∈t,b<256):mR (t.map fun b:Nat=> (b:Int))=true:=by unfold mR;rw[fU];intro z hz;obtain⟨b,hb,rfl⟩:=bE.mp hz;have:=h b hb;simp;omega
def eu(c:cX):Vacolq.Call:=if c.num=0 then .schema c.text else if c.num=1 then .begin else if c.num=2 then .put (cf c) c.text else if c.num=3 then .look (cf c) (fB c)else if c.num=4 then .ask (cf c) c.text else if c.num=5 then .replace (cf c) (fB c) c.text else if c.num=6 then .drop (cf c) (fB c)else if c.num=7 then .undo (cf c) (fB c)else if c.num=8 then .why (cf c)else if c.num=9 then .again (cf c)else if c.num=10 then .commit (cf c) (fB c)else if c.num=11 then .close (cf c)else if c.num=12 then .rows else if c.num=13 then .row (cf c)else .then_ (cf c)
theorem Zkz{l:List Int}(h:l.length=0):l=[]:=eR.mp h
theorem X4{l:List Int}(h:l.length=1):∃a,l=[a]:=List.length_eq_one_iff.mp h
theorem ZfQ{l:List Int}(h:l.length=2):∃a b,l=[a,b]:=by
 match l,h with
 |[a,b],_=>exact⟨a,b,Z⟩
theorem ZhV{c:cX}(ok:c.ok)(hb:c.bytes):VacolqNeutral.callOf (mQ c)=some (eu c):=by
 obtain⟨num,eV,text⟩:=c;obtain⟨o1,o2,o3,_⟩:=ok;have o1:num<15:=o1;have o2:eV.length=Ym num:=o2;have hb:∀b∈text,b<256:=hb;have e1:=ZhU text;have e2:=ZfP hb;match num,o1 with
 |0,_=>have:=Zkz o2;subst this;show(if mR (text.map fun b:Nat=> (b:Int))then some (Vacolq.Call.schema (jP (text.map fun b:Nat=> (b:Int))))else none)=_;rw[e2,e1];rfl
 |1,_=>have:=Zkz o2;subst this;rfl
 |2,_=>obtain⟨x,rfl⟩:=X4 o2;show(if mR (text.map fun b:Nat=> (b:Int))then some (Vacolq.Call.put x (jP (text.map fun b:Nat=> (b:Int))))else none)=_;rw[e2,e1];rfl
 |3,_=>obtain⟨x,y,rfl⟩:=ZfQ o2;rfl
 |4,_=>obtain⟨x,rfl⟩:=X4 o2;show(if mR (text.map fun b:Nat=> (b:Int))then some (Vacolq.Call.ask x (jP (text.map fun b:Nat=> (b:Int))))else none)=_;rw[e2,e1];rfl
 |5,_=>obtain⟨x,y,rfl⟩:=ZfQ o2;show(if mR (text.map fun b:Nat=> (b:Int))then some (Vacolq.Call.replace x y (jP (text.map fun b:Nat=> (b:Int))))else none)=_;rw[e2,e1];rfl
 |6,_=>obtain⟨x,y,rfl⟩:=ZfQ o2;rfl
 |7,_=>obtain⟨x,y,rfl⟩:=ZfQ o2;rfl
 |8,_=>obtain⟨x,rfl⟩:=X4 o2;rfl
 |9,_=>obtain⟨x,rfl⟩:=X4 o2;rfl
 |10,_=>obtain⟨x,y,rfl⟩:=ZfQ o2;rfl
 |11,_=>obtain⟨x,rfl⟩:=X4 o2;rfl
 |12,_=>have:=Zkz o2;subst this;rfl
 |13,_=>obtain⟨x,rfl⟩:=X4 o2;rfl
 |14,_=>obtain⟨x,rfl⟩:=X4 o2;rfl
section
variable{fs:Zvn}{S:bD}{T:jH}
theorem ZcW{k:Vacolq.Call}(hk:∀t,k≠ .schema t):Vacolq.step T k=match T.schema with
  |none=> (T,.refused (-2))
  |some fs=>dE T fs k:=by
 cases k with
 |schema t=>exact absurd Z (hk t)
 |_=>rfl
theorem ZM{c:cX}(h2:2<=c.num)(h11:c.num<=11)(hx:bM T (cf c)=none):dE T fs (eu c)=(T,.refused (-3)):=by
 have:c.num=2\/c.num=3\/c.num=4\/c.num=5\/c.num=6\/c.num=7\/c.num=8\/c.num=9\/c.num=10\/c.num=11:=by omega
 rcases this with e|e|e|e|e|e|e|e|e|e
 ·rw[show eu c= .put (cf c) c.text by unfold eu;rw[e];rfl];show Mi T fs (cf c) c.text=_;unfold Mi iI;rw[hx]
 ·rw[show eu c= .look (cf c) (fB c) by unfold eu;rw[e];rfl];show iI T fs (cf c) (fun _=> .ok (.look (fB c)))=_;unfold iI;rw[hx]
 ·rw[show eu c= .ask (cf c) c.text by unfold eu;rw[e];rfl];show iI T fs (cf c) _=_;unfold iI;rw[hx]
 ·rw[show eu c= .replace (cf c) (fB c) c.text by unfold eu;rw[e];rfl];show iI T fs (cf c) _=_;unfold iI;rw[hx]
 ·rw[show eu c= .drop (cf c) (fB c) by unfold eu;rw[e];rfl];show iI T fs (cf c) (fun _=> .ok (.drop (fB c)))=_;unfold iI;rw[hx]
 ·rw[show eu c= .undo (cf c) (fB c) by unfold eu;rw[e];rfl];unfold dE;fin2;rw[hx]
 ·rw[show eu c= .why (cf c) by unfold eu;rw[e];rfl];unfold dE;fin2;rw[hx]
 ·rw[show eu c= .again (cf c) by unfold eu;rw[e];rfl];unfold dE;fin2;rw[hx]
 ·rw[show eu c= .commit (cf c) (fB c) by unfold eu;rw[e];rfl];show BV T fs (cf c) (fB c)=_;unfold BV;rw[hx]
 ·rw[show eu c= .close (cf c) by unfold eu;rw[e];rfl];unfold dE;fin2;rw[hx]
theorem ZkA(h:lR S T)(iZ:S.sch=some fs){c:cX}{s:hJ}{x:fH}(h2:2<=c.num)(h11:c.num<=11)(hx:bM T (cf c)=some x)(so:EA fs T.past s x):O2 (QA fs s S c) (dE T fs (eu c)):=by
 have f:=(h.oH fs iZ).gf;have plain:∀(p:Option dk)(e:Except Int m6),jX fs c (S.next:Int)=p->c.num≠2->c.num<=6->X2 fs p e->(∀d,p=some d->nE d≠2)->O2 (QA fs s S c) (iI T fs (cf c) fun _=>e):=by
  intro p e ep n2 n6 dc np;have:=Zkv h iZ hx so dc np;unfold QA pS2;rw[ak n6,ep];cases p with
  |none=>exact this
  |some d=>dsimp only at this⊢;rw[ah n2];exact this
 have:c.num=2\/c.num=3\/c.num=4\/c.num=5\/c.num=6\/c.num=7\/c.num=8\/c.num=9\/c.num=10\/c.num=11:=by omega
 rcases this with e|e|e|e|e|e|e|e|e|e
 ·rw[show eu c= .put (cf c) c.text by unfold eu;rw[e];rfl,show QA fs s S c=pS2 fs s S c by unfold QA;rw[ak (by omega)]];exact ZmS h iZ e hx so
 ·rw[show eu c= .look (cf c) (fB c) by unfold eu;rw[e];rfl];have ep:jX fs c (S.next:Int)=some (.look (fB c)):=by unfold jX fB;rw[e];rfl
  exact plain _ (.ok (.look (fB c))) ep (by omega) (by omega) (.inr ⟨_,_,Z,Z,Z,bB _⟩) (fun d hd=>by rw[<-af hd];exact(by show(3:Nat)≠2;decide))
 ·rw[show eu c= .ask (cf c) c.text by unfold eu;rw[e];rfl];have ep:jX fs c (S.next:Int)=(gC (dP fs) c.text).map .ask:=by unfold jX;rw[e];rfl
  refine plain _ _ ep (by omega) (by omega) ?_ (fun d hd=>?_)
  ·cases ec:gC (dP fs) c.text with
   |none=>obtain⟨z,ez⟩:=Ow f.g ec;rw[ez];exact .inl ⟨Z,Z⟩
   |some pc=>obtain⟨c',ez,hc'⟩:=AY f.g ec;rw[ez];exact .inr ⟨_,_,Z,Z,hc',AN ec⟩
  ·cases ec:gC (dP fs) c.text with
   |none=>rw[ec]at hd;cases hd
   |some pc=>rw[ec]at hd;rw[<-af hd];exact(by show(4:Nat)≠2;decide)
 ·rw[show eu c= .replace (cf c) (fB c) c.text by unfold eu;rw[e];rfl];have ep:jX fs c (S.next:Int)=(mP fs c.text).map fun v=> .replace (fB c) (c.text,v):=by unfold jX fB;rw[e];rfl
  refine plain _ (Yk fs c.text fun v=> .replace (fB c) v) ep (by omega) (by omega) ?_ (fun d hd=>?_)
  ·unfold Yk;cases ec:mP fs c.text with
   |none=>obtain⟨z,ez⟩:=X1 f ec;rw[ez];exact .inl ⟨Z,Z⟩
   |some v=>rw[(Uy f.g f.ne).mpr ec];exact .inr ⟨_,_,Z,Z,⟨Z,Z,ec⟩,bB _⟩
  ·cases ec:mP fs c.text with
   |none=>rw[ec]at hd;cases hd
   |some v=>rw[ec]at hd;rw[<-af hd];exact(by show(5:Nat)≠2;decide)
 ·rw[show eu c= .drop (cf c) (fB c) by unfold eu;rw[e];rfl];have ep:jX fs c (S.next:Int)=some (.drop (fB c)):=by unfold jX fB;rw[e];rfl
  exact plain _ (.ok (.drop (fB c))) ep (by omega) (by omega) (.inr ⟨_,_,Z,Z,Z,bB _⟩) (fun d hd=>by rw[<-af hd];exact(by show(6:Nat)≠2;decide))
 ·rw[show eu c= .undo (cf c) (fB c) by unfold eu;rw[e];rfl,show QA fs s S c=pS7 s S c by unfold QA;rw[e];rfl];exact Zkw h iZ hx so
 ·rw[show eu c= .why (cf c) by unfold eu;rw[e];rfl,show QA fs s S c=pS8 s S by unfold QA;rw[e];rfl];exact ZmT h iZ hx so
 ·rw[show eu c= .again (cf c) by unfold eu;rw[e];rfl,show QA fs s S c=pS9 s S c by unfold QA;rw[e];rfl];exact ZhS h iZ hx so
 ·rw[show eu c= .commit (cf c) (fB c) by unfold eu;rw[e];rfl,show QA fs s S c=IV s S c by unfold QA;rw[e];rfl];exact ZfN h iZ hx so
 ·rw[show eu c= .close (cf c) by unfold eu;rw[e];rfl,show QA fs s S c=XQ S c by unfold QA;rw[e];rfl];exact ZhT h iZ hx
theorem ZcX{c:cX}(h:lR S T)(ok:c.ok)(hb:c.bytes):lR (qO S c).1 (hX T (mQ c)).1/\(qO S c).2=(hX T (mQ c)).2:=by
 unfold hX;rw[ZhV ok hb];show O2 (qO S c) (Vacolq.step T (eu c));by_cases e0:c.num=0
 ·rw[show eu c= .schema c.text by unfold eu;rw[e0];rfl,show qO S c=pS0 S c by unfold qO;rw[ak e0]];exact ZfM h c
 have hk:∀t,eu c≠ .schema t:=by
  intro t z;have o1:=ok.1;have:c.num=1\/c.num=2\/c.num=3\/c.num=4\/c.num=5\/c.num=6\/c.num=7\/c.num=8\/c.num=9\/c.num=10\/c.num=11\/c.num=12\/c.num=13\/c.num=14:=by omega
  unfold eu at z;rcases this with e|e|e|e|e|e|e|e|e|e|e|e|e|e<;>rw[e]at z<;>cases z
 rw[ZcW hk,<-h.sch];unfold qO;rw[ah e0];cases iZ:S.sch with
 |none=>exact⟨h,Z⟩
 |some fs=>
 fin2;have q:=h.oH fs iZ;by_cases e1:c.num=1
 ·rw[ak e1,show eu c= .begin by unfold eu;rw[e1];rfl];exact ZhQ h iZ
 rw[ah e1];by_cases e11:c.num<=11
 ·rw[ak e11];have hs:=q.fg (cf c);cases e:S.fg (cf c)with
  |none=>rw[e]at hs;rw[ZM (by omega) e11 (tV.nil hs)];exact⟨h,Z⟩
  |some s=>rw[e]at hs;obtain⟨x,hx,so⟩:=tV.get hs;exact ZkA h iZ (by omega) e11 hx so
 rw[ah e11];by_cases e12:c.num=12
 ·rw[ak e12,show eu c= .rows by unfold eu;rw[e12];rfl];exact Zkx h iZ
 rw[ah e12];by_cases e13:c.num=13
 ·rw[ak e13,show eu c= .row (cf c) by unfold eu;rw[e13];rfl];exact ZmU h iZ c
 rw[ah e13];have e14:c.num=14:=by have:=ok.1;omega
 rw[show eu c= .then_ (cf c) by unfold eu;rw[e14];rfl];exact Zky h iZ c
end
theorem ZN:lR (A3 none) lA:=⟨Z,Z,by simp[A3],Z,fun fs h=>by cases h⟩
theorem szB{n:Nat}(h:n<=2100000):n<sizeLine:=vi h (by decide)
theorem Se(l:List Int):(NY l).length=l.length:=List.length_mergeSort l
theorem ZcY{fs:Zvn}{n:Nat}{rs:bN}(h:GR fs n rs)(hn:n<=4000)(d:dk):(jE rs d).length<=4001:=by
 cases d with
 |put n r=>simp[jE]
 |look m=>
  show(match oi rs m with
   |some r=> (r.1.length:Int)::r.1.map fun b:Nat=> (b:Int)
   |none=>[0]).length<=4001
  cases e:oi rs m with
  |none=>simp
  |some r=>have:=h.text _ (oj e);fin2;rw[bg,aZ];exact Pa this
 |ask c=>show(((AQ rs c).length:Int)::AQ rs c).length<=4001;have l1:=iB (AO rs c) (NY (rs.map (·.1)));rw[Se,aZ]at l1;have l2:=h.len;rw[bg];unfold AQ;omega
 |replace m r=>show(if mC rs m=true then [1]else [0]:List Int).length<=4001;split<;>simp
 |drop m=>show(if mC rs m=true then [1]else [0]:List Int).length<=4001;split<;>simp
theorem Sf{rs:bN}(h:rs.length<=60):(DI rs).length<=4001:=by unfold DI;rw[bg,Se,aZ];omega
theorem ZhW{fs:Zvn}{S:bD}{s:hJ}(c:cX)(gf:GF fs)(gb:GR fs 60 s.base)(Ve:∀d∈s.ds,GD fs d)(g40:s.ds.length<=40):(pS2 fs s S c).2.length<=4001:=by
 unfold pS2;split
 ·simp
 ·split
  ·simp
  ·exact ZcY (GR.all gf gb Ve) (by omega) _
theorem ZhX{fs:Zvn}{S:bD}{s:hJ}(c:cX)(gf:GF fs)(gb:GR fs 60 s.base)(Ve:∀d∈s.ds,GD fs d)(g40:s.ds.length<=40):(QA fs s S c).2.length<=4001:=by
 unfold QA;split
 ·exact ZhW c gf gb Ve g40
 ·split
  ·unfold pS7;split<;>simp
  ·split
   ·simp[pS8]
   ·split
    ·simp[pS9]
    ·split
     ·unfold IV;split
      ·split
       ·simp
       ·split<;>simp
      ·simp
     ·simp[XQ]
theorem ZfR{S:bD}(h:SOk S)(c:cX):(qO S c).2.length<=4001:=by
 unfold qO;split
 ·unfold pS0;split<;>simp
 ·cases iZ:S.sch with
  |none=>simp
  |some fs=>
   obtain⟨gf,gh,gs⟩:=h.gd fs iZ;have gn:=gh _ (Bt h.ne);fin2;split
   ·unfold pS1;split<;>simp
   ·split
    ·cases e:S.fg (cf c)with
     |none=>simp
     |some s=>obtain⟨g1,g2,g3⟩:=gs _ _ e;exact ZhX c gf g1 g2 g3
    ·split
     ·exact Sf gn.len
     ·split
      ·unfold XR;cases e:oi (iF S) (cf c)with
       |none=>simp
       |some r=>have:=gn.text _ (oj e);fin2;rw[bg,aZ];exact Pa this
      ·unfold UI;fin2;split
       ·simp
       ·cases e:S.gJ[(cf c).toNat]? with
        |none=>simp
        |some rs=>exact Sf (gh _ (bj e)).len
theorem ON:∀(k:Nat)(cs:List cX)(i:Nat)(c:cX),cs[i]? =some c->(mB k cs)[i]? =some (k+((cs.take i).flatMap fX).length,c)
 |_,[],_,_,h=>by cases h
 |k,x::r,0,c,h=>by have:x=c:=af h;subst this;rfl
 |k,x::r,i+1,c,h=>by rw[mB,YE,ON (k+(fX x).length) r i c (by simpa using h),gx,dM,aX,x9]
theorem ZfS(c:cX):1<=(fX c).length:=by unfold fX;rw[bg];omega
theorem Wd.heap{a:cV}{F:Fr}{H H':Hp}{ow:ao->Option uF}{t:ao}{S:bD}{c:Nat}(W:Wd a F H ow t S c)(z:jJ F H')(k:∀b y,ow b=some y->H' b=H b):Wd a F H' ow t S c:=by
 refine⟨z,fun b y e=>?_,W.cG,?_⟩
 ·rw[k b y e];exact W.free b y e
 ·obtain⟨dt,hh,sd,sv,Bv,br,o1,o2,o3,h1,h2,h3,h4,h5,h6,h7,h8⟩:=W.Yo;exact⟨dt,hh,sd,sv,Bv,br,o1,o2,o3,by rw[k _ _ o1];exact h1,by rw[k _ _ o2];exact h2,by rw[k _ _ o3];exact h3,h4,h5,h6,h7,fun n=>eO.to (Le.refl F) (fun b y e _=> ⟨k b y e,e⟩) (h8 n)⟩
theorem Wd.off{a:cV}{F:Fr}{H:Hp}{ow:ao->Option uF}{t p:ao}{S:bD}{c:Nat}{o:HO}(W:Wd a F H ow t S c)(w:ow p=none)(g:F.G p=none)(l:F.L p=none):Wd a F (bp H p o) ow t S c:=W.heap (W.fz.U1 g l) fun b y e=>aF fun z=>by rw[z,w]at e;cases e
section
inductive Sg(K:ae)(vs:LV)(H:Hp)(Q:VK)(_:XK):Prop
 |mk (p:ao) (l:List Int) (_:vs=[.ref p]) (_:ft K H p (l.map V.int)) (_:xt l=true) (_:∀q H',H' q=some (.bz ((Jj l).map V.int))->Q (.ref q) H')
theorem ZO(T:il K mg a):ue P w K mg base (Be P w) 62 a.Bg a.Ic Rj (Sg K):=by
 refine T.Rv.ok0 MX (fun vs H Q E h=>?_) (fun la A bC s H vs Q E hr h=>?_)
 ·obtain⟨p,l,rfl,_⟩:=h;rfl
 ·obtain⟨p,l,rfl,hp,Zq2,k⟩:=h;have nd:=MX.nd;refine⟨_,ai (bq (i:=1) nd (Zeu (QC T) hr bh)) (ai (bq (i:=2) nd (dO az)) (ai (lC iw.never Z (kT (ba (NW T) hr bh (ag (pv 0) az))) (gW (i:=3) nd) (ai (bq (i:=4) nd (ba (OK T) hr bh (ag (pv 1) (ag (pv 3) az)))) (ai (dm (ui b9 cA cB jq (pv 2) (ag (rZ T (pv 4)) az))) (aq (dm (ui b9 Sv Sw Q2 (pv 2) (ag (pv 4) az))))))) (aq (aN (pv 2))))),?_⟩;walk;obtain⟨cs,hcs,hfl,fN,ZnW⟩:=XN Zq2;have Zq3:Jj l=BW (wa hX lA (cs.map mQ)):=by unfold Jj;rw[hcs]
  rw[hfl]at hp;intro t dt nt ndt net;refine⟨t,dt,Z,au,fun H1 e hh sd ne nhh nsd q1 q2 q3 q4 q5 q6 e1 e2 e3 e4 oth=> ⟨Z,?_⟩⟩;have s0:aS H (bp (bp H dt (.own t)) t (.ins a.cU dt [])):=kX nt ndt;generalize bp (bp H dt (.own t)) t (.ins a.cU dt [])=H0 at s0 ne nhh nsd oth;have s1:aS H H1:=fun b o h=>by have h0:=s0 _ _ h;rw[oth b (aR h nt) (aR h0 ne) (aR h0 nhh) (aR h0 nsd)];exact h0
  have zF0:jJ ⟨fun _=>none,fun _=>none,[]⟩ H0:=⟨fun b o e=> (by cases e),fun b v e=> (by cases e),fun b v e=> (by cases e),bB _⟩;have W0:=Wd.ZmQ (a:=a) (sch:=none) (n:=0) zF0 Z Z ne nhh nsd q1 q2 q3 q4 q5 q6 e1 e2 e3 e4 oth Z (bB _);generalize hF:Fr.ER ⟨fun _=>none,fun _=>none,[]⟩ e (.dK [])=F0 at W0;have gm0:F0.Zvl=[]:=by rw[<-hF];rfl
  generalize (fun b=>if b=t then some uF.t else if b=hh then some uF.h else if b=sd then some uF.d else none:ao->Option uF)=ow at W0;refine⟨(mr 0),fun a0 na0=>?_⟩;have ow0:ow a0=none:=by
   cases z:ow a0 with
   |none=>rfl
   |some y=>exact absurd na0 (W0.free _ _ z).1
  have ga0:=W0.fz.g0 na0;have la0:=W0.fz.l0 na0;obtain⟨x2,z2⟩:=iG.tmp (o:= .bz []) W0.fz na0;have s2:=aS.dW (o:=(.bz [])) (aS.refl H1) na0;have ha0:= @au H1 a0 (.bz []);generalize bp H1 a0 (.bz [])=H2 at x2 z2 s2 ha0;refine⟨_,Z,p,cs,Z,ft.same hp (s1.trans s2),fun c hc=> (fN c hc).1,ZnW,fun q ys H3 s3 hq sr=>?_⟩;obtain⟨x3,z3⟩:=iG.add z2 s3;have hq1:Add F0.G H2 H3 q=some (.bz ys):=Add.new _ _ hq;have Zgf:Paired (fun c v=>pC a (Add F0.G H2 H3) c.1 c.2 v) (mB 0 cs) ys:=Paired.wm sr fun c v h=>h.same Add.new;have x13:=x2.trans x3;have W3:=W0.ext x13.toiT z3 (aC 0) (by show F0.Zvl.length<=0;rw[gm0];exact aC _);have ha3:=s3 _ _ ha0;have ga3:Add F0.G H2 H3 a0=none:=by unfold Add;rw[ha0];exact ga0
  have Hw:=Paired.length Zgf;rw[En]at Hw;refine⟨q,Z,⟨_,ft.of (z3.sub _ _ hq1)⟩,lE (K:=K) (a:=q) (xs:=ys) (fun i σ H4=> ∃(v3 v4:Option V)(S:bD)(U:jH)(F:Fr)(ow:ao->Option uF)(bI:List Int),σ=[some (.ref p),some (.ref t),some (.ref a0),v3,v4]/\Wd a F H4 ow t S i/\lR S U/\Le ⟨Add F0.G H2 H3,F0.L,F0.Zvl⟩ F/\H4 a0=some (.bz (bI.map V.int))/\ow a0=none/\F.G a0=none/\F.L a0=none/\(∀x∈F.Zvl,x.1< ((((cs.take i).flatMap fX).length:Nat):Int))/\bI.length<=5002*i/\BW (wa hX lA (cs.map mQ))=bI++BW (wa hX U ((cs.drop i).map mQ))) ⟨none,none,A3 none,lA,_,ow,[],Z,W3,ZN,Le.refl _,ha3,ow0,ga3,la0,?_,bB _,by rw[ib,gL]⟩ (fun i σ H4 _ h9=>by obtain⟨_,_,_,_,_,_,_,_,W,_,le,_⟩:=h9;exact ft.of (W.fz.sub _ _ (le.gs _ _ hq1))) ?_ ?_⟩
  ·intro x hx;have hx:x∈F0.Zvl:=hx;rw[gm0]at hx;cases hx
  ·rintro i y σ H4 hi ⟨v3,v4,S,U,F,ow,bI,rfl,W,hSR,le,ha4,ow4,ga4,la4,hG,hal,OV⟩;walk;obtain⟨pc,hpc,qP⟩:=iE Zgf hi;have hil:i<cs.length:=by have:=(aW.mp hi).1;omega
   obtain⟨c,hc⟩:∃c,cs[i]? =some c:=⟨cs[i],by simp[hil]⟩;have hpl:=ON 0 cs i c hc;rw[hpc]at hpl;have hpl:pc=(0+((cs.take i).flatMap fX).length,c):=af hpl;rw[k9]at hpl;subst hpl;obtain⟨okc,okb⟩:=fN c (bj hc);obtain⟨m1,m2⟩:=ZcX hSR okc okb;have jL:=ZfR hSR.ok c;have EB:((cs.take (i+1)).flatMap fX).length=((cs.take i).flatMap fX).length+(fX c).length:=by rw[i7 hc,ka,aX,dM,OY,cJ]
   have Znf:=ZfS c;refine⟨_,Z,_,Z,t,y,S,ow,F,_,c,i,Z,W,hSR.ok,qP.same le.gs,okc,hG,by omega,trivial,fun qr F' H' EE W' M gk hqr=>?_⟩;have ha':=M.keep _ _ ha4 la4 ow4;have nza:=si ha4;have ga':F'.G a0=none:=by rw[M.gn _ nza];exact ga4
   have la':F'.L a0=none:=by rw[M.ln _ nza];exact la4
   have Zog:=M.on _ nza ow4;have Zlc:=W'.fz.sub _ _ hqr;have qa:qr≠a0:=fun z=>by rw[z,ga']at hqr;cases hqr
   generalize hnums:(qO S c).2=eV at hqr Zlc jL m2;refine⟨_,Z,.inl ⟨Z,_,ft.of ha'⟩,_,Z,qr,_,Z,.inl (ft.of Zlc),a0,_,_,Z,Z,ha',szB (by rw[aZ];omega),?_⟩;rw[aZ];refine⟨_,Z,.inl ⟨Z,_,ft.of au⟩,_,Z,a0,qr,_,_,Z,Z,au,by rw[aF qa];exact Zlc,fZ (szB (by simp;omega)),?_⟩;rw[fC];refine⟨some y,some (.ref qr),(qO S c).1,(hX U (mQ c)).1,F',EE,bI++((eV.length:Int)::eV),Z,W'.off Zog ga' la',m1,le.trans M.le,?_,Zog,ga',la',fun x hx=>?_,?_,?_⟩
   ·rw[cg,aY,dJ];exact au
   ·rw[EB];rcases gk x hx with z|z
    ·have:=hG x z;omega
    ·omega
   ·rw[aX,bg];omega
   ·rw[OV,og hc,aY,wa,<-m2];unfold BW;rw[dM,dJ]
  ·rintro σ H4 ⟨v3,v4,S,U,F,ow,bI,rfl,W,hSR,le,ha4,ow4,ga4,la4,hG,hal,OV⟩;walk;rw[<-Hw,ko]at OV;have OV:BW (wa hX lA (cs.map mQ))=bI++[]:=OV;rw[cJ]at OV;refine⟨_,Z,k a0 H4 ?_⟩;rw[Zq3,OV];exact ha4
end
theorem Zrn{r:PySem.W.OpenSpec}{k:Nat}{q:aV}{Sb:LS}{XP:SV->bb->Prop}{YP:bG->bb->Prop}{d:DefRec}{K:Jf->ae}{CX:bG->YT}{ps:LS}{sp:ae->Sp} (ZfX:r.wellSaid=true)(hdf:d.params.defaults=[])(jL:r.args.length=ps.length)(hr:ku k YA) (hY:∀(w:bG)(h:bb),YP w h->(K w.params).In h) (F:∀(w:bG)(mg:SV)(fa:ao)(h:bb),YP w h->(K w.params).In h->h.Ns d9 mg->mg d.name=some (.ref fa)->∃fd:eL,(∀(s:aB)(us:List aj),us.length=ps.length->Yx s fd ⟨us,[]⟩ (ps.zip us))/\∀base:bb,(K w.params).In base->base.Ns d9 mg->ue r.prog w (K w.params) mg base (CX w) k fa fd ps (sp (K w.params))) (hsp:∀(K:ae)(H:Hp)(xs:LV)(a:PySem.W.Codec.denoteAll r.args),VF H->PySem.W.Codec.withinAll r.args a=true->PySem.W.Codec.app r.args r.asked a=true->xy K H xs (PySem.W.Codec.encAll r.args a)->sp K xs H (fun v H'=>Dw K H' v (r.ret.enc (PySem.W.Codec.app r.args r.f a))) fun _ _ _=>False) (hCX:∀(w:bG)(H:Hp)(s:aB)(e:aj)(s':aB),CX w [] H s (fun _ _ _=>False) e s'->False):PySem.W.WalkOS q Sb XP YP r d [] (fun f vs=>PySem.call f vs):=ZbK (K:=K) (CX:=CX) (sp:=fun w=>sp (K w.params)) ZfX hdf jL hr hY F (fun w H xs a h1 h2 h3 h4=>hsp (K w.params) H xs a h1 h2 h3 h4) hCX
theorem tS{P:aV}{w:bG}{K:ae}{mg:SV}{fa:ao}{a:cV}(hfa:mg "answers" =some (.ref fa))(T:il K mg a):∃fd:eL,(∀(s:aB)(us:List aj),us.length=(["calls"]:LS).length->Yx s fd ⟨us,[]⟩ ((["calls"]:LS).zip us))/\∀base:bb,K.In base->base.Ns d9 mg->ue P w K mg base (Be P w) 62 fa fd ["calls"] (Sg K):=by
 refine⟨a.Ic,fun s us hu=>?_,fun base _ _=>?_⟩
 ·obtain⟨oc,od,kV,doc,pm,an,la,ct,osl,e,_,_⟩:=T.Rv.ex;rw[e];obtain⟨u,rfl⟩:=List.length_eq_one_iff.1 hu;exact .of_eq Z
 ·have q:=hfa.symm.trans T.Zb4;injection q with q;injection q with q;rw[q];exact ZO T
end MW
section
open PySem PySem.W PyProof.Rows
set_option maxHeartbeats 0
theorem PySem.Challenge.cw_manywriters_s01_answers_holds : PySem.Challenge.rw_manywriters_s01_answers.Holds := by
 refine Hd.d8 ?_
 intro w s t m b G y
 obtain ⟨o,x⟩:=y
 refine MW.Zrn (YP:=fun _ h=>(Hd.K2 w o).In h) (K:=fun _=>Hd.K2 w o) (k:=62) (CX:=fun w=>L2.Be PySem.Challenge.rw_manywriters_s01_answers.prog w) (ps:=["calls"]) (sp:=MW.Sg) Hd.c6 Hd.d5 rfl ⟨rfl,by decide,by decide⟩ (fun _ _ y=>y) ?F ?S ?C w s t m b G x
 case F=>
  intro v mg fa h Y X G m
  rw[Hd.d4] at m
  obtain ⟨a,z⟩:=MW.ZsK w o X G
  exact MW.tS m z.2
 case S=>
  intro K H xs a hO hwi hask hx
  cases hx with
  |cons h1 h2=>
   cases h2
   cases h1 with
   |bz hs ha=>
    have e:=L2.ZgV a.1 _ ha
    subst e
    exact ⟨_,a.1,rfl,hs,hask,fun q H' hq=>.bz (L2.ft.of hq) (L2.ZgU _)⟩
 case C=>
  intro w H s e s' h
  obtain ⟨_,_,_,_,_,_,_,_,_,z⟩:=h
  exact z
end
