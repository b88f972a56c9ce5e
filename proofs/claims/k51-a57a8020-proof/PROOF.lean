import PyProof.Rows.All
import Wide.All
import OpenK.AllK
import Wide.FinOn
import Lean
import PyProof.EqAt
import PyProof.EqKinds
import PyProof.TupleCall
import PyProof.CompFree
import PyProof.P3In
import PyProof.RaisesMany
import PyProof.StationsW
import PyProof.ExcClass3
import PyProof.ExcBaseAll.ValueError
import PyProof.RulesTry
import PyProof.RulesAs
import PyProof.NsDelKeeps
import KE.KTryMore
import PyProof.ExcArgs
import KE.RegKIsAll
import PyProof.Rows.EqDataRows
import KE.KLam
import KE.KSortKey
import KE.KNestM
import PyProof.DictItemsLoops
import PyProof.DictValues
import PyProof.DictWalks
import KE.KMinBuiltin
import KE.KEqDict
import KE.KIntText
import KE.KDictOf
import PyProof.StrBlockH
import KE.KWords
import PyProof.CallStr
import PyProof.StrLawsTight
import PyProof.StrLawsChain
import PyProof.AttrMissHeap
import KE.KSortTup
import Wide.Seal
import PySem.Challenge.RW_twotimes_k51_first_broken
set_option Elab.async false
set_option linter.all false
set_option maxRecDepth 100000
set_option compiler.extract_closed false
set_option bootstrap.genMatcherCode false
noncomputable section
open List renaming length_map→aT,mem_append→aU,getElem?_map→aW,mem_singleton→aX,map_cons→aY,getElem?_eq_some_iff→aZ,mem_cons→bf,getElem?_eq_getElem→bh,length_append→bn,mem_of_getElem?→bo,length_cons→bp,map_append→bt,mem_map→bu,mem_filter→bz,pairwise_append→bA,map_nil→bB,length_take→bC,pairwise_cons→bD,size_toArray→bG,append_assoc→bH,map_map→bJ,mem_append_right→bK,length→bM,append_nil→bN,find?_cons→bO,Perm→bP,mem_append_left→bR,take_length→bT,pairwise_map→bV,mem_filterMap→bW,nodup_cons→bX,length_drop→b7,mem_map_of_mem→b8,mem_cons_of_mem→ca,filter_cons→cc,length_filter_le→cf,lookup_cons→cg,cons→ci,all_cons→cj,filterMap_cons→cm,take_of_length_le→cr,getElem?_of_mem→cu,length_filterMap_le→cx,mem_cons_self→cy,take_add_one→cz,pairwise_iff_getElem→cA,nodup_append→cB,filter_append→cC,flatMap_append→cD,range→cE,of_mem_zip→cG,Pairwise→cH,any_cons→cI,all_eq_true→cK,drop_eq_nil_of_le→cM,reverse_append→cN,reverse_singleton→cO,take_append_drop→cP,length_pos_iff→cQ,append_of_mem→cS,flatMap_cons→cT,getElem?_append_right→cV,getElem?_append_left→cW,length_eq_zero_iff→cY,getElem?_drop→dc,mem_of_mem_take→de,getElem?_set_ne→di,lookup→dj,replicate→dr,take_sublist→dt,reverse_cons→du,lookup_append→dy,drop_eq_getElem_cons→dz,mem_of_mem_drop→dA,extract_eq_take_drop→dB,mem_iff_getElem→dE,nil_append→dG,cons_append→dH,getElem_mem→dI,any_eq_true→dN,mem_of_find?_eq_some→dO,find?_some→dP,filter_sublist→dQ,mem_flatMap→dR,getElem?_set_self→dS,length_nil→dY,pairwise_singleton→d0,getElem?_take→d5,drop_append→d7,take_append_of_le_length→d8,eraseIdx_cons_succ→ed,ext_getElem?→eg,getElem?_eq_none→ei,dropLast_subset→et,find?_eq_none→eu,length_flatMap→ez,getElem?_eq_none_iff→eD,filterMap_append→eN,drop_sublist→eO,perm_middle→eP,perm_append_comm→eR,singleton_append→eT,zipIdx_cons→eU,drop_append_of_le_length→eY,flatten_cons→eZ,lt_irrefl→fc,map_congr_left→ff,zip_cons_cons→fh,eq_nil_of_length_eq_zero→fj,filter_cons_of_neg→fm,filter_cons_of_pos→fq,find?_append→ft,getLast?_eq_none_iff→fu,drop_succ_cons→fw,find?_isSome→fy,flatMap_nil→fA,take_zero→fB,filter_nil→fD,map_eq_nil_iff→fE
open Nat renaming le_refl→aV,le_trans→be,ne_of_lt→bj,lt_of_lt_of_le→bx,zero_le→bE,lt_irrefl→b6,le_of_lt→b9,ne_of_gt→cn,le_of_eq→cF,le_of_succ_le→cL,lt_succ_of_lt→cX,zero_add→dg,lt_succ_self→dk,le_succ→dq,lt_of_le_of_lt→dw,add_sub_cancel→dD,min_le_right→dU,add_zero→d6,add_assoc→d9
open False renaming elim→bg
open Option renaming some→bv,map_some→cJ,getD_none→dW,isSome_map→dX,isSome_iff_exists→eJ,bind_some→eM,none_or→fv,toList_none→fC
open Int renaming le_trans→bI,le_refl→bZ,le_of_lt→b5,not_lt→dC,eq_ofNat_of_zero_le→dL,toNat_natCast→fe
open Bool renaming false_ne_true→bL,false_eq_true→bQ,and_eq_true→bS,not_true→cR,eq_iff_iff→cU,and_false→dv,and_true→dM,false_and→en,true_and→eK,not_eq_true'→fx
open Array renaming toList_push→bU,length_toList→cb,getElem?_toList→cw,perm_iff_toList_perm→cZ,Perm→dh,getElem?_eq_getElem→dJ,append_empty→ej,append_assoc→eE,mem_toList_iff→eI,toList_extract→eV,getElem?_modify→e7,toArray_toList→e8,size_map→e9,forIn_toList→fg
open Or renaming inr→bY,inl→cq
open PySem renaming wpAny_bind→fF,sizeLine→fG,wpAny_pure→fI,Program→fK,starEach→fL,compareOp→fM,Builtin→fO,NameKind→fP,cellsFrom→fQ,sizeLine_eq→fR,PassesOwn→fT,mainGlobals→fU,binaryOp→fV,wpAny_mono→fW,sysModules→fX,FuncData→fY,wpAny_holding→f7,holding→gb,bootBuiltins→gg,wpAny_field→gh,valueAt→gi,codeAny→gq,wpAny_truthy_bool→gw,assignEach→gz,wpAny_call_entry→gA,standAt→gB,attributeBase→gE,SetTable→gG,wpAny_rule→gJ,wpAny_seqItems→gL,swapsWith→gM,inplaceOp→gN,wpAny_passesOwn→gO,behindInMarks→gR,wpAny_Call_Name_kw→gU,typeIs_str→gY,sliceBounds→gZ,callerA→g0,Arguments→g7,foldedSetIterable→hU,BindsTo→hV,bindArgs→hZ,call_meetsIn→ib,compEnvC→ic,wpAny_newList→ie,wpAny_letGo→ig,tupleKind→ii,builtinsNs→ij,DictEntry→im,getMethod→io,codeAny_mono→ip,callWith→iq,backToKw→ir,keywordEach→iu,Keyword→iw,getItem→iy,wpAny_newObj_type→iz,tupleKind_room_in1→iA,closureFor→iB,notedBy→iC,wpAny_newTuple→iH,wpAny_tryCatch→iJ,wpAny_execs_nil→iK,setItem→iM,unaryOp→iN,lastMarks→iO,wpAny_call→iP,CellsOk→iQ,wpAny_getItem_str_slice→iR,post_val_or_str→iS,wpAny_attempt→iU,GenState→iV,wpAny_setField_rec→iW,wpAny_forIn_list→iX,wpAny_updateSeq→iY,wpAny_isInstance→iZ,plainId_quiet→i6,wpAny_dictEntries→i7,storeName→i8,wpAny_Name→i9,swapsWithSole→ja,swappedStores→jc,letOwnedTupleGo→jd,wpAny_pyIter_list→jf,seqIndex_of→jg,seqIndex_neg→jh,compPost→jj,unsupported→jl,wpAny_of_eq→ju,defaultsOf→jx,wpAny_richCompare_same_room→jy,codeAny_builtin→jz
open PyProof.Rows renaming wpS_bind→fH,wpS_pure→fJ,pendingOf→fN,wpS_forRange→fZ,IntsAre→f6,failedOf→f8,wpS_mono→f9,SortKind→gj,wpS_modify→gn,wpS_get→gr,AllBare→gu,pairsOf→g8,listUpdate_at→g9,reverseSlice'→iE,setPending→iF,seqEpoch_at→iG,size_push'→iI,oneType'→iT,StrsAre→i3,sortedS→i5,subscriptTail_builtinR→ji,mergeAt'→jm,listItems_at→jo,kind_sorted→jp,plain_sorted→jq,entry_sorted→jr,slot_list_sort→js,entry_list_sort→jt
abbrev Fg:=PySem.W.Frag
set_option tactic.hygienic false
namespace PySem.W.Fast
noncomputable def z:=0
def tw12120313681214716477:=z
def tw8848839921906108874:=z
def tw2626062142129132737:=z
def tw16002825272003442615:=z
def tw10271990579046543158:=z
def tw18205433859569826065:=z
def tw3199222531395531956:=z
def tw8843522870645625849:=z
def tw11882949061110952092:=z
def tw1064498846976099856:=z
def tw1277864516446330461:=z
def tw259256373571382445:=z
def tw8973833961944351152:=z
def tw12590290734744731707:=z
def tw1708310788234415117:=z
def tw1121074063504157224:=z
def tw11057156812222834354:=z
def tw17471274581612178078:=z
def tw17263725875061074468:=z
def tw15854030084887704350:=z
def tw2087419590628718552:=z
def tw16928160207611860875:=z
def tw18071797794270627064:=z
def tw11963823265573620303:=z
def tw4647127970002777079:=z
def tw14761484561516738930:=z
def tw14167178738481649134:=z
def tw7561756149384495805:=z
def tw7078577163572082662:=z
def tw15251576176996945977:=z
def tw956989616798503669:=z
def tw14015852830572588484:=z
def tw17592742067378836853:=z
def tw3270675545211491547:=z
def tw11002013738909044737:=z
def tw5110787166167019471:=z
def tw15155249132725533694:=z
def tw8437009200335247944:=z
def tw4813756504178106212:=z
def tw10840758830792624637:=z
def tw1327815424733431372:=z
def tw4463116766804255460:=z
def tw9435217528223427261:=z
def tw9540782967342865157:=z
def tw2725082459868273174:=z
def tw17632878773630457148:=z
def tw7412054319426832839:=z
def tw1627661539517472226:=z
def tw9014538959116098702:=z
def tw10714361458706100970:=z
def tw12746954461649996924:=z
def tw2445557619753824353:=z
def tw2849232021896883449:=z
def tw11524362274735718543:=z
def tw14979147966628371889:=z
def tw10959215966202562847:=z
def tw15912011151995120942:=z
def tw1110219468297925978:=z
def tw1744624563350645573:=z
def tw15681010576543271371:=z
def tw16815726399156972356:=z
def tw1690988208190209117:=z
def tw2270459495485189108:=z
def tw6896316322129469287:=z
def tw3520504570054149233:=z
def tw2658051853822800677:=z
def tw17502712287422315266:=z
def tw14966526517536685022:=z
def tw125957634063519044:=z
def tw5195238641604512771:=z
def tw17067208410827777099:=z
def tw10073739218986392405:=z
def tw7848393724224313819:=z
def tw16442074914134632147:=z
def tw952243744722553626:=z
def tw10401988503473370763:=z
def tw13540039984088380864:=z
def tw2785142867399092300:=z
def tw12967347082815686737:=z
def tw1572240757633578779:=z
def tw972474153698554742:=z
def tw16078454194497356193:=z
def tw5285260795997959878:=z
def tw16549666049275137168:=z
def tw10597890914229671532:=z
def tw5476129400986141597:=z
def tw9682127090671444020:=z
def tw14276934077062613130:=z
def tw14188054814230727152:=z
def tw10012044480098084444:=z
def tw16370389664532796239:=z
def tw15848945178806634815:=z
def tw6886613219676415216:=z
def tw1656418980249081990:=z
def tw12252577679321497867:=z
def tw11443330549018757659:=z
def tw1176821504872819567:=z
def tw9114602191564644158:=z
def tw12837719624377284828:=z
def tw13861336545872444817:=z
def tw13113894789665768805:=z
def tw6588327419650923558:=z
def tw6280559167352105792:=z
def tw7284348328498942756:=z
def tw14263700103838280088:=z
def tw12441917082513578184:=z
def tw18045940158469111486:=z
def tw1902218576064256904:=z
def tw7036321058260722238:=z
def tw18148222263404866001:=z
def tw16027684916897919453:=z
def tw14734300006739451371:=z
def tw13294045020809302405:=z
def tw11415263732330540893:=z
def tw4492172141384562802:=z
def tw12151515010791981922:=z
def tw424981385289454673:=z
def tw6652086476423656450:=z
def tw7583071364175457218:=z
def tw5036157210727037845:=z
def tw14732489400531050394:=z
def tw16554603583473740279:=z
def tw10136137097633422255:=z
def tw3418252097769796299:=z
def tw17936716521860484355:=z
def tw6034334911946938012:=z
def tw12372701898058046884:=z
def tw10276889625916784272:=z
def tw15071473993295634324:=z
def tw17282101447904214865:=z
def tw5593996394582494950:=z
def tw6220664506903113647:=z
def tw6099881378979904823:=z
def tw16112082531580462746:=z
def tw18187778789866063827:=z
def tw15599966660488404165:=z
def tw12199763998191501428:=z
def tw14506258227110803294:=z
def tw9617546179900450938:=z
def tw9335071850234964576:=z
def tw6754252113441215017:=z
def tw8795156890607997208:=z
def tw170477384838037386:=z
def tw6572982901914393079:=z
def tw9668308326391539036:=z
def tw16446982683222569062:=z
def tw7208760387359493588:=z
def tw6186489393901598310:=z
def tw17282278110894202004:=z
def tw14714661553234184817:=z
def tw10281628431880148667:=z
def tw2394924839781899904:=z
def tw8133941034151310272:=z
def tw15979930343497671442:=z
def tw8792534920493850491:=z
def tw17126899941133147229:=z
def tw16554703624837207325:=z
def tw14565282327904373500:=z
def tw14948572642083669912:=z
def tw2734601393968172487:=z
def tw4436658045954016609:=z
def tw10220521387059967016:=z
def tw11308798393741378456:=z
def tw2866217582575358057:=z
def tw3227490710946525663:=z
def tw12456385177329831142:=z
def tw8547759848764177020:=z
def tw16513426868318605933:=z
def tw17867104404400993111:=z
def tw15197452849125502611:=z
def tw4968147915819023480:=z
def tw10762345199567011559:=z
def tw3578757838417739156:=z
def tw2176761649839080258:=z
def tw4759651899888059848:=z
def tw11931142344706319517:=z
def tw10030690725029500832:=z
def tw17941169751226480987:=z
def tw1186416810568286738:=z
def tw11361353171742919455:=z
def tw13513364913773719638:=z
def tw12047062736663152341:=z
def tw3532608681041366874:=z
def tw3615556911282127837:=z
def tw7214311118904512088:=z
def tw12820645073903471639:=z
def tw12285475133610383579:=z
def tw5522559130863918277:=z
def tw9454626787047638117:=z
def tw836801877411927447:=z
def tw14210391754153703320:=z
def tw1255074378112772420:=z
def tw15802154882821587100:=z
def tw11115282789430112248:=z
def tw11058099627386051997:=z
def tw16502661195951823263:=z
def tw16517432220631209373:=z
def tw13234377093893740555:=z
def tw98869405664334699:=z
def tw16559489740043012258:=z
def tw3808399576464797259:=z
def tw6487922993052673107:=z
def tw4982385026139718688:=z
def tw10679394694765460626:=z
def tw11017497966955732943:=z
def tw9804181674482656658:=z
def tw10943853823417776003:=z
def tw1864349455322709345:=z
def tw2853953198032429602:=z
def tw14971825991394963582:=z
def tw3889089034342698301:=z
def tw1507752783477435368:=z
def tw9848759795860369983:=z
def tw7684355870285448569:=z
def tw3458491230785442310:=z
def tw16190575308665384599:=z
def tw96328192920052468:=z
def tw15675502240035860794:=z
def tw6091364138142298059:=z
def tw12608973059451111046:=z
def tw6686578756636358176:=z
def tw15288438556995651408:=z
def tw7699923240531646645:=z
def tw8123109385035614905:=z
def tw9744867317458114080:=z
def tw12358308021700961960:=z
def tw15454264324039520529:=z
def tw11889248979481774218:=z
def tw4384686527143827177:=z
def tw14599427913027076067:=z
def tw7366989291798666617:=z
def tw2212353410332751358:=z
def tw12372591517391011051:=z
def tw11075155999643995891:=z
def tw17600771400489085293:=z
def tw18374951533610752945:=z
def tw7836148359289426365:=z
def tw8690584177122975244:=z
def tw4905549380807008573:=z
end PySem.W.Fast
namespace L2
open PySem PySem.Spec PyProof.Rows
abbrev Key:=Sum (Option Int) Str
noncomputable def b5n:Value->Bool
 |.none=>true
 |_=>false
noncomputable def a55:Key->Value->Bool
 |.inl (some k),v=>Value.isInt k v
 |.inl none,v=>b5n v
 |.inr x,v=>Value.isStrOf x v
noncomputable def keyH(w:World):Key->Int
 |.inl (some k)=>hashInt k
 |.inl none=>reduceHash 0xFCA86420
 |.inr x=>hashStr w x
theorem a0o:∀{k:Key}{v:Value},a55 k v=true->(∃i t,k=Sum.inl (some i)/\v=Value.int i t)\/(∃x t,k=Sum.inr x/\v=Value.str x t)\/(k=Sum.inl none/\v=Value.none)
 |.inl (some i),v,h=>by
  obtain⟨t,e⟩:=Value.isInt_shape h;exact .inl ⟨i,t,rfl,e⟩
 |.inl none,v,h=>by
  cases v<;>first |exact .inr (.inr ⟨rfl,rfl⟩) |cases h
 |.inr x,v,h=>by
  obtain⟨t,e⟩:=Value.isStrOf_shape h;exact .inr (.inl ⟨x,t,rfl,e⟩)
def a6E(i:Int)(t:Tok):a55 (.inl (some i)) (.int i t)=true:=by simp[a55,Value.isInt]
def a6F(x:Str)(t:Tok):a55 (.inr x) (.str x t)=true:=by simp[a55,Value.isStrOf]
def b2x(a b:Int):decide ((Sum.inl (some a):Key)=Sum.inl (some b))=(a==b):=by
 by_cases e:a=b
 ·simp_all
 ·simp_all
def b2y(a b:Str):decide ((Sum.inr a:Key)=Sum.inr b)=decide (a=b):=by simp
def a28{a b:Key}(h:a≠b):decide (a=b)=false:=decide_eq_false h
noncomputable def a0i(prog:fK)(w:World):PySem.KeyKind prog w Key where
 is:=a55
 hash:=keyH w
 inj:=λv a b ha hb=>by
  rcases a0o ha with ⟨i,t,rfl,rfl⟩ |⟨x,t,rfl,rfl⟩ |⟨rfl,rfl⟩
  ·rcases a0o hb with ⟨j,u,rfl,e⟩ |⟨y,u,rfl,e⟩ |⟨rfl,e⟩
   ·injection e with e1 _;rw[e1]
   ·exact nomatch e
   ·exact nomatch e
  ·rcases a0o hb with ⟨j,u,rfl,e⟩ |⟨y,u,rfl,e⟩ |⟨rfl,e⟩
   ·exact nomatch e
   ·injection e with e1 _;rw[e1]
   ·exact nomatch e
  ·rcases a0o hb with ⟨j,u,rfl,e⟩ |⟨y,u,rfl,e⟩ |⟨rfl,e⟩
   ·exact nomatch e
   ·exact nomatch e
   ·rfl
 byValue:=λk v h=>by
  rcases a0o h with ⟨i,t,rfl,rfl⟩ |⟨x,t,rfl,rfl⟩ |⟨rfl,rfl⟩<;>rfl
 pyHash:=λhv h=>by
  rcases a0o hv with ⟨i,t,rfl,rfl⟩ |⟨x,t,rfl,rfl⟩ |⟨rfl,rfl⟩
  ·exact wpAny_pyHash_int h
  ·exact wpAny_pyHash_str h
  ·exact PySem.W.pyHash_slot (T:="NoneType") rfl F.slot_NoneType_hash F.entry_NoneType_hash (F.args_NoneType_hash_1 _) (beq_builtin_none _) (.inl rfl) (fF (fI (fF (wpAny_mkInt (fI ⟨_,_,rfl,h⟩)))))
 eqBool:=λhu hv h=>by
  rcases a0o hu with ⟨i,t,rfl,rfl⟩ |⟨x,t,rfl,rfl⟩ |⟨rfl,rfl⟩
  ·rcases a0o hv with ⟨j,u,rfl,rfl⟩ |⟨y,u,rfl,rfl⟩ |⟨rfl,rfl⟩
   ·rw[b2x]at h;exact wpAny_eqBool_int h
   ·rw[show decide ((Sum.inl (some i):Key)=Sum.inr y)=false from a28 (by simp)]at h;exact SeqAt.EqAt.int_str i t y u _ _ _ _ h
   ·rw[show decide ((Sum.inl (some i):Key)=Sum.inl none)=false from a28 (by simp)]at h;exact SeqAt.EqAt.int_none i t _ _ _ _ h
  ·rcases a0o hv with ⟨j,u,rfl,rfl⟩ |⟨y,u,rfl,rfl⟩ |⟨rfl,rfl⟩
   ·rw[show decide ((Sum.inr x:Key)=Sum.inl (some j))=false from a28 (by simp)]at h;exact SeqAt.EqAt.str_int x t j u _ _ _ _ h
   ·rw[b2y]at h;exact wpAny_eqBool_str h
   ·rw[show decide ((Sum.inr x:Key)=Sum.inl none)=false from a28 (by simp)]at h;exact SeqAt.EqAt.str_none x t _ _ _ _ h
  ·rcases a0o hv with ⟨j,u,rfl,rfl⟩ |⟨y,u,rfl,rfl⟩ |⟨rfl,rfl⟩
   ·rw[show decide ((Sum.inl none:Key)=Sum.inl (some j))=false from a28 (by simp)]at h;exact SeqAt.EqAt.none_int j u _ _ _ _ h
   ·rw[show decide ((Sum.inl none:Key)=Sum.inr y)=false from a28 (by simp)]at h;exact SeqAt.EqAt.none_str y u _ _ _ _ h
   ·rw[decide_eq_true rfl]at h;unfold PySem.eqBool;refine f7 ?_;exact wpAny_ite_split (λ_=>fF (gJ (fI h))) λhab=>absurd rfl hab
 «strs»:=λk x t v h=>by
  rcases a0o h with ⟨i,u,rfl,e⟩ |⟨y,u,rfl,e⟩ |⟨rfl,e⟩
  ·exact nomatch e
  ·injection e with e1 _
   subst e1;cases v<;>rfl
  ·exact nomatch e
def a4R(prog:fK)(w:World)(i:Int)(t:Tok):(a0i prog w).is (.inl (some i)) (.int i t)=true:=a6E i t
def a4S(prog:fK)(w:World)(x:Str)(t:Tok):(a0i prog w).is (.inr x) (.str x t)=true:=a6F x t
inductive V where
 |non |bl (b:Bool) |int (i:Int) |str (x:Str) |byt (b:Array UInt8) |flt (b:UInt64) |ref (a:Addr) |ty (n:String)
 deriving DecidableEq
def RelV:V->Value->Prop
 |.non,u=>u=Value.none
 |.bl b,u=>u=Value.bool b
 |.int i,u=>∃t,u=Value.int i t
 |.str x,u=>∃t,u=Value.str x t
 |.byt b,u=>∃t,u=Value.bytes b t
 |.flt b,u=>∃t,u=Value.float b t
 |.ref a,u=>u=Value.ref a
 |.ty n,u=>u=Value.type n
abbrev Vals:List V->List Value->Prop:=Paired RelV
def Vals.length(r:Vals xs us):xs.length=us.length:=Paired.length r
theorem Vals.get:∀{xs:List V}{us:List Value}{i:Nat}{x:V},Vals xs us->xs[i]?=some x->∃u,us[i]?=some u/\RelV x u
 |_,_,_,_,.nil,e=>by simp at e
 |_,_,0,_,.cons r _,e=>by simp at e;subst e;exact⟨_,rfl,r⟩
 |_,_,i+1,x,.cons _ t,e=>by
  obtain⟨u,b,a⟩:=Vals.get t (by simpa using e);exact⟨u,by simpa using b,a⟩
theorem Vals.set(r:RelV x u):∀{xs:List V}{us:List Value}(i:Nat),Vals xs us->Vals (xs.set i x) (us.set i u)
 |_,_,_,.nil=>.nil
 |_,_,0,.cons _ t=>.cons r t
 |_,_,i+1,.cons q t=>.cons q (Vals.set r i t)
def Vals.append:∀{xs ys:List V}{us ws:List Value},Vals xs us->Vals ys ws->Vals (xs++ys) (us++ws):=by intro z0 y0 x0 w0 v0;induction v0 with
 |nil=>intro s;exact s
 |cons r t I0=>intro s;exact .cons r (I0 s)
theorem Vals.take:∀{xs:List V}{us:List Value}(n:Nat),Vals xs us->Vals (xs.take n) (us.take n)
 |_,_,0,_=>.nil
 |_,_,_+1,.nil=>.nil
 |_,_,n+1,.cons r t=>.cons r (Vals.take n t)
theorem Vals.drop:∀{xs:List V}{us:List Value}(n:Nat),Vals xs us->Vals (xs.drop n) (us.drop n)
 |_,_,0,r=>r
 |_,_,_+1,.nil=>.nil
 |_,_,n+1,.cons _ t=>Vals.drop n t
def Vals.none_of:∀{xs:List V}{us:List Value}{i:Nat},Vals xs us->xs[i]?=none->us[i]?=none:=λ{a d i} r e=>by
 have b:=r.length;have c:=eD.mp e;exact eD.mpr (by lia)
def RelO:Option V->Option Value->Prop
 |some v,some u=>RelV v u
 |none,none=>True
 |_,_=>False
def KV{κ:Type}:List (κ×V)->List (κ×Value)->Prop:=Paired λ(p:κ×V) (q:κ×Value)=>p.1=q.1/\RelV p.2 q.2
noncomputable def kV:Key->V
 |.inl (some i)=>.int i
 |.inl none=>.non
 |.inr x=>.str x
inductive HO where
 |lst (xs:List V)
 |tup (xs:List V)
 |dK (kvs:List (Key×V)) |dT (kvs:List (List Key×V))
 |set (S:Int->Bool) (n:Nat)
 |ins (C dx:Addr) (fs:List (Str×V))
 |own (x:Addr)
 |xd (fs:List (Str×V))
 |met (f x:Addr)
 |rng (lo hi:Int)
 |frz (o:Obj) (u:HO)
 |tbl (ps:Array Value)
 |ext (φ:Heap->Prop)
abbrev Hp:=Addr->Option HO
noncomputable def upd(H:Hp)(a:Addr)(o:HO):Hp:=λb=>if b=a then some o else H b
def a0d:upd H a o a=some o:=by unfold upd;rw[if_pos rfl]
def a0e(h:b≠a):upd H a o b=H b:=by unfold upd;rw[if_neg h]
def b5o{H:Hp}(h:H a=some o)(h':H b=some u)(d:o≠u):a≠b:=by
 intro e;subst e;rw[h]at h';exact d (bv.inj h')
def a0p{H:Hp}(h:H a=some o)(h':H b=none):a≠b:=by
 intro e;subst e;rw[h]at h';cases h'
section
variable(P:fK)(w:World)
def ObjOk(H:Hp)(h:Heap)(a:Addr):HO->Prop
 |.lst xs=>xs.length<=fG/\∃(its:List Value)(n:Nat),Vals xs its/\h.get? a=some { cls:=.type "list",data:=.seq its.toArray n }
 |.tup xs=>xs.length<=fG/\∃its:List Value,Vals xs its/\IsTup h a its.toArray
 |.dK kvs=>kvs.length<=fG/\(a==fX)=false/\∃vs,KV kvs vs/\h.DictOf (a0i P w) a vs
 |.dT kvs=>kvs.length<=fG/\(a==fX)=false/\∃xs:List (List Key×Addr×Value),
   Paired (λ(p:List Key×V) (q:List Key×Addr×Value)=>p.1=q.1/\H q.2.1=some (.tup (p.1.map kV))/\RelV p.2 q.2.2) kvs xs /\
   ∃o es ep,h.get? a=some o/\o.ExactDict/\o.data=.dict es ep/\es.toList=xs.map (entryOfKey (ii (a0i P w)))/\(xs.map (·.1)).Nodup
 |.set S n=>h.SetOf (intKind P w) a S n
 |.ins C dx fs=>H dx=some (.own a)/\fs.length<=1000/\dx≠a/\h.get? a=some (PySem.W.instObj C dx) /\
   ∃mA,h.Ns1 dx mA/\(∀f,RelO (fs.lookup f) (mA f))/\PySem.Within mA (fs.map (·.1))
 |.own _=>∃o,h.get? a=some o
 |.xd fs=>∃mA,h.Ns1 a mA/\∀f,RelO (fs.lookup f) (mA f)
 |.rng lo hi=>∃t u v,h.get? a=some { cls:=.type "range",data:=.fields #[.int lo t,.int hi u,.int 1 v] }
 |.frz o u=>h.get? a=some o/\ObjOk H h a u
 |.tbl ps=>h.get? a=some { cls:=.none,data:=.fields ps }
 |.met f x=>h.get? a=some (PySem.W.methodObj (.ref f) (.ref x))
 |.ext φ=>φ h/\(∃o,h.get? a=some o)/\∀h1 h2:Heap,φ h1->(∀o,h1.get? a=some o->h2.get? a=some o)->φ h2
def HOk(H:Hp)(h:Heap):Prop:=∀a o,H a=some o->ObjOk P w H h a o
end
section
variable{P:fK}{w:World}{H H':Hp}{h h':Heap}{a:Addr}{o:HO}
def ObjOk.lt(x:ObjOk P w H h a o):a<h.objs.size:=by
 cases o with
 |lst xs=>obtain⟨_,_,_,_,e⟩:=x;exact Heap.lt_size e
 |tup xs=>obtain⟨_,_,_,p⟩:=x;exact p.lt
 |dK kvs=>obtain⟨_,_,_,_,o,_,_,e,_⟩:=x;exact Heap.lt_size e
 |dT kvs=>obtain⟨_,_,_,_,o,_,_,e,_⟩:=x;exact Heap.lt_size e
 |set S n=>obtain⟨o,_,_,_,e,_⟩:=x;exact Heap.lt_size e
 |ins C dx fs=>obtain⟨_,_,_,e,_⟩:=x;exact Heap.lt_size e
 |own y=>obtain⟨_,e⟩:=x;exact Heap.lt_size e
 |xd fs=>obtain⟨_,⟨_,_,_,e,_⟩,_⟩:=x;exact Heap.lt_size e
 |rng lo hi=>obtain⟨_,_,_,e⟩:=x;exact Heap.lt_size e
 |frz ob u=>obtain⟨e,_⟩:=x;exact Heap.lt_size e
 |tbl ps=>exact Heap.lt_size (x)
 |met f y=>exact Heap.lt_size (x)
 |ext φ=>obtain⟨_,⟨_,e⟩,_⟩:=x;exact Heap.lt_size e
def Paired.mapP{α β:Type}{F G:α->β->Prop}:∀{lq:List α}{lw:List β},Paired F lq lw->(∀a b,F a b->G a b)->Paired G lq lw:=by intro z0 y0 x0;induction x0 with
 |nil=>intro _;exact .nil
 |cons r t I0=>intro f;exact .cons (f _ _ r) (I0 f)
def ObjOk.stay(x:ObjOk P w H h a o)(k:∀b u,(b=a\/H b=some (.own a))->h.get? b=some u->h'.get? b=some u)
  (ho:∀b,H b=some (.own a)->H' b=some (.own a)) (ht:∀b xs,H b=some (.tup xs)->H' b=some (.tup xs)):ObjOk P w H' h' a o:=by
 induction o with
 |lst s=>obtain⟨z,l,n,r,e⟩:=x;exact⟨z,l,n,r,k _ _ (.inl rfl) e⟩
 |tup s=>obtain⟨z,l,r,g,e,c⟩:=x;exact⟨z,l,r,g,k _ _ (.inl rfl) e,c⟩
 |dK kvs=>obtain⟨z,y,F,r,g,i,j,e,c⟩:=x;exact⟨z,y,F,r,g,i,j,k _ _ (.inl rfl) e,c⟩
 |dT kvs=>
  obtain⟨z,y,s,r,g,i,j,e,c⟩:=x;exact⟨z,y,s,Paired.mapP r λp q z=>⟨z.1,ht _ _ z.2.1,z.2.2⟩,g,i,j,k _ _ (.inl rfl) e,c⟩
 |set S n=>obtain⟨g,i,j,t,e,c⟩:=x;exact⟨g,i,j,t,k _ _ (.inl rfl) e,c⟩
 |ins C dx fs=>
  obtain⟨d,z,D,e,A,⟨m,i,j,E,c⟩,r⟩:=x;exact⟨ho _ d,z,D,k _ _ (.inl rfl) e,A,⟨m,i,j,k _ _ (.inr d) E,c⟩,r⟩
 |own y=>obtain⟨g,e⟩:=x;exact⟨g,k _ _ (.inl rfl) e⟩
 |xd fs=>obtain⟨A,⟨m,i,j,e,c⟩,r⟩:=x;exact⟨A,⟨m,i,j,k _ _ (.inl rfl) e,c⟩,r⟩
 |rng lo hi=>obtain⟨t,u,v,e⟩:=x;exact⟨t,u,v,k _ _ (.inl rfl) e⟩
 |frz g u ih=>obtain⟨e,q⟩:=x;exact⟨k _ _ (.inl rfl) e,ih q⟩
 |tbl ps=>
  exact k a _ (.inl rfl) x
 |met f y=>
  exact k a _ (.inl rfl) x
 |ext φ=>obtain⟨p,⟨o,e⟩,B⟩:=x;exact⟨B _ _ p λo q=>k _ _ (.inl rfl) q,⟨o,k _ _ (.inl rfl) e⟩,B⟩
def HOk.lt(x:HOk P w H h)(e:H a=some o):a<h.objs.size:=(x a o e).lt
def HOk.fresh(x:HOk P w H h)(e:h.objs.size<=a):H a=none:=by
 cases q:H a with
 |none=>rfl
 |some u=>exact absurd (bx (x.lt q) e) (b6 _)
def HOk.kept(x:HOk P w H h)(k:∀b u,h.get? b=some u->h'.get? b=some u):HOk P w H h':=λa o e=>
 (x a o e).stay (λb u _ q=>k b u q) (λ_ q=>q) λ_ _ q=>q
def HOk.laid(x:HOk P w H h)(k:∀b u,h.get? b=some u->h'.get? b=some u)(hp:h.objs.size<=a)(new:ObjOk P w (upd H a o) h' a o):HOk P w (upd H a o) h':=λb u e=>by
 have d:=x.fresh hp
 by_cases hb:b=a
 ·subst hb;rw[a0d]at e;cases e;exact new
 ·rw[a0e hb]at e;exact (x b u e).stay (λc v _ q=>k c v q) (λc q=>by rw[a0e (a0p q d)];exact q) λc f q=>by rw[a0e (a0p q d)];exact q
end
def Rd(H:Hp)(a:Addr)(u:HO):Prop:=H a=some u\/∃o,H a=some (.frz o u)
def Rd.of(h:H a=some u):Rd H a u:=.inl h
def Rd.ok(r:Rd H a u)(x:HOk P w H h):ObjOk P w H h a u:=by
 rcases r with r |⟨o,r⟩
 ·exact x a u r
 ·obtain⟨_,q⟩:=x a _ r;exact q
def Mut:Option HO->Prop
 |some (.lst _)=>True
 |some (.dK _)=>True
 |some (.dT _)=>True
 |some (.set _ _)=>True
 |some (.ins _ _ _)=>True
 |some (.ext _)=>True
 |_=>False
section
variable{P:fK}{w:World}{H:Hp}{h h':Heap}{x e:Addr}{o':HO}
def HOk.write(ok:HOk P w H h)(mu:Mut (H x))(he:e=x\/H e=some (.own x))(k:∀b u,b≠e->h.get? b=some u->h'.get? b=some u)(heo:∃u,h'.get? e=some u)
  (new:ObjOk P w (upd H x o') h' x o'):HOk P w (upd H x o') h':=λb u q=>by
 have a:∀c y,H c=some (.own y)->c≠x:=λc y r z=>by subst z;rw[r]at mu;exact mu
 have g:∀c d,H c=some (.tup d)->c≠x:=λc d r z=>by subst z;rw[r]at mu;exact mu
 by_cases hb:b=x
 ·subst hb;rw[a0d]at q;cases q;exact new
 ·rw[a0e hb]at q
  by_cases hbe:b=e
  ·have i:H b=some (.own x):=by
    rcases he with z |z
    ·exact absurd (hbe.trans z) hb
    ·rw[hbe];exact z
   rw[q]at i;cases i;obtain⟨v,j⟩:=heo;exact⟨v,by rw[hbe];exact j⟩
  ·refine (ok b u q).stay (λc v f r=>k c v ?_ r) (λc r=>by rw[a0e (a c b r)];exact r) λc d r=>by rw[a0e (g c d r)];exact r
   rcases f with rfl |f
   ·omega
   ·grind
end
structure Un (fs ex:List Addr) (H H':Hp) (h h':Heap):Prop where
 keep:∀b o,h.get? b=some o->H b=none->b∉fs->b∉ex->h'.get? b=some o
 slot:∀b o,h.get? b=some o->H b=none->b∈fs->b∉ex->∃sl,h'.get? b=some { o with slots:=sl }
 free:∀b o,h.get? b=some o->H b=none->b∉ex->H' b=none
 there:∀b o,h.get? b=some o->b∉ex->∃o',h'.get? b=some o'
 tups:∀b xs,H b=some (.tup xs)->H' b=some (.tup xs)
 frzs:∀b o u,H b=some (.frz o u)->H' b=some (.frz o u)
 tbls:∀b ps,H b=some (.tbl ps)->∃more,H' b=some (.tbl (ps++more))
section
variable{fs fs' ex ex':List Addr}{H H1 H2:Hp}{h h1 h2 h':Heap}{a x e:Addr}{o:HO}
noncomputable def Un.any(u:Un fs ex H H1 h h1)(q:h.get? b=some ob)(n:H b=none)(hx:b∉ex):∃sl,h1.get? b=some { ob with slots:=sl }:=by
 by_cases hb:b∈fs
 ·exact u.slot b ob q n hb hx
 ·exact⟨ob.slots,u.keep b ob q n hb hx⟩
theorem Un.trans(a:Un fs ex H H1 h h1)(b:Un fs ex H1 H2 h1 h2):Un fs ex H H2 h h2 where
 keep:=λc ob q n hc hx=>b.keep c ob (a.keep c ob q n hc hx) (a.free c ob q n hx) hc hx
 slot:=λc ob q n hc hx=>by
  obtain⟨sl,e1⟩:=a.slot c ob q n hc hx;obtain⟨sl',e2⟩:=b.slot c _ e1 (a.free c ob q n hx) hc hx;exact⟨sl',e2⟩
 free:=λc ob q n hx=>by
  obtain⟨o',e1⟩:=a.there c ob q hx;exact b.free c o' e1 (a.free c ob q n hx) hx
 there:=λc ob q hx=>by
  obtain⟨o',e1⟩:=a.there c ob q hx;exact b.there c o' e1 hx
 tups:=λc xs q=>b.tups c xs (a.tups c xs q)
 frzs:=λc ob xs q=>b.frzs c ob xs (a.frzs c ob xs q)
 tbls:=λc ps q=>by
  obtain⟨m1,e1⟩:=a.tbls c ps q;obtain⟨m2,e2⟩:=b.tbls c _ e1;exact⟨m1++m2,by rw[e2,eE]⟩
def Un.kept(k:∀b u,h.get? b=some u->h'.get? b=some u):Un fs ex H H h h':=
 ⟨λb a q _ _ _=>k b a q,λb a q _ _ _=>⟨a.slots,k b a q⟩,λ_ _ _ n _=>n,λb a q _=>⟨a,k b a q⟩,λ_ _ q=>q,λ_ _ _ q=>q,λ_ c q=>⟨#[],by rw[q];simp⟩⟩
def Un.refl:Un fs ex H H h h:=Un.kept λ_ _ q=>q
theorem Un.laid(k:∀b u,h.get? b=some u->h'.get? b=some u)(hp:h.objs.size<=a)(hn:H a=none):Un fs ex H (upd H a o) h h' where
 keep:=λb u q _ _ _=>k b u q
 slot:=λb u q _ _ _=>⟨u.slots,k b u q⟩
 free:=λb u q n _=>by rw[a0e (bj (bx (Heap.lt_size q) hp))];exact n
 there:=λb u q _=>⟨u,k b u q⟩
 tups:=λb xs q=>by rw[a0e (a0p q hn)];exact q
 frzs:=λb u xs q=>by rw[a0e (a0p q hn)];exact q
 tbls:=λb ps q=>⟨#[],by rw[a0e (a0p q hn),q];simp⟩
def Un.write(mu:Mut (H x))(he:e=x\/H e=some (.own x))(k:∀b u,b≠e->h.get? b=some u->h'.get? b=some u)(heo:∃u,h'.get? e=some u):Un fs ex H (upd H x o) h h':=by
 have d:∀b,H b=none->b≠x:=λb n z=>by subst z;rw[n]at mu;exact mu
 have c:∀b,H b=none->b≠e:=λb n z=>by simp_all
 have a:∀b u,H b=some u->¬ Mut (some u)->b≠x:=λb u q g z=>by subst z;rw[q]at mu;exact g mu
 refine⟨λb u q n _ _=>k b u (c b n) q,λb u q n _ _=>⟨u.slots,k b u (c b n) q⟩,λb u q n _=>by rw[a0e (d b n)];exact n,λb u q _=>?_,
  λb f q=>by rw[a0e (a b _ q λz=>z)];exact q,λb u f q=>by rw[a0e (a b _ q λz=>z)];exact q,λb i q=>⟨#[],by rw[a0e (a b _ q λz=>z),q];simp⟩⟩
 by_cases hbe:b=e
 ·grind
 ·exact⟨u,k b u hbe q⟩
def Un.mono(u:Un fs ex H H1 h h1)(hs:∀b∈fs,b∈fs')(hx:∀b∈ex,b∈ex'):Un fs' ex' H H1 h h1:=
 ⟨λb c q n d a=>u.keep b c q n (λz=>d (hs b z)) λz=>a (hx b z),λ_ _ q n _ a=>u.any q n λz=>a (hx _ z),λb c q n a=>u.free b c q n λz=>a (hx b z),λb c q a=>u.there b c q λz=>a (hx b z),u.tups,u.frzs,u.tbls⟩
end
noncomputable def trk(h:Heap)(H:Hp):List Addr:=(cE h.objs.size).filter λa=>(H a).isSome
noncomputable def hidT(h:Heap)(H:Hp):Heap:=PySem.W.hideAll h (trk h H)
def a6G(h:Heap)(H:Hp):(hidT h H).objs.size=h.objs.size:=PySem.W.hideAll_size _ _
def a3n(e:h.get? b=some o)(n:H b=none):(hidT h H).get? b=some o:=
 PySem.W.hideAll_get _ e λa=>by
  have q:=(bz.mp a).2;rw[n]at q;simp at q
def b0I(e:(hidT h H).get? b=some o):h.get? b=some o/\H b=none:=by
 have a:=PySem.W.of_hideAll _ e;refine⟨a,?_⟩;cases q:H b with
 |none=>rfl
 |some x=>
  have c:b∈trk h H:=bz.mpr ⟨List.mem_range.mpr (Heap.lt_size a),by simp[q]⟩;have z:(hidT h H).get? b=none:=PySem.W.hideAll_none _ c;rw[z]at e;cases e
noncomputable def b0J(g h:Heap)(L:Addr):List (Addr×Obj):=(cE h.objs.size).filterMap λa=>if a=L\/(g.get? a).isSome=true then none else (h.get? a).map λo=>(a,o)
noncomputable def rest(g h:Heap)(L d:Addr):List (Addr×Obj):=(b0J g h L).filter λp=>decide (p.1≠d)
structure Mod (K:Fg) (mg:Str->Option Value) (base:Heap):Prop where
 kin:K.In base
 glob:base.Ns fU mg
 blt:∃mb,base.Ns ij mb/\∀x:Str,x≠"__name__"->mb x=gg x
 nolimit:base.NoLimit
structure Cx where
 prog:fK
 w:World
 K:Fg
 mg:Str->Option Value
 base:Heap
 A:Around
 N:List Str
 s₀:Shared
 H₀:Hp
 env:Env
 outer:List Env
 stack:List Env
 ex:List Addr
 fn:Str->Bool
 calm:Bool
 pn:List (Addr×Obj)
 xe:Value->Shared->Prop
noncomputable def frs(l:List Env):List Addr:=l.filterMap (·.frame)
abbrev Cx.fs(X:Cx):List Addr:=frs X.outer
def Vis(sc:Scope)(x:Str):Prop:=sc.names.lookup x=some .local\/sc.names.lookup x=some .cell\/sc.names.lookup x=some .free
def Loc(sc:Scope)(x:Str):Prop:=sc.names.lookup x=some .local\/sc.names.lookup x=some .cell
def Look(env:Env)(h:Heap)(m:Str->Option Value)(x:Str)(u:Value):Prop:=
 (env.kindOf x=some .local/\m x=some u)\/((env.kindOf x=some .cell\/env.kindOf x=some .free)/\∃c,env.cells.lookup x=some c/\h.IsCell c (some u))
structure Cx.Ok (X:Cx):Prop where
 mod:Mod X.K X.mg X.base
 kind:X.env.scope.kind=.function
 glob:X.env.globals=fU
 blt:X.env.builtins=ij
 above:X.s₀.heap.objs.size<=X.env.locals
 inj:∀x y c,X.env.cells.lookup x=some c->X.env.cells.lookup y=some c->x=y
 has:∀x,(X.env.kindOf x=some .cell\/X.env.kindOf x=some .free)->∃c,X.env.cells.lookup x=some c
 cab:∀x c,X.fn x=true->X.env.cells.lookup x=some c->X.s₀.heap.objs.size<=c
 hd:X.calm=true->X.A.handled=none
 frames:X.A.frames=some X.stack
 stk:X.stack=X.outer\/(X.stack=X.env::X.outer/\X.env.frame=some X.env.locals)
 exf:∀b∈X.ex,b≠X.env.locals/\∀x c,X.env.cells.lookup x=some c->c≠b
 bs:∀b o,X.base.get? b=some o->X.s₀.heap.get? b=some o/\X.H₀ b=none
 bsz:X.base.objs.size<=X.s₀.heap.objs.size
 noex:∀b o,X.base.get? b=some o->b∉X.ex
 exfs:∀b∈X.ex,b∉X.fs
 funs:X.s₀.heap.FunFrames X.base X.outer
 frf:∀b∈X.fs,X.H₀ b=none
structure Inv (X:Cx) (pins:List (Addr×Obj)) (σ:List (Option V)) (H:Hp) (s:Shared):Prop where
 ok:X.Ok
 os:s.os=X.s₀.os
 bare:gu s.gens
 base:Un X.fs X.ex X.H₀ H X.s₀.heap s.heap
 loc:∃m,s.heap.Ns X.env.locals m/\∀(i:Nat)(x:Str)(v:V),X.N[i]?=some x->σ[i]?=some (some v)->Vis X.env.scope x->∃u,RelV v u/\Look X.env s.heap m x u
 cell:∀x c,X.env.cells.lookup x=some c->∃v,s.heap.IsCell c v
 free:H X.env.locals=none
 freeC:∀x c,X.env.cells.lookup x=some c->H c=none
 pin:∀p∈X.pn++pins,s.heap.get? p.1=some p.2/\H p.1=none/\p.1≠X.env.locals/\p.1∉X.fs/\∀v,p.2.data≠.cell v
 hok:HOk X.prog X.w H s.heap
 len:σ.length=X.N.length
section
variable{X:Cx}{pins:List (Addr×Obj)}{σ:List (Option V)}{H H':Hp}{s:Shared}{h':Heap}
def Cx.Ok.nofr(ok:X.Ok)(e:X.base.get? b=some o):b∉X.fs:=λa=>by
 have:=(ok.funs.mem a).1
 rw[e]at this;cases this
def Inv.bs(I:Inv X pins σ H s):∀b o,X.base.get? b=some o->s.heap.get? b=some o/\H b=none:=λb o e=>
 ⟨I.base.keep b o (I.ok.bs b o e).1 (I.ok.bs b o e).2 (I.ok.nofr e) (I.ok.noex b o e),I.base.free b o (I.ok.bs b o e).1 (I.ok.bs b o e).2 (I.ok.noex b o e)⟩
def Inv.bk(I:Inv X pins σ H s):∀b o,X.base.get? b=some o->s.heap.get? b=some o:=λb o e=>(I.bs b o e).1
def Inv.mod(I:Inv X pins σ H s):Mod X.K X.mg X.base:=I.ok.mod
def Inv.kIn(I:Inv X pins σ H s):X.K.In s.heap:=I.ok.mod.kin.keeps I.bk
def Inv.nolimit(I:Inv X pins σ H s):s.heap.NoLimit:=I.ok.mod.nolimit.keeps I.bk
def Inv.fr(I:Inv X pins σ H s):∃m,Fr X.base X.env.locals s.heap m:=
 let ⟨m,hn,_⟩:=I.loc
 ⟨m,hn,I.bk,be I.ok.bsz I.ok.above⟩
def Inv.lt(I:Inv X pins σ H s):X.env.locals<s.heap.objs.size:=let ⟨_,hn,_⟩:=I.loc;hn.lt
def Inv.sz(I:Inv X pins σ H s):X.s₀.heap.objs.size<=s.heap.objs.size:=be I.ok.above (b9 I.lt)
def Inv.nofs(I:Inv X pins σ H s)(h:s.heap.objs.size<=a):a∉X.fs:=λc=>by
 obtain⟨_,o,b,_⟩:=I.ok.funs.mem c;exact absurd (bx (Heap.lt_size b) (be I.sz h)) (b6 _)
def Inv.cne(I:Inv X pins σ H s):∀x c,X.env.cells.lookup x=some c->c≠X.env.locals:=λx c e z=>by
 obtain⟨v,o,d,b⟩:=I.cell x c e;obtain⟨m,⟨i,g,h,a,f,_⟩,_⟩:=I.loc;rw[z,a]at d;cases d;rw[f]at b;cases b
def Inv.funs(I:Inv X pins σ H s):s.heap.FunFrames X.base X.outer:=by
 have g:∀l,(∀b∈frs l,b∈X.fs)->X.s₀.heap.FunFrames X.base l->s.heap.FunFrames X.base l:=by
  intro l
  induction l with
  |nil=>intro _ _;trivial
  |cons env r ih=>
   intro f h;obtain⟨k,⟨L,o,c,n,m,j⟩,i⟩:=h;have d:=f L (by unfold frs;rw[cm,c];exact cy);obtain⟨p,e⟩:=I.base.slot L o m (I.ok.frf L d) d λz=>I.ok.exfs L z d;exact⟨k,⟨L,_,c,n,e,j⟩,ih (λb a=>f b (by unfold frs;rw[cm,c];exact ca _ a)) i⟩
 exact g X.outer (λ_ a=>a) I.ok.funs
def Inv.stack(I:Inv X pins σ H s):s.heap.FunFrames X.base X.stack:=by
 rcases I.ok.stk with e |⟨e,hf⟩
 ·rw[e];exact I.funs
 ·rw[e];obtain⟨m,a,_⟩:=I.loc;refine .cons (by rw[I.ok.kind];decide) hf a ?_ I.funs;exact Heap.get?_none_of_le (be I.ok.bsz I.ok.above)
def Inv.stkSub(I:Inv X pins σ H s):∀b∈frs X.stack,b∈X.env.locals::X.fs:=λb a=>by
 rcases I.ok.stk with e |⟨e,hf⟩
 ·rw[e]at a;exact ca _ a
 ·rw[e]at a;unfold frs at a;rw[cm,hf]at a;exact a
def Inv.stkFree(I:Inv X pins σ H s):∀b∈frs X.stack,H b=none:=λb a=>by
 rcases bf.mp (I.stkSub b a) with e |a
 ·rw[e];exact I.free
 ·obtain⟨_,o,c,_⟩:=I.ok.funs.mem a;exact I.base.free b o c (I.ok.frf b a) λz=>I.ok.exfs b z a
def Inv.step{ch:List Addr}(I:Inv X pins σ H s)
  (hch:∀b∈ch,(b∈X.ex\/X.s₀.heap.objs.size<=b)/\b≠X.env.locals/\(∀x c,X.env.cells.lookup x=some c->c≠b)/\∀p∈X.pn++pins,p.1≠b)
  (keep:∀b o,b≠X.env.locals->b∉X.fs->b∉ch->s.heap.get? b=some o->H b=none->h'.get? b=some o)
  (slot:∀b o,b≠X.env.locals->b∈X.fs->b∉ch->s.heap.get? b=some o->H b=none->∃sl,h'.get? b=some { o with slots:=sl }) (free:∀b o,b∉ch->s.heap.get? b=some o->H b=none->H' b=none)
  (there:∀b o,b∉ch->s.heap.get? b=some o->∃o',h'.get? b=some o')
  (tups:∀b xs,H b=some (.tup xs)->H' b=some (.tup xs)) (frzs:∀b o u,H b=some (.frz o u)->H' b=some (.frz o u)) (tbls:∀b ps,H b=some (.tbl ps)->∃more,H' b=some (.tbl (ps++more)))
  (ns:∀m,s.heap.Ns X.env.locals m->h'.Ns X.env.locals m) (hok:HOk X.prog X.w H' h') (hg:gu g') :
  Inv X pins σ H' { s with heap:=h',gens:=g',drawn:=d',toks:=t' }:=by
 have C:∀b o,X.s₀.heap.get? b=some o->b≠X.env.locals:=λb o e=>bj (bx (Heap.lt_size e) I.ok.above);have j:∀b o,X.s₀.heap.get? b=some o->b∉X.ex->b∉ch:=λb o e a h=>by
  rcases (hch b h).1 with z |z
  ·grind
  ·exact absurd (bx (Heap.lt_size e) z) (b6 _)
 have t:∀x c,X.env.cells.lookup x=some c->∀v,s.heap.IsCell c v->h'.IsCell c v:=by
  rintro x c e v ⟨o,y,E⟩;have g:=λz=>(hch c z).2.2.1 x c e rfl
  by_cases hc:c∈X.fs
  ·obtain⟨S,q⟩:=slot c o (I.cne x c e) hc g y (I.freeC x c e);exact⟨_,q,E⟩
  ·exact⟨o,keep c o (I.cne x c e) hc g y (I.freeC x c e),E⟩
 refine⟨I.ok,I.os,hg,⟨λb o e n h a=>(keep b o (C b o e) h (j b o e a) (I.base.keep b o e n h a) (I.base.free b o e n a)),λb o e n h a=>?_,λb o e n a=>?_,λb o e a=>?_,λb B e=>tups b B (I.base.tups b B e),λb o B e=>frzs b o B (I.base.frzs b o B e),λb Q e=>?_⟩,?_,λx c e=>?_,?_,λx c e=>?_,λp L=>?_,hok,I.len⟩
 ·obtain⟨S,f⟩:=I.base.slot b o e n h a;obtain⟨F,A⟩:=slot b _ (C b o e) h (j b o e a) f (I.base.free b o e n a);exact⟨F,A⟩
 ·obtain⟨D,f⟩:=I.base.there b o e a;exact free b D (j b o e a) f (I.base.free b o e n a)
 ·obtain⟨D,f⟩:=I.base.there b o e a;exact there b D (j b o e a) f
 ·obtain⟨N,f⟩:=I.base.tbls b Q e;obtain⟨U,A⟩:=tbls b _ f;exact⟨N++U,by rw[A,eE]⟩
 ·obtain⟨m,T,M⟩:=I.loc;refine⟨m,ns m T,λi x v f A R=>?_⟩;obtain⟨u,r,l⟩:=M i x v f A R;refine⟨u,r,?_⟩;rcases l with l |⟨k,c,e,z⟩
  ·exact .inl l
  ·exact .inr ⟨k,c,e,t x c e _ z⟩
 ·obtain⟨v,z⟩:=I.cell x c e;exact⟨v,t x c e v z⟩
 ·obtain⟨m,⟨o,_,_,y,_⟩,_⟩:=I.loc;exact free _ o (λz=>(hch _ z).2.1 rfl) y I.free
 ·obtain⟨v,o,y,E⟩:=I.cell x c e;exact free c o (λz=>(hch c z).2.2.1 x c e rfl) y (I.freeC x c e)
 ·obtain⟨e,n,G,J,d⟩:=I.pin p L;have g:=λz=>(hch p.1 z).2.2.2 p L rfl;exact⟨keep p.1 p.2 G J g e n,free p.1 p.2 g e n,G,J,d⟩
def Inv.un(I:Inv X pins σ H s)(u:Un X.fs [] H H' s.heap h')(hok:HOk X.prog X.w H' h'):Inv X pins σ H' { s with heap:=h',toks:=t' }:=by
 obtain⟨m,⟨o,k,q,g,r⟩,_⟩:=id I.loc;obtain⟨l,j⟩:=u.any g I.free (by simp);exact I.step (ch:=[]) (λ_ z=>nomatch z) (λb o _ c _ e n=>u.keep b o e n c (by simp)) (λb o _ c _ e n=>u.slot b o e n c (by simp)) (λb o _ e n=>u.free b o e n (by simp)) (λb o _ e=>u.there b o e (by simp)) u.tups u.frzs u.tbls (λt h=>by
  obtain⟨p,d,f,a,i⟩:=h;rw[g]at a;cases a;exact⟨_,d,f,j,i⟩) hok I.bare
def Inv.call(I:Inv X pins σ H s)(u:Un (frs X.stack) ch H H' s.heap h')(hok:HOk X.prog X.w H' h')(hg:gu g')
  (hch:∀b∈ch,(b∈X.ex\/X.s₀.heap.objs.size<=b)/\b≠X.env.locals/\(∀x c,X.env.cells.lookup x=some c->c≠b)/\∀p∈X.pn++pins,p.1≠b) :
  Inv X pins σ H' { s with heap:=h',gens:=g',drawn:=d',toks:=t' }:=by
 obtain⟨m,⟨o,q,y,i,r⟩,_⟩:=id I.loc;obtain⟨t,f⟩:=u.any i I.free λz=>(hch _ z).2.1 rfl;exact I.step hch (λb o f l a e n=>u.keep b o e n (λz=>(bf.mp (I.stkSub b z)).elim f l) a) (λb o _ _ a e n=>u.any e n a) (λb o a e n=>u.free b o e n a) (λb o a e=>u.there b o e a) u.tups u.frzs u.tbls (λA j=>by
  obtain⟨v,g,h,d,k⟩:=j;rw[i]at d;cases d;exact⟨_,g,h,f,k⟩) hok hg
def Inv.turned(I:Inv X pins σ H s)(k:∀b o,b≠it->s.heap.get? b=some o->h'.get? b=some o)(hn:H it=none)(hL:it≠X.env.locals)
  (h1:it∈X.ex\/X.s₀.heap.objs.size<=it) (h2:∀x c,X.env.cells.lookup x=some c->c≠it) (h3:∀p∈X.pn++pins,p.1≠it):Inv X pins σ H { s with heap:=h',toks:=t' }:=by
 have d:∀b u,H b=some u->b≠it:=λb u e z=>by rw[z,hn]at e;cases e
 refine I.step (ch:=[it]) (λb i=>?_) (λb o _ _ a e _=>k b o (λz=>a (by simp[z])) e) (λb o _ _ a e _=>⟨o.slots,k b o (λz=>a (by simp[z])) e⟩) (λ_ _ _ _ n=>n)
  (λb o a e=>⟨o,k b o (λz=>a (by simp[z])) e⟩) (λ_ _ e=>e) (λ_ _ _ e=>e) (λb l e=>⟨#[],by rw[e];simp⟩) (λm h=>?_) (λb u e=>?_) I.bare
 ·have e:b=it:=by simpa using i
  subst e;exact⟨h1,hL,h2,h3⟩
 ·obtain⟨o,f,j,g,r⟩:=h;exact⟨o,f,j,k _ o (Ne.symm hL) g,r⟩
 ·refine (I.hok b u e).stay (λc v a q=>k c v ?_ q) (λ_ q=>q) λ_ _ q=>q;rcases a with z |z
  ·rw[z];exact d b u e
  ·exact d c _ z
def Inv.tok(I:Inv X pins σ H s)(t:Nat):Inv X pins σ H { s with toks:=t }:=I.un Un.refl I.hok
def Inv.kept(I:Inv X pins σ H s)(k:∀b u,s.heap.get? b=some u->h'.get? b=some u):Inv X pins σ H { s with heap:=h',toks:=t' }:=I.un (Un.kept k) (I.hok.kept k)
def Inv.laid(I:Inv X pins σ H s)(k:∀b u,s.heap.get? b=some u->h'.get? b=some u)(hp:s.heap.objs.size<=a)(new:ObjOk X.prog X.w (upd H a o) h' a o) :
  Inv X pins σ (upd H a o) { s with heap:=h',toks:=t' }:=I.un (Un.laid k hp (I.hok.fresh hp)) (I.hok.laid k hp new)
def Inv.write(I:Inv X pins σ H s)(mu:Mut (H x))(he:e=x\/H e=some (.own x))(k:∀b u,b≠e->s.heap.get? b=some u->h'.get? b=some u)(heo:∃u,h'.get? e=some u)
  (new:ObjOk X.prog X.w (upd H x o) h' x o):Inv X pins σ (upd H x o) { s with heap:=h',toks:=t' }:=I.un (Un.write mu he k heo) (I.hok.write mu he k heo new)
def Inv.weak(I:Inv X pins σ H s)(hl:σ'.length=σ.length)(w:∀(i:Nat) v,σ'[i]?=some (some v)->σ[i]?=some (some v)):Inv X pins σ' H s:=
 ⟨I.ok,I.os,I.bare,I.base,by obtain⟨m,hn,hl'⟩:=I.loc;exact⟨m,hn,λi x v b c a=>hl' i x v b (w i v c) a⟩,I.cell,I.free,I.freeC,I.pin,I.hok,hl.trans I.len⟩
def Inv.pins_of(I:Inv X pins σ H s)(h:∀p∈pins',s.heap.get? p.1=some p.2/\H p.1=none/\p.1≠X.env.locals/\p.1∉X.fs/\∀v,p.2.data≠.cell v):Inv X pins' σ H s:=
 ⟨I.ok,I.os,I.bare,I.base,I.loc,I.cell,I.free,I.freeC,λp a=>(aU.mp a).elim (λz=>I.pin p (bR _ z)) (h p),I.hok,I.len⟩
def a5j{N:List Str}(hN:N.Nodup){i j:Nat}(a:N[i]?=some x)(b:N[j]?=some x):i=j:=by
 obtain⟨f,c⟩:=aZ.mp a;obtain⟨e,d⟩:=aZ.mp b;exact (List.getElem_inj hN).mp (c.trans d.symm)
def a6H(I:Inv X pins σ H s)(hN:X.N.Nodup)(hi:X.N[i]?=some x)(hx:Loc X.env.scope x)(r:RelV v u)
  (h:∀s',Inv X pins (σ.set i (some v)) H s'->(∃a,Heap.SameBut a s.heap s'.heap/\(a=X.env.locals\/X.env.cells.lookup x=some a))->Q () s') (hf:X.fn x=true\/X.env.scope.names.lookup x=some .local):wpAny M A (i8 X.env x u) Q E s:=by
 obtain⟨m,hn,hl⟩:=id I.loc;have hcls:(X.env.scope.kind==.class||(X.env.scope.kind==.module&&X.env.locals != X.env.globals))=false:=by rw[I.ok.kind];rfl
 have U:i<σ.length:=I.len▸(aZ.mp hi).1;have J:=I.cne;have B:∀{a:Addr}{G:Heap},(∃o,s.heap.get? a=some o/\H a=none)->Heap.SameBut a s.heap G->HOk X.prog X.w H G:=λ{a G} ha f b ob e=>by
  obtain⟨_,_,F⟩:=ha;refine (I.hok b ob e).stay (λc R l q=>(f.2 c ?_).trans q) (λ_ q=>q) λ_ _ q=>q;rintro rfl;rcases l with rfl |l
  ·rw[F]at e;cases e
  ·rw[F]at l;cases l
 rcases hx with hk |hk
 ·refine wpAny_storeName_local hk hn (λG hn' f=>?_) hcls;obtain⟨oL,_,_,hoL,_⟩:=id hn;refine h _ ⟨I.ok,I.os,I.bare,⟨λb o e n D hx=>((f.2 b (bj (bx (Heap.lt_size e) I.ok.above))).trans (I.base.keep b o e n D hx)),λb o e n D hx=>?_,I.base.free,λb o e hx=>?_,I.base.tups,I.base.frzs,I.base.tbls⟩,⟨_,hn',λj y v' g C e3=>?_⟩,λy c e=>?_,I.free,I.freeC,λp hp=>?_,B ⟨oL,hoL,I.free⟩ f,by simpa using I.len⟩ ⟨_,f,.inl rfl⟩
  ·obtain⟨sl,g⟩:=I.base.slot b o e n D hx;exact⟨sl,(f.2 b (bj (bx (Heap.lt_size e) I.ok.above))).trans g⟩
  ·obtain⟨o',g⟩:=I.base.there b o e hx;exact⟨o',(f.2 b (bj (bx (Heap.lt_size e) I.ok.above))).trans g⟩
  ·by_cases hj:j=i
   ·subst hj;rw[hi]at g;cases g;rw[dS U]at C;cases C;exact⟨u,r,.inl ⟨hk,by simp⟩⟩
   ·rw[di (Ne.symm hj)]at C;obtain⟨u',r',q⟩:=hl j y v' g C e3;refine⟨u',r',?_⟩;rcases q with ⟨k,e⟩ |⟨k,c,e,z⟩
    ·refine .inl ⟨k,?_⟩
     have:y≠x:=λe=>hj (a5j hN g (e▸hi))
     simp[this,e]
    ·exact .inr ⟨k,c,e,z.sameBut f (J y c e)⟩
  ·obtain⟨R,z⟩:=I.cell y c e;exact⟨R,z.sameBut f (J y c e)⟩
  ·obtain⟨e,n,S,nf,d⟩:=I.pin p hp;exact⟨(f.2 p.1 S).trans e,n,S,nf,d⟩
 ·have L:X.fn x=true:=by
   rcases hf with z |z
   ·exact z
   ·rw[z]at hk;cases hk
  obtain⟨c,l⟩:=I.ok.has x (.inl hk);obtain⟨R,z⟩:=I.cell x c l;refine wpAny_storeName_cell I.ok.kind hk l z (λG Y f=>?_);obtain⟨oc,W,hocd⟩:=id z;refine h { s with heap:=G } ⟨I.ok,I.os,I.bare,⟨λb o e n D hx=>((f.2 b (bj (bx (Heap.lt_size e) (I.ok.cab x c L l)))).trans (I.base.keep b o e n D hx)),λb o e n D hx=>?_,I.base.free,λb o e hx=>?_,I.base.tups,I.base.frzs,I.base.tbls⟩,⟨m,hn.sameBut f (Ne.symm (J x c l)),λj y v' g C e3=>?_⟩,λy T e=>?_,I.free,I.freeC,λp hp=>?_,B ⟨oc,W,I.freeC x c l⟩ f,by simpa using I.len⟩ ⟨c,f,.inr l⟩
  ·obtain⟨sl,g⟩:=I.base.slot b o e n D hx;exact⟨sl,(f.2 b (bj (bx (Heap.lt_size e) (I.ok.cab x c L l)))).trans g⟩
  ·obtain⟨o',g⟩:=I.base.there b o e hx;exact⟨o',(f.2 b (bj (bx (Heap.lt_size e) (I.ok.cab x c L l)))).trans g⟩
  ·by_cases hj:j=i
   ·subst hj;rw[hi]at g;cases g;rw[dS U]at C;cases C;exact⟨u,r,.inr ⟨.inl hk,c,l,Y⟩⟩
   ·rw[di (Ne.symm hj)]at C;obtain⟨u',r',q⟩:=hl j y v' g C e3;refine⟨u',r',?_⟩;rcases q with q |⟨k,T,e,z'⟩
    ·exact .inl q
    ·refine .inr ⟨k,T,e,z'.sameBut f ?_⟩;rintro rfl;exact hj (a5j hN g (I.ok.inj _ _ _ e l▸hi))
  ·by_cases hcc:T=c
   ·subst hcc;exact⟨_,Y⟩
   ·obtain⟨w2,z2⟩:=I.cell y T e;exact⟨w2,z2.sameBut f hcc⟩
  ·obtain⟨e,n,S,nf,d⟩:=I.pin p hp;refine⟨(f.2 p.1 ?_).trans e,n,S,nf,d⟩;intro q;rw[q,W]at e;exact d R ((bv.inj e)▸hocd)
def a3o(I:Inv X pins σ H s)(hN:X.N.Nodup)(hi:X.N[i]?=some x)(hx:Loc X.env.scope x)(r:RelV v u)
  (h:∀s',Inv X pins (σ.set i (some v)) H s'->Q () s') (hf:X.fn x=true\/X.env.scope.names.lookup x=some .local):wpAny M A (i8 X.env x u) Q E s:=
 a6H I hN hi hx r (λa b _=>h a b) hf
def Inv.call'(I:Inv X pins σ H s)(ho:s'.os=s.os)(u:Un (frs X.stack) ch H H' s.heap s'.heap)(hok:HOk X.prog X.w H' s'.heap)(hg:gu s'.gens)
  (hch:∀b∈ch,(b∈X.ex\/X.s₀.heap.objs.size<=b)/\b≠X.env.locals/\(∀x c,X.env.cells.lookup x=some c->c≠b)/\∀p∈X.pn++pins,p.1≠b):Inv X pins σ H' s':=by
 obtain⟨h',g',d',t',g⟩:=s';have e:=ho;subst e;exact I.call u hok hg hch
end
abbrev XK:=Value->Option Addr->Hp->Prop
abbrev St:=List (Option V)
abbrev VK:=V->Hp->Prop
abbrev TE:=St->Hp->VK->Prop
abbrev TT:=St->Hp->(Bool->Hp->Prop)->Prop
abbrev TA:=St->Hp->(List V->Hp->Prop)->Prop
structure Ends where
 nx:St->Hp->Prop
 rt:VK
 bk:St->Hp->Prop:=λ_ _=>False
 ct:St->Hp->Prop:=λ_ _=>False
abbrev TS:=Ends->St->Hp->Prop
def EP(X:Cx)(pins:List (Addr×Obj))(σ:St)(Q:VK)(u:Value)(s':Shared):Prop:=∃v H',Inv X pins σ H' s'/\RelV v u/\Q v H'
def TP(X:Cx)(pins:List (Addr×Obj))(σ:St)(Q:Bool->Hp->Prop)(b:Bool)(s':Shared):Prop:=∃H',Inv X pins σ H' s'/\Q b H'
def AP(X:Cx)(pins:List (Addr×Obj))(σ:St)(Q:List V->Hp->Prop)(us:List Value)(s':Shared):Prop:=∃vs H',Inv X pins σ H' s'/\Vals vs us/\Q vs H'
def SP(X:Cx)(pins:List (Addr×Obj))(D:Ends)(f:Flow)(s':Shared):Prop:=
 match f with
 |.next=>∃σ' H',Inv X pins σ' H' s'/\D.nx σ' H'
 |.brk=>∃σ' H',Inv X pins σ' H' s'/\D.bk σ' H'
 |.cont=>∃σ' H',Inv X pins σ' H' s'/\D.ct σ' H'
 |.ret u=>∃v σ' H',Inv X pins σ' H' s'/\RelV v u/\D.rt v H'
def PE(X:Cx)(e:Expr)(t:TE):Prop:=
 ∀(pins:List (Addr×Obj))(s:Shared)(σ:St)(H:Hp)(Q:VK),Inv X pins σ H s->t σ H Q->wpAny (model X.prog X.w) X.A (eval e X.env) (EP X pins σ Q) X.xe s
def PT(X:Cx)(e:Expr)(t:TT):Prop:=
 ∀(pins:List (Addr×Obj))(s:Shared)(σ:St)(H:Hp)(Q:Bool->Hp->Prop),Inv X pins σ H s->t σ H Q->wpAny (model X.prog X.w) X.A (isTrue e X.env (eval e X.env)) (TP X pins σ Q) X.xe s
def PW(X:Cx)(e:Expr)(t:TT):Prop:=
 ∀(whole:Sem Value)(pins:List (Addr×Obj))(s:Shared)(σ:St)(H:Hp)(Q:Bool->Hp->Prop),Inv X pins σ H s->t σ H Q->wpAny (model X.prog X.w) X.A (isTrue e X.env whole) (TP X pins σ Q) X.xe s
def PW.pt(h:PW X e t):PT X e t:=h _
def PA(X:Cx)(es:List Expr)(t:TA):Prop:=
 ∀(pos:Pos)(pins:List (Addr×Obj))(s:Shared)(σ:St)(H:Hp)(Q:List V->Hp->Prop),Inv X pins σ H s->t σ H Q->wpAny (model X.prog X.w) X.A (spliced (backTo pos (fL es X.env))) (AP X pins σ Q) X.xe s
def PS(X:Cx)(st:Stmt)(t:TS):Prop:=
 ∀(pins:List (Addr×Obj))(s:Shared)(σ:St)(H:Hp)(D:Ends),Inv X pins σ H s->t D σ H->wpAny (model X.prog X.w) X.A (exec st X.env) (SP X pins D) X.xe s
def PSs(X:Cx)(st:List Stmt)(t:TS):Prop:=
 ∀(pins:List (Addr×Obj))(s:Shared)(σ:St)(H:Hp)(D:Ends),Inv X pins σ H s->t D σ H->wpAny (model X.prog X.w) X.A (execs st X.env) (SP X pins D) X.xe s
def thn{α:Type}{t:Sem α}{Q Q':α->Shared->Prop}(h:wpAny M A t Q E s)(hQ:∀a s,Q a s->Q' a s):wpAny M A t Q' E s:=fW h hQ λ_ _ x=>x
section
variable{X:Cx}
def tVar(i:Nat):TE:=fun σ H Q=>∃v,σ[i]?=some (some v)/\Q v H
def tC(v:V):TE:=λ_ H Q=>Q v H
def a6I(hN:X.N[i]?=some x)(hv:Vis X.env.scope x)(hd:(x==("__debug__":Str))=false:=by decide)(hcd:(x==("__classdict__":Str))=false:=by decide):PE X (.Name x pos) (tVar i):=by
 intro b s σ H Q I h;obtain⟨v,e,h⟩:=h;obtain⟨m,f,d⟩:=I.loc;obtain⟨u,r,l⟩:=d i x v hN e hv;have a:EP X b σ Q u s:=⟨v,H,I,r,h⟩;rcases l with ⟨hk,hm⟩ |⟨hk,c,hc,hcell⟩
 ·exact i9 (wpAny_loadName_local I.ok.kind hk f hm a) hd
 ·rcases hk with hk |hk
  ·exact i9 (wpAny_loadName_cell I.ok.kind hk hc hcell a) hd
  ·exact i9 (wpAny_loadName_free I.ok.kind hk hc hcell a hcd) hd
def b2z:PE X (.Constant (.int i) j pos) (tC (.int i)):=λ_ _ _ H _ I h=>wpAny_Constant_int ⟨.int i,H,I.tok _,⟨_,rfl⟩,h⟩
def b5p:PE X (.Constant (.bool b) j pos) (tC (.bl b)):=λ_ _ _ H _ I h=>Constant_bool ⟨.bl b,H,I,rfl,h⟩
def b2A:PE X (.Constant .none j pos) (tC .non):=λ_ _ _ H _ I h=>Constant_none ⟨.non,H,I,rfl,h⟩
def b2B:PE X (.Constant (.str x) j pos) (tC (.str x)):=λ_ _ _ H _ I h=>Calls.Constant_str ⟨.str x,H,I.tok _,⟨_,rfl⟩,h⟩
def Gl(X:Cx)(x:Str):Prop:=X.env.kindOf x=some .globalImplicit
def a4T(I:Inv X pins σ H s)(hg:Gl X x)(hm:X.mg x=some u)(h:Q u s)
  (hd:(x==("__debug__":Str))=false:=by decide):wpAny (model X.prog X.w) X.A (eval (.Name x pos) X.env) Q E s:=
 Calls.Name_function_global I.ok.kind hg (Calls.loadGlobal_global (I.ok.glob▸I.mod.glob.keeps I.bk) hm h) hd
def a2I(I:Inv X pins σ H s)(hg:Gl X x)(hm:X.mg x=none)(hv:gg x=some u)(h:Q u s)
  (hn:x≠"__name__":=by decide) (hd:(x==("__debug__":Str))=false:=by decide):wpAny (model X.prog X.w) X.A (eval (.Name x pos) X.env) Q E s:=by
 obtain⟨c,b,a⟩:=I.mod.blt;exact Calls.Name_function_global I.ok.kind hg (Calls.loadGlobal_builtin (I.ok.glob▸I.mod.glob.keeps I.bk) hm (I.ok.blt▸b.keeps I.bk) ((a x hn).trans hv) h) hd
def a3p(hg:Gl X x)(hm:X.mg x=none)(hv:gg x=some u)(r:RelV v u)(hn:x≠"__name__":=by decide)(hd:(x==("__debug__":Str))=false:=by decide):PE X (.Name x pos) (tC v):=
 λ_ _ _ H _ I h=>a2I I hg hm hv ⟨v,H,I,r,h⟩ hn hd
variable{a b:Expr}{ta tb:TE}{pos:Pos}
def PC(X:Cx)(op:CmpOp)(a b:Expr)(t:TE):Prop:=
 ∀(pins:List (Addr×Obj))(s:Shared)(σ:St)(H:Hp)(Q:VK),Inv X pins σ H s->t σ H Q ->
  wpAny (model X.prog X.w) X.A (eval a X.env) (λv sj=>wpAny (model X.prog X.w) X.A (eval b X.env) (λu sv=>wpAny (model X.prog X.w) X.A (fM op v u) (EP X pins σ Q) X.xe sv) X.xe sj) X.xe s
noncomputable def tB(t:TE):TT:=fun σ H Q=>t σ H λx H1=>∃c,x=.bl c/\Q c H1
def b2C(h:PE X e t)(he:∀whole,isTrue e X.env whole=(do let v <- whole;gB e.pos;gb [v] (truthy v)):=by intro _;rfl):PT X e (tB t):=by
 intro a s σ H Q I f;refine isTrue_plain (thn (h a s σ H _ I f) λv j ⟨x,b,i,g,c⟩=>?_) (he _);obtain⟨d,rfl,q⟩:=c;cases g;exact gw ⟨b,i,q⟩
variable{tA tB':TT}{rest:List Expr}
def tAnd(t u:TT):TT:=fun σ H Q=>t σ H λc H1=>if c=true then u σ H1 Q else Q false H1
def tOr(t u:TT):TT:=fun σ H Q=>t σ H λc H1=>if c=true then Q true H1 else u σ H1 Q
def tNot(t:TT):TT:=fun σ H Q=>t σ H λc H1=>Q (!c) H1
def b0K(ha:PT X a tA):PW X (.BoolOp .And [a] pos) tA:=by
 intro f b s σ H Q I h;refine isTrue_and (thn (ha b s σ H Q I h) λc d e=>?_);cases c with
 |true=>exact isTrue_and_nil e
 |false=>exact e
def b2D(ha:PT X a tA):PW X (.BoolOp .Or [a] pos) tA:=by
 intro f b s σ H Q I h;refine isTrue_or (thn (ha b s σ H Q I h) λc d e=>?_);cases c with
 |false=>exact isTrue_or_nil e
 |true=>exact e
def b2E(ha:PT X a tA)(hb:PW X (.BoolOp .And (b::rest) pos) tB'):PW X (.BoolOp .And (a::b::rest) pos) (tAnd tA tB'):=by
 intro j d s σ H Q I h;refine isTrue_and (thn (ha d s σ H _ I h) λc i Y=>Y.elim λe Y=>Y.elim λg f=>?_);cases c with
 |true=>exact hb j d i σ e Q g f
 |false=>exact⟨e,g,f⟩
def b5q(ha:PT X a tA)(hb:PW X (.BoolOp .Or (b::rest) pos) tB'):PW X (.BoolOp .Or (a::b::rest) pos) (tOr tA tB'):=by
 intro j d s σ H Q I h;refine isTrue_or (thn (ha d s σ H _ I h) λc i Y=>Y.elim λg Y=>Y.elim λe f=>?_);cases c with
 |true=>exact⟨g,e,f⟩
 |false=>exact hb j d i σ g Q e f
def b2F(ha:PT X a tA):PT X (.UnaryOp .Not a pos) (tNot tA):=λb s σ H Q I h=>isTrue_not (ha b s σ H _ I h)
def b5r(ta tb:TE):TE:=fun σ H Q=>ta σ H λx H1=>∃c,x=.bl c/\if c=true then tb σ H1 Q else Q (.bl false) H1
def tOrV(ta tb:TE):TE:=fun σ H Q=>ta σ H λx H1=>∃c,x=.bl c/\if c=true then Q (.bl true) H1 else tb σ H1 Q
def b5s(ta:TE):TE:=fun σ H Q=>ta σ H λx H1=>∃c,x=.bl c/\Q (.bl (!c)) H1
def b2G(h:PE X a t):PE X (.BoolOp op [a] pos) t:=λb s σ H Q I c=>BoolOp_one (h b s σ H Q I c)
def b2H(ha:PE X a ta)(hb:PE X (.BoolOp .And (b::rest) pos) tb):PE X (.BoolOp .And (a::b::rest) pos) (b5r ta tb):=by
 intro d s σ H Q I h;refine BoolOp_and (thn (ha d s σ H _ I h) λv j ⟨x,f,g,i,e⟩=>?_);obtain⟨c,rfl,e⟩:=e;cases i;refine gw ?_;cases c with
 |true=>exact hb d j σ f Q g e
 |false=>exact⟨.bl false,f,g,rfl,e⟩
def b5t(ha:PE X a ta)(hb:PE X (.BoolOp .Or (b::rest) pos) tb):PE X (.BoolOp .Or (a::b::rest) pos) (tOrV ta tb):=by
 intro d s σ H Q I h;refine BoolOp_or (thn (ha d s σ H _ I h) λv i ⟨x,g,f,j,e⟩=>?_);obtain⟨c,rfl,e⟩:=e;cases j;refine gw ?_;cases c with
 |false=>exact hb d i σ g Q f e
 |true=>exact⟨.bl true,g,f,rfl,e⟩
def b2I(ha:PE X a ta):PE X (.UnaryOp .Not a pos) (b5s ta):=by
 intro b s σ H Q I h;refine UnaryOp_ (thn (ha b s σ H _ I h) λv i ⟨x,g,f,e,d⟩=>?_);obtain⟨c,rfl,d⟩:=d;cases e;exact not_of (gw ⟨.bl (!c),g,f,rfl,d⟩)
def tIf(t:TT)(ta tb:TE):TE:=fun σ H Q=>t σ H λc H1=>if c=true then ta σ H1 Q else tb σ H1 Q
def a8I(hc:PT X c tA)(ha:PE X a ta)(hb:PE X b tb):PE X (.IfExp c a b pos) (tIf tA ta tb):=by
 intro e s σ H Q I h;refine wpAny_IfExp (thn (hc e s σ H _ I h) λd j Y=>Y.elim λi Y=>Y.elim λf g=>?_);cases d with
 |true=>exact ha e j σ i Q f g
 |false=>exact hb e j σ i Q f g
end
def SqL(K:Fg)(H:Hp)(a:Addr)(xs:List V):Prop:=
 Rd H a (.lst xs) \/
  ∃(o:Obj)(its:Array Value)(n:Nat),K.lookup a=some o/\o.cls=.type "list"/\o.dict=none/\o.data=.seq its n/\its.size<=fG/\Vals xs its.toList
def SqT(K:Fg)(H:Hp)(a:Addr)(xs:List V):Prop:=
 Rd H a (.tup xs) \/
  ∃(o:Obj)(its:Array Value)(n:Nat),K.lookup a=some o/\o.cls=.type "tuple"/\o.data=.seq its n/\its.size<=fG/\Vals xs its.toList
noncomputable def absV:Value->Option V
 |.none=>some .non
 |.bool b=>some (.bl b)
 |.int i _=>some (.int i)
 |.str x _=>some (.str x)
 |.bytes b _=>some (.byt b)
 |.float b _=>some (.flt b)
 |.ref a=>some (.ref a)
 |.type n=>some (.ty n)
 |_=>none
def RelV.abs(r:RelV x u):absV u=some x:=by
 cases x with
 |non=>cases r;rfl
 |bl _=>cases r;rfl
 |int _=>obtain⟨t,rfl⟩:=r;rfl
 |str _=>obtain⟨t,rfl⟩:=r;rfl
 |byt _=>obtain⟨t,rfl⟩:=r;rfl
 |flt _=>obtain⟨t,rfl⟩:=r;rfl
 |ref _=>cases r;rfl
 |ty _=>cases r;rfl
def RelV.inj(r:RelV x u)(q:RelV y u):x=y:=bv.inj (r.abs.symm.trans q.abs)
def Vals.inj:∀{xs ys:List V}{us:List Value},Vals xs us->Vals ys us->xs=ys:=by
 intro xs ys us h
 induction h generalizing ys with
 |nil=>intro k;cases k;rfl
 |cons r t ih=>
  intro k;cases k with
  |cons r' t'=>rw[r.inj r',ih t']
section
variable{X:Cx}{pins:List (Addr×Obj)}{σ:St}{H:Hp}{s:Shared}{a:Addr}{xs ys:List V}
def SqL.of{K:Fg}(h:H a=some (.lst xs)):SqL K H a xs:=.inl (.inl h)
def SqT.of{K:Fg}(h:H a=some (.tup xs)):SqT K H a xs:=.inl (.inl h)
def Inv.list(I:Inv X pins σ H s)(h:SqL X.K H a xs):∃its:List Value,Vals xs its/\PlainL s.heap a its.toArray/\xs.length<=sizeLine:=by
 rcases h with h |⟨o,b,n,hk,hc,hd,hs,hz,r⟩
 ·obtain⟨z,b,n,r,e⟩:=h.ok I.hok;exact⟨b,r,⟨_,n,e,rfl,rfl,rfl⟩,z⟩
 ·refine⟨b.toList,r,⟨o,n,I.kIn a o hk,hc,hd,by simpa using hs⟩,?_⟩;have e:=r.length;simp at e
  lia
def Inv.tuple(I:Inv X pins σ H s)(h:SqT X.K H a xs):∃its:List Value,Vals xs its/\IsTup s.heap a its.toArray/\xs.length<=sizeLine:=by
 rcases h with h |⟨o,b,n,hk,hc,hs,hz,r⟩
 ·obtain⟨z,b,r,p⟩:=h.ok I.hok;exact⟨b,r,p,z⟩
 ·refine⟨b.toList,r,⟨o,I.kIn a o hk,hc,n,by simpa using hs⟩,?_⟩;have e:=r.length;simp at e
  lia
def Inv.list_inj(I:Inv X pins σ H s)(h:SqL X.K H a xs)(h':SqL X.K H a ys):xs=ys:=by
 obtain⟨f,r,⟨o,n,e,_,_,d⟩,_⟩:=I.list h;obtain⟨b,i,⟨j,k,c,_,_,g⟩,_⟩:=I.list h'
 have:f=b:=by grind
 subst this;exact r.inj i
def Inv.tuple_inj(I:Inv X pins σ H s)(h:SqT X.K H a xs)(h':SqT X.K H a ys):xs=ys:=by
 obtain⟨f,r,⟨o,e,_,n,d⟩,_⟩:=I.tuple h;obtain⟨b,i,⟨j,c,_,k,g⟩,_⟩:=I.tuple h'
 have:f=b:=by grind
 subst this;exact r.inj i
end
abbrev Cx.wish(X:Cx)(E:Value->Shared->Prop):Cx:={ X with xe:=E }
abbrev Cx.nox(X:Cx):Cx:=X.wish λ_ _=>False
noncomputable def Cx.Ok.wish{X:Cx}(ok:X.Ok)(E:Value->Shared->Prop):(X.wish E).Ok:=
 ⟨ok.mod,ok.kind,ok.glob,ok.blt,ok.above,ok.inj,ok.has,ok.cab,ok.hd,ok.frames,ok.stk,ok.exf,ok.bs,ok.bsz,ok.noex,ok.exfs,ok.funs,ok.frf⟩
def Cx.Ok.unwish{X:Cx}(ok:(X.wish E).Ok):X.Ok:=
 ⟨ok.mod,ok.kind,ok.glob,ok.blt,ok.above,ok.inj,ok.has,ok.cab,ok.hd,ok.frames,ok.stk,ok.exf,ok.bs,ok.bsz,ok.noex,ok.exfs,ok.funs,ok.frf⟩
section
variable{X:Cx}{pins:List (Addr×Obj)}{σ:St}{H:Hp}{s:Shared}{E:Value->Shared->Prop}
noncomputable def Inv.wish(I:Inv X pins σ H s)(E:Value->Shared->Prop):Inv (X.wish E) pins σ H s:=⟨I.ok.wish E,I.os,I.bare,I.base,I.loc,I.cell,I.free,I.freeC,I.pin,I.hok,I.len⟩
def Inv.unwish(I:Inv (X.wish E) pins σ H s):Inv X pins σ H s:=⟨I.ok.unwish,I.os,I.bare,I.base,I.loc,I.cell,I.free,I.freeC,I.pin,I.hok,I.len⟩
def SP.unwish(h:SP (X.wish E) pins D f s'):SP X pins D f s':=by
 cases f with
 |next=>obtain⟨σ',H',I,q⟩:=h;exact⟨σ',H',I.unwish,q⟩
 |brk=>obtain⟨σ',H',I,q⟩:=h;exact⟨σ',H',I.unwish,q⟩
 |cont=>obtain⟨σ',H',I,q⟩:=h;exact⟨σ',H',I.unwish,q⟩
 |ret u=>obtain⟨v,σ',H',I,r,q⟩:=h;exact⟨v,σ',H',I.unwish,r,q⟩
noncomputable def PE.nox(h:PE X.nox e t):PE X e t:=λa s σ H Q I d=>
 fW (h a s σ H Q (I.wish _) d) (by rintro _ _ ⟨v,b,c,r,q⟩;exact⟨v,b,c.unwish,r,q⟩) λ_ _ z=>bg z
noncomputable def PT.nox(h:PT X.nox e t):PT X e t:=λa s σ H Q I d=>
 fW (h a s σ H Q (I.wish _) d) (by rintro _ _ ⟨c,b,q⟩;exact⟨c,b.unwish,q⟩) λ_ _ z=>bg z
noncomputable def PSs.nox{st:List Stmt}(h:PSs X.nox st t):PSs X st t:=λa s σ H D I b=>
 fW (h a s σ H D (I.wish _) b) (λ_ _ q=>q.unwish) λ_ _ z=>bg z
end
section
variable{X:Cx}{st:Stmt}{rest:List Stmt}{t u:TS}{e:Expr}{te:TE}{pos:Pos}
def b2J:TS:=λD σ H=>D.nx σ H
def tSeq(t u:TS):TS:=λD σ H=>t { D with nx:=u D } σ H
def b0L:PSs X [] b2J:=λ_ _ σ H _ I h=>iK ⟨σ,H,I,h⟩
def a5k(h1:PS X st t)(h2:PSs X rest u):PSs X (st::rest) (tSeq t u):=by
 intro a s σ H D I h;refine wpAny_execs_cons (thn (h1 a s σ H { D with nx:=u D } I h) λf b q=>?_);cases f with
 |next=>
  obtain⟨σ',H',I',q⟩:=q;exact h2 a b σ' H' D I' q
 |ret v=>exact q
 |brk=>exact q
 |cont=>exact q
def b0M(h1:PS X st t):PSs X [st] t:=by
 intro a s σ H D I h;refine wpAny_execs_cons (thn (h1 a s σ H D I h) λf b q=>?_);cases f with
 |next=>exact iK q
 |ret v=>exact q
 |brk=>exact q
 |cont=>exact q
def b2K:TS:=λD σ H=>D.bk σ H
def b5u:TS:=λD σ H=>D.ct σ H
def b0N:PS X (.Pass pos) b2J:=λ_ _ σ H _ I h=>wpAny_Pass ⟨σ,H,I,h⟩
def a8J:PS X (.Break pos) b2K:=λ_ _ σ H _ I h=>wpAny_Break ⟨σ,H,I,h⟩
def a4U:PS X (.Continue pos) b5u:=λ_ _ σ H _ I h=>wpAny_Continue ⟨σ,H,I,h⟩
def Inv.quiet(I:Inv X pins σ H s):interactive X.env=false:=by simp[interactive,I.ok.kind]
def b5v(te:TE):TS:=λD σ H=>te σ H λ_ H1=>D.nx σ H1
def b0O(he:PE X e te)(hs:gM e none pos.line X.env=pure false):PS X (.Expr e pos) (b5v te):=λa s σ H D I h=>wpAny_Expr_any (thn (he a s σ H _ I h) λv f ⟨x,d,c,g,b⟩=>⟨σ,d,c,b⟩) I.quiet hs
def tRet(te:TE):TS:=λD σ H=>te σ H D.rt
def b2L(he:PE X e te):PS X (.Return (some e) pos) (tRet te):=λa s σ H D I h=>wpAny_Return_some (thn (he a s σ H _ I h) λv g ⟨x,c,b,f,d⟩=>⟨x,σ,c,b,f,d⟩)
def b5w:TS:=λD _ H=>D.rt .non H
def b0P:PS X (.Return none pos) b5w:=λ_ _ σ H _ I h=>wpAny_Return_none ⟨.non,σ,H,I,rfl,h⟩
def tIfS(c:TT)(t u:TS):TS:=λD σ H=>c σ H λb H1=>if b=true then t D σ H1 else u D σ H1
def b5x(hc:PT X c tc)(ha:PSs X a t)(hb:PSs X b u):PS X (.If c a b pos) (tIfS tc t u):=by
 intro e s σ H D I h;refine wpAny_If (thn (hc e s σ H _ I h) λd f Y=>Y.elim λg Y=>Y.elim λi j=>?_);cases d with
 |true=>exact ha e f σ g D i j
 |false=>exact hb e f σ g D i j
end
abbrev TG:=V->St->Hp->(St->Hp->Prop)->Prop
abbrev TGs:=List V->St->Hp->(St->Hp->Prop)->Prop
def PG(X:Cx)(target:Expr)(t:TG):Prop:=
 ∀(pins:List (Addr×Obj))(s:Shared)(σ:St)(H:Hp)(v:V)(u:Value)(Q:St->Hp->Prop),Inv X pins σ H s->RelV v u->t v σ H Q ->
  wpAny (model X.prog X.w) X.A (assign target X.env u) (λ_ s'=>∃σ' H',Inv X pins σ' H' s'/\Q σ' H') X.xe s
def PGs(X:Cx)(ts:List Expr)(t:TGs):Prop:=
 ∀(pins:List (Addr×Obj))(s:Shared)(σ:St)(H:Hp)(vs:List V)(us:List Value)(Q:St->Hp->Prop),Inv X pins σ H s->Vals vs us->t vs σ H Q ->
  wpAny (model X.prog X.w) X.A (assignInOrder ((gz ts X.env).map (·.2)) us) (λ_ s'=>∃σ' H',Inv X pins σ' H' s'/\Q σ' H') X.xe s
abbrev TSet:=V->V->V->Hp->(Hp->Prop)->Prop
def PSet(X:Cx)(t:TSet):Prop:=
 ∀(pins:List (Addr×Obj))(s:Shared)(σ:St)(H:Hp)(o i v:V)(ov iv u:Value)(Q:Hp->Prop),Inv X pins σ H s->RelV o ov->RelV i iv->RelV v u->t o i v H Q ->
  wpAny (model X.prog X.w) X.A (iM ov iv u) (λ_ s'=>∃H',Inv X pins σ H' s'/\Q H') X.xe s
abbrev TIp:=V->V->Hp->VK->Prop
def PIp(X:Cx)(op:Operator)(t:TIp):Prop:=
 ∀(pins:List (Addr×Obj))(s:Shared)(σ:St)(H:Hp)(x y:V)(v u:Value)(Q:VK),Inv X pins σ H s->RelV x v->RelV y u->t x y H Q ->
  wpAny (model X.prog X.w) X.A (gN op v u) (EP X pins σ Q) X.xe s
section
variable{X:Cx}{pos:Pos}
def a8K(i:Nat):TG:=λv σ H Q=>Q (σ.set i (some v)) H
def a6J(hN:X.N.Nodup)(hi:X.N[i]?=some x)(hx:Loc X.env.scope x)(hf:X.fn x=true\/X.env.scope.names.lookup x=some .local):PG X (.Name x pos) (a8K i):=λb s σ H v u Q I r h=>wpAny_assign_Name (a3o I hN hi hx r (λc a=>⟨_,H,a,h⟩) hf)
def gNil:TGs:=λvs σ H Q=>vs=[]/\Q σ H
def b2M(t:TG)(u:TGs):TGs:=λvs σ H Q=>∃v r,vs=v::r/\t v σ H fun σ' H'=>u r σ' H' Q
def b0Q:PGs X [] gNil:=by
 intro a s σ H b c Q I r h;obtain⟨e,h⟩:=h;subst e;exact assignInOrder_nil ⟨σ,H,I,h⟩
def a8L(h1:PG X e t)(h2:PGs X es u)
  (hs:(gz (e::es) X.env).map (·.2)=assign e X.env::(gz es X.env).map (·.2):=by rfl):PGs X (e::es) (b2M t u):=by
 intro a s σ H k i Q I r h;obtain⟨v,j,g,h⟩:=h;subst g;cases r with
 |cons r rr=>
  rw[hs];exact assignInOrder_cons (thn (h1 a s σ H _ _ _ I r h) λ_ f ⟨σ1,d,b,c⟩=>(h2 a f σ1 d _ _ Q b rr c))
def gTup(K:Fg)(n:Nat)(t:TGs):TG:=λv σ H Q=>∃a xs,v=.ref a/\SqT K H a xs/\xs.length=n/\t xs σ H Q
def b2N(hc:X.calm=true)(h:PGs X es t)
  (hn:(gz es X.env).length=n) (hst:(gz es X.env).findIdx? (·.1)=none):PG X (.Tuple es k pos) (gTup X.K n t):=by
 intro c s σ H v u Q I r d;obtain⟨a,i,q,m,l,d⟩:=d;subst q;cases r;obtain⟨x,f,p,y⟩:=I.tuple m;exact assign_Tuple_tuple (I.ok.hd hc) p (by simp[hn,<- l,f.length]) hst λw j=>(h c _ σ H i _ Q (I.kept (t':=s.toks) λb o e=>j b o (bj (Heap.lt_size e)) e) (by omega) d)
def gSub(to ti:TE)(t:TSet):TG:=λv σ H Q=>to σ H λo H1=>ti σ H1 λi H2=>t o i v H2 λH3=>Q σ H3
def b2O(ho:PE X o to)(hi:PE X i ti)(hs:PSet X t)
  (ha:∀v,assign (.Subscript o i pos) X.env v=(do
   let ov <- gb [v] (eval o X.env)
   let iv <- gb [v,ov] (eval i X.env)
   gB pos
   gb [v,ov,iv] (iM ov iv v)
   release [v,ov,iv] []):=by intro _;rfl):PG X (.Subscript o i pos) (gSub to ti t):=by
 intro a s σ H v u Q I r h;rw[ha];exact fF (f7 (thn (ho a s σ H _ I h) λl n ⟨x,c,e,g,p⟩=>(fF (f7 (thn (hi a n σ c _ e p) λm q ⟨y,f,w,b,k⟩=>(fF (wpAny_standAt (fF (f7 (thn (hs a q σ f x y v l m u _ w g b r k) λ_ A Y=>Y.elim λj Y=>Y.elim λz d=>(wpAny_release ⟨σ,j,z,d⟩)))))))))))
def tAsg(te:TE)(g:TG):TS:=λD σ H=>te σ H λx H1=>g x σ H1 D.nx
def b0b(he:PE X e te)(hg:PG X tg g)(hs:ja [tg] e pos.line X.env=pure false)(hw:jc [tg] e X.env=pure none)
  (h1:(gz [tg] X.env).map (·.2)=[assign tg X.env]):PS X (.Assign [tg] e pos) (tAsg te g):=by
 intro a s σ H D I h;refine wpAny_Assign_stores (thn (he a s σ H _ I h) λv c ⟨x,d,b,i,f⟩=>?_) hs hw;rw[h1];exact thn (hg a c σ d x v _ b i f) λ_ j q=>q
def b2P(hN:X.N.Nodup)(hi:X.N[i]?=some x)(hx:Loc X.env.scope x)(he:PE X e te)(hs:gM e (some (.Name x pos')) pos.line X.env=pure false)(hf:X.fn x=true\/X.env.scope.names.lookup x=some .local) :
  PS X (.Assign [.Name x pos'] e pos) (tAsg te (a8K i)):=by
 intro a s σ H D I h;refine wpAny_Assign_Name (thn (he a s σ H _ I h) λv j ⟨y,f,d,c,g⟩=>?_) hs;exact a3o d hN hi hx c (λk b=>⟨_,f,b,g⟩) hf
def tAug(i:Nat)(te:TE)(ti:TIp):TS:=λD σ H=>∃x,σ[i]?=some (some x)/\te σ H λy H1=>ti x y H1 λz H2=>D.nx (σ.set i (some z)) H2
def b2Q(hN:X.N.Nodup)(hi:X.N[i]?=some x)(hx:Loc X.env.scope x)(he:PE X e te)(ho:PIp X op ti)(hf:X.fn x=true\/X.env.scope.names.lookup x=some .local) :
  PS X (.AugAssign (.Name x pos') op e pos) (tAug i te ti):=by
 intro a s σ H D I h;obtain⟨v,f,h⟩:=h;obtain⟨m,g,j⟩:=I.loc;have b:Vis X.env.scope x:=by rcases hx with k |k;exact .inl k;exact .inr (.inl k)
 obtain⟨u,r,l⟩:=j i x v hi f b;refine wpAny_AugAssign_Name ?_;have d:wpAny (model X.prog X.w) X.A (eval e X.env) (λw B=>wpAny (model X.prog X.w) X.A (gN op u w) (λr G=>wpAny (model X.prog X.w) X.A (i8 X.env x r) (λ_=>SP X a D .next) X.xe G) X.xe B) X.xe s:=by
  exact thn (he a s σ H _ I h) λw C ⟨y,n,p,F,t⟩=>(thn (ho a C σ n v y u w _ p r F t) λz Q ⟨M,E,o,L,J⟩=>(a3o o hN hi hx L (λR q=>⟨_,E,q,J⟩) hf))
 rcases l with ⟨hk,hm⟩ |⟨hk,c,hc,hcell⟩
 ·exact wpAny_loadName_local I.ok.kind hk g hm d
 ·rcases hk with hk |hk
  ·exact wpAny_loadName_cell I.ok.kind hk hc hcell d
  ·rcases hx with k |k
   ·have:X.env.scope.names.lookup x=some .free:=hk
    rw[k]at this;cases this
   ·have:X.env.scope.names.lookup x=some .free:=hk
    rw[k]at this;cases this
end
section
variable{X:Cx}{pos:Pos}
def b2R(c:TT)(tb:TS):TS:=λD σ H=>∃W:Nat->St->Hp->Prop,(∃m,W m σ H)/\∀m σ H,W m σ H ->
 c σ H λb H1=>if b=true then ∃N:St->Hp->Prop,(∀σ' H',N σ' H'->∃m',m'<m/\W m' σ' H')/\tb { D with nx:=N,ct:=N,bk:=D.nx } σ H1 else D.nx σ H1
def a8M(hp:fT (model X.prog X.w) X.A X.env X.xe)(hc:PT X c tc)(hb:PSs X body tb):PS X (.While c body [] pos) (b2R tc tb):=by
 intro a s σ H D I h;obtain⟨W,⟨z,y⟩,g⟩:=h;refine wpAny_While (codeAny_whileLoop (λn t=>∃σ' H',Inv X a σ' H' t/\W n σ' H') ?_ z ⟨σ,H,I,y⟩);rintro n x ⟨σ1,q,r,u⟩;refine gO hp (thn (hc a x σ1 q _ r (g n σ1 q u)) λb B Y=>Y.elim λo Y=>Y.elim λm e=>?_);cases b with
 |true=>
  obtain⟨N,p,e⟩:=e;refine gO hp (thn (hb a B σ1 o _ m e) λf C d=>?_);cases f with
  |next=>
   obtain⟨σ3,H3,I3,k⟩:=d;obtain⟨j,l,i⟩:=p σ3 H3 k;exact⟨j,l,σ3,H3,I3,i⟩
  |cont=>
   obtain⟨σ3,H3,I3,k⟩:=d;obtain⟨j,l,i⟩:=p σ3 H3 k;exact⟨j,l,σ3,H3,I3,i⟩
  |brk=>exact d
  |ret v=>exact d
 |false=>
  exact iK ⟨σ1,o,m,e⟩
end
structure It where
 go:Nat->Hp->Prop
 yld:Nat->Hp->V->Hp->Prop
 stop:Nat->Hp->Prop
def FpOk(X:Cx)(pins:List (Addr×Obj))(H:Hp)(b:Addr):Prop:=
 H b=none/\b≠X.env.locals/\b∉X.fs/\(b∈X.ex\/X.s₀.heap.objs.size<=b)/\(∀x c,X.env.cells.lookup x=some c->c≠b)/\∀p∈X.pn++pins,p.1≠b
def Inv.fpOk(I:Inv X pins σ H s)(hb:s.heap.objs.size<=b)(hn:H' b=none):FpOk X pins H' b:=by
 refine⟨hn,cn (bx I.lt hb),I.nofs hb,.inr (be I.sz hb),λx c e z=>?_,λp a z=>(absurd (bx (Heap.lt_size (I.pin p a).1) (by simp_all)) (b6 _))⟩
 ·obtain⟨v,q⟩:=I.cell x c e;exact absurd (bx q.lt (by simp_all)) (b6 _)
structure Turn (P:fK) (w:World) (K:Fg) (tg:Expr) (J:It) (fp:List Addr) (it:Addr) (tn:Nat->Heap->Prop):Prop where
 mem:it∈fp
 obj:∀i h,tn i h->∀b∈fp,∃o,h.get? b=some o/\∀v,o.data≠.cell v
 keep:∀i h h',tn i h->(∀b∈fp,∀o,h.get? b=some o->h'.get? b=some o)->tn i h'
 item:∀(X:Cx),X.prog=P->X.w=w->X.K=K->X.calm=true->∀(i:Nat)(pins:List (Addr×Obj))(s:Shared)(σ:St)(H:Hp)(E:Value->Shared->Prop),Inv X pins σ H s->(∀b∈fp,FpOk X pins H b)->tn i s.heap->J.go i H ->
  wpAny (model P w) X.A (pyNext (.ref it)) (λr s1=>∃u,r=some u /\
   wpAny (model P w) X.A (jd tg (.ref it) u) (λ_ s2=>∃x H',Inv X pins σ H' s2/\RelV x u/\J.yld i H x H'/\tn (i+1) s2.heap/\∀b∈fp,H' b=none) E s1) E s
 done:∀(X:Cx),X.prog=P->X.w=w->X.K=K->X.calm=true->∀(i:Nat)(pins:List (Addr×Obj))(s:Shared)(σ:St)(H:Hp)(E:Value->Shared->Prop),Inv X pins σ H s->(∀b∈fp,FpOk X pins H b)->tn i s.heap->J.stop i H ->
  wpAny (model P w) X.A (pyNext (.ref it)) (λr s1=>r=none/\Inv X pins σ H s1) E s
 self:∀(A:Around)(i:Nat)(s:Shared)(Q:Value->Shared->Prop)(E:Value->Shared->Prop),tn i s.heap->Q (.ref it) s->wpAny (model P w) A (pyIter (.ref it)) Q E s
abbrev TI:=St->Hp->(It->Hp->Prop)->Prop
def PIE(X:Cx)(pins:List (Addr×Obj))(σ:St)(tg:Expr)(R:It->Hp->Prop)(itv:Value)(s2:Shared):Prop:=
 ∃(it:Addr)(fp:List Addr)(tn:Nat->Heap->Prop)(J:It)(H':Hp),itv=.ref it/\Inv X pins σ H' s2/\Turn X.prog X.w X.K tg J fp it tn/\tn 0 s2.heap/\(∀b∈fp,FpOk X pins H' b)/\R J H'
def PI(X:Cx)(tg iter:Expr)(wi:TI):Prop:=
 ∀(pins:List (Addr×Obj))(s:Shared)(σ:St)(H:Hp)(R:It->Hp->Prop),Inv X pins σ H s->wi σ H R ->
  wpAny (model X.prog X.w) X.A (eval iter X.env) (λv s1=>wpAny (model X.prog X.w) X.A (pyIter v) (PIE X pins σ tg R) X.xe s1) X.xe s
def a8N(ho:s.heap.get? it=some o)(hc:o.cls=.type n)(hd:o.data=.fields vs)
    (hn:["enumerate","zip","dict_itemiterator","dict_reverseitemiterator","odict_iterator","itertools.zip_longest","itertools.pairwise"].contains n=false) (hQ:Q () s):wpAny M A (jd tg (.ref it) u) Q E s:=by
  cases tg<;>first
    |exact fI hQ
    | (cases u<;>first
        |exact fI hQ
        | (refine fF (wpAny_load ho ?_)
           rw[hc,hd]
           show wpAny M A (if _=true then _ else _) Q E s
           rw[if_neg (by grind)];exact fI hQ))
noncomputable def Itl(K:Fg)(a:Addr):It:=
 ⟨λi H=>∃xs x,SqL K H a xs/\xs[i]?=some x,λi H x H'=>H'=H/\∀xs,SqL K H a xs->xs[i]?=some x,λi H=>∃xs,SqL K H a xs/\xs.length<=i⟩
noncomputable def Itr(lo:Int)(n:Nat):It:=⟨λi _=>i<n,λi H x H'=>H'=H/\x=.int (lo+i),λi _=>n<=i⟩
theorem a6K{P:fK}{w:World}{K:Fg}{tg:Expr}(a it:Addr):Turn P w K tg (Itl K a) [it] it (λi h=>h.IsListIter it a i) where
 mem:=by simp
 obj:=λi h st b hb=>by
  have e:b=it:=by simpa using hb
  subst e;obtain⟨o,e,c,d⟩:=st;exact⟨o,e,λv z=>by rw[d]at z;cases z⟩
 keep:=λi h h' st k=>st.at λo e=>k it (by simp) o e
 item:=by
  intro X hP hw hK hc i pins s σ H E I hf st hg;subst hP hw hK;obtain⟨xs,x,hq,hx⟩:=hg;obtain⟨its,rv,p,hz⟩:=I.list hq;obtain⟨u,hu,ru⟩:=rv.get hx;obtain⟨f0,f1,f2,f3,f4,f5⟩:=hf it (by simp);refine wpAny_pyNext_list_item st p.isList (x:=u) (by simpa using hu) λh' st' sb=>?_;have I1:Inv X pins σ H { s with heap:=h' }:=I.turned (t':=s.toks) (λb o hb e=>(sb.2 b hb).trans e) f0 f1 f3 f4 f5;obtain⟨o,e,c,d⟩:=id st';exact⟨u,rfl,a8N (s:={ s with heap:=h' }) e c d (by decide) ⟨x,H,I1,ru,⟨rfl,λys hy=>by rw[I.list_inj hy hq];exact hx⟩,st',λb hb=>(hf b hb).1⟩⟩
 done:=by
  intro X hP hw hK hc i pins s σ H E I hf st hg;subst hP hw hK;obtain⟨xs,hq,hx⟩:=hg;obtain⟨its,rv,p,hz⟩:=I.list hq;obtain⟨f0,f1,f2,f3,f4,f5⟩:=hf it (by simp);have hl:=rv.length;exact wpAny_pyNext_list_end (I.ok.hd hc) st p.isList (by simp;omega) λh' eb=>⟨rfl,I.turned (t':=s.toks) (λb o hb e=>eb b o hb e) f0 f1 f3 f4 f5⟩
 self:=λ_ _ _ _ _ st h=>wpAny_pyIter_listiter st h
theorem a56{P:fK}{w:World}{K:Fg}{tg:Expr}(it:Addr)(lo:Int)(n:Nat):Turn P w K tg (Itr lo n) [it] it (λi h=>IsRangeIter h it (lo+(i:Nat)*1) ((n:Int)-(i:Nat)) 1) where
 mem:=by simp
 obj:=λi h st b hb=>by
  have e:b=it:=by simpa using hb
  subst e;exact⟨_,st,λv z=>by
   have z':Data.fields _=Data.cell v:=z;cases z'⟩
 keep:=λi h h' st k=>k it (by simp) _ st
 item:=by
  intro X hP hw hK hc i pins s σ H E I hf st hg;subst hP hw hK;obtain⟨f0,f1,f2,f3,f4,f5⟩:=hf it (by simp);have W:=Walks.range (prog:=X.prog) (w:=X.w) (I.ok.hd hc) it lo 1 n;refine W.item i s _ _ hg st λv h' tk hv st' kk=>?_;obtain⟨t,rfl⟩:=hv;have I1:Inv X pins σ H { s with heap:=h',toks:=tk }:=I.turned (λb o hb e=>kk b o (by simpa using hb) e) f0 f1 f3 f4 f5;refine⟨_,rfl,a8N (s:={ s with heap:=h',toks:=tk }) (n:="range_iterator") st' rfl rfl (by decide) ⟨.int (lo+i),H,I1,⟨t,?_⟩,⟨rfl,rfl⟩,st',λb hb=>(hf b hb).1⟩⟩;rw[Int.mul_one]
 done:=by
  intro X hP hw hK hc i pins s σ H E I hf st hg;subst hP hw hK;obtain⟨f0,f1,f2,f3,f4,f5⟩:=hf it (by simp);exact wpAny_pyNext_range_end (I.ok.hd hc) st (by have:n<=i:=hg;omega) λh' eb=>⟨rfl,I.turned (t':=s.toks) (λb o hb e=>eb b o hb e) f0 f1 f3 f4 f5⟩
 self:=λ_ _ _ _ _ st h=>wpAny_pyIter_rangeiter st h
section
variable{X:Cx}{tg:Expr}
def b5y(K:Fg)(tl:TE):TI:=fun σ H R=>tl σ H λx H1=>∃a,x=.ref a/\(∃xs,SqL K H1 a xs)/\R (Itl K a) H1
def b0R(hl:PE X l tl):PI X tg l (b5y X.K tl):=by
 intro f s σ H R I h;refine thn (hl f s σ H _ I h) λv d ⟨x,m,c,g,i⟩=>?_;obtain⟨a,e,⟨r,j⟩,q⟩:=i;subst e;cases g;obtain⟨n,u,p,t⟩:=c.list j;refine jf p.isList ⟨d.heap.objs.size,[d.heap.objs.size],_,_,m,rfl,c.kept λb o e=>Heap.get?_push_of_some _ e,a6K a _,⟨_,Heap.get?_push_size _ rfl,rfl,rfl⟩,λb k=>?_,q⟩;have e:b=d.heap.objs.size:=by simp_all
 subst e;exact c.fpOk (aV _) (c.hok.fresh (aV _))
def a8O{lo hi:Int}(I:Inv X pins σ H s)(h1:-(2 ^ 62)<=lo)(h2:lo<2 ^ 62)(h3:-(2 ^ 62)<=hi)(h4:hi<2 ^ 62)
  (q:R (Itr lo (hi-lo).toNat) H):wpAny (model X.prog X.w) X.A (pyIter (.ref s.heap.objs.size)) (PIE X pins σ tg R) E { s with heap:=s.heap.push { cls:=.type "range",data:=.fields #[.int lo t,.int hi u,.int 1 v] },toks:=tk }:=by
 refine wpAny_pyIter_range (IsRange.new ..) (small_one h1 h2 h3 h4) ?_;have a:Inv X pins σ H { s with heap:=s.heap.push { cls:=.type "range",data:=.fields #[.int lo t,.int hi u,.int 1 v] },toks:=tk }:=I.kept λb o e=>Heap.get?_push_of_some _ e;refine⟨(s.heap.push { cls:=.type "range",data:=.fields #[.int lo t,.int hi u,.int 1 v] }).objs.size,[(s.heap.push { cls:=.type "range",data:=.fields #[.int lo t,.int hi u,.int 1 v] }).objs.size],_,_,H,rfl,
  a.kept λb o e=>Heap.get?_push_of_some _ e,a56 _ lo (hi-lo).toNat,?_,λb d=>?_,q⟩
 ·have c:lo+((0:Nat))*1=lo:=by simp
  have f:(((hi-lo).toNat))-((0:Nat))=fO.Range.rangeSize lo hi 1:=by rw[rangeSize_one];split<;>lia
  rw[c,f];exact Heap.get?_push_size _ rfl
 ·have e:b=(s.heap.push { cls:=.type "range",data:=.fields #[.int lo t,.int hi u,.int 1 v] }).objs.size:=by simpa using d
  subst e;exact a.fpOk (aV _) (a.hok.fresh (aV _))
def b2S(ta:TA):TI:=fun σ H R=>ta σ H λvs H1=>∃j:Int,vs=[.int j]/\-(2 ^ 62)<=j/\j<2 ^ 62/\R (Itr 0 j.toNat) H1
def a6L(hg:Gl X "range")(hm:X.mg "range"=none)(ha:PA X [a] ta)(hs:fL [a] X.env=[(false,eval a X.env)]):PI X tg (.Call (.Name "range" p) [a] [] pos) (b2S ta):=by
 intro b s σ H R I h;refine Call_ (a2I I hg hm boot_range (PyProof.Rows.callWith_type1 (thn (ha pos b s σ H _ I h) λl k ⟨i,m,d,f,c⟩=>?_) hs rfl));obtain⟨j,e,c,g,q⟩:=c;subst e;cases f with
 |cons r rr=>
  cases rr;obtain⟨t,rfl⟩:=r;exact call_range_1 (a8O d (by simp) (by simp) c g (by grind))
def tFor(wi:TI)(g:TG)(tb:TS):TS:=λD σ H=>wi σ H λJ H1=>∃W:Nat->Nat->St->Hp->Prop,(∃m,W 0 m σ H1)/\∀i m σ H,W i m σ H ->
 (J.stop i H/\D.nx σ H)\/(J.go i H/\∃N:St->Hp->Prop,(∀σ' H',N σ' H'->∃m',m'<m/\W (i+1) m' σ' H')/\∀x H',J.yld i H x H'->g x σ H' fun σ2 H2=>tb { D with nx:=N,ct:=N,bk:=D.nx } σ2 H2)
noncomputable def a5l(fp:List Addr)(h:Heap):List (Addr×Obj):=fp.filterMap λb=>(h.get? b).map λo=>(b,o)
def a1s(hb:b∈fp)(e:h.get? b=some o):(b,o)∈a5l fp h:=bW.mpr ⟨b,hb,by rw[e];rfl⟩
def a6M(hp:p∈a5l fp h):p.1∈fp/\h.get? p.1=some p.2:=by
 obtain⟨b,a,e⟩:=bW.mp hp;cases q:h.get? b with
 |none=>rw[q]at e;cases e
 |some o=>
  rw[q]at e;have c:=bv.inj e;subst c;exact⟨a,q⟩
def Inv.pinned(I:Inv X pins σ H s)(hf:∀b∈fp,FpOk X pins H b)(ho:∀b∈fp,∃o,s.heap.get? b=some o/\∀v,o.data≠.cell v):Inv X (pins++a5l fp s.heap) σ H s:=
 I.pins_of λp h=>(aU.mp h).elim (λz=>I.pin p (bK _ z)) λz=>by
  obtain⟨a,e⟩:=a6M z;obtain⟨g,f,i,_⟩:=hf p.1 a;obtain⟨o,c,d⟩:=ho p.1 a;rw[e]at c;cases c;exact⟨e,g,f,i,d⟩
def Inv.unpinned(I:Inv X (pins++pl) σ H s):Inv X pins σ H s:=I.pins_of λp a=>I.pin p (bK _ (bR _ a))
def b2T(hp:fT (model X.prog X.w) X.A X.env X.xe)(hc:X.calm=true)(hi:PI X tg iter wi)(hg:PG X tg g)(hb:PSs X body tb)
  (hs:∀x,hU iter X.env x=pure x:=by intro _;rfl):PS X (.For tg iter body [] pos) (tFor wi g tb):=by
 intro a s σ H D I h;refine wpAny_For (thn (hi a s σ H _ I h) λv s1 h1=>thn h1 λitv s2 h2=>?_) hs;obtain⟨it,z,Q,J,H2,e,I2,T,st2,S,W,⟨m0,w0⟩,F⟩:=h2;subst e;have p:∀{H':Hp},(∀b∈z,H' b=none)->∀b∈z,FpOk X a H' b:=λhn b hb=>⟨hn b hb,(S b hb).2⟩;refine codeAny_forLoop_any (λn Y=>∃i σ' H',Inv X a σ' H' Y/\Q i Y.heap/\(∀b∈z,H' b=none)/\W i n σ' H') ?_ m0 ⟨0,σ,H2,I2,st2,λb hb=>(S b hb).1,w0⟩;rintro n U ⟨i,σ3,B,R,E,C,w3⟩;rcases F i n σ3 B w3 with ⟨stop,qn⟩ |⟨go,N,hN,step⟩
 ·refine gO hp (thn (T.done X rfl rfl rfl hc i a U σ3 B X.xe R (p C) E stop) λr s4 Y=>Y.elim λG I4=>?_);subst G;exact iK ⟨σ3,B,I4,qn⟩
 ·refine gO hp (thn (T.item X rfl rfl rfl hc i a U σ3 B X.xe R (p C) E go) λr s4 Y=>Y.elim λu Y=>Y.elim λG h4=>?_);subst G;refine gO hp (thn h4 λ_ s5 ⟨x,H5,I5,r5,y5,y,M⟩=>(gO hp (thn (hg _ s5 σ3 H5 x u _ (I5.pinned (p M) (T.obj _ _ y)) r5 (step x H5 y5)) λ_ s6 ⟨σ6,H6,I6,q6⟩=>(gO hp (thn (hb _ s6 σ6 H6 _ I6 q6) λf L l=>?_)))));have q:∀{σ7:St}{j:Hp},Inv X _ σ7 j L->N σ7 j->∃m,m<n/\∃i σ' H',Inv X a σ' H' L/\Q i L.heap/\(∀b∈z,H' b=none)/\W i m σ' H':=λ{σ7 j} c t=>by
   obtain⟨m',hm,w7⟩:=hN σ7 j t;refine⟨m',hm,i+1,σ7,j,c.unpinned,T.keep _ _ _ y λb hb o e=>(c.pin _ (bK _ (bK _ (a1s hb e)))).1,λb hb=>?_,w7⟩;obtain⟨o,e,d⟩:=T.obj _ _ y b hb;exact (c.pin _ (bK _ (bK _ (a1s hb e)))).2.1
  cases f with
  |next=>obtain⟨σ7,j,c,t⟩:=l;exact q c t
  |cont=>obtain⟨σ7,j,c,t⟩:=l;exact q c t
  |brk=>obtain⟨σ7,j,c,l⟩:=l;exact⟨σ7,j,c.unpinned,l⟩
  |ret v=>obtain⟨x7,σ7,j,c,r7,l⟩:=l;exact⟨x7,σ7,j,c.unpinned,r7,l⟩
end
abbrev R2:=V->V->Hp->VK->Prop
def OpR(X:Cx)(f:Value->Value->Sem Value)(r:R2):Prop:=
 ∀(pins:List (Addr×Obj))(s:Shared)(σ:St)(H:Hp)(x y:V)(v u:Value)(Q:VK),Inv X pins σ H s->RelV x v->RelV y u->r x y H Q ->
  wpAny (model X.prog X.w) X.A (f v u) (EP X pins σ Q) X.xe s
def UnR(X:Cx)(f:Value->Sem Value)(r:V->Hp->VK->Prop):Prop:=
 ∀(pins:List (Addr×Obj))(s:Shared)(σ:St)(H:Hp)(x:V)(v:Value)(Q:VK),Inv X pins σ H s->RelV x v->r x H Q ->
  wpAny (model X.prog X.w) X.A (f v) (EP X pins σ Q) X.xe s
def CallR(X:Cx)(f:Value)(r:List V->Hp->VK->Prop):Prop:=
 ∀(pins:List (Addr×Obj))(s:Shared)(σ:St)(H:Hp)(xs:List V)(us:List Value)(Q:VK),Inv X pins σ H s->Vals xs us->r xs H Q ->
  wpAny (model X.prog X.w) X.A (call f us) (EP X pins σ Q) X.xe s
def TruR(X:Cx)(r:V->Hp->(Bool->Hp->Prop)->Prop):Prop:=
 ∀(pins:List (Addr×Obj))(s:Shared)(σ:St)(H:Hp)(x:V)(v:Value)(Q:Bool->Hp->Prop),Inv X pins σ H s->RelV x v->r x H Q ->
  wpAny (model X.prog X.w) X.A (truthy v) (TP X pins σ Q) X.xe s
def tOp(r:R2)(ta tb:TE):TE:=fun σ H Q=>ta σ H λx H1=>tb σ H1 λy H2=>r x y H2 Q
def tUn(r:V->Hp->VK->Prop)(ta:TE):TE:=fun σ H Q=>ta σ H λx H1=>r x H1 Q
def rI(C:Int->Int->Prop)(g:Int->Int->V):R2:=λx y H Q=>∃i j,x=.int i/\y=.int j/\C i j/\Q (g i j) H
def rI0(g:Int->Int->V):R2:=λx y H Q=>∃i j,x=.int i/\y=.int j/\Q (g i j) H
def rU(g:Int->V):V->Hp->VK->Prop:=λx H Q=>∃i,x=.int i/\Q (g i) H
section
variable{X:Cx}{a b c:Expr}{ta tb tc:TE}{pos:Pos}
def binT(ha:PE X a ta)(hb:PE X b tb){R:V->V->Hp->Prop}(I:Inv X pins σ H s)
  (h:ta σ H λx H1=>tb σ H1 λy H2=>R x y H2) {f:Value->Value->Sem Value}
  (hf:∀v u s2 x y H2,Inv X pins σ H2 s2->RelV x v->RelV y u->R x y H2->wpAny (model X.prog X.w) X.A (f v u) Q X.xe s2) :
  wpAny (model X.prog X.w) X.A (eval a X.env) (λv sj=>wpAny (model X.prog X.w) X.A (eval b X.env) (λu sv=>wpAny (model X.prog X.w) X.A (f v u) Q X.xe sv) X.xe sj) X.xe s:=by
 exact thn (ha pins s σ H _ I h) λv c ⟨x,j,i,g,n⟩=>(thn (hb pins c σ j _ i n) λu e ⟨y,m,d,k,l⟩=>(hf v u e x y m d g k l))
def b5z(ho:OpR X (fV op) r)(ha:PE X a ta)(hb:PE X b tb):PE X (.BinOp a op b pos) (tOp r ta tb):=λc s σ H Q I h=>wpAny_BinOp (binT ha hb I h λv u i x y f e d g q=>ho c i σ f x y v u Q e d g q)
def b5A(ho:UnR X (iN op) r)(ha:PE X a ta):PE X (.UnaryOp op a pos) (tUn r ta):=λb s σ H Q I h=>UnaryOp_ (thn (ha b s σ H _ I h) λv d ⟨x,e,c,g,f⟩=>ho b d σ e x v Q c g f)
def opI{g:Int->Int->Int}
  (rule:∀(i j:Int)(t u:Tok)(s:Shared)(Q:Value->Shared->Prop)(E:Value->Shared->Prop),C i j->Q (.int (g i j) s.toks) { s with toks:=s.toks+1 }->wpAny (model X.prog X.w) X.A (f (.int i t) (.int j u)) Q E s) :
  OpR X f (rI C λi j=>.int (g i j)):=by
 intro b s σ H x y v u Q I a d h;obtain⟨i,j,rfl,rfl,e,q⟩:=h;obtain⟨t,rfl⟩:=a;obtain⟨c,rfl⟩:=d;exact rule i j t c s _ _ e ⟨.int _,H,I.tok _,⟨_,rfl⟩,q⟩
def opI0{g:Int->Int->Int}
  (rule:∀(i j:Int)(t u:Tok)(s:Shared)(Q:Value->Shared->Prop)(E:Value->Shared->Prop),Q (.int (g i j) s.toks) { s with toks:=s.toks+1 }->wpAny (model X.prog X.w) X.A (f (.int i t) (.int j u)) Q E s) :
  OpR X f (rI0 λi j=>.int (g i j)):=by
 intro a s σ H x y v u Q I d b h;obtain⟨i,j,rfl,rfl,q⟩:=h;obtain⟨t,rfl⟩:=d;obtain⟨c,rfl⟩:=b;exact rule i j t c s _ _ ⟨.int _,H,I.tok _,⟨_,rfl⟩,q⟩
def opB0{g:Int->Int->Bool}
  (rule:∀(i j:Int)(t u:Tok)(s:Shared)(Q:Value->Shared->Prop)(E:Value->Shared->Prop),Q (.bool (g i j)) s->wpAny (model X.prog X.w) X.A (f (.int i t) (.int j u)) Q E s) :
  OpR X f (rI0 λi j=>.bl (g i j)):=by
 intro d s σ H x y v u Q I c a h;obtain⟨i,j,rfl,rfl,q⟩:=h;obtain⟨t,rfl⟩:=c;obtain⟨b,rfl⟩:=a;exact rule i j t b s _ _ ⟨.bl _,H,I,rfl,q⟩
def CPow(i j:Int):Prop:=0<=j/\j<=1000000/\i.natAbs<2 ^ 64
def CMul(i j:Int):Prop:=(-(2 ^ 64)<i/\i<2 ^ 64)\/(-(2 ^ 64)<j/\j<2 ^ 64)
def CMul.ok(h:CMul i j):IntMulOk i j:=by
 rcases h with ⟨h1,h2⟩ |⟨h1,h2⟩
 ·exact .of_left (intBits_le_64 h1 h2)
 ·exact .of_right (intBits_le_64 h1 h2)
def op_add:OpR X (fV .Add) (rI0 λi j=>.int (i+j)):=opI0 λ_ _ _ _ _ _ _ q=>add_int q
def b2U:OpR X (fV .Sub) (rI0 λi j=>.int (i-j)):=opI0 λ_ _ _ _ _ _ _ q=>sub_int q
def b2V:OpR X (fV .Mult) (rI CMul λi j=>.int (i*j)):=opI λ_ _ _ _ _ _ _ a q=>mul_int q a.ok
def b2W:OpR X (fV .Mod) (rI (λ_ j=>0<j) λi j=>.int (i % j)):=opI λi j _ _ _ _ _ a q=>by
 have b:(0:Int)<j:=a;exact mod_int' (by omega) (by rw[Int.fmod_eq_emod_of_nonneg i (by omega)];exact q)
def b2X:OpR X (fV .Pow) (rI CPow λi j=>.int (i ^ j.toNat)):=opI λ_ _ _ _ _ _ _ a q=>pow_int_small a.1 a.2.1 a.2.2 q
def b0S:OpR X (gN .Add) (rI0 λi j=>.int (i+j)):=opI0 λ_ _ _ _ _ _ _ q=>iadd_int q
def unI{g:Int->Int}
  (rule:∀(i:Int)(t:Tok)(s:Shared)(Q:Value->Shared->Prop)(E:Value->Shared->Prop),Q (.int (g i) s.toks) { s with toks:=s.toks+1 }->wpAny (model X.prog X.w) X.A (f (.int i t)) Q E s) :
  UnR X f (rU λi=>.int (g i)):=by
 intro b s σ H x v Q I a h;obtain⟨i,rfl,q⟩:=h;obtain⟨t,rfl⟩:=a;exact rule i t s _ _ ⟨.int _,H,I.tok _,⟨_,rfl⟩,q⟩
def b2Y:UnR X (iN .USub) (rU λi=>.int (-i)):=unI λ_ _ _ _ _ q=>neg_int q
end
noncomputable def scal:V->V->Bool
 |.non,.non=>true |.non,.int _=>true |.int _,.non=>true |.non,.bl _=>true |.bl _,.non=>true |.non,.str _=>true |.str _,.non=>true
 |.int _,.int _=>true |.bl _,.bl _=>true |.str _,.str _=>true |.byt _,.byt _=>true
 |.int _,.str _=>true |.str _,.int _=>true |.bl _,.str _=>true |.str _,.bl _=>true
 |_,_=>false
def rEq:R2:=λx y H Q=>scal x y=true/\Q (.bl (decide (x=y))) H
def rNe:R2:=λx y H Q=>scal x y=true/\Q (.bl (!decide (x=y))) H
def a6N:decide (V.int i=V.int j)=(i==j):=by
 rw[cU];simp
def a6O:decide (V.bl i=V.bl j)=(i==j):=by
 rw[cU];simp
def a6P:decide (V.str i=V.str j)=(i==j):=by
 rw[cU];simp
def a6Q:decide (V.byt i=V.byt j)=(i.toList==j.toList):=by
 rw[cU];cases i;cases j;simp
section
variable{X:Cx}{a b c:Expr}{ta tb tc:TE}{pos:Pos}
def a0m(I:Inv X pins σ H s)(q:Q (.bl k) H)(e:k=k'):EP X pins σ Q (.bool k') s:=by
 subst e;exact⟨.bl k,H,I,rfl,q⟩
def op_eq:OpR X (fM .Eq) rEq:=by
 intro pins s σ H x y v u Q I rx ry h;obtain⟨hs,q⟩:=h;cases x with
 |non=>
  cases rx;cases y with
  |non=>cases ry;exact PySem.EqNone.eq_none_none (a0m I q (by simp))
  |bl j=>cases ry;exact PySem.EqNone.eq_none_bool (a0m I q (by simp))
  |int j=>obtain⟨t',rfl⟩:=ry;exact PySem.EqNone.eq_none_int (a0m I q (by simp))
  |str j=>obtain⟨t',rfl⟩:=ry;exact PySem.EqNone.eq_none_str (a0m I q (by simp))
  |_=>exact absurd (show false=true from hs) bL
 |bl i=>
  cases rx;cases y with
  |non=>cases ry;exact PySem.EqNone.eq_bool_none (a0m I q (by simp))
  |bl j=>cases ry;exact eq_bool (a0m I q a6O)
  |str j=>obtain⟨t',rfl⟩:=ry;exact PySem.EqMixed.eq_bool_str (a0m I q (by simp))
  |_=>exact absurd (show false=true from hs) bL
 |int i=>
  obtain⟨t,rfl⟩:=rx;cases y with
  |non=>cases ry;exact PySem.EqNone.eq_int_none (a0m I q (by simp))
  |int j=>obtain⟨t',rfl⟩:=ry;exact eq_int (a0m I q a6N)
  |str j=>obtain⟨t',rfl⟩:=ry;exact PySem.EqMixed.eq_int_str (a0m I q (by simp))
  |_=>exact absurd (show false=true from hs) bL
 |str i=>
  obtain⟨t,rfl⟩:=rx;cases y with
  |non=>cases ry;exact PySem.EqNone.eq_str_none (a0m I q (by simp))
  |bl j=>cases ry;exact PySem.EqMixed.eq_str_bool (a0m I q (by simp))
  |int j=>obtain⟨t',rfl⟩:=ry;exact PySem.EqMixed.eq_str_int (a0m I q (by simp))
  |str j=>obtain⟨t',rfl⟩:=ry;exact eq_str (a0m I q a6P)
  |_=>exact absurd (show false=true from hs) bL
 |byt i=>
  obtain⟨t,rfl⟩:=rx;cases y with
  |byt j=>obtain⟨t',rfl⟩:=ry;exact PySem.W.eq_bytes (a0m I q a6Q)
  |_=>exact absurd (show false=true from hs) bL
 |_=>cases y<;>exact absurd (show false=true from hs) bL
def op_ne:OpR X (fM .NotEq) rNe:=by
 intro e s σ H x y v u Q I d a h;obtain⟨c,q⟩:=h;cases x with
 |non=>
  cases d;cases y with
  |non=>cases a;exact PySem.EqNone.ne_none_none (a0m I q (by simp))
  |bl j=>cases a;exact PySem.EqNone.ne_none_bool (a0m I q (by simp))
  |int j=>obtain⟨b,rfl⟩:=a;exact PySem.EqNone.ne_none_int (a0m I q (by simp))
  |str j=>obtain⟨b,rfl⟩:=a;exact PySem.EqNone.ne_none_str (a0m I q (by simp))
  |_=>exact absurd (show false=true from c) bL
 |bl i=>
  cases d;cases y with
  |non=>cases a;exact PySem.EqNone.ne_bool_none (a0m I q (by simp))
  |bl j=>cases a;exact ne_bool (a0m I q (congrArg not a6O))
  |str j=>obtain⟨b,rfl⟩:=a;exact PySem.EqMixed.ne_bool_str (a0m I q (by simp))
  |_=>exact absurd (show false=true from c) bL
 |int i=>
  obtain⟨t,rfl⟩:=d;cases y with
  |non=>cases a;exact PySem.EqNone.ne_int_none (a0m I q (by simp))
  |int j=>obtain⟨b,rfl⟩:=a;exact ne_int (a0m I q (congrArg not a6N))
  |str j=>obtain⟨b,rfl⟩:=a;exact PySem.EqMixed.ne_int_str (a0m I q (by simp))
  |_=>exact absurd (show false=true from c) bL
 |str i=>
  obtain⟨t,rfl⟩:=d;cases y with
  |non=>cases a;exact PySem.EqNone.ne_str_none (a0m I q (by simp))
  |bl j=>cases a;exact PySem.EqMixed.ne_str_bool (a0m I q (by simp))
  |int j=>obtain⟨b,rfl⟩:=a;exact PySem.EqMixed.ne_str_int (a0m I q (by simp))
  |str j=>obtain⟨b,rfl⟩:=a;exact ne_str (a0m I q (congrArg not a6P))
  |_=>exact absurd (show false=true from c) bL
 |byt i=>
  obtain⟨t,rfl⟩:=d;cases y with
  |byt j=>obtain⟨b,rfl⟩:=a;exact PySem.W.ne_bytes (a0m I q (congrArg not a6Q))
  |_=>exact absurd (show false=true from c) bL
 |_=>cases y<;>exact absurd (show false=true from c) bL
def b5B:OpR X (fM .Lt) (rI0 λi j=>.bl (decide (i<j))):=opB0 λ_ _ _ _ _ _ _ q=>lt_int q
def b5C:OpR X (fM .LtE) (rI0 λi j=>.bl (decide (i<=j))):=opB0 λ_ _ _ _ _ _ _ q=>le_int q
def b5D:OpR X (fM .Gt) (rI0 λi j=>.bl (decide (j<i))):=opB0 λ_ _ _ _ _ _ _ q=>gt_int q
def a6R:OpR X (fM .Lt) (λx y H Q=>∃i j,x=.str i/\y=.str j/\Q (.bl (decide (i.cps.toList<j.cps.toList))) H):=by
 intro b s σ H x y v u Q I a c h;obtain⟨i,j,rfl,rfl,q⟩:=h;obtain⟨t,rfl⟩:=a;obtain⟨d,rfl⟩:=c;exact lt_str (a0m I q rfl)
def op_in_str:OpR X (fM .In) (λx y H Q=>∃i j,x=.str i/\y=.str j/\Q (.bl (!(fO.Str.occurrences j i 0 j.length 1).isEmpty)) H):=by
 intro b s σ H x y v u Q I a c h;obtain⟨i,j,rfl,rfl,q⟩:=h;obtain⟨t,rfl⟩:=a;obtain⟨d,rfl⟩:=c;exact in_str (a0m I q rfl)
def op_isN:OpR X (fM .Is) (λx y H Q=>y=.non/\Q (.bl (decide (x=.non))) H):=by
 intro b s σ H x y v u Q I a c h;obtain⟨rfl,q⟩:=h;cases c;refine is_none_gen (a0m I q ?_);cases x<;>first
  | (cases a;rfl)
  | (obtain⟨t,rfl⟩:=a;rfl)
def b0T:OpR X (fM .IsNot) (λx y H Q=>y=.non/\Q (.bl (!decide (x=.non))) H):=by
 intro c s σ H x y v u Q I a b h;obtain⟨rfl,q⟩:=h;cases b;refine isnot_none_gen (a0m I q ?_);cases x<;>first
  | (cases a;rfl)
  | (obtain⟨t,rfl⟩:=a;rfl)
def op_notin_str:OpR X (fM .NotIn) (λx y H Q=>∃i j,x=.str i/\y=.str j/\Q (.bl (!(!(fO.Str.occurrences j i 0 j.length 1).isEmpty))) H):=by
 intro c s σ H x y v u Q I b a h;obtain⟨i,j,rfl,rfl,q⟩:=h;obtain⟨t,rfl⟩:=b;obtain⟨d,rfl⟩:=a;exact notIn_str (a0m I q rfl)
def OpR.or(h:OpR X f r)(h':OpR X f r'):OpR X f (λx y H Q=>r x y H Q\/r' x y H Q):=by
 intro a s σ H x y v u Q I c b q;rcases q with q |q
 ·exact h a s σ H x y v u Q I c b q
 ·exact h' a s σ H x y v u Q I c b q
def a2r(b:Expr)(h:op≠.In:=by decide)(h2:op≠.NotIn:=by decide):gR op b=false:=by
 have a:(op==CmpOp.In)=false:=by grind
 have c:(op==CmpOp.NotIn)=false:=by grind
 cases b<;>simp[gR,a,c]
def b0U(ho:OpR X (fM op) r)(ha:PE X a ta)(hb:PE X b tb)(hm:gR op b=false):PE X (.Compare a [op] [b] pos) (tOp r ta tb):=λc s σ H Q I h=>wpAny_Compare1 (binT ha hb I h λv u d x y f g i e q=>ho c d σ f x y v u Q g i e q) hm
def b2Z(t:TE):TT:=fun σ H Q=>t σ H λx H'=>∃k,x=.bl k/\Q k H'
def b0V(ho:OpR X (fM op) r)(ha:PE X a ta)(hb:PE X b tb)(hm:gR op b=false):PT X (.Compare a [op] [b] pos) (b2Z (tOp r ta tb)):=by
 intro d s σ H Q I h;refine wpAny_isTrue_Compare1 (thn (ha d s σ H _ I h) λv l ⟨x,w,f,n,B⟩=>thn (hb d l σ w _ f B) λu t ⟨y,m,i,j,A⟩=>
  thn (ho d t σ m x y v u _ i n j A) λc C ⟨z,q,p,o,k,e,g⟩=>?_) hm
 subst e;cases o;exact gw ⟨q,p,g⟩
def a6S(r r':R2)(ta tb tc:TE):TE:=fun σ H Q=>ta σ H λx H1=>tb σ H1 λy H2=>r x y H2 λz H3=>∃k,z=.bl k /\
 (if k=true then tc σ H3 λw' H4=>r' y w' H4 Q else Q (.bl false) H3)
def a8P(ho:OpR X (fM op) r)(ho':OpR X (fM op') r')(ha:PE X a ta)(hb:PE X b tb)(hc:PE X c tc)
  (hm:iO [op,op'] [b,c]=false:=by with_unfolding_all rfl):PE X (.Compare a [op,op'] [b,c] pos) (a6S r r' ta tb tc):=by
 intro f s σ H Q I h;refine Compare_chain (thn (ha f s σ H _ I h) λv m ⟨x,t,J,p,N⟩=>chain_link (thn (hb f m σ t _ J N) λu o ⟨y,C,F,j,L⟩=>
  thn (ho f o σ C x y v u _ F p j L) λd A ⟨z,i,g,n,k,e,l⟩=>?_)) hm
 subst e;cases n;refine gw ?_;cases k with
 |false=>exact ite_ff ⟨.bl false,i,g,rfl,l⟩
 |true=>exact ite_tt (chain_last (thn (hc f A σ i _ g l) λM w ⟨D,q,B,G,E⟩=>ho' f w σ q y D u M Q B j G E))
def a8Q(ho:OpR X (fM op) r)(ho':OpR X (fM op') r')(ha:PE X a ta)(hb:PE X b tb)(hc:PE X c tc)
  (hm:iO [op,op'] [b,c]=false:=by with_unfolding_all rfl):PT X (.Compare a [op,op'] [b,c] pos) (b2Z (a6S r r' ta tb tc)):=by
 intro f s σ H Q I h;refine isTrue_chain (thn (ha f s σ H _ I h) λv B ⟨x,G,p,D,R⟩=>test_link (thn (hb f B σ G _ p R) λu q ⟨y,V,J,l,Y⟩=>
  thn (ho f q σ V x y v u _ J D l Y) λd S ⟨z,j,i,T,k,e,g⟩=>?_)) hm
 subst e;cases T;refine gw ?_;cases k with
 |false=>
  obtain⟨k',t,w⟩:=g;cases t;exact ite_ff ⟨j,i,w⟩
 |true=>
  refine ite_tt (test_last (thn (hc f S σ j _ i g) λN F ⟨U,o,C,L,m⟩=>thn (ho' f F σ o y U u N _ C l L m) λd' s5 ⟨z2,A,W,n,k2,M,E⟩=>?_));subst M;cases n;exact gw ⟨A,W,E⟩
def TruV(K:Fg)(x:V)(H:Hp)(k:Bool):Prop:=
 match x with
 |.non=>k=false
 |.bl b=>k=b
 |.int i=>k=(i != 0)
 |.str y=>y.length<=fG/\k=((y.length:Int) != 0)
 |.byt y=>y.size<=fG/\k=((y.size:Int) != 0)
 |.ref p=>(∃xs,SqL K H p xs/\k=!xs.isEmpty)\/(∃xs,SqT K H p xs/\k=!xs.isEmpty)\/∃kvs,H p=some (.dK kvs)/\k=!kvs.isEmpty
 |_=>False
def a57{κ:Type}{kvs:List (κ×V)}{vs:List (κ×Value)}(r:KV kvs vs):(!vs.isEmpty)=!kvs.isEmpty:=by
 cases r<;>rfl
def a29(r:Vals xs its):(!its.toArray.isEmpty)=!xs.isEmpty:=by
 cases r<;>simp
def a39:(fG:Nat)<2 ^ 63:=by rw[fR];decide
def b20:TruR X (λx H Q=>∃k,TruV X.K x H k/\Q k H):=by
 intro u s σ H x v Q I c h;obtain⟨k,e,q⟩:=h;have z:=a39;have A:fG=16777216:=fR;cases x with
 |non=>
  cases c;have a:k=false:=e;subst a;exact truthy_none ⟨H,I,q⟩
 |bl b=>
  cases c;have a:k=b:=e;subst a;exact gw ⟨H,I,q⟩
 |int i=>
  obtain⟨t,rfl⟩:=c;have a:k=(i != 0):=e;subst a;exact PySem.P.truthy_int ⟨H,I,q⟩
 |str y=>
  obtain⟨t,rfl⟩:=c;obtain⟨o,a⟩:=e;subst a;exact PySem.P.truthy_str (by lia) ⟨H,I.tok _,q⟩
 |byt y=>
  obtain⟨t,rfl⟩:=c;obtain⟨o,a⟩:y.size<=fG/\k=((y.size:Int) != 0):=e;subst a;exact PySem.W.truthy_bytes (by lia) ⟨H,I.tok _,q⟩
 |ref p=>
  cases c;have a:=e;rcases a with ⟨xs,hx,a⟩ |⟨xs,hx,a⟩ |⟨kvs,hx,a⟩
  ·subst a;obtain⟨l,r,g,j⟩:=I.list hx;have d:=r.length;exact wpAny_truthy_list g.isList (by simp only[bG];lia) ⟨H,I.tok _,by rw[a29 r];exact q⟩
  ·subst a;obtain⟨l,r,g,j⟩:=I.tuple hx;have d:=r.length;exact truthy_tuple g (by simp only[bG];lia) ⟨H,I.tok _,by rw[a29 r];exact q⟩
  ·subst a;obtain⟨j,n,f,r,m⟩:=I.hok p _ hx;have d:kvs.length=f.length:=Paired.length r;exact wpAny_truthy_dict n m (by lia) ⟨H,I.tok _,by rw[a57 r];exact q⟩
 |_=>exact (show False from e).elim
def a8R(ha:PE X a ta)(he:∀whole,isTrue a X.env whole=(do let v <- whole;gB a.pos;gb [v] (truthy v))) :
  PT X a (fun σ H Q=>ta σ H λx H'=>∃k,TruV X.K x H' k/\Q k H'):=λb s σ H Q I h=>isTrue_plain (thn (ha b s σ H _ I h) λv e ⟨x,f,d,g,c⟩=>b20 b e σ f x v Q d g c) (he _)
def op_add_str:OpR X (fV .Add) (λx y H Q=>∃i j,x=.str i/\y=.str j/\i.length+j.length<=fG/\Q (.str (i++j)) H):=by
 intro b s σ H x y v u Q I a d h;obtain⟨i,j,rfl,rfl,e,q⟩:=h;obtain⟨t,rfl⟩:=a;obtain⟨c,rfl⟩:=d;exact add_str (λc f=>⟨.str (i++j),H,I.tok _,⟨_,rfl⟩,q⟩) e
def a20(r:Vals [x] us):∃u,us=[u]/\RelV x u:=by
 cases r with
 |cons r1 r2=>cases r2;exact⟨_,rfl,r1⟩
def a6T(r:Vals [x,y] us):∃u w',us=[u,w']/\RelV x u/\RelV y w':=by
 cases r with
 |cons r1 r2=>
  cases r2 with
  |cons r3 r4=>cases r4;exact⟨_,_,rfl,r1,r3⟩
def a6U(hc:X.calm=true):CallR X (.builtin "max") (λxs H Q=>∃i j,xs=[.int i,.int j]/\Q (.int (if j > i then j else i)) H):=by
 intro a s σ H d e Q I r h;obtain⟨i,j,rfl,q⟩:=h;obtain⟨u,f,rfl,⟨t,rfl⟩,⟨b,rfl⟩⟩:=a6T r;refine max_two_ints (I.ok.hd hc) λg c k=>⟨_,H,I.kept k,?_,q⟩
 by_cases hj:j > i
 ·rw[if_pos hj,if_pos hj];exact⟨_,rfl⟩
 ·rw[if_neg hj,if_neg hj];exact⟨_,rfl⟩
def a6V(hc:X.calm=true):CallR X (.builtin "min") (λxs H Q=>∃i j,xs=[.int i,.int j]/\Q (.int (if j<i then j else i)) H):=by
 intro a s σ H d f Q I r h;obtain⟨i,j,rfl,q⟩:=h;obtain⟨u,g,rfl,⟨t,rfl⟩,⟨c,rfl⟩⟩:=a6T r;refine min_two_ints (I.ok.hd hc) λb e k=>⟨_,H,I.kept k,?_,q⟩
 by_cases hj:j<i
 ·rw[if_pos hj,if_pos hj];exact⟨_,rfl⟩
 ·rw[if_neg hj,if_neg hj];exact⟨_,rfl⟩
def LenV(K:Fg)(x:V)(H:Hp)(n:Nat):Prop:=
 match x with
 |.str y=>y.length<=fG/\n=y.length
 |.byt y=>y.size<=fG/\n=y.size
 |.ref p=>(∃xs,SqL K H p xs/\n=xs.length)\/∃xs,SqT K H p xs/\n=xs.length
 |_=>False
def a8S:CallR X (.builtin "len") (λxs H Q=>∃x n,xs=[x]/\LenV X.K x H n/\Q (.int n) H):=by
 intro j s σ H a v Q I r h;obtain⟨x,n,rfl,e,q⟩:=h;obtain⟨u,rfl,d⟩:=a20 r;have o:=fR;cases x with
 |str y=>
  obtain⟨t,rfl⟩:=d;obtain⟨k,b⟩:=e;subst b;exact len_str (by omega) ⟨.int _,H,I.tok _,⟨_,rfl⟩,q⟩
 |byt y=>
  obtain⟨t,rfl⟩:=d;obtain⟨k,b⟩:=e;subst b;exact PySem.W.len_bytes (by omega) ⟨.int _,H,I.tok _,⟨_,rfl⟩,q⟩
 |ref p=>
  cases d;have b:=e;rcases b with ⟨a,hx,b⟩ |⟨a,hx,b⟩
  ·subst b;obtain⟨i,g,f,l⟩:=I.list hx;have c:=g.length;exact Calls.call_len_list f.isList (by grind) ⟨.int a.length,H,I.tok _,⟨_,by simp only[bG];rw[c]⟩,q⟩
  ·subst b;obtain⟨i,g,f,l⟩:=I.tuple hx;have c:=g.length;exact len_tuple f (by grind) ⟨.int a.length,H,I.tok _,⟨_,by simp only[bG];rw[c]⟩,q⟩
 |_=>exact (e).elim
end
structure ObjM (h:Heap) (x dx C:Addr) (mA:Str->Option Value):Prop where
 obj:h.get? x=some (PySem.W.instObj C dx)
 ns:h.Ns1 dx mA
 ne:dx≠x
def a6W{h:Heap}(n:h.Ns1 dx mA):∃od,h.get? dx=some od/\∀name,PySem.W.lookIn name od=some (mA name):=by
 obtain⟨o,d,m,l,j,f,_,g⟩:=n;refine⟨o,l,λc=>?_⟩;have e:=g c;unfold nsFind findBy at e;rw[<- Array.find?_toList]at e;unfold PySem.W.lookIn;rw[j];dsimp only
 split
 ·simp_all
 ·rename_i q
  rw[q]at e;have a:d.toList.any (·.refKey)=false:=by
   rw[List.any_eq_false];intro y k;obtain⟨z,t,b⟩:=f y (eI.mp k);simp[im.refKey,b]
  have i:¬ d.toList.any (·.refKey)=true:=a▸bL;rw[if_neg i];exact congrArg some e
def ObjM.look(I:ObjM h x dx C mA):∃od,PySem.W.InstAt h x (PySem.W.instObj C dx) C (some od)/\∀name,PySem.W.lookIn name od=some (mA name):=
 let ⟨od,ho,hl⟩:=a6W I.ns
 ⟨od,⟨I.obj,rfl,rfl,ho⟩,hl⟩
section
variable{prog:fK}{w:World}{A:Around}{E:Value->Shared->Prop}{s:Shared}{K:Fg}{x dx C f:Addr}{mA:Str->Option Value}{name:Str}{v:Value}
def b0W(X:K.In s.heap)(I:ObjM s.heap x dx C mA)(hg:PySem.W.plainGet K C name=true)(hh:PySem.W.hasDictIn K C=true)
  (ha:PySem.W.findIn K (.ref C) name=some none) (hv:mA name=some v) (hv':PySem.W.handedIn v=true) (h:Q v { s with toks:=s.toks+1 }) :
  wpAny (model prog w) A (getAttr (.ref x) name expr) Q E s:=by
 obtain⟨b,J,a⟩:=I.look;exact PySem.W.get_value X J (PySem.W.plainGet_of hg).1 (PySem.W.findObj_own hh ha rfl (by simp_all)) hv' h
def a8T(X:K.In s.heap)(I:ObjM s.heap x dx C mA)(hg:PySem.W.plainGet K C name=true)
  (hf:PySem.W.findIn K (.ref C) name=some (some (.ref f))) (ht:PySem.W.isFn K (.ref f)=true) (hv:mA name=none) (h:Q (.ref f,[.ref x]) s) :
  wpAny (model prog w) A (io (.ref x) name pl) Q E s:=by
 obtain⟨b,J,a⟩:=I.look;exact PySem.W.method_fn X J (PySem.W.plainGet_of hg).1 (PySem.W.plainGet_of hg).2 hf (beq_iff_eq.mp ht) (by show (PySem.W.lookIn name b).map _=some false;rw[a,hv];rfl) h
def b0X(X:K.In s.heap)(I:ObjM s.heap x dx C mA)
  (hs:PySem.W.findIn K (.ref C) "__setattr__"=some (some (.builtin "object.__setattr__"))) (hp:PySem.W.plainOver K C=true) (ht:PySem.W.takerIn K C name=some none) (hh:PySem.W.hasDictIn K C=true)
  (hw:PySem.Within mA ns) (hsz:ns.length<=fG)
  (h:∀h',ObjM h' x dx C (λy=>if y=name then some v else mA y)->Heap.SameBut dx s.heap h'->Q () { s with heap:=h',toks:=s.toks+2 }) :
  wpAny (model prog w) A (setAttr (.ref x) name v) Q E s:=by
 obtain⟨p,J,n⟩:=I.look;refine PySem.W.set_plain X J hs (PySem.W.osa_open X J hp ht λb=>?_);obtain⟨o,j,i⟩:=PySem.W.any_some hh;refine fF (fI (fF (fF (wpAny_loadPart I.obj (fF (PySem.W.Looks.here (PySem.W.looks_clsIn X j) ?_))))));rw[i];refine fI (fF (fI (fF (wpAny_nsSet1 I.ns λt d c=>?_))));obtain⟨q,l,m,f,g,e⟩:=d.count (PySem.Within.cons name v hw);exact fF (wpAny_lookBehind f (g▸pastItsLine_dict (be e (by grind))) (fI (h _ ⟨(c.2 _ (Ne.symm I.ne)).trans I.obj,d,I.ne⟩ c)))
def a8U(X:K.In s.heap)(hm:PySem.W.makesIn K C=true)
  (hi:PySem.W.findIn K (.ref C) "__init__"=some (some (.ref f))) (hf:PySem.W.typeIn K (.ref f)=some (.type "function"))
  (h:gq (model prog w) (A.under (.builtin "type.__call__" ⟨.ref C::vs,kw⟩)) (.call (.ref f) ⟨.ref (s.heap.objs.size+1)::vs,kw⟩) (PySem.W.InitBack (s.heap.objs.size+1) R)
   { s with heap:=(s.heap.push PySem.W.emptyDict).push (PySem.W.instObj C s.heap.objs.size) }) :
  gq (model prog w) A (.call (.ref C) ⟨vs,kw⟩) R s:=PySem.W.make_core (PySem.W.makes_of X hm) (PySem.W.looks_findIn X hi) (λa=>PySem.W.bind_fn X a hf) (.inl rfl) h
def a6X(X:K.In s.heap)(hm:PySem.W.makesIn K C=true)
  (hi:PySem.W.findIn K (.ref C) "__init__"=some (some (.builtin "object.__init__")))
  (hb:∀self,PySem.W.Looks (model prog w) s.heap (bindSpecial (.builtin "object.__init__") self) (.builtin "object.__init__",[self]))
  (h:gq (model prog w) (A.under (.builtin "type.__call__" ⟨[.ref C],[]⟩)) (.call (.builtin "object.__init__") ⟨[.ref (s.heap.objs.size+1)],[]⟩) (PySem.W.InitBack (s.heap.objs.size+1) R)
   { s with heap:=(s.heap.push PySem.W.emptyDict).push (PySem.W.instObj C s.heap.objs.size) }) :
  gq (model prog w) A (.call (.ref C) ⟨[],[]⟩) R s:=by
 exact PySem.W.make_core (PySem.W.makes_of X hm) (PySem.W.looks_findIn X hi) hb (.inr ⟨rfl,rfl⟩) h
end
noncomputable def putF(f:Str)(v:V):List (Str×V)->List (Str×V)
 |[]=>[(f,v)]
 | (g,x)::r=>if g=f then (g,v)::r else (g,x)::putF f v r
def a4V(f g:Str)(v:V):∀fs:List (Str×V),(putF f v fs).lookup g=if g=f then some v else fs.lookup g:=by intro z0;induction z0 with
 |nil=>
  show dj g [_]=_
  by_cases h:g=f
  ·simp_all
  ·simp_all
 |cons q0 r I0=>
  obtain⟨k,x⟩:=q0;rw[show putF f v _=(if k=f then _::r else (k,x)::putF f v r) from rfl]
  by_cases hk:k=f
  ·rw[if_pos hk]
   by_cases h:g=k
   ·simp_all
   ·have a:=beq_eq_false_iff_ne.mpr h;simp only[dj,a,if_neg (λe:g=f=>h (e.trans hk.symm))]
  ·rw[if_neg hk]
   by_cases h:g=k
   ·simp_all
   ·have a:=beq_eq_false_iff_ne.mpr h;simp only[dj,a];exact (I0)
def a4a(f:Str)(v:V):∀fs:List (Str×V),f∈(putF f v fs).map (·.1)/\∀g,g∈fs.map (·.1)->g∈(putF f v fs).map (·.1):=by intro z0;induction z0 with
 |nil=>exact⟨by simp[putF],λg h=>by simp at h⟩
 |cons q0 r I0=>
  obtain⟨k,x⟩:=q0;obtain⟨a,b⟩:=I0;rw[show putF f v _=(if k=f then _::r else (k,x)::putF f v r) from rfl]
  by_cases hk:k=f
  ·grind
  ·rw[if_neg hk];refine⟨?_,λg h=>?_⟩
   ·rw[aY];exact ca _ a
   ·rw[aY]at h ⊢;rcases bf.mp h with e |e
    ·exact bf.mpr (.inl e)
    ·exact ca _ (b g e)
def a4W(f:Str)(v:V):∀fs:List (Str×V),(putF f v fs).length<=fs.length+1:=by intro z0;induction z0 with
 |nil=>simp[putF]
 |cons q0 r I0=>
  obtain⟨k,x⟩:=q0;have a:=I0;rw[show putF f v _=(if k=f then _::r else (k,x)::putF f v r) from rfl]
  by_cases hk:k=f
  ·grind
  ·grind
def RelO.some_of(r:RelO (some v) o):∃u,o=some u/\RelV v u:=by
 cases o with
 |none=>exact (r).elim
 |some u=>exact⟨u,rfl,r⟩
def RelO.none_of(r:RelO none o):o=none:=by
 cases o with
 |none=>rfl
 |some u=>exact (r).elim
def a6Y(r:RelV v u):PySem.W.handedIn u=true:=by
 cases v with
 |non=>cases (r);rfl
 |bl b=>cases (r);rfl
 |int i=>obtain⟨t,e⟩:=(r);cases e;rfl
 |str x=>obtain⟨t,e⟩:=(r);cases e;rfl
 |byt b=>obtain⟨t,e⟩:=(r);cases e;rfl
 |flt b=>obtain⟨t,e⟩:=(r);cases e;rfl
 |ref a=>cases (r);rfl
 |ty n=>cases (r);rfl
section
variable{P:fK}{w:World}{H H':Hp}{h h':Heap}{a C dx:Addr}{fs fs':List (Str×V)}
def a3q(hok:HOk P w H h)(e:H a=some (.ins C dx fs)):∃mA,ObjM h a dx C mA/\(∀f,RelO (fs.lookup f) (mA f))/\PySem.Within mA (fs.map (·.1))/\fs.length<=1000/\H dx=some (.own a):=by
 obtain⟨d,z,c,g,b,n,r,q⟩:=(hok a _ e);exact⟨b,⟨g,n,c⟩,r,q,z,d⟩
end
structure Cls (K:Fg) (C:Addr):Prop where
 pg:PySem.W.plainGet K C Str.empty=true
 hd:PySem.W.hasDictIn K C=true
 po:PySem.W.plainOver K C=true
 sa:PySem.W.findIn K (.ref C) "__setattr__"=some (some (.builtin "object.__setattr__"))
def Cls.get{K:Fg}(c:Cls K C)(f:Str):PySem.W.plainGet K C f=true:=c.pg
def NoAttr(K:Fg)(C:Addr)(f:Str):Prop:=PySem.W.findIn K (.ref C) f=some none
def NoAttr.taker{K:Fg}(n:NoAttr K C f):PySem.W.takerIn K C f=some none:=by
 unfold PySem.W.takerIn;rw[n]
 rfl
structure Meth (K:Fg) (C:Addr) (m:Str) (f:Addr):Prop where
 at_:PySem.W.findIn K (.ref C) m=some (some (.ref f))
 fn:PySem.W.isFn K (.ref f)=true
 kp:PySem.W.keepIn K (.ref f)=true
section
variable{X:Cx}{pins:List (Addr×Obj)}{σ:St}{H:Hp}{s:Shared}{a C dx:Addr}{fs:List (Str×V)}{f:Str}{v:V}{A:Around}{E:Value->Shared->Prop}
def a58(I:Inv X pins σ H s)(e:H a=some (.ins C dx fs))(c:Cls X.K C)(n:NoAttr X.K C f)(l:fs.lookup f=some v)
  (h:∀u s',Inv X pins σ H s'->RelV v u->Q u s'):wpAny (model X.prog X.w) A (getAttr (.ref a) f b) Q E s:=by
 obtain⟨i,O,r,_,_,_⟩:=a3q I.hok e;obtain⟨u,g,d⟩:=RelO.some_of (l▸r f);exact b0W I.kIn O (c.get f) c.hd n g (a6Y d) (h u _ (I.tok _) d)
def a59(I:Inv X pins σ H s)(e:H a=some (.ins C dx fs))(c:Cls X.K C)(k:Meth X.K C m g)(l:fs.lookup m=none)
  (h:Q (.ref g,[.ref a]) s):wpAny (model X.prog X.w) A (io (.ref a) m pl) Q E s:=by
 obtain⟨b,O,r,_,_,_⟩:=a3q I.hok e;have d:=RelO.none_of (l▸r m);exact a8T I.kIn O (c.get m) k.at_ k.fn d h
def a6a(I:Inv X pins σ H s)(e:H a=some (.ins C dx fs))(c:Cls X.K C)(n:NoAttr X.K C f)(hl:fs.length<1000)(ry:RelV y u)
  (h:∀s',Inv X pins σ (upd H a (.ins C dx (putF f y fs))) s'->Q () s'):wpAny (model X.prog X.w) A (setAttr (.ref a) f u) Q E s:=by
 obtain⟨i,O,r,j,_,k⟩:=a3q I.hok e;have v:(fs.map (·.1)).length<=sizeLine:=by rw[aT,fR];lia
 refine b0X I.kIn O c.sa c.po n.taker c.hd j v λm d l=>h _ ?_;have t:∃o,m.get? dx=some o:=by obtain⟨o,_,_,e',_⟩:=d.ns;exact⟨o,e'⟩
 refine I.write (e▸True.intro) (.inr k) (λb q p z=>(l.2 b p).trans z) t ⟨by rw[a0e O.ne];exact k,?_,O.ne,d.obj,_,d.ns,λg=>?_,λg B=>?_⟩
 ·have:=a4W f y fs;lia
 ·show RelO _ _
  rw[a4V]
  by_cases q:g=f
  ·rw[if_pos q,if_pos q];exact ry
  ·simp_all
 ·by_cases q:g=f
  ·rw[q];exact (a4a f y fs).1
  ·refine (a4a f y fs).2 g (j g λz=>B ?_)
   show (if g=f then some u else i g)=none
   rw[if_neg q];exact z
def Inv.made(I:Inv X pins σ H s):Inv X pins σ (upd (upd H s.heap.objs.size (.own (s.heap.objs.size+1))) (s.heap.objs.size+1) (.ins C s.heap.objs.size []))
  { s with heap:=(s.heap.push PySem.W.emptyDict).push (PySem.W.instObj C s.heap.objs.size) }:=by
 have c:(s.heap.push PySem.W.emptyDict).get? s.heap.objs.size=some PySem.W.emptyDict:=Heap.get?_push_size s.heap rfl;have i:((s.heap.push PySem.W.emptyDict).push (PySem.W.instObj C s.heap.objs.size)).get? (s.heap.objs.size+1)=some (PySem.W.instObj C s.heap.objs.size):=by
  have:=Heap.get?_push_size (s.heap.push PySem.W.emptyDict) (o:=PySem.W.instObj C s.heap.objs.size) rfl
  rwa [Heap.size_push]at this
 have g:(s.heap.push PySem.W.emptyDict).Ns s.heap.objs.size _:=⟨PySem.W.emptyDict,#[],_,c,rfl,(λe h=>absurd h (by simp)),λ_=>rfl⟩;refine (I.laid (o:=.own (s.heap.objs.size+1)) (t':=s.toks) (λb u q=>Heap.get?_push_of_some _ q) (aV _) ⟨_,c⟩).laid (t':=s.toks) (λb u q=>Heap.get?_push_of_some _ q) (cF (Heap.size_push _ _)) ?_;have d:s.heap.objs.size≠s.heap.objs.size+1:=bj (dk _);refine⟨by rw[a0e d,a0d],bE _,d,i,λ_=>none,(Heap.Ns1.of_empty g).at λo q=>Heap.get?_push_of_some _ q,λ_=>True.intro,λy f=>absurd rfl f⟩
def b0Y(hb:gE e f env (eval e env)=eval e env)
  (h:wpAny (model prog w) A (eval e env) (λo sj=>wpAny (model prog w) A (getAttr o f true) Q E sj) E s):wpAny (model prog w) A (eval (.Attribute e f pos) env) Q E s:=
 Attribute_any_ h (by rw[arm_eval_Attribute,hb])
end
def tFld(K:Fg)(ta:TE)(f:Str):TE:=fun σ H Q=>ta σ H λx H1=>∃a C dx fs v,x=.ref a/\H1 a=some (.ins C dx fs)/\Cls K C/\NoAttr K C f/\fs.lookup f=some v/\Q v H1
def sFld(K:Fg)(ta tv:TE)(f:Str):TS:=λD σ H=>tv σ H λy H1=>ta σ H1 λx H2=>∃a C dx fs,x=.ref a/\H2 a=some (.ins C dx fs)/\Cls K C/\NoAttr K C f/\fs.length<1000 /\
 D.nx σ (upd H2 a (.ins C dx (putF f y fs)))
section
variable{X:Cx}{o e value:Expr}{f:Str}{pos pos' tpos:Pos}{ta tv:TE}
def b21(he:PE X e ta)(hb:gE e f X.env (eval e X.env)=eval e X.env):PE X (.Attribute e f pos) (tFld X.K ta f):=by
 intro b s σ H Q I h;refine b0Y hb (thn (he b s σ H _ I h) λu p ⟨x,d,i,j,a,C,r,w,v,g,m,c,n,l,q⟩=>?_);subst g;obtain rfl:u=Value.ref a:=j;exact a58 i m c n l λy t o k=>⟨v,d,o,k,q⟩
def b22(ha:PE X o ta)(hv:PE X value tv)(hs:gM value (some (.Attribute o f pos')) pos.line X.env=pure false):PS X (.Assign [.Attribute o f pos'] value pos) (sFld X.K ta tv f):=by
 intro b s σ H D I h;refine plainObj_wpAny_Assign_Attribute (thn (hv b s σ H _ I h) λu g ⟨y,d,k,v,q⟩=>thn (ha b g σ d _ k q) λj A ⟨x,B,r,p,a,C,z,E,i,t,c,n,l,m⟩=>?_) hs;subst i;obtain rfl:j=Value.ref a:=p;exact a6a r t c n l v λw e=>⟨σ,_,e,m⟩
end
section
variable{X:Cx}{pins:List (Addr×Obj)}{σ:St}{H:Hp}{s:Shared}{A:Around}{E:Value->Shared->Prop}{Q:Value->Shared->Prop}{c:Value}{b:Bool}
inductive TyOf (K:Fg) (H:Hp):V->Value->Prop where
 |non:TyOf K H .non (.type "NoneType")
 |bl (x:Bool):TyOf K H (.bl x) (.type "bool")
 |int (i:Int):TyOf K H (.int i) (.type "int")
 |str (x:Str):TyOf K H (.str x) (.type "str")
 |flt (x:UInt64):TyOf K H (.flt x) (.type "float")
 |lst {a:Addr} {xs:List V} (e:H a=some (.lst xs)):TyOf K H (.ref a) (.type "list")
 |frz {a:Addr} {o:Obj} {xs:List V} (e:H a=some (.frz o (.lst xs))):TyOf K H (.ref a) (.type "list")
 |tup {a:Addr} {xs:List V} (e:H a=some (.tup xs)):TyOf K H (.ref a) (.type "tuple")
 |dK {a:Addr} {kvs:List (Key×V)} (e:H a=some (.dK kvs)):TyOf K H (.ref a) (.type "dict")
 |dT {a:Addr} {kvs:List (List Key×V)} (e:H a=some (.dT kvs)):TyOf K H (.ref a) (.type "dict")
 |ins {a C dx:Addr} {fs:List (Str×V)} (e:H a=some (.ins C dx fs)) (cl:Cls K C) (ha:PySem.W.findIn K (.ref C) "__class__"=some (some (.builtin "object.__class__")))
   (hn:PySem.W.specialIn K (.builtin "object.__class__") "__get__"=some (some (.builtin "getset_descriptor.__get__"))) (htk:PySem.W.takesIn K (.builtin "object.__class__")=some true)
   (hm:PySem.W.mroIn K C (.type "object")=some true):TyOf K H (.ref a) (.ref C)
def a6Z(I:Inv X pins σ H s)(rx:RelV x u)(ty:TyOf X.K H x t)(e:PySem.W.kitOne X.K t c=some b)(h:∀tk,Q (.bool b) { s with toks:=tk }) :
  wpAny (model X.prog X.w) A (call (.builtin "isinstance") [u,c]) Q E s:=by
 cases ty with
 |non=>cases (rx);exact PySem.W.kia_one PySem.W.kitx_none I.kIn True.intro e (λz=>nomatch z) h
 |bl y=>cases (rx);exact PySem.W.kia_one PySem.W.kitx_bool I.kIn True.intro e (λz=>nomatch z) h
 |int i=>obtain⟨t,q⟩:=(rx);cases q;exact PySem.W.kia_one PySem.W.kitx_int I.kIn True.intro e (λz=>nomatch z) h
 |str y=>obtain⟨t,q⟩:=(rx);cases q;exact PySem.W.kia_one PySem.W.kitx_str I.kIn True.intro e (λz=>nomatch z) h
 |flt y=>obtain⟨t,q⟩:=(rx);cases q;exact PySem.W.kia_one PySem.W.kitx_float I.kIn True.intro e (λz=>nomatch z) h
 | @lst a f ea=>
  cases (rx);obtain⟨_,_,n,_,d⟩:=(I.hok a _ ea);exact PySem.W.kia_one PySem.W.kitx_list I.kIn ⟨_,d,rfl⟩ e (λz=>nomatch z) h
 | @frz a ob f ea=>
  cases (rx);obtain⟨_,_,_,n,_,d⟩:=(I.hok a _ ea);exact PySem.W.kia_one PySem.W.kitx_list I.kIn ⟨_,d,rfl⟩ e (λz=>nomatch z) h
 | @tup a f ea=>
  cases (rx);obtain⟨_,_,_,p⟩:=(I.hok a _ ea);obtain⟨o,d,g,_⟩:=p;exact PySem.W.kia_one PySem.W.kitx_tuple I.kIn ⟨o,d,g⟩ e (λz=>nomatch z) h
 | @dK a kvs ea=>
  cases (rx);obtain⟨_,_,l,_,p⟩:=(I.hok a _ ea);obtain⟨o,j,k,d,g,_⟩:=p;exact PySem.W.kia_one PySem.W.kitx_dict I.kIn ⟨o,d,g.1⟩ e (λz=>nomatch z) h
 | @dT a kvs ea=>
  cases (rx);obtain⟨_,_,f,_,o,j,k,d,g,_⟩:=(I.hok a _ ea);exact PySem.W.kia_one PySem.W.kitx_dict I.kIn ⟨o,d,g.1⟩ e (λz=>nomatch z) h
 | @ins a C dx fs ea cl ha hn htk hm=>
  cases (rx);obtain⟨r,O,_⟩:=a3q I.hok ea;obtain⟨m,J,_⟩:=O.look;exact PySem.W.kia_one (PySem.W.kitx_own (cl.get _) cl.hd ha hn htk hm) I.kIn J e (λz=>nomatch z) h
end
structure Room (k:Nat) (A:Around):Prop where
 hd:A.handled=none
 dp:A.depth+3*k+5<recursionLimit
 un:A.units+16*k+200<cLine
def Room.mono(r:Room k A)(h:j<=k):Room j A:=⟨r.hd,by have:=r.dp;lia,by have:=r.un;lia⟩
def Room.deeper(r:Room (k+1) A)(env:Env):Room k (A.deeper env):=
 ⟨r.hd,by have:=r.dp;show A.depth+1+3*k+5<_;lia,by have:=r.un;show A.units+3+16*k+200<_;lia⟩
def Room.in1(r:Room (k+1) A):Room k A.in1:=
 ⟨r.hd,by have:=r.dp;show A.depth+3*k+5<_;lia,by have:=r.un;show A.units+1+16*k+200<_;lia⟩
def a6b{A:Around}:(A.under (.builtin "type.__call__" ⟨.ref C::us,kw⟩)).depth=A.depth+1:=rfl
def a6c{A:Around}:(A.under (.builtin "type.__call__" ⟨.ref C::us,kw⟩)).units=A.units+1:=rfl
def Room.make(r:Room (k+1) A)(C:Addr)(us:List Value)(kw:List (Str×Value)):Room k (A.under (.builtin "type.__call__" ⟨.ref C::us,kw⟩)):=
 ⟨r.hd,by have:=r.dp;rw[a6b];lia,by have:=r.un;rw[a6c];lia⟩
def Room.depth(r:Room k A):A.depth<recursionLimit:=by have:=r.dp;omega
def Room.units(r:Room k A):A.units+64<cLine:=by have:=r.un;omega
def tNil:TA:=λ_ H Q=>Q [] H
def b5E(ta:TE)(tr:TA):TA:=fun σ H Q=>ta σ H λx H1=>tr σ H1 λxs H2=>Q (x::xs) H2
section
variable{X:Cx}{e:Expr}{es:List Expr}{te:TE}{t:TA}{pos:Pos}
def b0c:PA X [] tNil:=λ_ _ _ _ H Q I h=>Calls.spliced_nil ⟨[],H,I,.nil,h⟩
def a60(ha:PE X e te)(hr:PA X es t)(hs:fL (e::es) X.env=(false,eval e X.env)::fL es X.env):PA X (e::es) (b5E te t):=by
 intro b a s σ H Q I h;rw[hs];exact Calls.spliced_cons (thn (ha a s σ H _ I h) λu j ⟨x,d,k,c,g⟩=>(thn (hr b a j σ d _ k g) λp o ⟨i,f,l,m,n⟩=>⟨x::i,f,l,.cons c m,n⟩))
def tTup(t:TA):TE:=fun σ H Q=>t σ H λxs H1=>xs.length<=fG/\∀p,H1 p=none->Q (.ref p) (upd H1 p (.tup xs))
def tLst(t:TA):TE:=fun σ H Q=>t σ H λxs H1=>xs.length<=fG/\∀p,H1 p=none->Q (.ref p) (upd H1 p (.lst xs))
def b23(h:PA X es t):PE X (.Tuple es x1 pos) (tTup t):=by
 intro c s σ H Q I i;refine wpAny_Tuple_spliced (thn (h pos c s σ H _ I i) λk a ⟨g,d,f,r,z,q⟩=>⟨by rw[<- r.length];exact z,?_⟩);have j:=f.hok.fresh (aV _);refine⟨.ref a.heap.objs.size,upd d a.heap.objs.size _,f.laid (λb u e=>Heap.get?_push_of_some _ e) (aV _) ?_,rfl,q _ j⟩;exact⟨z,k,r,⟨_,Heap.get?_push_size _ rfl,rfl,_,rfl⟩⟩
def b24(h:PA X es t):PE X (.List es pos) (tLst t):=by
 intro c s σ H Q I j;refine wpAny_List_spliced (thn (h pos c s σ H _ I j) λi a ⟨k,d,f,r,z,q⟩=>⟨by rw[<- r.length];exact z,?_⟩);have g:=f.hok.fresh (aV _);refine⟨.ref a.heap.objs.size,upd d a.heap.objs.size _,f.laid (λb u e=>Heap.get?_push_of_some _ e) (aV _) ?_,rfl,q _ g⟩;exact⟨z,i,0,r,Heap.get?_push_size _ rfl⟩
end
abbrev Sp:=List V->Hp->VK->XK->Prop
abbrev CXT:=List Env->Hp->Shared->XK->Value->Shared->Prop
structure Env0 (P:fK) (w:World) (K:Fg) (mg:Str->Option Value) (base:Heap) (A:Around) (outer:List Env) (s:Shared) (H:Hp):Prop where
 frames:A.frames=some outer
 mod:Mod K mg base
 bs:∀b o,base.get? b=some o->s.heap.get? b=some o/\H b=none
 bsz:base.objs.size<=s.heap.objs.size
 funs:s.heap.FunFrames base outer
 frf:∀b∈frs outer,H b=none
 hok:HOk P w H s.heap
 bare:gu s.gens
def CE(outer:List Env)(P:fK)(w:World)(H:Hp)(s:Shared)(Q:VK)(u:Value)(s':Shared):Prop:=
 ∃v H',s'.os=s.os/\gu s'.gens/\Un (frs outer) [] H H' s.heap s'.heap/\HOk P w H' s'.heap/\RelV v u/\Q v H'
def CR(CX:CXT)(outer:List Env)(P:fK)(w:World)(H:Hp)(s:Shared)(Q:VK)(E:XK)(r:Result)(s':Shared):Prop:=
 match r with
 |.ok (.ret u)=>CE outer P w H s Q u s'
 |.ok _=>False
 |.error e=>CX outer H s E e s'
structure FnOk (P:fK) (w:World) (K:Fg) (mg:Str->Option Value) (base:Heap) (CX:CXT) (k:Nat) (f:Addr) (fd:fY) (ps:List Str) (sp:Sp):Prop where
 len:∀vs H Q E,sp vs H Q E->vs.length=ps.length
 run:∀(A:Around)(outer:List Env)(s:Shared)(H:Hp)(args:Args)(us:List Value)(vs:List V)(Q:VK)(E:XK),Room k A->Env0 P w K mg base A outer s H->hV s fd args (ps.zip us)->Vals vs us->sp vs H Q E ->
  gq (model P w) A (.call (.ref f) args) (CR CX outer P w H s Q E) s
def FnOk.mono{K:Fg}(F:FnOk P w K mg base CX j f fd ps sp)(h:j<=k) :
  FnOk P w K mg base CX k f fd ps sp:=⟨F.len,λA a s H b c e Q E d=>F.run A a s H b c e Q E (d.mono h)⟩
def FnOk.imp{K:Fg}(F:FnOk P w K mg base CX k f fd ps sp)
  (h:∀vs H Q E,sp' vs H Q E->sp vs H Q E):FnOk P w K mg base CX k f fd ps sp':=
 ⟨λb H Q E q=>F.len b H Q E (h _ _ _ _ q),λA a s H c d b Q E j i g l e=>F.run A a s H c d b Q E j i g l (h _ _ _ _ e)⟩
def Env0.make{K:Fg}(e:Env0 P w K mg base A outer s H)(C:Addr)(us:List Value)(kw:List (Str×Value)) :
  Env0 P w K mg base (A.under (.builtin "type.__call__" ⟨.ref C::us,kw⟩)) outer s H:=⟨by first |exact e.frames | (simpa using e.frames),e.mod,e.bs,e.bsz,e.funs,e.frf,e.hok,e.bare⟩
def Env0.in1{K:Fg}(e:Env0 P w K mg base A outer s H) :
  Env0 P w K mg base A.in1 outer s H:=⟨e.frames,e.mod,e.bs,e.bsz,e.funs,e.frf,e.hok,e.bare⟩
section
variable{X:Cx}{pins:List (Addr×Obj)}{σ:St}{H:Hp}{s s':Shared}
def Inv.env0(I:Inv X pins σ H s):Env0 X.prog X.w X.K X.mg X.base X.A X.stack s H:=
 ⟨I.ok.frames,I.ok.mod,I.bs,be I.ok.bsz I.sz,I.stack,I.stkFree,I.hok,I.bare⟩
def Inv.after(I:Inv X pins σ H s)(h:CE X.stack X.prog X.w H s Q u s'):EP X pins σ Q u s':=by
 obtain⟨v,H',j,a,f,c,r,q⟩:=h;obtain⟨i,g,d,t,e⟩:=s';obtain rfl:e=s.os:=j;exact⟨v,H',I.call f c a (λb z=>absurd z (by simp)),r,q⟩
end
def b5F(sp:Sp)(dvs:List V)(E:XK)(t:TA):TE:=fun σ H Q=>t σ H λvs H1=>sp (vs++dvs) H1 Q E
def b25(C:Addr)(m:Str)(sp:Sp)(dvs:List V)(E:XK)(ta:TE)(t:TA):TE:=fun σ H Q=>ta σ H λx H1=>∃a dx fs,x=.ref a/\H1 a=some (.ins C dx fs)/\fs.lookup m=none /\
 t σ H1 λvs H2=>sp (x::(vs++dvs)) H2 Q E
def b5G(C:Addr)(sp:Sp)(dvs:List V)(E:XK)(t:TA):TE:=fun σ H Q=>t σ H λvs H1=>∀x dx,H1 x=none->H1 dx=none->dx≠x ->
 sp (.ref x::(vs++dvs)) (upd (upd H1 dx (.own x)) x (.ins C dx [])) (λv H2=>v=.non/\Q (.ref x) H2) E
def Binds(K:Fg)(fd:fY)(ps:List Str)(ds:List Value):Prop:=
 ∀(s:Shared)(us:List Value),K.In s.heap->(us++ds).length=ps.length->hV s fd ⟨us,[]⟩ (ps.zip (us++ds))
def Binds.all{K:Fg}(h:∀us:List Value,us.length=ps.length->hZ fd ⟨us,[]⟩=pure (ps.zip us)):Binds K fd ps []:=λs b _ a=>by
 rw[bN]at a ⊢;exact .of_eq (h b a)
def a3a(CX:CXT)(X:Cx)(E:XK):Prop:=∀(pins:List (Addr×Obj))(σ:St)(H:Hp)(s:Shared)(e:Value)(s':Shared),Inv X pins σ H s->CX X.stack H s E e s'->X.xe e s'
section
variable{X:Cx}{CX:CXT}{k:Nat}{f C:Addr}{fd:fY}{ps:List Str}{sp:Sp}{dvs:List V}{ds:List Value}{E:XK}{x m:Str}{p pos apos:Pos}{e o:Expr}{es:List Expr}{ta:TE}{t:TA}
def b0d(F:FnOk X.prog X.w X.K X.mg X.base CX k f fd ps sp)(hr:Room k X.A)(hb:Binds X.K fd ps ds)(hd:Vals dvs ds)(hx:a3a CX X E)
  (I:Inv X pins σ H s) (r:Vals vs us) (h:sp (vs++dvs) H Q E):wpAny (model X.prog X.w) X.A (call (.ref f) us) (EP X pins σ Q) X.xe s:=by
 have b:=r.append hd;have d:(us++ds).length=ps.length:=b.length▸F.len _ _ _ _ h;refine iP (ip (F.run X.A X.stack s H ⟨us,[]⟩ (us++ds) _ Q E hr I.env0 (hb s us I.kIn d) b h) λr c a=>?_);cases r with
 |error e=>exact hx pins σ H s e c I a
 |ok fl=>
  cases fl with
  |ret u=>exact I.after a
  |next=>exact bg a
  |brk=>exact bg a
  |cont=>exact bg a
def b0Z(F:FnOk X.prog X.w X.K X.mg X.base CX k f fd ps sp)(hr:Room k X.A)(hg:Gl X x)(hm:X.mg x=some (.ref f))(hk:PySem.W.keepIn X.K (.ref f)=true)(hb:Binds X.K fd ps ds)(hd:Vals dvs ds)(hx:a3a CX X E)
  (ha:PA X (e::es) t) (hdb:(x==("__debug__":Str))=false) (he:fL (e::es) X.env=(false,eval e X.env)::fL es X.env) (hpl:(backTo pos (fL es X.env)).any (·.1)=false) :
  PE X (.Call (.Name x p) (e::es) [] pos) (b5F sp dvs E t):=by
 intro a s σ H Q I h;refine gU (a4T I hg hm ?_ hdb);refine PySem.W.callWith_K I.ok.mod.kin hk (thn (ha pos a s σ H _ I h) λi d ⟨c,g,b,r,q⟩=>⟨b.kIn,?_⟩) he hpl;exact b0d F hr hb hd hx b r q
def b00(he:PE X o ta)(c:Cls X.K C)(hm:Meth X.K C m f)(F:FnOk X.prog X.w X.K X.mg X.base CX k f fd ps sp)(hr:Room k X.A)(hb:Binds X.K fd ps ds)(hd:Vals dvs ds)(hx:a3a CX X E)(ha:PA X (e::es) t)
  (hst:fL (e::es) X.env=(false,eval e X.env)::fL es X.env) (hpl:(backTo pos (fL es X.env)).any (·.1)=false)
  (ht:eval (.Call (.Attribute o m apos) (e::es) [] pos) X.env=(do
   let ov <- eval o X.env
   gB apos.atName
   let (f,first) <- gb [ov] (io ov m pl)
   iq pos f first (backTo pos (fL (e::es) X.env)) (ir pos (iu [] X.env)))) :
  PE X (.Call (.Attribute o m apos) (e::es) [] pos) (b25 C m sp dvs E ta t):=by
 intro b s σ H Q I h;refine PySem.W.methodCall_KW (thn (he b s σ H _ I h) λu z ⟨x,p,i,n,a,dx,fs,v,y,l,q⟩=>?_) ht;subst v;obtain rfl:u=Value.ref a:=n;refine a59 i y c hm l (PySem.W.callWith_K I.ok.mod.kin hm.kp (thn (ha pos b z σ p _ i q) λus s2 ⟨vs,H2,g,r,B⟩=>⟨g.kIn,?_⟩) hst hpl);exact b0d (vs:=.ref a::vs) F hr hb hd hx g (.cons rfl r) B
structure Mk (K:Fg) (C f:Addr):Prop where
 makes:PySem.W.makesIn K C=true
 init:PySem.W.findIn K (.ref C) "__init__"=some (some (.ref f))
 fn:PySem.W.isFn K (.ref f)=true
 kp:PySem.W.keepIn K (.ref C)=true
def a8V(M:Mk X.K C f)(F:FnOk X.prog X.w X.K X.mg X.base CX k f fd ps sp)(hr:Room (k+1) X.A)(hb:Binds X.K fd ps ds)(hd:Vals dvs ds)
  (hx:a3a CX X E) (I:Inv X pins σ H s) (r:Vals vs us)
  (h:∀x dx,H x=none->H dx=none->dx≠x->sp (.ref x::(vs++dvs)) (upd (upd H dx (.own x)) x (.ins C dx [])) (λv H2=>v=.non/\Q (.ref x) H2) E) :
  wpAny (model X.prog X.w) X.A (call (.ref C) us) (EP X pins σ Q) X.xe s:=by
 have d:=h _ s.heap.objs.size (I.hok.fresh (dq _)) (I.hok.fresh (aV _)) (bj (dk _));have b:=Inv.made (C:=C) I;have c:Vals (V.ref (s.heap.objs.size+1)::_) _:=.cons rfl (r.append hd);have g:(Value.ref (s.heap.objs.size+1)::us++ds).length=ps.length:=by
  have e:=c.length;rw[F.len _ _ _ _ d]at e;exact e.symm
 refine iP (a8U I.kIn M.makes M.init (beq_iff_eq.mp M.fn) (ip (F.run _ X.stack _ _ ⟨Value.ref (s.heap.objs.size+1)::us,[]⟩ _ _ _ E (hr.make C us [])
  (b.env0.make C us []) (hb _ _ b.kIn g) c d) λr m a=>?_))
 cases r with
 |error e=>exact hx pins σ _ _ e m b a
 |ok fl=>
  cases fl with
  |ret u=>
   obtain⟨v,H',I3,j,l,i⟩:=b.after a;subst l;exact⟨j,⟨V.ref (s.heap.objs.size+1),H',I3,rfl,i⟩⟩
  |next=>exact bg a
  |brk=>exact bg a
  |cont=>exact bg a
def b01(M:Mk X.K C f)(F:FnOk X.prog X.w X.K X.mg X.base CX k f fd ps sp)(hr:Room (k+1) X.A)(hg:Gl X x)(hm:X.mg x=some (.ref C))(hb:Binds X.K fd ps ds)(hd:Vals dvs ds)(hx:a3a CX X E)
  (ha:PA X (e::es) t) (hdb:(x==("__debug__":Str))=false:=by decide) (he:fL (e::es) X.env=(false,eval e X.env)::fL es X.env:=by rfl) (hpl:(backTo pos (fL es X.env)).any (·.1)=false:=by rfl) :
  PE X (.Call (.Name x p) (e::es) [] pos) (b5G C sp dvs E t):=by
 intro a s σ H Q I h;refine gU (a4T I hg hm ?_ hdb);refine PySem.W.callWith_K I.ok.mod.kin M.kp (thn (ha pos a s σ H _ I h) λi d ⟨c,g,b,r,q⟩=>⟨b.kIn,?_⟩) he hpl;exact a8V M F hr hb hd hx b r q
end
section
variable{X:Cx}{CX:CXT}{k:Nat}{f C:Addr}{fd:fY}{ps ks:List Str}{sp:Sp}{E:XK}{x m:Str}{p pos apos kpos:Pos}{e o:Expr}{es:List Expr}{kws:List iw}{te ta:TE}{t tk:TA}{nm:Option Str}
variable{g:List Value->List Value->List Value}{gV:List V->List V->List V}
end
structure FnScope (N P:List Str) (sc:Scope):Prop where
 kind:sc.kind=.function
 co:sc.isCoroutine=false
 gen:sc.isGenerator=false
 nd:N.Nodup
 pre:N.take P.length=P
 par:∀x∈P,sc.names.lookup x=some .local\/sc.names.lookup x=some .cell
 nofree:∀y∈sc.names,y.2≠.free
def a61{kindOf:Str->Option fP}:∀{binds:List (Str×Value)}{m:Str->Option Value},(∀v,(x,v)∉binds)->bindL kindOf binds m x=m x:=by intro z0;induction z0 with
 |nil=>intro _ _;exact rfl
 |cons q0 r I0=>
  obtain⟨n,v⟩:=q0;intro m h;unfold bindL;rw[I0 λw a=>h w (ca _ a)]
  split
  ·have:x≠n:=by rintro rfl;exact h v cy
   simp[this]
  ·rfl
def a62{kindOf:Str->Option fP}:∀{binds:List (Str×Value)}{m:Str->Option Value},(∀v,(x,v)∉binds)->bindC kindOf binds m x=m x:=by intro z0;induction z0 with
 |nil=>intro _ _;exact rfl
 |cons q0 r I0=>
  obtain⟨n,v⟩:=q0;intro m h;unfold bindC;rw[I0 λw a=>h w (ca _ a)]
  split
  ·rfl
  ·have:x≠n:=by rintro rfl;exact h v cy
   simp[this]
theorem a4b{kindOf:Str->Option fP}:∀{P:List Str}{vs:List Value}{i:Nat}{m:Str->Option Value},P.Nodup->P[i]?=some x->vs[i]?=some v->kindOf x=some .local ->
  bindL kindOf (P.zip vs) m x=some v
 |[],_,_,_,_,h,_,_=>by simp at h
 |_::_,[],_,_,_,_,h,_=>by simp at h
 |p::P,w::vs,0,m,nd,h1,h2,hk=>by
  simp at h1 h2;subst h1;subst h2
  show bindL kindOf (_::P.zip vs) m p=_
  unfold bindL;rw[a61 λv a=>(bX.mp nd).1 (cG a).1,if_pos hk];simp
 |p::P,w::vs,i+1,m,nd,h1,h2,hk=>by
  unfold bindL;exact a4b (bX.mp nd).2 (by simpa using h1) (by simp_all) hk
theorem a4c{kindOf:Str->Option fP}:∀{P:List Str}{vs:List Value}{i:Nat}{m:Str->Option Value},P.Nodup->P[i]?=some x->vs[i]?=some v->kindOf x≠some .local ->
  bindC kindOf (P.zip vs) m x=some v
 |[],_,_,_,_,h,_,_=>by simp at h
 |_::_,[],_,_,_,_,h,_=>by simp at h
 |p::P,w::vs,0,m,nd,h1,h2,hk=>by
  simp at h1 h2;subst h1;subst h2
  show bindC kindOf (_::P.zip vs) m p=_
  unfold bindC;rw[a62 λv a=>(bX.mp nd).1 (cG a).1,if_neg hk];simp
 |p::P,w::vs,i+1,m,nd,h1,h2,hk=>by
  unfold bindC;exact a4c (bX.mp nd).2 (by simpa using h1) (by simp_all) hk
noncomputable def start(N:List Str)(vs:List V):St:=vs.map some++dr (N.length-vs.length) none
noncomputable def cxOf(CX:CXT)(P:fK)(w:World)(K:Fg)(mg:Str->Option Value)(base:Heap)(N:List Str)(qual:Str)(scope:Scope)(f:Addr)(cd:Value)(A:Around)(outer:List Env)(s:Shared)(H:Hp)(E:XK):Cx where
 prog:=P
 w:=w
 K:=K
 mg:=mg
 base:=base
 A:=A.deeper (envOfC qual scope s.heap.objs.size f cd)
 N:=N
 s₀:=s
 H₀:=H
 env:=envOfC qual scope s.heap.objs.size f cd
 outer:=outer
 stack:=envOfC qual scope s.heap.objs.size f cd::outer
 ex:=[]
 calm:=true
 fn:=λ_=>true
 pn:=[]
 xe:=λe s'=>wpAny (model P w) (A.deeper (envOfC qual scope s.heap.objs.size f cd)) (leaving (envOfC qual scope s.heap.objs.size f cd) e) (λ_ s''=>CX outer H s E e s'') (λe' s''=>CX outer H s E e' s'') s'
def a2C{sc:Scope}(h:sc.names.lookup x=some .cell):∃c,(fQ n sc.names []).lookup x=some c:=by
 exact eJ.mp (PySem.W.cellsFrom_some sc.names n [] (.inl h))
def a4d{K:Fg}
  (S:FnScope N ps scope) (hd:A.handled=none) (e0:Env0 P w K mg base A outer s H) (hl:vs.length=ps.length) (r:Vals vs us)
  (x:InCallC s s.heap.objs.size (bindL (envOfC qual scope s.heap.objs.size f cd).kindOf (ps.zip us) λ_=>none) (fQ (s.heap.objs.size+1) scope.names []) (bindC (envOfC qual scope s.heap.objs.size f cd).kindOf (ps.zip us) λ_=>none) s1) :
  Inv (cxOf CX P w K mg base N qual scope f cd A outer s H E) [] (start N vs) H s1:=by
 have G:ps.length<=N.length:=by have:=congrArg bM S.pre;rw[bC]at this;lia
 obtain⟨m,J,rfl,C⟩:=x.done;have l:∀b:Addr,b∉(cxOf CX P w K mg base N qual scope f cd A outer s H E).ex:=λb z=>absurd (show b∈([]) from z) (by simp);refine⟨⟨e0.mod,S.kind,rfl,rfl,aV _,λy z c m d=>?_,λy g=>?_,λy c _ h=>?_,λ_=>hd,Around.frames_deeper e0.frames,.inr ⟨rfl,rfl⟩,λb z=>absurd z (l b),e0.bs,e0.bsz,λb _ _=>l b,λb z=>absurd z (l b),e0.funs,e0.frf⟩,
  rfl,e0.bare,Un.kept C,⟨_,x.toInCall.ns,λi y v m d I=>?_⟩,λy c h=>⟨_,x.cell y c h⟩,e0.hok.fresh (aV _),λy c h=>?_,λp j=>absurd (show p∈([]) from j) (by simp),e0.hok.kept C,?_⟩
 ·exact name_of_addr x.apart (PySem.mem_of_lookup m) (PySem.mem_of_lookup d)
 ·have g:=g;rcases g with g |g
  ·exact a2C g
  ·exact absurd rfl (S.nofree _ (PySem.mem_of_lookup g))
 ·exact b9 (x.above y c (PySem.mem_of_lookup h))
 ·have o:i<vs.length:=by
   unfold start at d
   by_cases o:i<vs.length
   ·exact o
   ·rw[cV (by simp_all)]at d;rw[List.getElem?_replicate]at d
    split at d<;>cases d
  have F:vs[i]?=some v:=by
   unfold start at d;rw[cW (by simpa using o),aW]at d;cases e:vs[i]? with
   |none=>rw[e]at d;cases d
   |some a=>rw[e]at d;cases d;rfl
  obtain⟨u,B,D⟩:=r.get F;have j:ps[i]?=some y:=by
   rw[<- S.pre,List.getElem?_take_of_lt (by lia)];exact m
  have t:ps.Nodup:=S.pre▸S.nd.sublist (dt _ _);refine⟨u,D,?_⟩;rcases S.par y (bo j) with k |k
  ·exact .inl ⟨k,a4b t j B k⟩
  ·obtain⟨c,e⟩:=a2C k;refine .inr ⟨.inl k,c,e,?_⟩;have q:=x.cell y c e;rw[a4c t j B (by show scope.names.lookup y≠_;rw[k];decide)]at q;exact q
 ·exact e0.hok.fresh (b9 (x.above y c (PySem.mem_of_lookup h)))
 ·unfold start
  show _=N.length
  rw[bn,aT,List.length_replicate]
  lia
def b26{K:Fg}{dV kV doc pm cdv ct oc:Value}
 (lk:K.lookup f=some ⟨oc,od,.func (PySem.W.fnOf name qual params body scope dV kV doc pm an cdv ct),osl⟩) (hcd:PySem.W.codeIn K cdv qual=true) (S:FnScope N ps scope)
    (len:∀vs H Q E,sp vs H Q E->vs.length=ps.length)
    (hbody:∀(A:Around)(outer:List Env)(s:Shared)(H:Hp)(vs:List V)(Q:VK)(E:XK),Room k (A.deeper (envOfC qual scope s.heap.objs.size f cdv))->sp vs H Q E ->
      ∃t,PSs (cxOf CX P w K mg base N qual scope f cdv A outer s H E) body t/\t { nx:=λ_ H'=>Q .non H',rt:=Q } (start N vs) H) :
    FnOk P w K mg base CX (k+1) f (PySem.W.fnOf name qual params body scope dV kV doc pm an cdv ct) ps sp:=by
  refine⟨len,λA a s H L F m Q E z g R r i=>?_⟩;have C:=g.mod.kin.keeps λb o e=>(g.bs b o e).1;have h:∀y∈ps.zip F,scope.names.lookup y.1=some .local\/(scope.names.lookup y.1=some .cell/\((fQ (s.heap.objs.size+1) scope.names []).lookup y.1).isSome=true):=by
    rintro⟨n,v⟩ G;rcases S.par n (cG G).1 with q |q
    · exact .inl q
    · exact .inr ⟨q,PySem.W.cellsFrom_some _ _ _ (.inl q)⟩
  refine codeAny_call_function z.depth (C _ _ lk) rfl S.co S.gen rfl (PySem.W.codeRec_of C hcd) (R _ _ _ _ (wpAny_newFunctionEnv_cells S.kind h λaa Y B x=>?_));subst Y;refine⟨(g.mod.nolimit.keeps λb o e=>(g.bs b o e).1).keeps x.toInCall.keep,codeAny_func ?_⟩;obtain⟨t,T,U⟩:=hbody A a s H m Q E (z.deeper _) i;have I:Inv (cxOf CX P w K mg base N qual scope f cdv A a s H E) [] _ H B:=a4d S z.hd g (len _ _ _ _ i) r x;refine fW (T [] B _ H _ I U) (λX p c=>?_) λe p c=>c;have j:∀{σ':St}{d:Hp}{v:V}{u:Value},Inv (cxOf CX P w K mg base N qual scope f cdv A a s H E) [] σ' d p->RelV v u->Q v d->CE a P w H s Q u p:=
    λ{σ' d v u} J l q=>⟨v,d,J.os,J.bare,J.base,J.hok,l,q⟩
  cases X with
  |ret u=>
    obtain⟨v,σ',d,J,l,q⟩:=c;exact j J l q
  |next=>
    obtain⟨σ',d,J,q⟩:=c;exact j (v:=V.non) J rfl q
  |brk=>
    obtain⟨_,_,_,q⟩:=c;exact bg q
  |cont=>
    obtain⟨_,_,_,q⟩:=c;exact bg q
section
variable{X:Cx}{x:Str}{p pos:Pos}{e:Expr}{es:List Expr}{t:TA}{id T:String}{r:List V->Hp->VK->Prop}
def tCB(r:List V->Hp->VK->Prop)(t:TA):TE:=fun σ H Q=>t σ H λvs H1=>r vs H1 Q
def a8W(hc:CallR X (.builtin id) r)(hg:Gl X x)(hm:X.mg x=none)(hv:gg x=some (.builtin id))(ha:PA X (e::es) t)(hn:x≠"__name__")(hdb:(x==("__debug__":Str))=false)
  (he:fL (e::es) X.env=(false,eval e X.env)::fL es X.env) (hpl:(backTo pos (fL es X.env)).any (·.1)=false):PE X (.Call (.Name x p) (e::es) [] pos) (tCB r t):=by
 intro a s σ H Q I h;refine gU (a2I I hg hm hv ?_ hn hdb);exact PyProof.Rows.callWith_builtin1 (thn (ha pos a s σ H _ I h) λg c ⟨b,f,i,d,j⟩=>hc a c σ f b g Q i d j) he hpl
def a63(hc:CallR X (.type T) r)(hg:Gl X x)(hm:X.mg x=none)(hv:gg x=some (.type T))(ha:PA X (e::es) t)(hn:x≠"__name__")(hdb:(x==("__debug__":Str))=false)
  (he:fL (e::es) X.env=(false,eval e X.env)::fL es X.env) (hpl:(backTo pos (fL es X.env)).any (·.1)=false):PE X (.Call (.Name x p) (e::es) [] pos) (tCB r t):=by
 intro a s σ H Q I h;refine gU (a2I I hg hm hv ?_ hn hdb);exact PyProof.Rows.callWith_type1 (thn (ha pos a s σ H _ I h) λj f ⟨b,g,d,i,c⟩=>hc a f σ g b j Q d i c) he hpl
end
end L2
namespace HT
open PySem PyProof.Rows
section
open PySem.SeqAt
open PySem.AutoSeq1 (wpAny_loadPart')
open PySem.MeetsSeq PySem.MeetsSeq2 PySem.MeetsSeq3
end
section
variable{prog:fK}{w:World}{A:Around}{E:Value->Shared->Prop}{s:Shared}
def cat_tup(ht:IsTup s.heap t vs.toArray)(hb:IsTup s.heap b ws.toArray)(hv:vs≠[])
  (h1:ws=[]->Q (.ref t) s) (h2:ws≠[]->Q (.ref s.heap.objs.size) { s with heap:=s.heap.push { cls:=.type "tuple",data:=.seq (vs++ws).toArray } })
  (hsz:vs.length+ws.length<=fG):wpAny (model prog w) A (fV .Add (.ref t) (.ref b)) Q E s:=by
 obtain⟨⟨r,j,p,k⟩,c,l,n,m⟩:=id ht;obtain⟨⟨q,f,o,h⟩,a,g,i,d⟩:=id hb;subst l m g d;have e:vs.toArray++ws.toArray=(vs++ws).toArray:=by simp
 by_cases hw:ws=[]
 ·exact concat_meets ⟨_,c,rfl⟩ ⟨_,a,rfl⟩ noFill_tuple_add seq_tuple_add PySem.F.slot_tuple_add PySem.F.entry_tuple_add (PySem.F.args_tuple_add_2 _ _)
   (tuple_addW1 t b vs.toArray ws.toArray n i j f k h (by simp_all) (by grind)) ⟨c,a,h1 hw⟩
 ·refine concat_meets ⟨_,c,rfl⟩ ⟨_,a,rfl⟩ noFill_tuple_add seq_tuple_add PySem.F.slot_tuple_add PySem.F.entry_tuple_add (PySem.F.args_tuple_add_2 _ _)
   (tuple_addW2 t b vs.toArray ws.toArray n i j f k h (by simp_all) (by simp_all) (by omega)) ⟨c,a,?_⟩
  rw[e];exact h2 hw
noncomputable def sIx(n d:Nat):Option Int->Nat
 |none=>d
 |some v=>if v<0 then (v+(n:Int)).toNat else min v.toNat n
def sIx_none(n d:Nat):sIx n d none=d:=rfl
def sIx_nat(n d k:Nat):sIx n d (some (k:Int))=min k n:=rfl
def b65(n d:Nat)(hd:d<=n)(o:Option Int):sIx n d o<=n:=by
 cases o with
 |none=>exact hd
 |some v=>
  show (if v<0 then (v+n).toNat else min v.toNat n)<=n
  by_cases hv:v<0
  ·grind
  ·rw[if_neg hv];exact dU _ _
def a64(v:Int)(n d:Nat):(if v<0 then max (v+(n:Int)) 0 else min v (n:Int))=((sIx n d (some v):Nat):Int):=by grind [sIx]
def a6d(lo hi:Option Int)(n:Nat):fO.Slice.sliceAdjust lo hi 1 (n:Int)=(((sIx n 0 lo:Nat):Int),((sIx n n hi:Nat):Int)):=by
 unfold fO.Slice.sliceAdjust;refine Prod.ext ?_ ?_
 ·cases lo with
  |none=>rfl
  |some v=>exact a64 v n 0
 ·cases hi with
  |none=>rfl
  |some v=>exact a64 v n n
def a6e(i j:Nat):fO.Slice.slicePlaces (i:Int) (j:Int) 1=j-i:=by
 unfold fO.Slice.slicePlaces;simp
 split<;>lia
def a3b(p:IsPart v o)(h:Q o s):wpAny (model prog w) A (fO.Slice.slicePartIndex v) Q E s:=by
 cases p with
 |none=>exact slicePart_none h
 |int i t=>exact slicePart_int h
def a2y{lo hi:Option Int}{n:Nat}(hs:s.heap.IsSliceOf sl vl vu .none)(pl:IsPart vl lo)(pu:IsPart vu hi)
  (h:Q (((sIx n 0 lo:Nat):Int),1,sIx n n hi-sIx n 0 lo) s):wpAny (model prog w) A (fO.Slice.sliceApplied (.ref sl) (pure (n:Int))) Q E s:=by
 obtain⟨d,a,c,b⟩:=id hs;refine fF (fF (gh a b rfl (fF (gh a b rfl (fF (gh a b rfl (fI (fF (slicePart_none (fF (a3b pl (fF (a3b pu (fF (fI ?_)))))))))))))))
 show wpAny _ _ (match fO.Slice.sliceAdjust lo hi 1 n with | (lo,hi)=>pure (lo,_,fO.Slice.slicePlaces lo hi 1)) _ _ s
 rw[a6d lo hi n]
 show wpAny _ _ (pure _) _ _ s
 rw[a6e];exact fI h
def a8X(xs:Array Value)(i k:Nat):((cE k).filterMap λ(m:Nat)=>xs[((i:Int)+(m:Int)*1).toNat]?).toArray=((xs.toList.drop i).take k).toArray:=by
 have e:(λ(m:Nat)=>xs[(i+(m:Int)*1).toNat]?)=λm=>xs[i+m]?:=by
  funext m
  have:(i+(m:Int)*1).toNat=i+m:=by lia
  rw[this]
 rw[e]
 have:=pick_run xs i k
 rw[List.filterMap_map]at this;have a:(_∘λx=>i+x)=λm=>xs[i+m]?:=rfl;rw[a]at this;rw[this]
def getItem_tuple_cut{lo hi:Option Int}(ht:IsTup s.heap t items)(hs:s.heap.IsSliceOf sl vl vu .none)(pl:IsPart vl lo)(pu:IsPart vu hi)
  (hw:¬ (sIx items.size 0 lo=0/\sIx items.size items.size hi=items.size))
  (h:Q (.ref s.heap.objs.size) { s with heap:=s.heap.push { cls:=.type "tuple",data:=.seq ((items.toList.drop (sIx items.size 0 lo)).take (sIx items.size items.size hi-sIx items.size 0 lo)).toArray } })
  (hsz:items.size<=fG):wpAny (model prog w) A (iy (.ref t) (.ref sl)) Q E s:=by
 have a:sizeOk (.seq ((items.toList.drop (sIx items.size 0 lo)).take (sIx items.size items.size hi-sIx items.size 0 lo)).toArray):=by
  show ((items.toList.drop (sIx items.size 0 lo)).take (sIx items.size items.size hi-sIx items.size 0 lo)).toArray.size<=fG
  rw[bG,bC,b7,cb];omega
 obtain⟨f,d,e,g⟩:=id hs;have b:s.TypeIs (.ref sl) "slice":=⟨f,d,e⟩;unfold iy
 try with_reducible refine f7 ?_
 refine fF (wpAny_sequenceKey ht.typeIs (by decide) ?_);refine fF (wpAny_callSpecial?_slot ht.typeIs PyProof.Rows.slot_tuple_getitem
  (gA PyProof.Rows.slot_tuple_getitem ht.typeIs entry_tuple_getitem ?_ (args_tuple_getitem _ _)))
 show wpAny _ _ (fO.Tuple.tupleItemsOf _ >>= _) _ _ s
 refine fF (tupleItemsOf_ ht (fF (wpAny_typeOf b (fF (a2y hs pl pu ?_)))));have c:¬ ((((sIx items.size 0 lo):Int)==0&&(1:Int)==1&&(sIx items.size items.size hi-sIx items.size 0 lo)==items.size)=true):=by grind
 show wpAny _ _ (if (((sIx items.size 0 lo):Int)==0&&(1:Int)==1&&(sIx items.size items.size hi-sIx items.size 0 lo)==items.size)=true then _ else _) _ _ s
 rw[if_neg c,a8X]
 first
  |exact fF (iz (fI ⟨_,rfl,fI h⟩) a)
  |exact fF _
  |exact fF _
  |exact fF _
end
end HT
namespace L2
open PySem PySem.Spec PyProof.Rows
abbrev TO:=St->Hp->(Option Int->Hp->Prop)->Prop
def PO(X:Cx)(e:Option Expr)(t:TO):Prop:=
 ∀(pins:List (Addr×Obj))(s:Shared)(σ:St)(H:Hp)(Q:Option Int->Hp->Prop),Inv X pins σ H s->t σ H Q ->
  wpAny (model X.prog X.w) X.A (evalPart e X.env) (λu s'=>∃o H',Inv X pins σ H' s'/\IsPart u o/\Q o H') X.xe s
def b02:TO:=λ_ H Q=>Q none H
def b5H(t:TE):TO:=fun σ H Q=>t σ H λx H1=>∃i,x=.int i/\Q (some i) H1
def a6f:∀{us:List Value},Vals (ns.map V.int) us->f6 us ns:=by
 induction ns with
 |nil=>intro a r;cases r;exact .nil
 |cons n ns ih=>
  intro a r;cases r with
  |cons r1 r2=>
   obtain⟨t,e⟩:=r1;subst e;exact .cons n t (ih r2)
section
variable{X:Cx}{e:Expr}{te:TE}{lo hi:Option Expr}{tl th:TO}{pos p2:Pos}
def b03:PO X none b02:=λa s σ H Q I h=>fI ⟨none,H,I,.none,h⟩
def b04(h:PE X e te):PO X (some e) (b5H te):=by
 intro a s σ H Q I b;refine thn (h a s σ H _ I b) λu j ⟨x,d,f,c,g⟩=>?_;obtain⟨i,rfl,q⟩:=g;obtain⟨t,rfl⟩:=c;exact⟨some i,d,f,.int i t,q⟩
def SlR(X:Cx)(r:V->Option Int->Option Int->Hp->VK->Prop):Prop:=
 ∀(pins:List (Addr×Obj))(s:Shared)(σ:St)(H:Hp)(x:V)(v vl vu:Value)(lo hi:Option Int)(sl:Addr)(Q:VK),Inv X pins σ H s->RelV x v->s.heap.IsSliceOf sl vl vu .none->IsPart vl lo->IsPart vu hi->r x lo hi H Q ->
  ∃T id,typeLookup (.type T) "__getitem__"=pure (some (.builtin id))/\s.TypeIs v T/\wpAny (model X.prog X.w) X.A (iy v (.ref sl)) (EP X pins σ Q) X.xe s
def SlR.or(h:SlR X r)(h':SlR X r'):SlR X (λx lo hi H Q=>r x lo hi H Q\/r' x lo hi H Q):=by
 intro a s σ H x v b k d j c Q I g i e f q;rcases q with q |q
 ·exact h a s σ H x v b k d j c Q I g i e f q
 ·exact h' a s σ H x v b k d j c Q I g i e f q
def tSl(r:V->Option Int->Option Int->Hp->VK->Prop)(te:TE)(tl th:TO):TE:=fun σ H Q=>te σ H λx H1=>tl σ H1 λl H2=>th σ H2 λu H3=>r x l u H3 Q
def a8Y(hr:SlR X r)(he:PE X e te)(hl:PO X lo tl)(hu:PO X hi th):PE X (.Subscript e (.Slice lo hi none p2) pos) (tSl r te tl th):=by
 intro a s σ H Q I h;refine Subscript_ (thn (he a s σ H _ I h) λv o ⟨x,D,j,t,J⟩=>(wpAny_Slice (thn (hl a o σ D _ j J) λf B ⟨l,p,m,n,G⟩=>thn (hu a B σ p _ m G) λd c ⟨u,g,y,z,k⟩=>(fI ?_))));have C:Inv X a σ g { c with heap:=c.heap.push { cls:=.type "slice",data:=.fields #[f,d,.none] } }:=y.kept λb L q=>Heap.get?_push_of_some _ q;obtain⟨T,M,F,E,i⟩:=hr a { c with heap:=c.heap.push { cls:=.type "slice",data:=.fields #[f,d,.none] } } σ g x v f d l u c.heap.objs.size Q C t (Heap.IsSliceOf.new ..) n z k;exact tail_any E F i (by with_unfolding_all rfl)
noncomputable def cutV(xs:List V)(lo hi:Option Int):List V:=(xs.drop (HT.sIx xs.length 0 lo)).take (HT.sIx xs.length xs.length hi-HT.sIx xs.length 0 lo)
def a2J(xs:List V)(lo hi:Option Int):(cutV xs lo hi).length<=xs.length:=by
 unfold cutV;rw[bC,b7];omega
def rSlT(K:Fg):V->Option Int->Option Int->Hp->VK->Prop:=λx lo hi H Q=>∃a xs,x=.ref a/\SqT K H a xs /\
 ¬ (HT.sIx xs.length 0 lo=0/\HT.sIx xs.length xs.length hi=xs.length)/\∀p,H p=none->Q (.ref p) (upd H p (.tup (cutV xs lo hi)))
def sl_tup:SlR X (rSlT X.K):=by
 intro p s σ H x v A w e f z Q I k m l t h;obtain⟨a,d,rfl,n,u,q⟩:=h;cases k;obtain⟨j,r,g,i⟩:=I.tuple n;have c:j.toArray.size=d.length:=bG▸r.length.symm;refine⟨"tuple",_,PyProof.Rows.slot_tuple_getitem.lookup,g.typeIs,?_⟩;refine HT.getItem_tuple_cut g m l t (c▸u) ?_ (by simp_all);rw[c];refine⟨.ref s.heap.objs.size,_,I.laid (λb y q=>Heap.get?_push_of_some _ q) (aV _) ?_,rfl,q _ (I.hok.fresh (aV _))⟩;exact⟨be (a2J d e f) i,_,(r.drop _).take _,IsTup.new _ _⟩
def b5I(K:Fg):R2:=λx y H Q=>∃a b xs ys,x=.ref a/\y=.ref b/\SqT K H a xs/\SqT K H b ys/\xs≠[]/\xs.length+ys.length<=fG /\
 (ys=[]->Q (.ref a) H)/\(ys≠[]->∀p,H p=none->Q (.ref p) (upd H p (.tup (xs++ys))))
def Vals.nil_iff(r:Vals xs us):us=[]↔xs=[]:=by
 cases r with
 |nil=>simp
 |cons _ _=>simp
def op_catT:OpR X (fV .Add) (b5I X.K):=by
 intro r s σ H x y v u Q I p B h;obtain⟨a,b,k,j,rfl,rfl,t,g,f,e,m,n⟩:=h;cases p;cases B;obtain⟨C,d,i,_⟩:=I.tuple t;obtain⟨l,c,A,_⟩:=I.tuple g;refine HT.cat_tup i A (λz=>f (d.nil_iff.mp z)) (λz=>⟨.ref a,H,I,rfl,m (c.nil_iff.mp z)⟩) (λz=>?_) (by rw[<- d.length,<- c.length];exact e);refine⟨.ref s.heap.objs.size,_,I.laid (λb D q=>Heap.get?_push_of_some _ q) (aV _) ?_,rfl,n (λw=>z (c.nil_iff.mpr w)) _ (I.hok.fresh (aV _))⟩;exact⟨by rw[bn];exact e,_,d.append c,IsTup.new _ _⟩
end
noncomputable def ixN(n:Nat)(i:Int):Option Nat:=if 0<=i then (if i<n then some i.toNat else none) else if -(n:Int)<=i then some (i+n).toNat else none
noncomputable def atI{α:Type}(xs:List α)(i:Int):Option α:=(ixN xs.length i).bind λj=>xs[j]?
def a65(h:ixN n i=some j):seqIndex? i n=some j/\j<n/\-(n:Int)<=i/\i<n:=by
 unfold ixN at h
 by_cases h0:0<=i
 ·rw[if_pos h0]at h
  by_cases h1:i<n
  ·rw[if_pos h1]at h;have e:=bv.inj h;exact⟨by rw[jg h0 h1,e],by omega,by omega,h1⟩
  ·simp_all
 ·rw[if_neg h0]at h
  by_cases h1:-n<=i
  ·rw[if_pos h1]at h;have e:=bv.inj h;exact⟨by rw[jh (by omega) h1,e],by omega,h1,by omega⟩
  ·simp_all
def a4X{α:Type}{xs:List α}{v:α}(h:atI xs i=some v):∃j,seqIndex? i xs.length=some j/\xs[j]?=some v/\j<xs.length/\-(xs.length:Int)<=i/\i<xs.length:=by
 unfold atI at h;cases e:ixN xs.length i with
 |none=>rw[e]at h;cases h
 |some j=>
  rw[e]at h;obtain⟨d,c,b,a⟩:=a65 e;exact⟨j,d,h,c,b,a⟩
def a1j{α:Type}{xs:List α}{j:Nat}{v:α}(h:xs[j]?=some v):atI xs (j:Int)=some v:=by
 have a:=(aZ.mp h).1;have e:ixN xs.length j=some j:=by
  unfold ixN;rw[if_pos (by simp),if_pos (by lia)];simp
 unfold atI;rw[e];exact h
def a66(b:Expr):Prop:=∀o i,subscripted b false o i=operate [o,i] (iy o i)
def IxR(X:Cx)(r:R2):Prop:=
 ∀(value slice:Expr)(pins:List (Addr×Obj))(s:Shared)(σ:St)(H:Hp)(x y:V)(v u:Value)(Q:VK),Inv X pins σ H s->RelV x v->RelV y u->r x y H Q ->
  subscripted slice false v u=operate [v,u] (iy v u)->wpAny (model X.prog X.w) X.A (subscriptTail value slice v u) (EP X pins σ Q) X.xe s
def MtR(X:Cx)(id:String)(r:V->List V->Hp->VK->Prop):Prop:=
 ∀(pins:List (Addr×Obj))(s:Shared)(σ:St)(H:Hp)(x:V)(xs:List V)(v:Value)(us:List Value)(Q:VK),Inv X pins σ H s->RelV x v->Vals xs us->r x xs H Q ->
  wpAny (model X.prog X.w) X.A (call (.builtin id) (v::us)) (EP X pins σ Q) X.xe s
section
variable{X:Cx}{a b:Expr}{ta tb:TE}{pos:Pos}
def IxR.or(h:IxR X r)(h':IxR X r'):IxR X (λx y H Q=>r x y H Q\/r' x y H Q):=by
 intro b a c s σ H x y v u Q I e f q d;rcases q with q |q
 ·exact h b a c s σ H x y v u Q I e f q d
 ·exact h' b a c s σ H x y v u Q I e f q d
def MtR.or{id:String}(h:MtR X id r)(h':MtR X id r'):MtR X id (λx xs H Q=>r x xs H Q\/r' x xs H Q):=by
 intro a s σ H x e v b Q I c d q;rcases q with q |q
 ·exact h a s σ H x e v b Q I c d q
 ·exact h' a s σ H x e v b Q I c d q
def b5J(hr:IxR X r)(ha:PE X a ta)(hb:PE X b tb)(hs:a66 b):PE X (.Subscript a b pos) (tOp r ta tb):=λc s σ H Q I h=>Subscript_ (binT ha hb I h λv u d x y f g i e q=>hr a b c d σ f x y v u Q g i e q (hs _ _))
def rIxL(K:Fg):R2:=λx y H Q=>∃p xs i v,x=.ref p/\y=.int i/\SqL K H p xs/\atI xs i=some v/\Q v H
def rIxT(K:Fg):R2:=λx y H Q=>∃p xs i v,x=.ref p/\y=.int i/\SqT K H p xs/\atI xs i=some v/\Q v H
def rIxS:R2:=λx y H Q=>∃z i c,x=.str z/\y=.int i/\z.length<=fG/\atI z.cps.toList i=some c/\Q (.str ⟨#[c]⟩) H
def ix_list:IxR X (rIxL X.K):=by
 intro n m a s σ H x y v u Q I F o h f;obtain⟨p,M,i,z,rfl,rfl,C,J,q⟩:=h;cases F;obtain⟨t,rfl⟩:=o;obtain⟨l,r,d,R⟩:=I.list C;obtain⟨j,b,B,L,D,A⟩:=a4X J;obtain⟨w,g,k⟩:=r.get B;have G:=r.length;have N:=a39;have c:EP X a σ Q w s:=⟨z,H,I,k,q⟩
 by_cases h0:0<=i
 ·have e:i.toNat=j:=by
   rw[jg h0 A]at b;exact bv.inj b
  exact item_listR d.isList h0 (by omega) (by rw[e];simpa using g) c f
 ·have e:(i+(l.toArray.size:Int)).toNat=j:=by
   rw[jh (by omega) D]at b;rw[bG,<- G];exact bv.inj b
  exact ji d.isList.typeIs slot_list_getitem.lookup
   (wpAny_getItem_list_neg d.isList (by omega) (by simp_all) (by omega) (by rw[e];simpa using g) ⟨rfl,c⟩) f
def ix_tup:IxR X (rIxT X.K):=by
 intro f e a s σ H x y v u Q I A D h k;obtain⟨p,J,i,z,rfl,rfl,B,C,q⟩:=h;cases A;obtain⟨t,rfl⟩:=D;obtain⟨E,r,d,M⟩:=I.tuple B;obtain⟨j,l,g,G,F,L⟩:=a4X C;obtain⟨w,m,c⟩:=r.get g;have N:=a39;have b:EP X a σ Q w s:=⟨z,H,I,c,q⟩;exact ji d.typeIs slot_tuple_getitem.lookup
  (getItem_tuple d (by lia) (by lia) (by rw[bG,<- r.length];exact l) (by simp_all) ⟨rfl,b⟩) k
def b27:IxR X rIxS:=by
 intro b d r s σ H x y v u Q I o f h p;obtain⟨z,i,c,rfl,rfl,A,n,q⟩:=h;obtain⟨t,rfl⟩:=o;obtain⟨C,rfl⟩:=f;obtain⟨j,a,l,D,g,w⟩:=a4X n;have k:z.cps.toList.length=z.length:=by simp[Str.length]
 rw[k]at a g w;have B:=a39;exact tail_any (gY s z t) slot_str_getitem.lookup (getItem_str (by grind) (by rw[a];simpa using l) ⟨.str ⟨#[c]⟩,H,I.tok _,⟨_,rfl⟩,q⟩) p
def rIx(K:Fg):R2:=λx y H Q=>rIxL K x y H Q\/rIxT K x y H Q\/rIxS x y H Q
def b28:IxR X (rIx X.K):=ix_list.or (ix_tup.or b27)
def a6g(its:List Value)(n j:Nat)(u:Value):Obj.mapSeq (·.setIfInBounds j u) { cls:=.type "list",data:=.seq its.toArray n }={ cls:=.type "list",data:=.seq (its.set j u).toArray n }:=by
 simp[Obj.mapSeq]
def Inv.lst{pins:List (Addr×Obj)}{σ:St}{H:Hp}{s:Shared}{p:Addr}{xs:List V}(I:Inv X pins σ H s)(h:H p=some (.lst xs)) :
  ∃(its:List Value)(n:Nat),Vals xs its/\s.heap.get? p=some { cls:=.type "list",data:=.seq its.toArray n }/\xs.length<=sizeLine:=by
 obtain⟨z,a,n,r,e⟩:=I.hok p _ h;exact⟨a,n,r,e,z⟩
def Inv.lstUpd{its its':List Value}(I:Inv X pins σ H s)(h:H p=some (.lst xs))
  (ho:s.heap.get? p=some { cls:=.type "list",data:=.seq its.toArray n }) (hf:f { cls:=.type "list",data:=.seq its.toArray n }={ cls:=.type "list",data:=.seq its'.toArray n' }) (r:Vals ys its') (hz:ys.length<=fG) (t:Nat) :
  Inv X pins σ (upd H p (.lst ys)) { s with heap:=s.heap.update p f,toks:=t }:=by
 have e:(s.heap.update p f).get? p=some { cls:=.type "list",data:=.seq its'.toArray n' }:=by
  rw[Heap.get?_update_self f ho (by rw[hf]<;>rfl),hf]
 refine I.write (by rw[h];trivial) (.inl rfl) (λb u a q=>(Heap.get?_update_other _ _ (Ne.symm a)).trans q) ⟨_,e⟩ ?_;exact⟨hz,its',n',r,e⟩
def b5K:V->V->V->Hp->(Hp->Prop)->Prop:=λo i v H Q=>∃p xs k j,o=.ref p/\i=.int k/\H p=some (.lst xs)/\ixN xs.length k=some j/\Q (upd H p (.lst (xs.set j v)))
def a8Z:PSet X b5K:=by
 intro d s σ H o i v D F u Q I x z C h;obtain⟨p,y,k,j,rfl,rfl,g,B,q⟩:=h;cases x;obtain⟨t,rfl⟩:=z;obtain⟨b,n,r,f,A⟩:=I.lst g;obtain⟨a,E,m,w⟩:=a65 B;have e:=r.length;have G:=a39;have l:=
  I.lstUpd g f (a6g b n j u) (r.set C j) (by simp_all) s.toks
 by_cases h0:0<=k
 ·have c:k.toNat=j:=by
   rw[jg h0 w]at a;exact bv.inj a
  exact PySem.W.ki_setAt f h0 (by lia) (by simp_all) (c▸⟨_,l,q⟩)
 ·have c:(k+(b.toArray.size)).toNat=j:=by
   rw[jh (by lia) m]at a;rw[bG,<- e];exact bv.inj a
  exact PySem.W.ki_setBack f (by lia) (by simp_all) (by lia) (c▸⟨_,l,q⟩)
def a4e(lo hi:Option Int)(n:Nat):(gZ lo hi none n).1=((HT.sIx n 0 lo:Nat):Int)/\(gZ lo hi none n).2.1=((HT.sIx n n hi:Nat):Int)/\(gZ lo hi none n).2.2=1:=by
 refine⟨?_,?_,rfl⟩
 ·cases lo with
  |none=>simp[gZ,HT.sIx]
  |some i=>
   simp only[gZ,HT.sIx,dW]
   by_cases h:i<0
   ·grind
   ·grind
 ·cases hi with
  |none=>simp[gZ,HT.sIx]
  |some i=>
   simp only[gZ,HT.sIx,dW]
   by_cases h:i<0
   ·grind
   ·grind
def a3r(its:List Value)(lo hi:Option Int):slicePick its.toArray lo hi none=((its.drop (HT.sIx its.length 0 lo)).take (HT.sIx its.length its.length hi-HT.sIx its.length 0 lo)).toArray:=by
 obtain⟨a,c,b⟩:=a4e lo hi its.toArray.size;unfold slicePick;rw[a,c,b];simp only[sliceRange_one,pick_run]<;>rfl
def rSlL(K:Fg):V->Option Int->Option Int->Hp->VK->Prop:=λx lo hi H Q=>∃a xs,x=.ref a/\SqL K H a xs/\∀p,H p=none->Q (.ref p) (upd H p (.lst (cutV xs lo hi)))
def sl_list:SlR X (rSlL X.K):=by
 intro p s σ H x v u w d e y Q I m i n j h;obtain⟨a,c,rfl,k,q⟩:=h;cases m;obtain⟨t,r,g,l⟩:=I.list k;have f:=r.length;refine⟨"list",_,slot_list_getitem.lookup,g.isList.typeIs,?_⟩;refine wpAny_getItem_list_slice g.isList i n j .none (by simp) ?_ (by grind);rw[a3r,<- f];refine⟨.ref s.heap.objs.size,_,I.laid (λb z q=>Heap.get?_push_of_some _ q) (aV _) ?_,rfl,q _ (I.hok.fresh (aV _))⟩;exact⟨be (a2J c d e) l,_,0,(r.drop _).take _,Heap.get?_push_size _ rfl⟩
def CallR.or(h:CallR X f r)(h':CallR X f r'):CallR X f (λxs H Q=>r xs H Q\/r' xs H Q):=by
 intro a s σ H c d Q I b q;rcases q with q |q
 ·exact h a s σ H c d Q I b q
 ·exact h' a s σ H c d Q I b q
def a4f:CallR X (.type "list") (λxs H Q=>∃p ys,xs=[.ref p]/\(SqL X.K H p ys\/SqT X.K H p ys)/\∀l,H l=none->Q (.ref l) (upd H l (.lst ys))):=by
 intro z s σ H C D Q I r h;obtain⟨p,v,rfl,j,q⟩:=h;obtain⟨u,rfl,B⟩:=a20 r;cases B;have k:∀a,Vals v a->v.length<=fG->∀c f,_ ->
   c.get? s.heap.objs.size=some { cls:=.type "list",dict:=none,data:=.seq a.toArray f,slots:=#[] }->EP X z σ Q _ { s with heap:=c }:=λa d g c f i e=>
  ⟨.ref s.heap.objs.size,_,I.laid i (aV _) (show ObjOk X.prog X.w _ c _ (.lst v) from ⟨g,a,f,d,e⟩),rfl,q _ (I.hok.fresh (aV _))⟩
 rcases j with j |j
 ·obtain⟨a,d,y,g⟩:=I.list j;have t:=d.length;obtain⟨o,x,A,n,m⟩:=y.isList;exact call_list_seq p (.inl rfl) x A m (λc f i e=>k a d g c f i e) (by grind)
 ·obtain⟨a,d,y,g⟩:=I.tuple j;have t:=d.length;obtain⟨o,x,A,n,m⟩:=y;exact call_list_seq p (.inr rfl) x A m (λc f i e=>k a d g c f i e) (by grind)
def tyV(K:Fg)(T:String)(x:V)(H:Hp):Prop:=match x with
 |.str _=>T="str"
 |.int _=>T="int"
 |.ref p=>(T="list"/\∃xs,SqL K H p xs)\/(T="tuple"/\∃o,K.lookup p=some o/\o.cls=.type "tuple"/\o.dict=none) \/
   (T="dict"/\((∃kvs,H p=some (.dK kvs))\/(∃kvs,H p=some (.dT kvs))\/∃ob kvs,H p=some (.frz ob (.dK kvs))))\/(T="set"/\∃S n,H p=some (.set S n))
 |_=>False
def b29(I:Inv X pins σ H s)(r:RelV x v)(ty:tyV X.K T x H) :
  s.TypeIs v T/\∀a,v=.ref a->∃ob,s.heap.get? a=some ob/\ob.dict=none:=by
 cases x with
 |str z=>
  obtain⟨t,rfl⟩:=r;cases (ty);exact⟨gY s z t,λ_ e=>nomatch e⟩
 |int i=>
  obtain⟨t,rfl⟩:=r;cases (ty);exact⟨typeIs_int s i t,λ_ e=>nomatch e⟩
 |ref p=>
  cases r;rcases ty with ⟨rfl,xs,hq⟩ |⟨rfl,o,hk,hc,f⟩ |⟨rfl,hk⟩ |⟨rfl,S,n,hk⟩
  ·obtain⟨h,_,g,_⟩:=I.list hq;refine⟨g.isList.typeIs,λa e=>?_⟩;cases e;obtain⟨o,n,e,c,f,_⟩:=g;exact⟨o,e,f⟩
  ·refine⟨⟨o,I.kIn p o hk,hc⟩,λa e=>?_⟩;cases e;exact⟨o,I.kIn _ o hk,f⟩
  ·have z:∃o,s.heap.get? p=some o/\o.ExactDict:=by
    rcases hk with ⟨kvs,hk⟩ |⟨kvs,hk⟩ |⟨ob,kvs,hk⟩
    ·obtain⟨_,_,_,_,o,_,_,e,b,_⟩:=I.hok p _ hk;exact⟨o,e,b⟩
    ·obtain⟨_,_,_,_,o,_,_,e,b,_⟩:=I.hok p _ hk;exact⟨o,e,b⟩
    ·obtain⟨_,_,_,_,_,o,_,_,e,b,_⟩:=I.hok p _ hk;exact⟨o,e,b⟩
   obtain⟨o,e,b⟩:=z;refine⟨⟨o,e,b.1⟩,λa d=>?_⟩;cases d;exact⟨o,e,b.2.1⟩
  ·obtain⟨o,_,_,_,e,b,_⟩:=I.hok p _ hk;refine⟨⟨o,e,b.1⟩,λa d=>?_⟩;cases d;exact⟨o,e,b.2.1⟩
 |_=>exact bg ty
def tBM(K:Fg)(T:String)(r:V->List V->Hp->VK->Prop)(to:TE)(t:TA):TE:=fun σ H Q=>to σ H λx H1=>tyV K T x H1/\t σ H1 λxs H2=>r x xs H2 Q
variable{o e:Expr}{es:List Expr}{to:TE}{t:TA}{name:Str}{apos cpos:Pos}{T id:String}{r:V->List V->Hp->VK->Prop}
def b5L(pa:PlainAttrs T)(slot:Slot T name id)(hty:typeOf (.builtin id)=pure (.type "method_descriptor"))(hm:MtR X id r)(ho:PE X o to)(ha:PA X (e::es) t)
  (hbase:gE o name X.env (eval o X.env)=eval o X.env)
  (hfew:((backTo cpos (fL (e::es) X.env)).all (λx=>!x.1)&&(ir cpos (iu [] X.env)).all (λx=>x.1.isSome)
   && decide ((e::es).length+([]:List iw).length+(if ([]:List iw).isEmpty then 0 else 1)<30))=true)
  (hline:(apos.endLine==cpos.line)=true) (hs:fL (e::es) X.env=(false,eval e X.env)::fL es X.env) (hplain:(backTo cpos (fL es X.env)).any (·.1)=false) :
  PE X (.Call (.Attribute o name apos) (e::es) [] cpos) (tBM X.K T r to t):=by
 intro a s σ H Q I h;refine wpAny_Call_method_late hbase hfew hline rfl (thn (ho a s σ H _ I h) λv k ⟨x,w,b,c,u,j⟩=>?_);obtain⟨g,n⟩:=b29 b c u;refine⟨T,id,pa,slot,hty,g,n,?_⟩;have d:=ha cpos a k σ w _ b j;rw[hs]at d ⊢;exact Calls.callWith_builtin (by show (false||(backTo cpos _).any _)=false;rw[hplain]<;>rfl) (Calls.evalArgs_plain (thn d λi m ⟨q,l,y,f,p⟩=>hm a m σ l x q v i Q y c f p))
end
def MtM(X:Cx)(id:String)(r:V->List V->Hp->VK->Prop):Prop:=
 ∀(pins:List (Addr×Obj))(s:Shared)(σ:St)(H:Hp)(x:V)(xs:List V)(v:Value)(us:List Value)(Q:VK),Inv X pins σ H s->RelV x v->Vals xs us->r x xs H Q ->
  wpAny (model X.prog X.w) X.A (call (.builtin id) (v::us)) (EP X pins σ Q) X.xe s
def Vals.one:∀{x:V}{us:List Value},Vals [x] us->∃u,us=[u]/\RelV x u:=by
 intro x us h;cases h with
 |cons r h=>cases h;exact⟨_,rfl,r⟩
def Vals.two:∀{x y:V}{us:List Value},Vals [x,y] us->∃u v,us=[u,v]/\RelV x u/\RelV y v:=by
 intro x y a h;cases h with
 |cons r h=>cases h with
  |cons q h=>cases h;exact⟨_,_,rfl,r,q⟩
def Vals.zero:∀{us:List Value},Vals [] us->us=[]:=by
 intro us h;cases h;rfl
def Vals.dropLast(h:Vals xs us):Vals xs.dropLast us.dropLast:=by
 induction h with
 |nil=>exact .nil
 |cons r t ih=>
  cases t with
  |nil=>exact .nil
  |cons q t'=>exact .cons r ih
theorem Vals.eraseIdx:∀{xs:List V}{us:List Value}(i:Nat),Vals xs us->Vals (xs.eraseIdx i) (us.eraseIdx i)
 |_,_,_,.nil=>.nil
 |_,_,0,.cons _ t=>t
 |_,_,i+1,.cons r t=>.cons r (Vals.eraseIdx i t)
def Vals.reverse(h:Vals xs us):Vals xs.reverse us.reverse:=by
 induction h with
 |nil=>exact .nil
 |cons r t ih=>rw[du,du];exact Vals.append ih (.cons r .nil)
section
variable{X:Cx}{pins:List (Addr×Obj)}{σ:St}{H:Hp}{s:Shared}{l b:Addr}{xs ys zs:List V}
def Inv.lset{its its':List Value}(I:Inv X pins σ H s)(hH:H l=some (.lst xs))
  (e:s.heap.get? l=some { cls:=.type "list",data:=.seq its.toArray n }) (hf:f its.toArray=its'.toArray) (hv:Vals ys its') (hz:ys.length<=fG) :
  Inv X pins σ (upd H l (.lst ys)) { s with heap:=s.heap.update l (Obj.mapSeq f),toks:=t' }:=by
 have q:=PySem.IsL.update e f;rw[hf]at q;refine I.write (hH▸trivial) (.inl rfl) (λc u a b=>(Heap.get?_update_other s.heap _ (Ne.symm a)).trans b) ⟨_,q⟩ ?_;exact⟨hz,its',_,hv,q⟩
def Inv.lnew(I:Inv X pins σ H s)(hv:Vals ys its)(hz:ys.length<=fG) :
  Inv X pins σ (upd H s.heap.objs.size (.lst ys)) { s with heap:=s.heap.push { cls:=.type "list",data:=.seq its.toArray },toks:=t' }:=
 I.laid (λ_ _ q=>Heap.get?_push_of_some _ q) (aV _) ⟨hz,its,0,hv,Heap.get?_push_size _ rfl⟩
def Inv.fresh(I:Inv X pins σ H s):H s.heap.objs.size=none:=I.hok.fresh (aV _)
def Inv.lstM(I:Inv X pins σ H s)(hH:H l=some (.lst xs)):xs.length<=fG/\∃(its:List Value)(n:Nat),Vals xs its/\xs.length=its.length/\s.heap.get? l=some { cls:=.type "list",data:=.seq its.toArray n }:=by
 obtain⟨z,a,n,r,e⟩:=I.hok l _ hH;exact⟨z,a,n,r,r.length,e⟩
def a80(h:n<=fG):fO.List.listTooLong n=false:=decide_eq_false (by omega)
end
section
variable{X:Cx}
def b05:V->List V->Hp->VK->Prop:=λx vs H Q=>∃l xs y,x=.ref l/\vs=[y]/\H l=some (.lst xs)/\xs.length<fG/\Q .non (upd H l (.lst (xs++[y])))
def a4g:MtM X "list.append" b05:=by
 intro c s σ H x k v o Q I f d h;obtain⟨l,j,y,rfl,rfl,b,i,q⟩:=h;cases f;obtain⟨u,rfl,g⟩:=d.one;obtain⟨z,a,n,r,m,e⟩:=I.lstM b;refine call_meets F.slot_list_append ⟨_,e,rfl⟩ F.entry_list_append (F.args_list_append_2 _ _) (PySem.list_append l a.toArray n u (by grind)) ⟨e,?_⟩;refine⟨.non,_,I.lset b e (by simp) (r.append (.cons g .nil)) ?_,rfl,q⟩;rw[bn,List.length_singleton]
 lia
def b06:V->List V->Hp->VK->Prop:=λx vs H Q=>∃l b xs zs,x=.ref l/\vs=[.ref b]/\H l=some (.lst xs)/\H b=some (.lst zs)/\xs.length+zs.length<=fG/\Q .non (upd H l (.lst (xs++zs)))
def a67:MtM X "list.extend" b06:=by
 intro k s σ H x A v C Q I i j h;obtain⟨l,b,B,E,rfl,rfl,f,t,G,q⟩:=h;cases i;obtain⟨u,rfl,p⟩:=j.one;cases p;obtain⟨z,c,n,r,D,e⟩:=I.lstM f;obtain⟨J,a,w,m,y,o⟩:=I.lstM t;have g:c.toArray.size+a.toArray.size<=sizeLine:=by grind
 have d:¬ (!c.toArray.isEmpty&&fO.List.listTooLong (c.toArray.size+a.toArray.size))=true:=by
  rw[a80 g,dv];exact bL
 refine call_meets F.slot_list_extend ⟨_,e,rfl⟩ F.entry_list_extend (F.args_list_extend_2 _ _)
  (AutoSeq1.list_extend_list_list_0 l c.toArray n b a.toArray w d (by grind) (by lia)) ⟨e,o,?_⟩
 refine⟨.non,_,I.lset f e (by simp) (r.append m) ?_,rfl,q⟩;rw[bn]
 lia
def rCat:R2:=λx y H Q=>∃l b xs zs,x=.ref l/\y=.ref b/\H l=some (.lst xs)/\H b=some (.lst zs)/\xs.length+zs.length<=fG/\∀p,H p=none->Q (.ref p) (upd H p (.lst (xs++zs)))
def b3a:OpR X (fV .Add) rCat:=by
 intro i s σ H x y v u Q I f k h;obtain⟨l,b,C,w,rfl,rfl,m,d,A,q⟩:=h;cases f;cases k;obtain⟨z,c,n,r,t,e⟩:=I.lstM m;obtain⟨B,a,D,o,p,g⟩:=I.lstM d;refine PySem.P.add_list e g ?_ (by grind);have j:c.toArray++a.toArray=(c++a).toArray:=by simp
 rw[j];exact⟨.ref _,_,I.lnew (r.append o) (by grind),rfl,q _ I.fresh⟩
end
section
variable{prog:fK}{w:World}{A:Around}{E:Value->Shared->Prop}{s:Shared}
end
section
variable{X:Cx}
end
end L2
namespace Att
open PySem PySem.W PySem.Calls PyProof.Rows
def a2K:∀(ns:List Int)(vs:List Value),WellAll P h vs (ns.map WData.int)->f6 vs ns:=by
 intro c
 induction c with
 |nil=>
  intro d w;cases w;exact .nil
 |cons n c ih=>
  intro d w;cases w with
  |cons a b=>
   cases a;exact .cons _ _ (ih _ b)
def a68{l:OpenLaw}(hn:l.most=some n)
  (hpre:l.row.toRowW.claim.pre args=true) (hwl:WellAll P h vals args) :
  ∃a vs ns,vals=[Value.ref a]/\args=[WData.list (ns.map WData.int)]/\h.get? a=some { cls:=.type "list",data:=.seq vs.toArray }/\f6 vs ns/\ns.length<=n:=by
 have i:=(pre_splitW hpre).1;have g:l.pre.holds [] { args:=args }=true:=(pre_splitW hpre).2;obtain⟨d,r,rfl,j,m⟩:=hasAllW_cons i;obtain rfl:=hasAllW_nil m;obtain⟨p,rfl,o⟩:=hasW_list j;obtain⟨b,rfl⟩:=items_int o;have f:b.length<=n:=by
  have c:(WTm.not (.lt (.lit (.int n)) (.len (.arg 0)))).holds [] { args:=[.list (b.map .int)] }=true:=by
   have c:=(holds_andW g).1;rw[hn]at c;exact c
  have e:=condW_of c (w_not (w_lt w_lit (w_len_list (w_arg rfl))))
  first
   | (rw[decide_eq_true k]at e;exact absurd e (by simp))
   | (simp at e;omega)
 cases hwl with
 |cons w1 w2=>
  cases w2;cases w1 with
  |list ho hall=>exact⟨_,_,b,rfl,rfl,ho,a2K b _ hall,f⟩
def a69(l:OpenLaw)(args:List WData):l.row.toRowW.claim.post args (.bool true) args=true:=
 postW_of
  (show WShape.has [] _ .bool=true by first |rfl |decide |simp)
  (w_eq_bool (w_res rfl) w_lit) rfl
def attach_call{l:OpenLaw}
  (hn:l.most=some n) (hdf:d.params.defaults=[])
  (call:∀(w:World)(s₀ sj:Shared)(mg mb:Str->Option Value)(fa:Addr)(o:Obj)(pm cd doc:Value)(a:Addr)(vs:List Value)(ns:List Int),
   Ground q loose [] XP w s₀ mg mb sj.heap->YP w sj.heap ->
   sj.heap.get? fa=some o->o.data=.func (docDef d.name d.params d.body d.scope pm cd doc)->sj.heap.CodeRec cd d.name->mg d.name=some (.ref fa) ->
   sj.heap.get? a=some { cls:=.type "list",data:=.seq vs.toArray }->f6 vs ns->ns.length<=n->sj.gens=#[] ->
   gq (model l.prog w) g0 (.call (.ref fa) ⟨[.ref a],[]⟩) (λr s'=>r=.ok (.ret (.bool true))/\OldK sj.heap s'.heap/\s'.os=sj.os/\gu s'.gens) sj) :
  WalkO q loose XP YP l.row.toRowW d [] (λf vs=>PySem.call f vs):=by
 intro w C s D y G Y x o F v i Q H L B k h j N u J U c A S m T;obtain rfl:Q=.none:=Dflts.none h hdf;obtain rfl:H=.none:=Dflts.noKw h;obtain⟨a,I,E,rfl,rfl,g,b,e⟩:=a68 hn c m;refine enter_call (ip (call w C s D y x o F v i a I E G Y L (fd_plain B) k j g b e N) λr V R=>?_);obtain⟨rfl,t,z,M⟩:=R;exact⟨.inl ⟨.bool true,.bool true,[],rfl,λ_=>rfl,.bool true,a69 l _,λ_=>⟨cH.nil,λ_ p=>(nomatch p)⟩⟩,t,z,M⟩
section
variable{prog:fK}{w:World}{A:Around}{E:Value->Shared->Prop}{s:Shared}{K:Frag}
end
end Att
namespace L2
open PySem PySem.Spec PyProof.Rows
def a7a:∀{vs:List Value}{ns:List Int},f6 vs ns->Vals (ns.map V.int) vs:=by intro z0 y0 x0;induction x0 with
 |nil=>exact .nil
 |cons n t h I0=>exact .cons ⟨t,rfl⟩ (I0)
def Only(H:Hp):Prop:=∀b,H b=none\/∃o xs,H b=some (.frz o (.lst xs))
noncomputable def a3s(s:Stmt)(j:Nat):Stmt:=match s with
 |.ClassDef _ _ _ body _ _ _ _ _ _ _=>body.getD j (.Pass ⟨0,0,0,0⟩)
 |_=>.Pass ⟨0,0,0,0⟩
noncomputable def a1A(s:Stmt):Arguments:=match s with
 |.FunctionDef _ a _ _ _ _ _ _ _ _=>a
 |_=>{ posonlyargs:=[],args:=[],vararg:=none,kwonlyargs:=[],kw_defaults:=[],kwarg:=none,defaults:=[] }
noncomputable def a0P(s:Stmt):List Stmt:=match s with
 |.FunctionDef _ _ b _ _ _ _ _ _ _=>b
 |_=>[]
noncomputable def a0l(s:Stmt):Scope:=match s with
 |.FunctionDef _ _ _ _ _ _ sc _ _ _=>sc
 |_=>{ kind:=.function,names:=[],isGenerator:=false,isCoroutine:=false }
abbrev CX0:CXT:=λ_ _ _ _ _ _=>False
abbrev E0:XK:=λ_ _ _=>False
def b07:a3a CX0 X E0:=λ_ _ _ _ _ _ _ h=>h.elim
structure Fun (K:Fg) (x qual:Str) (st:Stmt) (f:Addr) (fd:fY):Prop where
 ex:∃(oc:Value)(od:Option Addr)(kV doc pm:Value)(an:Option Addr)(cdv ct:Value)(osl:Array (Option Value)),
  fd=PySem.W.fnOf x qual (a1A st) (a0P st) (a0l st) .none kV doc pm an cdv ct/\K.lookup f=some ⟨oc,od,.func fd,osl⟩/\PySem.W.codeIn K cdv qual=true
 kp:PySem.W.keepIn K (.ref f)=true
section
variable{P:fK}{w:World}{K:Fg}{mg:Str->Option Value}{base:Heap}
def Fun.ok{st:Stmt}(F:Fun K x qual st f fd)(S:FnScope N ps (a0l st))(len:∀vs H Q E,sp vs H Q E->vs.length=ps.length)
  (hbody:∀(cdv:Value)(A:Around)(outer:List Env)(s:Shared)(H:Hp)(vs:List V)(Q:VK)(E:XK),Room k (A.deeper (envOfC qual (a0l st) s.heap.objs.size f cdv))->sp vs H Q E ->
   ∃t,PSs (cxOf CX0 P w K mg base N qual (a0l st) f cdv A outer s H E).nox (a0P st) t/\t { nx:=λ_ H'=>Q .non H',rt:=Q } (start N vs) H):FnOk P w K mg base CX0 (k+1) f fd ps sp:=by
 obtain⟨n,u,r,l,m,o,c,p,j,rfl,i,d⟩:=F.ex;refine b26 i d S len λA a s H g Q E e b=>?_;obtain⟨t,h,q⟩:=hbody c A a s H g Q E e b;exact⟨t,h.nox,q⟩
def Fun.binds{st:Stmt}(F:Fun K x qual st f fd)
  (h:∀(kV doc pm:Value)(an:Option Addr)(cdv ct:Value)(us:List Value),us.length=ps.length->hZ (PySem.W.fnOf x qual (a1A st) (a0P st) (a0l st) .none kV doc pm an cdv ct) ⟨us,[]⟩=pure (ps.zip us)):Binds K fd ps []:=by
 obtain⟨k,l,g,a,e,d,b,c,i,rfl,m,j⟩:=F.ex;exact .all (h g a e d b c)
def b0e{st:Stmt}{kV doc pm cdv ct:Value}(l:K.lookup f=some ⟨oc,od,.func (PySem.W.fnOf x qual (a1A st) (a0P st) (a0l st) .none kV doc pm an cdv ct),osl⟩)
  (c:PySem.W.codeIn K cdv qual=true) (k:PySem.W.keepIn K (.ref f)=true):Fun K x qual st f (PySem.W.fnOf x qual (a1A st) (a0P st) (a0l st) .none kV doc pm an cdv ct):=⟨⟨oc,od,kV,doc,pm,an,cdv,ct,osl,rfl,l,c⟩,k⟩
end
def a0h(h:n<=1000):n<sizeLine:=dw h (by decide)
section
variable{X:Cx}
def pv(i:Nat)(hN:X.N[i]?=some x:=by rfl)(hv:Vis X.env.scope x:=by first |exact cq rfl |exact bY (cq rfl) |exact bY (bY rfl))(hd:(x==("__debug__":Str))=false:=by decide)
  (hcd:(x==("__classdict__":Str))=false:=by decide):PE X (.Name x pos) (tVar i):=a6I hN hv hd hcd
end
def Same(H H':Hp):Prop:=∀b o,H b=some o->H' b=some o
def Same.refl(H:Hp):Same H H:=λ_ _ h=>h
def Same.trans(a:Same H H1)(b:Same H1 H2):Same H H2:=λc o h=>b c o (a c o h)
def Same.free(e:Same H H')(h:H' l=Option.none):H l=Option.none:=by
 cases q:H l with
 |none=>rfl
 |some o=>
  rw[e l o q]at h;cases h
def Same.seq{K:Fg}(e:Same H H')(h:SqL K H a xs):SqL K H' a xs:=by
 rcases h with (h |⟨o,h⟩) |h
 ·exact .inl (.inl (e _ _ h))
 ·exact .inl (.inr ⟨o,e _ _ h⟩)
 ·exact .inr h
section
variable{κ:Type}[DecidableEq κ]
noncomputable def valV(kvs:List (κ×V))(k:κ):Option V:=(kvs.find? λkv=>decide (kv.1=k)).map (·.2)
noncomputable def putK(kvs:List (κ×V))(k:κ)(v:V):List (κ×V):=
 if (kvs.any λkv=>decide (kv.1=k))=true then kvs.map (λkv=>if kv.1=k then (kv.1,v) else kv) else kvs++[(k,v)]
noncomputable def a3t(kvs:List (κ×V))(k:κ):List (κ×V):=kvs.filter λkv=>decide (kv.1≠k)
def a3u{k:κ}(e:p.1=k):valV (p::r) k=some p.2:=by simp[valV,bO,e]
def a3v{k:κ}(e:¬ p.1=k):valV (p::r) k=valV r k:=by simp[valV,bO,e]
def a81(k:κ):∀kvs:List (κ×V),(kvs.any λkv=>decide (kv.1=k))=(valV kvs k).isSome:=by intro z0;induction z0 with
 |nil=>exact rfl
 |cons p r I0=>
  rw[cI]
  by_cases e:p.1=k
  ·simp only[a3u e,decide_eq_true e,Bool.true_or,Option.isSome_some]
  ·rw[a3v e,decide_eq_false e,Bool.false_or];exact I0
def a06(kvs:List (κ×V))(k:κ)(v:V):(putK kvs k v).length<=kvs.length+1:=by grind [putK]
def RelO.isSome_eq(r:RelO o u):o.isSome=u.isSome:=by
 cases o with
 |none=>cases u with
  |none=>rfl
  |some _=>exact (r).elim
 |some _=>cases u with
  |none=>exact (r).elim
  |some _=>rfl
def RelO.getD(r:RelO o u)(rd:RelV d d'):RelV (o.getD d) (u.getD d'):=by
 cases o with
 |none=>cases u with
  |none=>exact rd
  |some _=>exact (r).elim
 |some _=>cases u with
  |none=>exact (r).elim
  |some _=>exact r
noncomputable def KV.val(r:KV kvs vs)(k:κ):RelO (valV kvs k) (gi vs k):=by
 induction r with
 |nil=>exact True.intro
 | @cons p q ps qs h t ih=>
  obtain⟨c,d⟩:=h
  by_cases e:p.1=k
  ·have a:=c.symm.trans e;have b:gi (q::qs) k=some q.2:=by simp[gi,a]
   rw[a3u e,b];exact d
  ·have a:¬ q.1=k:=λz=>e (c.trans z);have b:gi (q::qs) k=gi qs k:=by simp[gi,a]
   rw[a3v e,b];exact ih
noncomputable def KV.any(r:KV kvs vs)(k:κ):(kvs.any λkv=>decide (kv.1=k))=vs.any λkv=>decide (kv.1=k):=by
 induction r with
 |nil=>rfl
 |cons h t ih=>rw[cI,cI,ih,h.1]
def KV.repl(r:KV kvs vs)(k:κ)(ry:RelV y u) :
  KV (kvs.map λkv=>if kv.1=k then (kv.1,y) else kv) (vs.map λkv=>if kv.1=k then (kv.1,u) else kv):=by
 induction r with
 |nil=>exact .nil
 | @cons p q ps qs h t ih=>
  rw[aY,aY];refine .cons ?_ ih;obtain⟨a,b⟩:=h
  by_cases e:p.1=k
  ·rw[if_pos e,if_pos (a.symm.trans e)];exact⟨a,ry⟩
  ·rw[if_neg e,if_neg (λz=>e (a.trans z))];exact⟨a,b⟩
noncomputable def KV.put(r:KV kvs vs)(k:κ)(ry:RelV y u):KV (putK kvs k y) (stored vs k u):=by
 unfold putK stored;rw[r.any k]
 by_cases e:(vs.any λkv=>decide (kv.1=k))=true
 ·rw[if_pos e,if_pos e];exact r.repl k ry
 ·rw[if_neg e,if_neg e];exact Paired.snoc r ⟨rfl,ry⟩
def KV.drop(r:KV kvs vs)(k:κ):KV (a3t kvs k) (without vs k):=by
 unfold a3t without
 induction r with
 |nil=>exact .nil
 | @cons p q ps qs h t ih=>
  obtain⟨c,d⟩:=h;rw[cc,cc]
  by_cases e:p.1=k
  ·simp_all
  ·have f:¬ q.1=k:=λz=>e (c.trans z);have a:decide (p.1≠k)=true:=by simp[e]
   have b:decide (q.1≠k)=true:=by simp[f]
   rw[if_pos a,if_pos b];exact .cons ⟨c,d⟩ ih
theorem KV.keys{kvs:List (κ×V)}(r:KV kvs vs):kvs.map (·.1)=vs.map (·.1):=by
 induction r with
 |nil=>rfl
 |cons h t ih=>rw[aY,aY,ih,h.1]
def KV.length(r:KV kvs vs):kvs.length=vs.length:=Paired.length r
def a82(kvs:List (κ×V))(k:κ):(a3t kvs k).length<=kvs.length:=cf _ _
end
def a21(r:RelV (kV k) u):(a0i P w).is k u=true:=by
 match k,r with
 |.inl (some i),r=>obtain⟨t,e⟩:=(r);subst e;exact a4R P w i t
 |.inl none,r=>rw[r];rfl
 |.inr x,r=>obtain⟨t,e⟩:=(r);subst e;exact a4S P w x t
def a7b:∀{ks:List Key}{us:List Value},Vals (ks.map kV) us->ItemsAre (a0i P w) ks us:=by intro z0;induction z0 with
 |nil=>intro _ r;rw[bB]at r;cases r;exact .nil
 |cons k ks I0=>
  intro _ r;cases r with
  |cons h t=>exact .cons (a21 h) (I0 t)
abbrev KT(H:Hp):List (List Key×V)->List (List Key×Addr×Value)->Prop:=Paired λp q=>p.1=q.1/\H q.2.1=some (.tup (p.1.map kV))/\RelV p.2 q.2.2
noncomputable def KT.val(r:KT H kvs xs)(k:List Key):RelO (valV kvs k) ((atKey xs k).map (·.2)):=by
 induction r with
 |nil=>exact True.intro
 | @cons p q ps qs h t ih=>
  obtain⟨c,_,d⟩:=h
  by_cases e:p.1=k
  ·have a:=c.symm.trans e;have b:atKey (q::qs) k=some q.2:=by simp[atKey,a]
   rw[a3u e,b];exact d
  ·have a:¬ q.1=k:=λz=>e (c.trans z);have b:atKey (q::qs) k=atKey qs k:=by simp[atKey,a]
   rw[a3v e,b];exact ih
def KT.repl(r:KT H kvs xs)(k:List Key)(ry:RelV y u) :
  KT H (kvs.map λkv=>if kv.1=k then (kv.1,y) else kv) (xs.map (putAt k u)):=by
 induction r with
 |nil=>exact .nil
 | @cons p q ps qs h t ih=>
  rw[aY,aY];refine .cons ?_ ih;obtain⟨a,b,c⟩:=h;unfold putAt
  by_cases e:p.1=k
  ·rw[if_pos e,if_pos (a.symm.trans e)];exact⟨a,b,ry⟩
  ·rw[if_neg e,if_neg (λz=>e (a.trans z))];exact⟨a,b,c⟩
noncomputable def KT.put(r:KT H kvs xs)(k:List Key)(hb:H b=some (.tup (k.map kV)))(ry:RelV y u) :
  KT H (putK kvs k y) (storedH xs k b u):=by
 have e:(kvs.any λa=>decide (a.1=k))=(atKey xs k).isSome:=by
  rw[a81,(r.val k).isSome_eq,dX]
 unfold putK storedH;rw[e]
 by_cases q:(atKey xs k).isSome=true
 ·rw[if_pos q,if_pos q];exact r.repl k ry
 ·rw[if_neg q,if_neg q];exact Paired.snoc r ⟨rfl,hb,ry⟩
def KT.keeps(r:KT H kvs xs)(ht:∀b ys,H b=some (.tup ys)->H' b=some (.tup ys)):KT H' kvs xs:=
 Paired.mapP r λ_ _ z=>⟨z.1,ht _ _ z.2.1,z.2.2⟩
section
variable{P:fK}{w:World}{H:Hp}{h:Heap}{a:Addr}
def b3b(ok:HOk P w H h)(e:Rd H a u):ObjOk P w H h a u:=e.ok ok
def a2L(ok:HOk P w H h)(e:Rd H a (.dK kvs)):kvs.length<=fG/\(a==fX)=false/\∃vs,KV kvs vs/\h.DictOf (a0i P w) a vs:=
 b3b ok e
def a6h(ok:HOk P w H h)(e:H a=some (.dK kvs)):kvs.length<=fG/\(a==fX)=false/\∃vs,KV kvs vs/\h.DictOf (a0i P w) a vs:=a2L ok (.inl e)
def a3c(ok:HOk P w H h)(e:H a=some (.tup (ks.map kV))):(ii (a0i P w)).is h ks a:=by
 obtain⟨_,b,r,o,d,c,n,f⟩:=(ok a _ e);exact⟨o,b.toArray,n,d,c,f,by simpa using a7b r⟩
def a7c(ok:HOk P w H h)(e:Rd H a (.dT kvs)):kvs.length<=fG/\(a==fX)=false /\
  ∃xs,KT H kvs xs/\h.DictOfH (ii (a0i P w)) a xs:=by
 obtain⟨z,y,g,r,o,d,s,j,k,f,n,i⟩:=(b3b ok e);refine⟨z,y,g,r,o,d,s,j,k,f,n,λx b=>?_,i⟩;have c:∀{l:List _}{m:List _},KT H l m->∀x∈m,(ii (a0i P w)).is h x.1 x.2.1:=by
  intro l m q
  induction q with
  |nil=>intro x b;exact nomatch b
  | @cons p q ps qs hq t ih=>
   intro x b;rcases bf.mp b with e |b
   ·subst e;exact a3c ok (by simp_all)
   ·exact ih x b
 exact c r x b
def b5M(ok:HOk P w H h)(e:H a=some (.dT kvs)):kvs.length<=fG/\(a==fX)=false /\
  ∃xs,KT H kvs xs/\h.DictOfH (ii (a0i P w)) a xs:=a7c ok (.inl e)
end
def DGet(H:Hp)(a:Addr)(y:V)(r:Option V):Prop:=
 (∃kvs k,Rd H a (.dK kvs)/\y=kV k/\r=valV kvs k)\/∃kvs k b,Rd H a (.dT kvs)/\y=.ref b/\H b=some (.tup (k.map kV))/\r=valV kvs k
def DPut(H:Hp)(a:Addr)(y v:V)(H':Hp):Prop:=
 (∃kvs k,H a=some (.dK kvs)/\y=kV k/\kvs.length<fG/\H'=upd H a (.dK (putK kvs k v))) \/
 ∃kvs k b,H a=some (.dT kvs)/\y=.ref b/\H b=some (.tup (k.map kV))/\kvs.length<fG/\H'=upd H a (.dT (putK kvs k v))
def DGet.k{k:Key}(e:H a=some (.dK kvs)):DGet H a (kV k) (valV kvs k):=.inl ⟨kvs,k,.inl e,rfl,rfl⟩
def DGet.t{k:List Key}(e:H a=some (.dT kvs))(eb:H b=some (.tup (k.map kV))):DGet H a (.ref b) (valV kvs k):=.inr ⟨kvs,k,b,.inl e,rfl,eb,rfl⟩
def DPut.k{k:Key}(e:H a=some (.dK kvs))(hl:kvs.length<fG):DPut H a (kV k) v (upd H a (.dK (putK kvs k v))):=.inl ⟨kvs,k,e,rfl,hl,rfl⟩
def DPut.t{k:List Key}(e:H a=some (.dT kvs))(eb:H b=some (.tup (k.map kV)))(hl:kvs.length<fG) :
  DPut H a (.ref b) v (upd H a (.dT (putK kvs k v))):=.inr ⟨kvs,k,b,e,rfl,eb,hl,rfl⟩
section
variable{X:Cx}{pins:List (Addr×Obj)}{σ:St}{H:Hp}{s:Shared}{a:Addr}{y v:V}{u r:Value}{o:Option V}{A:Around}{E:Value->Shared->Prop}
def Inv.big(I:Inv X pins σ H s):fX<s.heap.objs.size:=by
 have h:=(I.mod.glob.keeps I.bk).lt;exact Nat.lt_trans (by decide) h
def d_in(hu:A.units+1<cLine)(I:Inv X pins σ H s)(g:DGet H a y o)(ry:RelV y u)(h:∀s',Inv X pins σ H s'->Q (.bool o.isSome) s') :
  wpAny (model X.prog X.w) A (fM .In u (.ref a)) Q E s:=by
 rcases g with ⟨kvs,k,e,ey,l⟩ |⟨kvs,k,b,e,ey,eb,l⟩
 ·subst ey;obtain⟨z,d,j,c,f⟩:=a2L I.hok e;refine wpAny_in_of (a21 ry) d f.mapOf ?_;rw[<- (c.val k).isSome_eq,<- l];exact h _ (I.tok _)
 ·subst ey;cases (ry);obtain⟨z,d,i,c,f⟩:=a7c I.hok e;refine wpAny_in_heap (iA hu) (a3c I.hok eb) d f ?_;have q:=(c.val k).isSome_eq;rw[dX]at q;rw[<- q,<- l];exact h _ (I.tok _)
def b08(hu:A.units+1<cLine)(I:Inv X pins σ H s)(g:DGet H a y o)(ry:RelV y u)(h:∀s',Inv X pins σ H s'->Q (.bool (!o.isSome)) s') :
  wpAny (model X.prog X.w) A (fM .NotIn u (.ref a)) Q E s:=by
 rcases g with ⟨kvs,k,e,ey,l⟩ |⟨kvs,k,b,e,ey,eb,l⟩
 ·subst ey;obtain⟨z,f,i,c,d⟩:=a2L I.hok e;refine wpAny_notIn_of (a21 ry) f d.mapOf ?_;rw[<- (c.val k).isSome_eq,<- l];exact h _ (I.tok _)
 ·subst ey;cases (ry);obtain⟨z,f,j,c,d⟩:=a7c I.hok e;refine wpAny_notIn_heap (iA hu) (a3c I.hok eb) f d ?_;have q:=(c.val k).isSome_eq;rw[dX]at q;rw[<- q,<- l];exact h _ (I.tok _)
def a2M(I:Inv X pins σ H s)(mu:Mut (H a))(hs:Heap.SameBut a s.heap h')(he:∃q,h'.get? a=some q)(new:ObjOk X.prog X.w (upd H a ob) h' a ob) :
  Inv X pins σ (upd H a ob) { s with heap:=h',toks:=t' }:=
 I.write mu (.inl rfl) (λb q c z=>(hs.2 b c).trans z) he new
def a4h(z:kvs.length<=fG)(hd:(a==fX)=false)(rel:KV kvs vs)(dd:h'.DictOf (a0i P w) a vs) :
  ObjOk P w H' h' a (.dK kvs):=⟨z,hd,vs,rel,dd⟩
def a7d(hu:A.units+1<cLine)(I:Inv X pins σ H s)(g:DPut H a y v H')(ry:RelV y u)(rv:RelV v r)(h:∀s',Inv X pins σ H' s'->Q () s') :
  wpAny (model X.prog X.w) A (iM (.ref a) u r) Q E s:=by
 rcases g with ⟨kvs,k,e,ey,l,eH⟩ |⟨kvs,k,b,e,ey,eb,l,eH⟩
 ·subst ey eH;obtain⟨z,m,F,d,p⟩:=a6h I.hok e;have o:F.length<=sizeLine:=d.length▸z;have n:(putK kvs k v).length<=sizeLine:=by have:=a06 kvs k v;lia
  refine wpAny_setItem_pairs (a21 ry) p λx f j=>h _ ?_;have L:∃q,x.get? a=some q:=by obtain⟨q,_,_,i,_⟩:=f;exact⟨q,i⟩
  exact a2M I (e▸True.intro) j L (a4h n m (d.put k rv) f)
 ·subst ey eH;cases (ry);obtain⟨z,m,D,d,p⟩:=b5M I.hok e;have o:D.length<=sizeLine:=(Paired.length d)▸z;have n:(putK kvs k v).length<=sizeLine:=by have:=a06 kvs k v;lia
  refine wpAny_setItem_heap (hsz:=o) (iA hu) (a3c I.hok eb) p λx f j=>h _ ?_;obtain⟨q,C,M,i,J,N,B,_,G⟩:=f;refine a2M I (e▸True.intro) j ⟨q,i⟩ ⟨n,m,_,(d.put k eb rv).keeps λc R t=>?_,q,C,M,i,J,N,B,G⟩;rw[a0e (b5o t e (λz=>nomatch z))];exact t
end
section
variable{X:Cx}{pins:List (Addr×Obj)}{σ:St}{H:Hp}{s:Shared}{a:Addr}{kvs:List (Key×V)}{k:Key}{u:Value}{A:Around}{E:Value->Shared->Prop}
def b5N(I:Inv X pins σ H s)(e:H a=some (.dK kvs))(ry:RelV (kV k) u)(l:valV kvs k=some v)(hm:more=[]\/∃x,more=[x])
  (h:∀w' s',Inv X pins σ (upd H a (.dK (a3t kvs k))) s'->RelV v w'->Q w' s'):wpAny (model X.prog X.w) A (call (.builtin "dict.pop") (.ref a::u::more)) Q E s:=by
 obtain⟨z,B,f,b,d⟩:=a6h I.hok e;obtain⟨j,m,g⟩:=RelO.some_of (by rw[<- l];exact b.val k);have r:(keyPart u).isSome=true:=by
  match k,ry with
  |.inl (some i),ry=>obtain⟨t,q⟩:=(ry);subst q;rfl
  |.inl none,ry=>rw[ry];rfl
  |.inr x,ry=>obtain⟨t,q⟩:=(ry);subst q;rfl
 have C:argsOk "dict.pop" ⟨.ref a::u::more,[]⟩:=by
  rcases hm with q |⟨x,q⟩
  ·subst q;exact PySem.F.args_dict_pop_2 _ _
  ·subst q;exact PySem.F.args_dict_pop_3 _ _ _
 refine ib PySem.F.slot_dict_pop d.typeIs PySem.F.entry_dict_pop C (meets_dict_pop_there _ a (a21 ry) more hm r)
  ⟨f,j,d,by rw[<- b.length];exact z,m,λn c y=>h j _ ?_ g⟩
 have p:∃q,n.get? a=some q:=let ⟨q,_,_,hq,_⟩:=c;⟨q,hq⟩
 exact a2M I (by rw[e];exact True.intro) y p (a4h (be (a82 kvs k) z) B (b.drop k) c)
end
section
variable{X:Cx}{o i e value:Expr}{pos pos' tpos:Pos}{td ty tv:TE}
end
def a3w(h:Heap)(hb:fX<h.objs.size):ObjOk P w H (h.push { cls:=.type "dict",data:=.dict #[] }) h.objs.size (.dK []):=
 ⟨bE _,beq_eq_false_iff_ne.mpr (Ne.symm (bj hb)),[],.nil,Heap.DictOf.new h⟩
def b3c:TE:=λ_ H Q=>∀p,H p=none->Q (.ref p) (upd H p (.dK []))
section
variable{X:Cx}{pos:Pos}
def a83:PE X (.Dict [] [] pos) b3c:=λb s σ H Q I h=>
 wpAny_Dict_empty ⟨.ref s.heap.objs.size,_,I.laid (λ_ _ q=>Heap.get?_push_of_some _ q) (aV _) (a3w s.heap I.big),rfl,h _ (I.hok.fresh (aV _))⟩
end
def a5m:List (TE×TE)->St->Hp->(List (V×V)->Hp->Prop)->Prop
 |[],_,H,Q=>Q [] H
 | (tk,tv)::r,σ,H,Q=>tk σ H λx H1=>tv σ H1 λy H2=>a5m r σ H2 λps H3=>Q ((x,y)::ps) H3
abbrev VV:List (V×V)->List (Value×Value)->Prop:=Paired λp q=>RelV p.1 q.1/\RelV p.2 q.2
def PPs(X:Cx)(pos:Pos)(keys:List (Option Expr))(values:List Expr)(trs:List (TE×TE)):Prop:=
 ∀(pins:List (Addr×Obj))(s:Shared)(σ:St)(H:Hp)(Q:List (V×V)->Hp->Prop),Inv X pins σ H s->a5m trs σ H Q ->
  wpAny (model X.prog X.w) X.A (evalPairs (pairTrees keys values X.env pos)) (λvs s'=>∃ps H',Inv X pins σ H' s'/\VV ps vs/\Q ps H') X.xe s
def b09:PPs X pos [] [] []:=λa s σ H Q I h=>pairTrees_nil_walk ⟨[],H,I,.nil,h⟩
def a84(hk:PE X k tk)(hv:PE X v tv)(hr:PPs X pos ks vs trs) :
  PPs X pos (some k::ks) (v::vs) ((tk,tv)::trs):=λa s σ H Q I h=>
 pairTrees_cons_walk (thn (hk a s σ H _ I h) λu i ⟨x,q,f,d,g⟩=>thn (hv a i σ q _ f g) λz n ⟨y,m,r,l,p⟩=>
  thn (hr a n σ m _ r p) λw t ⟨c,j,e,b,o⟩=>⟨_::c,j,e,.cons ⟨d,l⟩ b,o⟩)
noncomputable def a2s(kvs more:List (Key×V)):List (Key×V):=more.foldl (λacc kv=>putK acc kv.1 kv.2) kvs
def KV.merge:∀{more:List (Key×V)}{rs:List (Key×Value)}{kvs:List (Key×V)}{vs:List (Key×Value)},KV more rs->KV kvs vs->KV (a2s kvs more) (merged vs rs):=by
 intro d f a b r
 induction r generalizing a b with
 |nil=>intro q;exact q
 | @cons p q ps qs h t ih=>
  intro c;have e:KV (putK a p.1 p.2) (stored b q.1 q.2):=by
   have:=c.put p.1 h.2
   rw[<- h.1];exact this
  exact ih e
theorem a1N:∀(more kvs:List (Key×V)),(a2s kvs more).length<=kvs.length+more.length
 |[],kvs=>by show kvs.length<=kvs.length+0;omega
 |p::r,kvs=>by
  have a:=a1N r (putK kvs p.1 p.2);have b:=a06 kvs p.1 p.2
  show (a2s (putK kvs p.1 p.2) r).length<=_
  rw[bp];omega
theorem a3d:∀{kvs:List (Key×V)}{ws:List (Value×Value)},VV (kvs.map λkv=>(kV kv.1,kv.2)) ws->∃rs,Carries (a0i P w) ws rs/\KV kvs rs
 |[],_,r=>by rw[bB]at r;cases r;exact⟨[],True.intro,.nil⟩
 |p::kvs,_,r=>by
  cases r with
  | @cons a b as bs h t=>
   obtain⟨d,c,q⟩:=a3d t;obtain⟨f,e⟩:=b;exact⟨(p.1,e)::d,⟨a21 h.1,rfl,c⟩,.cons ⟨rfl,h.2⟩ q⟩
def b5O(trs:List (TE×TE)):TE:=fun σ H Q=>∀p,H p=none->a5m trs σ (upd H p (.dK [])) λps H2=>H2 p=some (.dK [])/\∃kvs:List (Key×V),ps=kvs.map (λkv=>(kV kv.1,kv.2))/\kvs.length<=15/\Q (.ref p) (upd H2 p (.dK (a2s [] kvs)))
def b1a(h:PPs X pos keys values trs)(hall:keys.all (·.isSome)=true)(hl:keys.length=values.length)(h0:keys≠[])
  (h15:keys.length<=15):PE X (.Dict keys values pos) (b5O trs):=by
 intro f s σ H Q I q;have p:=I.hok.fresh (aV s.heap.objs.size);have v:=I.laid (t':=s.toks) (λ_ _ q=>Heap.get?_push_of_some _ q) (aV _) (a3w s.heap I.big);refine wpAny_Dict_walk (knd:=a0i X.prog X.w) hall hl h0 h15 (thn (h f _ σ _ _ v (q _ p)) λws s2 ⟨ps,H2,j,i,e,d,m,lk,B⟩=>?_);subst m;obtain⟨k,c,n⟩:=a3d i;obtain⟨z,A,C,u,r⟩:=a6h j.hok e;cases u;refine⟨k,c,r,λh' b y=>⟨.ref s.heap.objs.size,_,?_,rfl,B⟩⟩;have l:(a2s [] d).length<=sizeLine:=by
  have x:=a1N d [];rw[dY]at x;rw[fR];omega
 have t:∃q,h'.get? s.heap.objs.size=some q:=let ⟨q,_,_,hq,_⟩:=b;⟨q,hq⟩
 exact a2M j (by rw[e];exact True.intro) y t (a4h l A (n.merge .nil) b)
section
variable{X:Cx}{pins:List (Addr×Obj)}{σ:St}{H:Hp}{s:Shared}{a:Addr}{y d:V}{u r:Value}{o:Option V}{A:Around}{E:Value->Shared->Prop}
def b3d(hu:A.units+1<cLine)(I:Inv X pins σ H s)(g:DGet H a y o)(ry:RelV y u)(h:∀w' s',Inv X pins σ H s'->RelV (o.getD .non) w'->Q w' s') :
  wpAny (model X.prog X.w) A (call (.builtin "dict.get") [.ref a,u]) Q E s:=by
 rcases g with ⟨kvs,k,e,ey,l⟩ |⟨kvs,k,b,e,ey,eb,l⟩
 ·subst ey;obtain⟨z,f,j,d,c⟩:=a2L I.hok e;refine ib PySem.F.slot_dict_get c.typeIs PySem.F.entry_dict_get (PySem.F.args_dict_get_2 _ _) (meets_dict_get _ a (a21 ry) f) ⟨_,c.mapOf,h _ _ (I.tok _) ?_⟩;rw[l];exact (d.val k).getD rfl
 ·subst ey;cases (ry);obtain⟨z,f,i,d,c⟩:=a7c I.hok e;refine ib PySem.F.slot_dict_get c.typeIs PySem.F.entry_dict_get (PySem.F.args_dict_get_2 _ _) (meetsH_dict_get _ a b f) ⟨iA hu,k,i,a3c I.hok eb,c,h _ _ (I.tok _) ?_⟩;rw[l];exact (d.val k).getD rfl
def b3e(hu:A.units+1<cLine)(I:Inv X pins σ H s)(g:DGet H a y o)(ry:RelV y u)(rd:RelV d r)(h:∀w' s',Inv X pins σ H s'->RelV (o.getD d) w'->Q w' s') :
  wpAny (model X.prog X.w) A (call (.builtin "dict.get") [.ref a,u,r]) Q E s:=by
 rcases g with ⟨kvs,k,e,ey,l⟩ |⟨kvs,k,b,e,ey,eb,l⟩
 ·subst ey;obtain⟨z,i,m,f,c⟩:=a2L I.hok e;refine ib PySem.F.slot_dict_get c.typeIs PySem.F.entry_dict_get (PySem.F.args_dict_get_3 _ _ _) (meets_dict_get_default _ a (a21 ry) i r) ⟨_,c.mapOf,h _ _ (I.tok _) ?_⟩;rw[l];exact (f.val k).getD rd
 ·subst ey;cases (ry);obtain⟨z,i,j,f,c⟩:=a7c I.hok e;refine ib PySem.F.slot_dict_get c.typeIs PySem.F.entry_dict_get (PySem.F.args_dict_get_3 _ _ _) (meetsH_dict_get_default _ a b i r) ⟨iA hu,k,j,a3c I.hok eb,c,h _ _ (I.tok _) ?_⟩;rw[l];exact (f.val k).getD rd
end
section
variable{X:Cx}{o e f:Expr}{apos cpos:Pos}{td ty tx:TE}
end
section
variable{X:Cx}{pins:List (Addr×Obj)}{σ:St}{H:Hp}{s:Shared}{a:Addr}{kvs:List (Key×V)}{A:Around}{E:Value->Shared->Prop}
end
section
variable{X:Cx}{pins:List (Addr×Obj)}{σ:St}{H:Hp}{s:Shared}{a:Addr}{y:V}{u:Value}{A:Around}{E:Value->Shared->Prop}
end
end L2
namespace PySem
noncomputable def a0D(env:Env):List (Str×fP)->List (Str×Addr)->List (Str×Addr)
 |[],cs=>cs
 | (n,k)::r,cs=>if (k==.free)=true then a0D env r ((n,(env.cells.lookup n).getD 0)::cs) else a0D env r cs
def a3x(h:∀x∈scope.names,x.2=.free->∃c,env.cells.lookup x.1=some c):iB scope env=pure (a0D env scope.names []):=by
 simp only[iB]
 suffices H:∀l b,(∀x∈l,x.2=.free->∃c,env.cells.lookup x.1=some c) ->
   forIn l b _=pure (a0D env l b) by
  rw[H scope.names [] h];rfl
 intro l
 induction l with
 |nil=>intro b _;rfl
 |cons x l ih=>
  intro b j;obtain⟨n,k⟩:=x;have g:=λb=>ih b λy o=>j y (ca _ o);rw[List.forIn_cons]
  by_cases hk:k=.free
  ·subst hk;obtain⟨c,m⟩:=j _ cy rfl;have f:cellOf env n=pure c:=by unfold cellOf;rw[m]
   rw[if_pos (show (fP.free==fP.free)=true from rfl),f];have e:a0D env ((n,fP.free)::l) b=a0D env l ((n,c)::b):=by
    show (if (fP.free==fP.free)=true then _ else _)=_
    rw[m];rfl
   rw[e,<- g ((n,c)::b)]
   rfl
  ·have i:(k==fP.free)=false:=by simpa using hk
   have e:a0D env ((n,k)::l) b=a0D env l b:=by
    show (if (k==fP.free)=true then _ else _)=_
    rw[i];rfl
   rw[e,<- g b];rw[i,if_neg bL]
   rfl
def a3y:∀(l:List (Str×fP))(cs:List (Str×Addr)),(∀y∈l,y.2=.free->∃c,env.cells.lookup y.1=some c)->(∀y c,cs.lookup y=some c->env.cells.lookup y=some c) ->
  ∀c,(a0D env l cs).lookup x=some c->env.cells.lookup x=some c:=by intro z0;induction z0 with
 |nil=>intro cs _ hc c h;exact hc x c h
 |cons q0 r I0=>
  obtain⟨n,k⟩:=q0;intro cs hx hc c h;have g:=λy m=>hx y (ca _ m);unfold a0D at h
  split at h
  ·rename_i hk
   have f:k=.free:=by simpa using hk
   obtain⟨d,j⟩:=hx (n,k) cy f;refine I0 _ g (λy i a=>?_) c h;rw[cg]at a;cases e:y==n with
   |true=>
    rw[e]at a;have o:y=n:=by simpa using e
    subst o;rw[j]at a ⊢;exact a
   |false=>rw[e]at a;exact hc y i a
  ·exact I0 cs g hc c h
def a4Y:∀(l:List (Str×fP))(cs:List (Str×Addr))(c:Addr),cs.lookup x=some c->∃c',(a0D env l cs).lookup x=some c':=by intro z0;induction z0 with
 |nil=>intro cs c h;exact⟨c,h⟩
 |cons q0 r I0=>
  obtain⟨n,k⟩:=q0;intro cs c h;unfold a0D
  split
  ·cases e:x==n with
   |true=>exact I0 _ _ (by rw[cg,e])
   |false=>exact I0 _ c (by rw[cg,e];exact h)
  ·exact I0 cs c h
def a3e:∀(l:List (Str×fP))(cs:List (Str×Addr)),(x,fP.free)∈l->∃c,(a0D env l cs).lookup x=some c:=by intro z0;induction z0 with
 |nil=>intro cs h;cases h
 |cons _ r I0=>
  intro cs h;unfold a0D;rcases bf.mp h with e |e
  ·cases e;exact a4Y r _ ((env.cells.lookup x).getD 0) (by simp)
  ·split
   ·exact I0 _ e
   ·exact I0 _ e
def a22{env:Env}:∀(names:List (Str×fP)),
  (names.map λ(n,k)=>if (k==fP.free&&env.scope.kind==.function&&env.kindOf n==some .cell) then (n,fP.cell) else (n,k)).lookup x =
   (names.lookup x).map λk=>if (k==fP.free&&env.scope.kind==.function&&env.kindOf x==some .cell)=true then fP.cell else k:=by intro z0;induction z0 with
 |nil=>exact rfl
 |cons q0 r I0=>
  obtain⟨n,k⟩:=q0;have a:=I0
  show dj x ((if _=true then _ else (n,k))::_)=_
  cases hx:x==n with
  |true=>
   have e:x=n:=by grind
   subst e
   by_cases hc:(k==fP.free&&env.scope.kind==.function&&env.kindOf x==some .cell)=true
   simp only[cg,hx,cJ,if_pos hc];simp only[cg,hx,cJ,if_neg hc]
  |false=>
   by_cases hc:(k==fP.free&&env.scope.kind==.function&&env.kindOf n==some .cell)=true
   ·rw[if_pos hc];simp only[cg,hx];exact a
   ·rw[if_neg hc];simp only[cg,hx];exact a
def a1B(I:Nat->Shared->Prop)
  (turn:∀n s,I n s->wpAny (model prog w) A (pyNext it) (λr sj=>match r with
   |none=>R (.ok .next) sj
   |some v=>wpAny (model prog w) A (jd target it v) (λ_ sj=>wpAny (model prog w) A (assign target env v) (λ_ sv=>
     wpAny (model prog w) A (forIn ifs true λc r=>if r=true then do let ok <- isTrue c env (eval c env);pure (ForInStep.yield ok) else pure (ForInStep.yield r)) (λok sw=>
      if ok=true then wpAny (model prog w) A (eval elt env) (λx sJ=>
       wpAny (model prog w) A (call (.builtin "list.append") [acc,x]) (λ_ sQ=>∃m,m<n/\I m sQ) (iC (model prog w) A env λe s'=>R (.error e) s') sJ) (iC (model prog w) A env λe s'=>R (.error e) s') sw
      else ∃m,m<n/\I m sw) (iC (model prog w) A env λe s'=>R (.error e) s') sv) (iC (model prog w) A env λe s'=>R (.error e) s') sj) (λ_ _=>False) sj) (λ_ _=>False) s)
  (n:Nat) (h:I n s) :
  gq (model prog w) A (.compLoop (.ListComp elt [⟨target,iter,ifs,0⟩] scope pos) 0 it acc env) R s:=by
 refine codeAny_loop rfl I (λn s k=>?_) n h;refine wpAny_noted (fF (wpAny_standAt (fF (fW (turn n s k) (λr d a=>?_) λ_ _ f=>f.elim))));cases r with
 |none=>exact fI a
 |some v=>
  refine fF (fW a (λ_ d a=>?_) λ_ _ f=>f.elim);refine fF (fW a (λ_ p g=>fF (fW g (λl z b=>?_) λ_ _ f=>f)) λ_ _ f=>f);cases l with
  |false=>exact fI ⟨rfl,b⟩
  |true=>
   exact fF (fF (fW b (λx o i=>fF (fW i (λ_ u j=>fI (fI ⟨rfl,j⟩)) λ_ _ f=>f)) λ_ _ f=>f))
theorem a0N:∀(names:List (Str×fP))(n:Nat)(acc:List (Str×Addr)),fQ n names acc=fQ n names []++acc
 |[],_,_=>rfl
 | (x,k)::r,n,acc=>by
  rw[fQ,fQ]
  split
  ·rw[a0N r _ _,a0N r _ [_]];simp
  ·exact a0N r n acc
theorem a2N:∀{names:List (Str×fP)}{n:Nat},(x,c)∈fQ n names []->(x,fP.cell)∈names
 |[],_,h=>by rw[fQ]at h;simp at h
 |_::r,n,h=>by
  rw[fQ]at h
  split at h
  ·next e=>
   rw[a0N,aU]at h;rcases h with h |h
   ·exact .tail _ (a2N h)
   ·grind
  ·exact .tail _ (a2N h)
def a3z{code:Value}
  (h:∀h',h'.Ns s.heap.objs.size (λ_=>none)->(∀b o,s.heap.get? b=some o->h'.get? b=some o)->iQ h' (s.heap.objs.size+1) (fQ (s.heap.objs.size+1) scope.names [])->Q (newEnv scope s.heap.objs.size globals (fQ (s.heap.objs.size+1) scope.names closure) qual func code around builtins) { s with heap:=h' }) :
  wpAny M A (newFunctionEnv scope globals closure [] qual func code around builtins) Q E s:=by
 refine fF (wpAny_alloc (fF (wpAny_layCells _ (λ_ _ _=>rfl) scope.names closure _ _ ?_)));have e:=Heap.size_push s.heap { cls:=Value.type (if around.isSome=true then "dict" else "frame"),data:=.dict #[] };have q:=h _ ((Heap.Ns.new s.heap _).keeps (pushCells_keeps _ _)) (λb o h=>pushCells_keeps _ _ _ _ (Heap.get?_push_of_some _ h)) (by
  rw[<- e];exact cellsFrom_ok scope.names _ _ [] ⟨λ_ _ h=>by simp at h,.nil⟩ (aV _))
 rw[<- e]at q;exact fF (fI (fI q))
end PySem
namespace L2
open PySem PySem.Spec PyProof.Rows
noncomputable def a17(cap:List (Option Nat))(σ:St):St:=cap.map λo=>o.bind λj=>(σ[j]?).join
def a07:St->St->Prop
 |[],[]=>True
 |none::a,_::b=>a07 a b
 |some x::a,y::b=>y=some x/\a07 a b
 |_,_=>False
theorem a18:∀{a b:St},a07 a b->a.length=b.length/\∀(i:Nat) v,a[i]?=some (some v)->b[i]?=some (some v)
 |[],[],_=>⟨rfl,λi v h=>by simp at h⟩
 |none::a,y::b,h=>by
  have c:=a18 (b:=b) h;refine⟨by simp[c.1],λi v e=>?_⟩;cases i with
  |zero=>simp at e
  |succ i=>simpa using c.2 i v (by simp_all)
 |some x::a,y::b,h=>by
  obtain⟨d,h⟩:=(h);have c:=a18 (b:=b) h;refine⟨by simp[c.1],λi v e=>?_⟩;cases i with
  |zero=>rw[d];simpa using e
  |succ i=>simpa using c.2 i v (by simpa using e)
 |[],_::_,h=>bg h
 |none::_,[],h=>bg h
 |some _::_,[],h=>bg h
theorem a1k:∀a:St,a07 a a
 |[]=>True.intro
 |none::a=>a1k a
 |some _::a=>⟨rfl,a1k a⟩
noncomputable def capB(N:List Str)(so sc:Scope)(N':List Str)(cap:List (Option Nat)):Bool:=
 decide (sc.kind=.function)&&decide N'.Nodup&&decide (cap.length=N'.length)&&(sc.names.all λy=>decide (y.2=.cell->sc.names.lookup y.1=some .cell)) &&
 (sc.names.all λy=>decide (y.2=.local->sc.names.lookup y.1=some .local)) &&
 (sc.names.all λy=>decide (y.2=.free->so.names.lookup y.1=some .cell\/so.names.lookup y.1=some .free)) &&
 ((N'.zip cap).all λy=>match y.2 with |none=>true |some j=>decide (N[j]?=some y.1)&&decide (sc.names.lookup y.1=some .free))
structure CapOk (N:List Str) (so sc:Scope) (N':List Str) (cap:List (Option Nat)):Prop where
 kind:sc.kind=.function
 nd:N'.Nodup
 len:cap.length=N'.length
 cms:∀y∈sc.names,y.2=.cell->sc.names.lookup y.1=some .cell
 nms:∀y∈sc.names,y.2=.local->sc.names.lookup y.1=some .local
 fre:∀y∈sc.names,y.2=.free->so.names.lookup y.1=some .cell\/so.names.lookup y.1=some .free
 cap:∀(i:Nat) x j,N'[i]?=some x->cap[i]?=some (some j)->N[j]?=some x/\sc.names.lookup x=some .free
def b1b(h:capB N so sc N' cap=true):CapOk N so sc N' cap:=by
 unfold capB at h;simp only[bS,decide_eq_true_eq,cK]at h;obtain⟨⟨⟨⟨⟨⟨f,k⟩,d⟩,g⟩,b⟩,l⟩,e⟩:=h;refine⟨f,k,d,g,b,l,λi x j c a=>?_⟩;have m:(N'.zip cap)[i]?=some (x,some j):=by rw[List.getElem?_zip_eq_some];exact⟨c,a⟩
 simpa using (e (x,some j) (bo m))
structure Lk (fr:List Addr) (ex:Addr->Prop) (h h':Heap):Prop where
 keep:∀b o,h.get? b=some o->b∉fr->¬ ex b->h'.get? b=some o
 slot:∀b o,h.get? b=some o->¬ ex b->∃sl,h'.get? b=some { o with slots:=sl }
 size:h.objs.size<=h'.objs.size
def Lk.refl{fr:List Addr}{ex:Addr->Prop}{h:Heap}:Lk fr ex h h:=⟨λ_ _ q _ _=>q,λ_ o q _=>⟨o.slots,q⟩,aV _⟩
def Lk.trans{fr:List Addr}{ex ex2:Addr->Prop}{h h1 h2:Heap}(a:Lk fr ex h h1)(b:Lk fr ex2 h1 h2)(i:∀x,ex2 x->ex x\/h.objs.size<=x):Lk fr ex h h2:=by
 have n:∀{x o},h.get? x=some o->¬ ex x->¬ ex2 x:=λ{x o} q n z=>by
  rcases i x z with z |z
  ·exact n z
  ·exact absurd (Heap.lt_size q) (Nat.not_lt.mpr z)
 refine⟨λx o q f z=>b.keep x o (a.keep x o q f z) f (n q z),λx o q z=>?_,be a.size b.size⟩;obtain⟨sl,e⟩:=a.slot x o q z;obtain⟨sl2,e2⟩:=b.slot x _ e (n q z);exact⟨sl2,e2⟩
theorem Lk.funs(k:Lk fr ex h h'):∀{l:List Env},(∀b∈frs l,¬ ex b)->h.FunFrames base l->h'.FunFrames base l
 |[],_,_=>True.intro
 |env::rest,hx,⟨hk,⟨L,o,hf,hn,ho,hd⟩,hr⟩=>by
  have a:L∈frs (env::rest):=by show L∈(env::rest).filterMap _;rw[cm,hf];exact .head _
  obtain⟨d,e⟩:=k.slot L o ho (hx L a);exact⟨hk,⟨L,_,hf,hn,e,hd⟩,k.funs (λb c=>hx b (by show b∈(env::rest).filterMap _;rw[cm,hf];exact .tail _ c)) hr⟩
def FlyT(e:Addr)(cls:Value)(T:Addr)(fl:Value)(h:Heap):Prop:=∃oe vs oT ts,h.get? e=some oe/\(oe.cls=cls/\oe.dict=none)/\oe.data=.fields vs/\vs[1]?=some (.ref T)/\T≠e/\h.get? T=some oT/\oT.data=.fields ts/\ts[3]?=some fl
section
variable{M:Model}{A:Around}{E:Value->Shared->Prop}{s:Shared}{base:Heap}{env:Env}{outer:List Env}{L e T:Addr}{cls fl:Value}{Q:Unit->Shared->Prop}
def FlyT.field{Q:Value->Shared->Prop}(h:FlyT e cls T fl s.heap)(q:Q (.ref T) s):wpAny M A (field (.ref e) 1) Q E s:=by
 obtain⟨_,_,_,_,a,_,b,c,_⟩:=h;exact gh a b c q
def FlyT.mark{Q:Value->Shared->Prop}(h:FlyT e cls T fl s.heap)(q:Q fl s):wpAny M A (PySem.field (.ref T) 3) Q E s:=by
 obtain⟨_,_,_,_,_,_,_,_,_,a,c,b⟩:=h;exact gh a c b q
end
def Un.lk(u:Un fs ex0 H0 H h0 h)(v:Lk fr ex h h')(hf:∀b∈fr,b∈fs\/h0.get? b=none)(hx:∀b,ex b->b∈ex0\/h0.get? b=none):Un fs ex0 H0 H h0 h':=by
 have g:∀{b o},h0.get? b=some o->b∉ex0->¬ ex b:=λ{b o} q n z=>by
  rcases hx b z with z |z
  ·grind
  ·grind
 refine⟨λb o q n c a=>?_,λb o q n c a=>?_,u.free,λb o q a=>?_,u.tups,u.frzs,u.tbls⟩
 ·refine v.keep b o (u.keep b o q n c a) (λz=>?_) (g q a);rcases hf b z with z |z
  ·grind
  ·grind
 ·obtain⟨j,f⟩:=u.slot b o q n c a;obtain⟨d,e⟩:=v.slot b _ f (g q a);exact⟨d,e⟩
 ·obtain⟨i,f⟩:=u.there b o q a;obtain⟨d,e⟩:=v.slot b _ f (g q a);exact⟨_,e⟩
def ObjOk.is(x:ObjOk P w H h a o):∃ob,h.get? a=some ob:=by
 cases o with
 |lst xs=>obtain⟨_,_,_,_,e⟩:=x;exact⟨_,e⟩
 |tup xs=>obtain⟨_,_,_,b,e,_⟩:=x;exact⟨_,e⟩
 |dK kvs=>obtain⟨_,_,_,_,o,_,_,e,_⟩:=x;exact⟨_,e⟩
 |dT kvs=>obtain⟨_,_,_,_,o,_,_,e,_⟩:=x;exact⟨_,e⟩
 |set S n=>obtain⟨o,_,_,_,e,_⟩:=x;exact⟨_,e⟩
 |ins C dx fs=>obtain⟨_,_,_,e,_⟩:=x;exact⟨_,e⟩
 |own y=>obtain⟨_,e⟩:=x;exact⟨_,e⟩
 |xd fs=>obtain⟨_,⟨_,_,_,e,_⟩,_⟩:=x;exact⟨_,e⟩
 |rng lo hi=>obtain⟨_,_,_,e⟩:=x;exact⟨_,e⟩
 |frz b u=>obtain⟨e,_⟩:=x;exact⟨_,e⟩
 |tbl ps=>exact⟨_,x⟩
 |met f y=>exact⟨_,x⟩
 |ext φ=>obtain⟨_,⟨_,e⟩,_⟩:=x;exact⟨_,e⟩
def HOk.lk(x:HOk P w H h)(l:Lk fr ex h h')(hf:∀b∈fr,H b=none)(he:∀b,ex b->H b=none):HOk P w H h':=λa o q=>
 (x a o q).stay (λb u c r=>by
  have d:H b≠none:=by
   rcases c with rfl |c
   ·simp_all
   ·simp_all
  exact l.keep b u r (λz=>d (hf b z)) λz=>d (he b z)) (λ_ q=>q) λ_ _ q=>q
structure Fly (N:Addr->Prop) (H:Hp) (fl:Value) (e:Addr) (cls:Value) (h:Heap):Prop where
 at_:∃T,FlyT e cls T fl h/\N T/\H T=none
 old:N e
 free:H e=none
def CXx(P:fK)(w:World):CXT:=λouter H s E ev s'=>∃e C H',ev=.ref e/\s'.os=s.os/\gu s'.gens/\Un (frs outer) [] H H' s.heap s'.heap/\HOk P w H' s'.heap/\Fly (λb=>s.heap.get? b=none) H' .none e (.ref C) s'.heap/\E (.ref C) none H'
structure TKs (H H':Hp):Prop where
 tup:∀b xs,H b=some (.tup xs)->H' b=some (.tup xs)
 frz:∀b o u,H b=some (.frz o u)->H' b=some (.frz o u)
def since(H:Hp)(E:XK):XK:=λc d H'=>TKs H H'->E c d H'
structure Outs (X:Cx) (E:XK):Prop where
 xe:∀ev s',wpAny (model X.prog X.w) X.A (leaving X.env ev) (λ_ s''=>CXx X.prog X.w X.outer X.H₀ X.s₀ E ev s'') (λe' s''=>CXx X.prog X.w X.outer X.H₀ X.s₀ E e' s'') s'->X.xe ev s'
 stk:X.stack=X.env::X.outer
 frm:X.env.frame=some X.env.locals
 ex:X.ex=[]
def Outs.of{P:fK}{w:World}{K:Fg}{mg:Str->Option Value}{base:Heap}{N:List Str}{qual:Str}{scope:Scope}{f:Addr}{cd:Value}{A:Around}{outer:List Env}{s:Shared}{H:Hp}{E:XK}:Outs (cxOf (CXx P w) P w K mg base N qual scope f cd A outer s H E) E:=⟨λ_ _ h=>h,rfl,rfl,rfl⟩
section
variable{X:Cx}{E:XK}{pins:List (Addr×Obj)}{σ:St}{H:Hp}{s:Shared}
def Outs.frames(O:Outs X E)(I:Inv X pins σ H s):X.A.frames=some (X.env::X.outer):=by rw[<- O.stk];exact I.ok.frames
def Outs.sub(O:Outs X E)(I:Inv X pins σ H s):∀b∈frs (X.env::X.outer),b∈X.fs\/X.s₀.heap.get? b=none:=λb a=>by
 rw[<- O.stk]at a;rcases bf.mp (I.stkSub b a) with z |z
 ·rw[z];exact .inr (Heap.get?_none_of_le I.ok.above)
 ·exact .inl z
def Outs.funs(O:Outs X E)(I:Inv X pins σ H s):s.heap.FunFrames X.base (X.env::X.outer):=by rw[<- O.stk];exact I.stack
def Outs.free(O:Outs X E)(I:Inv X pins σ H s):∀b∈frs (X.env::X.outer),H b=none:=by rw[<- O.stk];exact I.stkFree
def Outs.base(O:Outs X E)(I:Inv X pins σ H s):Un X.fs [] X.H₀ H X.s₀.heap s.heap:=by have:=I.base;rw[O.ex]at this;exact this
def Outs.fin(O:Outs X E)(I:Inv X pins σ H s){e C T:Addr}{ex:Addr->Prop}{h':Heap}(k:Lk (frs (X.env::X.outer)) ex s.heap h')(f:FlyT e (.ref C) T .none h')(hx:∀b,ex b->X.s₀.heap.get? b=none/\H b=none)(he:ex e)(hT:ex T\/s.heap.objs.size<=T)(q:since X.H₀ E (.ref C) none H) :
  CXx X.prog X.w X.outer X.H₀ X.s₀ E (.ref e) { s with heap:=h' }:=
 ⟨e,C,H,rfl,I.os,I.bare,(O.base I).lk k (O.sub I) (λb hb=>.inr (hx b hb).1),I.hok.lk k (O.free I) λb hb=>(hx b hb).2,⟨⟨T,f,by
  rcases hT with z |z
  ·exact hx T z
  ·exact⟨Heap.get?_none_of_le (be I.sz z),I.hok.fresh z⟩⟩,(hx e he).1,(hx e he).2⟩,q ⟨I.base.tups,I.base.frzs⟩⟩
end
def ExC(X:Cx)(E:XK)(C:Addr)(s:Shared)(H:Hp)(fp:List Addr)(ev:Value)(s':Shared):Prop:=
 ∃e Cl H',ev=.ref e/\s'.os=s.os/\gu s'.gens/\Un (frs X.stack) fp H H' s.heap s'.heap/\HOk X.prog X.w H' s'.heap/\Fly (λb=>b∈fp\/s.heap.get? b=none) H' .none e (.ref Cl) s'.heap/\(∃m,s'.heap.Ns C m)/\H' C=none/\C≠e/\E (.ref Cl) none H'
def a4Z(X:Cx)(EW:XK)(sc:Scope):Prop:=∀(pins:List (Addr×Obj))(σ:St)(H:Hp)(s:Shared)(C:Addr)(fp:List Addr)(use:Option (Value->Sem Unit))(Fin:Value->Shared->Prop)(acc:Value),Inv X pins σ H s->(∀b∈fp,FpOk X pins H b)->C=s.heap.objs.size ->
 ∀ev s',ExC X EW C s H fp ev s'->iC (model X.prog X.w) X.A (ic sc (fQ (C+1) sc.names (a0D X.env sc.names [])) C X.env) (λe s''=>jj (model X.prog X.w) X.A X.xe use Fin acc C (.error e) s'') ev s'
def a85:a4Z X (λ_ _ _=>False) sc:=by
 rintro a σ H s C g d c b _ _ _ e f ⟨_,_,_,_,_,_,_,_,_,_,_,_,q⟩;exact q.elim
noncomputable def cxC(X:Cx)(EW:XK)(N':List Str)(sc:Scope)(C:Addr)(s:Shared)(H:Hp)(fp:List Addr):Cx:=
 { X with N:=N',s₀:=s,H₀:=H,env:=ic sc (fQ (C+1) sc.names (a0D X.env sc.names [])) C X.env,outer:=X.stack,stack:=X.stack,ex:=fp,fn:=λx=>sc.names.lookup x==some .cell,pn:=[],xe:=ExC X EW C s H fp }
def PIfs(X:Cx)(ifs:List Expr)(t:TT):Prop:=
 ∀(pins:List (Addr×Obj))(s:Shared)(σ:St)(H:Hp)(Q:Bool->Hp->Prop),Inv X pins σ H s->t σ H Q ->
  wpAny (model X.prog X.w) X.A (forIn ifs true λc r=>if r=true then do let ok <- isTrue c X.env (eval c X.env);pure (ForInStep.yield ok) else pure (ForInStep.yield r)) (TP X pins σ Q) X.xe s
def tTT:TT:=λ_ H Q=>Q true H
def a86:PIfs X [] tTT:=λ_ _ _ H _ I h=>wpAny_tests_nil ⟨H,I,h⟩
def a87(h:PT X c t):PIfs X [c] t:=λa s σ H Q I q=>wpAny_tests_one (h a s σ H Q I q)
def LcB(J:It)(cap:List (Option Nat))(g:TG)(tt:TT)(te:TE)(σ:St)(Q:VK)(D:Addr)(H1:Hp):Prop:=
 ∃W:Nat->Nat->List V->Hp->Prop,(∃m,W 0 m [] (upd H1 D (.lst [])))/\∀i m ys H2,W i m ys H2 ->
  (J.stop i H2/\Q (.ref D) H2) \/
  (J.go i H2/\∃N:List V->Hp->Prop,(∀ys' H',N ys' H'->∃m',m'<m/\W (i+1) m' ys' H')/\∀x H',J.yld i H2 x H' ->
   g x (a17 cap σ) H' fun σ2 H3=>a07 (a17 cap σ) σ2/\tt σ2 H3 λb H4=>if b=true then te σ2 H4 λy H5=>∃zs,H5 D=some (.lst zs)/\zs.length<fG/\N (zs++[y]) (upd H5 D (.lst (zs++[y]))) else N ys H4)
def tLC(wi:TI)(cap:List (Option Nat))(g:TG)(tt:TT)(te:TE):TE:=fun σ H Q=>wi σ H λJ H1=>∀D,H1 D=none->LcB J cap g tt te σ Q D H1
structure CFree (X:Cx) (pins:List (Addr×Obj)) (H:Hp) (C:Addr):Prop where
 free:H C=none
 loc:C≠X.env.locals
 old:X.s₀.heap.objs.size<=C
 cell:∀x c,X.env.cells.lookup x=some c->c≠C
 pin:∀p∈X.pn++pins,p.1≠C
section
variable{X:Cx}{pins:List (Addr×Obj)}{σ:St}{H:Hp}{s:Shared}{N':List Str}{sc:Scope}{cap:List (Option Nat)}{C:Addr}{fp:List Addr}{EW:XK}
def a7e(I:Inv X pins σ H s)(ck:CapOk X.N X.env.scope sc N' cap):∀x∈sc.names,x.2=.free->∃c,X.env.cells.lookup x.1=some c:=λx a b=>
 I.ok.has x.1 (ck.fre x a b)
def a3f(I:Inv X pins σ H s)(ck:CapOk X.N X.env.scope sc N' cap)(h:(a0D X.env sc.names []).lookup x=some c):X.env.cells.lookup x=some c:=
 a3y sc.names [] (a7e I ck) (λy c h=>by simp at h) c h
def a7f(h:(fQ n sc.names acc).lookup x=some c):(fQ n sc.names []).lookup x=some c\/((fQ n sc.names []).lookup x=none/\acc.lookup x=some c):=by
 rw[a0N,dy]at h;cases e:(fQ n sc.names []).lookup x with
 |none=>rw[e]at h;exact .inr ⟨rfl,h⟩
 |some d=>rw[e]at h;exact .inl h
def a3A(I:Inv X pins σ H s)(ck:CapOk X.N X.env.scope sc N' cap)(co:iQ hjq n (fQ n sc.names []))(h:(fQ n sc.names (a0D X.env sc.names [])).lookup x=some c):(hjq.IsCell c none/\n<=c)\/X.env.cells.lookup x=some c:=by
 rcases a7f h with h |⟨_,h⟩
 ·exact .inl (co.empty _ _ (PySem.mem_of_lookup h))
 ·exact .inr (a3f I ck h)
def a7g(env:Env)(x:Str):(ic sc cl C env).kindOf x=(sc.names.lookup x).map λk=>if (k==fP.free&&env.scope.kind==.function&&env.kindOf x==some .cell)=true then fP.cell else k:=
 a22 sc.names
def a03{l:List (Str×fP)}(h:l.lookup x=some k):(x,k)∈l:=PySem.mem_of_lookup h
def b5P(I:Inv X pins σ H s)(ck:CapOk X.N X.env.scope sc N' cap)(hf:∀b∈fp,FpOk X pins H b)(hlt:∀b∈fp,b<s.heap.objs.size)(hC:C=s.heap.objs.size)(co:iQ hjq (C+1) (fQ (C+1) sc.names [])):(cxC X EW N' sc C s H fp).Ok:=by
 have cl:∀{x:Str}{c:Addr},(fQ _ sc.names _).lookup x=some c->_\/X.env.cells.lookup x=some c:=λh=>a3A I ck co h;have j:∀{x:Str}{c:Addr},X.env.cells.lookup x=some c->c<C:=λe=>by
  obtain⟨v,q⟩:=I.cell _ _ e;rw[hC];exact q.lt
 refine⟨I.ok.mod,ck.kind,I.ok.glob,I.ok.blt,by rw[hC];exact aV _,λx y c t g=>?_,λx m=>?_,λx c h g=>?_,I.ok.hd,I.ok.frames,.inl rfl,λb a=>⟨?_,λx c h=>?_⟩,I.bs,be I.ok.bsz I.sz,λb o e a=>?_,λb a r=>?_,I.stack,I.stkFree⟩
 ·rcases a7f t with a1 |⟨_,a1⟩<;>rcases a7f g with a2 |⟨_,a2⟩
  ·exact name_of_addr co.apart (PySem.mem_of_lookup a1) (PySem.mem_of_lookup a2)
  ·exact absurd (bx (j (a3f I ck a2)) (cL (co.empty _ _ (PySem.mem_of_lookup a1)).2)) (b6 _)
  ·exact absurd (bx (j (a3f I ck a1)) (cL (co.empty _ _ (PySem.mem_of_lookup a2)).2)) (b6 _)
  ·exact I.ok.inj x y c (a3f I ck a1) (a3f I ck a2)
 ·have f:(sc.names.lookup x).map (λk=>if (k==fP.free&&X.env.scope.kind==.function&&X.env.kindOf x==some .cell)=true then fP.cell else k)=some .cell \/
    (sc.names.lookup x).map (λk=>if (k==fP.free&&X.env.scope.kind==.function&&X.env.kindOf x==some .cell)=true then fP.cell else k)=some .free:=by
   rw[<- a7g X.env x];exact m
  show ∃c,(fQ _ sc.names _).lookup x=some c
  cases e:sc.names.lookup x with
  |none=>rw[e]at f;rcases f with z |z<;>cases z
  |some k=>
   rw[a0N,dy];cases e2:(fQ _ sc.names []).lookup x with
   |some d=>exact⟨d,rfl⟩
   |none=>
    by_cases hk:k=.free
    ·subst hk;exact a3e sc.names [] (a03 e)
    ·rw[e]at f;have a:(k==fP.free)=false:=by simpa using hk
     simp only[cJ,a,bv.injEq]at f;rcases f with z |z
     ·subst z;obtain⟨d,i⟩:=a2C e;rw[i]at e2;cases e2
     ·exact absurd z hk
 ·have e:sc.names.lookup x=some .cell:=by
   have h:(sc.names.lookup x==some .cell)=true:=h;simpa using h
  obtain⟨d,i⟩:=a2C e;have g:(fQ _ sc.names _).lookup x=some c:=g;rw[a0N,dy,i]at g;cases g;exact be (cF hC.symm) (cL (co.empty _ _ (PySem.mem_of_lookup i)).2)
 ·show b≠C
  rw[hC];exact bj (hlt b a)
 ·rcases cl h with ⟨_,z⟩ |z
  ·exact λe=>absurd (bx (hlt b a) (be (cF hC.symm) (e▸cL z))) (b6 _)
  ·exact (hf b a).2.2.2.2.1 x c z
 ·obtain⟨_,_,_,z,_⟩:=hf b a;rcases z with z |z
  ·exact I.ok.noex b o e z
  ·exact absurd (bx (Heap.lt_size e) (be I.ok.bsz z)) (b6 _)
 ·rcases bf.mp (I.stkSub b r) with z |z
  ·exact (hf b a).2.1 z
  ·exact (hf b a).2.2.1 z
def b3f(I:Inv X pins σ H s)(ck:CapOk X.N X.env.scope sc N' cap)(hf:∀b∈fp,FpOk X pins H b)(hlt:∀b∈fp,b<s.heap.objs.size)(hC:C=s.heap.objs.size)
  (hn:hjq.Ns C m) (co:iQ hjq (C+1) (fQ (C+1) sc.names [])) (hk:∀b o,s.heap.get? b=some o->hjq.get? b=some o):Inv (cxC X EW N' sc C s H fp) [] (a17 cap σ) H { s with heap:=hjq,toks:=t' }:=by
 refine⟨b5P I ck hf hlt hC co,rfl,I.bare,Un.kept hk,⟨m,hn,λi x v F a T=>?_⟩,λx c h=>?_,?_,λx c h=>?_,λp G=>absurd (show p∈([]) from G) (by simp),I.hok.kept hk,?_⟩
 ·have B:=F;unfold a17 at a;rw[aW]at a;cases ec:cap[i]? with
  |none=>rw[ec]at a;cases a
  |some o=>
   rw[ec]at a;cases o with
   |none=>simp at a
   |some j=>
    have e:(σ[j]?).join=some v:=by simpa using a
    have t:σ[j]?=some (some v):=by
     cases q:σ[j]? with
     |none=>rw[q]at e;cases e
     |some w=>rw[q]at e;rw[show w=some v from e]
    obtain⟨L,g⟩:=ck.cap i x j B ec;have n:=ck.fre _ (a03 g) rfl;obtain⟨S,_,M⟩:=I.loc;obtain⟨u,E,Q⟩:=M j x v L t (.inr n);refine⟨u,E,.inr ⟨?_,?_⟩⟩
    ·show (ic sc _ C X.env).kindOf x=some .cell\/(ic sc _ C X.env).kindOf x=some .free
     rw[a7g,g];simp only[cJ,beq_self_eq_true,eK]
     by_cases hc:(X.env.scope.kind==ScopeKind.function&&X.env.kindOf x==some fP.cell)=true
     ·simp_all
     ·rw[if_neg hc];exact .inr rfl
    ·obtain⟨D,l⟩:=a3e sc.names [] (a03 g);have J:=a3f I ck l;rcases Q with ⟨k,_⟩ |⟨_,c,ec',z⟩
     ·have R:X.env.scope.names.lookup x=some .local:=k;have f:=n;rw[R]at f;rcases f with q |q<;>cases q
     ·rw[J]at ec';cases ec';obtain⟨y,A,r⟩:=z;refine⟨D,?_,y,hk _ _ A,r⟩
      show (fQ (C+1) sc.names _).lookup x=some D
      rw[a0N,dy,l];cases a:(fQ (C+1) sc.names []).lookup x with
      |none=>rfl
      |some d=>
       have:=ck.cms _ (a2N (PySem.mem_of_lookup a)) rfl
       rw[g]at this;cases this
 ·rcases a3A I ck co h with ⟨z,_⟩ |z
  ·grind
  ·obtain⟨v,y,A,r⟩:=I.cell x c z;exact⟨v,y,hk _ _ A,r⟩
 ·show H C=none
  rw[hC];exact I.hok.fresh (aV _)
 ·rcases a3A I ck co h with ⟨_,z⟩ |z
  ·exact I.hok.fresh (be (cF hC.symm) (cL z))
  ·exact I.freeC x c z
 ·show (a17 cap σ).length=N'.length
  unfold a17;rw[aT];exact ck.len
def b1c(I:Inv X pins σ H s)(hf:∀b∈fp,FpOk X pins H b)(J:Inv (cxC X EW N' sc C s H fp) pins' σ' H' s'):Inv X pins σ H' s':=
 I.call' J.os J.base J.hok J.bare λb a=>⟨(hf b a).2.2.2.1,(hf b a).2.1,(hf b a).2.2.2.2.1,(hf b a).2.2.2.2.2⟩
def a88(I:Inv X pins σ H s)(hC:C=s.heap.objs.size)(J:Inv (cxC X EW N' sc C s H fp) pins' σ' H' s'):CFree X pins H' C:=by
 refine⟨J.free,by rw[hC];exact cn I.lt,by rw[hC];exact I.sz,λx c e z=>?_,λp a z=>(absurd (Heap.lt_size (I.pin p a).1) (by simp_all))⟩
 ·obtain⟨v,q⟩:=I.cell x c e;exact absurd q.lt (by simp_all)
def CFree.after(F:CFree X pins H C)(I:Inv X pins σ H s)(k:∀b o,b≠C->s.heap.get? b=some o->h'.get? b=some o):Inv X pins σ H { s with heap:=h',toks:=t' }:=
 I.turned k F.free F.loc (.inr F.old) F.cell F.pin
end
section
variable{X:Cx}{elt tg iter:Expr}{ifs:List Expr}{sc:Scope}{pos:Pos}{wi:TI}{g:TG}{tt:TT}{te:TE}{N':List Str}{cap:List (Option Nat)}{EW:XK}
def b1d(hc:X.calm=true)(hE:a4Z X EW sc)(ck:CapOk X.N X.env.scope sc N' cap)(hi:PI X tg iter wi)
    (hg:∀C s H fp,PG (cxC X EW N' sc C s H fp) tg g) (ht:∀C s H fp,PIfs (cxC X EW N' sc C s H fp) ifs tt) (he:∀C s H fp,PE (cxC X EW N' sc C s H fp) elt te)
    (hs:∀x,hU iter X.env x=pure x) {Fin:Value->Shared->Prop}
 (I:Inv X pins σ H s) (h:tLC wi cap g tt te σ H Q)
    (fin:∀D s' C m H',Inv X pins σ H' s'->Q (.ref D) H'->s'.heap.Ns C m->CFree X pins H' C->jj (model X.prog X.w) X.A X.xe use Fin (.ref D) C (.ok .next) s') :
    wpAny (model X.prog X.w) X.A (comprehension (.ListComp elt [⟨tg,iter,ifs,0⟩] sc pos) sc X.env pos' (newList []) false (eval iter X.env) use) Fin X.xe s:=by
  refine wpAny_comprehension_free rfl hs (a3x (a7e I ck)) ck.kind ck.nms (thn (hi pins s σ H _ I h) λv s1 h1=>thn h1 λitv j h2=>?_);obtain⟨it,f,tn,J,H2,e,I2,T,st2,f2,h2⟩:=h2;subst e;have hD:=I2.hok.fresh (aV _);obtain⟨W,⟨m0,w0⟩,turn⟩:=h2 j.heap.objs.size hD;refine iz ?_;have t:=I2.lnew (t':=j.toks) .nil (bE _);generalize hs3:({ j with heap:=j.heap.push { cls:=.type "list",data:=.seq ([]:List Value).toArray } }:Shared)=s3 at t;generalize hH3:upd H2 j.heap.objs.size (.lst [])=H3 at t w0;have ac:∀b∈f,b<j.heap.objs.size:=λb a=>by
    obtain⟨o,e,_⟩:=T.obj _ _ st2 b a;exact Heap.lt_size e
  have sz3:s3.heap.objs.size=j.heap.objs.size+1:=hs3▸Heap.size_push _ _;have L:∀b∈f,b<s3.heap.objs.size:=λb a=>by rw[sz3];exact cX (ac b a)
  have B:∀b∈f,FpOk X pins H3 b:=λb a=>by
    refine⟨?_,(f2 b a).2⟩;rw[<- hH3,a0e (bj (ac b a))];exact (f2 b a).1
  have st3:tn 0 s3.heap:=T.keep _ _ _ st2 λb _ o e=>by rw[<- hs3];exact Heap.get?_push_of_some _ e
  refine a3z λhjq hjj hk co=>?_;have I4:=b3f (EW:=EW) (t':=s3.toks) t ck B L rfl hjj co hk;generalize hs4:({ s3 with heap:=hjq,toks:=s3.toks }:Shared)=s4 at I4 ⊢;have st4:tn 0 s4.heap:=T.keep _ _ _ st3 λb _ o e=>by rw[<- hs4];exact hk b o e
  have G:∀{k:Hp}{l:List (Addr×Obj)},(∀p∈l,p.1∉f)->(∀b∈f,k b=none)->∀b∈f,FpOk (cxC X EW N' sc s3.heap.objs.size s3 H3 f) l k b:=λ{k l} E hn b a=>
    ⟨hn b a,bj (L b a),λz=>by
      rcases bf.mp (t.stkSub b z) with z |z
      · exact (B b a).2.1 z
      · exact (B b a).2.2.1 z,.inl a,λx c e=>by
        rcases a3A t ck co e with ⟨_,z⟩ |z
        · exact λe=>absurd (bx (L b a) (e▸cL z)) (b6 _)
        · exact (B b a).2.2.2.2.1 x c z,λp hp' z=>E p hp' (z▸a)⟩
  have hx:=hE pins σ H3 s3 s3.heap.objs.size f use Fin (.ref j.heap.objs.size) t B rfl;have ab:gq (model X.prog X.w) X.A (.compLoop (.ListComp elt [⟨tg,iter,ifs,0⟩] sc pos) 0 (.ref it) (.ref j.heap.objs.size) (ic sc (fQ (s3.heap.objs.size+1) sc.names (a0D X.env sc.names [])) s3.heap.objs.size X.env))
      (jj (model X.prog X.w) X.A X.xe use Fin (.ref j.heap.objs.size) s3.heap.objs.size) s4:=by
    refine a1B (λn s'=>∃i ys σ' k,Inv (cxC X EW N' sc s3.heap.objs.size s3 H3 f) [] σ' k s'/\a07 (a17 cap σ) σ'/\tn i s'.heap/\(∀b∈f,k b=none)/\W i n ys k) ?_ m0
      ⟨0,[],a17 cap σ,H3,I4,a1k _,st4,λb a=>(B b a).1,w0⟩
    rintro n s5 ⟨i,ys,σ5,H5,I5,k5,st5,fr5,w5⟩;have kk:=a18 k5;have I5:=I5.weak kk.1 kk.2;rcases turn i n ys H5 w5 with ⟨stop,q⟩ |⟨go,N,hN,step⟩
    · refine thn (T.done (cxC X EW N' sc s3.heap.objs.size s3 H3 f) rfl rfl rfl hc i [] s5 _ H5 _ I5 (G (by simp) fr5) st5 stop) λr s6 ⟨hr,I6⟩=>?_
      subst hr;obtain⟨m6,n6,_⟩:=I6.loc;exact fin _ s6 _ m6 H5 (b1c t B I6) q n6 (a88 t rfl I6)
    · refine thn (T.item (cxC X EW N' sc s3.heap.objs.size s3 H3 f) rfl rfl rfl hc i [] s5 _ H5 _ I5 (G (by simp) fr5) st5 go) λr s6 ⟨u,hr,h6⟩=>?_
      subst hr;refine thn h6 λ_ s7 ⟨x,H7,I7,r7,y7,aa,fr7⟩=>?_;have R:∀{σ9:St}{F:Hp}{U:Shared}{M:List V},Inv (cxC X EW N' sc s3.heap.objs.size s3 H3 f) ([]++a5l f s7.heap) σ9 F U->a07 (a17 cap σ) σ9->N M F ->
          ∃m,m<n/\∃i ys σ' k,Inv (cxC X EW N' sc s3.heap.objs.size s3 H3 f) [] σ' k U/\a07 (a17 cap σ) σ'/\tn i U.heap/\(∀b∈f,k b=none)/\W i m ys k:=λ{σ9 F U M} Y k9 n9=>by
        obtain⟨m',hm,w9⟩:=hN M F n9;refine⟨m',hm,i+1,M,σ9,F,Y.unpinned,k9,T.keep _ _ _ aa λb a o e=>(Y.pin (b,o) (bK _ (bK _ (a1s a e)))).1,λb a=>?_,w9⟩;obtain⟨o,e,d⟩:=T.obj _ _ aa b a;exact (Y.pin (b,o) (bK _ (bK _ (a1s a e)))).2.1
      refine fW (hg _ _ _ _ _ s7 _ H7 x u _ (I7.pinned (G (by simp) fr7) (T.obj _ _ aa)) r7 (step x H7 y7)) (λ_ s8 ⟨σ8,H8,I8,k8,q8⟩=>?_) hx;refine fW (ht _ _ _ _ _ s8 σ8 H8 _ I8 q8) (λb U ⟨F,Y,q9⟩=>?_) hx;cases b with
      |false=>
        rw[if_neg bL]at q9 ⊢;exact R Y k8 q9
      |true=>
        rw[if_pos rfl]at q9 ⊢;refine fW (he _ _ _ _ _ U σ8 F _ Y q9) (λy s10 ⟨vy,H10,I10,r10,zs,hacc,hsz,q10⟩=>?_) hx;refine fW (a4g (X:=cxC X EW N' sc s3.heap.objs.size s3 H3 f) _ s10 σ8 H10 (.ref j.heap.objs.size) [vy] (.ref j.heap.objs.size) [y] (λ_ k=>N (zs++[vy]) k) I10 rfl (.cons r10 .nil) ⟨_,zs,vy,rfl,rfl,hacc,hsz,q10⟩) (λ_ s11 ⟨_,H11,I11,_,q11⟩=>?_) hx;exact R I11 k8 q11
  exact codeAny_compStart_list ab (T.self _ 0 _ _ _ st4 ab)
def b5Q(hc:X.calm=true)(hE:a4Z X EW sc)(hNN:X.N=Nj)(hso:X.env.scope=so)(ck:capB Nj so sc N' cap=true)(hi:PI X tg iter wi)
  (hg:∀C s H fp,PG (cxC X EW N' sc C s H fp) tg g) (ht:∀C s H fp,PIfs (cxC X EW N' sc C s H fp) ifs tt) (he:∀C s H fp,PE (cxC X EW N' sc C s H fp) elt te)
  (hs:∀x,hU iter X.env x=pure x:=by intro _;rfl):PE X (.ListComp elt [⟨tg,iter,ifs,0⟩] sc pos) (tLC wi cap g tt te):=by
 intro f s σ H Q I h;subst hNN hso;exact b1d hc hE (b1b ck) hi hg ht he hs I h λD d C m i c q k F=>⟨m,k,λl a=>⟨.ref D,i,F.after c (λb o j e=>a.extBut b o j e),rfl,q⟩⟩
end
section
variable{X:Cx}{st:Stmt}{rest:List Stmt}{t u:TS}{e:Expr}{te:TE}{tt:TT}
end
mutual
def DV(H:Hp):PyData->V->Prop
 |.none,x=>x=.non
 |.bool b,x=>x=.bl b
 |.int i,x=>x=.int i
 |.str s,x=>x=.str s
 |.list ds,x=>∃a vs,x=.ref a/\H a=some (.lst vs)/\DVs H ds vs
 |.tuple ds,x=>∃a vs,x=.ref a/\H a=some (.tup vs)/\DVs H ds vs
 |.dict _,_=>False
def DVs(H:Hp):List PyData->List V->Prop
 |[],vs=>vs=[]
 |d::ds,vs=>∃v r,vs=v::r/\DV H d v/\DVs H ds r
end
mutual
theorem DV.reads{P:fK}{w:World}{H:Hp}{h:Heap}(ok:HOk P w H h):∀{d:PyData}{x:V}{u:Value},DV H d x->RelV x u->∃as,Reads h u d as
 |.none,x,u,q,r=>by
  unfold DV at q;subst q;cases (show u=Value.none from r);exact⟨_,.none⟩
 |.bool b,x,u,q,r=>by
  unfold DV at q;subst q;cases (show u=Value.bool b from r);exact⟨_,.bool b⟩
 |.int i,x,u,q,r=>by
  unfold DV at q;subst q;obtain⟨t,e⟩:=(show ∃t,u=Value.int i t from r);subst e;exact⟨_,.int i t⟩
 |.str s,x,u,q,r=>by
  unfold DV at q;subst q;obtain⟨t,e⟩:=(show ∃t,u=Value.str s t from r);subst e;exact⟨_,.str s t⟩
 |.list ds,x,u,q,r=>by
  unfold DV at q;obtain⟨a,vs,e,ha,q⟩:=q;subst e;cases (show u=Value.ref a from r);obtain⟨_,its,n,rv,e⟩:=ok a _ ha;obtain⟨as,rd⟩:=DVs.reads ok q rv;exact⟨_,.list e rfl rfl (by simpa using rd)⟩
 |.tuple ds,x,u,q,r=>by
  unfold DV at q;obtain⟨a,vs,e,ha,q⟩:=q;subst e;cases (show u=Value.ref a from r);obtain⟨_,its,rv,o,e,c,n,d⟩:=ok a _ ha;obtain⟨as,rd⟩:=DVs.reads ok q rv;exact⟨_,.tuple e c d (by simpa using rd)⟩
 |.dict _,x,u,q,r=>by unfold DV at q;exact q.elim
theorem DVs.reads{P:fK}{w:World}{H:Hp}{h:Heap}(ok:HOk P w H h):∀{ds:List PyData}{vs:List V}{us:List Value},DVs H ds vs->Vals vs us->∃as,ReadsAll h us ds as
 |[],vs,us,q,r=>by
  unfold DVs at q;subst q;cases r;exact⟨_,.nil⟩
 |d::ds,vs,us,q,r=>by
  unfold DVs at q;obtain⟨v,rr,e,q1,q2⟩:=q;subst e;cases r with
  |cons r1 r2=>
   obtain⟨as,h1⟩:=DV.reads ok q1 r1;obtain⟨bs,h2⟩:=DVs.reads ok q2 r2;exact⟨_,.cons h1 h2⟩
end
def rEqD:R2:=λx y H Q=>∃d e,DV H d x/\DV H e y/\SeqAt.shaped d=true/\SeqAt.shaped e=true/\Q (.bl (PyData.eqv d e)) H
def rNeD:R2:=λx y H Q=>∃d e,DV H d x/\DV H e y/\SeqAt.shaped d=true/\SeqAt.shaped e=true/\Q (.bl (!PyData.eqv d e)) H
section
variable{X:Cx}
def b3g(hu:X.A.units+66<cLine):OpR X (fM .Eq) rEqD:=by
 intro i s σ H x y v u Q I g k h;obtain⟨d,e,b,f,l,a,q⟩:=h;obtain⟨m,j⟩:=b.reads I.hok g;obtain⟨n,c⟩:=f.reads I.hok k;exact eq_dataH j c l a (by lia) ⟨.bl _,H,I,rfl,q⟩
def b3h(hu:X.A.units+66<cLine):OpR X (fM .NotEq) rNeD:=by
 intro b s σ H x y v u Q I j c h;obtain⟨d,e,a,g,l,i,q⟩:=h;obtain⟨n,f⟩:=a.reads I.hok j;obtain⟨m,k⟩:=g.reads I.hok c;exact ne_dataH f k l i (by lia) ⟨.bl _,H,I,rfl,q⟩
def rInD(neg:Bool):R2:=λx y H Q=>∃d p ds vs,DV H d x/\y=.ref p/\(H p=some (.lst vs)\/H p=some (.tup vs))/\DVs H ds vs/\SeqAt.shaped d=true/\SeqAt.shaped (.list ds)=true /\
 Q (.bl (if neg then !(ds.any λy=>PyData.eqv y d) else ds.any λy=>PyData.eqv y d)) H
def b3i(hu:X.A.units+66<cLine):OpR X (fM .In) (rInD false):=by
 intro r s σ H x y v u Q I z m h;obtain⟨d,p,b,j,w,e,a,i,k,t,q⟩:=h;subst e;obtain⟨C,f⟩:=w.reads I.hok z;have n:PyData.canLayAll0 b=true:=by have:=SeqAt.canLay_of_shaped t;simpa[PyData.canLay0]using this
 have g:=SeqAt.canLay_of_shaped k;have o:=SeqAt.depth_of_shaped k;have l:X.A.units+1+min (PyData.depthAll b) d.depth<cLine:=by have:=dU (PyData.depthAll b) d.depth;lia
 rcases a with a |a
 ·obtain⟨B,c⟩:=(show DV H (.list b) _ by unfold DV;exact⟨p,j,rfl,a,i⟩).reads I.hok m;exact SeqAt.in_list_reads c f n g l ⟨.bl _,H,I,rfl,q⟩
 ·obtain⟨B,c⟩:=(show DV H (.tuple b) _ by unfold DV;exact⟨p,j,rfl,a,i⟩).reads I.hok m;exact SeqAt.in_tuple_reads c f n g l ⟨.bl _,H,I,rfl,q⟩
def a7h(hu:X.A.units+66<cLine):OpR X (fM .NotIn) (rInD true):=by
 intro r s σ H x y v u Q I o g h;obtain⟨d,p,a,n,z,e,b,j,m,w,q⟩:=h;subst e;obtain⟨C,f⟩:=z.reads I.hok o;have i:PyData.canLayAll0 a=true:=by have:=SeqAt.canLay_of_shaped w;simpa[PyData.canLay0]using this
 have l:=SeqAt.canLay_of_shaped m;have t:=SeqAt.depth_of_shaped m;have k:X.A.units+1+min (PyData.depthAll a) d.depth<cLine:=by have:=dU (PyData.depthAll a) d.depth;lia
 rcases b with b |b
 ·obtain⟨B,c⟩:=(show DV H (.list a) _ by unfold DV;exact⟨p,n,rfl,b,j⟩).reads I.hok g;exact SeqAt.notIn_list_reads c f i l k ⟨.bl _,H,I,rfl,q⟩
 ·obtain⟨B,c⟩:=(show DV H (.tuple a) _ by unfold DV;exact⟨p,n,rfl,b,j⟩).reads I.hok g;exact SeqAt.notIn_tuple_reads c f i l k ⟨.bl _,H,I,rfl,q⟩
def b3j(_ j:Int):Prop:=0<j/\j<2 ^ 64
def a89:OpR X (fV .FloorDiv) (rI b3j λi j=>.int (i / j)):=opI λi j _ _ _ _ _ a q=>by
 have c:(0:Int)<j:=a.1;have d:j<2 ^ 64:=a.2;refine floordiv_int (by lia) ?_ (.inl (PyProof.noPylong_of_log2 ?_))
 ·rw[Int.fdiv_eq_ediv_of_nonneg i (by lia)];exact q
 ·have b:j.natAbs<2 ^ 64:=by lia
  have e:=(Nat.log2_lt (by lia)).mpr b
  lia
def rIsT(K:Fg):List V->Hp->VK->Prop:=λxs H Q=>∃x T t b,xs=[x,.ty T]/\TyOf K H x t/\PySem.W.kitOne K t (.type T)=some b/\Q (.bl b) H
def a9a:CallR X (.builtin "isinstance") (rIsT X.K):=by
 intro c s σ H j k Q I r h;obtain⟨x,T,t,b,rfl,i,e,q⟩:=h;obtain⟨u,g,rfl,f,a⟩:=a6T r;cases (a);exact a6Z I f i e λd=>⟨.bl b,H,I.tok d,rfl,q⟩
end
section
variable{X:Cx}{E:XK}
end
section
variable{X:Cx}{E:XK}
end
end L2
namespace L2
open PySem PySem.Spec PySem.Calls PyProof.Rows PySem.W
structure ExK (K:Frag) (D:Addr):Prop where
 cls:(clsIn K D).isSome=true
 ga:findIn K (.ref D) "__getattribute__"=some (some (.builtin "BaseException.__getattribute__"))
 hk:findIn K (.ref D) "__getattr__"=some none
 ha:findIn K (.ref D) "__class__"=some (some (.builtin "object.__class__"))
 hn:specialIn K (.builtin "object.__class__") "__get__"=some (some (.builtin "getset_descriptor.__get__"))
 tk:takesIn K (.builtin "object.__class__")=some true
 hm:mroIn K D (.type "object")=some true
 hb:mroIn K D (.type "BaseException")=some true
section
variable{prog:fK}{w:World}{A:Around}{E:Value->Shared->Prop}{s:Shared}{K:Frag}{x D:Addr}{ox:Obj}
def ExK.find(k:ExK K D):findObj K D none "__class__"=some (.bind (.builtin "getset_descriptor.__get__") (.builtin "object.__class__")):=by
 obtain⟨b,a⟩:=eJ.mp k.cls;unfold findObj;rw[a,eM,k.ha,eM];simp[k.hn,k.tk]
end
end L2
namespace L2
open PySem PySem.Spec PyProof.Rows
section
variable{X:Cx}{pins:List (Addr×Obj)}{σ σ':St}{H:Hp}{s:Shared}
def Inv.lk(I:Inv X pins σ H s)(k:Lk (frs X.stack) ex s.heap h')(hx:∀b,ex b->X.s₀.heap.get? b=none/\H b=none/\(∀x c,X.env.cells.lookup x=some c->c≠b)/\∀p∈X.pn++pins,p.1≠b)
  (hl:∃m,h'.Ns X.env.locals m/\∀(i:Nat)(x:Str)(v:V),X.N[i]?=some x->σ'[i]?=some (some v)->Vis X.env.scope x->∃u,RelV v u/\Look X.env h' m x u) (hn:σ'.length=σ.length):Inv X pins σ' H { s with heap:=h',toks:=t' }:=by
 refine⟨I.ok,I.os,I.bare,I.base.lk k (λb a=>?_) (λb a=>.inr (hx b a).1),hl,λx c e=>?_,I.free,I.freeC,λp g=>?_,I.hok.lk k I.stkFree λb a=>(hx b a).2.1,hn.trans I.len⟩
 ·rcases bf.mp (I.stkSub b a) with z |z
  ·rw[z];exact .inr (Heap.get?_none_of_le I.ok.above)
  ·simp_all
 ·obtain⟨v,o,l,n⟩:=I.cell x c e;obtain⟨r,d⟩:=k.slot c o l λz=>(hx c z).2.2.1 x c e rfl;exact⟨v,_,d,n⟩
 ·obtain⟨d,q,f,h,j⟩:=I.pin p g;refine⟨k.keep _ _ d (λz=>?_) (λz=>(hx _ z).2.2.2 p g rfl),q,f,h,j⟩;rcases bf.mp (I.stkSub _ z) with z |z
  ·exact f z
  ·exact h z
abbrev Cx.hnd(X:Cx)(e:Addr)(oe:Obj):Cx:={ X with A:=X.A.mark (some (.ref e)),calm:=false,pn:=(e,oe)::X.pn,xe:=λ_ _=>False }
noncomputable def Inv.hnd(I:Inv X pins σ H s)(h1:s.heap.get? e=some oe)(h2:H e=none)(h3:e≠X.env.locals)(h4:e∉X.fs)(h5:∀v,oe.data≠.cell v):Inv (X.hnd e oe) pins σ H s:=
 ⟨⟨I.ok.mod,I.ok.kind,I.ok.glob,I.ok.blt,I.ok.above,I.ok.inj,I.ok.has,I.ok.cab,(λz=>nomatch z),I.ok.frames,I.ok.stk,I.ok.exf,I.ok.bs,I.ok.bsz,I.ok.noex,I.ok.exfs,I.ok.funs,I.ok.frf⟩,I.os,I.bare,I.base,I.loc,I.cell,I.free,I.freeC,(λp a=>by
  rcases bf.mp (a) with rfl |a
  ·exact⟨h1,h2,h3,h4,h5⟩
  ·exact I.pin p a),I.hok,I.len⟩
end
section
variable{X:Cx}{k:Nat}{f C D:Addr}{fd:fY}{ps:List Str}{sp:Sp}{x n:Str}{p pos np hpos tpos:Pos}{e ce:Expr}{es:List Expr}{t:TA}
end
abbrev a19(c:Addr)(q:Str):HO:=.ext λh=>h.CodeRec (.ref c) q
def TabO(H:Hp)(p:Pos)(q:Str)(ps:Array Value):Prop:=ps=#[]\/∃c oc,ps=#[rawInt p.line,rawInt p.col,.ref c]/\H c=some (.frz oc (a19 c q))
def Tab(H:Hp)(P:Addr)(p:Pos)(q:Str):Prop:=∃ps,H P=some (.tbl ps)/\TabO H p q ps
def Tab.stay{H H':Hp}{P:Addr}{p:Pos}{q:Str}(f:∀b o c,H b=some (.frz o (a19 c q))->H' b=some (.frz o (a19 c q)))(e:H' P=H P)(h:Tab H P p q):Tab H' P p q:=by
 obtain⟨ps,g,h⟩:=h;refine⟨ps,e.trans g,?_⟩;rcases h with h |⟨c,oc,h,k⟩
 ·exact .inl h
 ·exact .inr ⟨c,oc,h,f _ _ _ k⟩
end L2
namespace L3
open PySem PySem.Spec PyProof.Rows L2
inductive Z where
 |non |bl (b:Bool) |int (i:Int) |str (x:Str) |ref (a:Addr) |ty (n:String) |scr (a:Addr) (ns:List Int)
 |tup (ws:List Z)
mutual
def eqZ:Z->Z->Bool
 |.non,.non=>true
 |.bl a,.bl b=>a==b
 |.int a,.int b=>decide (a=b)
 |.str a,.str b=>decide (a=b)
 |.ref a,.ref b=>decide (a=b)
 |.ty a,.ty b=>decide (a=b)
 |.scr a ns,.scr b ms=>decide (a=b)&&decide (ns=ms)
 |.tup a,.tup b=>eqZs a b
 |_,_=>false
def eqZs:List Z->List Z->Bool
 |[],[]=>true
 |a::as,b::bs=>eqZ a b&&eqZs as bs
 |_,_=>false
end
mutual
theorem a7i:∀x y:Z,eqZ x y=true↔x=y
 |.tup a,y=>by
  cases y with
  |tup b=>simp only[eqZ,Z.tup.injEq];exact a5n a b
  |_=>simp[eqZ]
 |.non,y=>by cases y<;>simp[eqZ]
 |.bl _,y=>by cases y<;>simp[eqZ]
 |.int _,y=>by cases y<;>simp[eqZ]
 |.str _,y=>by cases y<;>simp[eqZ]
 |.ref _,y=>by cases y<;>simp[eqZ]
 |.ty _,y=>by cases y<;>simp[eqZ]
 |.scr _ _,y=>by cases y<;>simp[eqZ]
theorem a5n:∀x y:List Z,eqZs x y=true↔x=y
 |[],y=>by cases y<;>simp[eqZs]
 |a::as,y=>by
  cases y with
  |nil=>simp[eqZs]
  |cons b bs=>simp only[eqZs,bS,ci.injEq,a7i a b,a5n as bs]
end
instance:DecidableEq Z:=λx y=>decidable_of_iff _ (a7i x y)
section
variable{K:Fg}{H H' H1 H2:Hp}{a p:Addr}{xs:List V}
def Fz(K:Fg)(H:Hp)(a:Addr)(xs:List V):Prop:=
 (∃o,H a=some (.frz o (.lst xs)))\/∃(o:Obj)(its:Array Value)(n:Nat),K.lookup a=some o/\o.cls=.type "list"/\o.dict=none/\o.data=.seq its n/\its.size<=fG/\Vals xs its.toList
def Fz.sq(h:Fz K H a xs):SqL K H a xs:=by
 rcases h with ⟨o,h⟩ |h
 ·exact .inl (.inr ⟨o,h⟩)
 ·exact .inr h
def Fz.of(hO:Only H)(h:SqL K H a xs):Fz K H a xs:=by
 rcases h with (h |h) |h
 ·rcases hO a with z |⟨o,ys,z⟩
  ·grind
  ·simp_all
 ·exact .inl h
 ·exact .inr h
structure TW (K:Fg) (H H':Hp):Prop where
 tup:∀a xs,H a=some (.tup xs)->H' a=some (.tup xs)
 frz:∀a xs,Fz K H a xs->Fz K H' a xs
structure TK (K:Fg) (H H':Hp):Prop where
 tup:∀a xs,H a=some (.tup xs)->H' a=some (.tup xs)
 frz:∀a xs,Fz K H a xs->Fz K H' a xs
 frd:∀a o u,H a=some (.frz o u)->H' a=some (.frz o u)
def TK.refl(K:Fg)(H:Hp):TK K H H:=⟨λ_ _ h=>h,λ_ _ h=>h,λ_ _ _ h=>h⟩
def TK.trans(a:TK K H H1)(b:TK K H1 H2):TK K H H2:=⟨λc d h=>b.tup c d (a.tup c d h),λc d h=>b.frz c d (a.frz c d h),λc o u h=>b.frd c o u (a.frd c o u h)⟩
noncomputable def TK.upd(h:∀xs,H p≠some (.tup xs))(h2:∀o u,H p≠some (.frz o u)):TK K H (L2.upd H p o):=by
 refine⟨λc b e=>?_,λc b e=>?_,λc a u e=>by rw[a0e (by rintro rfl;exact h2 _ _ e)];exact e⟩
 ·rw[a0e (by rintro rfl;exact h _ e)];exact e
 ·rcases e with ⟨a,e⟩ |e
  ·exact .inl ⟨a,by rw[a0e (by rintro rfl;exact h2 _ _ e)];exact e⟩
  ·exact .inr e
def TK.new(h:H p=none):TK K H (L2.upd H p o):=.upd (λa e=>by rw[h]at e;cases e) (λo u e=>by rw[h]at e;cases e)
def TK.lst{o:HO}(h:H p=some (.lst xs)):TK K H (L2.upd H p o):=by simp_all[upd]
def TK.dK{o:HO}{kvs:List (Key×V)}(h:H p=some (.dK kvs)):TK K H (L2.upd H p o):=by simp_all[upd]
def TK.ins{o:HO}{C dx:Addr}{fs:List (Str×V)}(h:H p=some (.ins C dx fs)):TK K H (L2.upd H p o):=by simp_all[upd]
end
mutual
def Rep(K:Fg)(H:Hp):Z->V->Prop
 |.non,v=>v=.non
 |.bl b,v=>v=.bl b
 |.int i,v=>v=.int i
 |.str x,v=>v=.str x
 |.ref a,v=>v=.ref a
 |.ty n,v=>v=.ty n
 |.scr a ns,v=>v=.ref a/\Fz K H a (ns.map V.int)
 |.tup ws,v=>∃a vs,v=.ref a/\H a=some (.tup vs)/\Reps K H ws vs
def Reps(K:Fg)(H:Hp):List Z->List V->Prop
 |[],vs=>vs=[]
 |w::ws,vs=>∃v r,vs=v::r/\Rep K H w v/\Reps K H ws r
end
section
variable{K:Fg}{H H':Hp}
def a0u:Rep K H .non v=(v=.non):=by unfold Rep;rfl
def a0q:Rep K H (.bl b) v=(v=.bl b):=by unfold Rep;rfl
def a0k:Rep K H (.int i) v=(v=.int i):=by unfold Rep;rfl
def a0r:Rep K H (.str x) v=(v=.str x):=by unfold Rep;rfl
def a0j:Rep K H (.ref a) v=(v=.ref a):=by unfold Rep;rfl
def a7j:Rep K H (.ty n) v=(v=.ty n):=by unfold Rep;rfl
def a2a:Rep K H (.scr a ns) v=(v=.ref a/\Fz K H a (ns.map V.int)):=by unfold Rep;rfl
def a0V:Rep K H (.tup ws) v=(∃a vs,v=.ref a/\H a=some (.tup vs)/\Reps K H ws vs):=by conv=>lhs;unfold Rep
def a0n:Reps K H [] vs=(vs=[]):=by unfold Reps;rfl
def a0x:Reps K H (w::ws) vs=(∃v r,vs=v::r/\Rep K H w v/\Reps K H ws r):=by conv=>lhs;unfold Reps
mutual
theorem Rep.monoW(t:TW K H H'):∀(w:Z)(v:V),Rep K H w v->Rep K H' w v
 |.tup ws,v,h=>by
  rw[a0V]at h ⊢;obtain⟨a,vs,e,h,r⟩:=h;exact⟨a,vs,e,t.tup _ _ h,Reps.monoW t ws vs r⟩
 |.scr a ns,v,h=>by
  rw[a2a]at h ⊢;exact⟨h.1,t.frz _ _ h.2⟩
 |.non,v,h=>by rw[a0u]at h ⊢;exact h
 |.bl _,v,h=>by rw[a0q]at h ⊢;exact h
 |.int _,v,h=>by rw[a0k]at h ⊢;exact h
 |.str _,v,h=>by rw[a0r]at h ⊢;exact h
 |.ref _,v,h=>by rw[a0j]at h ⊢;exact h
 |.ty _,v,h=>by rw[a7j]at h ⊢;exact h
theorem Reps.monoW(t:TW K H H'):∀(ws:List Z)(vs:List V),Reps K H ws vs->Reps K H' ws vs
 |[],vs,h=>by rw[a0n]at h ⊢;exact h
 |w::ws,vs,h=>by
  rw[a0x]at h ⊢;obtain⟨v,r,e,h1,h2⟩:=h;exact⟨v,r,e,Rep.monoW t w v h1,Reps.monoW t ws r h2⟩
end
def Rep.mono(t:TK K H H')(w:Z)(v:V)(h:Rep K H w v):Rep K H' w v:=Rep.monoW ⟨t.tup,t.frz⟩ w v h
def Reps.mono(t:TK K H H')(ws:List Z)(vs:List V)(h:Reps K H ws vs):Reps K H' ws vs:=Reps.monoW ⟨t.tup,t.frz⟩ ws vs h
def Reps.cons{w:Z}{v:V}{ws:List Z}{vs:List V}(a:Rep K H w v)(b:Reps K H ws vs):Reps K H (w::ws) (v::vs):=by rw[a0x];exact⟨v,vs,rfl,a,b⟩
def Reps.nil:Reps K H [] []:=by rw[a0n]
def Reps.length:∀{ws:List Z}{vs:List V},Reps K H ws vs->ws.length=vs.length:=by intro z0;induction z0 with
 |nil=>intro vs h;rw[a0n]at h;rw[h];rfl
 |cons w ws I0=>
  intro vs h;obtain⟨v,r,e,_,a⟩:=h;rw[e,bp,bp,I0 a]
def Reps.get:∀{ws:List Z}{vs:List V}{i:Nat}{w:Z},Reps K H ws vs->ws[i]?=some w->∃v,vs[i]?=some v/\Rep K H w v:=by intro z0;induction z0 with
 |nil=>intro _ _ _ _ e;simp at e
 |cons w ws I0=>
  intro vs i x h e;obtain⟨v,r,rfl,b,a⟩:=h;cases i with
  |zero=>simp at e;subst e;exact⟨v,rfl,b⟩
  |succ i=>simpa using I0 a (by simp_all)
def Reps.tog{i:Nat}(h:Reps K H ws vs)(e:vs[i]?=some v):∃w,ws[i]?=some w/\Rep K H w v:=by
 have c:=h.length;have a:i<ws.length:=by grind
 obtain⟨d,b,r⟩:=h.get (bh a);rw[e]at b;cases b;exact⟨_,bh a,r⟩
def Reps.append:∀{ws ws':List Z}{vs vs':List V},Reps K H ws vs->Reps K H ws' vs'->Reps K H (ws++ws') (vs++vs'):=by intro z0;induction z0 with
 |nil=>intro _ vs _ h h';rw[a0n]at h;subst h;exact h'
 |cons w ws I0=>
  intro _ vs _ h h';obtain⟨v,r,rfl,a,b⟩:=h;exact .cons a (I0 b h')
theorem Reps.drop:∀{ws:List Z}{vs:List V}(n:Nat),Reps K H ws vs->Reps K H (ws.drop n) (vs.drop n)
 |[],vs,n,h=>by rw[a0n]at h;subst h;simpa using Reps.nil
 |w::ws,vs,0,h=>h
 |w::ws,vs,n+1,h=>by
  obtain⟨v,r,rfl,b,a⟩:=h;exact Reps.drop n a
theorem Reps.take:∀{ws:List Z}{vs:List V}(n:Nat),Reps K H ws vs->Reps K H (ws.take n) (vs.take n)
 |[],vs,n,h=>by rw[a0n]at h;subst h;simpa using Reps.nil
 |w::ws,vs,0,h=>by simpa using Reps.nil
 |w::ws,vs,n+1,h=>by
  obtain⟨v,r,rfl,a,b⟩:=h;exact .cons a (Reps.take n b)
def Reps.set(r:Rep K H w v):∀{ws:List Z}{vs:List V}(i:Nat),Reps K H ws vs->Reps K H (ws.set i w) (vs.set i v):=by intro z0;induction z0 with
 |nil=>intro vs i h;rw[a0n]at h;subst h;simpa using Reps.nil
 |cons x ws I0=>
  intro vs i h;obtain⟨y,s,rfl,b,a⟩:=h;cases i with
  |zero=>exact .cons r a
  |succ i=>exact .cons b (I0 i a)
def Reps.reverse:∀{ws:List Z}{vs:List V},Reps K H ws vs->Reps K H ws.reverse vs.reverse:=by intro z0;induction z0 with
 |nil=>intro vs h;rw[a0n]at h;subst h;exact Reps.nil
 |cons x ws I0=>
  intro vs h;obtain⟨y,s,rfl,b,a⟩:=h;rw[du,du];exact (I0 a).append (.cons b .nil)
def a7k:∀{ns:List Int}{vs:List V},Reps K H (ns.map Z.int) vs->vs=ns.map V.int:=by intro z0;induction z0 with
 |nil=>intro vs h;rw[bB,a0n]at h;subst h;rfl
 |cons n ns I0=>
  intro vs h;obtain⟨v,r,rfl,a,b⟩:=h;rw[a,I0 b];rfl
def a1O:∀(ns:List Int),Reps K H (ns.map Z.int) (ns.map V.int):=by intro z0;induction z0 with
 |nil=>exact Reps.nil
 |cons n ns I0=>exact .cons (by rw[a0k]) (I0)
def Reps.one(h:Reps K H [w] vs):∃v,vs=[v]/\Rep K H w v:=by
 obtain⟨v,r,rfl,b,a⟩:=h;exact⟨v,by rw[a],b⟩
def Reps.two(h:Reps K H [w,w'] vs):∃v v',vs=[v,v']/\Rep K H w v/\Rep K H w' v':=by
 obtain⟨v,r,rfl,c,a⟩:=h;obtain⟨d,rfl,b⟩:=a.one;exact⟨v,d,rfl,c,b⟩
end
inductive O where
 |lst (ws:List Z)
 |dK (kvs:List (Key×Z))
 |ins (C dx:Addr) (fs:List (Str×Z))
 |dF (kvs:List (Key×Z))
 |dT (ks:List (List Key))
 |tab (p:Pos) (q:Str)
abbrev Hq:=Addr->Option O
noncomputable def put(G:Hq)(a:Addr)(o:O):Hq:=λb=>if b=a then some o else G b
def a0a:put G a o a=some o:=by unfold put;rw[if_pos rfl]
def a0f(h:b≠a):put G a o b=G b:=by unfold put;rw[if_neg h]
def a0Q:put (put G a o) a u=put G a u:=by
 funext b;unfold put;split<;>rfl
def a0b{G:Hq}(h:G a=some o)(h':G b=none):a≠b:=by
 intro e;subst e;rw[h]at h';cases h'
def a0c(h:G b=some u)(n:G a=none):put G a o b=some u:=(a0f (a0b h n))▸h
def ROb(K:Fg)(H:Hp)(a:Addr):O->Prop
 |.lst ws=>∃vs,H a=some (.lst vs)/\Reps K H ws vs
 |.dK kvs=>∃us,H a=some (.dK us)/\us.map (·.1)=kvs.map (·.1)/\Reps K H (kvs.map (·.2)) (us.map (·.2))
 |.ins C dx fs=>∃gs,H a=some (.ins C dx gs)/\gs.map (·.1)=fs.map (·.1)/\Reps K H (fs.map (·.2)) (gs.map (·.2))
 |.dF kvs=>∃o us,H a=some (.frz o (.dK us))/\us.map (·.1)=kvs.map (·.1)/\Reps K H (kvs.map (·.2)) (us.map (·.2))
 |.dT ks=>∃us,H a=some (.dT us)/\us.map (·.1)=ks
 |.tab p q=>Tab H a p q
def RH(K:Fg)(G:Hq)(H:Hp):Prop:=∀a o,G a=some o->ROb K H a o
section
variable{K:Fg}{H H':Hp}{G:Hq}{a p:Addr}{o:O}{u:HO}
def ROb.some(h:ROb K H a o):∃u,H a=some u:=by
 cases o with
 |lst ws=>obtain⟨vs,e,_⟩:=h;exact⟨_,e⟩
 |dK kvs=>obtain⟨vs,e,_⟩:=h;exact⟨_,e⟩
 |ins C dx fs=>obtain⟨vs,e,_⟩:=h;exact⟨_,e⟩
 |dF kvs=>obtain⟨ob,vs,e,_⟩:=h;exact⟨_,e⟩
 |dT ks=>obtain⟨vs,e,_⟩:=h;exact⟨_,e⟩
 |tab p q=>obtain⟨ps,e,_⟩:=h;exact⟨_,e⟩
def ROb.stay(t:TK K H H')(e:H' a=H a)(h:ROb K H a o):ROb K H' a o:=by
 cases o with
 |lst ws=>obtain⟨vs,q,r⟩:=h;exact⟨vs,e.trans q,r.mono t⟩
 |dK kvs=>obtain⟨vs,q,n,r⟩:=h;exact⟨vs,e.trans q,n,r.mono t⟩
 |ins C dx fs=>obtain⟨vs,q,n,r⟩:=h;exact⟨vs,e.trans q,n,r.mono t⟩
 |dF kvs=>obtain⟨ob,vs,q,n,r⟩:=h;exact⟨ob,vs,e.trans q,n,r.mono t⟩
 |dT ks=>obtain⟨vs,q,n⟩:=h;exact⟨vs,e.trans q,n⟩
 |tab p q=>exact Tab.stay (λb o c k=>t.frd b o _ k) e h
def RH.out(h:RH K G H)(e:H a=none):G a=none:=by
 cases q:G a with
 |none=>rfl
 |some o=>obtain⟨u,z⟩:=(h a o q).some;rw[e]at z;cases z
def RH.hid(h:RH K G H)(e:H p=none):RH K G (upd H p u):=λb o q=>
 (h b o q).stay (.new e) (a0e (by rintro rfl;obtain⟨u,z⟩:=(h _ o q).some;rw[e]at z;cases z))
def RH.set(h:RH K G H)(t:TK K H (upd H p u))(n:ROb K (upd H p u) p o):RH K (put G p o) (upd H p u):=λb a q=>by
 by_cases hb:b=p
 ·subst hb;rw[a0a]at q;cases q;exact n
 ·rw[a0f hb]at q;exact (h b a q).stay t (a0e hb)
end
abbrev S3:=List (Option Z)
abbrev K3:=Z->Hq->Prop
abbrev C3:=S3->Hq->Prop
abbrev E3:=S3->Hq->K3->Prop
abbrev T3:=S3->Hq->(Bool->Hq->Prop)->Prop
abbrev A3:=S3->Hq->(List Z->Hq->Prop)->Prop
abbrev X3:=C3->K3->C3->C3->S3->Hq->Prop
def ROp(K:Fg)(H:Hp)(ow:Option Z)(ov:Option V):Prop:=∀w,ow=some w->∃v,ov=some v/\Rep K H w v
def RSt(K:Fg)(H:Hp):S3->L2.St->Prop:=Paired (ROp K H)
section
variable{K:Fg}{H H':Hp}
def RSt.mono(t:TK K H H'):∀{σ:S3}{τ:L2.St},RSt K H σ τ->RSt K H' σ τ:=by intro z0 y0 x0;induction x0 with
 |nil=>exact .nil
 |cons r s I0=>exact .cons (λw e=>by obtain⟨v,q,h⟩:=r w e;exact⟨v,q,h.mono t⟩) (I0)
theorem RSt.get:∀{σ:S3}{τ:L2.St}{i:Nat}{w:Z},RSt K H σ τ->σ[i]?=some (some w)->∃v,τ[i]?=some (some v)/\Rep K H w v
 |_,_,_,_,.nil,e=>by simp at e
 |_,_,0,w,.cons r _,e=>by
  obtain⟨v,q,h⟩:=r w (by simpa using e);exact⟨v,by rw[q];rfl,h⟩
 |_,_,i+1,w,.cons _ s,e=>by
  obtain⟨v,q,h⟩:=RSt.get s (by simpa using e);exact⟨v,by simpa using q,h⟩
theorem RSt.set(r:Rep K H w v):∀{σ:S3}{τ:L2.St}(i:Nat),RSt K H σ τ->RSt K H (σ.set i (some w)) (τ.set i (some v))
 |_,_,_,.nil=>.nil
 |_,_,0,.cons _ s=>.cons (λ_ e=>by cases e;exact⟨v,rfl,r⟩) s
 |_,_,i+1,.cons q s=>.cons q (RSt.set r i s)
def RSt.length(h:RSt K H σ τ):σ.length=τ.length:=Paired.length h
def RSt.nones:∀n:Nat,RSt K H (dr n none) (dr n none):=by intro z0;induction z0 with
 |zero=>exact .nil
 |succ n I0=>exact .cons (λ_ e=>nomatch e) (I0)
def RSt.app:∀{σ σ':S3}{τ τ':L2.St},RSt K H σ τ->RSt K H σ' τ'->RSt K H (σ++σ') (τ++τ'):=by intro z0 y0 x0 w0 v0;induction v0 with
 |nil=>intro h;exact h
 |cons r s I0=>intro h;exact .cons r (I0 h)
def RSt.ofVals:∀{ws:List Z}{vs:List V},Reps K H ws vs->RSt K H (ws.map some) (vs.map some):=by intro z0;induction z0 with
 |nil=>intro vs h;rw[a0n]at h;subst h;exact .nil
 |cons w ws I0=>
  intro vs h;obtain⟨v,r,rfl,b,a⟩:=h;exact .cons (λ_ e=>by cases e;exact⟨v,rfl,b⟩) (I0 a)
end
noncomputable def a1l(N:List Str)(ws:List Z):S3:=ws.map some++dr (N.length-ws.length) none
noncomputable def RSt.start{K:Fg}(h:Reps K H ws vs):RSt K H (a1l N ws) (L2.start N vs):=by
 unfold a1l L2.start;rw[h.length];exact (RSt.ofVals h).app (RSt.nones _)
def UpV(K:Fg)(H:Hp)(R:K3)(Q:VK):Prop:=∀w G v H',R w G->Rep K H' w v->RH K G H'->TK K H H'->Q v H'
def UpB(K:Fg)(H:Hp)(R:Bool->Hq->Prop)(Q:Bool->Hp->Prop):Prop:=∀b G H',R b G->RH K G H'->TK K H H'->Q b H'
def UpA(K:Fg)(H:Hp)(R:List Z->Hq->Prop)(Q:List V->Hp->Prop):Prop:=∀ws G vs H',R ws G->Reps K H' ws vs->RH K G H'->TK K H H'->Q vs H'
def UpS(K:Fg)(H:Hp)(R:C3)(Q:L2.St->Hp->Prop):Prop:=∀σ G τ H',R σ G->RSt K H' σ τ->RH K G H'->TK K H H'->Q τ H'
section
variable{K:Fg}{H H':Hp}
def UpV.mono(h:UpV K H R Q)(t:TK K H H'):UpV K H' R Q:=λw G v b q r g a=>h w G v b q r g (t.trans a)
def UpB.mono(h:UpB K H R Q)(t:TK K H H'):UpB K H' R Q:=λw G b q g a=>h w G b q g (t.trans a)
def UpA.mono(h:UpA K H R Q)(t:TK K H H'):UpA K H' R Q:=λw G v b q r g a=>h w G v b q r g (t.trans a)
def UpS.mono(h:UpS K H R Q)(t:TK K H H'):UpS K H' R Q:=λw G v b q r g a=>h w G v b q r g (t.trans a)
end
def low(K:Fg)(t:E3):TE:=fun τ H Q=>∃σ G R,RSt K H σ τ/\RH K G H/\t σ G R/\UpV K H R Q
def low.un{K:Fg}{C:Prop}(z:low K t τ H Q)(f:∀σ G R,(RSt K H σ τ)->(RH K G H)->(t σ G R)->(UpV K H R Q)->C):C:=by obtain⟨σ,G,R,d,b,c,a⟩:=z;exact f _ _ _ d b c a
def lowT(K:Fg)(t:T3):TT:=fun τ H Q=>∃σ G R,RSt K H σ τ/\RH K G H/\t σ G R/\UpB K H R Q
def lowT.un{K:Fg}{C:Prop}(z:lowT K t τ H Q)(f:∀σ G R,(RSt K H σ τ)->(RH K G H)->(t σ G R)->(UpB K H R Q)->C):C:=by obtain⟨σ,G,R,b,a,d,c⟩:=z;exact f _ _ _ b a d c
def lowA(K:Fg)(t:A3):TA:=fun τ H Q=>∃σ G R,RSt K H σ τ/\RH K G H/\t σ G R/\UpA K H R Q
def lowA.un{K:Fg}{C:Prop}(z:lowA K t τ H Q)(f:∀σ G R,(RSt K H σ τ)->(RH K G H)->(t σ G R)->(UpA K H R Q)->C):C:=by obtain⟨σ,G,R,d,b,c,a⟩:=z;exact f _ _ _ d b c a
def lowS(K:Fg)(t:X3):TS:=λD τ H=>∃σ G nx rt bk ct,RSt K H σ τ/\RH K G H/\t nx rt bk ct σ G/\UpS K H nx D.nx/\UpV K H rt D.rt/\UpS K H bk D.bk/\UpS K H ct D.ct
def lowS.un{K:Fg}{C:Prop}(z:lowS K t D τ H)(f:∀σ G nx rt bk ct,(RSt K H σ τ)->(RH K G H)->(t nx rt bk ct σ G)->(UpS K H nx D.nx)->(UpV K H rt D.rt)->(UpS K H bk D.bk)->(UpS K H ct D.ct)->C):C:=by obtain⟨σ,G,k,j,l,i,h,a,g,b,c,d,e⟩:=z;exact f _ _ _ _ _ _ h a g b c d e
structure QE (X:Cx) (e:Expr) (t:E3):Prop where
 p:PE X e (low X.K t)
structure QT (X:Cx) (e:Expr) (t:T3):Prop where
 p:PT X e (lowT X.K t)
structure QW (X:Cx) (e:Expr) (t:T3):Prop where
 p:PW X e (lowT X.K t)
structure QA (X:Cx) (es:List Expr) (t:A3):Prop where
 p:PA X es (lowA X.K t)
structure QS (X:Cx) (st:Stmt) (t:X3):Prop where
 p:PS X st (lowS X.K t)
structure QSs (X:Cx) (st:List Stmt) (t:X3):Prop where
 p:PSs X st (lowS X.K t)
def QW.qt(h:QW X e t):QT X e t:=⟨PW.pt h.p⟩
section
variable{X:Cx}{e:Expr}{es:List Expr}{st:Stmt}{sts:List Stmt}
def a0I(h:PE X e t')(i:∀σ H Q,t σ H Q->t' σ H Q):PE X e t:=λa s σ H Q I q=>h a s σ H Q I (i σ H Q q)
def a7l(h:PT X e t')(i:∀σ H Q,t σ H Q->t' σ H Q):PT X e t:=λa s σ H Q I q=>h a s σ H Q I (i σ H Q q)
def b3k(h:PW X e t')(i:∀σ H Q,t σ H Q->t' σ H Q):PW X e t:=λw a s σ H Q I q=>h w a s σ H Q I (i σ H Q q)
def b3l(h:PA X es t')(i:∀σ H Q,t σ H Q->t' σ H Q):PA X es t:=λb a s σ H Q I q=>h b a s σ H Q I (i σ H Q q)
def a1P(h:PS X st t')(i:∀D σ H,t D σ H->t' D σ H):PS X st t:=λa s σ H D I q=>h a s σ H D I (i D σ H q)
def a7m(h:PSs X sts t')(i:∀D σ H,t D σ H->t' D σ H):PSs X sts t:=λa s σ H D I q=>h a s σ H D I (i D σ H q)
end
abbrev R3:=Z->Z->Hq->K3->Prop
def low2(K:Fg)(r:R3):R2:=λx y H Q=>∃a b G R,Rep K H a x/\Rep K H b y/\RH K G H/\r a b G R/\UpV K H R Q
def low2.un{K:Fg}{C:Prop}(z:low2 K r x y H Q)(f:∀a b G R,(Rep K H a x)->(Rep K H b y)->(RH K G H)->(r a b G R)->(UpV K H R Q)->C):C:=by obtain⟨a,b,G,R,e,h,g,c,d⟩:=z;exact f _ _ _ _ e h g c d
def low1(K:Fg)(r:Z->Hq->K3->Prop):V->Hp->VK->Prop:=λx H Q=>∃a G R,Rep K H a x/\RH K G H/\r a G R/\UpV K H R Q
def low1.un{K:Fg}{C:Prop}(z:low1 K r x H Q)(f:∀a G R,(Rep K H a x)->(RH K G H)->(r a G R)->(UpV K H R Q)->C):C:=by obtain⟨a,G,R,c,e,d,b⟩:=z;exact f _ _ _ c e d b
def lowC(K:Fg)(r:List Z->Hq->K3->Prop):List V->Hp->VK->Prop:=λxs H Q=>∃ws G R,Reps K H ws xs/\RH K G H/\r ws G R/\UpV K H R Q
def lowC.un{K:Fg}{C:Prop}(z:lowC K r xs H Q)(f:∀ws G R,(Reps K H ws xs)->(RH K G H)->(r ws G R)->(UpV K H R Q)->C):C:=by obtain⟨e,G,R,b,d,c,a⟩:=z;exact f _ _ _ b d c a
def lowM(K:Fg)(r:Z->List Z->Hq->K3->Prop):V->List V->Hp->VK->Prop:=λx xs H Q=>∃w ws G R,Rep K H w x/\Reps K H ws xs/\RH K G H/\r w ws G R/\UpV K H R Q
def lowM.un{K:Fg}{C:Prop}(z:lowM K r x xs H Q)(f:∀w ws G R,(Rep K H w x)->(Reps K H ws xs)->(RH K G H)->(r w ws G R)->(UpV K H R Q)->C):C:=by obtain⟨w,g,G,R,a,d,e,b,c⟩:=z;exact f _ _ _ _ a d e b c
def OpQ(X:Cx)(f:Value->Value->Sem Value)(r:R3):Prop:=OpR X f (low2 X.K r)
def UnQ(X:Cx)(f:Value->Sem Value)(r:Z->Hq->K3->Prop):Prop:=UnR X f (low1 X.K r)
def a2b(X:Cx)(f:Value)(r:List Z->Hq->K3->Prop):Prop:=CallR X f (lowC X.K r)
def IxQ(X:Cx)(r:R3):Prop:=IxR X (low2 X.K r)
def MtQ(X:Cx)(id:String)(r:Z->List Z->Hq->K3->Prop):Prop:=MtR X id (lowM X.K r)
def a2c(h:OpR X f r')(i:∀x y H Q,r x y H Q->r' x y H Q):OpR X f r:=λa s σ H x y v u Q I c b q=>h a s σ H x y v u Q I c b (i x y H Q q)
def b5R(h:UnR X f r')(i:∀x H Q,r x H Q->r' x H Q):UnR X f r:=λa s σ H x v Q I b q=>h a s σ H x v Q I b (i x H Q q)
def a1C(h:CallR X f r')(i:∀xs H Q,r xs H Q->r' xs H Q):CallR X f r:=λa s σ H b d Q I c q=>h a s σ H b d Q I c (i b H Q q)
def b3m(h:IxR X r')(i:∀x y H Q,r x y H Q->r' x y H Q):IxR X r:=λa b c s σ H x y v u Q I e d q=>h a b c s σ H x y v u Q I e d (i x y H Q q)
def a40{id:String}(h:MtR X id r')(i:∀x xs H Q,r x xs H Q->r' x xs H Q):MtR X id r:=λa s σ H x b v e Q I d c q=>h a s σ H x b v e Q I d c (i x b H Q q)
def uVar(i:Nat):E3:=fun σ G R=>∃w,σ[i]?=some (some w)/\R w G
def uC(w:Z):E3:=λ_ G R=>R w G
section
variable{X:Cx}{e a b c:Expr}{pos:Pos}{ta tb tc:E3}
def b3n(h:PE X e (tVar i)):QE X e (uVar i):=⟨a0I h fun τ H Q ⟨σ,G,R,c,b,⟨w,e,q⟩,d⟩=>by
 obtain⟨v,a,r⟩:=c.get e;exact⟨v,a,d w G v H q r b (.refl _ _)⟩⟩
def a7n(h:PE X e (tC v))(hr:∀H,Rep X.K H w v):QE X e (uC w):=⟨a0I h fun τ H Q b=>b.un fun σ G R d a q c=>c w G v H q (hr H) a (.refl _ _)⟩
def b3o:QE X (.Constant (.int i) j pos) (uC (.int i)):=a7n b2z λ_=>by rw[a0k]
def q_bl{b j pos}:QE X (.Constant (.bool b) j pos) (uC (.bl b)):=a7n b5p λ_=>by rw[a0q]
def b3p:QE X (.Constant .none j pos) (uC .non):=a7n b2A λ_=>by rw[a0u]
def a7o:QE X (.Constant (.str x) j pos) (uC (.str x)):=a7n b2B λ_=>by rw[a0r]
def q_ty(h:PE X e (tC (.ty n))):QE X e (uC (.ty n)):=a7n h λ_=>by rw[a7j]
def uOp(r:R3)(ta tb:E3):E3:=fun σ G R=>ta σ G λx G1=>tb σ G1 λy G2=>r x y G2 R
def uUn(r:Z->Hq->K3->Prop)(ta:E3):E3:=fun σ G R=>ta σ G λx G1=>r x G1 R
def a5o{K:Fg}(h:low K (uOp r ta tb) τ H Q):tOp (low2 K r) (low K ta) (low K tb) τ H Q:=by
 obtain⟨σ,G,R,f,k,h,o⟩:=h;refine⟨σ,G,_,f,k,h,λw m v p l i b e=>?_⟩;refine⟨σ,m,_,f.mono e,b,l,λn g q s j d c a=>?_⟩;exact⟨w,n,g,R,i.mono a,d,c,j,o.mono (e.trans a)⟩
def b3q{K:Fg}(h:low K (uUn r ta) τ H Q):tUn (low1 K r) (low K ta) τ H Q:=by
 obtain⟨σ,G,R,d,f,h,c⟩:=h;exact⟨σ,G,_,d,f,h,λw e v j g b a i=>⟨w,e,R,b,a,g,c.mono i⟩⟩
def q_op(ho:OpQ X (fV op) r)(ha:QE X a ta)(hb:QE X b tb):QE X (.BinOp a op b pos) (uOp r ta tb):=⟨a0I (b5z ho ha.p hb.p) λ_ _ _=>a5o⟩
def q_un(ho:UnQ X (iN op) r)(ha:QE X a ta):QE X (.UnaryOp op a pos) (uUn r ta):=⟨a0I (b5A ho ha.p) λ_ _ _=>b3q⟩
def b5S(ho:OpQ X (fM op) r)(ha:QE X a ta)(hb:QE X b tb)(hm:gR op b=false):QE X (.Compare a [op] [b] pos) (uOp r ta tb):=⟨a0I (b0U ho ha.p hb.p hm) λ_ _ _=>a5o⟩
def a6i(t:E3):T3:=fun σ G R=>t σ G λx G1=>∃k,x=.bl k/\R k G1
def a3B{K:Fg}(h:lowT K (a6i ta) τ H Q):low K ta τ H λx H'=>∃k,x=.bl k/\Q k H':=by
 obtain⟨σ,G,R,g,f,h,i⟩:=h;refine⟨σ,G,_,g,f,h,λw l v j ⟨k,e,c⟩ a b d=>?_⟩;subst e;exact⟨k,a,i _ _ _ c b d⟩
def a1x(ho:OpQ X (fM op) r)(ha:QE X a ta)(hb:QE X b tb)(hm:gR op b=false):QT X (.Compare a [op] [b] pos) (a6i (uOp r ta tb)):=⟨a7l (b0V ho ha.p hb.p hm) λ_ _ _ h=>a5o (a3B h)⟩
def a7p(r r':R3)(ta tb tc:E3):E3:=fun σ G R=>ta σ G λx G1=>tb σ G1 λy G2=>r x y G2 λz G3=>∃k,z=.bl k/\(if k=true then tc σ G3 λw G4=>r' y w G4 R else R (.bl false) G3)
def a4i{K:Fg}(h:low K (a7p r r' ta tb tc) τ H Q):a6S (low2 K r) (low2 K r') (low K ta) (low K tb) (low K tc) τ H Q:=by
 obtain⟨σ,G,R,g,F,h,p⟩:=h;refine⟨σ,G,_,g,F,h,λw A v N q B l a=>?_⟩;refine⟨σ,A,_,g.mono a,l,q,λm y T L s e j b=>?_⟩;refine⟨w,m,y,_,B.mono b,e,j,s,λz x M S ⟨k,t,f⟩ o d c=>?_⟩;subst t;refine⟨k,o,?_⟩;cases k with
 |false=>exact p _ _ _ _ (by simpa using f) (by rw[a0q]) d ((a.trans b).trans c)
 |true=>
  refine⟨σ,x,_,g.mono ((a.trans b).trans c),d,f,λC E J I D u n i=>?_⟩;exact⟨m,C,E,R,e.mono (c.trans i),u,n,D,p.mono (((a.trans b).trans c).trans i)⟩
def b1e(ho:OpQ X (fM op) r)(ho':OpQ X (fM op') r')(ha:QE X a ta)(hb:QE X b tb)(hc:QE X c tc)
  (hm:iO [op,op'] [b,c]=false:=by with_unfolding_all rfl):QE X (.Compare a [op,op'] [b,c] pos) (a7p r r' ta tb tc):=⟨a0I (a8P ho ho' ha.p hb.p hc.p hm) λ_ _ _=>a4i⟩
def a9b(ho:OpQ X (fM op) r)(ho':OpQ X (fM op') r')(ha:QE X a ta)(hb:QE X b tb)(hc:QE X c tc)
  (hm:iO [op,op'] [b,c]=false:=by with_unfolding_all rfl):QT X (.Compare a [op,op'] [b,c] pos) (a6i (a7p r r' ta tb tc)):=⟨a7l (a8Q ho ho' ha.p hb.p hc.p hm) λ_ _ _ h=>a4i (a3B h)⟩
def uAnd(t u:T3):T3:=fun σ G R=>t σ G λc G1=>if c=true then u σ G1 R else R false G1
def uOr(t u:T3):T3:=fun σ G R=>t σ G λc G1=>if c=true then R true G1 else u σ G1 R
def uNot(t:T3):T3:=fun σ G R=>t σ G λc G1=>R (!c) G1
variable{t u:T3}{rest:List Expr}
def a7q(ha:QT X a t):QW X (.BoolOp .And [a] pos) t:=⟨b0K ha.p⟩
def b1f(ha:QT X a t):QW X (.BoolOp .Or [a] pos) t:=⟨b2D ha.p⟩
def b1g(ha:QT X a t)(hb:QW X (.BoolOp .And (b::rest) pos) u):QW X (.BoolOp .And (a::b::rest) pos) (uAnd t u):=⟨b3k (b2E ha.p hb.p) fun τ H Q l=>l.un fun σ G R f j h g=>by
 refine⟨σ,G,_,f,j,h,λk i m d c e=>?_⟩;cases k with
 |false=>exact g _ _ _ (by simp_all) c e
 |true=>rw[if_pos rfl]at d ⊢;exact⟨σ,i,R,f.mono e,c,d,g.mono e⟩⟩
def q_or(ha:QT X a t)(hb:QW X (.BoolOp .Or (b::rest) pos) u):QW X (.BoolOp .Or (a::b::rest) pos) (uOr t u):=⟨b3k (b5q ha.p hb.p) fun τ H Q l=>l.un fun σ G R f j h g=>by
 refine⟨σ,G,_,f,j,h,λk i m e c d=>?_⟩;cases k with
 |true=>exact g _ _ _ (by simp_all) c d
 |false=>rw[if_neg (by simp)]at e ⊢;exact⟨σ,i,R,f.mono d,c,e,g.mono d⟩⟩
def b0f(ha:QT X a t):QT X (.UnaryOp .Not a pos) (uNot t):=⟨a7l (b2F ha.p) fun τ H Q g=>g.un fun σ G R d f h i=>
 ⟨σ,G,_,d,f,h,λk j l e b c=>i _ _ _ e b c⟩⟩
def b3r(ta tb:E3):E3:=fun σ G R=>ta σ G λx G1=>∃c,x=.bl c/\if c=true then tb σ G1 R else R (.bl false) G1
def uOrV(ta tb:E3):E3:=fun σ G R=>ta σ G λx G1=>∃c,x=.bl c/\if c=true then R (.bl true) G1 else tb σ G1 R
def b5T(ta:E3):E3:=fun σ G R=>ta σ G λx G1=>∃c,x=.bl c/\R (.bl (!c)) G1
def b5U(h:QE X a ta):QE X (.BoolOp op [a] pos) ta:=⟨b2G h.p⟩
def b3s(ha:QE X a ta)(hb:QE X (.BoolOp .And (b::rest) pos) tb):QE X (.BoolOp .And (a::b::rest) pos) (b3r ta tb):=⟨a0I (b2H ha.p hb.p) fun τ H Q l=>l.un fun σ G R g j h i=>by
 refine⟨σ,G,_,g,j,h,λx n v o ⟨k,m,e⟩ f c d=>?_⟩;subst m;refine⟨k,f,?_⟩;cases k with
 |false=>exact i _ _ _ _ (by simpa using e) (by rw[a0q]) c d
 |true=>rw[if_pos rfl]at e ⊢;exact⟨σ,n,R,g.mono d,c,e,i.mono d⟩⟩
def b5V(ha:QE X a ta)(hb:QE X (.BoolOp .Or (b::rest) pos) tb):QE X (.BoolOp .Or (a::b::rest) pos) (uOrV ta tb):=⟨a0I (b5t ha.p hb.p) fun τ H Q m=>m.un fun σ G R g n h i=>by
 refine⟨σ,G,_,g,n,h,λx j v o ⟨k,l,d⟩ f c e=>?_⟩;subst l;refine⟨k,f,?_⟩;cases k with
 |true=>exact i _ _ _ _ (by simpa using d) (by rw[a0q]) c e
 |false=>rw[if_neg (by simp)]at d ⊢;exact⟨σ,j,R,g.mono e,c,d,i.mono e⟩⟩
def b5W(ha:QE X a ta):QE X (.UnaryOp .Not a pos) (b5T ta):=⟨a0I (b2I ha.p) fun τ H Q f=>f.un fun σ G R g d h j=>by
 refine⟨σ,G,_,g,d,h,λx m v n ⟨k,e,i⟩ b c l=>?_⟩;subst e;exact⟨k,b,j _ _ _ _ i (by rw[a0q]) c l⟩⟩
def uIf(t:T3)(ta tb:E3):E3:=fun σ G R=>t σ G λc G1=>if c=true then ta σ G1 R else tb σ G1 R
def q_if(hc:QT X c t)(ha:QE X a ta)(hb:QE X b tb):QE X (.IfExp c a b pos) (uIf t ta tb):=⟨a0I (a8I hc.p ha.p hb.p) fun τ H Q l=>l.un fun σ G R g m h j=>by
 refine⟨σ,G,_,g,m,h,λk i n e f d=>?_⟩;cases k with
 |true=>rw[if_pos rfl]at e ⊢;exact⟨σ,i,R,g.mono d,f,e,j.mono d⟩
 |false=>rw[if_neg (by simp)]at e ⊢;exact⟨σ,i,R,g.mono d,f,e,j.mono d⟩⟩
def tru:Z->Hq->(Bool->Hq->Prop)->Prop
 |.non,G,R=>R false G
 |.bl b,G,R=>R b G
 |.int i,G,R=>R (i != 0) G
 |.str y,G,R=>y.length<=fG/\R ((y.length:Int) != 0) G
 |.tup ws,G,R=>R (!ws.isEmpty) G
 |.scr _ ns,G,R=>R (!ns.isEmpty) G
 |.ref p,G,R=>(∃ws,G p=some (.lst ws)/\R (!ws.isEmpty) G)\/∃kvs,G p=some (.dK kvs)/\R (!kvs.isEmpty) G
 |.ty _,_,_=>False
def uTru(ta:E3):T3:=fun σ G R=>ta σ G λx G1=>tru x G1 R
def a08{α β:Type}{a:List α}{b:List β}(h:a.length=b.length):a.isEmpty=b.isEmpty:=by
 cases a<;>cases b<;>simp_all
def b1h{K:Fg}(h:tru w G R)(r:Rep K H w v)(hg:RH K G H)(up:UpB K H R Q):∃k,TruV K v H k/\Q k H:=by
 cases w with
 |non=>rw[a0u]at r;subst r;exact⟨_,rfl,up _ _ _ h hg (.refl _ _)⟩
 |bl b=>rw[a0q]at r;subst r;exact⟨_,rfl,up _ _ _ h hg (.refl _ _)⟩
 |int i=>rw[a0k]at r;subst r;exact⟨_,rfl,up _ _ _ h hg (.refl _ _)⟩
 |str y=>rw[a0r]at r;subst r;exact⟨_,⟨h.1,rfl⟩,up _ _ _ h.2 hg (.refl _ _)⟩
 |ty n=>exact bg h
 |scr a ns=>rw[a2a]at r;obtain⟨rfl,f⟩:=r;exact⟨!ns.isEmpty,.inl ⟨_,f.sq,by rw[a08 (aT ..).symm]⟩,up _ _ _ h hg (.refl _ _)⟩
 |tup ws=>
  obtain⟨a,d,rfl,e,c⟩:=r;exact⟨!ws.isEmpty,.inr (.inl ⟨d,SqT.of e,by rw[a08 c.length]⟩),up _ _ _ h hg (.refl _ _)⟩
 |ref p=>
  subst r;rcases h with ⟨ws,e,h⟩ |⟨kvs,e,h⟩
  ·obtain⟨d,g,c⟩:=hg p _ e;exact⟨_,.inl ⟨d,SqL.of g,by rw[<- a08 c.length]⟩,up _ _ _ h hg (.refl _ _)⟩
  ·obtain⟨j,g,l,c⟩:=hg p _ e;exact⟨_,.inr (.inr ⟨j,g,by rw[a08 (show kvs.length=j.length by rw[<- aT,c.length,aT])]⟩),up _ _ _ h hg (.refl _ _)⟩
def b5X(ha:QE X a ta)(he:∀whole,isTrue a X.env whole=(do let v <- whole;gB a.pos;gb [v] (truthy v))):QT X a (uTru ta):=⟨a7l (a8R ha.p he) fun τ H Q i=>i.un fun σ G R d f h j=>
 ⟨σ,G,_,d,f,h,λw k v l e g b c=>b1h e g b (j.mono c)⟩⟩
def b3t(ha:QE X a ta)(he:∀whole,isTrue a X.env whole=(do let v <- whole;gB a.pos;gb [v] (truthy v)):=by intro _;rfl):QT X a (a6i ta):=⟨a7l (b2C ha.p he) λ_ _ _ h=>a3B h⟩
end
section
variable{env:Env}{es:List Expr}{pos:Pos}
def b3u:(backTo pos (fL [] env)).any (·.1)=false:=rfl
def b1i(h:fL (e::es) env=(false,eval e env)::fL es env)(r:(backTo pos (fL es env)).any (·.1)=false):(backTo pos (fL (e::es) env)).any (·.1)=false:=by
 rw[h]
 show (false||(backTo pos _).any _)=false
 rw[r];rfl
end
section
variable{X:Cx}{e a b:Expr}{es:List Expr}{pos p2:Pos}{te ta tb:E3}{t:A3}
def q_ix(hr:IxQ X r)(ha:QE X a ta)(hb:QE X b tb)(hs:a66 b):QE X (.Subscript a b pos) (uOp r ta tb):=⟨a0I (b5J hr ha.p hb.p hs) λ_ _ _=>a5o⟩
abbrev O3:=S3->Hq->(Option Int->Hq->Prop)->Prop
def a7r:O3:=λ_ G R=>R none G
def b3v(t:E3):O3:=fun σ G R=>t σ G λx G1=>∃i,x=.int i/\R (some i) G1
def lowO(K:Fg)(t:O3):TO:=fun τ H Q=>∃σ G R,RSt K H σ τ/\RH K G H/\t σ G R/\∀o G' H',R o G'->RH K G' H'->TK K H H'->Q o H'
def lowO.un{K:Fg}{t:O3}{C:Prop}(z:lowO K t τ H Q)(f:∀σ G R,(RSt K H σ τ)->(RH K G H)->(t σ G R)->(∀o G' H',R o G'->RH K G' H'->TK K H H'->Q o H')->C):C:=by obtain⟨σ,G,R,d,b,c,a⟩:=z;exact f _ _ _ d b c a
def QO(X:Cx)(e:Option Expr)(t:O3):Prop:=PO X e (lowO X.K t)
def a9c:QO X none a7r:=by rintro a s τ H Q I ⟨σ,G,R,d,c,h,b⟩;exact b03 a s τ H Q I (b _ _ _ h c (.refl _ _))
def b3w(h:QE X e te):QO X (some e) (b3v te):=by rintro a s τ H Q I ⟨σ,G,R,f,k,q,l⟩;exact b04 h.p a s τ H Q I ⟨σ,G,_,f,k,q,by
 rintro w n v m ⟨i,g,d⟩ b c j;subst g;exact⟨i,b,l _ _ _ d c j⟩⟩
abbrev L3r:=Z->Option Int->Option Int->Hq->K3->Prop
def lowL(K:Fg)(r:L3r):V->Option Int->Option Int->Hp->VK->Prop:=λx lo hi H Q=>∃w G R,Rep K H w x/\RH K G H/\r w lo hi G R/\UpV K H R Q
def lowL.un{K:Fg}{lo hi:Option Int}{C:Prop}(z:lowL K r x lo hi H Q)(f:∀w G R,(Rep K H w x)->(RH K G H)->(r w lo hi G R)->(UpV K H R Q)->C):C:=by obtain⟨w,G,R,a,d,b,c⟩:=z;exact f _ _ _ a d b c
def SlQ(X:Cx)(r:L3r):Prop:=SlR X (lowL X.K r)
def b5Y(h:SlR X r')(i:∀x lo hi H Q,r x lo hi H Q->r' x lo hi H Q):SlR X r:=λa s σ H x v l b j f d Q I c e g k q=>h a s σ H x v l b j f d Q I c e g k (i _ _ _ _ _ q)
def uSl(r:L3r)(te:E3)(tl th:O3):E3:=fun σ G R=>te σ G λx G1=>tl σ G1 λl G2=>th σ G2 λu G3=>r x l u G3 R
def b1j{lo hi:Option Expr}(hr:SlQ X r)(he:QE X e te)(hl:QO X lo tl)(hu:QO X hi th):QE X (.Subscript e (.Slice lo hi none p2) pos) (uSl r te tl th):=⟨a0I (a8Y hr he.p hl hu) fun τ H Q q=>q.un fun σ G R c k h y=>
 ⟨σ,G,_,c,k,h,λw m v z j t f b=>⟨σ,m,_,c.mono b,f,j,λl o A s d a=>⟨σ,o,_,c.mono (b.trans a),d,s,λu x B n i g=>
  ⟨w,x,R,t.mono (a.trans g),i,n,y.mono ((b.trans a).trans g)⟩⟩⟩⟩⟩
def uNil:A3:=λ_ G R=>R [] G
def a2z(ta:E3)(tr:A3):A3:=fun σ G R=>ta σ G λx G1=>tr σ G1 λxs G2=>R (x::xs) G2
def a0y:QA X [] uNil:=⟨b3l b0c fun τ H Q b=>b.un fun σ G R d a h c=>c _ _ _ _ h .nil a (.refl _ _)⟩
def b3x(ha:QE X e te)(hr:QA X es t)(hs:fL (e::es) X.env=(false,eval e X.env)::fL es X.env):QA X (e::es) (a2z te t):=⟨b3l (a60 ha.p hr.p hs) fun τ H Q i=>i.un fun σ G R hs l h o=>
 ⟨σ,G,_,hs,l,h,λw j v H1 g m f d=>⟨σ,j,_,hs.mono d,f,g,λws G2 vs H2 n k c b=>o _ _ _ _ n (.cons (m.mono b) k) c (d.trans b)⟩⟩⟩
def uTup(t:A3):E3:=fun σ G R=>t σ G λxs G1=>xs.length<=fG/\R (.tup xs) G1
def uLst(t:A3):E3:=fun σ G R=>t σ G λxs G1=>xs.length<=fG/\∀p,G1 p=none->R (.ref p) (put G1 p (.lst xs))
def b5Z(h:QA X es t):QE X (.Tuple es x1 pos) (uTup t):=⟨a0I (b23 h.p) fun τ H Q k=>k.un fun σ G R f j h d=>
 ⟨σ,G,_,f,j,h,by rintro o m l n ⟨i,g⟩ b c e;exact⟨by rw[<- b.length];exact i,λp a=>d _ _ _ _ g (by rw[a0V];exact⟨p,l,rfl,a0d,b.mono (.new a)⟩) (c.hid a) (e.trans (.new a))⟩⟩⟩
def a0J{K:Fg}(r:Reps K H ws vs)(t:TK K H (upd H p (.lst vs))):ROb K (upd H p (.lst vs)) p (.lst ws):=⟨vs,a0d,r.mono t⟩
def b50(h:QA X es t):QE X (.List es pos) (uLst t):=⟨a0I (b24 h.p) fun τ H Q g=>g.un fun σ G R d k h i=>
 ⟨σ,G,_,d,k,h,by rintro m l o n ⟨f,e⟩ c b j;exact⟨by rw[<- c.length];exact f,λp a=>i _ _ _ _ (e p (b.out a)) (by rw[a0j]) (b.set (.new a) (a0J c (.new a))) (j.trans (.new a))⟩⟩⟩
def uCB(r:List Z->Hq->K3->Prop)(t:A3):E3:=fun σ G R=>t σ G λws G1=>r ws G1 R
def b0g{K:Fg}(h:low K (uCB r t) τ H Q):tCB (lowC K r) (lowA K t) τ H Q:=by
 obtain⟨σ,G,R,e,j,h,i⟩:=h;exact⟨σ,G,_,e,j,h,λc g k l f b a d=>⟨c,g,R,b,a,f,i.mono d⟩⟩
variable{x:Str}{p:Pos}{id T:String}{r:List Z->Hq->K3->Prop}
def b1k(hc:a2b X (.builtin id) r)(hg:Gl X x)(hm:X.mg x=none)(hv:gg x=some (.builtin id))(ha:QA X (e::es) t)(hn:x≠"__name__")(hdb:(x==("__debug__":Str))=false)
  (he:fL (e::es) X.env=(false,eval e X.env)::fL es X.env) (hpl:(backTo pos (fL es X.env)).any (·.1)=false):QE X (.Call (.Name x p) (e::es) [] pos) (uCB r t):=⟨a0I (a8W hc hg hm hv ha.p hn hdb he hpl) λ_ _ _=>b0g⟩
def a9d(hc:a2b X (.type T) r)(hg:Gl X x)(hm:X.mg x=none)(hv:gg x=some (.type T))(ha:QA X (e::es) t)(hn:x≠"__name__")(hdb:(x==("__debug__":Str))=false)
  (he:fL (e::es) X.env=(false,eval e X.env)::fL es X.env) (hpl:(backTo pos (fL es X.env)).any (·.1)=false):QE X (.Call (.Name x p) (e::es) [] pos) (uCB r t):=⟨a0I (a63 hc hg hm hv ha.p hn hdb he hpl) λ_ _ _=>b0g⟩
def tyZ(T:String)(x:Z)(G:Hq):Prop:=match x with
 |.str _=>T="str"
 |.int _=>T="int"
 |.ref p=>(T="list"/\∃ws,G p=some (.lst ws))\/(T="dict"/\∃kvs,G p=some (.dK kvs)\/G p=some (.dF kvs))
 |.scr _ _=>T="list"
 |_=>False
def b1l{K:Fg}(h:tyZ T w G)(r:Rep K H w v)(hg:RH K G H):tyV K T v H:=by
 cases w with
 |str y=>rw[a0r]at r;subst r;exact h
 |int y=>rw[a0k]at r;subst r;exact h
 |ref q=>
  subst r;rcases h with ⟨e,ws,g⟩ |⟨e,kvs,g⟩
  ·obtain⟨b,a,_⟩:=hg q _ g;exact .inl ⟨e,b,SqL.of a⟩
  ·rcases g with g |g
   ·obtain⟨b,a,_⟩:=hg q _ g;exact .inr (.inr (.inl ⟨e,.inl ⟨b,a⟩⟩))
   ·obtain⟨c,b,a,_⟩:=hg q _ g;exact .inr (.inr (.inl ⟨e,.inr (.inr ⟨c,b,a⟩)⟩))
 |scr q ns=>rw[a2a]at r;obtain⟨rfl,f⟩:=r;exact .inl ⟨h,_,f.sq⟩
 |_=>exact bg h
def uBM(T:String)(r:Z->List Z->Hq->K3->Prop)(to:E3)(t:A3):E3:=fun σ G R=>to σ G λx G1=>tyZ T x G1/\t σ G1 λxs G2=>r x xs G2 R
variable{o:Expr}{to:E3}{name:Str}{apos cpos:Pos}{rm:Z->List Z->Hq->K3->Prop}
def q_bm(pa:PlainAttrs T)(slot:Slot T name id)(hty:typeOf (.builtin id)=pure (.type "method_descriptor"))(hm:MtQ X id rm)(ho:QE X o to)(ha:QA X (e::es) t)
  (hbase:gE o name X.env (eval o X.env)=eval o X.env:=by rfl)
  (hfew:((backTo cpos (fL (e::es) X.env)).all (λx=>!x.1)&&(ir cpos (iu [] X.env)).all (λx=>x.1.isSome)
   && decide ((e::es).length+([]:List iw).length+(if ([]:List iw).isEmpty then 0 else 1)<30))=true:=by rfl)
  (hline:(apos.endLine==cpos.line)=true:=by rfl) (hs:fL (e::es) X.env=(false,eval e X.env)::fL es X.env:=by rfl) (hplain:(backTo cpos (fL es X.env)).any (·.1)=false:=by rfl) :
  QE X (.Call (.Attribute o name apos) (e::es) [] cpos) (uBM T rm to t):=⟨a0I (b5L pa slot hty hm ho.p ha.p hbase hfew hline hs hplain) fun τ H Q q=>q.un fun σ G R hs r h u=>
  ⟨σ,G,_,hs,r,h,by rintro w j v H1 ⟨m,n⟩ d a g;exact⟨b1l m d a,σ,j,_,hs.mono g,a,n,λs i vs H2 k l f c=>⟨w,s,i,R,d.mono c,l,f,k,u.mono (g.trans c)⟩⟩⟩⟩
abbrev P3:=List Z->Hq->K3->Prop
def lowP(K:Fg)(sp:P3):Sp:=λvs H Q _=>lowC K sp vs H Q
def a9e(sp:P3)(t:A3):E3:=fun σ G R=>t σ G λws G1=>sp ws G1 R
variable{k:Nat}{f:Addr}{fd:fY}{ps:List Str}{sp:P3}
def b3y(F:FnOk X.prog X.w X.K X.mg X.base CX0 k f fd ps (lowP X.K sp))(hr:Room k X.A)(hg:Gl X x)(hm:X.mg x=some (.ref f))(hk:PySem.W.keepIn X.K (.ref f)=true)(hb:Binds X.K fd ps [])(ha:QA X (e::es) t)
  (hdb:(x==("__debug__":Str))=false) (he:fL (e::es) X.env=(false,eval e X.env)::fL es X.env) (hpl:(backTo pos (fL es X.env)).any (·.1)=false) :
  QE X (.Call (.Name x p) (e::es) [] pos) (a9e sp t):=⟨a0I (b0Z F hr hg hm hk hb .nil b07 ha.p hdb he hpl) fun τ H Q d=>d.un fun σ G R i hg h m=>⟨σ,G,_,i,hg,h,λc j vs H1 l g b n=>⟨c,j,R,by rw[bN];exact g,b,l,m.mono n⟩⟩⟩
end
section
variable{X:Cx}{e c tg:Expr}{st:Stmt}{rest sa sb:List Stmt}{pos:Pos}{te:E3}{t u:X3}{tc:T3}
def a9f:X3:=λnx _ _ _ σ G=>nx σ G
def uSeq(t u:X3):X3:=λnx rt bk ct σ G=>t (u nx rt bk ct) rt bk ct σ G
def a1Q:QSs X [] a9f:=⟨a7m b0L λD τ H a=>a.un fun σ G g e k f d b h c i j l=>c _ _ _ _ h d b (.refl _ _)⟩
def a0g(h1:QS X st t)(h2:QSs X rest u):QSs X (st::rest) (uSeq t u):=⟨a7m (a5k h1.p h2.p) λD τ H q=>q.un fun σ G k j c e l o h n d b g=>
 ⟨σ,G,_,j,c,e,l,o,h,fun σ' r τ' s m f i a=>⟨σ',r,k,j,c,e,f,i,m,n.mono a,d.mono a,b.mono a,g.mono a⟩,d,b,g⟩⟩
def a0s(h1:QS X st t):QSs X [st] t:=⟨b0M h1.p⟩
def uCut(t u:X3):X3:=λnx rt bk ct σ G=>∃M:C3,t M rt bk ct σ G/\∀σ' G',M σ' G'->u nx rt bk ct σ' G'
def a3C(h1:QS X st t)(h2:QSs X rest u):QSs X (st::rest) (uCut t u):=⟨a7m (a5k h1.p h2.p) λD τ H v=>v.un fun σ G n d j b q m l s g e i=>by
 obtain⟨M,h,k⟩:=l;exact⟨σ,G,M,d,j,b,q,m,h,fun σ' o τ' w r f c a=>⟨σ',o,n,d,j,b,f,c,k _ _ r,s.mono a,g.mono a,e.mono a,i.mono a⟩,g,e,i⟩⟩
def b3z:X3:=λ_ _ bk _ σ G=>bk σ G
def b51:X3:=λ_ _ _ ct σ G=>ct σ G
def b3A:QS X (.Pass pos) a9f:=⟨a1P b0N λD τ H d=>d.un fun σ G e g i l a b h c k j f=>c _ _ _ _ h a b (.refl _ _)⟩
def b1m:QS X (.Break pos) b3z:=⟨a1P a8J λD τ H a=>a.un fun σ G f i e g b d h j l c k=>c _ _ _ _ h b d (.refl _ _)⟩
def b3B:QS X (.Continue pos) b51:=⟨a1P a4U λD τ H c=>c.un fun σ G e g i l a b h f k j d=>d _ _ _ _ h a b (.refl _ _)⟩
def b1n(te:E3):X3:=λnx _ _ _ σ G=>te σ G λ_ G1=>nx σ G1
def a5p(he:QE X e te)(hs:gM e none pos.line X.env=pure false:=by rfl):QS X (.Expr e pos) (b1n te):=⟨a1P (b0O he.p hs) λD τ H i=>i.un fun σ G nx rt bk ct hs g h f u2 u3 u4=>
 ⟨σ,G,_,hs,g,h,λw G1 v H1 d rv c b=>f _ _ _ _ d (hs.mono b) c b⟩⟩
def uRet(te:E3):X3:=λ_ rt _ _ σ G=>te σ G rt
def a2d(he:QE X e te):QS X (.Return (some e) pos) (uRet te):=⟨a1P (b2L he.p) λD τ H c=>c.un fun σ G f j k m a b h g d l i=>⟨σ,G,_,a,b,h,d⟩⟩
def b52:X3:=λ_ rt _ _ _ G=>rt .non G
def b3C:QS X (.Return none pos) b52:=⟨a1P b0P λD τ H b=>b.un fun σ G e j d l g a h k c f i=>c _ _ _ _ h (by rw[a0u]) a (.refl _ _)⟩
def uIfS(c:T3)(t u:X3):X3:=λnx rt bk ct σ G=>c σ G λb G1=>if b=true then t nx rt bk ct σ G1 else u nx rt bk ct σ G1
def z_if(hc:QT X c tc)(ha:QSs X sa t)(hb:QSs X sb u):QS X (.If c sa sb pos) (uIfS tc t u):=⟨a1P (b5x hc.p ha.p hb.p) λD τ H s=>s.un fun σ G l g k m f r h n q j i=>by
 refine⟨σ,G,_,f,r,h,λb o v d e a=>?_⟩;cases b with
 |true=>rw[if_pos rfl]at d ⊢;exact⟨σ,o,l,g,k,m,f.mono a,e,d,n.mono a,q.mono a,j.mono a,i.mono a⟩
 |false=>rw[if_neg (by simp)]at d ⊢;exact⟨σ,o,l,g,k,m,f.mono a,e,d,n.mono a,q.mono a,j.mono a,i.mono a⟩⟩
def b3D(c:T3)(tb:X3):X3:=λnx rt _ _ σ G=>∃I:Nat->S3->Hq->Prop,(∃m,I m σ G)/\∀m σ G,I m σ G ->
 c σ G λb G1=>if b=true then tb (fun σ' G'=>∃m',m'<m/\I m' σ' G') rt nx (fun σ' G'=>∃m',m'<m/\I m' σ' G') σ G1 else nx σ G1
def a7s(hp:fT (model X.prog X.w) X.A X.env X.xe)(hc:QT X c tc)(hb:QSs X sb t):QS X (.While c sb [] pos) (b3D tc t):=⟨a1P (a8M hp hc.p hb.p) λD τ H L=>L.un fun σ G C R Y T F J B v Q W V=>by
 obtain⟨I,⟨y,E⟩,l⟩:=B;refine⟨λm τ' i=>∃σ' G',RSt X.K i σ' τ'/\RH X.K G' i/\TK X.K H i/\I m σ' G',⟨y,σ,G,F,J,.refl _ _,E⟩,?_⟩;rintro m τ' S ⟨σ1,u,g,x,f,M⟩;refine⟨σ1,u,_,g,x,l m σ1 u M,λb z U j k a=>?_⟩;cases b with
 |false=>rw[if_neg (by simp)]at j ⊢;exact v _ _ _ _ j (g.mono a) k (f.trans a)
 |true=>
  refine⟨_,fun σ' i h=>h,σ1,z,_,R,C,_,g.mono a,k,j,?_,Q.mono (f.trans a),v.mono (f.trans a),?_⟩
  ·rintro σ3 s τ3 N ⟨o,n,r⟩ d e q;exact⟨o,n,σ3,s,d,e,(f.trans a).trans q,r⟩
  ·rintro σ3 s τ3 N ⟨o,n,r⟩ d e q;exact⟨o,n,σ3,s,d,e,(f.trans a).trans q,r⟩⟩
inductive Pt where
 |nm (i:Nat)
 |tp (is:List Nat)
def gsOf:List Nat->TGs
 |[]=>gNil
 |i::is=>b2M (a8K i) (gsOf is)
def gP(K:Fg):Pt->TG
 |.nm i=>a8K i
 |.tp is=>gTup K is.length (gsOf is)
noncomputable def sets:List Nat->List Z->S3->S3
 |i::is,w::ws,σ=>sets is ws (σ.set i (some w))
 |_,_,σ=>σ
noncomputable def a3D:Pt->Z->S3->Option S3
 |.nm i,w,σ=>some (σ.set i (some w))
 |.tp is,.tup ws,σ=>if ws.length=is.length then some (sets is ws σ) else none
 |_,_,_=>none
noncomputable def Pt.slots:Pt->List Nat
 |.nm i=>[i]
 |.tp is=>is
noncomputable def a2A:List Nat->List V->L2.St->L2.St
 |i::is,w::ws,σ=>a2A is ws (σ.set i (some w))
 |_,_,σ=>σ
theorem a7t:∀{is:List Nat}{vs:List V}{τ:L2.St},vs.length=is.length->Q (a2A is vs τ) H->gsOf is vs τ H Q
 |[],[],_,_,q=>⟨rfl,q⟩
 |i::is,v::vs,τ,h,q=>⟨v,vs,rfl,a7t (by simpa using h) q⟩
 |[],_::_,_,h,_=>by simp at h
 |_::_,[],_,h,_=>by simp at h
theorem a4j{K:Fg}:∀{is:List Nat}{ws:List Z}{vs:List V}{σ:S3}{τ:L2.St},Reps K H ws vs->RSt K H σ τ->RSt K H (sets is ws σ) (a2A is vs τ)
 |[],ws,vs,σ,τ,_,h=>by unfold sets a2A;exact h
 |i::is,[],vs,σ,τ,r,h=>by rw[a0n]at r;subst r;exact h
 |i::is,w::ws,vs,σ,τ,r,h=>by
  obtain⟨v,c,rfl,a,b⟩:=r;exact a4j (is:=is) b (h.set a i)
theorem a3g:∀{is:List Nat}{vs:List V}{τ:L2.St}{j:Nat},j∉is->(a2A is vs τ)[j]?=τ[j]?
 |[],_,_,_,_=>by unfold a2A;rfl
 |i::is,[],_,_,_=>by unfold a2A;rfl
 |i::is,v::vs,τ,j,h=>by
  have b:j≠i:=λz=>h (z▸cy ..)
  show (a2A is vs _)[j]?=τ[j]?
  rw[a3g (λz=>h (ca _ z)),di (Ne.symm b)]
theorem a2t:∀{is:List Nat}{vs:List V}{τ:L2.St},(a2A is vs τ).length=τ.length
 |[],_,_=>by unfold a2A;rfl
 |i::is,[],_=>by unfold a2A;rfl
 |i::is,v::vs,τ=>by
  show (a2A is vs _).length=τ.length
  rw[a2t,List.length_set]
def b1o{K:Fg}(r:Rep K H w v)(hs:RSt K H σ τ)(hb:a3D pt w σ=some σ')
  (q:∀τ',RSt K H σ' τ'->τ'.length=τ.length->(∀j,j∉pt.slots->τ'[j]?=τ[j]?)->Q τ' H):gP K pt v τ H Q:=by
 cases pt with
 |nm i=>
  cases hb;exact q _ (hs.set r i) (by simp) λj d=>by rw[di];intro z;exact d (z▸cy ..)
 |tp is=>
  cases w with
  |tup ws=>
   obtain⟨a,f,rfl,e,c⟩:=r;have b:(if ws.length=is.length then some _ else none)=some σ':=hb
   by_cases hl:ws.length=is.length
   ·rw[if_pos hl]at b;cases b;exact⟨a,f,rfl,SqT.of e,by rw[<- c.length];exact hl,a7t (c.length▸hl) (q _ (a4j c hs) a2t λj d=>a3g d)⟩
   ·simp_all
  |_=>cases hb
def QP(X:Cx)(tg:Expr)(pt:Pt):Prop:=PG X tg (gP X.K pt)
def uAsg(te:E3)(pt:Pt):X3:=λnx _ _ _ σ G=>te σ G λx G1=>∃σ',a3D pt x σ=some σ'/\nx σ' G1
def a7u{K:Fg}(h:lowS K (uAsg te pt) D τ H):tAsg (low K te) (gP K pt) D τ H:=by
 obtain⟨σ,G,p,s,k,l,b,e,h,j,r,m,n⟩:=h;exact⟨σ,G,_,b,e,h,by rintro w o v q ⟨σ',g,i⟩ f c d;exact b1o f (b.mono d) g fun τ' a _ _=>j _ _ _ _ i a c d⟩
def b53(hN:X.N.Nodup)(hi:X.N[i]?=some x)(hx:Loc X.env.scope x)(he:QE X e te)(hs:gM e (some (.Name x pos')) pos.line X.env=pure false)(hf:X.fn x=true\/X.env.scope.names.lookup x=some .local) :
  QS X (.Assign [.Name x pos'] e pos) (uAsg te (.nm i)):=⟨a1P (b2P hN hi hx he.p hs hf) λ_ _ _=>a7u⟩
def b3E(he:QE X e te)(hg:QP X tg pt)(hs:ja [tg] e pos.line X.env=pure false:=by rfl)(hw:jc [tg] e X.env=pure none:=by rfl)
  (h1:(gz [tg] X.env).map (·.2)=[assign tg X.env]:=by rfl):QS X (.Assign [tg] e pos) (uAsg te pt):=⟨a1P (b0b he.p hg hs hw h1) λ_ _ _=>a7u⟩
abbrev Z3:=Z->Z->Z->Hq->(Hq->Prop)->Prop
def lowZ(K:Fg)(r:Z3):TSet:=λo i v H Q=>∃a b w G R,Rep K H a o/\Rep K H b i/\Rep K H w v/\RH K G H/\r a b w G R/\∀G' H',R G'->RH K G' H'->TK K H H'->Q H'
def lowZ.un{K:Fg}{C:Prop}(z:lowZ K r o i v H Q)(f:∀a b w G R,(Rep K H a o)->(Rep K H b i)->(Rep K H w v)->(RH K G H)->(r a b w G R)->(∀G' H',R G'->RH K G' H'->TK K H H'->Q H')->C):C:=by obtain⟨a,b,w,G,R,d,j,e,g,c,h⟩:=z;exact f _ _ _ _ _ d j e g c h
def SetQ(X:Cx)(r:Z3):Prop:=PSet X (lowZ X.K r)
def b0h(h:PSet X r')(i:∀o j v H Q,r o j v H Q->r' o j v H Q):PSet X r:=λa s σ H o j v c f u Q I b d e q=>h a s σ H o j v c f u Q I b d e (i _ _ _ _ _ q)
def uPut(te to ti:E3)(r:Z3):X3:=λnx _ _ _ σ G=>te σ G λw G1=>to σ G1 λo G2=>ti σ G2 λi G3=>r o i w G3 λG4=>nx σ G4
def b54(h:PS X st (tAsg (low X.K te) (gSub (low X.K to) (low X.K ti) (lowZ X.K r)))):QS X st (uPut te to ti r):=⟨a1P h λD τ H z=>z.un fun σ G Q I J N a s h B T V C=>
 ⟨σ,G,_,a,s,h,λw m v U o t e d=>⟨σ,m,_,a.mono d,e,o,λx u R S n i l c=>⟨σ,u,_,a.mono (d.trans c),l,n,λy A M F q g k b=>
  ⟨x,y,w,A,_,i.mono b,g,t.mono (c.trans b),k,q,λE L p j f=>B _ _ _ _ p (a.mono (((d.trans c).trans b).trans f)) j (((d.trans c).trans b).trans f)⟩⟩⟩⟩⟩
def a2O(he:QE X e te)(ho:QE X o to)(hi:QE X i ti)(hr:SetQ X r)(hs:ja [.Subscript o i p'] e pos.line X.env=pure false:=by rfl)(hw:jc [.Subscript o i p'] e X.env=pure none:=by rfl)
  (h1:(gz [.Subscript o i p'] X.env).map (·.2)=[assign (.Subscript o i p') X.env]:=by rfl) (ha:∀v,assign (.Subscript o i p') X.env v=(do
   let ov <- gb [v] (eval o X.env)
   let iv <- gb [v,ov] (eval i X.env)
   gB p'
   gb [v,ov,iv] (iM ov iv v)
   release [v,ov,iv] []):=by intro _;rfl):QS X (.Assign [.Subscript o i p'] e pos) (uPut te to ti r):=b54 (b0b he.p (b2O ho.p hi.p hr ha) hs hw h1)
def uAug(i:Nat)(te:E3)(r:R3):X3:=λnx _ _ _ σ G=>∃x,σ[i]?=some (some x)/\te σ G λy G1=>r x y G1 λz G2=>nx (σ.set i (some z)) G2
def b55(h:PS X st (tAug i (low X.K te) (low2 X.K r))):QS X st (uAug i te r):=⟨a1P h λD τ H q=>q.un fun σ G y L C u a s k t A B M=>by
 obtain⟨x,p,h⟩:=k;obtain⟨v,n,o⟩:=a.get p;exact⟨v,n,σ,G,_,a,s,h,λw m N z j c g b=>⟨x,w,m,_,o.mono b,c,g,j,λF I J E l d e f=>t _ _ _ _ l ((a.mono (b.trans f)).set d i) e (b.trans f)⟩⟩⟩
def b3F(hN:X.N.Nodup)(hi:X.N[i]?=some x)(hx:Loc X.env.scope x)(he:QE X e te)(ho:OpQ X (gN op) r)(hf:X.fn x=true\/X.env.scope.names.lookup x=some .local) :
  QS X (.AugAssign (.Name x pos') op e pos) (uAug i te r):=b55 (b2Q hN hi hx he.p ho hf)
end
abbrev I3:=S3->Hq->(List Z->(Hq->Prop)->Hq->Prop)->Prop
def a23(K:Fg)(ws:List Z)(ok:Hq->Prop)(J:It)(H0:Hp):Prop:=∀i G H,RH K G H->TK K H0 H->ok G->i<=ws.length ->
 (i=ws.length->J.stop i H)/\∀w,ws[i]?=some w->J.go i H/\∀x H',J.yld i H x H'->Rep K H' w x/\RH K G H'/\TK K H H'
def lowI(K:Fg)(wi:I3):TI:=fun τ H R2=>∃σ G R,RSt K H σ τ/\RH K G H/\wi σ G R/\∀ws ok G' J H',R ws ok G'->a23 K ws ok J H'->RH K G' H'->TK K H H'->R2 J H'
def lowI.un{K:Fg}{R2:It->Hp->Prop}{C:Prop}(z:lowI K wi τ H R2)(f:∀σ G R,(RSt K H σ τ)->(RH K G H)->(wi σ G R)->(∀ws ok G' J H',R ws ok G'->a23 K ws ok J H'->RH K G' H'->TK K H H'->R2 J H')->C):C:=by obtain⟨σ,G,R,d,b,c,a⟩:=z;exact f _ _ _ d b c a
def QI(X:Cx)(tg iter:Expr)(wi:I3):Prop:=PI X tg iter (lowI X.K wi)
def a7v(h:PI X tg iter wi')(i:∀σ H R,wi σ H R->wi' σ H R):PI X tg iter wi:=λa s σ H R I q=>h a s σ H R I (i σ H R q)
def FORB(ws:List Z)(ok:Hq->Prop)(pt:Pt)(tb:X3)(nx:C3)(rt:K3)(σ:S3)(G1:Hq):Prop:=∃I:Nat->S3->Hq->Prop,I 0 σ G1/\(∀i σ G,i<=ws.length->I i σ G->ok G) /\
 (∀i x σ G,ws[i]?=some x->I i σ G->∃σ',a3D pt x σ=some σ'/\tb (I (i+1)) rt nx (I (i+1)) σ' G)/\∀σ G,I ws.length σ G->nx σ G
def uFor(wi:I3)(pt:Pt)(tb:X3):X3:=λnx rt _ _ σ G=>wi σ G λws ok G1=>FORB ws ok pt tb nx rt σ G1
def a0z(I:Nat->S3->Hq->Prop)(h0:I 0 σ G)(hok:∀i σ G,i<=ws.length->I i σ G->ok G)
  (step:∀i x σ G,ws[i]?=some x->I i σ G->∃σ',a3D pt x σ=some σ'/\tb (I (i+1)) rt nx (I (i+1)) σ' G) (fin:∀σ G,I ws.length σ G->nx σ G):FORB ws ok pt tb nx rt σ G:=⟨I,h0,hok,step,fin⟩
def a05(hp:fT (model X.prog X.w) X.A X.env X.xe)(hc:X.calm=true)(hi:QI X tg iter wi)(hg:QP X tg pt)(hb:QSs X sb t)
  (hs:∀x,hU iter X.env x=pure x:=by intro _;rfl):QS X (.For tg iter sb [] pos) (uFor wi pt t):=⟨a1P (b2T hp hc hi hg hb.p hs) λD τ H U=>U.un fun σ G nx rt bk ct hs hg h R u2 u3 u4=>by
 refine⟨σ,G,_,hs,hg,h,?_⟩;rintro b ok G1 J L ⟨I,i0,S,u,E⟩ hJ M k;refine⟨λi m τ' a=>m=b.length-i/\i<=b.length/\∃σ' G',RSt X.K a σ' τ'/\RH X.K G' a/\TK X.K L a/\I i σ' G',⟨b.length,by simp,bE _,σ,G1,hs.mono k,M,.refl _ _,i0⟩,?_⟩;rintro i m τ2 H2 ⟨rfl,n,σ2,j,o,r,c,z⟩;have l:=hJ i j H2 r c (S i σ2 j n z) n
 by_cases hlt:i<b.length
 ·obtain⟨Y,T⟩:=l.2 _ (bh hlt);refine .inr ⟨Y,fun τ' a=>i+1<=b.length/\∃σ' G',RSt X.K a σ' τ'/\RH X.K G' a/\TK X.K L a/\I _ σ' G',fun σ' a q=>⟨b.length-_,by omega,rfl,q.1,q.2⟩,λx H3 V=>?_⟩;obtain⟨rx,N,g⟩:=T x H3 V;obtain⟨σ',F,h3⟩:=u i _ σ2 j (bh hlt) z;exact b1o rx (o.mono g) F fun τ' C _ _=>⟨σ',j,_,rt,nx,_,C,N,h3,(fun σ4 v τ4 W s d f y=>⟨hlt,σ4,v,d,f,(c.trans g).trans y,s⟩),u2.mono ((k.trans c).trans g),R.mono ((k.trans c).trans g),(fun σ4 v τ4 W s d f y=>⟨hlt,σ4,v,d,f,(c.trans g).trans y,s⟩)⟩
 ·have e:i=b.length:=by lia
  subst e;exact .inl ⟨l.1 rfl,R _ _ _ _ (E σ2 j z) o r (k.trans c)⟩⟩
section
variable{X:Cx}{tg l:Expr}{tl:E3}
def wkL(x:Z)(G:Hq)(R:List Z->(Hq->Prop)->Hq->Prop):Prop:=match x with
 |.ref a=>∃ws,G a=some (.lst ws)/\R ws (λG=>G a=some (.lst ws)) G
 |.scr _ ns=>R (ns.map Z.int) (λ_=>True) G
 |_=>False
def iL(tl:E3):I3:=fun σ G R=>tl σ G λx G1=>wkL x G1 R
def a6j{K:Fg}:a23 K ws (λG=>G a=some (.lst ws)) (Itl K a) H:=λi G H c t g m=>by
 obtain⟨b,e,f⟩:=c a _ g;refine⟨λh=>⟨b,SqL.of e,by rw[<- f.length,h];exact aV _⟩,λw j=>?_⟩;obtain⟨v,d,k⟩:=f.get j;refine⟨⟨b,v,SqL.of e,d⟩,?_⟩;rintro x l ⟨rfl,y⟩
 have:=y b (SqL.of e)
 rw[d]at this;cases this;exact⟨k,c,.refl _ _⟩
def a7w{K:Fg}{ns:List Int}(f:Fz K H0 a (ns.map V.int)):a23 K (ns.map Z.int) (λ_=>True) (Itl K a) H0:=λi G H g t m l=>by
 have b:=(t.frz _ _ f).sq;have c:Reps K H _ _:=a1O ns;refine⟨λh=>⟨_,b,by rw[<- c.length,h];exact aV _⟩,λw j=>?_⟩;obtain⟨v,d,e⟩:=c.get j;refine⟨⟨_,v,b,d⟩,?_⟩;rintro x k ⟨rfl,y⟩
 have:=y _ b
 rw[d]at this;cases this;exact⟨e,g,.refl _ _⟩
def a3E(hl:QE X l tl):QI X tg l (iL tl):=a7v (b0R hl.p) fun τ H s k=>k.un fun σ G R i j h f=>by
 refine⟨σ,G,_,i,j,h,λw q v o c b d g=>?_⟩;cases w with
 |ref a=>
  obtain⟨r,e,c⟩:=c;obtain⟨m,n,_⟩:=d a _ e;exact⟨a,b,⟨m,SqL.of n⟩,f _ _ _ _ _ c a6j d g⟩
 |scr a ns=>
  exact⟨a,b.1,⟨_,b.2.sq⟩,f _ _ _ _ _ c (a7w b.2) d g⟩
 |_=>exact bg c
noncomputable def rng(lo:Int):Nat->List Z
 |0=>[]
 |n+1=>.int lo::rng (lo+1) n
def a3h:∀(lo:Int)(n:Nat),(rng lo n).length=n:=by intro z0 y0;induction y0 generalizing z0 with
 |zero=>exact rfl
 |succ n I0=>rw[rng,bp,I0]
theorem a3F:∀{lo:Int}{n i:Nat}{w:Z},(rng lo n)[i]?=some w->i<n/\w=.int (lo+i)
 |_,0,_,_,h=>by simp[rng]at h
 |lo,n+1,0,w,h=>by simp[rng]at h;exact⟨by lia,by rw[<- h];simp⟩
 |lo,n+1,i+1,w,h=>by
  have:=a3F (by simpa[rng]using h)
  refine⟨by lia,?_⟩;rw[this.2]
  congr 1
  lia
def a7x{K:Fg}{lo:Int}:a23 K (rng lo n) (λ_=>True) (Itr lo n) H0:=λi G H b t e g=>by
 rw[a3h];refine⟨λh=>by rw[h];exact aV _,λw d=>?_⟩;obtain⟨a,c⟩:=a3F d;refine⟨a,?_⟩;rintro x f ⟨rfl,rfl⟩;exact⟨by rw[c,a0k],b,.refl _ _⟩
variable{t:A3}
def iR1(t:A3):I3:=fun σ G R=>t σ G λws G1=>∃j:Int,ws=[.int j]/\-(2 ^ 62)<=j/\j<2 ^ 62/\R (rng 0 j.toNat) (λ_=>True) G1
def a7y(h:PI X tg wi (b2S (lowA X.K t))):QI X tg wi (iR1 t):=a7v h fun τ H p g=>g.un fun σ G R i d h l=>by
 refine⟨σ,G,_,i,d,h,λq o n s ⟨j,e,a,b,k⟩ f c m=>?_⟩;subst e;obtain⟨v,rfl,r⟩:=f.one;subst r;exact⟨j,rfl,a,b,l _ _ _ _ _ k a7x c m⟩
end
section
variable{X:Cx}{tg a b:Expr}{p pos:Pos}{t:A3}
def a6k(hg:Gl X "range")(hm:X.mg "range"=none)(ha:QA X [a] t)(hs:fL [a] X.env=[(false,eval a X.env)]:=by rfl):QI X tg (.Call (.Name "range" p) [a] [] pos) (iR1 t):=a7y (a6L hg hm ha.p hs)
end
noncomputable def cap3(cap:List (Option Nat))(σ:S3):S3:=cap.map λo=>o.bind λj=>(σ[j]?).join
theorem a41{K:Fg}(h:RSt K H σ τ):∀cap:List (Option Nat),RSt K H (cap3 cap σ) (a17 cap τ)
 |[]=>.nil
 |none::cap=>.cons (λ_ e=>nomatch e) (a41 h cap)
 |some j::cap=>.cons (λw e=>by
   have a:(σ[j]?).join=some w:=e;have b:σ[j]?=some (some w):=by
    cases q:σ[j]? with
    |none=>rw[q]at a;cases a
    |some o=>rw[q]at a;cases o with
     |none=>cases a
     |some z=>cases a;rfl
   obtain⟨v,c,r⟩:=h.get b;exact⟨v,by show (τ[j]?).join=some v;rw[c];rfl,r⟩) (a41 h cap)
theorem a2e:∀{a b:L2.St},b.length=a.length->(∀(i:Nat) v,a[i]?=some (some v)->b[i]?=some (some v))->a07 a b
 |[],[],_,_=>True.intro
 |none::a,_::b,h,k=>a2e (b:=b) (by simpa using h) λi v e=>by simpa using k (i+1) v (by simpa using e)
 |some x::a,y::b,h,k=>⟨by simpa using k 0 x rfl,a2e (b:=b) (by simpa using h) λi v e=>by simpa using k (i+1) v (by simpa using e)⟩
 |[],_::_,h,_=>by simp at h
 |_::_,[],h,_=>by simp at h
def LCB(ws:List Z)(ok:Hq->Prop)(cap:List (Option Nat))(pt:Pt)(tt:T3)(te:E3)(σ:S3)(R:K3)(D:Addr)(G1:Hq):Prop:=∃I:Nat->List Z->Hq->Prop,I 0 [] (put G1 D (.lst []))/\(∀i ys G,i<=ws.length->I i ys G->ok G) /\
 (∀i x ys G,ws[i]?=some x->I i ys G->∃σ',a3D pt x (cap3 cap σ)=some σ'/\tt σ' G λb G4=>if b=true then te σ' G4 λy G5=>G5 D=some (.lst ys)/\ys.length<fG/\I (i+1) (ys++[y]) (put G5 D (.lst (ys++[y]))) else I (i+1) ys G4) /\
 ∀ys G,I ws.length ys G->R (.ref D) G
def uLC(wi:I3)(cap:List (Option Nat))(pt:Pt)(tt:T3)(te:E3):E3:=fun σ G R=>wi σ G λws ok G1=>∀D,G1 D=none->LCB ws ok cap pt tt te σ R D G1
def b56(I:Nat->List Z->Hq->Prop)(h0:I 0 [] (put G1 D (.lst [])))(hok:∀i ys G,i<=ws.length->I i ys G->ok G)
  (step:∀i x ys G,ws[i]?=some x->I i ys G->∃σ',a3D pt x (cap3 cap σ)=some σ'/\tt σ' G λb G4=>if b=true then te σ' G4 λy G5=>G5 D=some (.lst ys)/\ys.length<fG/\I (i+1) (ys++[y]) (put G5 D (.lst (ys++[y]))) else I (i+1) ys G4)
  (fin:∀ys G,I ws.length ys G->R (.ref D) G):LCB ws ok cap pt tt te σ R D G1:=⟨I,h0,hok,step,fin⟩
def a1m{α β:Type}{f:α->Option β}{ws:List α}{x:α}(h:ws[i]?=some x):(ws.take (i+1)).filterMap f=(ws.take i).filterMap f++(f x).toList:=by
 rw[cz,eN,h];cases e:f x<;>simp[e]
def QIfs(X:Cx)(ifs:List Expr)(t:T3):Prop:=PIfs X ifs (lowT X.K t)
def uTT:T3:=λ_ G R=>R true G
def b1p:QIfs X [] uTT:=by rintro a s τ H Q I ⟨σ,G,R,d,b,h,c⟩;exact a86 a s τ H Q I (c _ _ _ h b (.refl _ _))
def a7z(h:QT X c t):QIfs X [c] t:=a87 h.p
def b1q{pt:Pt}(hc:(pt.slots.all λj=>decide (cap[j]?=some none))=true)(h:(a17 cap τ)[i]?=some (some v)):i∉pt.slots:=λa=>by
 have q:=of_decide_eq_true ((cK.mp hc) i a);unfold a17 at h;rw[aW,q]at h;cases h
def b3G{K:Fg}(hc:(pt.slots.all λj=>decide (cap[j]?=some none))=true)(h:low K (uLC wi cap pt tt te) τ H Q) :
  tLC (lowI K wi) cap (gP K pt) (lowT K tt) (low K te) τ H Q:=by
 obtain⟨σ,G,R,hs,hg,h,up⟩:=h;refine⟨σ,G,_,hs,hg,h,λc ok G1 J H1 h1 hJ t U D B=>?_⟩;obtain⟨I,i0,S,C,N⟩:=h1 D (t.out B);refine⟨λi m _ d=>m=c.length-i/\i<=c.length/\∃a G',RH K G' d/\TK K H1 d/\I i a G',⟨c.length,by simp,bE _,[],_,t.set (o:=.lst []) (.new B) ⟨[],a0d,.nil⟩,.new B,i0⟩,?_⟩;rintro i m vs H2 ⟨rfl,w,a,f,p,g,E⟩;have n:=hJ i f H2 p g (S i a f w E) w
 by_cases hlt:i<c.length
 ·obtain⟨go,yl⟩:=n.2 _ (bh hlt);refine .inr ⟨go,λ_ d=>i+1<=c.length/\∃a G',RH K G' d/\TK K H1 d/\I _ a G',λvs' d q=>⟨c.length-_,by lia,rfl,q.1,q.2⟩,λx H3 y3=>?_⟩;obtain⟨rx,aa,F⟩:=yl x H3 y3;obtain⟨σ',Y,h3⟩:=C i _ a f (bh hlt) E;refine b1o rx (a41 (hs.mono ((U.trans g).trans F)) cap) Y fun τ' z M hk'=>⟨a2e M λj v T=>by rw[hk' j (b1q hc T)];exact T,?_⟩;refine⟨σ',f,_,z,aa,h3,λb G4 H4 l u A=>?_⟩;cases b with
  |false=>
   exact⟨hlt,a,G4,u,(g.trans F).trans A,l⟩
  |true=>
   refine⟨σ',G4,_,z.mono A,u,l,λy G5 v5 H5 ⟨L,V,h5⟩ r5 r t5=>?_⟩;obtain⟨X,k,s⟩:=r D _ L;refine⟨X,k,by rw[<- s.length];exact V,hlt,_,_,r.set (.lst k) (a0J (s.append (.cons r5 .nil)) (.lst k)),?_,h5⟩;exact (((g.trans F).trans A).trans t5).trans (.lst k)
 ·have e:i=c.length:=by lia
  subst e;exact .inl ⟨n.1 rfl,up _ _ _ _ (N a f E) (by rw[a0j]) p (U.trans g)⟩
section
variable{X:Cx}{N':List Str}{sc:Scope}{cap:List (Option Nat)}{tg iter elt:Expr}{ifs:List Expr}{wi:I3}{pt:Pt}{tt:T3}{te:E3}{pos:Pos}
def q_lc(hc:X.calm=true)(hNN:X.N=Nj)(hso:X.env.scope=so)(ck:capB Nj so sc N' cap=true)(hp:(pt.slots.all λj=>decide (cap[j]?=some none))=true)(hi:QI X tg iter wi)
  (hg:∀C s H fp,QP (cxC X E0 N' sc C s H fp) tg pt) (ht:∀C s H fp,QIfs (cxC X E0 N' sc C s H fp) ifs tt) (he:∀C s H fp,QE (cxC X E0 N' sc C s H fp) elt te)
  (hs:∀x,hU iter X.env x=pure x:=by intro _;rfl):QE X (.ListComp elt [⟨tg,iter,ifs,0⟩] sc pos) (uLC wi cap pt tt te):=⟨a0I (b5Q (g:=gP X.K pt) (tt:=lowT X.K tt) hc a85 hNN hso ck hi hg ht (λC s H a=>(he C s H a).p) hs) λ_ _ _=>b3G hp⟩
end
section
variable{P:fK}{w:World}{K:Fg}{mg:Str->Option Value}{base:Heap}
def fn3{st:Stmt}(F:Fun K x qual st f fd)(S:FnScope N ps (a0l st))(len:∀ws G R,sp ws G R->ws.length=ps.length)
  (hbody:∀(cdv:Value)(A:Around)(outer:List Env)(s:Shared)(H:Hp)(E:XK)(ws:List Z)(G:Hq)(R:K3),Room k (A.deeper (envOfC qual (a0l st) s.heap.objs.size f cdv))->sp ws G R ->
   ∃t,QSs (cxOf CX0 P w K mg base N qual (a0l st) f cdv A outer s H E).nox (a0P st) t/\t (λ_ G'=>R .non G') R (λ_ _=>False) (λ_ _=>False) (a1l N ws) G):FnOk P w K mg base CX0 (k+1) f fd ps (lowP K sp):=by
 refine F.ok S (by rintro n H Q E ⟨d,G,R,c,e,h,b⟩;rw[<- c.length];exact len _ _ _ h) ?_;rintro g A a s H n Q E j ⟨d,G,R,c,e,h,b⟩;obtain⟨t,l,q⟩:=hbody g A a s H E d G R j h;exact⟨_,l.p,a1l N d,G,_,R,_,_,.start c,e,q,fun σ' v τ' u m r i o=>b _ _ _ _ m (by rw[a0u]) i o,b,λ_ _ _ _ h _ _ _=>h.elim,λ_ _ _ _ h _ _ _=>h.elim⟩
end
section
variable{X:Cx}
def zAdd:R3:=λx y G R=>match x,y with
 |.int i,.int j=>R (.int (i+j)) G
 |.str a,.str b=>a.length+b.length<=fG/\R (.str (a++b)) G
 |.tup xs,.tup ys=>xs≠[]/\xs.length+ys.length<=fG/\R (.tup (xs++ys)) G
 |.ref p,.ref q=>∃xs ys,G p=some (.lst xs)/\G q=some (.lst ys)/\xs.length+ys.length<=fG/\∀t,G t=none->R (.ref t) (put G t (.lst (xs++ys)))
 |_,_=>False
def b57:OpQ X (fV .Add) zAdd:=a2c (op_add.or (op_add_str.or (op_catT.or b3a))) λx y H Q D=>D.un λa b G R c d f h m=>by
 cases a with
 |int i=>
  cases b with
  |int j=>rw[a0k]at c d;exact .inl ⟨_,_,c,d,m _ _ _ _ h (by rw[a0k]) f (.refl _ _)⟩
  |_=>exact bg h
 |str i=>
  cases b with
  |str j=>rw[a0r]at c d;exact .inr (.inl ⟨_,_,c,d,h.1,m _ _ _ _ h.2 (by rw[a0r]) f (.refl _ _)⟩)
  |_=>exact bg h
 |tup w=>
  cases b with
  |tup ws=>
   obtain⟨p,n,rfl,o,k⟩:=c;obtain⟨q,r,rfl,u,l⟩:=d;obtain⟨B,s,h⟩:=h;refine .inr (.inr (.inl ⟨p,q,n,r,rfl,rfl,SqT.of o,SqT.of u,λz=>?_,by rw[<- k.length,<- l.length];exact s,λz=>?_,λz t g=>?_⟩))
   ·subst z;exact B (cY.mp k.length)
   ·subst z;have e:=cY.mp l.length;subst e;rw[bN]at h;exact m _ _ _ _ h (by rw[a0V];exact⟨p,n,rfl,o,k⟩) f (.refl _ _)
   ·exact m _ _ _ _ h (by rw[a0V];exact⟨t,n++r,rfl,a0d,Reps.mono (.new g) _ _ (k.append l)⟩) (f.hid g) (.new g)
  |_=>exact bg h
 |ref p=>
  cases b with
  |ref q=>
   subst c d;obtain⟨n,r,o,u,s,h⟩:=h;obtain⟨C,A,k⟩:=f _ _ o;obtain⟨w,v,l⟩:=f _ _ u;exact .inr (.inr (.inr ⟨_,_,C,w,rfl,rfl,A,v,by rw[<- k.length,<- l.length];exact s,λt g=>m _ _ _ _ (h t (f.out g)) (by rw[a0j]) (f.set (.new g) (a0J (k.append l) (.new g))) (.new g)⟩))
  |_=>exact bg h
 |_=>exact bg h
def zI(C:Int->Int->Prop)(g:Int->Int->Z):R3:=λx y G R=>match x,y with
 |.int i,.int j=>C i j/\R (g i j) G
 |_,_=>False
def zI0(g:Int->Int->Z):R3:=λx y G R=>match x,y with
 |.int i,.int j=>R (g i j) G
 |_,_=>False
def oI{g:Int->Int->Int}(h:OpR X f (rI C λi j=>.int (g i j))):OpQ X f (zI C λi j=>.int (g i j)):=a2c h λx y H Q l=>l.un λa b G R d c k h e=>by
 cases a<;>cases b<;>first
  |exact bg h
  | (rw[a0k]at d c;exact⟨_,_,d,c,h.1,e _ _ _ _ h.2 (by rw[a0k]) k (.refl _ _)⟩)
def oI0{g:Int->Int->Int}(h:OpR X f (rI0 λi j=>.int (g i j))):OpQ X f (zI0 λi j=>.int (g i j)):=a2c h λx y H Q l=>l.un λa b G R d c k h e=>by
 cases a<;>cases b<;>first
  |exact bg h
  | (rw[a0k]at d c;exact⟨_,_,d,c,e _ _ _ _ h (by rw[a0k]) k (.refl _ _)⟩)
def b58:OpQ X (fV .Sub) (zI0 λi j=>.int (i-j)):=oI0 b2U
def b59:OpQ X (fV .Mult) (zI CMul λi j=>.int (i*j)):=oI b2V
def b3H:OpQ X (fV .FloorDiv) (zI b3j λi j=>.int (i / j)):=oI a89
def b6a:OpQ X (fV .Mod) (zI (λ_ j=>0<j) λi j=>.int (i % j)):=oI b2W
def b6b:OpQ X (fV .Pow) (zI CPow λi j=>.int (i ^ j.toNat)):=oI b2X
def b3I:OpQ X (gN .Add) (zI0 λi j=>.int (i+j)):=oI0 b0S
def zNeg:Z->Hq->K3->Prop:=λx G R=>match x with
 |.int i=>R (.int (-i)) G
 |_=>False
def b6c:UnQ X (iN .USub) zNeg:=b5R b2Y λx H Q c=>c.un λa G R b d h e=>by
 cases a<;>first
  |exact bg h
  | (rw[a0k]at b;exact⟨_,b,e _ _ _ _ h (by rw[a0k]) d (.refl _ _)⟩)
def a7A:OpR X (fM .LtE) (λx y H Q=>∃i j,x=.str i/\y=.str j/\Q (.bl (!decide (j.cps.toList<i.cps.toList))) H):=by
 intro b s σ H x y v u Q I a c h;obtain⟨i,j,rfl,rfl,q⟩:=h;obtain⟨t,rfl⟩:=a;obtain⟨d,rfl⟩:=c;exact PySem.P.le_str (a0m I q rfl)
def a7B:OpR X (fM .Gt) (λx y H Q=>∃i j,x=.str i/\y=.str j/\Q (.bl (decide (j.cps.toList<i.cps.toList))) H):=by
 intro b s σ H x y v u Q I a c h;obtain⟨i,j,rfl,rfl,q⟩:=h;obtain⟨t,rfl⟩:=a;obtain⟨d,rfl⟩:=c;exact PySem.P.gt_str (a0m I q rfl)
def zC(f:Int->Int->Bool)(g:Str->Str->Bool):R3:=λx y G R=>match x,y with
 |.int i,.int j=>R (.bl (f i j)) G
 |.str i,.str j=>R (.bl (g i j)) G
 |_,_=>False
def oC(h:OpR X (fM op) (rI0 λi j=>.bl (f i j)))(h':OpR X (fM op) (λx y H Q=>∃i j,x=.str i/\y=.str j/\Q (.bl (g i j)) H)) :
  OpQ X (fM op) (zC f g):=a2c (h.or h') λx y H Q l=>l.un λa b G R c d e h k=>by
 cases a<;>cases b<;>first
  |exact bg h
  | (rw[a0k]at c d;exact .inl ⟨_,_,c,d,k _ _ _ _ h (by rw[a0q]) e (.refl _ _)⟩)
  | (rw[a0r]at c d;exact .inr ⟨_,_,c,d,k _ _ _ _ h (by rw[a0q]) e (.refl _ _)⟩)
abbrev ltS(x y:Str):Bool:=decide (x.cps.toList<y.cps.toList)
def o_lt:OpQ X (fM .Lt) (zC (λi j=>decide (i<j)) λx y=>ltS x y):=oC b5B a6R
def o_le:OpQ X (fM .LtE) (zC (λi j=>decide (i<=j)) λx y=>!ltS y x):=oC b5C a7A
def o_gt:OpQ X (fM .Gt) (zC (λi j=>decide (j<i)) λx y=>ltS y x):=oC b5D a7B
def zIs(neg:Bool):R3:=λx y G R=>match y with
 |.non=>R (.bl (if neg then !decide (x=.non) else decide (x=.non))) G
 |.bl b=>match x with
  |.bl a=>neg=false/\R (.bl (a==b)) G
  |_=>False
 |_=>False
def a3i{K:Fg}(r:Rep K H w v):decide (v=.non)=decide (w=.non):=by
 cases w with
 |non=>rw[a0u]at r;subst r;rfl
 |bl _=>rw[a0q]at r;subst r;simp
 |int _=>rw[a0k]at r;subst r;simp
 |str _=>rw[a0r]at r;subst r;simp
 |ref _=>rw[a0j]at r;subst r;simp
 |ty _=>rw[a7j]at r;subst r;simp
 |scr _ _=>rw[a2a]at r;obtain⟨rfl,_⟩:=r;simp
 |tup _=>rw[a0V]at r;obtain⟨_,_,rfl,_⟩:=r;simp
end
mutual
def dZ:Z->PyData
 |.bl b=>.bool b
 |.int i=>.int i
 |.str x=>.str x
 |.tup ws=>.tuple (dZs ws)
 |_=>.none
def dZs:List Z->List PyData
 |[]=>[]
 |w::ws=>dZ w::dZs ws
end
noncomputable def flat:Nat->Z->Bool
 |_,.non=>true
 |_,.int _=>true
 |_,.str x=>PyData.strOk x
 |n+1,.tup ws=>ws.all (flat n)
 |_,_=>false
def b0i:∀(n:Nat)(d:Z),flat n d=true->(dZ d).canLay0=true/\(dZ d).depth<=n:=by
 have f:∀n,(∀d,flat n d=true->(dZ d).canLay0=true/\(dZ d).depth<=n)->∀a:List Z,(∀d∈a,flat n d=true)->PyData.canLayAll0 (dZs a)=true/\PyData.depthAll (dZs a)<=n:=by
  intro n b a
  induction a with
  |nil=>intro _;simp[dZs,PyData.canLayAll0,PyData.depthAll]
  |cons d a hi=>
   intro h;have g:=b d (h d (.head _));have c:=hi λe j=>h e (.tail _ j);simp only[dZs,PyData.canLayAll0,PyData.depthAll,g.1,c.1,Bool.and_self,true_and]
   lia
 intro n
 induction n with
 |zero=>
  intro d h;cases d<;>simp_all[flat,dZ,PyData.canLay0,PyData.depth]
 |succ n b=>
  intro d h;cases d with
  |non=>simp[dZ,PyData.canLay0,PyData.depth]
  |int i=>simp[dZ,PyData.canLay0,PyData.depth]
  |str x=>simp[flat]at h;simp[dZ,PyData.canLay0,PyData.depth,h]
  |tup a=>
   have q:=f n b a (by simpa[flat]using h);simp only[dZ,PyData.canLay0,PyData.depth,q.1,true_and]
   lia
  |_=>simp[flat]at h
def b1r(n:Nat)(ds:List Z)(h:ds.all (flat n)=true):PyData.canLayAll0 (dZs ds)=true/\PyData.depthAll (dZs ds)<=n:=by
 have q:=b0i (n+1) (.tup ds) (by simpa[flat]using h);simp only[dZ,PyData.depth]at q;exact⟨q.1,by lia⟩
def a7C:∀(n:Nat)(d e:Z)(k:Nat),flat n d=true->flat k e=true->(PyData.eqv (dZ d) (dZ e)=true↔d=e):=by
 have all:∀(n:Nat),(∀d e k,flat n d=true->flat k e=true->(PyData.eqv (dZ d) (dZ e)=true↔d=e))->∀(k:Nat)(ds es:List Z),(∀d∈ds,flat n d=true)->(∀d∈es,flat k d=true) ->
   (PyData.eqvAll (dZs ds) (dZs es)=true↔ds=es):=by
  intro n ih k ds
  induction ds with
  |nil=>intro es _ _;cases es<;>simp[dZs,PyData.eqvAll]
  |cons d ds hi=>
   intro es h1 h2;cases es with
   |nil=>simp[dZs,PyData.eqvAll]
   |cons e es=>
    have q1:=ih d e k (h1 d (.head _)) (h2 e (.head _));have q2:=hi es (λx hx=>h1 x (.tail _ hx)) λx hx=>h2 x (.tail _ hx);simp only[dZs,PyData.eqvAll,bS,q1,q2,ci.injEq]
 intro n
 induction n with
 |zero=>
  intro d e k h1 h2;cases d<;>cases e<;>simp_all[flat,dZ,PyData.eqv]
 |succ n ih=>
  intro d e k h1 h2;cases d with
  |tup ds=>
   cases e with
   |tup es=>
    cases k with
    |zero=>simp[flat]at h2
    |succ k=>
     simp only[dZ,PyData.eqv,Z.tup.injEq];exact all n ih k ds es (by simpa[flat]using h1) (by simpa[flat]using h2)
   |_=>simp_all[flat,dZ,PyData.eqv]
  |_=>cases e<;>simp_all[flat,dZ,PyData.eqv]
def a7D(n k:Nat)(ds es:List Z)(h:ds.all (flat n)=true)(h':es.all (flat k)=true):PyData.eqvAll (dZs ds) (dZs es)=true↔ds=es:=by
 have q:=a7C (n+1) (.tup ds) (.tup es) (k+1) (by simpa[flat]using h) (by simpa[flat]using h');simpa only [dZ,PyData.eqv,Z.tup.injEq]using q
section
variable{K:Fg}{H:Hp}
def a9g:∀(n:Nat)(w:Z)(v:V),flat n w=true->Rep K H w v->DV H (dZ w) v:=by
 have g:∀n,(∀w v,flat n w=true->Rep K H w v->DV H (dZ w) v)->∀b c,(∀d∈b,flat n d=true)->Reps K H b c->DVs H (dZs b) c:=by
  intro n f b
  induction b with
  |nil=>intro c _ r;exact r
  |cons w b hi=>
   intro c h r;obtain⟨v,j,e,o,l⟩:=r;exact⟨v,j,e,f w v (h w (.head _)) o,hi j (λd k=>h d (.tail _ k)) l⟩
 intro n
 induction n with
 |zero=>
  intro w v h r;cases w with
  |non=>rw[a0u]at r;exact r
  |int i=>rw[a0k]at r;exact r
  |str x=>rw[a0r]at r;exact r
  |_=>simp[flat]at h
 |succ n f=>
  intro w v h r;cases w with
  |non=>rw[a0u]at r;exact r
  |int i=>rw[a0k]at r;exact r
  |str x=>rw[a0r]at r;exact r
  |tup b=>
   obtain⟨a,c,e,p,m⟩:=r;exact⟨a,c,e,p,g n f b c (by simpa[flat]using h) m⟩
  |_=>simp[flat]at h
def a4k(n:Nat):∀(ws:List Z)(vs:List V),ws.all (flat n)=true->Reps K H ws vs->DVs H (dZs ws) vs:=by intro z0;induction z0 with
 |nil=>intro vs _ r;rw[a0n]at r;simp only[dZs];unfold DVs;exact r
 |cons w ws I0=>
  intro vs h r;obtain⟨v,a,e,b,c⟩:=r;rw[cj,bS]at h;exact⟨v,a,e,a9g n w v h.1 b,I0 a h.2 c⟩
end
def a1D(h:flat n w=true)(hn:n<=64):SeqAt.shaped (dZ w)=true:=by
 have q:=b0i n w h;unfold SeqAt.shaped;rw[q.1,eK];exact decide_eq_true (by omega)
def a09(h:ws.all (flat n)=true)(hn:n<=63):SeqAt.shaped (.list (dZs ws))=true:=by
 have q:=b1r n ws h;unfold SeqAt.shaped;simp only[PyData.canLay0,PyData.depth,q.1];exact decide_eq_true (by lia)
def a42{p:Prop}[Decidable p](h:a=true↔p):a=decide p:=by
 cases a with
 |true=>exact (decide_eq_true (h.mp rfl)).symm
 |false=>exact (decide_eq_false λq=>by cases h.mpr q).symm
def a0B{p q:Prop}[Decidable p][Decidable q](h:p=q):decide p=decide q:=by grind
def zEq(f:Bool->Bool):R3:=λx y G R=>match x,y with
 |.bl a,.bl b=>R (.bl (f (a==b))) G
 |.int a,.int b=>R (.bl (f (decide (a=b)))) G
 |.str a,.str b=>R (.bl (f (decide (a=b)))) G
 |.ref p,.ref q=>∃xs ys,G p=some (.lst xs)/\G q=some (.lst ys)/\xs.all (flat 8)=true/\ys.all (flat 8)=true/\R (.bl (f (decide (xs=ys)))) G
 |x,y=>flat 8 x=true/\flat 8 y=true/\R (.bl (f (decide (x=y)))) G
section
variable{X:Cx}
def b0j{K:Fg}(h:low2 K (zEq f) x y H Q) :
    (scal x y=true/\Q (.bl (f (decide (x=y)))) H)\/∃d e,DV H d x/\DV H e y/\SeqAt.shaped d=true/\SeqAt.shaped e=true/\Q (.bl (f (PyData.eqv d e))) H:=by
  obtain⟨a,b,G,R,g,c,i,h,j⟩:=h;have p:flat 8 a=true/\flat 8 b=true/\R (.bl (f (decide (a=b)))) G->∃d e,DV H d x/\DV H e y/\SeqAt.shaped d=true/\SeqAt.shaped e=true/\Q (.bl (f (PyData.eqv d e))) H:=by
    rintro⟨n,m,w⟩;refine⟨dZ a,dZ b,a9g 8 _ _ n g,a9g 8 _ _ m c,a1D n (by simp),a1D m (by simp),?_⟩;rw[a42 (a7C 8 a b 8 n m)];exact j _ _ _ _ w (by rw[a0q]) i (.refl _ _)
  cases a<;>cases b<;>first
    |exact .inr (p h)
    | (rw[a0q]at g c;subst g c;exact .inl ⟨rfl,by rw[a6O];exact j _ _ _ _ h (by rw[a0q]) i (.refl _ _)⟩)
    | (rw[a0k]at g c;subst g c;exact .inl ⟨rfl,by rw[a0B (V.int.injEq _ _)];exact j _ _ _ _ h (by rw[a0q]) i (.refl _ _)⟩)
    | (rw[a0r]at g c;subst g c;exact .inl ⟨rfl,by rw[a0B (V.str.injEq _ _)];exact j _ _ _ _ h (by rw[a0q]) i (.refl _ _)⟩)
    | (rw[a0j]at g c
       subst g c;obtain⟨r,s,t,z,k,l,h⟩:=h;obtain⟨u,q,v⟩:=i _ _ t;obtain⟨B,o,A⟩:=i _ _ z;refine .inr ⟨.list _,.list _,?_,?_,a09 k (by simp),a09 l (by simp),?_⟩;exact⟨_,u,rfl,q,a4k 8 _ _ k v⟩;exact⟨_,B,rfl,o,a4k 8 _ _ l A⟩
       · simp only[PyData.eqv]
         rw[a42 (a7D 8 8 r s k l)];exact j _ _ _ _ h (by rw[a0q]) i (.refl _ _))
def o_eq(hu:X.A.units+66<cLine):OpQ X (fM .Eq) (zEq id):=a2c (op_eq.or (b3g hu)) λx y H Q h=>b0j h
def o_ne(hu:X.A.units+66<cLine):OpQ X (fM .NotEq) (zEq not):=a2c (op_ne.or (b3h hu)) λx y H Q h=>b0j h
def zIn(f:Bool->Bool):R3:=λx y G R=>match x,y with
 |.str a,.str b=>R (.bl (f (!(fO.Str.occurrences b a 0 b.length 1).isEmpty))) G
 |x,.ref q=>∃ws,G q=some (.lst ws)/\flat 8 x=true/\ws.all (flat 8)=true/\R (.bl (f (decide (x∈ws)))) G
 |x,.tup ws=>flat 8 x=true/\ws.all (flat 8)=true/\R (.bl (f (decide (x∈ws)))) G
 |_,_=>False
def b1s(x:Z)(hx:flat 8 x=true):∀ws:List Z,ws.all (flat 8)=true->((dZs ws).any λy=>PyData.eqv y (dZ x))=decide (x∈ws):=by intro z0;induction z0 with
 |nil=>intro _;simp[dZs]
 |cons w ws I0=>
  intro h;rw[cj,bS]at h;simp only[dZs,cI];rw[I0 h.2,a42 (a7C 8 w x 8 h.1 hx)]
  by_cases e:w=x
  ·simp_all
  ·have:¬ x=w:=λz=>e z.symm
   simp[e,this]
def b0k(hf:∀b,f b=if neg=true then !b else b){K:Fg}(h:low2 K (zIn f) x y H Q) :
  (∃i j,x=.str i/\y=.str j/\Q (.bl (f (!(fO.Str.occurrences j i 0 j.length 1).isEmpty))) H)\/rInD neg x y H Q:=by
 obtain⟨a,b,G,R,o,m,r,h,t⟩:=h;have s:∀p c d,y=.ref p->_->Reps K H c d->flat 8 a=true->c.all _=true->R _ G->rInD neg x y H Q:=λp c d e w n k g h=>by
  refine⟨dZ a,p,dZs c,d,a9g 8 _ _ k o,e,w,a4k 8 _ _ g n,a1D k (by simp),a09 g (by simp),?_⟩;rw[b1s a k c g,<- hf];exact t _ _ _ _ h (by rw[a0q]) r (.refl _ _)
 cases b with
 |str j=>
  cases a with
  |str i=>rw[a0r]at o m;exact .inl ⟨_,_,o,m,t _ _ _ _ h (by rw[a0q]) r (.refl _ _)⟩
  |_=>exact bg h
 |ref q=>
  have l:∃c,G q=some (.lst c)/\flat 8 a=true/\c.all (flat 8)=true/\R (.bl (f (decide (a∈c)))) G:=by cases a<;>exact h
  obtain⟨c,e,k,g,l⟩:=l;obtain⟨d,u,n⟩:=r q _ e;exact .inr (s q c d m (.inl u) n k g l)
 |tup c=>
  obtain⟨q,d,e,v,n⟩:=m;have l:flat 8 a=true/\c.all (flat 8)=true/\R (.bl (f (decide (a∈c)))) G:=by cases a<;>exact h
  obtain⟨k,g,l⟩:=l;exact .inr (s q c d e (.inr v) n k g l)
 |_=>cases a<;>exact bg h
def o_in(hu:X.A.units+66<cLine):OpQ X (fM .In) (zIn id):=a2c (op_in_str.or (b3i hu)) λx y H Q h=>b0k (λb=>by simp) h
def b1t(hu:X.A.units+66<cLine):OpQ X (fM .NotIn) (zIn not):=a2c (op_notin_str.or (a7h hu)) λx y H Q h=>b0k (λb=>by simp) h
end
end L3
namespace L2
open PySem PySem.Spec PyProof.Rows
theorem Vals.tog:∀{xs:List V}{us:List Value}{i:Nat}{u:Value},Vals xs us->us[i]?=some u->∃x,xs[i]?=some x/\RelV x u
 |_,_,_,_,.nil,e=>by simp at e
 |_,_,0,_,.cons r _,e=>by simp at e;subst e;exact⟨_,rfl,r⟩
 |_,_,i+1,u,.cons _ t,e=>by
  obtain⟨x,a,b⟩:=Vals.tog t (by simpa using e);exact⟨x,by simpa using a,b⟩
section
variable{X:Cx}
def b3J:OpR X (fM .Is) (λx y H Q=>∃a b,x=.bl a/\y=.bl b/\Q (.bl (a==b)) H):=by
 intro d s σ H x y v u Q I c e h;obtain⟨a,b,rfl,rfl,q⟩:=h;cases c;cases e;exact wpAny_is_plain rfl (a0m I q (by cases a<;>cases b<;>rfl))
def rSlS:V->Option Int->Option Int->Hp->VK->Prop:=λx lo hi H Q=>∃z,x=.str z/\z.length<=fG/\Q (.str (Txt.slice z lo hi)) H
def b3K:SlR X rSlS:=by
 intro g s σ H x v A B f b C Q I w p y m h;obtain⟨z,rfl,r,q⟩:=h;obtain⟨t,rfl⟩:=w;obtain⟨o,e,c,d⟩:=p;have a:∀f b,Q _ H->(Txt.slice z f b).length<=fG/\∀n k,EP X g σ Q (.str (Txt.slice z f b) n) { s with toks:=k }:=λf b q=>
  ⟨be (Txt.slice_le z _ _) r,λn k=>⟨.str _,H,I.tok k,⟨_,rfl⟩,q⟩⟩
 cases y with
 |none=>
  cases m with
  |none=>exact⟨"str",_,F.slot_str_getitem.lookup,gY _ _ _,iR (l:=none) (u:=none) (st:=none) ⟨o,e,c,d⟩ rfl (iS (a _ _ q))⟩
  |int j u=>exact⟨"str",_,F.slot_str_getitem.lookup,gY _ _ _,iR (l:=none) (u:=some (j,u)) (st:=none) ⟨o,e,c,d⟩ rfl (iS (a _ _ q))⟩
 |int i v=>
  cases m with
  |none=>exact⟨"str",_,F.slot_str_getitem.lookup,gY _ _ _,iR (l:=some (i,v)) (u:=none) (st:=none) ⟨o,e,c,d⟩ rfl (iS (a _ _ q))⟩
  |int j u=>exact⟨"str",_,F.slot_str_getitem.lookup,gY _ _ _,iR (l:=some (i,v)) (u:=some (j,u)) (st:=none) ⟨o,e,c,d⟩ rfl (iS (a _ _ q))⟩
end
end L2
namespace L3
open PySem PySem.Spec PyProof.Rows L2
section
variable{X:Cx}
def o_is:OpQ X (fM .Is) (zIs false):=a2c (op_isN.or b3J) λx y H Q g=>g.un λa b G R d c e h f=>by
 cases b with
 |non=>rw[a0u]at c;exact .inl ⟨c,by rw[a3i d];exact f _ _ _ _ h (by rw[a0q];rfl) e (.refl _ _)⟩
 |bl b=>
  cases a with
  |bl a=>rw[a0q]at d c;exact .inr ⟨_,_,d,c,f _ _ _ _ h.2 (by rw[a0q]) e (.refl _ _)⟩
  |_=>exact bg h
 |_=>exact bg h
def b1u:OpQ X (fM .IsNot) (zIs true):=a2c b0T λx y H Q d=>d.un λa b G R g c e h f=>by
 cases b with
 |non=>rw[a0u]at c;exact⟨c,by rw[a3i g];exact f _ _ _ _ h (by rw[a0q];rfl) e (.refl _ _)⟩
 |bl b=>
  cases a with
  |bl a=>exact nomatch h.1
  |_=>exact bg h
 |_=>exact bg h
def zIx:R3:=λx y G R=>match x,y with
 |.ref p,.int i=>∃ws w,G p=some (.lst ws)/\atI ws i=some w/\R w G
 |.scr _ ns,.int i=>∃n,atI ns i=some n/\R (.int n) G
 |.tup ws,.int i=>∃w,atI ws i=some w/\R w G
 |.str z,.int i=>∃c,z.length<=fG/\atI z.cps.toList i=some c/\R (.str ⟨#[c]⟩) G
 |_,_=>False
def a7E{K:Fg}(r:Reps K H ws vs)(h:atI ws i=some w):∃v,atI vs i=some v/\Rep K H w v:=by
 unfold atI at h ⊢;rw[<- r.length];cases e:ixN ws.length i with
 |none=>rw[e]at h;cases h
 |some j=>
  rw[e]at h;exact r.get h
def b1v{α β:Type}{f:α->β}{xs:List α}{x:α}(h:atI xs i=some x):atI (xs.map f) i=some (f x):=by
 unfold atI at h ⊢;rw[aT];cases e:ixN xs.length i with
 |none=>rw[e]at h;cases h
 |some j=>
  rw[e]at h;have a:xs[j]?=some x:=h
  show _[j]?=some _
  rw[aW,a];rfl
def x_ix:IxQ X zIx:=b3m b28 λx y H Q s=>s.un λa b G R d f g h i=>by
  cases a<;>cases b<;>first
    |exact bg h
    | (rw[a0j]at d
       obtain⟨z,w,e,m,h⟩:=h;obtain⟨q,k,j⟩:=g _ _ e;obtain⟨v,o,l⟩:=a7E j m;exact .inl ⟨_,_,_,v,d,f,SqL.of k,o,i _ _ _ _ h l g (.refl _ _)⟩)
    | (rw[a2a]at d
       obtain⟨n,u,h⟩:=h;exact .inl ⟨_,_,_,_,d.1,f,d.2.sq,b1v u,i _ _ _ _ h (by rw[a0k]) g (.refl _ _)⟩)
    | (rw[a0V]at d
       obtain⟨p,q,e,k,j⟩:=d;obtain⟨w,m,h⟩:=h;obtain⟨v,o,l⟩:=a7E j m;exact .inr (.inl ⟨p,q,_,v,e,f,SqT.of k,o,i _ _ _ _ h l g (.refl _ _)⟩))
    | (rw[a0r]at d
       obtain⟨c,r,t,h⟩:=h;exact .inr (.inr ⟨_,_,c,d,f,r,t,i _ _ _ _ h (by rw[a0r]) g (.refl _ _)⟩))
noncomputable def cutZ{α:Type}(xs:List α)(lo hi:Option Int):List α:=(xs.drop (HT.sIx xs.length 0 lo)).take (HT.sIx xs.length xs.length hi-HT.sIx xs.length 0 lo)
def b1w(xs:List V)(lo hi:Option Int):cutV xs lo hi=cutZ xs lo hi:=rfl
def Reps.cut{K:Fg}(r:Reps K H ws vs)(lo hi:Option Int):Reps K H (cutZ ws lo hi) (cutV vs lo hi):=by
 unfold cutZ cutV;rw[<- r.length];exact (r.drop _).take _
def a9h{α β:Type}(f:α->β)(xs:List α)(lo hi:Option Int):cutZ (xs.map f) lo hi=(cutZ xs lo hi).map f:=by
 unfold cutZ;rw[aT,List.map_take,List.map_drop]
def zSl:L3r:=λx lo hi G R=>match x with
 |.ref p=>∃ws,G p=some (.lst ws)/\∀t,G t=none->R (.ref t) (put G t (.lst (cutZ ws lo hi)))
 |.scr _ ns=>∀t,G t=none->R (.ref t) (put G t (.lst ((cutZ ns lo hi).map Z.int)))
 |.tup ws=>¬ (HT.sIx ws.length 0 lo=0/\HT.sIx ws.length ws.length hi=ws.length)/\R (.tup (cutZ ws lo hi)) G
 |.str z=>z.length<=fG/\R (.str (Txt.slice z lo hi)) G
 |_=>False
def x_sl:SlQ X zSl:=b5Y (sl_list.or (sl_tup.or b3K)) λx l k H Q m=>m.un λa G R c d h g=>by
 cases a with
 |ref p=>
  obtain⟨n,e,h⟩:=h;obtain⟨j,i,f⟩:=d _ _ e;exact .inl ⟨p,j,c,SqL.of i,λt b=>g _ _ _ _ (h t (d.out b)) (by rw[a0j]) (d.set (.new b) (a0J (f.cut l k) (.new b))) (.new b)⟩
 |scr p ns=>
  refine .inl ⟨p,_,c.1,c.2.sq,λt b=>?_⟩;rw[b1w,a9h];exact g _ _ _ _ (h t (d.out b)) (by rw[a0j]) (d.set (.new b) (a0J (a1O _) (.new b))) (.new b)
 |tup n=>
  obtain⟨p,j,e,i,f⟩:=c;exact .inr (.inl ⟨p,j,e,SqT.of i,by rw[<- f.length];exact h.1,λt b=>g _ _ _ _ h.2 (by rw[a0V];exact⟨t,_,rfl,a0d,(f.cut l k).mono (.new b)⟩) (d.hid b) (.new b)⟩)
 |str z=>
  exact .inr (.inr ⟨z,c,h.1,g _ _ _ _ h.2 (by rw[a0r]) d (.refl _ _)⟩)
 |_=>exact bg h
def zSet:Z3:=λo i v G R=>match o,i with
 |.ref p,.int k=>∃ws j,G p=some (.lst ws)/\ixN ws.length k=some j/\R (put G p (.lst (ws.set j v)))
 |_,_=>False
def b6d:SetQ X zSet:=b0h a8Z λo i v H Q p=>p.un λa b w G R f g l k h q=>by
  cases a<;>cases b<;>first
    |exact bg h
    | (rw[a0j]at f
       obtain⟨r,j,e,m,h⟩:=h;obtain⟨n,c,d⟩:=k _ _ e;exact⟨_,n,_,j,f,g,c,by rw[<- d.length];exact m,q _ _ h (k.set (.lst c) (a0J (d.set l j) (.lst c))) (.lst c)⟩)
def zLen:List Z->Hq->K3->Prop:=λxs G R=>match xs with
 |[.str z]=>z.length<=fG/\R (.int z.length) G
 |[.ref p]=>∃ws,G p=some (.lst ws)/\R (.int ws.length) G
 |[.tup ws]=>R (.int ws.length) G
 |[.scr _ ns]=>R (.int ns.length) G
 |_=>False
def b3L:a2b X (.builtin "len") zLen:=a1C a8S λl H Q k=>k.un λj G R c a h d=>by
 match j,h with
 |[.str z],h=>
  obtain⟨v,rfl,r⟩:=c.one;exact⟨v,z.length,rfl,by rw[r];exact⟨h.1,rfl⟩,d _ _ _ _ h.2 (by rw[a0k]) a (.refl _ _)⟩
 |[.ref p],h=>
  obtain⟨v,rfl,r⟩:=c.one;obtain⟨i,e,h⟩:=h;obtain⟨g,f,b⟩:=a _ _ e;exact⟨v,i.length,rfl,by rw[r];exact .inl ⟨g,SqL.of f,b.length⟩,d _ _ _ _ h (by rw[a0k]) a (.refl _ _)⟩
 |[.tup i],h=>
  obtain⟨v,rfl,r⟩:=c.one;obtain⟨p,g,e,f,b⟩:=r;exact⟨v,i.length,rfl,by rw[e];exact .inr ⟨g,SqT.of f,b.length⟩,d _ _ _ _ h (by rw[a0k]) a (.refl _ _)⟩
 |[.scr p ns],h=>
  obtain⟨v,rfl,r⟩:=c.one;exact⟨v,ns.length,rfl,by rw[r.1];exact .inl ⟨_,r.2.sq,(aT ..).symm⟩,d _ _ _ _ h (by rw[a0k]) a (.refl _ _)⟩
def zMM(f:Int->Int->Int):List Z->Hq->K3->Prop:=λxs G R=>match xs with
 |[.int i,.int j]=>R (.int (f i j)) G
 |_=>False
def bMM{id:String}(hf:CallR X (.builtin id) (λxs H Q=>∃i j,xs=[.int i,.int j]/\Q (.int (f i j)) H)):a2b X (.builtin id) (zMM f):=a1C hf λl H Q d=>d.un λc G R e b h g=>by
 match c,h with
 |[.int i,.int j],h=>
  obtain⟨v,k,rfl,r,a⟩:=e.two;exact⟨i,j,by rw[r,a],g _ _ _ _ h (by rw[a0k]) b (.refl _ _)⟩
def b6e(hc:X.calm=true):a2b X (.builtin "max") (zMM λi j=>if j > i then j else i):=bMM (a6U hc)
def b6f(hc:X.calm=true):a2b X (.builtin "min") (zMM λi j=>if j<i then j else i):=bMM (a6V hc)
def b3M:List Z->Hq->K3->Prop:=λxs G R=>match xs with
 |[.ref p]=>∃ws,G p=some (.lst ws)/\∀t,G t=none->R (.ref t) (put G t (.lst ws))
 |[.tup ws]=>∀t,G t=none->R (.ref t) (put G t (.lst ws))
 |[.scr _ ns]=>∀t,G t=none->R (.ref t) (put G t (.lst (ns.map Z.int)))
 |_=>False
def b0l:a2b X (.type "list") b3M:=a1C a4f λm H Q j=>j.un λl G R i b h f=>by
 match l,h with
 |[.ref p],h=>
  obtain⟨v,rfl,r⟩:=i.one;obtain⟨k,e,h⟩:=h;obtain⟨d,g,c⟩:=b _ _ e;exact⟨p,d,by rw[r],.inl (SqL.of g),λt a=>f _ _ _ _ (h t (b.out a)) (by rw[a0j]) (b.set (.new a) (a0J c (.new a))) (.new a)⟩
 |[.tup k],h=>
  obtain⟨v,rfl,r⟩:=i.one;obtain⟨p,d,e,g,c⟩:=r;exact⟨p,d,by rw[e],.inr (SqT.of g),λt a=>f _ _ _ _ (h t (b.out a)) (by rw[a0j]) (b.set (.new a) (a0J c (.new a))) (.new a)⟩
 |[.scr p ns],h=>
  obtain⟨v,rfl,r⟩:=i.one;exact⟨p,_,by rw[r.1],.inl r.2.sq,λt a=>f _ _ _ _ (h t (b.out a)) (by rw[a0j]) (b.set (.new a) (a0J (a1O _) (.new a))) (.new a)⟩
noncomputable def kit0(n T:String):Option Bool:=if (Value.type n==Value.type T)=true then some true else if PySem.W.kitMeta T=true then (PySem.fastBuiltinMro n).map (·.contains (.type T)) else none
def b3N{K:Fg}:PySem.W.kitOne K (.type n) (.type T)=kit0 n T:=rfl
noncomputable def tyN(G:Hq):Z->Option String
 |.non=>some "NoneType"
 |.bl _=>some "bool"
 |.int _=>some "int"
 |.str _=>some "str"
 |.tup _=>some "tuple"
 |.ref p=>match G p with
  |some (.lst _)=>some "list"
  |some (.dK _)=>some "dict"
  |_=>none
 |_=>none
def zIsT:List Z->Hq->K3->Prop:=λxs G R=>match xs with
 |[x,.ty T]=>∃n b,tyN G x=some n/\kit0 n T=some b/\R (.bl b) G
 |_=>False
def a9i{K:Fg}{G:Hq}{H:Hp}{x:Z}{v:V}{n:String}(h:tyN G x=some n)(r:Rep K H x v)(hg:RH K G H):TyOf K H v (.type n):=by
 cases x with
 |non=>rw[a0u]at r;subst r;cases h;exact .non
 |bl _=>rw[a0q]at r;subst r;cases h;exact .bl _
 |int _=>rw[a0k]at r;subst r;cases h;exact .int _
 |str _=>rw[a0r]at r;subst r;cases h;exact .str _
 |tup ws=>rw[a0V]at r;obtain⟨a,vs,rfl,e,_⟩:=r;cases h;exact .tup e
 |ref p=>
  rw[a0j]at r;subst r;cases e:G p with
  |none=>simp[tyN,e]at h
  |some o=>
   cases o with
   |lst ws=>simp[tyN,e]at h;subst h;obtain⟨vs,e',_⟩:=hg _ _ e;exact .lst e'
   |dK kvs=>simp[tyN,e]at h;subst h;obtain⟨vs,e',_⟩:=hg _ _ e;exact .dK e'
   |ins C dx fs=>simp[tyN,e]at h
   |dF kvs=>simp[tyN,e]at h
   |dT ks=>simp[tyN,e]at h
   |tab _ _=>simp[tyN,e]at h
 |ty _=>cases h
 |scr _ _=>cases h
def b3O:a2b X (.builtin "isinstance") zIsT:=a1C a9a λl H Q g=>g.un λf G R d a h i=>by
 match f,h with
 |[x,.ty T],h=>
  obtain⟨v,j,rfl,r,c⟩:=d.two;obtain⟨n,b,e,k,h⟩:=h;exact⟨v,T,.type n,b,by rw[c],a9i e r a,by rw[b3N];exact k,i _ _ _ _ h (by rw[a0q]) a (.refl _ _)⟩
def a2f:Z->List Z->Hq->K3->Prop:=λx xs G R=>match x,xs with
 |.ref p,[y]=>∃ws,G p=some (.lst ws)/\ws.length<fG/\R .non (put G p (.lst (ws++[y])))
 |_,_=>False
def a9j:MtQ X "list.append" a2f:=a40 a4g λx n H Q j=>j.un λw k G R c f d h l=>by
 match w,k,h with
 |.ref p,[y],h=>
  obtain⟨v,rfl,r⟩:=f.one;obtain⟨m,e,g,h⟩:=h;obtain⟨i,a,b⟩:=d _ _ e;exact⟨p,i,v,c,rfl,a,by rw[<- b.length];exact g,l _ _ _ _ h (by rw[a0u]) (d.set (.lst a) (a0J (b.append (.cons r .nil)) (.lst a))) (.lst a)⟩
def a7F:Z->List Z->Hq->K3->Prop:=λx xs G R=>match x,xs with
 |.ref p,[.ref q]=>∃ws ys,G p=some (.lst ws)/\G q=some (.lst ys)/\ws.length+ys.length<=fG/\R .non (put G p (.lst (ws++ys)))
 |_,_=>False
def a3G:MtQ X "list.extend" a7F:=a40 a67 λx u H Q m=>m.un λw n G R d i f h s=>by
 match w,n,h with
 |.ref p,[.ref q],h=>
  obtain⟨v,rfl,r⟩:=i.one;obtain⟨t,y,e,k,j,h⟩:=h;obtain⟨l,a,c⟩:=f _ _ e;obtain⟨o,g,b⟩:=f _ _ k;exact⟨p,q,l,o,d,by rw[r],a,g,by rw[<- c.length,<- b.length];exact j,s _ _ _ _ h (by rw[a0u]) (f.set (.lst a) (a0J (c.append b) (.lst a))) (.lst a)⟩
def a9k:E3:=λ_ G R=>∀p,G p=none->R (.ref p) (put G p (.dK []))
def a2u:QE X (.Dict [] [] pos) a9k:=⟨a0I a83 fun τ H Q ⟨σ,G,R,d,b,h,c⟩ p a=>c _ _ _ _ (h p (b.out a)) (by rw[a0j]) (b.set (.new a) ⟨[],a0d,rfl,.nil⟩) (.new a)⟩
end
section
variable{σ:S3}{G:Hq}{R:K3}{Rb:Bool->Hq->Prop}{Ra:List Z->Hq->Prop}{nx bk ct:C3}{rt:K3}{t u:X3}{te ta tb tc to ti:E3}{c d:T3}{al:A3}{r r':R3}{w x y:Z}{i:Nat}
def b1x(e:σ[i]?=some (some w))(h:R w G):uVar i σ G R:=⟨w,e,h⟩
def i_c(h:R w G):uC w σ G R:=h
def i_op(h:ta σ G λx G1=>tb σ G1 λy G2=>r x y G2 R):uOp r ta tb σ G R:=h
def i_un{r:Z->Hq->K3->Prop}(h:ta σ G λx G1=>r x G1 R):uUn r ta σ G R:=h
def b3P(h:ta σ G λx G1=>∃k,x=.bl k/\Rb k G1):a6i ta σ G Rb:=h
def b6g(h:c σ G λk G1=>if k=true then d σ G1 Rb else Rb false G1):uAnd c d σ G Rb:=h
def i_or(h:c σ G λk G1=>if k=true then Rb true G1 else d σ G1 Rb):uOr c d σ G Rb:=h
def b6h(h:c σ G λk G1=>Rb (!k) G1):uNot c σ G Rb:=h
def b3Q(h:ta σ G λx G1=>∃c,x=.bl c/\if c=true then tb σ G1 R else R (.bl false) G1):b3r ta tb σ G R:=h
def i_if(h:c σ G λk G1=>if k=true then ta σ G1 R else tb σ G1 R):uIf c ta tb σ G R:=h
def b6i(h:ta σ G λx G1=>tru x G1 Rb):uTru ta σ G Rb:=h
def b3R(e:G p=some (.lst ws))(h:Rb (!ws.isEmpty) G):tru (.ref p) G Rb:=.inl ⟨ws,e,h⟩
def i_sl{r:L3r}(h:te σ G λx G1=>tl σ G1 λl G2=>th σ G2 λu G3=>r x l u G3 R):uSl r te tl th σ G R:=h
def a9l(h:Ro none G):a7r σ G Ro:=h
def b3S(h:te σ G λx G1=>∃i,x=.int i/\Ro (some i) G1):b3v te σ G Ro:=h
def b6j(h:Ra [] G):uNil σ G Ra:=h
def b3T(h:ta σ G λx G1=>al σ G1 λxs G2=>Ra (x::xs) G2):a2z ta al σ G Ra:=h
def b6k(h:al σ G λxs G1=>xs.length<=fG/\R (.tup xs) G1):uTup al σ G R:=h
def b6l(h:al σ G λxs G1=>xs.length<=fG/\∀p,G1 p=none->R (.ref p) (put G1 p (.lst xs))):uLst al σ G R:=h
def i_cb{r:List Z->Hq->K3->Prop}(h:al σ G λws G1=>r ws G1 R):uCB r al σ G R:=h
def i_bm{r:Z->List Z->Hq->K3->Prop}(h:to σ G λx G1=>tyZ T x G1/\al σ G1 λxs G2=>r x xs G2 R):uBM T r to al σ G R:=h
def b3U(h:al σ G λws G1=>sp ws G1 R):a9e sp al σ G R:=h
def b3V(h:nx σ G):a9f nx rt bk ct σ G:=h
def b1y(h:t (u nx rt bk ct) rt bk ct σ G):uSeq t u nx rt bk ct σ G:=h
def b3W(h:te σ G λ_ G1=>nx σ G1):b1n te nx rt bk ct σ G:=h
def b3X(h:te σ G rt):uRet te nx rt bk ct σ G:=h
def b6m(h:c σ G λb G1=>if b=true then t nx rt bk ct σ G1 else u nx rt bk ct σ G1):uIfS c t u nx rt bk ct σ G:=h
def b1z(h:te σ G λx G1=>∃σ',a3D pt x σ=some σ'/\nx σ' G1):uAsg te pt nx rt bk ct σ G:=h
def b6n{r:Z3}(h:te σ G λw G1=>to σ G1 λo G2=>ti σ G2 λi G3=>r o i w G3 λG4=>nx σ G4):uPut te to ti r nx rt bk ct σ G:=h
def b6o(e:σ[i]?=some (some x))(h:te σ G λy G1=>r x y G1 λz G2=>nx (σ.set i (some z)) G2):uAug i te r nx rt bk ct σ G:=⟨x,e,h⟩
def a3H(M:C3)(h:t M rt bk ct σ G)(h':∀σ' G',M σ' G'->u nx rt bk ct σ' G'):uCut t u nx rt bk ct σ G:=⟨M,h,h'⟩
def b3Y(h:R (.int (a+b)) G):zAdd (.int a) (.int b) G R:=h
def a4l(z:a.length+b.length<=fG)(h:R (.str (a++b)) G):zAdd (.str a) (.str b) G R:=⟨z,h⟩
def b3Z(e:xs≠[])(z:xs.length+ys.length<=fG)(h:R (.tup (xs++ys)) G):zAdd (.tup xs) (.tup ys) G R:=⟨e,z,h⟩
def i_I(k:C a b)(h:R (g a b) G):zI C g (.int a) (.int b) G R:=⟨k,h⟩
def i_I0(h:R (g a b) G):zI0 g (.int a) (.int b) G R:=h
def b6p(h:R (.int (-a)) G):zNeg (.int a) G R:=h
def i_CI(h:R (.bl (f a b)) G):zC f g (.int a) (.int b) G R:=h
def b6q(h:R (.bl (decide (x=.non))) G):zIs false x .non G R:=h
def b30(h:R (.bl (!decide (x=.non))) G):zIs true x .non G R:=h
def b31(h:R (.bl (f (decide (a=b)))) G):zEq f (.int a) (.int b) G R:=h
def b6r(h:R (.bl (f (decide (a=b)))) G):zEq f (.str a) (.str b) G R:=h
def b32(e:G p=some (.lst xs))(e':G q=some (.lst ys))(f1:xs.all (flat 8)=true)(f2:ys.all (flat 8)=true)(h:R (.bl (f (decide (xs=ys)))) G):zEq f (.ref p) (.ref q) G R:=⟨xs,ys,e,e',f1,f2,h⟩
def a1w(e:G p=some (.lst ws))(a:atI ws k=some w)(h:R w G):zIx (.ref p) (.int k) G R:=⟨ws,w,e,a,h⟩
def b6s(a:atI ns k=some n)(h:R (.int n) G):zIx (.scr p ns) (.int k) G R:=⟨n,a,h⟩
def a0O(a:atI ws k=some w)(h:R w G):zIx (.tup ws) (.int k) G R:=⟨w,a,h⟩
def a7G(l:z.length<=fG)(a:atI z.cps.toList k=some ch)(h:R (.str ⟨#[ch]⟩) G):zIx (.str z) (.int k) G R:=⟨ch,l,a,h⟩
def b33{lo hi:Option Int}(l:z.length<=fG)(h:R (.str (Txt.slice z lo hi)) G):zSl (.str z) lo hi G R:=⟨l,h⟩
def b6t{lo hi:Option Int}(e:G p=some (.lst ws))(h:∀t,G t=none->R (.ref t) (put G t (.lst (cutZ ws lo hi)))):zSl (.ref p) lo hi G R:=⟨ws,e,h⟩
def b6u{lo hi:Option Int}(h:∀t,G t=none->R (.ref t) (put G t (.lst ((cutZ ns lo hi).map Z.int)))):zSl (.scr p ns) lo hi G R:=h
def b34{lo hi:Option Int}(n:¬ (HT.sIx ws.length 0 lo=0/\HT.sIx ws.length ws.length hi=ws.length))(h:R (.tup (cutZ ws lo hi)) G):zSl (.tup ws) lo hi G R:=⟨n,h⟩
def b6v(e:G p=some (.lst ws))(a:ixN ws.length k=some j)(h:Rg (put G p (.lst (ws.set j w)))):zSet (.ref p) (.int k) w G Rg:=⟨ws,j,e,a,h⟩
def b35(h:∀p,G p=none->R (.ref p) (put G p (.dK []))):a9k σ G R:=h
def b36(l:z.length<=fG)(h:R (.int z.length) G):zLen [.str z] G R:=⟨l,h⟩
def a4m(e:G p=some (.lst ws))(h:R (.int ws.length) G):zLen [.ref p] G R:=⟨ws,e,h⟩
def b37(h:R (.int ns.length) G):zLen [.scr p ns] G R:=h
def i_mm(h:R (.int (f a b)) G):zMM f [.int a,.int b] G R:=h
def b1A(e:G p=some (.lst ws))(h:∀t,G t=none->R (.ref t) (put G t (.lst ws))):b3M [.ref p] G R:=⟨ws,e,h⟩
def b6w(e:tyN G x=some n)(k:kit0 n T=some b)(h:R (.bl b) G):zIsT [x,.ty T] G R:=⟨n,b,e,k,h⟩
def a0S(e:G p=some (.lst ws))(z:ws.length<fG)(h:R .non (put G p (.lst (ws++[y])))):a2f (.ref p) [y] G R:=⟨ws,e,z,h⟩
def a2D(e:G p=some (.lst ws))(e':G q=some (.lst ys))(z:ws.length+ys.length<=fG)(h:R .non (put G p (.lst (ws++ys)))):a7F (.ref p) [.ref q] G R:=⟨ws,ys,e,e',z,h⟩
def b6x{P:Prop}(h:P):tyZ "str" (.str z) G/\P:=⟨rfl,h⟩
def a1i{P:Prop}(e:G p=some (.lst ws))(h:P):tyZ "list" (.ref p) G/\P:=⟨.inl ⟨rfl,ws,e⟩,h⟩
def i_nm(h:nx (σ.set j (some w)) G):∃σ',a3D (.nm j) w σ=some σ'/\nx σ' G:=⟨_,rfl,h⟩
def b38{tb:X3}(h:wi σ G λws ok G1=>FORB ws ok pt tb nx rt σ G1):uFor wi pt tb nx rt bk ct σ G:=h
def b6y(h:wi σ G λws ok G1=>∀D,G1 D=none->LCB ws ok cap pt tt te σ R D G1):uLC wi cap pt tt te σ G R:=h
variable{Ri:List Z->(Hq->Prop)->Hq->Prop}
def i_iL(h:te σ G λx G1=>wkL x G1 Ri):iL te σ G Ri:=h
def b6z(h:al σ G λws G1=>∃j:Int,ws=[.int j]/\-(2 ^ 62)<=j/\j<2 ^ 62/\Ri (rng 0 j.toNat) (λ_=>True) G1):iR1 al σ G Ri:=h
def a1R(e:G p=some (.lst ws))(h:Ri ws (λG=>G p=some (.lst ws)) G):wkL (.ref p) G Ri:=⟨ws,e,h⟩
def i_tt(h:Rb true G):uTT σ G Rb:=h
end
def ifD{p A B:Prop}[Decidable p](h1:p->A)(h2:¬ p->B):if decide p=true then A else B:=by simp_all
def ifN{p A B:Prop}[Decidable p](h1:¬ p->A)(h2:p->B):if (!decide p)=true then A else B:=by simp_all
def ifB{A B:Prop}(h1:b=true->A)(h2:b=false->B):if b=true then A else B:=by simp_all
def ifT{A B:Prop}(h:A):if true=true then A else B:=by rw[if_pos rfl];exact h
def ifF{A B:Prop}(h:B):if false=true then A else B:=by rw[if_neg (by decide)];exact h
def ifNN{A B:Prop}(h:A):if decide (Z.non=Z.non)=true then A else B:=by simp_all
def ifNI{A B:Prop}(h:B):if decide (Z.int i=Z.non)=true then A else B:=by rw[if_neg (by simp)];exact h
def ifNS{A B:Prop}(h:B):if decide (Z.str i=Z.non)=true then A else B:=by rw[if_neg (by simp)];exact h
def ifMN{A B:Prop}(h:B):if (!decide (Z.non=Z.non))=true then A else B:=by rw[if_neg (by simp)];exact h
def ifMI{A B:Prop}(h:A):if (!decide (Z.int i=Z.non))=true then A else B:=by rw[if_pos (by simp)];exact h
def ifMS{A B:Prop}(h:A):if (!decide (Z.str i=Z.non))=true then A else B:=by rw[if_pos (by simp)];exact h
def at0{α:Type}{a:α}{r:List α}:atI (a::r) 0=some a:=a1j (j:=0) rfl
def at1{α:Type}{a b:α}{r:List α}:atI (a::b::r) 1=some b:=a1j (j:=1) rfl
def at2{α:Type}{a b c:α}{r:List α}:atI (a::b::c::r) 2=some c:=a1j (j:=2) rfl
def Sm(G G':Hq):Prop:=∀b o,G b=some o->G' b=some o
def Sm.refl(G:Hq):Sm G G:=λ_ _ h=>h
def Sm.trans(a:Sm G G1)(b:Sm G1 G2):Sm G G2:=λc o h=>b c o (a c o h)
def Sm.get(s:Sm G G')(h:G b=some o):G' b=some o:=s b o h
def Sm.new(h:G p=none):Sm G (put G p o):=λ_ _ e=>a0c e h
def Sm.free(s:Sm G G')(h:G' p=none):G p=none:=by
 cases e:G p with
 |none=>rfl
 |some o=>rw[s p o e]at h;cases h
def Kq(r:Addr)(G G':Hq):Prop:=∀b o,G b=some o->b≠r->G' b=some o
def Kq.refl(r:Addr)(G:Hq):Kq r G G:=λ_ _ h _=>h
def Kq.trans(a:Kq r G G1)(b:Kq r G1 G2):Kq r G G2:=λc o h n=>b c o (a c o h n) n
def Kq.new(h:G p=none):Kq r G (put G p o):=λ_ _ e _=>a0c e h
def Kq.at:Kq r G (put G r o):=λ_ _ e n=>by rw[a0f n];exact e
def Sm.kq(s:Sm G G'):Kq r G G':=λb o e _=>s b o e
noncomputable def Sm.put(s:Sm G G')(h:G p=none):Sm G (put G' p o):=λb u e=>by rw[a0f (a0b e h)];exact s b u e
end L3
set_option maxHeartbeats 4000000
namespace Tim
open PySem PyProof.Rows
abbrev KF:=Keyed->Int
noncomputable def Kk(κ:KF)(xs:Array Keyed)(i:Nat):Int:=match xs[i]? with
 |some p=>κ p
 |none=>0
section
variable{κ:KF}{xs ys:Array Keyed}{i j:Nat}{p:Keyed}
def a43(h:xs[i]?=some p):Kk κ xs i=κ p:=by unfold Kk;rw[h]
def a2P(h:xs[i]?=ys[j]?):Kk κ xs i=Kk κ ys j:=by unfold Kk;rw[h]
end
def LtOk(M:Model)(A:Around)(E:Value->Shared->Prop)(s:Shared)(κ:KF)(k0:gj)(a₀:Array Keyed):Prop:=
 ∀x y,x∈a₀.toList->y∈a₀.toList->∀(st:SortSt)(Q:Option Bool->SortSt->Prop),kindOf st=k0->Q (some (decide (κ x<κ y))) st->wpS M A E s (lt' x y) Q st
structure TB (k0:gj) (a₀:Array Keyed) (st:SortSt):Prop where
 pm:(arrOf st).Perm a₀
 kd:kindOf st=k0
 fl:f8 st=none
def TB.sz{st:SortSt}(h:TB k0 a₀ st):(arrOf st).size=a₀.size:=h.pm.size_eq
def TB.mem{st:SortSt}(h:TB k0 a₀ st){i:Nat}(e:(arrOf st)[i]?=some p):p∈a₀.toList:=by
 have a:p∈(arrOf st).toList:=by rw[eI];exact Array.mem_of_getElem? e
 exact (cZ.mp h.pm).mem_iff.mp a
def TB.arr{st:SortSt}(h:TB k0 a₀ st)(hp:xs.Perm (arrOf st)):TB k0 a₀ (setArr st xs):=⟨hp.trans h.pm,h.kd,h.fl⟩
section
variable{M:Model}{A:Around}{E:Value->Shared->Prop}{s:Shared}{κ:KF}{k0:gj}{a₀:Array Keyed}{st:SortSt}
def a0w(e:arr[i]?=some p)(h:Q p st):wpS M A E s (elem' arr i) Q st:=by
 rw[elem'_eq,e];exact fJ h
def a4n(L:LtOk M A E s κ k0 a₀)(B:TB k0 a₀ st)(hi:i<a₀.size)(hj:j<a₀.size)
  (h:Q (some (decide (Kk κ (arrOf st) i<Kk κ (arrOf st) j))) st):wpS M A E s (ltAt' i j) Q st:=by
 have b:_[i]?=some ((arrOf st)[i]'(B.sz▸hi)):=getElem?_pos ..;have a:(arrOf st)[j]?=some ((arrOf st)[j]'(B.sz▸hj)):=getElem?_pos ..;refine fH (gr (fH (a0w b (fH (a0w a (L _ _ (B.mem b) (B.mem a) st Q B.kd ?_))))));rw[a43 b,a43 a]at h;exact h
end
noncomputable def a1n:Bool->Keyed->Array Keyed->Nat->Nat->Nat->StateT SortSt Sem (Option Nat):=sortPriv% PySem.Builtin.gallop
noncomputable def bey(lft:Bool)(ky:Keyed)(ar:Array Keyed)(bs:Nat)(q:Nat):StateT SortSt Sem (Option Bool):=do
  let z <- elem' ar (bs+q)
  if lft then lt' z ky else return (<- lt' ky z).map (!·)
def a6l(lft:Bool)(ky:Keyed)(ar:Array Keyed)(bs n hnt:Nat):a1n lft ky ar bs n hnt=(do
 let mut lst:=0
 let mut oo:=1
 let mut l:=0
 let mut h:=0
 let some rgt <- bey lft ky ar bs hnt |return none
 if rgt then
  let mx:=n-hnt
  for _ in [0:n] do
   if oo>=mx then break
   let some mo <- bey lft ky ar bs (hnt+oo) |return none
   if !mo then break
   lst:=oo
   oo:=2*oo+1
  l:=hnt+lst+1
  h:=hnt+min oo mx
 else
  let mx:=hnt+1
  for _ in [0:n] do
   if oo>=mx then break
   let some fo <- bey lft ky ar bs (hnt-oo) |return none
   if fo then break
   lst:=oo
   oo:=2*oo+1
  l:=hnt+1-min oo mx
  h:=hnt-lst
 for _ in [0:n] do
  if l>=h then break
  let m:=l+(h-l) / 2
  let some mo <- bey lft ky ar bs m |return none
  if mo then l:=m+1 else h:=m
 return some h):=rfl
noncomputable def bq(lft:Bool)(k x:Int):Bool:=if lft then decide (x<k) else !decide (k<x)
section
variable{M:Model}{A:Around}{E:Value->Shared->Prop}{s:Shared}{κ:KF}{k0:gj}{a₀:Array Keyed}{st:SortSt}
def a7H(L:LtOk M A E s κ k0 a₀)(hk:kindOf st=k0)(hm:ky∈a₀.toList)(ha:∀p∈ar.toList,p∈a₀.toList)(hq:bs+q<ar.size)
  (h:Q (some (bq lft (κ ky) (Kk κ ar (bs+q)))) st):wpS M A E s (bey lft ky ar bs q) Q st:=by
 have b:ar[bs+q]?=some (ar[bs+q]'hq):=getElem?_pos ..;have a:ar[bs+q]∈a₀.toList:=ha _ (by simp);refine fH (a0w b ?_);rw[a43 b]at h;cases lft with
 |true=>
  exact L _ _ a hm st Q hk h
 |false=>
  exact fH (L _ _ hm a st _ hk (fJ h))
def a1t(L:LtOk M A E s κ k0 a₀)(hk:kindOf st=k0)(hm:ky∈a₀.toList)(ha:∀p∈ar.toList,p∈a₀.toList)
  (hn:bs+n<=ar.size) (hh:hnt<n) (mono:∀i j,i<=j->j<n->Kk κ ar (bs+i)<=Kk κ ar (bs+j))
  (h:∀h,h<=n->(∀i,i<h->bq lft (κ ky) (Kk κ ar (bs+i))=true)->(∀i,h<=i->i<n->bq lft (κ ky) (Kk κ ar (bs+i))=false)->Q (some h) st):wpS M A E s (a1n lft ky ar bs n hnt) Q st:=by
 have t:∀i j,i<=j->j<n->bq lft (κ ky) (Kk κ ar (bs+j))=true->bq lft (κ ky) (Kk κ ar (bs+i))=true:=λi j C F H=>by
  have:=mono i j C F
  unfold bq at *;cases lft<;>simp at *<;>lia
 have D:∀i j,i<=j->j<n->bq lft (κ ky) (Kk κ ar (bs+i))=false->bq lft (κ ky) (Kk κ ar (bs+j))=false:=λi j C F H=>by grind
 rw[a6l];refine fH (a7H L hk hm ha (by lia) ?_);dsimp only;cases e0:bq lft (κ ky) (Kk κ ar (bs+hnt)) with
 |true=>
  rw[if_pos rfl];refine fH (f9 (fZ (I:=λx c d=>d=st/\∃a b,c=(none,a,b)/\a<b/\x+1<=b/\hnt+a<n/\bq lft (κ ky) (Kk κ ar (bs+(hnt+a)))=true)
   (Q:=λc d=>d=st/\∃a b,c=(none,a,b)/\a<b/\hnt+a<n/\bq lft (κ ky) (Kk κ ar (bs+(hnt+a)))=true/\(n-hnt<=b\/(hnt+b<n/\bq lft (κ ky) (Kk κ ar (bs+(hnt+b)))=false))) ?step ?fin ?init) ?post)
  case init=>exact⟨rfl,0,1,rfl,by lia,by lia,by lia,e0⟩
  case fin=>
   rintro c d ⟨rfl,a,b,rfl,m,k,o,f⟩;exact⟨rfl,a,b,rfl,m,o,f,.inl (by lia)⟩
  case step=>
   rintro x c d _ G ⟨rfl,a,b,rfl,m,k,o,f⟩;dsimp only
   by_cases hge:b>=n-hnt
   ·rw[if_pos hge];exact fJ ⟨rfl,a,b,rfl,m,o,f,.inl hge⟩
   ·rw[if_neg hge];refine fH (a7H L hk hm ha (by lia) ?_);cases e:bq lft (κ ky) (Kk κ ar (bs+(hnt+b))) with
    |true=>
     dsimp only;rw[if_neg (by decide)];exact fJ ⟨rfl,b,2*b+1,rfl,by lia,by lia,by lia,e⟩
    |false=>
     dsimp only;rw[if_pos (show (!false)=true from rfl)];exact fJ ⟨rfl,a,b,rfl,m,o,f,.inr ⟨by lia,e⟩⟩
  case post=>
   rintro c d ⟨y,a,b,rfl,m,o,f,g⟩;have y:=y.symm;subst y;dsimp only;have q:hnt+a+1<=hnt+min b (n-hnt):=by lia
   have w:hnt+min b (n-hnt)<=n:=by lia
   have v:∀i,i<hnt+a+1->bq lft (κ ky) (Kk κ ar (bs+i))=true:=λi J=>t i _ (by lia) (by lia) f;have u:∀i,hnt+min b (n-hnt)<=i->i<n->bq lft (κ ky) (Kk κ ar (bs+i))=false:=λi B z=>by grind
   generalize hnt+a+1=l0 at q v ⊢;generalize hnt+min b (n-hnt)=h0 at q w u ⊢;refine fH (f9 (fZ (I:=λx c d=>d=st/\∃l r,c=(none,l,r)/\l<=r/\r<=n/\r-l<=n-x/\(∀i,i<l->bq lft (κ ky) (Kk κ ar (bs+i))=true)/\(∀i,r<=i->i<n->bq lft (κ ky) (Kk κ ar (bs+i))=false))
    (Q:=λc d=>d=st/\∃l,c=(none,l,l)/\l<=n/\(∀i,i<l->bq lft (κ ky) (Kk κ ar (bs+i))=true)/\(∀i,l<=i->i<n->bq lft (κ ky) (Kk κ ar (bs+i))=false)) ?st2 ?fi2 ?in2) ?po2)
   case in2=>exact⟨rfl,l0,h0,rfl,q,w,by lia,v,u⟩
   case fi2=>
    rintro c d ⟨rfl,l,r,rfl,m,k,o,f,g⟩
    have:l=r:=by lia
    subst this;exact⟨rfl,l,rfl,k,f,g⟩
   case st2=>
    rintro x c d _ G ⟨rfl,l,r,rfl,m,k,o,f,g⟩;dsimp only
    by_cases hge:l>=r
    ·rw[if_pos hge]
     have:l=r:=by lia
     subst this;exact fJ ⟨rfl,l,rfl,k,f,g⟩
    ·rw[if_neg hge];refine fH (a7H L hk hm ha (by lia) ?_);cases e:bq lft (κ ky) (Kk κ ar (bs+(l+(r-l) / 2))) with
     |true=>
      dsimp only;rw[if_pos rfl];exact fJ ⟨rfl,_,r,rfl,by lia,k,by lia,λi J=>t i _ (by lia) (by lia) e,g⟩
     |false=>
      dsimp only;rw[if_neg (by decide)];exact fJ ⟨rfl,l,_,rfl,by lia,by lia,by lia,f,λi B z=>D _ i B z e⟩
   case po2=>
    rintro c d ⟨rfl,l,rfl,k,f,g⟩;exact fJ (h l k f g)
 |false=>
  rw[if_neg (by decide)];refine fH (f9 (fZ (I:=λx c d=>d=st/\∃a b,c=(none,a,b)/\a<b/\x+1<=b/\a<=hnt/\bq lft (κ ky) (Kk κ ar (bs+(hnt-a)))=false)
   (Q:=λc d=>d=st/\∃a b,c=(none,a,b)/\a<b/\a<=hnt/\bq lft (κ ky) (Kk κ ar (bs+(hnt-a)))=false/\(hnt+1<=b\/(b<=hnt/\bq lft (κ ky) (Kk κ ar (bs+(hnt-b)))=true))) ?step ?fin ?init) ?post)
  case init=>exact⟨rfl,0,1,rfl,by lia,by lia,by lia,e0⟩
  case fin=>
   rintro c d ⟨rfl,a,b,rfl,m,k,o,f⟩;exact⟨rfl,a,b,rfl,m,o,f,.inl (by lia)⟩
  case step=>
   rintro x c d _ G ⟨rfl,a,b,rfl,m,k,o,f⟩;dsimp only
   by_cases hge:b>=hnt+1
   ·rw[if_pos hge];exact fJ ⟨rfl,a,b,rfl,m,o,f,.inl hge⟩
   ·rw[if_neg hge];refine fH (a7H L hk hm ha (by lia) ?_);cases e:bq lft (κ ky) (Kk κ ar (bs+(hnt-b))) with
    |true=>
     dsimp only;rw[if_pos rfl];exact fJ ⟨rfl,a,b,rfl,m,o,f,.inr ⟨by lia,e⟩⟩
    |false=>
     dsimp only;rw[if_neg (by decide)];exact fJ ⟨rfl,b,2*b+1,rfl,by lia,by lia,by lia,e⟩
  case post=>
   rintro c d ⟨y,a,b,rfl,m,o,f,g⟩;have y:=y.symm;subst y;dsimp only;have q:hnt+1-min b (hnt+1)<=hnt-a:=by lia
   have w:hnt-a<=n:=by lia
   have v:∀i,i<hnt+1-min b (hnt+1)->bq lft (κ ky) (Kk κ ar (bs+i))=true:=λi J=>by grind
   have u:=λi B z=>D _ i B z f;generalize hnt+1-min b (hnt+1)=l0 at q v ⊢;generalize hnt-a=h0 at q w u ⊢;refine fH (f9 (fZ (I:=λx c d=>d=st/\∃l r,c=(none,l,r)/\l<=r/\r<=n/\r-l<=n-x/\(∀i,i<l->bq lft (κ ky) (Kk κ ar (bs+i))=true)/\(∀i,r<=i->i<n->bq lft (κ ky) (Kk κ ar (bs+i))=false))
    (Q:=λc d=>d=st/\∃l,c=(none,l,l)/\l<=n/\(∀i,i<l->bq lft (κ ky) (Kk κ ar (bs+i))=true)/\(∀i,l<=i->i<n->bq lft (κ ky) (Kk κ ar (bs+i))=false)) ?st2 ?fi2 ?in2) ?po2)
   case in2=>exact⟨rfl,l0,h0,rfl,q,w,by lia,v,u⟩
   case fi2=>
    rintro c d ⟨rfl,l,r,rfl,m,k,o,f,g⟩
    have:l=r:=by lia
    subst this;exact⟨rfl,l,rfl,k,f,g⟩
   case st2=>
    rintro x c d _ G ⟨rfl,l,r,rfl,m,k,o,f,g⟩;dsimp only
    by_cases hge:l>=r
    ·rw[if_pos hge]
     have:l=r:=by lia
     subst this;exact fJ ⟨rfl,l,rfl,k,f,g⟩
    ·rw[if_neg hge];refine fH (a7H L hk hm ha (by lia) ?_);cases e:bq lft (κ ky) (Kk κ ar (bs+(l+(r-l) / 2))) with
     |true=>
      dsimp only;rw[if_pos rfl];exact fJ ⟨rfl,_,r,rfl,by lia,k,by lia,λi J=>t i _ (by lia) (by lia) e,g⟩
     |false=>
      dsimp only;rw[if_neg (by decide)];exact fJ ⟨rfl,l,_,rfl,by lia,by lia,by lia,f,λi B z=>D _ i B z e⟩
   case po2=>
    rintro c d ⟨rfl,l,rfl,k,f,g⟩;exact fJ (h l k f g)
end
noncomputable def a7I:Nat->StateT SortSt Sem Unit:=sortPriv% PySem.Builtin.setMinGallop
def a3I(g:Nat):a7I g=modify λs=>SortSt.mk' (kindOf s) (arrOf s) (fN s) g (f8 s):=rfl
noncomputable def a3J:Array Keyed->Array Keyed->StateT SortSt Sem (Array Keyed):=sortPriv% PySem.Builtin.mergeLo
abbrev dnA(a b o:Array Keyed)(i j:Nat):Array Keyed:=o++a.extract i a.size++b.extract j b.size
abbrev dnB(a b o:Array Keyed)(i j:Nat):Array Keyed:=o++b.extract j b.size++a.extract i a.size
section
variable{κ:KF}{A B o:List Keyed}{i j:Nat}{p:Keyed}
abbrev Srt(κ:KF)(l:List Keyed):Prop:=l.Pairwise λx y=>κ x<=κ y
structure MW (κ:KF) (A B o:List Keyed) (i j:Nat):Prop where
 ia:i<=A.length
 jb:j<=B.length
 pm:(o++(A.drop i++B.drop j)).Perm (A++B)
 so:Srt κ o
 ba:∀x∈o,∀y∈A.drop i,κ x<=κ y
 bb:∀x∈o,∀y∈B.drop j,κ x<=κ y
theorem MW.size(W:MW κ A B o i j):o.length=i+j:=by
 have:=W.pm.length_eq
 have b:=W.ia;have a:=W.jb;simp at this
 lia
def drop_get{l:List Keyed}(h:l[n]?=some p):l.drop n=p::l.drop (n+1):=by
 obtain⟨a,e⟩:=aZ.mp h;rw[dz a,e]
def a5q(h:Srt κ l)(hb:∀x∈l,κ x<=κ p):Srt κ (l++[p]):=by
 refine bA.mpr ⟨h,d0 _ _,λx b y a=>?_⟩;rw[aX.mp a];exact hb x b
def a0T(h:Srt κ l)(n:Nat):Srt κ (l.drop n):=cH.sublist (eO n l) h
def MW.pushA(W:MW κ A B o i j)(sa:Srt κ A)(hp:A[i]?=some p)(hb:∀y∈B.drop j,κ p<=κ y):MW κ A B (o++[p]) (i+1) j:=by
 have c:=drop_get hp;refine⟨((aZ.mp hp).1),W.jb,?_,a5q W.so λx b=>W.ba x b p (by simp_all),λx b y a=>?_,λx b y a=>?_⟩
 ·have:=W.pm
  rw[c]at this;simpa using this
 ·rcases aU.mp b with h |h
  ·exact W.ba x h y (by simp_all)
  ·rw[aX.mp h];exact (bD.mp (c▸a0T sa i)).1 y a
 ·rcases aU.mp b with h |h
  ·exact W.bb x h y a
  ·rw[aX.mp h];exact hb y a
def MW.pushB(W:MW κ A B o i j)(sb:Srt κ B)(hp:B[j]?=some p)(hb:∀y∈A.drop i,κ p<=κ y):MW κ A B (o++[p]) i (j+1):=by
 have c:=drop_get hp;refine⟨W.ia,((aZ.mp hp).1),?_,a5q W.so λx b=>W.bb x b p (by simp_all),λx b y a=>?_,λx b y a=>?_⟩
 ·have:=W.pm
  rw[c]at this;refine bP.trans ?_ this;rw[bH];exact bP.append_left o (show (p::(A.drop i++B.drop _)).Perm _ from eP.symm)
 ·rcases aU.mp b with h |h
  ·exact W.ba x h y a
  ·rw[aX.mp h];exact hb y a
 ·rcases aU.mp b with h |h
  ·exact W.bb x h y (by simp_all)
  ·rw[aX.mp h];exact (bD.mp (c▸a0T sb j)).1 y a
def take_snoc{l:List Keyed}(h:l[n+k]?=some p):(l.drop n).take (k+1)=(l.drop n).take k++[p]:=by
 rw[cz,dc,h];rfl
def MW.runA(W:MW κ A B o i j)(sa:Srt κ A):∀k,i+k<=A.length->(∀q z,i<=q->q<i+k->A[q]?=some z->∀y∈B.drop j,κ z<=κ y)->MW κ A B (o++(A.drop i).take k) (i+k) j:=by intro z0;induction z0 with
 |zero=>intro _ _;simpa using W
 |succ k I0=>
  intro hk hz;have e:A[i+k]?=some A[i+k]:=bh (by lia);rw[take_snoc e,<- bH];exact (I0 (by lia) λq z a c=>hz q z a (by lia)).pushA sa e (hz _ _ (by lia) (by lia) e)
def MW.runB(W:MW κ A B o i j)(sb:Srt κ B):∀k,j+k<=B.length->(∀q z,j<=q->q<j+k->B[q]?=some z->∀y∈A.drop i,κ z<=κ y)->MW κ A B (o++(B.drop j).take k) i (j+k):=by intro z0;induction z0 with
 |zero=>intro _ _;simpa using W
 |succ k I0=>
  intro hk hz;have e:B[j+k]?=some B[j+k]:=bh (by lia);rw[take_snoc e,<- bH];exact (I0 (by lia) λq z a c=>hz q z a (by lia)).pushB sb e (hz _ _ (by lia) (by lia) e)
def Mgd(κ:KF)(A B r:List Keyed):Prop:=r.Perm (A++B)/\Srt κ r
def MW.doneA(W:MW κ A B o i j)(sa:Srt κ A)(sb:Srt κ B)(h:i=A.length\/j=B.length):Mgd κ A B (o++A.drop i++B.drop j):=by
 refine⟨by rw[bH];exact W.pm,?_⟩;rw[bH];refine bA.mpr ⟨W.so,bA.mpr ⟨a0T sa i,a0T sb j,λx a y b=>?_⟩,λx a y b=>?_⟩
 ·rcases h with rfl |rfl
  ·simp_all
  ·simp_all
 ·rcases aU.mp b with h |h
  ·exact W.ba x a y h
  ·exact W.bb x a y h
def MW.doneB(W:MW κ A B o i j)(sa:Srt κ A)(sb:Srt κ B)(h:i+1=A.length)(hl:∀z,A[A.length-1]?=some z->∀y∈B,κ y<=κ z):Mgd κ A B (o++B.drop j++A.drop i):=by
 refine⟨?_,?_⟩
 ·rw[bH];exact bP.trans (bP.append_left o eR) W.pm
 ·rw[bH];have e:A[i]?=some A[i]:=bh (by omega);have c:A.drop i=[A[i]]:=by rw[drop_get e,cM (by omega)]
  refine bA.mpr ⟨W.so,bA.mpr ⟨a0T sb j,a0T sa i,λx b y a=>?_⟩,λx b y a=>?_⟩
  ·rw[c]at a;rw[aX.mp a];exact hl _ (by rw[show A.length-1=i by omega];exact e) x (dA b)
  ·rcases aU.mp a with h |h
   ·exact W.bb x b y h
   ·exact W.ba x b y h
def a1a(h:Srt κ l)(hp:l[n]?=some p):∀y∈l.drop n,κ p<=κ y:=λy a=>by
 have b:=a0T h n;rw[drop_get hp]at b a;rcases bf.mp a with rfl |a
 ·exact bZ _
 ·exact (bD.mp b).1 y a
end
abbrev SM:=StateT SortSt Sem
abbrev T1:=Option (Array Keyed)×Array Keyed×Nat×Nat×Nat×Nat
abbrev T2:=Option (Array Keyed)×Array Keyed×Nat×Nat×Nat×Nat×Nat
noncomputable def lo1(a b:Array Keyed)(g:Nat)(o:Array Keyed)(i j ac bc:Nat):SM (ForInStep T1):=do
 let y <- elem' b j
 let x <- elem' a i
 let r <- lt' y x
 match r with
 |some bw=>
  if bw=true then do
   let y <- elem' b j
   if (j+1==b.size)=true then pure (.done (some (dnA a b (o.push y) i (j+1)),o.push y,i,j+1,0,bc+1))
   else if bc+1>=g then pure (.done (none,o.push y,i,j+1,0,bc+1)) else pure (.yield (none,o.push y,i,j+1,0,bc+1))
  else do
   let x <- elem' a i
   if (i+1+1==a.size)=true then pure (.done (some (dnB a b (o.push x) (i+1) j),o.push x,i+1,j,ac+1,0))
   else if ac+1>=g then pure (.done (none,o.push x,i+1,j,ac+1,0)) else pure (.yield (none,o.push x,i+1,j,ac+1,0))
 |_=>pure (.done (some (dnA a b o i j),o,i,j,ac,bc))
noncomputable def lo5(a b:Array Keyed)(o:Array Keyed)(i j g ac bc:Nat):SM (ForInStep T2):=do
 let x <- elem' a i
 if (i+1+1==a.size)=true then pure (.done (some (dnB a b (o.push x) (i+1) j),o.push x,i+1,j,g,ac,bc))
 else if (decide (ac<7)&&decide (bc<7))=true then pure (.done (none,o.push x,i+1,j,g,ac,bc)) else pure (.yield (none,o.push x,i+1,j,g,ac,bc))
noncomputable def lo4(a b:Array Keyed)(o:Array Keyed)(i j g ac bc:Nat):SM (ForInStep T2):=do
 let y <- elem' b j
 if (j+1==b.size)=true then pure (.done (some (dnA a b (o.push y) i (j+1)),o.push y,i,j+1,g,ac,bc))
 else do
  let x <- elem' a i
  let r <- a1n true x b (j+1) (b.size-(j+1)) 0
  match r with
  |some k=>
   if k > 0 then
    if (j+1+k==b.size)=true then pure (.done (some (dnA a b (o.push y++b.extract (j+1) (j+1+k)) i (j+1+k)),o.push y++b.extract (j+1) (j+1+k),i,j+1+k,g,ac,k))
    else lo5 a b (o.push y++b.extract (j+1) (j+1+k)) i (j+1+k) g ac k
   else lo5 a b (o.push y) i (j+1) g ac k
  |_=>pure (.done (some (dnA a b (o.push y) i (j+1)),o.push y,i,j+1,g,ac,bc))
noncomputable def lo3(a b:Array Keyed)(o:Array Keyed)(i j g ac bc:Nat):SM (ForInStep T2):=do
 a7I g
 let y <- elem' b j
 let r <- a1n false y a i (a.size-i) 0
 match r with
 |some k=>
  if k > 0 then
   if (i+k+1==a.size)=true then pure (.done (some (dnB a b (o++a.extract i (i+k)) (i+k) j),o++a.extract i (i+k),i+k,j,g,k,bc))
   else if (i+k==a.size)=true then pure (.done (some (dnA a b (o++a.extract i (i+k)) (i+k) j),o++a.extract i (i+k),i+k,j,g,k,bc))
   else lo4 a b (o++a.extract i (i+k)) (i+k) j g k bc
  else lo4 a b o i j g k bc
 |_=>pure (.done (some (dnA a b o i j),o,i,j,g,ac,bc))
noncomputable def lo2(a b:Array Keyed)(o:Array Keyed)(i j g ac bc:Nat):SM (ForInStep T2):=
 if g > 1 then lo3 a b o i j (g-1) ac bc else lo3 a b o i j g ac bc
def a4o(a b:Array Keyed):a3J a b=(do
  liftM (rule "list.sort.merge-lo")
  let y <- elem' b 0
  if (1==b.size)=true then pure (dnA a b #[y] 0 1)
  else if (0+1==a.size)=true then pure (dnB a b #[y] 0 1)
  else do
   let st <- get
   let c <- forIn [0:a.size+b.size] ((none,#[y],0,1,gallopOf st):Option (Array Keyed)×Array Keyed×Nat×Nat×Nat) λ_ c=>do
    let c1 <- forIn [0:a.size+b.size] ((none,c.2.1,c.2.2.1,c.2.2.2.1,0,0):T1) λ_ c1=>lo1 a b c.2.2.2.2 c1.2.1 c1.2.2.1 c1.2.2.2.1 c1.2.2.2.2.1 c1.2.2.2.2.2
    match c1.1 with
    |some r=>pure (ForInStep.done (some r,c1.2.1,c1.2.2.1,c1.2.2.2.1,c.2.2.2.2))
    |none=>do
     liftM (rule "list.sort.gallop")
     let c2 <- forIn [0:a.size+b.size] ((none,c1.2.1,c1.2.2.1,c1.2.2.2.1,c.2.2.2.2+1,c1.2.2.2.2.1,c1.2.2.2.2.2):T2) λ_ c2=>lo2 a b c2.2.1 c2.2.2.1 c2.2.2.2.1 c2.2.2.2.2.1 c2.2.2.2.2.2.1 c2.2.2.2.2.2.2
     match c2.1 with
     |some r=>pure (ForInStep.done (some r,c2.2.1,c2.2.2.1,c2.2.2.2.1,c2.2.2.2.2.1))
     |none=>do
      a7I (c2.2.2.2.2.1+1)
      pure (ForInStep.yield (none,c2.2.1,c2.2.2.1,c2.2.2.2.1,c2.2.2.2.2.1+1))
   match c.1 with
   |some r=>pure r
   |none=>jl "internal:list.sort.merge-bound"):=by
 kernel_rfl
structure SG (st st':SortSt):Prop where
 kd:kindOf st'=kindOf st
 ar:arrOf st'=arrOf st
 pe:fN st'=fN st
 fl:f8 st'=f8 st
def SG.refl(st:SortSt):SG st st:=⟨rfl,rfl,rfl,rfl⟩
def SG.trans(p:SG x y)(q:SG y z):SG x z:=⟨q.kd.trans p.kd,q.ar.trans p.ar,q.pe.trans p.pe,q.fl.trans p.fl⟩
section
variable{κ:KF}{a b o:Array Keyed}{i j:Nat}
def a1S:(dnA a b o i j).toList=o.toList++a.toList.drop i++b.toList.drop j:=by
 simp[cr]
def a2E:(dnB a b o i j).toList=o.toList++b.toList.drop j++a.toList.drop i:=by
 simp[cr]
def a5r:(o++a.extract i (i+k)).toList=o.toList++(a.toList.drop i).take k:=by
 simp[dB]
def a0E(h:i<a.size):a.toList[i]?=some a[i]:=by simp[h]
def a0K(h:i<a.size):Kk κ a i=κ a[i]:=a43 (getElem?_pos ..)
def a1T(h:Srt κ a.toList)(hn:i+n<=a.size):∀p q,p<=q->q<n->Kk κ a (i+p)<=Kk κ a (i+q):=λp q b c=>by
 rw[a0K (show i+p<a.size by lia),a0K (show i+q<a.size by lia)]
 by_cases e:p=q
 ·simp_all
 ·have:=cA.mp h (i+p) (i+q) (by simp;lia) (by simp;lia) (by lia)
  simpa using this
end
structure MC (M:Model) (A:Around) (E:Value->Shared->Prop) (s:Shared) (κ:KF) (k0:gj) (a₀ a b:Array Keyed):Prop where
 L:LtOk M A E s κ k0 a₀
 ha:∀p∈a.toList,p∈a₀.toList
 hb:∀p∈b.toList,p∈a₀.toList
 sa:Srt κ a.toList
 sb:Srt κ b.toList
 h0:0<a.size
 h1:0<b.size
 hf:∀y∈a.toList,Kk κ b 0<=κ y
 hl:∀z,a.toList[a.toList.length-1]?=some z->∀y∈b.toList,κ y<=κ z
structure Rdy (κ:KF) (a b o:Array Keyed) (i j:Nat):Prop where
 w:MW κ a.toList b.toList o.toList i j
 hi:i+1<a.size
 hj:j<b.size
section
variable{M:Model}{A:Around}{E:Value->Shared->Prop}{s:Shared}{κ:KF}{k0:gj}{a₀ a b o:Array Keyed}{st:SortSt}{i j g ac bc:Nat}
def a3j{α:Type}{f:Unit->SM α}{Q:α->SortSt->Prop}(h:wpS M A E s (f ()) Q st):wpS M A E s ((liftM (rule w):SM Unit) >>= f) Q st:=
 fH (wpS_lift (gJ ⟨rfl,h⟩))
def a0R(a:Array Keyed):a.toList.length=a.size:=by simp
def b6A(C:MC M A E s κ k0 a₀ a b)(hk:kindOf st=k0)(R:Rdy κ a b o i j)
  (dn:∀r c,Mgd κ a.toList b.toList r.toList->Q (.done (some r,c)) st)
  (br:∀o' i' j' x y,Rdy κ a b o' i' j'->i'+j'=i+j+1->Q (.done (none,o',i',j',x,y)) st)
  (go:∀o' i' j' x y,Rdy κ a b o' i' j'->i'+j'=i+j+1->Q (.yield (none,o',i',j',x,y)) st):wpS M A E s (lo1 a b g o i j ac bc) Q st:=by
 have q:=R.hi;have n:=R.hj;have p:b[j]?=some b[j]:=getElem?_pos ..;have m:a[i]?=some a[i]:=getElem?_pos ..;have h:=a0E n;have l:=a0E (a:=a) (i:=i) (by lia);unfold lo1;refine fH (a0w p (fH (a0w m (fH (C.L _ _ (C.hb _ (bo h)) (C.ha _ (bo l)) st _ hk ?_)))));dsimp only
 by_cases c:κ b[j]<κ a[i]
 ·rw[if_pos (decide_eq_true c)];refine fH (a0w p ?_);have d:=R.w.pushB C.sb h λy k=>bI (b5 c) (a1a C.sa l y k);rw[<- bU]at d
  by_cases e:j+1=b.size
  ·rw[if_pos (by simpa using e)];exact fJ (dn _ _ (by rw[a1S];exact d.doneA C.sa C.sb (.inr (by rw[a0R];exact e))))
  ·rw[if_neg (by simpa using e)];have f:Rdy κ a b (o.push b[j]) i (j+1):=⟨d,q,by lia⟩
   split
   ·exact fJ (br _ _ _ _ _ f (by lia))
   ·exact fJ (go _ _ _ _ _ f (by lia))
 ·rw[if_neg (by simpa using c)];refine fH (a0w m ?_);have d:=R.w.pushA C.sa l λy k=>bI (dC.mp c) (a1a C.sb h y k);rw[<- bU]at d
  by_cases e:i+1+1=a.size
  ·rw[if_pos (by simpa using e)];exact fJ (dn _ _ (by rw[a2E];exact d.doneB C.sa C.sb (by rw[a0R];exact e) C.hl))
  ·rw[if_neg (by simpa using e)];have f:Rdy κ a b (o.push a[i]) (i+1) j:=⟨d,by lia,n⟩
   split
   ·exact fJ (br _ _ _ _ _ f (by lia))
   ·exact fJ (go _ _ _ _ _ f (by lia))
structure G2 (st:SortSt) (κ:KF) (a b:Array Keyed) (n:Nat) (Q:ForInStep T2->SortSt->Prop):Prop where
 dn:∀r c st',SG st st'->Mgd κ a.toList b.toList r.toList->Q (.done (some r,c)) st'
 br:∀o' i' j' x y z st',SG st st'->Rdy κ a b o' i' j'->n<i'+j'->Q (.done (none,o',i',j',x,y,z)) st'
 go:∀o' i' j' x y z st',SG st st'->Rdy κ a b o' i' j'->n<i'+j'->Q (.yield (none,o',i',j',x,y,z)) st'
def b39(C:MC M A E s κ k0 a₀ a b)(R:Rdy κ a b o i j)(hle:∀y∈b.toList.drop j,Kk κ a i<=κ y)(H:G2 st κ a b n Q)(hn:n<=i+j):wpS M A E s (lo5 a b o i j g ac bc) Q st:=by
 have l:=R.hi;have h:a[i]?=some a[i]:=getElem?_pos ..;rw[a0K (show i<a.size by lia)]at hle;unfold lo5;refine fH (a0w h ?_);have c:=R.w.pushA C.sa (a0E (a:=a) (i:=i) (by lia)) hle;rw[<- bU]at c
 by_cases e:i+1+1=a.size
 ·rw[if_pos (by simpa using e)];exact fJ (H.dn _ _ _ (SG.refl _) (a2E▸c.doneB C.sa C.sb (by rw[a0R];exact e) C.hl))
 ·rw[if_neg (by simpa using e)];have d:Rdy κ a b (o.push a[i]) (i+1) j:=⟨c,by lia,R.hj⟩
  split
  ·exact fJ (H.br _ _ _ _ _ _ _ (SG.refl _) d (by lia))
  ·exact fJ (H.go _ _ _ _ _ _ _ (SG.refl _) d (by lia))
def a1E{l:List Keyed}(h:y∈l.drop n):∃q,n<=q/\q<l.length/\l[q]?=some y:=by
 obtain⟨m,a⟩:=cu h;rw[dc]at a;exact⟨n+m,by lia,(aZ.mp a).1,a⟩
def a2Q(h:a.toList[q]?=some z):Kk κ a q=κ z:=a43 (by simp_all)
def b4a(C:MC M A E s κ k0 a₀ a b)(hk:kindOf st=k0)(R:Rdy κ a b o i j)(hle:∀y∈a.toList.drop i,Kk κ b j<=κ y)(H:G2 st κ a b n Q)(hn:n<=i+j):wpS M A E s (lo4 a b o i j g ac bc) Q st:=by
 have m:=R.hi;have t:=R.hj;have x:b[j]?=some b[j]:=getElem?_pos ..;have F:a[i]?=some a[i]:=getElem?_pos ..;have p:=a0E (a:=a) (i:=i) (by lia);rw[a0K t]at hle;unfold lo4;refine fH (a0w x ?_);have d:=R.w.pushB C.sb (a0E t) hle;rw[<- bU]at d
 by_cases e:j+1=b.size
 ·rw[if_pos (by simpa using e)];exact fJ (H.dn _ _ _ (SG.refl _) (a1S▸d.doneA C.sa C.sb (.inr (by rw[a0R];exact e))))
 ·rw[if_neg (by simpa using e)];refine fH (a0w F (fH (a1t C.L hk (C.ha _ (bo p)) C.hb (by lia) (by lia) (a1T C.sb (by lia)) λk G v r=>?_)));dsimp only;have c:∀y∈b.toList.drop (j+1+k),Kk κ a i<=κ y:=λy h=>by
   obtain⟨q,B,u,l⟩:=a1E h;rw[a0R]at u
   have:=r (q-(j+1)) (by lia) (by lia)
   rw[show j+1+(q-(j+1))=q by lia,a2Q l]at this;simp[bq]at this;rw[a0K (show i<a.size by lia)]
   lia
  split
  ·have f:=d.runB C.sb k (by rw[a0R];lia) λq z B u l y h=>by
    have:=v (q-(j+1)) (by lia)
    rw[show j+1+(q-(j+1))=q by lia,a2Q l]at this;simp[bq]at this;exact bI (b5 this) (a1a C.sa p y h)
   rw[<- a5r]at f
   by_cases e2:j+1+k=b.size
   ·rw[if_pos (by simpa using e2)];exact fJ (H.dn _ _ _ (SG.refl _) (a1S▸f.doneA C.sa C.sb (.inr (by rw[a0R];exact e2))))
   ·rw[if_neg (by simpa using e2)];exact b39 C ⟨f,m,by lia⟩ c H (by lia)
  ·have:k=0:=by lia
   subst this;exact b39 C ⟨d,m,by lia⟩ c H (by lia)
def b6B(C:MC M A E s κ k0 a₀ a b)(hk:kindOf st=k0)(R:Rdy κ a b o i j)(H:G2 st κ a b n Q)(hn:n<=i+j):wpS M A E s (lo3 a b o i j g ac bc) Q st:=by
 have I:=R.hi;have h:=R.hj;have G:b[j]?=some b[j]:=getElem?_pos ..;have B:=a0E h;unfold lo3;rw[a3I];refine fH (gn ?_);have m:SG st (SortSt.mk' _ (arrOf st) _ g _):=⟨rfl,rfl,rfl,rfl⟩;have e:kindOf (SortSt.mk' _ (arrOf st) (fN st) g (f8 st))=k0:=hk;generalize SortSt.mk' (kindOf st) (arrOf st) (fN st) g (f8 st)=st1 at m e;have l:G2 st1 κ a b n Q:=⟨λr c d g=>H.dn r c d (m.trans g),λ_ _ _ _ _ _ d g=>H.br _ _ _ _ _ _ d (m.trans g),λ_ _ _ _ _ _ d g=>H.go _ _ _ _ _ _ d (m.trans g)⟩;refine fH (a0w G (fH (a1t C.L e (C.hb _ (bo B)) C.ha (by lia) (by lia) (a1T C.sa (by lia)) λk J D x=>?_)));dsimp only;have f:∀y∈a.toList.drop (i+k),Kk κ b j<=κ y:=λy t=>by
  obtain⟨q,F,v,u⟩:=a1E t;rw[a0R]at v
  have:=x (q-i) (by lia) (by lia)
  rw[show i+(q-i)=q by lia,a2Q u]at this;simp[bq]at this;rw[a0K h]
  lia
 split
 ·have p:=R.w.runA C.sa k (by rw[a0R];lia) λq z F v u y t=>by
   have:=D (q-i) (by lia)
   rw[show i+(q-i)=q by lia,a2Q u]at this;simp[bq]at this;exact bI this (a1a C.sb B y t)
  rw[<- a5r]at p
  by_cases e1:i+k+1=a.size
  ·rw[if_pos (by simpa using e1)];exact fJ (l.dn _ _ _ (SG.refl _) (a2E▸p.doneB C.sa C.sb (by rw[a0R];exact e1) C.hl))
  ·rw[if_neg (by simpa using e1)]
   by_cases e2:i+k=a.size
   ·rw[if_pos (by simpa using e2)];exact fJ (l.dn _ _ _ (SG.refl _) (a1S▸p.doneA C.sa C.sb (.inl (by rw[a0R];exact e2))))
   ·rw[if_neg (by simpa using e2)];exact b4a C e ⟨p,by lia,h⟩ f l (by lia)
 ·have:k=0:=by lia
  subst this;exact b4a C e ⟨R.w,I,h⟩ f l (by lia)
def b6C(C:MC M A E s κ k0 a₀ a b)(hk:kindOf st=k0)(R:Rdy κ a b o i j)(H:G2 st κ a b n Q)(hn:n<=i+j):wpS M A E s (lo2 a b o i j g ac bc) Q st:=by
 unfold lo2
 split<;>exact b6B C hk R H hn
def a9m(C:MC M A E s κ k0 a₀ a b):MW κ a.toList b.toList [b[0]'C.h1] 0 1:=by
 have e:MW κ a.toList b.toList [] 0 0:=⟨bE _,bE _,by simp,.nil,λx h=>by simp at h,λx h=>by simp at h⟩;exact e.pushB C.sb (a0E C.h1) λy d=>by rw[<- a0K (κ:=κ) C.h1];exact C.hf y (by simp_all)
def a7J(C:MC M A E s κ k0 a₀ a b)(hk:kindOf st=k0)
  (h:∀r st',SG st st'->Mgd κ a.toList b.toList r.toList->Q r st'):wpS M A E s (a3J a b) Q st:=by
 have h0:=C.h0;have h1:=C.h1;rw[a4o];refine a3j (fH (a0w (getElem?_pos b 0 C.h1) ?_));have w0:=a9m C
 by_cases e1:1=b.size
 ·rw[if_pos (by simpa using e1)];exact fJ (h _ _ (SG.refl _) (a1S▸w0.doneA C.sa C.sb (.inr (by grind))))
 rw[if_neg (by simpa using e1)]
 by_cases e2:0+1=a.size
 ·rw[if_pos (by simpa using e2)];exact fJ (h _ _ (SG.refl _) (a2E▸w0.doneB C.sa C.sb (by rw[a0R];exact e2) C.hl))
 rw[if_neg (by simpa using e2)];refine fH (gr ?_);have R0:Rdy κ a b #[b[0]] 0 1:=⟨w0,by lia,by lia⟩;refine fH (f9 (fZ (I:=λx c e=>∃o i j g,c=(none,o,i,j,g)/\SG st e/\Rdy κ a b o i j/\x<i+j)
  (Q:=λc e=>∃r F,c=(some r,F)/\SG st e/\Mgd κ a.toList b.toList r.toList) ?step ?fin ⟨_,_,_,_,rfl,SG.refl _,R0,by lia⟩) ?post)
 case post=>
  rintro c e ⟨r,F,rfl,H,m⟩;exact fJ (h r e H m)
 case fin=>
  rintro c e ⟨o,i,j,g,rfl,H,R,hx⟩
  have:=R.hi
  have:=R.hj
  lia
 case step=>
  rintro x c e _ hx ⟨o,i,j,g,rfl,H,R,hxi⟩;dsimp only;refine fH (f9 (fZ (I:=λy c f=>∃D l k J T,c=(none,D,l,k,J,T)/\f=e/\Rdy κ a b D l k/\i+j+y<=l+k)
   (Q:=λc f=>f=e/\((∃r F,c=(some r,F)/\Mgd κ a.toList b.toList r.toList)\/∃D l k J T,c=(none,D,l,k,J,T)/\Rdy κ a b D l k/\i+j<=l+k)) ?st1 ?fi1 ⟨_,_,_,_,_,rfl,rfl,R,by lia⟩) ?po1)
  case fi1=>
   rintro c f ⟨D,l,k,J,T,rfl,rfl,L,hy⟩
   have:=L.hi
   have:=L.hj
   lia
  case st1=>
   rintro y c f _ hy ⟨D,l,k,J,T,rfl,rfl,L,hyi⟩;dsimp only;refine b6A C (H.kd.trans hk) L (λr c m=>⟨rfl,.inl ⟨r,c,rfl,m⟩⟩) (λo2 i2 j2 u v X V=>⟨rfl,.inr ⟨_,_,_,_,_,rfl,X,by lia⟩⟩) λo2 i2 j2 u v X V=>⟨_,_,_,_,_,rfl,rfl,X,by lia⟩
  case po1=>
   rintro c f ⟨rfl,⟨r,F,rfl,m⟩ |⟨D,l,k,J,T,rfl,L,hij⟩⟩
   ·exact fJ ⟨r,_,rfl,H,m⟩
   ·dsimp only;refine a3j ?_;refine fH (f9 (fZ (I:=λy c B=>∃G q p S z t,c=(none,G,q,p,S,z,t)/\SG st B/\Rdy κ a b G q p/\l+k+y<=q+p)
     (Q:=λc B=>SG st B/\((∃r F,c=(some r,F)/\Mgd κ a.toList b.toList r.toList)\/∃G q p S z t,c=(none,G,q,p,S,z,t)/\Rdy κ a b G q p/\l+k<q+p)) ?f ?fi2 ⟨_,_,_,_,_,_,rfl,H,L,by lia⟩) ?po2)
    case fi2=>
     rintro c B ⟨G,q,p,S,z,t,rfl,d,N,hy⟩
     have:=N.hi
     have:=N.hj
     lia
    case f=>
     rintro y c B _ hy ⟨G,q,p,S,z,t,rfl,d,N,hyi⟩;dsimp only;refine b6C C (d.kd.trans hk) N ⟨λr c W U m=>⟨d.trans U,.inl ⟨r,c,rfl,m⟩⟩,λo4 i4 j4 u v w W U Y V=>⟨d.trans U,.inr ⟨_,_,_,_,_,_,rfl,Y,by lia⟩⟩,λo4 i4 j4 u v w W U Y V=>⟨_,_,_,_,_,_,rfl,d.trans U,Y,by lia⟩⟩ (aV _)
    case po2=>
     rintro c B ⟨d,⟨r,F,rfl,m⟩ |⟨G,q,p,S,z,t,rfl,N,V⟩⟩
     ·exact fJ ⟨r,_,rfl,d,m⟩
     ·dsimp only;exact fH (gn (fJ ⟨_,_,_,_,rfl,⟨d.kd,d.ar,d.pe,d.fl⟩,N,by lia⟩))
end
noncomputable def a3K:Array Keyed->Array Keyed->SM (Array Keyed):=sortPriv% PySem.Builtin.mergeHi
abbrev hnA(a b o:Array Keyed)(u v:Nat):Array Keyed:=a.extract 0 u++b.extract 0 v++o.reverse
abbrev hnB(a b o:Array Keyed)(u v:Nat):Array Keyed:=b.extract 0 v++a.extract 0 u++o.reverse
abbrev H1:=Option (Array Keyed)×Nat×Nat×Array Keyed×Nat×Nat
abbrev H2:=Option (Array Keyed)×Nat×Nat×Array Keyed×Nat×Nat×Nat
noncomputable def hi1(a b:Array Keyed)(g u v:Nat)(o:Array Keyed)(ac bc:Nat):SM (ForInStep H1):=do
 let y <- elem' b (v-1)
 let x <- elem' a (u-1)
 let r <- lt' y x
 match r with
 |some aw=>
  if aw=true then do
   let x <- elem' a (u-1)
   if (u-1==0)=true then pure (.done (some (hnA a b (o.push x) (u-1) v),u-1,v,o.push x,ac+1,0))
   else if ac+1>=g then pure (.done (none,u-1,v,o.push x,ac+1,0)) else pure (.yield (none,u-1,v,o.push x,ac+1,0))
  else do
   let y <- elem' b (v-1)
   if (v-1==1)=true then pure (.done (some (hnB a b (o.push y) u (v-1)),u,v-1,o.push y,0,bc+1))
   else if bc+1>=g then pure (.done (none,u,v-1,o.push y,0,bc+1)) else pure (.yield (none,u,v-1,o.push y,0,bc+1))
 |_=>pure (.done (some (hnA a b o u v),u,v,o,ac,bc))
noncomputable def hi5(a b:Array Keyed)(u v:Nat)(o:Array Keyed)(g ac bc:Nat):SM (ForInStep H2):=do
 let x <- elem' a (u-1)
 if (u-1==0)=true then pure (.done (some (hnA a b (o.push x) (u-1) v),u-1,v,o.push x,g,ac,bc))
 else if (decide (ac<7)&&decide (bc<7))=true then pure (.done (none,u-1,v,o.push x,g,ac,bc)) else pure (.yield (none,u-1,v,o.push x,g,ac,bc))
noncomputable def hi4(a b:Array Keyed)(u v:Nat)(o:Array Keyed)(g ac bc:Nat):SM (ForInStep H2):=do
 let y <- elem' b (v-1)
 if (v-1==1)=true then pure (.done (some (hnB a b (o.push y) u (v-1)),u,v-1,o.push y,g,ac,bc))
 else do
  let x <- elem' a (u-1)
  let r <- a1n true x b 0 (v-1) (v-1-1)
  match r with
  |some p=>
   if v-1-p > 0 then
    if (p==1)=true then pure (.done (some (hnB a b (o.push y++(b.extract p (v-1)).reverse) u p),u,p,o.push y++(b.extract p (v-1)).reverse,g,ac,v-1-p))
    else if (p==0)=true then pure (.done (some (hnA a b (o.push y++(b.extract p (v-1)).reverse) u p),u,p,o.push y++(b.extract p (v-1)).reverse,g,ac,v-1-p))
    else hi5 a b u p (o.push y++(b.extract p (v-1)).reverse) g ac (v-1-p)
   else hi5 a b u (v-1) (o.push y) g ac (v-1-p)
  |_=>pure (.done (some (hnA a b (o.push y) u (v-1)),u,v-1,o.push y,g,ac,bc))
noncomputable def hi3(a b:Array Keyed)(u v:Nat)(o:Array Keyed)(g ac bc:Nat):SM (ForInStep H2):=do
 a7I g
 let y <- elem' b (v-1)
 let r <- a1n false y a 0 u (u-1)
 match r with
 |some p=>
  if u-p > 0 then
   if (p==0)=true then pure (.done (some (hnA a b (o++(a.extract p u).reverse) p v),p,v,o++(a.extract p u).reverse,g,u-p,bc))
   else hi4 a b p v (o++(a.extract p u).reverse) g (u-p) bc
  else hi4 a b u v o g (u-p) bc
 |_=>pure (.done (some (hnA a b o u v),u,v,o,g,ac,bc))
noncomputable def hi2(a b:Array Keyed)(u v:Nat)(o:Array Keyed)(g ac bc:Nat):SM (ForInStep H2):=
 if g > 1 then hi3 a b u v o (g-1) ac bc else hi3 a b u v o g ac bc
def a4p(a b:Array Keyed):a3K a b=(do
  liftM (rule "list.sort.merge-hi")
  let x <- elem' a (a.size-1)
  if (a.size-1==0)=true then pure (hnA a b #[x] (a.size-1) b.size)
  else if (b.size==1)=true then pure (hnB a b #[x] (a.size-1) b.size)
  else do
   let st <- get
   let c <- forIn [0:a.size+b.size] ((none,a.size-1,b.size,#[x],gallopOf st):Option (Array Keyed)×Nat×Nat×Array Keyed×Nat) λ_ c=>do
    let c1 <- forIn [0:a.size+b.size] ((none,c.2.1,c.2.2.1,c.2.2.2.1,0,0):H1) λ_ c1=>hi1 a b c.2.2.2.2 c1.2.1 c1.2.2.1 c1.2.2.2.1 c1.2.2.2.2.1 c1.2.2.2.2.2
    match c1.1 with
    |some r=>pure (ForInStep.done (some r,c1.2.1,c1.2.2.1,c1.2.2.2.1,c.2.2.2.2))
    |none=>do
     liftM (rule "list.sort.gallop")
     let c2 <- forIn [0:a.size+b.size] ((none,c1.2.1,c1.2.2.1,c1.2.2.2.1,c.2.2.2.2+1,c1.2.2.2.2.1,c1.2.2.2.2.2):H2) λ_ c2=>hi2 a b c2.2.1 c2.2.2.1 c2.2.2.2.1 c2.2.2.2.2.1 c2.2.2.2.2.2.1 c2.2.2.2.2.2.2
     match c2.1 with
     |some r=>pure (ForInStep.done (some r,c2.2.1,c2.2.2.1,c2.2.2.2.1,c2.2.2.2.2.1))
     |none=>do
      a7I (c2.2.2.2.2.1+1)
      pure (ForInStep.yield (none,c2.2.1,c2.2.2.1,c2.2.2.2.1,c2.2.2.2.2.1+1))
   match c.1 with
   |some r=>pure r
   |none=>jl "internal:list.sort.merge-bound"):=by
 kernel_rfl
section
variable{κ:KF}{A B o:List Keyed}{u v:Nat}{p:Keyed}
structure MH (κ:KF) (A B o:List Keyed) (u v:Nat):Prop where
 ia:u<=A.length
 jb:v<=B.length
 pm:(A.take u++B.take v++o.reverse).Perm (A++B)
 so:Srt κ o.reverse
 ba:∀x∈o,∀y∈A.take u,κ y<=κ x
 bb:∀x∈o,∀y∈B.take v,κ y<=κ x
def a44{l:List Keyed}(h:l[n]?=some p):l.take (n+1)=l.take n++[p]:=by
 rw[cz,h];rfl
def a1b(h:Srt κ l)(n:Nat):Srt κ (l.take n):=cH.sublist (dt n l) h
def a1u(h:Srt κ l)(e:l[n]?=some p):∀y∈l.take (n+1),κ y<=κ p:=λy a=>by
 have b:=a1b h (n+1);rw[a44 e]at b a;rcases aU.mp a with a |a
 ·exact (bA.mp b).2.2 y a p (by simp)
 ·simp_all
def MH.pushA(W:MH κ A B o (u+1) v)(sa:Srt κ A)(hp:A[u]?=some p)(hb:∀y∈B.take v,κ y<=κ p):MH κ A B (o++[p]) u v:=by
 have c:=a44 hp;have d:=(aZ.mp hp).1;refine⟨by lia,W.jb,?_,?_,λx b y a=>?_,λx b y a=>?_⟩
 ·have:=W.pm
  rw[c]at this;refine bP.trans ?_ this;rw[cN,cO];simp;exact bP.append_left _ eP
 ·rw[cN,cO,eT];refine bD.mpr ⟨λx b=>?_,W.so⟩;exact W.ba x (by simpa using b) p (by rw[c];simp)
 ·rcases aU.mp b with h |h
  ·exact W.ba x h y (by simp_all)
  ·rw[aX.mp h];exact a1u sa hp y (by simp_all)
 ·rcases aU.mp b with h |h
  ·exact W.bb x h y a
  ·simp_all
def MH.pushB(W:MH κ A B o u (v+1))(sb:Srt κ B)(hp:B[v]?=some p)(hb:∀y∈A.take u,κ y<=κ p):MH κ A B (o++[p]) u v:=by
 have c:=a44 hp;have d:=(aZ.mp hp).1;refine⟨W.ia,by omega,?_,?_,λx b y a=>?_,λx b y a=>?_⟩
 ·have:=W.pm
  rw[c]at this;refine bP.trans ?_ this;rw[cN,cO];simp only[bH];exact bP.refl _
 ·rw[cN,cO,eT];refine bD.mpr ⟨λx b=>?_,W.so⟩;exact W.bb x (by simp_all) p (by simp_all)
 ·rcases aU.mp b with h |h
  ·exact W.ba x h y a
  ·rw[aX.mp h];exact hb y a
 ·rcases aU.mp b with h |h
  ·exact W.bb x h y (by simp_all)
  ·rw[aX.mp h];exact a1u sb hp y (by simp_all)
def MH.runA(sa:Srt κ A):∀(k:Nat){o:List Keyed},MH κ A B o (u+k) v->(∀q z,u<=q->q<u+k->A[q]?=some z->∀y∈B.take v,κ y<=κ z)->MH κ A B (o++((A.drop u).take k).reverse) u v:=by intro z0;induction z0 with
 |zero=>intro o W _;simpa using W
 |succ k I0=>
  intro o W hz;have a:u+k<A.length:=by have:=W.ia;lia
  have e:=bh a;rw[take_snoc e,cN,cO,<- bH];exact (I0 (MH.pushA W sa e (hz _ _ (by simp) (by simp) e)) λq z c f=>hz q z c (by lia))
def MH.runB(sb:Srt κ B):∀(k:Nat){o:List Keyed},MH κ A B o u (v+k)->(∀q z,v<=q->q<v+k->B[q]?=some z->∀y∈A.take u,κ y<=κ z)->MH κ A B (o++((B.drop v).take k).reverse) u v:=by intro z0;induction z0 with
 |zero=>intro o W _;simpa using W
 |succ k I0=>
  intro o W hz;have a:v+k<B.length:=by have:=W.jb;lia
  have e:=bh a;rw[take_snoc e,cN,cO,<- bH];exact (I0 (MH.pushB W sb e (hz _ _ (by simp) (by simp) e)) λq z c f=>hz q z c (by lia))
def MH.doneA(W:MH κ A B o u v)(sa:Srt κ A)(sb:Srt κ B)(h:u=0\/v=0):Mgd κ A B (A.take u++B.take v++o.reverse):=by
 refine⟨W.pm,?_⟩;refine bA.mpr ⟨bA.mpr ⟨a1b sa u,a1b sb v,λx b y c=>?_⟩,W.so,λx b y c=>?_⟩
 ·rcases h with rfl |rfl
  ·simp_all
  ·simp_all
 ·have a:y∈o:=by simpa using c
  rcases aU.mp b with h |h
  ·exact W.ba y a x h
  ·exact W.bb y a x h
def MH.doneB(W:MH κ A B o u 1)(sa:Srt κ A)(sb:Srt κ B)(hf:∀z,B[0]?=some z->∀y∈A,κ z<=κ y):Mgd κ A B (B.take 1++A.take u++o.reverse):=by
 refine⟨?_,?_⟩
 ·refine bP.trans ?_ W.pm;exact bP.append_right _ eR
 ·refine bA.mpr ⟨bA.mpr ⟨a1b sb 1,a1b sa u,λx a y c=>?_⟩,W.so,λx a y c=>?_⟩
  ·cases B with
   |nil=>simp at a
   |cons z B=>
    have:x=z:=by simpa using a
    subst this;exact hf x rfl y (de c)
  ·have b:y∈o:=by simpa using c
   rcases aU.mp a with h |h
   ·exact W.bb y b x h
   ·exact W.ba y b x h
end
section
variable{κ:KF}{a b o:Array Keyed}{u v:Nat}
def a1U:(hnA a b o u v).toList=a.toList.take u++b.toList.take v++o.toList.reverse:=by
 simp
def a2F:(hnB a b o u v).toList=b.toList.take v++a.toList.take u++o.toList.reverse:=by
 simp
def a5s:(o++(a.extract p u).reverse).toList=o.toList++((a.toList.drop p).take (u-p)).reverse:=by
 simp[dB]
end
structure RdH (κ:KF) (a b o:Array Keyed) (u v:Nat):Prop where
 w:MH κ a.toList b.toList o.toList u v
 hu:1<=u
 hv:2<=v
section
variable{M:Model}{A:Around}{E:Value->Shared->Prop}{s:Shared}{κ:KF}{k0:gj}{a₀ a b o:Array Keyed}{st:SortSt}{u v g ac bc:Nat}
def RdH.ua(R:RdH κ a b o u v):u<=a.size:=by have:=R.w.ia;rwa [a0R]at this
def RdH.vb(R:RdH κ a b o u v):v<=b.size:=by have:=R.w.jb;rwa [a0R]at this
def MC.first(C:MC M A E s κ k0 a₀ a b):∀z,b.toList[0]?=some z->∀y∈a.toList,κ z<=κ y:=λz c y d=>by
 have:=C.hf y d
 rwa [a2Q c]at this
def b6D(C:MC M A E s κ k0 a₀ a b)(hk:kindOf st=k0)(R:RdH κ a b o (u+1) (v+1))
  (dn:∀r c,Mgd κ a.toList b.toList r.toList->Q (.done (some r,c)) st)
  (br:∀o' u' v' x y,RdH κ a b o' u' v'->u'+v'=u+v+1->Q (.done (none,u',v',o',x,y)) st)
  (go:∀o' u' v' x y,RdH κ a b o' u' v'->u'+v'=u+v+1->Q (.yield (none,u',v',o',x,y)) st):wpS M A E s (hi1 a b g (u+1) (v+1) o ac bc) Q st:=by
 have q:=R.ua;have t:=R.vb;have p:=R.hv;have l:b[v]?=some b[v]:=getElem?_pos ..;have n:a[u]?=some a[u]:=getElem?_pos ..;have j:=a0E (a:=b) (i:=v) (by lia);have k:=a0E (a:=a) (i:=u) (by lia);unfold hi1;simp only[dD];refine fH (a0w l (fH (a0w n (fH (C.L _ _ (C.hb _ (bo j)) (C.ha _ (bo k)) st _ hk ?_)))));dsimp only
 by_cases c:κ b[v]<κ a[u]
 ·rw[if_pos (decide_eq_true c)];refine fH (a0w n ?_);have d:=R.w.pushA C.sa k λy h=>bI (a1u C.sb j y h) (b5 c);rw[<- bU]at d
  by_cases e:u=0
  ·rw[if_pos (by simpa using e)];exact fJ (dn _ _ (a1U▸d.doneA C.sa C.sb (.inl e)))
  ·rw[if_neg (by simpa using e)];have f:RdH κ a b (o.push a[u]) u (v+1):=⟨d,by lia,p⟩
   split
   ·exact fJ (br _ _ _ _ _ f (by lia))
   ·exact fJ (go _ _ _ _ _ f (by lia))
 ·rw[if_neg (by simpa using c)];refine fH (a0w l ?_);have d:=R.w.pushB C.sb j λy h=>bI (a1u C.sa k y h) (dC.mp c);rw[<- bU]at d
  by_cases e:v=1
  ·rw[if_pos (by simpa using e)];subst e;exact fJ (dn _ _ (a2F▸d.doneB C.sa C.sb C.first))
  ·rw[if_neg (by simpa using e)];have f:RdH κ a b (o.push b[v]) (u+1) v:=⟨d,R.hu,by lia⟩
   split
   ·exact fJ (br _ _ _ _ _ f (by lia))
   ·exact fJ (go _ _ _ _ _ f (by lia))
structure HG (st:SortSt) (κ:KF) (a b:Array Keyed) (n:Nat) (Q:ForInStep H2->SortSt->Prop):Prop where
 dn:∀r c st',SG st st'->Mgd κ a.toList b.toList r.toList->Q (.done (some r,c)) st'
 br:∀o' u' v' x y z st',SG st st'->RdH κ a b o' u' v'->u'+v'<n->Q (.done (none,u',v',o',x,y,z)) st'
 go:∀o' u' v' x y z st',SG st st'->RdH κ a b o' u' v'->u'+v'<n->Q (.yield (none,u',v',o',x,y,z)) st'
def b4b(C:MC M A E s κ k0 a₀ a b)(R:RdH κ a b o (u+1) v)(hle:∀y∈b.toList.take v,κ y<=Kk κ a u)(H:HG st κ a b n Q)(hn:u+v<n):wpS M A E s (hi5 a b (u+1) v o g ac bc) Q st:=by
 have k:=R.ua;have j:a[u]?=some a[u]:=getElem?_pos ..;rw[a0K (show u<a.size by lia)]at hle;unfold hi5;simp only[dD];refine fH (a0w j ?_);have c:=R.w.pushA C.sa (a0E (a:=a) (i:=u) (by lia)) hle;rw[<- bU]at c
 by_cases e:u=0
 ·rw[if_pos (by simpa using e)];exact fJ (H.dn _ _ _ (SG.refl _) (a1U▸c.doneA C.sa C.sb (.inl e)))
 ·rw[if_neg (by simpa using e)];have d:RdH κ a b _ u v:=⟨c,by lia,R.hv⟩
  split
  ·exact fJ (H.br _ _ _ _ _ _ _ (SG.refl _) d (by lia))
  ·exact fJ (H.go _ _ _ _ _ _ _ (SG.refl _) d (by lia))
def a1F{l:List Keyed}(h:y∈l.take n):∃q,q<n/\l[q]?=some y:=by
 obtain⟨m,a⟩:=cu h;have b:=(aZ.mp a).1;rw[d5]at a
 split at a
 ·exact⟨m,by omega,a⟩
 ·grind
def b4c(C:MC M A E s κ k0 a₀ a b)(hk:kindOf st=k0)(R:RdH κ a b o (u+1) (v+1))(hle:∀y∈a.toList.take (u+1),κ y<=Kk κ b v)(H:HG st κ a b n Q)(hn:u+v<n):wpS M A E s (hi4 a b (u+1) (v+1) o g ac bc) Q st:=by
 have I:=R.ua;have G:=R.vb;have F:=R.hv;have B:b[v]?=some b[v]:=getElem?_pos ..;have t:a[u]?=some a[u]:=getElem?_pos ..;have r:=a0E (a:=a) (i:=u) (by lia);rw[a0K (show v<b.size by lia)]at hle;unfold hi4;simp only[dD];refine fH (a0w B ?_);have d:=R.w.pushB C.sb (a0E (a:=b) (i:=v) (by lia)) hle;rw[<- bU]at d
 by_cases e:v=1
 ·rw[if_pos (by simpa using e)];subst e;exact fJ (H.dn _ _ _ (SG.refl _) (a2F▸d.doneB C.sa C.sb C.first))
 ·rw[if_neg (by simpa using e)];refine fH (a0w t (fH (a1t C.L hk (C.ha _ (bo r)) C.hb (by lia) (by lia) (a1T C.sb (by lia)) λp D j h=>?_)));dsimp only;simp only[dg]at j h;have c:∀y∈b.toList.take p,κ y<=Kk κ a u:=λy k=>by
   obtain⟨q,m,l⟩:=a1F k
   have:=j q m
   rw[a2Q l]at this;simp[bq]at this;rw[a0K (show u<a.size by lia)]
   lia
  split
  ·have f:=MH.runB C.sb (v-p) (by rw[show p+(v-p)=v by lia];exact d) λq z m J l y k=>by
    have:=h q m (by lia)
    rw[a2Q l]at this;simp[bq]at this;exact bI (a1u C.sa r y k) this
   rw[<- a5s]at f
   by_cases e1:p=1
   ·rw[if_pos (by simpa using e1)];subst e1;exact fJ (H.dn _ _ _ (SG.refl _) (a2F▸f.doneB C.sa C.sb C.first))
   ·rw[if_neg (by simpa using e1)]
    by_cases e2:p=0
    ·rw[if_pos (by simpa using e2)];exact fJ (H.dn _ _ _ (SG.refl _) (a1U▸f.doneA C.sa C.sb (.inr e2)))
    ·rw[if_neg (by simpa using e2)];exact b4b C ⟨f,by lia,by lia⟩ c H (by lia)
  ·have:p=v:=by lia
   subst this;exact b4b C ⟨d,by lia,by lia⟩ c H (by lia)
def b6E(C:MC M A E s κ k0 a₀ a b)(hk:kindOf st=k0)(R:RdH κ a b o (u+1) (v+1))(H:HG st κ a b n Q)(hn:u+v<n):wpS M A E s (hi3 a b (u+1) (v+1) o g ac bc) Q st:=by
 have S:=R.ua;have N:=R.vb;have I:b[v]?=some b[v]:=getElem?_pos ..;have D:=a0E (a:=b) (i:=v) (by lia);unfold hi3;rw[a3I];refine fH (gn ?_);have h:SG st (SortSt.mk' _ _ _ g _):=⟨rfl,rfl,rfl,rfl⟩;have e:kindOf (SortSt.mk' _ (arrOf st) (fN st) g (f8 st))=k0:=hk;generalize SortSt.mk' _ (arrOf st) (fN st) g (f8 st)=st1 at h e;have l:HG st1 κ a b n Q:=⟨λr c d g=>H.dn r c d (h.trans g),λ_ _ _ _ _ _ d g=>H.br _ _ _ _ _ _ d (h.trans g),λ_ _ _ _ _ _ d g=>H.go _ _ _ _ _ _ d (h.trans g)⟩;refine fH (a0w I (fH (a1t C.L e (C.hb _ (bo D)) C.ha (by lia) (by lia) (a1T C.sa (by lia)) λp J k j=>?_)));dsimp only;simp at k j;have f:∀y∈a.toList.take p,κ y<=Kk κ b v:=λy m=>by
  obtain⟨q,B,x⟩:=a1F m
  have:=k q B
  rw[a2Q x]at this;simp[bq]at this;rw[a0K _];omega
 split
 ·have t:=MH.runA C.sa _ (show p+(u+1-p)=u+1 by lia▸R.w) λq z B T x y m=>by
   have:=j q B (by lia)
   rw[a2Q x]at this;simp[bq]at this;exact bI (a1u C.sb D y m) (b5 this)
  rw[<- a5s]at t
  by_cases e1:p=0
  ·rw[if_pos (by simpa using e1)];exact fJ (l.dn _ _ _ (SG.refl _) (a1U▸t.doneA C.sa C.sb (.inl e1)))
  ·rw[if_neg (by simpa using e1)];obtain⟨G,rfl⟩:∃G,p=G+1:=⟨p-1,by lia⟩;exact b4c C e ⟨t,by lia,R.hv⟩ f l (by lia)
 ·have:p=u+1:=by lia
  subst this;exact b4c C e R f l (by lia)
def b6F(C:MC M A E s κ k0 a₀ a b)(hk:kindOf st=k0)(R:RdH κ a b o (u+1) (v+1))(H:HG st κ a b n Q)(hn:u+v<n):wpS M A E s (hi2 a b (u+1) (v+1) o g ac bc) Q st:=by
 unfold hi2
 split<;>exact b6E C hk R H hn
def a9n(C:MC M A E s κ k0 a₀ a b):MH κ a.toList b.toList [a[a.size-1]'(by have:=C.h0;omega)] (a.size-1) b.size:=by
 have f:=C.h0;have d:MH κ a.toList b.toList [] (a.size-1+1) b.size:=⟨by rw[a0R];lia,by rw[a0R];lia,by rw[cr (by rw[a0R];lia),cr (by rw[a0R];lia)];simp,.nil,λx h=>by simp at h,λx h=>by simp at h⟩;exact d.pushA C.sa (a0E (a:=a) (i:=a.size-1) (by lia)) λy e=>C.hl _ (by simp) y (de e)
def a7K(C:MC M A E s κ k0 a₀ a b)(hk:kindOf st=k0)
  (h:∀r st',SG st st'->Mgd κ a.toList b.toList r.toList->Q r st'):wpS M A E s (a3K a b) Q st:=by
 have h0:=C.h0;have h1:=C.h1;rw[a4p];refine a3j (fH (a0w (getElem?_pos a (a.size-1) (by lia)) ?_));have V:=a9n C
 by_cases e1:a.size-1=0
 ·rw[if_pos (by simpa using e1)];exact fJ (h _ _ (SG.refl _) (a1U▸V.doneA C.sa C.sb (.inl e1)))
 rw[if_neg (by simpa using e1)]
 by_cases e2:b.size=1
 ·rw[if_pos (by simpa using e2)];refine fJ (h _ _ (SG.refl _) ?_);rw[e2]at V;rw[a2F,e2];exact V.doneB C.sa C.sb C.first
 rw[if_neg (by simpa using e2)];refine fH (gr ?_);have R0:RdH κ a b #[a[a.size-1]] (a.size-1) b.size:=⟨V,by lia,by lia⟩;refine fH (f9 (fZ (I:=λx c e=>∃o u v g,c=(none,u,v,o,g)/\SG st e/\RdH κ a b o u v/\x+(u+v)<a.size+b.size)
  (Q:=λc e=>∃r G,c=(some r,G)/\SG st e/\Mgd κ a.toList b.toList r.toList) ?step ?fin ⟨_,_,_,_,rfl,SG.refl _,R0,by lia⟩) ?post)
 case post=>
  rintro c e ⟨r,G,rfl,L,m⟩;exact fJ (h r e L m)
 case fin=>
  rintro c e ⟨o,u,v,g,rfl,L,R,hx⟩
  lia
 case step=>
  rintro x c e _ hx ⟨o,u,v,g,rfl,L,R,hxi⟩;dsimp only;have hk1:kindOf e=k0:=L.kd.trans hk;refine fH (f9 (fZ (I:=λy c l=>∃D f i S J,c=(none,f,i,D,S,J)/\l=e/\RdH κ a b D f i/\f+i+y<=u+v)
   (Q:=λc l=>l=e/\((∃r G,c=(some r,G)/\Mgd κ a.toList b.toList r.toList)\/∃D f i S J,c=(none,f,i,D,S,J)/\RdH κ a b D f i/\f+i<=u+v)) ?st1 ?fi1 ⟨_,_,_,_,_,rfl,rfl,R,by lia⟩) ?po1)
  case fi1=>
   rintro c l ⟨D,f,i,S,J,rfl,rfl,H,Y⟩;exact⟨rfl,.inr ⟨_,_,_,_,_,rfl,H,by lia⟩⟩
  case st1=>
   rintro y c l _ Y ⟨D,f,i,S,J,rfl,rfl,H,hyi⟩;dsimp only;have hu1:=H.hu;have hv1:=H.hv;obtain⟨f,rfl⟩:∃z,f=z+1:=⟨f-1,by lia⟩;obtain⟨i,rfl⟩:∃z,i=z+1:=⟨i-1,by lia⟩;refine b6D C hk1 H (λr c m=>⟨rfl,.inl ⟨r,c,rfl,m⟩⟩) (λo2 i2 j2 u v R2 U=>⟨rfl,.inr ⟨_,_,_,_,_,rfl,R2,by lia⟩⟩) λo2 i2 j2 u v R2 U=>⟨_,_,_,_,_,rfl,rfl,R2,by lia⟩
  case po1=>
   rintro c l ⟨rfl,⟨r,G,rfl,m⟩ |⟨D,f,i,S,J,rfl,H,hij⟩⟩
   ·exact fJ ⟨r,_,rfl,L,m⟩
   ·dsimp only;refine a3j ?_;refine fH (f9 (fZ (I:=λy c p=>∃B k j N q t,c=(none,k,j,B,N,q,t)/\SG st p/\RdH κ a b B k j/\k+j+y<=f+i)
     (Q:=λc p=>SG st p/\((∃r G,c=(some r,G)/\Mgd κ a.toList b.toList r.toList)\/∃B k j N q t,c=(none,k,j,B,N,q,t)/\RdH κ a b B k j/\k+j<f+i)) ?l ?fi2 ⟨_,_,_,_,_,_,rfl,L,H,by lia⟩) ?po2)
    case fi2=>
     rintro c p ⟨B,k,j,N,q,t,rfl,d,F,Y⟩;exact⟨d,.inr ⟨_,_,_,_,_,_,rfl,F,by have:=F.hu;lia⟩⟩
    case l=>
     rintro y c p _ Y ⟨B,k,j,N,q,t,rfl,d,F,hyi⟩;dsimp only;have hu1:=F.hu;have hv1:=F.hv;obtain⟨k,rfl⟩:∃z,k=z+1:=⟨k-1,by lia⟩;obtain⟨j,rfl⟩:∃z,j=z+1:=⟨j-1,by lia⟩;refine b6F (n:=k+1+(j+1)) C (d.kd.trans hk) F ⟨λr c W T m=>⟨d.trans T,.inl ⟨r,c,rfl,m⟩⟩,λo4 i4 j4 u v w W T X U=>⟨d.trans T,.inr ⟨_,_,_,_,_,_,rfl,X,by lia⟩⟩,λo4 i4 j4 u v w W T X U=>⟨_,_,_,_,_,_,rfl,d.trans T,X,by lia⟩⟩ (by lia)
    case po2=>
     rintro c p ⟨d,⟨r,G,rfl,m⟩ |⟨B,k,j,N,q,t,rfl,F,U⟩⟩
     ·exact fJ ⟨r,_,rfl,d,m⟩
     ·dsimp only;rw[a3I];exact fH (gn (fJ ⟨_,_,_,_,rfl,⟨d.kd,d.ar,d.pe,d.fl⟩,F,by lia⟩))
end
def SR(κ:KF)(xs:Array Keyed)(lo n:Nat):Prop:=∀i j,i<=j->j<n->Kk κ xs (lo+i)<=Kk κ xs (lo+j)
def NR(κ:KF)(xs:Array Keyed)(lo n:Nat):Prop:=∀i j,i<=j->j<n->Kk κ xs (lo+j)<=Kk κ xs (lo+i)
structure Ar (st st':SortSt) (lo:Nat):Prop where
 pm:(arrOf st').Perm (arrOf st)
 pre:∀i,i<lo->(arrOf st')[i]?=(arrOf st)[i]?
 kd:kindOf st'=kindOf st
 pe:fN st'=fN st
 fl:f8 st'=f8 st
section
variable{M:Model}{A:Around}{E:Value->Shared->Prop}{s:Shared}{κ:KF}{k0:gj}{a₀:Array Keyed}{st st':SortSt}{lo:Nat}
def Ar.refl(st:SortSt)(lo:Nat):Ar st st lo:=⟨dh.refl _,λ_ _=>rfl,rfl,rfl,rfl⟩
def Ar.trans(p:Ar x y lo)(q:Ar y z lo):Ar x z lo:=⟨q.pm.trans p.pm,λi h=>(q.pre i h).trans (p.pre i h),q.kd.trans p.kd,q.pe.trans p.pe,q.fl.trans p.fl⟩
def Ar.tb(q:Ar st st' lo)(B:TB k0 a₀ st):TB k0 a₀ st':=⟨q.pm.trans B.pm,q.kd.trans B.kd,q.fl.trans B.fl⟩
def b0m(hs:src<xs.size)(hd:d<=src)(k:Nat) :
  Kk κ (bubble xs src d) k=if k=src-d then Kk κ xs src else if src-d<k/\k<=src then Kk κ xs (k-1) else Kk κ xs k:=by
 have q:=getElem?_bubble hs d hd k
 by_cases h1:k=src-d
 ·rw[if_pos h1]at q ⊢;exact a2P q
 ·rw[if_neg h1]at q ⊢
  by_cases h2:src-d<k/\k<=src
  ·rw[if_pos h2]at q ⊢;exact a2P q
  ·rw[if_neg h2]at q ⊢;exact a2P q
def Ar.bub(hs:src<(arrOf st).size)(hd:d<=src)(h:lo<=src-d):Ar st (setArr st (bubble (arrOf st) src d)) lo:=
 ⟨bubble_perm _ _ _,λi a=>by
  rw[getElem?_bubble hs d hd,if_neg (by lia),if_neg (by lia)],rfl,rfl,rfl⟩
def a7L(hj:j<=xs.size)(k:Nat):Kk κ (mirror xs i j ((j-i) / 2)) k=if i<=k/\k<j then Kk κ xs (i+j-1-k) else Kk κ xs k:=by
 have q:=getElem?_mirror_all (i:=i) hj k
 by_cases h1:i<=k/\k<j
 ·rw[if_pos h1]at q ⊢;exact a2P q
 ·rw[if_neg h1]at q ⊢;exact a2P q
def a2R(hj:j<=xs.size)(hq:∀k,i<=k->k<j->Kk κ xs k=Kk κ xs (j-1))(k:Nat):Kk κ (mirror xs i j ((j-i) / 2)) k=Kk κ xs k:=by
 rw[a7L hj]
 split
 ·grind
 ·rfl
def Ar.mir(hj:j<=(arrOf st).size)(h:lo<=i):Ar st (setArr st (mirror (arrOf st) i j ((j-i) / 2))) lo:=
 ⟨mirror_perm _ _ _ _,λk a=>by
  rw[getElem?_mirror_all hj,if_neg (by lia)],rfl,rfl,rfl⟩
def a9o(L:LtOk M A E s κ k0 a₀)(B:TB k0 a₀ st)(hn:lo+n<=a₀.size)(hok:ok<=n)(hs:SR κ (arrOf st) lo ok)
  (h:∀st',Ar st st' lo->SR κ (arrOf st') lo n->Q true st'):wpS M A E s (binarySort' lo n ok) Q st:=by
 rw[binarySort'_eq];refine fH (f9 (fZ (I:=λk c z=>c=(none,())/\Ar st z lo/\SR κ (arrOf z) lo (min k n)) (Q:=λc z=>c=(none,())/\Ar st z lo/\SR κ (arrOf z) lo n) ?step ?fin ?init) ?post)
 case post=>
  rintro c z ⟨rfl,r1,r2⟩;exact fJ (h z r1 r2)
 case init=>
  refine⟨rfl,Ar.refl _ _,λi j hij hj=>?_⟩
  by_cases h1:ok=0
  ·have:i=j:=by lia
   rw[this];exact bZ _
  ·exact hs i j hij (by lia)
 case fin=>
  rintro c z ⟨hc,r1,r2⟩;refine⟨hc,r1,?_⟩
  rwa [show min (max (max ok 1) n) n=n by lia]at r2
 case step=>
  rintro k c z hak hkn ⟨rfl,r1,r2⟩;rw[show min k n=k by lia]at r2;have B1:=r1.tb B;refine fH (f9 (fZ (I:=λx c y=>y=z/\∃p q,c=(none,p,q)/\p<=q/\q<=k/\q-p<=k-x/\(∀i,i<p->Kk κ (arrOf z) (lo+i)<=Kk κ (arrOf z) (lo+k))/\(∀i,q<=i->i<k->Kk κ (arrOf z) (lo+k)<Kk κ (arrOf z) (lo+i)))
   (Q:=λc y=>y=z/\∃p q,c=(none,p,q)/\p<=k/\(∀i,i<p->Kk κ (arrOf z) (lo+i)<=Kk κ (arrOf z) (lo+k))/\(∀i,p<=i->i<k->Kk κ (arrOf z) (lo+k)<Kk κ (arrOf z) (lo+i))) ?istep ?ifin ?iinit) ?ipost)
  case iinit=>exact⟨rfl,0,k,rfl,by lia,by lia,by lia,λi hi=>by lia,λi h1 h2=>by lia⟩
  case ifin=>
   rintro c y ⟨rfl,p,q,rfl,u1,u2,u3,u4,u5⟩
   have:p=q:=by lia
   subst this;exact⟨rfl,p,p,rfl,u2,u4,u5⟩
  case istep=>
   rintro x c y _ hxk ⟨rfl,p,q,rfl,u1,u2,u3,u4,u5⟩;dsimp only
   by_cases hge:p>=q
   ·rw[if_pos hge]
    have:p=q:=by lia
    subst this;exact fJ ⟨rfl,p,p,rfl,u2,u4,u5⟩
   ·rw[if_neg hge];refine fH (a4n L B1 (by lia) (by lia) ?_)
    by_cases hless:Kk κ (arrOf y) (lo+k)<Kk κ (arrOf y) (lo+(p+q) / 2)
    ·simp only[hless,decide_true,if_true];refine fJ ⟨rfl,p,(p+q) / 2,rfl,by lia,by lia,by lia,u4,λi h1 h2=>?_⟩;exact Int.lt_of_lt_of_le hless (r2 _ _ h1 h2)
    ·simp only[hless,decide_false,bQ,if_false];refine fJ ⟨rfl,(p+q) / 2+1,q,rfl,by lia,by lia,by lia,λi h1=>?_,u5⟩;exact bI (r2 i ((p+q) / 2) (by lia) (by lia)) (dC.mp hless)
  case ipost=>
   rintro c y ⟨rfl,p,q,rfl,u2,u4,u5⟩
   show wpS _ _ _ _ (do moveDown' (lo+k) (lo+p);pure (ForInStep.yield (none,()))) _ _
   rw[moveDown'_eq];have hks:lo+k<(arrOf y).size:=by rw[B1.sz];lia
   refine fH (gn (fJ ⟨rfl,r1.trans (Ar.bub hks (by lia) (by lia)),?_⟩));rw[show min (k+1) n=k+1 by lia];intro i j hij hj
   show Kk κ (bubble (arrOf y) (lo+k) (lo+k-(lo+p))) (lo+i)<=Kk κ (bubble (arrOf y) (lo+k) (lo+k-(lo+p))) (lo+j)
   rw[b0m hks (by lia),b0m hks (by lia),show lo+k-(lo+k-(lo+p))=lo+p by lia];have ek:∀t,1<=t->lo+t-1=lo+(t-1):=λt ht=>by lia
   repeat' split
   all_goals first
    | (exfalso;lia)
    |exact bZ _
    |exact u4 _ (by lia)
    | (rw[ek _ (by lia)];exact u4 _ (by lia))
    |exact b5 (u5 _ (by lia) (by lia))
    | (rw[ek _ (by lia)];exact b5 (u5 _ (by lia) (by lia)))
    |exact r2 _ _ (by lia) (by lia)
    | (rw[ek j (by lia)];exact r2 _ _ (by lia) (by lia))
    | (rw[ek i (by lia)];exact r2 _ _ (by lia) (by lia))
    | (rw[ek i (by lia),ek j (by lia)];exact r2 _ _ (by lia) (by lia))
end
abbrev U1:=Option (Option Nat)×Nat
abbrev U2:=Option (Option Nat)×Nat×Nat
noncomputable def rise(lo p nr:Nat):SM U1:=forIn [p:nr] ((none,p):U1) λ_ c=>do
 let x <- ltAt' (lo+c.2) (lo+c.2-1)
 match x with
 |some sm=>if sm=true then pure (.done (none,c.2)) else pure (.yield (none,c.2+1))
 |_=>pure (.done (some none,c.2))
noncomputable def fin3(lo n nr:Nat):SM (Option Nat):=do
 iE lo (lo+n)
 let c <- rise lo n nr
 match c.1 with
 |some r=>pure r
 |none=>pure (some c.2)
noncomputable def fall(lo n nr:Nat):SM U2:=forIn [n:nr] ((none,n,0):U2) λ_ c=>do
 let x <- ltAt' (lo+c.2.1) (lo+c.2.1-1)
 match x with
 |some sm=>
  if sm=true then
   if c.2.2 > 0 then do
    iE (lo+c.2.1-(c.2.2+1)) (lo+c.2.1)
    pure (.yield (none,c.2.1+1,0))
   else pure (.yield (none,c.2.1+1,0))
  else do
   let x <- ltAt' (lo+c.2.1-1) (lo+c.2.1)
   match x with
   |some lg=>if lg=true then pure (.done (none,c.2.1,c.2.2)) else pure (.yield (none,c.2.1+1,c.2.2+1))
   |_=>pure (.done (some none,c.2.1,c.2.2))
 |_=>pure (.done (some none,c.2.1,c.2.2))
noncomputable def part(lo n nr:Nat):SM (Option Nat):=do
 liftM (rule "list.sort.descending-run")
 let c <- fall lo (n+1) nr
 match c.1 with
 |some r=>pure r
 |none=>
  if c.2.2 > 0 then do
   iE (lo+c.2.1-(c.2.2+1)) (lo+c.2.1)
   fin3 lo c.2.1 nr
  else fin3 lo c.2.1 nr
def a3L(lo nr:Nat):countRun' lo nr=(do
  let c <- rise lo 1 nr
  match c.1 with
  |some r=>pure r
  |none=>
   if (c.2==nr)=true then pure (some c.2)
   else if c.2 > 1 then do
    let x <- ltAt' lo (lo+c.2-1)
    match x with
    |some up=>if up=true then pure (some c.2) else do
      iE lo (lo+c.2)
      part lo c.2 nr
    |_=>pure none
   else part lo c.2 nr):=by
 kernel_rfl
section
variable{M:Model}{A:Around}{E:Value->Shared->Prop}{s:Shared}{κ:KF}{k0:gj}{a₀:Array Keyed}{st:SortSt}{lo nr:Nat}
def a9p{α:Type}{f:Unit->SM α}{Q:α->SortSt->Prop}(h:wpS M A E s (f ()) Q (setArr st (mirror (arrOf st) i j ((j-i) / 2)))):wpS M A E s (iE i j >>= f) Q st:=fH (gn h)
def SR.one:SR κ xs lo 1:=by grind [SR]
def SR.snoc(h:SR κ xs lo n)(h1:1<=n)(c:Kk κ xs (lo+n-1)<=Kk κ xs (lo+n)):SR κ xs lo (n+1):=λi j a b=>by
 by_cases hjn:j<n
 ·exact h i j a hjn
 ·have e:j=n:=by lia
  subst e
  by_cases e2:i=j
  ·rw[e2];exact bZ _
  ·refine bI (h i (j-1) (by lia) (by lia)) ?_;rw[show lo+(j-1)=lo+j-1 by lia];exact c
def NR.snoc(h:NR κ xs lo n)(h1:1<=n)(c:Kk κ xs (lo+n)<=Kk κ xs (lo+n-1)):NR κ xs lo (n+1):=λi j a b=>by
 by_cases hjn:j<n
 ·exact h i j a hjn
 ·have e:j=n:=by lia
  subst e
  by_cases e2:i=j
  ·simp_all
  ·refine bI ?_ (h i (j-1) (by lia) (by lia));rw[show lo+(j-1)=lo+j-1 by lia];exact c
def NR.congr(h:NR κ xs lo n)(e:∀k,Kk κ ys k=Kk κ xs k):NR κ ys lo n:=λi j b a=>by rw[e,e];exact h i j b a
def b0n(L:LtOk M A E s κ k0 a₀)(B:TB k0 a₀ st)(hn:lo+nr<=a₀.size)(hp:1<=p)(hpn:p<=nr)(hs:SR κ (arrOf st) lo p)
  (h:∀n,p<=n->n<=nr->SR κ (arrOf st) lo n->(n=nr\/Kk κ (arrOf st) (lo+n)<Kk κ (arrOf st) (lo+n-1))->Q (none,n) st):wpS M A E s (rise lo p nr) Q st:=by
 refine fZ (I:=λx c z=>z=st/\c=(none,x)/\SR κ _ lo x) ?step ?fin ⟨rfl,rfl,hs⟩
 case fin=>
  rintro c z ⟨rfl,rfl,a⟩;rw[show max p nr=nr by lia]at a ⊢;exact h nr hpn (aV _) a (.inl rfl)
 case step=>
  rintro x c z b d ⟨rfl,rfl,a⟩;refine fH (a4n L B (by lia) (by lia) ?_)
  by_cases q:Kk κ (arrOf z) (lo+x)<Kk κ (arrOf z) (lo+x-1)
  ·simp only[q];exact fJ (h x b (by lia) a (.inr q))
  ·simp only[q];exact fJ ⟨rfl,rfl,a.snoc (by lia) (dC.mp q)⟩
def b0o(L:LtOk M A E s κ k0 a₀)(B:TB k0 a₀ st)(hn:lo+nr<=a₀.size)(h1:1<=n)(hnn:n<=nr)(hs:NR κ (arrOf st) lo n)
  (h:∀m z,Ar st z lo->1<=m->m<=nr->SR κ (arrOf z) lo m->Q (some m) z):wpS M A E s (fin3 lo n nr) Q st:=by
 have a:lo+n<=(arrOf st).size:=by rw[B.sz];lia
 refine a9p ?_;have b:Ar st _ lo:=Ar.mir a (aV _);refine fH (b0n L (b.tb B) hn h1 hnn ?_ λm g d c _=>fJ (h m _ b (by lia) d c));intro i j e f;rw[a7L a,a7L a,if_pos (by lia),if_pos (by lia),show lo+_-1-_=lo+(n-1-i) by lia,show lo+_-1-_=lo+(n-1-j) by lia];exact hs _ _ (by lia) (by lia)
def b4d(L:LtOk M A E s κ k0 a₀)(B:TB k0 a₀ st)(hn:lo+nr<=a₀.size)(h1:1<=n)(hnn:n<=nr)(hs:NR κ (arrOf st) lo n)
  (h:∀m e z,Ar st z lo->n<=m->m<=nr->NR κ (arrOf z) lo m->e+1<=m->(∀i,lo+m-(e+1)<=i->i<lo+m->Kk κ (arrOf z) i=Kk κ (arrOf z) (lo+m-1))->Q (none,m,e) z):wpS M A E s (fall lo n nr) Q st:=by
 unfold fall;refine fZ (I:=λx c z=>∃e,c=(none,x,e)/\Ar st z lo/\NR κ (arrOf z) lo x/\e+1<=x/\(∀i,lo+x-(e+1)<=i->i<lo+x->Kk κ (arrOf z) i=Kk κ (arrOf z) (lo+x-1))) ?step ?fin ⟨0,rfl,Ar.refl _ _,hs,by lia,λi l a=>by congr 1;lia⟩
 case fin=>
  rintro c z ⟨e,rfl,b,a,f,d⟩;rw[show max n nr=nr by lia]at a f d ⊢;exact h nr e z b hnn (aV _) a f d
 case step=>
  rintro x c z p r ⟨e,rfl,b,a,f,d⟩;dsimp only;have k:=b.tb B;have j:lo+x<=(arrOf z).size:=by rw[k.sz];lia
  refine fH (a4n L k (by lia) (by lia) ?_)
  by_cases q:Kk κ (arrOf z) (lo+x)<Kk κ (arrOf z) (lo+x-1)
  ·simp only[q,decide_true,if_true];have o:=a.snoc (by lia) (b5 q)
   by_cases g:e > 0
   ·rw[if_pos g];exact a9p (fJ ⟨0,rfl,b.trans (Ar.mir j (by lia)),o.congr (a2R j d),by lia,λi l a=>by congr 1;lia⟩)
   ·rw[if_neg g];exact fJ ⟨0,rfl,b,o,by lia,λi l a=>by congr 1;lia⟩
  ·simp only[q,decide_false,if_false];refine fH (a4n L k (by lia) (by lia) ?_)
   by_cases q2:Kk κ (arrOf z) (lo+x-1)<Kk κ (arrOf z) (lo+x)
   ·simp only[q2,decide_true,if_true];exact fJ (h x e z b p (by lia) a f d)
   ·simp only[q2,decide_false,if_false];have g:Kk κ (arrOf z) (lo+x)=Kk κ (arrOf z) (lo+x-1):=by lia
    refine fJ ⟨e+1,rfl,b,a.snoc (by lia) (by lia),by lia,λi l a=>?_⟩;rw[show lo+(x+1)-1=lo+x by lia]
    by_cases hix:i=lo+x
    ·rw[hix]
    ·grind
def b0p(L:LtOk M A E s κ k0 a₀)(B:TB k0 a₀ st)(hn:lo+nr<=a₀.size)(hnn:n+1<=nr)(hs:NR κ (arrOf st) lo (n+1))
  (h:∀m z,Ar st z lo->1<=m->m<=nr->SR κ (arrOf z) lo m->Q (some m) z):wpS M A E s (part lo n nr) Q st:=by
 refine a3j (fH (b4d L B hn (by simp) hnn hs λm e z c l i g o j=>?_));dsimp only;have f:=c.tb B;have a:lo+m<=(arrOf z).size:=by rw[f.sz];lia
 by_cases he:e > 0
 ·rw[if_pos he];have d:Ar st (setArr z (mirror (arrOf z) (lo+m-(e+1)) _ _)) lo:=c.trans (Ar.mir a (by lia));exact a9p (b0o L (d.tb B) hn (by lia) i (g.congr (a2R a j)) λk w b=>h k w (d.trans b))
 ·rw[if_neg he];exact b0o L f hn (by lia) i g λk w b=>h k w (c.trans b)
def b1B(L:LtOk M A E s κ k0 a₀)(B:TB k0 a₀ st)(hn:lo+nr<=a₀.size)(h1:1<=nr)
  (h:∀m z,Ar st z lo->1<=m->m<=nr->SR κ (arrOf z) lo m->Q (some m) z):wpS M A E s (countRun' lo nr) Q st:=by
 rw[a3L];refine fH (b0n L B hn (aV 1) h1 SR.one λn e l b t=>?_);dsimp only
 by_cases hnn:n=nr
 ·rw[if_pos (by simpa using hnn)];exact fJ (h n st (Ar.refl _ _) e l b)
 ·rw[if_neg (by simpa using hnn)];have d:=t.resolve_left hnn;have c:lo+n<=(arrOf st).size:=by rw[B.sz];lia
  by_cases hgt:n > 1
  ·rw[if_pos hgt];refine fH (a4n L B (by lia) (by lia) ?_)
   by_cases q:Kk κ (arrOf st) lo<Kk κ (arrOf st) (lo+n-1)
   ·simp only[q,decide_true,if_true];exact fJ (h n st (Ar.refl _ _) e l b)
   ·simp only[q,if_false];have a:∀k,lo<=k->k<lo+n->Kk κ (arrOf st) k=Kk κ (arrOf st) (lo+n-1):=λk y x=>by
     have g:=b 0 (k-lo) (by lia) (by lia);have f:=b (k-lo) (n-1) (by lia) (by lia);rw[show lo+(k-lo)=k by lia]at g f;rw[show lo+(n-1)=lo+n-1 by lia]at f;rw[d6]at g
     lia
    have o:Ar st _ lo:=Ar.mir c (aV _);have u:NR κ (arrOf st) lo (n+1):=by
     refine NR.snoc (λi j p r=>?_) (by lia) (b5 d);rw[a (lo+i) (by lia) (by lia),a (lo+j) (by lia) (by lia)];exact bZ _
    exact a9p (b0p L (o.tb B) hn (by lia) (u.congr (a2R c a)) λk w v=>h k w (o.trans v))
  ·rw[if_neg hgt]
   have:n=1:=by lia
   subst this;refine b0p L B hn (by lia) ?_ h;refine NR.snoc (λi j p r=>?_) (by lia) (b5 d)
   have:i=j:=by lia
   rw[this];exact bZ _
end
def a45(i:Nat):jm i=(do
 let z <- get
 let (some (p,n,w),some (q,m,_)):=((fN z)[i]?,(fN z)[i+1]?) |jl "internal:list.sort.pending"
 set (iF z (((fN z).setIfInBounds i (p,n+m,w)).eraseIdxIfInBounds (i+1)))
 let some k <- a1n false (<- elem' (arrOf z) q) (arrOf z) p n 0 |return false
 let (p,n):=(p+k,n-k)
 if n==0 then return true
 let some m <- a1n true (<- elem' (arrOf z) (p+n-1)) (arrOf z) q m (m-1) |return false
 if m==0 then return true
 let x:=(arrOf z).extract p q
 let y:=(arrOf z).extract q (q+m)
 let mg <- if n<=m then a3J x y else a3K x y
 modify λz=>setArr z (mg.toList.zipIdx.foldl (λa (v,j)=>a.setIfInBounds (p+j) v) (arrOf z))
 return (f8 (<- get)).isNone):=rfl
def a9q(bs:Nat):∀(l:List Keyed)(k:Nat)(xs:Array Keyed),bs+k+l.length<=xs.size ->
  ((l.zipIdx k).foldl (λa (pj:Keyed×Nat)=>a.setIfInBounds (bs+pj.2) pj.1) xs).toList=xs.toList.take (bs+k)++(l++xs.toList.drop (bs+k+l.length)):=by intro z0;induction z0 with
 |nil=>intro k xs _;simp
 |cons x l I0=>
  intro k xs h;rw[bp]at h;rw[eU,List.foldl_cons,I0 _ _ (by grind)];have e:(xs.setIfInBounds (bs+k) x).toList=xs.toList.set (bs+k) x:=by simp
  rw[e,show bs+_=bs+k+1 by lia,List.drop_set_of_lt (by lia),bp,show bs+k+1+l.length=bs+k+(l.length+1) by lia]
  have:(xs.toList.set (bs+k) x).take (bs+k+1)=xs.toList.take (bs+k)++[x]:=by
   rw[cz,List.take_set_of_le (aV _),dS (by grind)]
   rfl
  rw[this];simp
section
variable{M:Model}{A:Around}{E:Value->Shared->Prop}{s:Shared}{κ:KF}{k0:gj}{a₀:Array Keyed}{st:SortSt}
def b6G(h:Q ⟨⟩ z):wpS M A E s (set z:SM PUnit) Q st:=fI ⟨rfl,h⟩
def b0q(e:xs.toList=P++(X++R))(hi:i<X.length):Kk κ xs (P.length+i)=κ X[i]:=by
 refine a2Q ?_;rw[e,cV (by simp),cW (by lia),show P.length+i-P.length=i by lia];exact bh hi
def a1V(h:Srt κ X)(hij:i<=j)(hj:j<X.length):κ (X[i]'(by omega))<=κ X[j]:=by
 by_cases e:i=j
 ·subst e;exact bZ _
 ·exact cA.mp h i j (by lia) hj (by lia)
def a5t{X:List Keyed}(h:x∈X):∃i,∃(hi:i<X.length),X[i]=x:=dE.mp h
def a4q{X:List Keyed}(h:x∈X.take k):∃i,∃(hi:i<X.length),i<k/\X[i]=x:=by
 obtain⟨q,a,d⟩:=a1F h;obtain⟨b,c⟩:=aZ.mp d;exact⟨q,b,a,c⟩
def a5u{X:List Keyed}(h:x∈X.drop k):∃i,∃(hi:i<X.length),k<=i/\X[i]=x:=by
 obtain⟨q,b,e,d⟩:=a1E h;obtain⟨c,a⟩:=aZ.mp d;exact⟨q,c,b,a⟩
def a7M(L:LtOk M A E s κ k0 a₀)(B:TB k0 a₀ st)(e1:(fN st)[i]?=some (sa,na,pw))(e2:(fN st)[i+1]?=some (sb,nb,pw2))
  (ea:(arrOf st).toList=P++(X++(Y++S))) (hP:P.length=sa) (hX:X.length=na) (hsb:sb=sa+na) (hY:Y.length=nb) (sX:Srt κ X) (sY:Srt κ Y) (h1:0<na) (h2:0<nb)
  (h:∀st' Z,TB k0 a₀ st'->(arrOf st').toList=P++(Z++S)->Z.length=na+nb->Srt κ Z->fN st'=((fN st).setIfInBounds i (sa,na+nb,pw)).eraseIdxIfInBounds (i+1)->Q true st'):wpS M A E s (jm i) Q st:=by
 have hsz:(arrOf st).size=sa+na+nb+S.length:=by
  rw[<- a0R,ea];simp;omega
 have hmem:∀p∈(arrOf st).toList,p∈a₀.toList:=λp hp=>(cZ.mp B.pm).mem_iff.mp hp;have eb:(arrOf st).toList=(P++X)++(Y++S):=by rw[ea,bH]
 have kX:∀i,(hi:i<X.length)->Kk κ (arrOf st) (sa+i)=κ X[i]:=λi hi=>by rw[<- hP];exact b0q ea hi
 have kY:∀i,(hi:i<Y.length)->Kk κ (arrOf st) (sb+i)=κ Y[i]:=λi hi=>by
  rw[hsb,<- hP,<- hX,<- bn];exact b0q eb hi
 rw[a45];refine fH (gr ?_);rw[e1,e2];dsimp only;refine fH (b6G ?_);have B1:TB k0 a₀ (iF st (((fN st).setIfInBounds i (sa,na+nb,pw)).eraseIdxIfInBounds (i+1))):=⟨B.pm,B.kd,B.fl⟩;have hs1:arrOf (iF st (((fN st).setIfInBounds i (sa,na+nb,pw)).eraseIdxIfInBounds (i+1)))=arrOf st:=rfl;have hp1:fN (iF st (((fN st).setIfInBounds i (sa,na+nb,pw)).eraseIdxIfInBounds (i+1)))=((fN st).setIfInBounds i (sa,na+nb,pw)).eraseIdxIfInBounds (i+1):=rfl;generalize iF st (((fN st).setIfInBounds i (sa,na+nb,pw)).eraseIdxIfInBounds (i+1))=st1 at B1 hs1 hp1;have hy0:sb<(arrOf st).size:=by omega
 have ey:(arrOf st)[sb]?=some (arrOf st)[sb]:=getElem?_pos ..;have hky:κ (arrOf st)[sb]=κ Y[0]:=by
  have:=kY 0 (by omega)
  rw[d6,a43 ey]at this;exact this
 have hmy:(arrOf st)[sb]∈a₀.toList:=hmem _ (by simp);refine fH (a0w ey (fH ?_));refine a1t L B1.kd hmy hmem (by omega) (by omega) (λp q hp hq=>by rw[kX p (by omega),kX q (by omega)];exact a1V sX hp (by omega)) λk hkn hlt hge=>?_;dsimp only;have lo:∀q,(hq:q<X.length)->q<k->κ X[q]<=κ Y[0]:=λq hq hqk=>by
  have:=hlt q hqk
  rw[kX q hq,hky]at this;simpa[bq]using this
 have up:∀q,(hq:q<X.length)->k<=q->κ Y[0]<κ X[q]:=λq hq hqk=>by
  have:=hge q hqk (by omega)
  rw[kX q hq,hky]at this;simpa[bq]using this
 have whole:(∀x∈X,∀y∈Y,κ x<=κ y)->Q true st1:=λhxy=>by
  refine h st1 (X++Y) B1 (by rw[hs1,ea,bH]) (by rw[bn,hX,hY]) ?_ hp1;exact bA.mpr ⟨sX,sY,hxy⟩
 by_cases c1:na-k=0
 ·rw[if_pos (by simpa using c1)];refine fJ (whole λx hx y hy=>?_);obtain⟨q,hq,rfl⟩:=a5t hx;obtain⟨r,hr,rfl⟩:=a5t hy;exact bI (lo q hq (by omega)) (a1V sY (bE _) hr)
 rw[if_neg (by simpa using c1)];have hl:sa+k+(na-k)-1<(arrOf st).size:=by omega
 have ex:(arrOf st)[sa+k+(na-k)-1]?=some (arrOf st)[sa+k+(na-k)-1]:=getElem?_pos ..;have hkx:κ (arrOf st)[sa+k+(na-k)-1]=κ X[na-1]:=by
  have:=kX (na-1) (by omega)
  rw[show sa+(na-1)=sa+k+(na-k)-1 by omega,a43 ex]at this;exact this
 have hmx:(arrOf st)[sa+k+(na-k)-1]∈a₀.toList:=hmem _ (by simp);refine fH (a0w ex (fH ?_));refine a1t L B1.kd hmx hmem (by omega) (by omega) (λp q hp hq=>by rw[kY p (by omega),kY q (by omega)];exact a1V sY hp (by omega)) λm hmn hlt2 hge2=>?_;dsimp only;have lo2:∀q,(hq:q<Y.length)->q<m->κ Y[q]<κ X[na-1]:=λq hq hqk=>by
  have:=hlt2 q hqk
  rw[kY q hq,hkx]at this;simpa[bq]using this
 have up2:∀q,(hq:q<Y.length)->m<=q->κ X[na-1]<=κ Y[q]:=λq hq hqk=>by
  have:=hge2 q hqk (by omega)
  rw[kY q hq,hkx]at this;simpa[bq]using this
 by_cases c2:m=0
 ·rw[if_pos (by simpa using c2)];refine fJ (whole λx hx y hy=>?_);obtain⟨q,hq,rfl⟩:=a5t hx;obtain⟨r,hr,rfl⟩:=a5t hy;exact bI (a1V sX (by omega) (by omega)) (up2 r hr (by omega))
 rw[if_neg (by simpa using c2)];have lx:((arrOf st).extract (sa+k) sb).toList=X.drop k:=by
  rw[eV,dB,ea,d7,<- hP,cM (by omega),dG,show P.length+k-P.length=k by omega,eY (by omega),d8 (by rw[b7];omega),cr (by rw[b7];omega)]
 have ly:((arrOf st).extract sb (sb+m)).toList=Y.take m:=by
  rw[eV,dB,eb,d7,cM (by rw[bn];omega),dG,show sb-(P++X).length=0 by rw[bn];omega,List.drop_zero,d8 (by omega),show sb+m-sb=m by omega]
 have C:MC M A E s κ k0 a₀ ((arrOf st).extract (sa+k) sb) ((arrOf st).extract sb (sb+m)):=by
  refine⟨L,λp hp=>?_,λp hp=>?_,?_,?_,?_,?_,λy hy=>?_,λz hz y hy=>?_⟩
  ·rw[lx]at hp;exact hmem p (by rw[ea];simp[dA hp])
  ·rw[ly]at hp;exact hmem p (by rw[ea];simp[de hp])
  ·rw[lx];exact a0T sX k
  ·rw[ly];exact a1b sY m
  ·rw[<- a0R,lx,b7];omega
  ·rw[<- a0R,ly,bC];omega
  ·rw[lx]at hy;obtain⟨q,hq,hk,rfl⟩:=a5u hy;rw[a2Q (z:=Y[0]) (by rw[ly,d5,if_pos (by omega)];exact bh _)];exact b5 (up q hq hk)
  ·rw[ly]at hy;rw[lx,b7,dc,show k+(X.length-k-1)=na-1 by omega,bh (show na-1<X.length by omega)]at hz;cases hz;obtain⟨q,hq,hk,rfl⟩:=a4q hy;exact b5 (lo2 q hq hk)
 have fin:∀(r:Array Keyed)(st2:SortSt),SG st1 st2->Mgd κ ((arrOf st).extract (sa+k) sb).toList ((arrOf st).extract sb (sb+m)).toList r.toList ->
   wpS M A E s (do
    modify λz=>setArr z (r.toList.zipIdx.foldl (λa (pj:Keyed×Nat)=>a.setIfInBounds (sa+k+pj.2) pj.1) (arrOf z))
    return (f8 (<- get)).isNone) Q st2:=by
  intro r st2 g2 mg;rw[lx,ly]at mg;have hrl:r.toList.length=na-k+m:=by rw[mg.1.length_eq,bn,b7,bC];omega
  refine fH (gn (fH (gr (fJ ?_))));have ha2:arrOf st2=arrOf st:=g2.ar.trans hs1;have ef:=a9q (sa+k) r.toList 0 (arrOf st2) (by rw[ha2];omega);have el:(r.toList.zipIdx.foldl (λa (pj:Keyed×Nat)=>a.setIfInBounds (sa+k+pj.2) pj.1) (arrOf st2)).toList=P++((X.take k++r.toList++Y.drop m)++S):=by
   rw[ef,ha2,d6,hrl];have t1:(arrOf st).toList.take (sa+k)=P++X.take k:=by
    rw[ea,List.take_append,cr (by omega),<- hP,show P.length+k-P.length=k by omega,d8 (by omega)]
   have t2:(arrOf st).toList.drop (sa+k+(na-k+m))=Y.drop m++S:=by
    rw[eb,d7,cM (by rw[bn];omega),dG,show sa+k+(na-k+m)-(P++X).length=m by rw[bn];omega,eY (by omega)]
   rw[t1,t2];simp
  generalize hgz:r.toList.zipIdx.foldl (λa (pj:Keyed×Nat)=>a.setIfInBounds (sa+k+pj.2) pj.1) (arrOf st2)=ar at el;have hperm:(X.take k++r.toList++Y.drop m).Perm (X++Y):=by
   have:(X.take k++r.toList++Y.drop m).Perm (X.take k++(X.drop k++Y.take m)++Y.drop m):=(bP.append_left _ mg.1).append_right _
   refine this.trans ?_;have e:X.take k++(X.drop k++Y.take m)++Y.drop m=X++Y:=by
    rw[<- bH,cP,bH,cP]
   rw[e]
  have pm:ar.Perm (arrOf st):=by
   rw[cZ,el,ea];refine bP.append_left _ ?_;rw[<- bH (as:=X)];exact hperm.append_right _
  have hfl:f8 (setArr st2 ar)=none:=g2.fl.trans B1.fl;have B2:TB k0 a₀ (setArr st2 ar):=⟨pm.trans B.pm,g2.kd.trans B1.kd,hfl⟩;rw[hfl];refine h _ _ B2 el (by rw[hperm.length_eq,bn,hX,hY]) ?_ (g2.pe.trans hp1);have hr:∀w∈r.toList,w∈X.drop k\/w∈Y.take m:=λw hw=>aU.mp (mg.1.mem_iff.mp hw);refine bA.mpr ⟨bA.mpr ⟨a1b sX k,mg.2,λx hx w hw=>?_⟩,a0T sY m,λx hx y hy=>?_⟩
  ·obtain⟨q,hq,hk,rfl⟩:=a4q hx;rcases hr w hw with hw |hw
   ·obtain⟨p,hp,hk2,rfl⟩:=a5u hw;exact a1V sX (by omega) hp
   ·obtain⟨p,hp,hk2,rfl⟩:=a4q hw;exact bI (lo q hq hk) (a1V sY (bE _) hp)
  ·obtain⟨p,hp,hk2,rfl⟩:=a5u hy;rcases aU.mp hx with hx |hx
   ·obtain⟨q,hq,hk,rfl⟩:=a4q hx;exact bI (lo q hq hk) (a1V sY (bE _) hp)
   ·rcases hr x hx with hx |hx
    ·obtain⟨q,hq,hk,rfl⟩:=a5u hx;exact bI (a1V sX (by omega) (by omega)) (up2 p hp hk2)
    ·obtain⟨q,hq,hk,rfl⟩:=a4q hx;exact a1V sY (by omega) hp
 split
 ·exact fH (a7J C B1.kd λr st2 g2 mg=>fin r st2 g2 mg)
 ·exact fH (a7K C B1.kd λr st2 g2 mg=>fin r st2 g2 mg)
end
noncomputable def pr(p:Nat×Nat×Nat):Nat×Nat:=(p.1,p.2.1)
noncomputable def offs:Nat->List (List Keyed)->List (Nat×Nat)
 |_,[]=>[]
 |o,R::Rs=>(o,R.length)::offs (o+R.length) Rs
def a1G:∀(o:Nat)(U V:List (List Keyed)),offs o (U++V)=offs o U++offs (o+U.flatten.length) V:=by intro z0 y0;induction y0 generalizing z0 with
 |nil=>intro V;simp[offs]
 |cons R U I0=>
  intro V;rw[dH,offs,offs,I0,dH,eZ,bn,d9]
def a1c:∀(o:Nat)(U:List (List Keyed)),(offs o U).length=U.length:=by intro z0 y0;induction y0 generalizing z0 with
 |nil=>exact rfl
 |cons R U I0=>rw[offs,bp,bp,I0]
def a7N{α:Type}{q p1 p2:α}{pv:List α}:∀pu:List α,((pu++p1::p2::pv).set pu.length q).eraseIdx (pu.length+1)=pu++q::pv:=by intro z0;induction z0 with
 |nil=>exact rfl
 |cons x pu I0=>rw[dH,bp,List.set_cons_succ,ed,I0,dH]
theorem a4r{α β:Type}{f:α->β}:∀(l:List α)(k:Nat),(l.map f).eraseIdx k=(l.eraseIdx k).map f
 |[],_=>by simp
 |x::l,0=>by simp
 |x::l,k+1=>by rw[aY,ed,ed,aY,a4r l k]
def a9r:∀{Rs:List (List Keyed)},(∀R∈Rs,R≠[])->Rs.length<=Rs.flatten.length:=by intro z0;induction z0 with
 |nil=>intro _;simp
 |cons R Rs I0=>
  intro h
  have:=I0 λR a=>h R (.tail _ a)
  have b:=cQ.mpr (h R (.head _));rw[eZ,bn,bp]
  lia
def Runs(κ:KF)(st:SortSt)(lo:Nat)(rest:List Keyed):Prop:=∃Rs:List (List Keyed),(arrOf st).toList=Rs.flatten++rest/\(∀R∈Rs,Srt κ R/\R≠[])/\Rs.flatten.length=lo/\(fN st).toList.map pr=offs 0 Rs
section
variable{M:Model}{A:Around}{E:Value->Shared->Prop}{s:Shared}{κ:KF}{k0:gj}{a₀:Array Keyed}{st:SortSt}
def a1H{i lo:Nat}(L:LtOk M A E s κ k0 a₀)(B:TB k0 a₀ st)(R:Runs κ st lo rest)(hi:i+1<(fN st).size)
  (h:∀st',TB k0 a₀ st'->Runs κ st' lo rest->(fN st').size+1=(fN st).size->Q true st'):wpS M A E s (jm i) Q st:=by
 obtain⟨Rs,t,f,r,b⟩:=R;have m:(fN st).size=Rs.length:=by
  have:=congrArg bM b
  rw[aT,a1c]at this;simpa using this
 obtain⟨U,X,Y,V,rfl,D⟩:∃U X Y V,Rs=U++X::Y::V/\U.length=i:=by
  refine⟨Rs.take i,Rs[i]'(by lia),Rs[i+1]'(by lia),Rs.drop (i+2),?_,by rw[bC];lia⟩;rw[<- dz,<- dz,cP]
 have n:=f X (by simp);have q:=f Y (by simp);rw[a1G]at b;simp only[offs,dg]at b;have k:∀(j:Nat)(x:Nat×Nat),(offs 0 U++_::_::offs _ V)[j]?=some x->∃w,(fN st)[j]?=some (x.1,x.2,w):=λj x d=>by
  rw[<- b,aW]at d;rw[<- cw];cases e:(fN st).toList[j]? with
  |none=>rw[e]at d;cases d
  |some p=>
   rw[e]at d;cases d;exact⟨p.2.2,rfl⟩
 have c:(offs 0 U).length=i:=by rw[a1c,D]
 obtain⟨J,G⟩:=k i _ (by rw[cV (by lia),c,Nat.sub_self];rfl);obtain⟨I,y⟩:=k (i+1) (U.flatten.length+X.length,Y.length) (by simp_all);have C:(arrOf st).toList=U.flatten++(X++(Y++(V.flatten++rest))):=by rw[t];simp
 refine a7M L B G y C rfl rfl rfl rfl n.1 q.1 (cQ.mpr n.2) (cQ.mpr q.2) λl Z H F o v u=>?_;have g:(fN l).toList.map pr=offs 0 (U++Z::V):=by
  rw[u,Array.toList_eraseIdxIfInBounds,Array.toList_setIfInBounds,<- a4r,List.map_set,b,<- c,a7N,a1G];simp only[offs,dg,pr];rw[o,d9]
 refine h l H ⟨U++Z::V,by rw[F];simp,λR a=>?_,?_,g⟩ ?_
 ·rcases aU.mp a with a |a
  ·exact f R (by simp[a])
  ·rcases bf.mp a with rfl |a
   ·exact⟨v,λz=>by rw[z]at o;have:=cQ.mpr n.2;simp at o;lia⟩
   ·exact f R (by simp[a])
 ·rw[<- r];simp
  lia
 ·grind
def Runs.ar{lo n:Nat}(R:Runs κ st lo rest)(q:Ar st st' lo)(hs:SR κ (arrOf st') lo n)(hn:lo+n<=(arrOf st').size)(h1:1<=n):∃X rest',Srt κ X/\X.length=n/\Runs κ st' lo (X++rest'):=by
 obtain⟨Rs,g,f,c,e⟩:=R;have b:(arrOf st').toList.take lo=Rs.flatten:=by
  refine eg λi=>?_
  by_cases a:i<lo
  ·rw[d5,if_pos a,cw,q.pre i a,<- cw,g,cW (by lia)]
  ·grind
 refine⟨((arrOf st').toList.drop lo).take n,((arrOf st').toList.drop lo).drop n,?_,by rw[bC,b7,a0R];lia,Rs,?_,f,c,by rw[q.pe];exact e⟩
 ·refine cA.mpr λi j a d k=>?_;rw[bC,b7,a0R]at a d
  have:=hs i j (by lia) (by lia)
  rw[a0K _,a0K _]at this;simpa using this
 ·rw[cP,<- b,cP]
def Runs.push{lo n:Nat}(R:Runs κ st lo (X++rest))(sX:Srt κ X)(hX:X.length=n)(h1:1<=n)(ha:arrOf st'=arrOf st)(hp:(fN st').toList.map pr=(fN st).toList.map pr++[(lo,n)]):Runs κ st' (lo+n) rest:=by
 obtain⟨Rs,e,d,b,c⟩:=R;refine⟨Rs++[X],by rw[ha,e];simp,λR a=>?_,by simp[b,hX],?_⟩
 ·rcases aU.mp a with a |a
  ·exact d R a
  ·rw[aX.mp a];exact⟨sX,λz=>by rw[z]at hX;simp at hX;lia⟩
 ·rw[hp,c,a1G,dg,b];simp[offs,hX]
def t_sortRuns(L:LtOk M A E s κ k0 a₀)(B:TB k0 a₀ st)(hp:fN st=#[])
  (h:∀st',TB k0 a₀ st'->Srt κ (arrOf st').toList->Q () st'):wpS M A E s sortRuns' Q st:=by
 rw[sortRuns'_eq];refine fH (gr ?_);dsimp only;rw[B.sz];generalize minRun' a₀.size a₀.size 0=mr;refine fH (f9 (fZ (I:=λx c z=>∃d e,c=(none,d)/\TB k0 a₀ z/\Runs κ z d e/\x<=d)
  (Q:=λc z=>∃d e,c=(none,d)/\TB k0 a₀ z/\Runs κ z d e/\a₀.size<=d) ?step ?fin ⟨0,(arrOf st).toList,rfl,B,⟨[],by simp,λR h=>by simp at h,rfl,by rw[hp];rfl⟩,aV _⟩) ?post)
 case fin=>
  rintro c z ⟨d,e,rfl,t,u,hx⟩;exact⟨d,e,rfl,t,u,by lia⟩
 case step=>
  rintro x c z _ hx ⟨d,e,rfl,t,u,hxl⟩;dsimp only
  by_cases c1:d>=a₀.size
  ·rw[if_pos c1];exact fJ ⟨d,e,rfl,t,u,c1⟩
  rw[if_neg c1];refine fH (b1B L t (by lia) (by lia) λm z2 Y m1 m2 m3=>?_);dsimp only
  by_cases c2:m<mr
  ·rw[if_pos c2];refine a3j (fH (a9o L (Y.tb t) (by lia) (by lia) m3 λS C D=>?_));rw[if_neg (by decide)];have C:=Y.trans C;have v:1<=min (a₀.size-d) mr:=by lia
   have V:d+min (a₀.size-d) mr<=a₀.size:=by lia
   generalize min (a₀.size-d) mr=n at v V D ⊢;have r:=C.tb t;obtain⟨X,f,J,G,R3⟩:=u.ar C D (by rw[r.sz];lia) v;refine fH (gr ?_);cases hb:(fN S).back? with
   |none=>
    dsimp only;exact fH (gn (fJ ⟨d+n,f,rfl,⟨r.pm,r.kd,r.fl⟩,R3.push J G v rfl (by show (((fN S).push (d,n,0)).toList).map pr=_;rw[bU,bt];rfl),by lia⟩))
   |some p=>
    obtain⟨w,o,w1⟩:=p;dsimp only;generalize power' a₀.size (2*w+o) (2*w+o+o+n) a₀.size=pw;refine fH (f9 (fZ (I:=λ_ c y=>c=(none,())/\TB k0 a₀ y/\Runs κ y d (X++f)) ?w (λ_ _ hh=>hh) ⟨rfl,r,R3⟩) ?p1)
    case w=>
     rintro x c y _ _ ⟨rfl,g,j⟩;refine fH (gr ?_)
     by_cases hgt:(fN y).size > 1
     ·rw[if_pos hgt];have eo:(fN y)[(fN y).size-2]?=some (fN y)[(fN y).size-2]:=getElem?_pos ..;rw[eo];dsimp only
      split
      ·exact fJ ⟨rfl,g,j⟩
      ·refine fH (a1H L g j (by lia) λy2 N H _=>?_);rw[if_neg (by decide)];exact fJ ⟨rfl,N,H⟩
     ·rw[if_neg hgt];exact fJ ⟨rfl,g,j⟩
    case p1=>
     rintro c y ⟨rfl,g,j⟩;dsimp only;refine fH (gn (fH (gn (fJ ⟨d+n,f,rfl,⟨g.pm,g.kd,g.fl⟩,j.push J G v rfl ?_,by lia⟩))));have em:∀(q:Array (Nat×Nat×Nat))(k:Nat),(q.modify k λ(a,b,_)=>(a,b,pw)).toList.map pr=q.toList.map pr:=λq k=>by
      refine eg λi=>?_;rw[aW,aW,cw,cw,e7]
      split
      ·cases q[i]? with
       |none=>rfl
       |some p=>rfl
      ·rfl
     rw[bU,bt,em]
     rfl
  ·rw[if_neg c2];have V:d+m<=a₀.size:=by lia
   have v:=m1;have D:=m3;have C:=Y;generalize m=n at v V D ⊢;generalize z2=S at C D ⊢;have r:=C.tb t;obtain⟨X,f,J,G,R3⟩:=u.ar C D (by rw[r.sz];lia) v;refine fH (gr ?_);cases hb:(fN S).back? with
   |none=>
    dsimp only;exact fH (gn (fJ ⟨d+n,f,rfl,⟨r.pm,r.kd,r.fl⟩,R3.push J G v rfl (by show (((fN S).push (d,n,0)).toList).map pr=_;rw[bU,bt];rfl),by lia⟩))
   |some p=>
    obtain⟨w,o,w1⟩:=p;dsimp only;generalize power' a₀.size (2*w+o) (2*w+o+o+n) a₀.size=pw;refine fH (f9 (fZ (I:=λ_ c y=>c=(none,())/\TB k0 a₀ y/\Runs κ y d (X++f)) ?w (λ_ _ hh=>hh) ⟨rfl,r,R3⟩) ?p1)
    case w=>
     rintro x c y _ _ ⟨rfl,g,j⟩;refine fH (gr ?_)
     by_cases hgt:(fN y).size > 1
     ·rw[if_pos hgt];have eo:(fN y)[(fN y).size-2]?=some (fN y)[(fN y).size-2]:=getElem?_pos ..;rw[eo];dsimp only
      split
      ·exact fJ ⟨rfl,g,j⟩
      ·refine fH (a1H L g j (by lia) λy2 N H _=>?_);rw[if_neg (by decide)];exact fJ ⟨rfl,N,H⟩
     ·rw[if_neg hgt];exact fJ ⟨rfl,g,j⟩
    case p1=>
     rintro c y ⟨rfl,g,j⟩;dsimp only;refine fH (gn (fH (gn (fJ ⟨d+n,f,rfl,⟨g.pm,g.kd,g.fl⟩,j.push J G v rfl ?_,by lia⟩))));have em:∀(q:Array (Nat×Nat×Nat))(k:Nat),(q.modify k λ(a,b,_)=>(a,b,pw)).toList.map pr=q.toList.map pr:=λq k=>by
      refine eg λi=>?_;rw[aW,aW,cw,cw,e7]
      split
      ·cases q[i]? with
       |none=>rfl
       |some p=>rfl
      ·rfl
     rw[bU,bt,em]
     rfl
 case post=>
  rintro c z ⟨d,e,rfl,t,u,hlo⟩;dsimp only;have hsz:∀y,Runs κ y d e->(fN y).size<=d:=by
   rintro y ⟨Rs,T,F,e3,U⟩;have l:=congrArg bM U;rw[aT,a1c]at l;have h2:=a9r λR hR=>(F R hR).2;simp at l
   lia
  have W:d=a₀.size:=by
   obtain⟨Rs,T,F,e3,U⟩:=u
   have:=congrArg bM T
   rw[a0R,t.sz,bn]at this
   lia
  subst W;refine fH (f9 (fZ (I:=λx c y=>c=(none,())/\TB k0 a₀ y/\Runs κ y a₀.size e/\((fN y).size<=1\/(fN y).size+x<=a₀.size)) (Q:=λc y=>c=(none,())/\TB k0 a₀ y/\Runs κ y a₀.size e/\(fN y).size<=1) ?s2 ?f2 ⟨rfl,t,u,.inr (hsz z u)⟩) ?p2)
  case f2=>
   rintro c y ⟨rfl,g,j,hc⟩;exact⟨rfl,g,j,by lia⟩
  case s2=>
   rintro x c y _ hx ⟨rfl,g,j,hc⟩;refine fH (gr ?_)
   by_cases l:(fN y).size<=1
   ·rw[if_pos l];exact fJ ⟨rfl,g,j,l⟩
   ·rw[if_neg l];refine fH (a1H L g j ?_ λy2 N H hy2=>?_)
    ·repeat' split
     all_goals lia
    ·rw[if_neg (by decide)];exact fJ ⟨rfl,N,H,.inr (by lia)⟩
  case p2=>
   rintro c y ⟨rfl,g,j,hc⟩;obtain⟨Rs,T,F,e3,U⟩:=j;have l:=congrArg bM U;rw[aT,a1c]at l;have h2:=congrArg bM T;rw[a0R,g.sz,bn,e3]at h2;have hr:e=[]:=cY.mp (by lia);refine fJ (h y g ?_);rw[T,hr,bN]
   match Rs,F,l with
   |[],_,_=>exact .nil
   |[R],F,_=>simpa using (F R (by simp)).1
   |_::_::_,_,l=>simp at l;lia
end
abbrev kN:KF:=λp=>numOf p.1
def b4e(xs:Array Keyed)(i:Nat):K xs i=Kk kN xs i:=rfl
def srt_to(h:Srt kN xs.toList)(hn:n=xs.size):SortedTo xs n:=λi j a b=>by
 rw[b4e,b4e]
 have:=a1T (i:=0) h (n:=xs.size) (by simp) i j a (by lia)
 simpa using this
section
variable{prog:fK}{w:World}{A:Around}{E:Value->Shared->Prop}{s:Shared}{a₀:Array Keyed}
def lt_ints(h0:IntKeys a₀):LtOk (model prog w) A E s kN iT a₀:=λx y c d g Q e h=>by
 obtain⟨n,t,b⟩:=h0 x c;obtain⟨m,u,a⟩:=h0 y d;have f:Q (some (decide (n<m))) g:=by
  have:kN x<kN y↔n<m:=by show numOf x.1<numOf y.1↔n<m;rw[b,a];rfl
  rw[decide_eq_decide.mpr this]at h;exact h
 rw[lt'_eq];refine fH (gr ?_);rw[e,keyLt'_oneType,b,a];exact fH (wpS_lift (iU (oneLt_int ⟨rfl,fJ f⟩)))
end
section
variable{prog:fK}{w:World}{A:Around}{E:Value->Shared->Prop}{s:Shared}{κ:KF}{k0:gj}
noncomputable def a46(h:Heap)(a:Addr)(vs:List Value):Heap:=((h.update a (Obj.mapSeq λ_=>#[])).push (seqObj "tuple" vs.toArray 0)).push (seqObj "list" #[] 0)
def b1C(ho:s.heap.get? a=some (seqObj "list" vs.toArray n))(hz:vs.length<=100000)
  (hK:2<=vs.length->∀Q:gj->Shared->Prop,Q k0 { s with heap:=a46 s.heap a vs }->wpAny (model prog w) A (keyKind' vs.toArray) Q E { s with heap:=a46 s.heap a vs })
  (hL:2<=vs.length->LtOk (model prog w) A E { s with heap:=a46 s.heap a vs } κ k0 (g8 vs))
  (h:∀ps:List Keyed,ps.Perm (g8 vs).toList->Srt κ ps->P (.done (.ret .none)) { s with heap:=sortedHeap s.heap a vs (ps.map (·.2)).toArray }):wpAny (model prog w) A (fO.«list.sort» ⟨[.ref a],[]⟩) P E s:=by
 have i:vs.length<=sizeLine:=by rw[fR];lia
 have o:vs.toArray.size<=sizeLine:=by simpa using i
 have t:=Heap.lt_size ho;rw[list_sort_plain];refine fF (jo ho rfl (fF (g9 ho rfl ?_ o (by simp))));obtain⟨u,m⟩:∃u,(s.heap.update a (Obj.mapSeq λ_=>#[])).get? a=some (seqObj "list" #[] u):=⟨_,get?_update_seq ho λ_=>#[]⟩;refine fF (iG m rfl (fF (iH ?_ (by simpa using i))));refine fF (ie (f7 ?_));have g:(((s.heap.update a (Obj.mapSeq λ_=>#[])).push (seqObj "tuple" vs.toArray 0)).push (seqObj "list" #[] 0)).get? a=some (seqObj "list" #[] u):=by
  rw[Heap.get?_push_ne,Heap.get?_push_ne]
  ·exact m
  ·rw[Heap.size_update];exact bj t
  ·rw[iI,Heap.size_update];exact bj (cX t)
 dsimp only;have f:=λy p q=>by
  have:=h (arrOf y).toList (cZ.mp p) q
  rw[<- Array.toList_map,e8]at this;exact this
 have b:∀y:SortSt,(arrOf y).Perm (g8 vs)->((arrOf y).map (·.2)).size<=fG+1:=λy p=>by
  rw[e9,p.size_eq,pairsOf_size];lia
 by_cases c:vs.toArray.size<2
 ·rw[if_pos c,if_pos c];refine fF (fI ?_);rw[StateT.run_pure];refine fF (fI ?_);dsimp only;have x:(arrOf (SortSt.mk' general' _ #[] 7 none)).Perm (g8 vs):=dh.refl _;refine fF (iG g rfl (fF (g9 g rfl ?_ (by simp) (b _ x))));simp only[bne_self_eq_false,bQ,if_false];refine fI (f _ x ?_)
  show Srt κ (g8 vs).toList
  rw[pairsOf_toList]
  have:vs.length<2:=by simpa using c
  match vs,this with
  |[],_=>exact .nil
  |[v],_=>exact d0 _ _
 ·rw[if_neg c,if_neg c];have r:2<=vs.length:=by simpa using c
  refine fF (hK r _ ?_);refine fF (fW (t_sortRuns
   (Q:=λ_ y=>(arrOf y).Perm (g8 vs)/\f8 y=none/\Srt κ (arrOf y).toList) (hL r) ⟨dh.refl _,rfl,rfl⟩ rfl λy d j=>⟨d.pm,d.fl,j⟩) ?_ λ_ _ e=>e)
  rintro⟨⟨⟩,y⟩ l ⟨rfl,d,j,q3⟩;dsimp only;refine fF (iG g rfl (fF (g9 g rfl ?_ (by simp) (b y d))));rw[j];simp only[bne_self_eq_false,bQ,if_false];exact fI (f y d q3)
def sort_any{a:Addr}{vs:List Value}{ns:List Int}{n:Nat}{P:Fin->Shared->Prop}(ho:s.heap.get? a=some (seqObj "list" vs.toArray n))(hI:f6 vs ns)(hz:vs.length<=1000)
  (h:∀(out:Array Value)(ms:List Int),f6 out.toList ms->ms.Perm ns->ms.Pairwise (·<=·)->P (.done (.ret .none)) { s with heap:=sortedHeap s.heap a vs out }):wpAny (model prog w) A (fO.«list.sort» ⟨[.ref a],[]⟩) P E s:=by
 refine b1C (κ:=kN) (k0:=iT) ho (by omega) (λh2 Q hq=>?_) (λ_=>lt_ints hI.intKeys) λps p q=>?_
 ·match vs,h2 with
  |v1::v2::vr,_=>rw[keyKind_ints hI];exact fI hq
 ·have p':ps.toArray.Perm (g8 vs):=cZ.mpr p;obtain⟨ms,m1,m2,m3⟩:=sorted_out hI p' (srt_to q p'.size_eq.symm)
  have:=h _ ms m1 m2 m3
  simpa using this
end
end Tim
namespace Tim
open PySem PyProof.Rows PySem.W
abbrev Pz:=Sum (Option Int) Str
def PtIs:Pz->Value->Prop
 |.inl none,v=>v=.none
 |.inl (some i),v=>∃t,v=.int i t
 |.inr s,v=>∃t,v=.str s t
def PtsAre:List Pz->List Value->Prop
 |[],[]=>True
 |x::xs,v::vs=>PtIs x v/\PtsAre xs vs
 |_,_=>False
noncomputable def lt1:Pz->Pz->Bool
 |.inl (some i),.inl (some j)=>decide (i<j)
 |.inr a,.inr b=>decide (a.cps.toList<b.cps.toList)
 |_,_=>false
noncomputable def cmp1:Pz->Pz->Bool
 |.inl (some _),.inl (some _)=>true
 |.inr _,.inr _=>true
 |_,_=>false
noncomputable def ltT:List Pz->List Pz->Bool
 |x::xs,y::ys=>if x=y then ltT xs ys else lt1 x y
 |_,_=>false
noncomputable def cmpT:List Pz->List Pz->Bool
 |x::xs,y::ys=>if x=y then cmpT xs ys else cmp1 x y
 |[],[]=>true
 |_,_=>false
def b1D:∀x:Pz,lt1 x x=false:=by
 intro x;rcases x with (_ |i) |a
 ·rfl
 ·exact decide_eq_false (Int.lt_irrefl _)
 ·exact decide_eq_false (fc _)
def a7O:∀{x y z:Pz},lt1 x y=true->lt1 y z=true->lt1 x z=true:=by
 intro x y z h k;rcases x with (_ |i) |a
 ·cases h
 ·rcases y with (_ |j) |b
  ·cases h
  ·rcases z with (_ |l) |c
   ·cases k
   ·exact decide_eq_true (Int.lt_trans (of_decide_eq_true h) (of_decide_eq_true k))
   ·cases k
  ·cases h
 ·rcases y with _ |b
  ·cases h
  ·rcases z with _ |c
   ·cases k
   ·exact decide_eq_true (List.lt_trans (of_decide_eq_true h) (of_decide_eq_true k))
def a7P:∀xs:List Pz,ltT xs xs=false:=by intro z0;induction z0 with
 |nil=>exact rfl
 |cons x xs I0=>unfold ltT;rw[if_pos rfl];exact I0
theorem a4s:∀{xs ys zs:List Pz},ltT xs ys=true->ltT ys zs=true->ltT xs zs=true
 |[],_,_,h1,_=>by simp[ltT]at h1
 |_::_,[],_,h1,_=>by simp[ltT]at h1
 |_::_,_::_,[],_,h2=>by simp[ltT]at h2
 |x::xs,y::ys,z::zs,h1,h2=>by
  unfold ltT at *
  by_cases c1:x=y
  ·subst c1;rw[if_pos rfl]at h1
   by_cases c2:x=z
   ·subst c2;rw[if_pos rfl]at h2 ⊢;exact a4s h1 h2
   ·rw[if_neg c2]at h2 ⊢;exact h2
  ·rw[if_neg c1]at h1
   by_cases c2:y=z
   ·simp_all
   ·rw[if_neg c2]at h2;have a:=a7O h1 h2;rw[if_neg (λe=>by rw[e,b1D]at a;cases a)];exact a
noncomputable def rk(rows:List (List Pz))(x:List Pz):Nat:=rows.countP λq=>ltT q x
def RowIn(h:Heap)(v:Value)(xs:List Pz):Prop:=∃a o its n,v=.ref a/\h.get? a=some o/\o.cls=.type "tuple"/\o.data=.seq its n/\PtsAre xs its.toList
def PtIs.uniq:∀{x y:Pz}{v:Value},PtIs x v->PtIs y v->x=y:=by
 intro x y v h k;rcases x with (_ |i) |a
 ·rw[show v=Value.none from h]at k;rcases y with (_ |j) |b
  ·rfl
  ·obtain⟨_,k⟩:=k;cases k
  ·obtain⟨_,k⟩:=k;cases k
 ·obtain⟨t,rfl⟩:=h;rcases y with (_ |j) |b
  ·cases k
  ·obtain⟨_,k⟩:=k;cases k;rfl
  ·obtain⟨_,k⟩:=k;cases k
 ·obtain⟨t,rfl⟩:=h;rcases y with (_ |j) |b
  ·cases k
  ·obtain⟨_,k⟩:=k;cases k
  ·obtain⟨_,k⟩:=k;cases k;rfl
theorem PtsAre.uniq:∀{xs ys:List Pz}{vs:List Value},PtsAre xs vs->PtsAre ys vs->xs=ys
 |[],[],[],_,_=>rfl
 |x::xs,y::ys,v::vs,⟨a,b⟩,⟨c,d⟩=>by rw[a.uniq c,PtsAre.uniq b d]
 |[],_::_,[],_,h=>h.elim
 |[],_,_::_,h,_=>h.elim
 |_::_,_,[],h,_=>h.elim
 |_::_,[],_::_,_,h=>h.elim
def RowIn.uniq(r:RowIn h v xs)(q:RowIn h v ys):xs=ys:=by
 obtain⟨a,o,k,n,rfl,j,_,g,d⟩:=r;obtain⟨p,m,f,l,e,b,_,c,i⟩:=q;cases e;rw[j]at b;cases b;rw[g]at c;cases c;exact d.uniq i
open Classical in
noncomputable def b1E(h:Heap)(v:Value):List Pz:=if e:∃xs,RowIn h v xs then e.choose else []
def a9s(r:RowIn h v xs):b1E h v=xs:=by
 unfold b1E;have e:∃xs,RowIn h v xs:=⟨xs,r⟩;rw[dif_pos e];exact e.choose_spec.uniq r
section
variable{prog:fK}{w:World}{A:Around}{E:Value->Shared->Prop}{s:Shared}{a₀:Array Keyed}{b:Bool}{Q:Bool->Shared->Prop}
def a47(h:Q true s):wpAny (model prog w) A (eqBool .none .none) Q E s:=fF (gJ (fI h))
def b4f:∀{x y:Pz}{p q:Value},PtIs x p->PtIs y q->(x=y\/cmp1 x y=true)->Q (decide (x=y)) s->wpAny (model prog w) A (eqBool p q) Q E s:=by
 intro x y p q a b k h;have k:cmp1 x y=true\/x=.inl none/\y=.inl none:=by
  rcases k with rfl |k
  ·rcases x with (_ |i) |u
   ·exact .inr ⟨rfl,rfl⟩
   ·exact .inl rfl
   ·exact .inl rfl
  ·exact .inl k
 rcases k with k |⟨rfl,rfl⟩
 ·rcases x with (_ |i) |u
  ·cases k
  ·rcases y with (_ |j) |v
   ·cases k
   ·obtain⟨t,rfl⟩:=a;obtain⟨t',rfl⟩:=b;refine wpAny_eqBool_int ?_
    have:(i==j)=decide ((Sum.inl (some i):Pz)=.inl (some j)):=by grind
    rw[this];exact h
   ·cases k
  ·rcases y with _ |v
   ·cases k
   ·obtain⟨t,rfl⟩:=a;obtain⟨t',rfl⟩:=b;exact wpAny_eqBool_str (by simp_all)
 ·rw[show p=Value.none from a,show q=Value.none from b];exact a47 (by simp_all)
theorem a48:∀{xs:List Pz}{vs:List Value},PtsAre xs vs->vs.length=xs.length
 |[],[],_=>rfl
 |_::_,_::_,⟨_,h⟩=>by rw[bp,bp,a48 h]
 |[],_::_,h=>h.elim
 |_::_,[],h=>h.elim
end
def RowsIn(h:Heap):List Value->List (List Pz)->Prop
 |[],[]=>True
 |v::vs,x::xs=>RowIn h v x/\RowsIn h vs xs
 |_,_=>False
theorem RowsIn.len:∀{vs:List Value}{rows:List (List Pz)},RowsIn h vs rows->vs.length=rows.length
 |[],[],_=>rfl
 |_::_,_::_,⟨_,r⟩=>by rw[bp,bp,RowsIn.len r]
 |[],_::_,r=>r.elim
 |_::_,[],r=>r.elim
theorem RowsIn.mem:∀{vs:List Value}{rows:List (List Pz)},RowsIn h vs rows->∀v∈vs,∃x∈rows,RowIn h v x
 |v::vs,x::xs,⟨r,q⟩,u,hu=>by
  rcases bf.mp hu with rfl |hu
  ·exact⟨x,.head _,r⟩
  ·obtain⟨y,b,a⟩:=q.mem u hu;exact⟨y,.tail _ b,a⟩
 |[],[],_,u,hu=>by simp at hu
 |[],_::_,r,_,_=>r.elim
 |_::_,[],r,_,_=>r.elim
theorem RowsIn.map:∀{vs:List Value}{rows:List (List Pz)},RowsIn h vs rows->vs.map (b1E h)=rows
 |[],[],_=>rfl
 |v::vs,x::xs,⟨r,q⟩=>by rw[aY,a9s r,q.map]
 |[],_::_,r=>r.elim
 |_::_,[],r=>r.elim
section
variable{prog:fK}{w:World}{A:Around}{E:Value->Shared->Prop}{s:Shared}
end
end Tim
namespace SetW
open PySem
def Up(xs:Array Nat):Prop:=xs.toList.Pairwise (·<·)
structure TOk (led:Bool) (t:gG):Prop where
 up:Up t.place
 dm:t.dummies=#[]
 ld:t.led=led
end SetW
namespace SetW
open PySem PyProof.Rows
noncomputable def byT(w:World):Bool:=w.params.followText "set-order"
inductive KsAre {prog:fK}{w:World}{K:Type}[DecidableEq K] (kd:KeyKind prog w K):List Value->List K->Prop
 |nil:KsAre kd [] []
 |cons {v:Value} {k:K} {vs:List Value} {ks:List K} (h:kd.is k v=true) (t:KsAre kd vs ks):KsAre kd (v::vs) (k::ks)
structure SO {prog:fK}{w:World}{K:Type}[DecidableEq K] (kd:KeyKind prog w K) (h:Heap) (a:Addr) (es:Array (Int×Value)) (ep:Nat) (t:gG) (ms:List K):Prop where
 at_:∃o,h.get? a=some o/\o.ExactSet/\o.data=.set es ep t
 el:ElemsOf kd es.toList
 nums:KsAre kd (es.toList.map (·.2)) ms
 sc:es.size<scanBound
 fit:t.fits es.size=true
 ok:TOk (!byT w) t
def SI{prog:fK}{w:World}{K:Type}[DecidableEq K](kd:KeyKind prog w K)(h:Heap)(a:Addr)(ms:List K):Prop:=∃es ep t,SO kd h a es ep t ms
section
variable{prog:fK}{w:World}{K:Type}[DecidableEq K]{kd:KeyKind prog w K}
def b4g(h:KsAre kd vs ns):vs.length=ns.length:=by
 induction h with
 |nil=>rfl
 |cons _ _ ih=>rw[bp,bp,ih]
def b4h(h:KsAre kd vs ns):(∃v∈vs,kd.is k v=true)↔k∈ns:=by
 induction h with
 |nil=>simp
 | @cons v n vs ns h1 _ ih=>
  rw[bf,<- ih]
  constructor
  ·rintro⟨u,a,b⟩;rcases bf.mp a with rfl |a
   ·exact .inl (kd.inj _ _ _ b h1)
   ·exact .inr ⟨u,a,b⟩
  ·rintro (rfl |⟨u,a,b⟩)
   ·exact⟨v,.head _,h1⟩
   ·exact⟨u,.tail _ a,b⟩
end
section
variable{prog:fK}{w:World}{A:Around}{E:Value->Shared->Prop}{s:Shared}{a:Addr}{es:Array (Int×Value)}{ep:Nat}{t:gG}{K:Type}[DecidableEq K]{kd:KeyKind prog w K}{ms:List K}{k:K}{v:Value}
def SO.mem(S:SO kd s.heap a es ep t ms):(∃e∈es.toList,kd.is k e.2=true)↔k∈ms:=by
 rw[<- b4h S.nums]
 constructor
 ·rintro⟨e,c,b⟩;exact⟨e.2,b8 c,b⟩
 ·rintro⟨u,d,b⟩;obtain⟨e,c,rfl⟩:=bu.mp d;exact⟨e,c,b⟩
def SO.stored{h:Heap}(ho:h.get? a=some o)(hx:o.ExactSet)(hd:o.data=.set es ep t)(hel:ElemsOf kd es'.toList)(hi:KsAre kd (es'.toList.map (·.2)) ms')(hs:es'.size<scanBound)(hf:t'.fits es'.size=true)(hk:TOk (!byT w) t') :
  (h.update a (Obj.putSet es' t')).get? a=some { o with data:=.set es' (ep+1) t' }/\SO kd (h.update a (Obj.putSet es' t')) a es' (ep+1) t' ms':=by
 have b:(h.update a (Obj.putSet es' t')).get? a=some { o with data:=.set es' (ep+1) t' }:=by
  have q:=Heap.get?_update_self (Obj.putSet es' t') ho (by rw[putSet_of es' t' hd];rfl);rw[putSet_of es' t' hd]at q;exact q
 exact⟨b,⟨⟨_,b,hx,rfl⟩,hel,hi,hs,hf,hk⟩⟩
def TOk.plain(h:TOk led t):TOk led ({ t with plain:=b }:gG):=⟨h.up,h.dm,h.ld⟩
end
def SI.at{K:Type}[DecidableEq K]{kd:KeyKind prog w K}{ms:List K}(S:SI kd h a ms)(k:∀o,h.get? a=some o->h'.get? a=some o):SI kd h' a ms:=by
 obtain⟨l,i,t,⟨o,g,x,d⟩,f,j,e,c,b⟩:=S;exact⟨l,i,t,⟨o,k o g,x,d⟩,f,j,e,c,b⟩
def Met{K:Type}(val:Nat->K)(i:Nat)(ms:List K):Prop:=ms.Nodup/\ms.length<=i/\∀x,x∈ms↔∃j,j<i/\val j=x
def Met.step{K:Type}[DecidableEq K]{val:Nat->K}{ms ms':List K}(h:Met val i ms)(p:ms'.Perm (if val i∈ms then ms else ms++[val i])):Met val (i+1) ms':=by
 obtain⟨d,k,b⟩:=h;have a:∀x,(∃j,j<i+1/\val j=x)↔(∃j,j<i/\val j=x)\/x=val i:=λx=>by grind
 by_cases c:val i∈ms
 ·rw[if_pos c]at p;refine⟨p.nodup_iff.mpr d,by rw[p.length_eq];lia,λx=>?_⟩;rw[p.mem_iff,a,b];exact⟨.inl,λz=>z.elim id λe=>(b x).mp (e▸c)⟩
 ·rw[if_neg c]at p;refine⟨p.nodup_iff.mpr ?_,by rw[p.length_eq];simp;exact k,λx=>?_⟩
  ·rw[cB];exact⟨d,by simp,λx g y f=>by rw[aX.mp f];rintro rfl;exact c g⟩
  ·rw[p.mem_iff,a,aU,b,aX]
section
variable{prog:fK}{w:World}{A:Around}{R:Result->Shared->Prop}{I:Addr}{fp wr:List Addr}{G:Array iV->Array iV->Prop}{n:Nat}{P:Nat->Value->Prop}{St:Nat->Shared->Prop}{K:Type}[DecidableEq K]{kd:KeyKind prog w K}
end
section
variable{prog:fK}{w:World}{A:Around}{E:Value->Shared->Prop}{s:Shared}{K:Type}[DecidableEq K]{kd:KeyKind prog w K}
abbrev a9t(w:World):Obj:={ cls:=.type "set",dict:=none,data:=.set #[] 0 (.fresh 0 0 (!byT w)) }
def SI.fresh(g:h.get? a=some (a9t w)):SI kd h a []:=
 ⟨#[],0,.fresh 0 0 _,⟨_,g,⟨rfl,rfl,rfl⟩,rfl⟩,λe b=>by simp at b,.nil,by decide,rfl,⟨.nil,rfl,rfl⟩⟩
end
def SetIt(h:Heap)(it a:Addr)(first:Value)(i n ep:Nat):Prop:=∃o,h.get? it=some o/\o.cls=.type "set_iterator"/\o.data=.fields #[first,.int i 0,.ref a,.int n 0,.int ep 0]
def SetIt.ty{s:Shared}(x:SetIt s.heap it a f i n ep):s.TypeIs (.ref it) "set_iterator":=let ⟨o,g,c,_⟩:=x;⟨o,g,c⟩
def SetIt.at(x:SetIt h it a f i n ep)(e:∀o,h.get? it=some o->h'.get? it=some o):SetIt h' it a f i n ep:=let ⟨o,g,r⟩:=x;⟨o,e _ g,r⟩
section
variable{prog:fK}{w:World}{A:Around}{E:Value->Shared->Prop}{s:Shared}{it a:Addr}{f:Value}{i n ep:Nat}{o:Obj}{es:Array (Int×Value)}{t:gG}
end
section
variable{prog:fK}{w:World}{A:Around}{E:Value->Shared->Prop}{s:Shared}{it a:Addr}{f:Value}{i n ep k:Nat}{o:Obj}{es:Array (Int×Value)}{t:gG}{K:Type}[DecidableEq K]{kd:KeyKind prog w K}{ms:List K}
end
def SO.at{K:Type}[DecidableEq K]{kd:KeyKind prog w K}{ms:List K}(S:SO kd h a es ep t ms)(k:∀o,h.get? a=some o->h'.get? a=some o):SO kd h' a es ep t ms:=by
 obtain⟨⟨o,g,x,d⟩,i,f,e,b,c⟩:=S;exact⟨⟨o,k o g,x,d⟩,i,f,e,b,c⟩
section
variable{prog:fK}{w:World}{A:Around}{E:Value->Shared->Prop}{s:Shared}{it a T:Addr}{f:Value}{i n ep k:Nat}{o:Obj}{es:Array (Int×Value)}{t:gG}{K:Type}[DecidableEq K]{kd:KeyKind prog w K}{ms:List K}{ps:List Nat}
end
section
variable{prog:fK}{w:World}{A:Around}{E:Value->Shared->Prop}{s:Shared}{it a T:Addr}{f:Value}{i n ep k:Nat}{o:Obj}{es:Array (Int×Value)}{t:gG}{K:Type}[DecidableEq K]{kd:KeyKind prog w K}{ms:List K}{ps:List Nat}
def PlacesAt(h:Heap)(T:Addr)(ps:List Nat):Prop:=∃o c,h.get? T=some o/\o.data=.seq (ps.map λ(i:Nat)=>rawInt i).toArray c
def PlacesAt.at(x:PlacesAt h T ps)(k:∀o,h.get? T=some o->h'.get? T=some o):PlacesAt h' T ps:=by obtain⟨o,c,g,d⟩:=x;exact⟨o,c,k _ g,d⟩
end
section
variable{prog:fK}{w:World}{A:Around}{E:Value->Shared->Prop}{s:Shared}{it a T:Addr}{f:Value}{i n ep k:Nat}{o:Obj}{es:Array (Int×Value)}{t:gG}{K:Type}[DecidableEq K]{kd:KeyKind prog w K}{ms:List K}{ps:List Nat}
def SO.ty(S:SO kd s.heap a es ep t ms):s.TypeIs (.ref a) "set":=by obtain⟨o,g,x,_⟩:=S.at_;exact⟨o,g,x.1⟩
def SO.len(S:SO kd s.heap a es ep t ms):es.size=ms.length:=by
 have q:=b4g S.nums;simpa using q
end
section
variable{prog:fK}{w:World}{A:Around}{E:Value->Shared->Prop}{s:Shared}{a:Addr}{K:Type}[DecidableEq K]{kd:KeyKind prog w K}{ms:List K}
end
end SetW
namespace L2
open PySem PySem.Spec PyProof.Rows
def a5v:∀{vs:List Value}{ns:List Int},f6 vs ns->vs.length=ns.length:=by intro z0 y0 x0;induction x0 with
 |nil=>exact rfl
 |cons n t h I0=>rw[bp,bp,I0]
def a7Q:∀{vs:List Value}{ns:List Int},f6 vs ns->Vals (ns.map V.int) vs:=by intro z0 y0 x0;induction x0 with
 |nil=>exact .nil
 |cons n t h I0=>exact .cons ⟨t,rfl⟩ (I0)
theorem a7R:∀{vs:List Value}{ns:List Int},vs.length=ns.length->(∀(i:Nat) v,vs[i]?=some v->∃n t,ns[i]?=some n/\v=.int n t)->f6 vs ns
 |[],[],_,_=>.nil
 |[],_::_,h,_=>by simp at h
 |_::_,[],h,_=>by simp at h
 |v::vs,n::ns,h,q=>by
  obtain⟨m,t,a,b⟩:=q 0 v rfl;simp at a;subst a b;exact .cons _ t (a7R (by simpa using h) λi v e=>by simpa using q (i+1) v (by simpa using e))
section
variable{P:fK}{w:World}{A:Around}{E:Value->Shared->Prop}{s:Shared}
def a7S(hmx:ns.length<=1000)
  (hcol:∀R:List Value->Shared->Prop,(∀(g:Heap)(tk:Nat)(d:Drawn)(vs:List Value)(ks:List Int),(∀b o,s.heap.get? b=some o->g.get? b=some o)->f6 vs ks->ks.Perm ns->R vs { s with heap:=g,drawn:=d,toks:=tk })->wpAny (model P w) A.in1 (collect (.ref r)) R E s)
  (h:∀(g g':Heap)(tk:Nat)(d:Drawn)(out:List Value)(n:Nat)(ms:List Int),(∀b o,s.heap.get? b=some o->g.get? b=some o)->(∀b o,g.get? b=some o->g'.get? b=some o)->g'.get? g.objs.size=some { cls:=.type "list",data:=.seq out.toArray n } ->
   f6 out ms->ms.Perm ns->ms.Pairwise (·<=·)->Q (.ref g.objs.size) { s with heap:=g',drawn:=d,toks:=tk }):wpAny (model P w) A (call (.builtin "sorted") [.ref r]) Q E s:=by
 refine Calls.call_function_entry jp jq jr (args_sorted1 _) (fF (fI (fF (hcol _ λg t d f ks p l k=>?_))));have hl:=(a5v l).trans k.length_eq;have v:f.length<=sizeLine:=by rw[fR];lia
 refine fF (ie ?_ v);have j:(g.push _).get? g.objs.size=some (seqObj "list" f.toArray 0):=Heap.get?_push_size _ rfl;refine fF (f7 (gA js ⟨_,j,rfl⟩ jt (Tim.sort_any j l (by lia) λout u y x q=>⟨_,rfl,?_⟩) (args_list_sort _)));have c:=sortedHeap_at (out:=out) j;obtain⟨n,c⟩:=c;refine fI ⟨_,rfl,h g _ t d out.toList n u p (λb o e=>?_) (by omega) y (x.trans k) q⟩;have i:=Heap.lt_size e;rw[sortedHeap_old (bj i) (by rw[Heap.size_push];exact cX i)];exact Heap.get?_push_of_some _ e
end
section
variable{X:Cx}
def Inv.drew(I:Inv X pins σ H s)(d:Drawn):Inv X pins σ H { s with drawn:=d }:=
 I.step (ch:=[]) (λb a=>nomatch a) (λb o _ _ _ e _=>e) (λb o _ _ _ e _=>⟨o.slots,e⟩) (λ_ _ _ _ n=>n) (λb o _ e=>⟨o,e⟩) (λ_ _ e=>e) (λ_ _ _ e=>e) (λb f e=>⟨#[],by rw[e];simp⟩) (λm c=>c) I.hok I.bare
def b1F(K:Fg):List V->Hp->VK->Prop:=λxs H Q=>∃(p:Addr)(ns:List Int),xs=[.ref p]/\(SqL K H p (ns.map V.int)\/∃kvs:List (Key×V),H p=some (.dK kvs)/\kvs.map (·.1)=ns.map λi=>(Sum.inl (some i):Key))/\ns.length<=1000 /\
 ∀(t:Addr)(ms:List Int),H t=none->ms.Perm ns->ms.Pairwise (·<=·)->Q (.ref t) (upd H t (.lst (ms.map V.int)))
def a49(hc:X.calm=true):CallR X (.builtin "sorted") (b1F X.K):=by
 intro F s σ H xs us Q I r h;obtain⟨p,ns,rfl,C,G,q⟩:=h;obtain⟨u,rfl,rx⟩:=a20 r;cases rx;have hh:=I.ok.hd hc;refine a7S G (λR T=>?_) λg g' l d ab n L k1 k2 e a1 S a3=>?_
 ·rcases C with C |⟨kvs,hd,hk⟩
  ·obtain⟨M,rv,pl,_⟩:=I.list C;have U:=a6f rv;refine collect_list pl.isList ?_ (by rw[a5v U,fR];omega);refine T _ s.toks s.drawn M _ (λb o e=>?_) U (bP.refl _);have ac:=Heap.lt_size e;rw[Heap.get?_update_ne _ _ _ _ (bj ac)];exact Heap.get?_push_of_some _ e
  ·obtain⟨z,lo,E,B,dd⟩:=a6h I.hok hd;obtain⟨ep,ad⟩:=dd.dictAt;have Y:E.length=ns.length:=by rw[<- B.length,<- aT,hk,aT]
   refine PySem.W.kdu_collect (PySem.W.kdl_dict lo) hh ad (by rw[Y,fR];omega) λg l aa kp c=>?_;refine T g l s.drawn aa.toList ns kp (a7R (by rw[cb,c.1,Y]) λi v e=>?_) (bP.refl _);obtain⟨k,x,e1,e2⟩:=c.2 i v (by simp_all);have y:E.map (·.1)=ns.map λi=>(Sum.inl (some i):Key):=by rw[<- B.keys];exact hk
   have j:(ns.map λi=>(Sum.inl (some i):Key))[i]?=some k:=by rw[<- y,aW,e1];rfl
   rw[aW]at j;cases hn:ns[i]? with
   |none=>rw[hn]at j;cases j
   |some n=>
    rw[hn]at j;cases j;have D:Value.isInt n v=true:=e2;cases v with
    |int m t=>exact⟨n,t,rfl,by simp[Value.isInt]at D;rw[D]⟩
    |_=>simp[Value.isInt]at D
 ·have J:Inv X F σ H { s with heap:=g,drawn:=d,toks:=l }:=(I.drew d).kept k1;exact⟨.ref g.objs.size,_,J.laid k2 (aV _) (show ObjOk X.prog X.w _ g' _ (.lst (L.map V.int)) from ⟨by rw[aT,S.length_eq,fR];omega,ab,n,a7Q a1,e⟩),rfl,q _ L (J.hok.fresh (aV _)) S a3⟩
end
structure Zs where
 it:Addr
 tp:Bool
 l:Addr
def Zs.At(z:Zs)(k:Nat)(h:Heap):Prop:=if z.tp=true then h.IsTupleIter z.it z.l k else h.IsListIter z.it z.l k
def Zs.Has(z:Zs)(h:Heap)(xs:Array Value):Prop:=if z.tp=true then h.IsTuple z.l xs else h.IsList z.l xs
def Zs.At.keep{z:Zs}(a:z.At k h)(q:∀o,h.get? z.it=some o->h'.get? z.it=some o):z.At k h':=by
 unfold Zs.At at a ⊢
 split
 ·next e=>rw[if_pos e]at a;exact a.at q
 ·next e=>rw[if_neg e]at a;exact a.at q
def Zs.Has.keep{z:Zs}(a:z.Has h xs)(q:∀o,h.get? z.l=some o->h'.get? z.l=some o):z.Has h' xs:=by
 unfold Zs.Has at a ⊢
 split
 ·next e=>rw[if_pos e]at a;exact let ⟨o,ho,r⟩:=a;⟨o,q o ho,r⟩
 ·next e=>rw[if_neg e]at a;exact let ⟨o,ho,r⟩:=a;⟨o,q o ho,r⟩
def Zs.At.obj{z:Zs}(a:z.At k h):∃o,h.get? z.it=some o/\∀v,o.data≠.cell v:=by
 unfold Zs.At at a
 split at a<;>(obtain⟨o,e,_,d⟩:=a;exact⟨o,e,λv q=>by rw[d]at q;cases q⟩)
section
variable{P:fK}{w:World}{A:Around}{E:Value->Shared->Prop}{s:Shared}
def b4i(ti:s.heap.IsTupleIter it t i)(th:s.heap.IsTuple t xs)(hx:xs[i]?=some x)
  (q:∀g,g.IsTupleIter it t (i+1)->Heap.SameBut it s.heap g->Q x { s with heap:=g }):wpAny (model P w) A (fO.SmallTypes.nextOf (.ref it)) Q E s:=by
 obtain⟨o,b,c,a⟩:=id ti;obtain⟨u,e,_,n,d⟩:=th;refine fF (wpAny_callSpecial?_slot ti.typeIs PySem.F.slot_tuple_iterator_next
  (gA PySem.F.slot_tuple_iterator_next ti.typeIs PySem.F.entry_tuple_iterator_next ?_ (PySem.F.args_tuple_iterator_next_1 _)))
 show wpAny _ _ (field _ 0 >>= _) _ _ s
 refine fF (gh b a rfl ?_);refine fF (gh b a rfl ?_);refine fF (gL e d ?_);simp only[fe,hx];refine fF (wpAny_setField b a (by simp) (fI ⟨x,rfl,fI (q _ ?_ (Heap.SameBut.update ..))⟩));exact⟨_,Heap.get?_update_self _ b (Obj.isFreed_of_fields (Obj.data_mapFields a _)),(Obj.cls_mapFields ..).trans c,by rw[Obj.data_mapFields a];simp[rawInt]⟩
def a7T(hh:A.handled=none)(ti:s.heap.IsTupleIter it t i)(th:s.heap.IsTuple t xs)(hx:xs[i]?=none)
  (q:∀g e,Heap.ExtBut it s.heap g->(∃o,g.get? e=some o/\o.cls=.type "StopIteration")->E (.ref e) { s with heap:=g }):wpAny (model P w) A (fO.SmallTypes.nextOf (.ref it)) Q E s:=by
 obtain⟨o,b,h,c⟩:=id ti;obtain⟨u,f,_,n,d⟩:=th;refine fF (wpAny_callSpecial?_slot ti.typeIs PySem.F.slot_tuple_iterator_next
  (gA PySem.F.slot_tuple_iterator_next ti.typeIs PySem.F.entry_tuple_iterator_next ?_ (PySem.F.args_tuple_iterator_next_1 _)))
 show wpAny _ _ (field _ 0 >>= _) _ _ s
 refine fF (gh b c rfl ?_);refine fF (gh b c rfl ?_);refine fF (gL f d ?_);simp only[fe,hx];refine fF (gJ (fF (wpAny_setField b c (by simp) ?_)));refine fF ?_;refine fF (iz ?_ (by size_fits));refine fF (ju (by first |rfl | (simp;rfl)) ?_)
 refine iz ?_ (by size_fits);refine fF (wpAny_handled ?_)
 first |rw[hh] |rw[hh]
 refine fF (fI (wpAny_throw ?_));exact q _ _ (((Heap.SameBut.update ..).extBut.push _).push _) ⟨_,Heap.get?_push_size _ rfl,rfl⟩
def b1G{z:Zs}(a:z.At i s.heap)(b:z.Has s.heap xs)(hx:xs[i]?=some x)
  (q:∀g,z.At (i+1) g->Heap.SameBut z.it s.heap g->Q x { s with heap:=g }):wpAny (model P w) A (fO.SmallTypes.nextOf (.ref z.it)) Q E s:=by
 obtain⟨d,c,l⟩:=z;cases c with
 |true=>exact b4i a b hx q
 |false=>exact wpAny_nextOf_list_item a b hx q
def b4j{z:Zs}(hh:A.handled=none)(a:z.At i s.heap)(b:z.Has s.heap xs)(hx:xs[i]?=none)
  (q:∀g e,Heap.ExtBut z.it s.heap g->(∃o,g.get? e=some o/\o.cls=.type "StopIteration")->E (.ref e) { s with heap:=g }):wpAny (model P w) A (fO.SmallTypes.nextOf (.ref z.it)) Q E s:=by
 obtain⟨d,c,l⟩:=z;cases c with
 |true=>exact a7T hh a b hx q
 |false=>exact wpAny_nextOf_list_end hh a b hx q
end
abbrev IsTu(h:Heap)(T:Addr)(xs:Array Value):Prop:=h.get? T=some { cls:=.type "tuple",data:=.seq xs }
structure ZAp (z TI TO:Addr) (zs:List Zs):Prop where
 nd:(zs.map (·.it)).Nodup
 a1:TI≠z
 a2:TO≠z
 a3:TI≠TO
 its:∀y∈zs,y.it≠z/\y.it≠TI/\y.it≠TO
 ls:∀y∈zs,y.l≠z/\y.l≠TO/\∀x∈zs,y.l≠x.it
section
variable{P:fK}{w:World}{A:Around}{E:Value->Shared->Prop}{s:Shared}
def b0r{z TI TO:Addr}{olds:List Value}{arr:Zs->Array Value}{Q:Value->Shared->Prop}(hh:A.handled=none)(D:ZAp z TI TO zs)(hne:zs≠[])(hsm:zs.length<=1000)
  (hz:IsZip s.heap z TI TO .none) (hI:IsTu s.heap TI (zs.map λy=>Value.ref y.it).toArray) (hO:IsTu s.heap TO olds.toArray) (hol:olds.length=zs.length)
  (hat:∀y∈zs,y.At k s.heap) (hhas:∀y∈zs,y.Has s.heap (arr y))
  (hQ:∀(g:Heap)(T:Addr)(vs:List Value),vs.length=zs.length->(∀(i:Nat) y,zs[i]?=some y->∃v,vs[i]?=some v/\(arr y)[k]?=some v)->T=s.heap.objs.size->IsZip g z TI TO (rawInt T)->IsTu g TI (zs.map λy=>Value.ref y.it).toArray->IsTu g TO vs.toArray->IsTu g T vs.toArray ->
   (∀y∈zs,y.At (k+1) g)->(∀c o,c≠z->c≠TO->(∀y∈zs,c≠y.it)->s.heap.get? c=some o->g.get? c=some o)->Q (.ref T) { s with heap:=g })
  (hE:(∃y∈zs,(arr y)[k]?=none)->∀g e,(∀c o,c≠z->c≠TO->(∀y∈zs,c≠y.it)->s.heap.get? c=some o->g.get? c=some o)->(∃o,g.get? e=some o/\o.cls=.type "StopIteration")->E (.ref e) { s with heap:=g }) :
  wpAny (model P w) A (fO.«zip.__next__» ⟨[.ref z],[]⟩) (λfin s'=>∃v,fin=.done (.ret v)/\Q v s') E s:=by
 show wpAny (model P w) _ (field (.ref z) 2 >>= _) _ _ _
 refine fF (gh hz rfl (x:=.bool false) rfl ?_)
 show wpAny (model P w) _ (field (.ref z) 3 >>= _) _ _ _
 refine fF (gh hz rfl (x:=.ref TI) rfl (fF (gL hI rfl ?_)));have he:(zs.map λy=>Value.ref y.it).toArray.isEmpty=false:=by
  cases zs with
  |nil=>exact absurd rfl hne
  |cons _ _=>rfl
 dsimp only;rw[he]
 show wpAny (model P w) _ (fO.SmallTypes.ownedTupleIsFree (.ref z) >>= _) _ _ _
 refine fF ?_;unfold fO.SmallTypes.ownedTupleIsFree;refine fF (gh hz rfl (x:=.none) rfl (fI ?_));simp only[if_true];refine fF (gJ (fF (gh hz rfl (x:=.ref TO) rfl (fF (iW hz (by simp) λg1 z1 N=>?_)))))
 replace z1:IsZip g1 z TI TO .ellipsis:=z1
 refine fF ?_;refine iX _ (λL b s'=>b.1=none/\∃(j n:List Zs)(d h:List Value)(g:Heap),zs=j++n/\L=(n.map λy=>Value.ref y.it).zipIdx j.length/\d.length=j.length/\h.length=n.length/\s'={ s with heap:=g } /\
  (∀(i:Nat) y,j[i]?=some y->∃v,d[i]?=some v/\(arr y)[k]?=some v)/\IsZip g z TI TO .ellipsis/\IsTu g TO (d++h).toArray/\(∀y∈j,y.At (k+1) g)/\(∀y∈n,y.At k g)/\g.objs.size=s.heap.objs.size /\
  (∀c o,c≠z->c≠TO->(∀y∈zs,c≠y.it)->s.heap.get? c=some o->g.get? c=some o)) _ ?_ ?_ _ _ ?_
 ·rintro x L b s' ⟨hb,j,n,d,h,g,r,R,I,U,rfl,ev,S,X,ad,F,sg,J⟩;cases n with
  |nil=>simp at R
  |cons y n=>
   cases h with
   |nil=>simp at U
   |cons o h=>
   rw[aY,eU]at R;cases R;have a:y∈zs:=by rw[r];simp
   have hyl:=λo q=>J _ o (D.ls y a).1 (D.ls y a).2.1 (D.ls y a).2.2 q;dsimp only;refine fF (wpAny_onRaise ?_)
   show wpAny (model P w) _ (fO.SmallTypes.nextOf (.ref y.it) >>= _) _ _ _
   cases hx:(arr y)[k]? with
   |none=>
    refine fF (b4j (z:=y) hh (F y (.head _)) ((hhas y a).keep hyl) hx λH e x2 he=>?_);obtain⟨oe,V,he2⟩:=he;have Y:IsZip H z TI TO .ellipsis:=x2 _ _ (D.its y a).1.symm S;have hez:e≠z:=λq=>by subst q;rw[Y]at V;cases V;simp at he2
    exact iW Y (by simp) λg3 _ p=>hE ⟨y,a,hx⟩ g3 e (λc u m G t q=>p.extBut _ _ m (x2 _ _ (t y a) (J c u m G t q))) ⟨oe,p.extBut _ _ hez V,he2⟩
   |some v=>
    refine fF (b1G (z:=y) (F y (.head _)) ((hhas y a).keep hyl) hx λH a2 C=>fI ?_);have o2:IsTu H TO (d++o::h).toArray:=C.extBut _ _ (D.its y a).2.2.symm X;refine fF (gL o2 rfl ?_);have W:(d++o::h).length=zs.length:=by rw[r];simp[I];simpa using U
    refine fF (iY o2 rfl ?_ (by rw[bG,W,fR];lia) (by rw[Array.size_setIfInBounds,bG,W,fR];lia));refine fF (ig (fI ?_));have nd:(j.map (·.it)++y.it::n.map (·.it)).Nodup:=by have:=D.nd;rw[r]at this;simpa using this
    have p:Heap.SameBut TO H (H.update TO (Obj.mapSeq (·.setIfInBounds j.length v))):=Heap.SameBut.update ..;have o3:IsTu (H.update TO (Obj.mapSeq (·.setIfInBounds j.length v))) TO ((d++[v])++h).toArray:=by
     show Heap.get? _ _=_
     rw[Heap.get?_update_self _ o2 rfl]
     have:(d++o::h).set d.length v=(d++[v])++h:=by simp
     simp[Obj.mapSeq,<- I]
    refine⟨rfl,j++[y],n,d++[v],h,_,by rw[r];simp,by simp,by simp[I],by simpa using U,rfl,?_,p.extBut _ _ D.a2.symm (C.extBut _ _ (D.its y a).1.symm S),o3,?_,?_,by rw[p.1,C.1,sg],?_⟩
    ·intro i x B
     by_cases hlt:i<j.length
     ·rw[cW hlt]at B;obtain⟨v',q1,q2⟩:=ev i x B;exact⟨v',by rw[cW (by lia)];exact q1,q2⟩
     ·rw[cV (by lia)]at B;have h0:i-j.length=0:=by
       have:=(aZ.mp B).1
       simp at this;lia
      rw[h0]at B;simp at B;subst B;exact⟨v,by rw[cV (by lia),show i-d.length=0 by lia];rfl,hx⟩
    ·intro x f;rcases aU.mp f with f |f
     ·have M:x∈zs:=by rw[r];simp[f]
      refine (ad x f).keep λu q=>p.extBut _ _ (D.its x M).2.2 (C.extBut _ _ (λz=>?_) q);rw[cB]at nd;exact nd.2.2 x.it (b8 f) y.it (by simp) z
     ·rw[aX.mp f];exact a2.keep λu q=>p.extBut _ _ (D.its y a).2.2 q
    ·intro x f;have M:x∈zs:=by rw[r];simp[f]
     refine (F x (.tail _ f)).keep λu q=>p.extBut _ _ (D.its x M).2.2 (C.extBut _ _ (λz=>?_) q);rw[cB]at nd;exact (bX.mp nd.2.1).1 (z▸b8 f)
    ·intro c u m G t q;exact p.extBut _ _ G (C.extBut _ _ (t y a) (J c u m G t q))
 ·rintro b s' ⟨hb,j,n,d,h,g,r,R,I,U,rfl,ev,S,X,ad,F,sg,J⟩;have htd:n=[]:=by
   cases n with
   |nil=>rfl
   |cons _ _=>simp at R
  subst htd;have hos:h=[]:=by simpa using U
  subst hos;rw[bN]at r X;subst r;obtain⟨N,C⟩:=b;subst hb;dsimp only;refine fF (gL X rfl (fF (iH ?_ (by show d.toArray.toList.length<=fG;simp only[I,fR];lia))))
  show wpAny (model P w) _ (fO.SmallTypes.ownedTupleHandOut (.ref z) (.ref g.objs.size) >>= _) _ _ _
  refine fF ?_;unfold fO.SmallTypes.ownedTupleHandOut;have hzl:=Heap.lt_size S;have Y:IsZip (g.push { cls:=.type "tuple",data:=.seq d.toArray.toList.toArray }) z TI TO .ellipsis:=Heap.get?_push_of_some _ S;refine fF (iW Y (by simp) λg3 z3 p=>?_)
  replace z3:IsZip g3 z TI TO (rawInt g.objs.size):=z3
  refine iW z3 (by simp) λg4 z4 b4=>?_
  replace z4:IsZip g4 z TI TO (rawInt g.objs.size):=z4
  have up:∀c o,c≠z->g.get? c=some o->g4.get? c=some o:=λc o m q=>b4.extBut _ _ m (p.extBut _ _ m (Heap.get?_push_of_some _ q));have t4:IsTu g4 g.objs.size d.toArray:=b4.extBut _ _ (cn hzl) (p.extBut _ _ (cn hzl) (by simpa using Heap.get?_push_size _ rfl));refine fI ⟨_,rfl,?_⟩;refine hQ g4 g.objs.size d I ev sg z4 (up _ _ D.a1 (J _ _ D.a1 D.a3 (λy a=>(D.its y a).2.1.symm) hI)) (up _ _ D.a2 X) t4 (λy a=>(ad y a).keep λo q=>up _ o (D.its y a).1 q) λc o m G t q=>up c o m (J c o m G t q)
 ·refine⟨rfl,[],zs,[],olds,g1,rfl,by simp,rfl,hol,rfl,λi y q=>by simp at q,z1,by simpa using N.extBut _ _ D.a2 hO,λy q=>by simp at q,λy a=>(hat y a).keep λo q=>N.extBut _ _ (D.its y a).1 q,N.1,λc o m _ _ q=>N.extBut _ _ m q⟩
end
section
variable{X:Cx}{pins:List (Addr×Obj)}{σ:St}{H:Hp}{s:Shared}{h':Heap}
def Inv.turnedN{ch:List Addr}(I:Inv X pins σ H s)(hf:∀b∈ch,FpOk X pins H b)(k:∀b o,b∉ch->s.heap.get? b=some o->h'.get? b=some o):Inv X pins σ H { s with heap:=h',toks:=t' }:=by
 have d:∀b u,H b=some u->b∉ch:=λb u e z=>by rw[(hf b z).1]at e;cases e
 refine I.step (λb i=>?_) (λb o _ _ a e _=>k b o a e) (λb o _ _ a e _=>⟨o.slots,k b o a e⟩) (λ_ _ _ _ n=>n)
  (λb o a e=>⟨o,k b o a e⟩) (λ_ _ e=>e) (λ_ _ _ e=>e) (λb x e=>⟨#[],by rw[e];simp⟩) (λm j=>?_) (λb u e=>?_) I.bare
 ·obtain⟨_,t,_,g,w,l⟩:=hf b i;exact⟨g,t,w,l⟩
 ·obtain⟨o,h,f,p,r⟩:=j;exact⟨o,h,f,k _ o (λz=>(hf _ z).2.1 rfl) p,r⟩
 ·refine (I.hok b u e).stay (λc v a q=>k c v ?_ q) (λ_ q=>q) λ_ _ q=>q;rcases a with z |z
  ·simp_all
  ·simp_all
def Inv.turnedT{ch:List Addr}(I:Inv X pins σ H s)(hf:∀b∈ch,FpOk X pins H b)(k:∀b o,b∉ch->s.heap.get? b=some o->h'.get? b=some o)
  (hT:s.heap.objs.size<=T) (r:Vals vs us) (hz:vs.length<=fG) (ht:IsTup h' T us.toArray):Inv X pins σ (upd H T (.tup vs)) { s with heap:=h',toks:=t' }:=by
 have g:∀b u,H b=some u->b∉ch:=λb u e z=>by rw[(hf b z).1]at e;cases e
 have d:=I.hok.fresh hT;have y:∀b o,s.heap.get? b=some o->b≠T:=λb o e=>bj (bx (Heap.lt_size e) hT);refine I.step (λb f=>?_) (λb o _ _ a e _=>k b o a e) (λb o _ _ a e _=>⟨o.slots,k b o a e⟩) (λb o _ e n=>by rw[a0e (y b o e)];exact n)
  (λb o a e=>⟨o,k b o a e⟩) (λb l e=>by rw[a0e (a0p e d)];exact e) (λb _ _ e=>by rw[a0e (a0p e d)];exact e) (λb B e=>⟨#[],by rw[a0e (a0p e d),e];simp⟩) (λm x=>?_) (λb u e=>?_) I.bare
 ·obtain⟨_,j,_,p,A,t⟩:=hf b f;exact⟨p,j,A,t⟩
 ·obtain⟨o,i,w,h,r⟩:=x;exact⟨o,i,w,k _ o (λz=>(hf _ z).2.1 rfl) h,r⟩
 ·by_cases f:b=T
  ·subst f;rw[a0d]at e;cases e;exact⟨hz,us,r,ht⟩
  ·rw[a0e f]at e;refine (I.hok b u e).stay (λc v a q=>k c v ?_ q) (λc q=>by rw[a0e (a0p q d)];exact q) λc l q=>by rw[a0e (a0p q d)];exact q
   rcases a with z |z
   ·simp_all
   ·simp_all
end
def SrcV(K:Fg)(H:Hp)(y:Zs)(xs:List V):Prop:=if y.tp=true then SqT K H y.l xs else SqL K H y.l xs
noncomputable def SrcV.has(I:Inv X pins σ H s)(h:SrcV X.K H y xs):∃its:List Value,Vals xs its/\y.Has s.heap its.toArray:=by
 unfold SrcV at h;unfold Zs.Has
 split at h
 ·next e=>obtain⟨a,r,p,_⟩:=I.tuple h;exact⟨a,r,by rw[if_pos e];exact p⟩
 ·next e=>obtain⟨a,r,p,_⟩:=I.list h;exact⟨a,r,by rw[if_neg e];exact p.isList⟩
def SrcV.inj(I:Inv X pins σ H s)(h:SrcV X.K H y xs)(h':SrcV X.K H y xs'):xs=xs':=by
 unfold SrcV at h h'
 split at h
 ·next e=>rw[if_pos e]at h';exact I.tuple_inj h h'
 ·next e=>rw[if_neg e]at h';exact I.list_inj h h'
noncomputable def Itz(K:Fg)(zs:List Zs):It:=
  ⟨λi H=>∀y∈zs,∃xs x,SrcV K H y xs/\xs[i]?=some x,
   λi H x H'=>∃T vs,H T=none/\x=.ref T/\H'=upd H T (.tup vs)/\vs.length=zs.length/\∀(j:Nat) y xs,zs[j]?=some y->SrcV K H y xs->∃v,vs[j]?=some v/\xs[i]?=some v,
   λi H=>(∀y∈zs,∃xs,SrcV K H y xs)/\∃y∈zs,∃xs,SrcV K H y xs/\xs.length<=i⟩
def TnZ(z TI TO:Addr)(zs:List Zs)(i:Nat)(h:Heap):Prop:=IsZip h z TI TO .none/\IsTu h TI (zs.map λy=>Value.ref y.it).toArray/\(∃olds:List Value,olds.length=zs.length/\IsTu h TO olds.toArray)/\∀y∈zs,y.At i h
theorem Vals.of_get:∀{vs:List V}{us:List Value},vs.length=us.length->(∀(i:Nat) v u,vs[i]?=some v->us[i]?=some u->RelV v u)->Vals vs us
 |[],[],_,_=>.nil
 |[],_::_,h,_=>by simp at h
 |_::_,[],h,_=>by simp at h
 |v::vs,u::us,h,q=>.cons (q 0 v u rfl rfl) (Vals.of_get (by simpa using h) λi v u a b=>q (i+1) v u (by simpa using a) (by simpa using b))
theorem a9u{P:fK}{w:World}{K:Fg}{elts:List Expr}{x1}{pos:Pos}{z TI TO:Addr}{zs:List Zs}(D:∀(X:Cx) pins σ H s,X.K=K->Inv X pins σ H s->(∀b∈z::TI::TO::zs.map (·.it),H b=none)->(∀y∈zs,∃xs,SrcV K H y xs)->ZAp z TI TO zs)(hne:zs≠[])(hsm:zs.length<=1000) :
  Turn P w K (.Tuple elts x1 pos) (Itz K zs) (z::TI::TO::zs.map (·.it)) z (TnZ z TI TO zs) where
 mem:=by simp
 obj:=λi h ⟨t1,t2,⟨olds,_,t3⟩,t4⟩ b hb=>by
  rcases bf.mp hb with rfl |hb
  ·exact⟨_,t1,λv q=>by have q':Data.fields _=Data.cell v:=q;cases q'⟩
  rcases bf.mp hb with rfl |hb
  ·exact⟨_,t2,λv q=>by have q':Data.seq _ _=Data.cell v:=q;cases q'⟩
  rcases bf.mp hb with rfl |hb
  ·exact⟨_,t3,λv q=>by have q':Data.seq _ _=Data.cell v:=q;cases q'⟩
  obtain⟨y,hy,rfl⟩:=bu.mp hb;exact (t4 y hy).obj
 keep:=λi h h' ⟨t1,t2,⟨olds,t0,t3⟩,t4⟩ k=>⟨k z (by simp) _ t1,k TI (by simp) _ t2,⟨olds,t0,k TO (by simp) _ t3⟩,λy hy=>(t4 y hy).keep λo q=>k y.it (by simp;exact .inr (.inr (.inr ⟨y,hy,rfl⟩))) o q⟩
 item:=by
  intro X hP hw hK hc i pins s σ H E I hf st hg;subst hP hw hK;obtain⟨t1,t2,⟨olds,t0,t3⟩,t4⟩:=st;have Da:=D X pins σ H s rfl I (λb hb=>(hf b hb).1) λy hy=>let ⟨xs,_,q,_⟩:=hg y hy;⟨xs,q⟩
  have ex:∀y:Zs,∃its:List Value,y∈zs->∃xs,SrcV X.K H y xs/\Vals xs its/\y.Has s.heap its.toArray/\∃x,xs[i]?=some x:=λy=>by
   by_cases hy:y∈zs
   ·obtain⟨xs,x,q1,q2⟩:=hg y hy;obtain⟨its,r,p⟩:=q1.has I;exact⟨its,λ_=>⟨xs,q1,r,p,x,q2⟩⟩
   ·exact⟨[],λq=>absurd q hy⟩
  obtain⟨arr,harr⟩:=Classical.axiomOfChoice ex;have hT:s.TypeIs (.ref z) "zip":=⟨_,t1,rfl⟩;unfold pyNext;refine fF (iU (wpAny_callSpecial?_slot (name:=Str.ofString "__next__") hT PySem.F.slot_zip_next (gA PySem.F.slot_zip_next hT PySem.F.entry_zip_next ?_ (PySem.F.args_zip_next_1 _))));refine b0r (arr:=λy=>(arr y).toArray) (k:=i) (I.ok.hd hc) Da hne hsm t1 t2 t3 t0 t4 (λy hy=>let ⟨_,_,_,p,_⟩:=harr y hy;p) ?_ ?_
  ·intro g T us hl hv hT' z2 ti2 to2 tt2 at2 kp;refine fI ⟨_,rfl,?_⟩;refine wpAny_letOwnedTupleGo_zip (s:={ s with heap:=g }) z2 λg3 z3 b3=>?_;have zl:=Heap.lt_size t1;have hTz:T≠z:=by rw[hT'];exact cn zl
   have k3:∀b o,b∉z::TI::TO::zs.map (·.it)->s.heap.get? b=some o->g3.get? b=some o:=λb o hb q=>by
    simp only[bf,not_or]at hb;exact b3.extBut _ _ hb.1 (kp b o hb.1 hb.2.2.1 (λy hy e=>hb.2.2.2 (by rw[e];exact b8 hy)) q)
   have exv:∀j:Nat,∃v:V,∀y xs,zs[j]?=some y->SrcV X.K H y xs->xs[i]?=some v:=λj=>by
    cases hj:zs[j]? with
    |none=>exact⟨.non,λy xs e=>nomatch e⟩
    |some y=>
     obtain⟨xs,q1,_,_,x,q2⟩:=harr y (bo hj);exact⟨x,λy' xs' e q=>by cases e;rw[q.inj I q1];exact q2⟩
   obtain⟨val,hval⟩:=Classical.axiomOfChoice exv;have hlv:((cE zs.length).map val).length=zs.length:=by rw[aT,List.length_range]
   have gv:∀(j:Nat) y,zs[j]?=some y->((cE zs.length).map val)[j]?=some (val j):=λj y e=>by
    rw[aW,List.getElem?_range (aZ.mp e).1];rfl
   have rv:Vals ((cE zs.length).map val) us:=Vals.of_get (by rw[hlv,hl]) λj v u e1 e2=>by
    have hj:j<zs.length:=by rw[<- hl];exact (aZ.mp e2).1
    have hz':=bh hj;rw[gv j _ hz']at e1;cases e1;obtain⟨xs,q1,q2,_,_⟩:=harr _ (dI hj);have q3:=hval j _ xs hz' q1;obtain⟨u',e3,e4⟩:=hv j _ hz';rw[e2]at e3;cases e3;obtain⟨u2,e5,e6⟩:=q2.get q3;have e4':(arr zs[j])[i]?=some u:=by simpa using e4
    rw[e5]at e4';cases e4';exact e6
   have tt3:IsTup g3 T us.toArray:=⟨_,b3.extBut _ _ hTz tt2,rfl,_,rfl⟩;refine⟨.ref T,_,I.turnedT (t':=s.toks) hf k3 (by rw[hT'];exact aV _) rv (by rw[hlv];exact b9 (a0h hsm)) tt3,rfl,⟨T,_,I.hok.fresh (by rw[hT'];exact aV _),rfl,rfl,hlv,λj y xs e q=>⟨_,gv j y e,hval j y xs e q⟩⟩,⟨z3,b3.extBut _ _ Da.a1 ti2,⟨us,hl,b3.extBut _ _ Da.a2 to2⟩,λy hy=>(at2 y hy).keep λo q=>b3.extBut _ _ (Da.its y hy).1 q⟩,λb hb=>?_⟩;have hbo:∃o,s.heap.get? b=some o:=by
    rcases bf.mp hb with rfl |hb
    ·exact⟨_,t1⟩
    rcases bf.mp hb with rfl |hb
    ·exact⟨_,t2⟩
    rcases bf.mp hb with rfl |hb
    ·exact⟨_,t3⟩
    obtain⟨y,hy,rfl⟩:=bu.mp hb;obtain⟨o,q,_⟩:=(t4 y hy).obj;exact⟨o,q⟩
   obtain⟨o,q⟩:=hbo;rw[a0e (by rw[hT'];exact bj (Heap.lt_size q))];exact (hf b hb).1
  ·rintro⟨y,hy,q⟩;obtain⟨xs,_,r,_,x,q2⟩:=harr y hy;obtain⟨u,e,_⟩:=r.get q2;have q':(arr y)[i]?=none:=by simpa using q
   rw[e]at q';cases q'
 done:=by
  intro X hP hw hK hc i pins s σ H E I hf st hg;subst hP hw hK;obtain⟨t1,t2,⟨olds,t0,t3⟩,t4⟩:=st;obtain⟨hall,y0,hy0,xs0,hx0,hl0⟩:=hg;have Da:=D X pins σ H s rfl I (λb hb=>(hf b hb).1) hall;have ex:∀y:Zs,∃its:List Value,y∈zs->∃xs,SrcV X.K H y xs/\Vals xs its/\y.Has s.heap its.toArray:=λy=>by
   by_cases hy:y∈zs
   ·obtain⟨xs,q1⟩:=hall y hy;obtain⟨its,r,p⟩:=q1.has I;exact⟨its,λ_=>⟨xs,q1,r,p⟩⟩
   ·exact⟨[],λq=>absurd q hy⟩
  obtain⟨arr,harr⟩:=Classical.axiomOfChoice ex;have hT:s.TypeIs (.ref z) "zip":=⟨_,t1,rfl⟩;unfold pyNext;refine fF (iU (wpAny_callSpecial?_slot (name:=Str.ofString "__next__") hT PySem.F.slot_zip_next (gA PySem.F.slot_zip_next hT PySem.F.entry_zip_next ?_ (PySem.F.args_zip_next_1 _))));refine b0r (arr:=λy=>(arr y).toArray) (k:=i) (I.ok.hd hc) Da hne hsm t1 t2 t3 t0 t4 (λy hy=>let ⟨_,_,_,p⟩:=harr y hy;p) ?_ ?_
  ·intro g T us hl hv _ _ _ _ _ _ _;exfalso;obtain⟨j,hj⟩:=cu hy0;obtain⟨v,_,e⟩:=hv j y0 hj;obtain⟨xs,q1,r,_⟩:=harr y0 hy0;have e':(arr y0)[i]?=some v:=by simpa using e
   have:=(aZ.mp e').1
   rw[<- r.length,q1.inj I hx0]at this;omega
  ·rintro _ g e kp ⟨o,ho,hcl⟩;refine fF (iZ (T:="StopIteration") (b:=true) (s:={ s with heap:=g }) ⟨o,ho,hcl⟩ isSubtype_stop ?_);refine fI ⟨rfl,I.turnedN (t':=s.toks) hf λb o hb q=>?_⟩;simp only[bf,not_or]at hb;exact kp b o hb.1 hb.2.2.1 (λy hy e=>hb.2.2.2 (by rw[e];exact b8 hy)) q
 self:=λ_ _ _ _ _ st h=>wpAny_pyIter_zip st.1 h
noncomputable def mkZs(b:Nat):List (Bool×Addr)->List Zs
 |[]=>[]
 |p::r=>⟨b,p.1,p.2⟩::mkZs (b+1) r
theorem a0L:∀(b:Nat)(l:List (Bool×Addr)),(mkZs b l).length=l.length
 |_,[]=>rfl
 |b,_::r=>by simp[mkZs,a0L _ r]
theorem a1I:∀(b:Nat)(l r:List (Bool×Addr)),mkZs b (l++r)=mkZs b l++mkZs (b+l.length) r
 |_,[],_=>by simp[mkZs]
 |b,p::l,r=>by
  have:=a1I (b+1) l r
  simp[mkZs,this]
  congr 1
  omega
theorem a01:∀{b:Nat}{l:List (Bool×Addr)}{y:Zs},y∈mkZs b l->@LE.le Nat _ b y.it/\@LT.lt Nat _ y.it (b+l.length)/\(y.tp,y.l)∈l
 |_,[],_,h=>by simp[mkZs]at h
 |b,p::l,y,h=>by
  rcases bf.mp h with rfl |h
  ·simp
  ·obtain⟨d,c,a⟩:=a01 h;exact⟨by omega,by rw[bp,<- d9,Nat.add_right_comm];exact c,.tail _ a⟩
theorem a3k:∀(b:Nat)(l:List (Bool×Addr)),((mkZs b l).map (·.it)).Nodup
 |_,[]=>by simp[mkZs]
 |b,p::l=>by
  show (b::(mkZs _ l).map _).Nodup
  refine bX.mpr ⟨λh=>?_,a3k _ l⟩;obtain⟨y,a,e⟩:=bu.mp h
  have:=(a01 a).1
  omega
def HasS(p:Bool×Addr)(h:Heap):Prop:=∃xs,Zs.Has ⟨0,p.1,p.2⟩ h xs
def a6m(srcs:List (Bool×Addr))(hsm:srcs.length<=1000) :
  Meets (fO.«zip.__new__» ⟨.type "zip"::srcs.map (λp=>Value.ref p.2),[]⟩) (λ_ R s=>(∀p∈srcs,HasS p s.heap)/\∀(g:Heap),(∀b o,s.heap.get? b=some o->g.get? b=some o) ->
   g.objs.size=s.heap.objs.size+srcs.length+3->TnZ (s.heap.objs.size+srcs.length+2) (s.heap.objs.size+srcs.length) (s.heap.objs.size+srcs.length+1) (mkZs s.heap.objs.size srcs) 0 g->R (.ok (.ret (.ref (s.heap.objs.size+srcs.length+2)))) { s with heap:=g }):=
 .of_wp λX w A R s h=>by
  obtain⟨Y,h⟩:=h;unfold fO.«zip.__new__»;have S:fO.SmallTypes.newClass "zip" ⟨.type "zip"::srcs.map (λp=>Value.ref p.2),[]⟩=pure (.type "zip",srcs.map (λp=>Value.ref p.2)):=by
   unfold fO.SmallTypes.newClass;simp only[isType,sub_zip,pure_bind,cR,bQ,if_false]
  refine fF (ju S ?_);dsimp only;rw[if_neg (by simp)];refine fF ?_;unfold fO.SmallTypes.iterAll;refine fF ?_;refine iX _ (λk t G=>∃(f e:List (Bool×Addr))(g:Heap),srcs=f++e/\k=e.map (λp=>Value.ref p.2)/\t=((mkZs s.heap.objs.size f).map λy=>Value.ref y.it).toArray/\G={ s with heap:=g }/\g.objs.size=s.heap.objs.size+f.length /\
   (∀b o,s.heap.get? b=some o->g.get? b=some o)/\∀y∈mkZs s.heap.objs.size f,y.At 0 g) _ ?_ ?_ _ _ ?_
  ·rintro x k t G ⟨f,e,g,n,z,rfl,rfl,j,m,u⟩;cases e with
   |nil=>simp at z
   |cons p e=>
    rw[aY]at z;cases z;obtain⟨B,l⟩:=p;obtain⟨D,L⟩:=Y (B,l) (by rw[n];simp);refine fF (f7 ?_);have F:∀E:Obj,Zs.At ⟨g.objs.size,B,l⟩ 0 (g.push E)->∃(dn' td':List (Bool×Addr))(g':Heap),srcs=dn'++td'/\e.map (λp=>Value.ref p.2)=td'.map (λp=>Value.ref p.2)/\(((mkZs s.heap.objs.size f).map λy=>Value.ref y.it).toArray.push (.ref g.objs.size))=((mkZs s.heap.objs.size dn').map λy=>Value.ref y.it).toArray /\
      ({ s with heap:=g.push E }:Shared)={ s with heap:=g' }/\g'.objs.size=s.heap.objs.size+dn'.length/\(∀b o,s.heap.get? b=some o->g'.get? b=some o)/\∀y∈mkZs s.heap.objs.size dn',y.At 0 g':=λE ha=>by
     refine⟨f++[(B,l)],e,g.push E,by rw[n];simp,rfl,?_,rfl,by rw[Heap.size_push,j];simp;omega,λb o q=>Heap.get?_push_of_some _ (m b o q),λy c=>?_⟩
     ·rw[a1I];simp[mkZs,j]
     ·rw[a1I]at c;rcases aU.mp c with c |c
      ·exact (u y c).keep λo q=>Heap.get?_push_of_some _ q
      ·simp[mkZs]at c;subst c;rw[<- j];exact ha
    cases B with
    |true=>
     have v:g.IsTuple l D:=let ⟨o,ho,r⟩:=(show s.heap.IsTuple l D from L);⟨o,m _ _ ho,r⟩
     exact wpAny_pyIter_tuple v (fI (F _ ⟨_,Heap.get?_push_size _ rfl,rfl,rfl⟩))
    |false=>
     have v:g.IsList l D:=let ⟨o,ho,r⟩:=(show s.heap.IsList l D from L);⟨o,m _ _ ho,r⟩
     exact jf v (fI (F _ ⟨_,Heap.get?_push_size _ rfl,rfl,rfl⟩))
  ·rintro t G ⟨f,e,g,n,z,rfl,rfl,j,m,u⟩;have M:e=[]:=by
    cases e with
    |nil=>rfl
    |cons _ _=>simp at z
   subst M;rw[bN]at n;subst n;refine fI ?_;refine fF (iH ?_ (by show ((mkZs s.heap.objs.size srcs).map λy=>Value.ref y.it).toArray.toList.length<=fG;simp[a0L];exact b9 (a0h hsm)));refine fF (iH ?_ (by rw[aT];show ((mkZs s.heap.objs.size srcs).map λy=>Value.ref y.it).toArray.toList.length<=fG;simp[a0L];exact b9 (a0h hsm)));refine fF ?_;unfold fO.SmallTypes.newRecord;refine iz ?_ (by simp[sizeOk,fO.SmallTypes.ownedTupleFields,fR]);have T:∀(a d i:Obj),a={ cls:=.type "tuple",data:=.seq ((mkZs s.heap.objs.size srcs).map λy=>Value.ref y.it).toArray }->d={ cls:=.type "tuple",data:=.seq (((mkZs s.heap.objs.size srcs).map λ_=>Value.none)).toArray } ->
     i={ cls:=.type "zip",data:=.fields #[.none,.bool false,.bool false,.ref g.objs.size,.ref (g.push a).objs.size] }->R (.ok (.ret (.ref ((g.push a).push d).objs.size))) { s with heap:=((g.push a).push d).push i }:=λa d i I J C=>by
    have U:(g.push a).objs.size=s.heap.objs.size+srcs.length+1:=by rw[Heap.size_push,j]
    have V:((g.push a).push d).objs.size=s.heap.objs.size+srcs.length+2:=by rw[Heap.size_push,U]
    have N:(((g.push a).push d).push i).get? g.objs.size=some a:=Heap.get?_push_of_some _ (Heap.get?_push_of_some _ (Heap.get?_push_size _ (by rw[I];rfl)));have Q:(((g.push a).push d).push i).get? (g.push a).objs.size=some d:=Heap.get?_push_of_some _ (Heap.get?_push_size _ (by rw[J];rfl));have H:(((g.push a).push d).push i).get? ((g.push a).push d).objs.size=some i:=Heap.get?_push_size _ (by rw[C];rfl);have W:∀b o,g.get? b=some o->(((g.push a).push d).push i).get? b=some o:=λb o q=>Heap.get?_push_of_some _ (Heap.get?_push_of_some _ (Heap.get?_push_of_some _ q));rw[U]at Q C;rw[V]at H ⊢;rw[j]at N C;refine h _ (λb o q=>W b o (m b o q)) (by rw[Heap.size_push,V]) ⟨H.trans (congrArg some C),N.trans (congrArg some I),⟨(mkZs s.heap.objs.size srcs).map λ_=>Value.none,by rw[aT],Q.trans (congrArg some J)⟩,λy c=>(u y c).keep λo q=>W _ o q⟩
   exact fI ⟨_,rfl,T _ _ _ (by simp) (by simp) rfl⟩
  ·exact⟨[],srcs,s.heap,rfl,rfl,by simp[mkZs],rfl,rfl,λ_ _ q=>q,λy c=>by simp[mkZs]at c⟩
def a4t(us:List Value):Prop:=checkTypeCall "zip" ⟨us,[]⟩=pure ()/\checkBuiltinCall "zip.__new__" ⟨.type "zip"::us,[]⟩=pure ()/\∀o,argsOk "object.__init__" ⟨o::us,[]⟩
def b4k(a b:Value):a4t [a,b]:=⟨PySem.F.typeCall_zip_2 a b,PySem.F.newCall_zip_2 a b,λo=>PySem.F.args_object_init_3 o a b⟩
def a7U(hk:a4t (srcs.map λp=>Value.ref p.2))(hsm:srcs.length<=1000)(hs:∀p∈srcs,HasS p s.heap)
  (h:∀g:Heap,(∀b o,s.heap.get? b=some o->g.get? b=some o)->TnZ (s.heap.objs.size+srcs.length+2) (s.heap.objs.size+srcs.length) (s.heap.objs.size+srcs.length+1) (mkZs s.heap.objs.size srcs) 0 g->Q (.ref (s.heap.objs.size+srcs.length+2)) { s with heap:=g }) :
  wpAny (model P w) A (call (.type "zip") (srcs.map λp=>Value.ref p.2)) Q E s:=
 callType_new PySem.F.called_zip (by decide) hk.1 hk.2.1 hk.2.2 PySem.F.entry_zip_new (a6m srcs hsm) ⟨hs,λg c _ a=>⟨⟨_,a.1,rfl⟩,h g c a⟩⟩
def SrcP(K:Fg)(H:Hp)(p:Bool×Addr)(xs:List V):Prop:=if p.1=true then SqT K H p.2 xs else SqL K H p.2 xs
noncomputable def ItzP(K:Fg)(ps:List (Bool×Addr)):It:=
  ⟨λi H=>∀y∈ps,∃xs x,SrcP K H y xs/\xs[i]?=some x,
   λi H x H'=>∃T vs,H T=none/\x=.ref T/\H'=upd H T (.tup vs)/\vs.length=ps.length/\∀(j:Nat) y xs,ps[j]?=some y->SrcP K H y xs->∃v,vs[j]?=some v/\xs[i]?=some v,
   λi H=>(∀y∈ps,∃xs,SrcP K H y xs)/\∃y∈ps,∃xs,SrcP K H y xs/\xs.length<=i⟩
theorem a5w:∀(b:Nat)(l:List (Bool×Addr)),(mkZs b l).map (λy=>(y.tp,y.l))=l
 |_,[]=>rfl
 |b,p::r=>by simp[mkZs,a5w _ r]
def a5x{j:Nat}(h:l[j]?=some p):∃y,(mkZs b l)[j]?=some y/\(y.tp,y.l)=p:=by
 have:=congrArg (·[j]?) (a5w b l)
 simp only[aW,h]at this;cases e:(mkZs b l)[j]? with
 |none=>rw[e]at this;cases this
 |some y=>rw[e]at this;exact⟨y,rfl,by simpa using this⟩
theorem Turn.imp{P:fK}{w:World}{K:Fg}{tg:Expr}{J J':It}{fp:List Addr}{it:Addr}{tn:Nat->Heap->Prop}(t:Turn P w K tg J fp it tn)(g:∀i H,J'.go i H->J.go i H)(y:∀i H x H',J'.go i H->J.yld i H x H'->J'.yld i H x H')(s:∀i H,J'.stop i H->J.stop i H):Turn P w K tg J' fp it tn where
 mem:=t.mem
 obj:=t.obj
 keep:=t.keep
 item:=λX h1 h2 h3 h4 i pins s σ H E I hf st hg=>fW (t.item X h1 h2 h3 h4 i pins s σ H E I hf st (g i H hg)) (λr s1 ⟨u,e,q⟩=>⟨u,e,fW q (λ_ s2 ⟨x,H',a,b,c,d,e⟩=>⟨x,H',a,b,y i H x H' hg c,d,e⟩) λ_ _ z=>z⟩) λ_ _ z=>z
 done:=λX h1 h2 h3 h4 i pins s' σ H E I hf st hg=>t.done X h1 h2 h3 h4 i pins s' σ H E I hf st (s i H hg)
 self:=t.self
def a1W(h:@Ne Nat a b):a≠b:=h
def b6H(K:Fg)(n:Nat)(ta:TA):TI:=fun σ H R=>ta σ H λvs H1=>∃ps:List (Bool×Addr),vs=ps.map (λp=>V.ref p.2)/\ps≠[]/\ps.length=n/\(∀p∈ps,∃xs,SrcP K H1 p xs)/\R (ItzP K ps) H1
theorem a7V:∀{ps:List (Bool×Addr)}{us:List Value},Vals (ps.map λp=>V.ref p.2) us->us=ps.map λp=>Value.ref p.2
 |[],us,r=>by rw[bB]at r;cases r;rfl
 |p::ps,us,r=>by
  cases r with
  |cons r1 r2=>rw[a7V r2,r1];rfl
def b4l(hg:Gl X "zip")(hm:X.mg "zip"=none)(hok:∀us:List Value,us.length=n->a4t us)(hn:n<=1000)(ha:PA X (e::es) ta)
  (he:fL (e::es) X.env=(false,eval e X.env)::fL es X.env) (hpl:(backTo pos (fL es X.env)).any (·.1)=false):PI X (.Tuple elts x1 tpos) (.Call (.Name "zip" p) (e::es) [] pos) (b6H X.K n ta):=by
 intro pins s σ H R I h;refine Call_ (a2I I hg hm (show gg "zip"=some (.type "zip") by decide +kernel) (PyProof.Rows.callWith_type1 (thn (ha pos pins s σ H _ I h) λus c ⟨vs,H1,r,r1,q1⟩=>?_) he hpl));obtain⟨f,rfl,hne,hl,hsrc,q⟩:=q1;have hsm:f.length<=1000:=by omega
 have e:=a7V r1;subst e;have hnz:mkZs c.heap.objs.size f≠[]:=λz=>hne (cY.mp (by rw[<- a0L c.heap.objs.size f,z];rfl));refine a7U (hok _ (by rw[aT,hl])) hsm (λp hp=>?_) λg kp tn=>?_
 ·obtain⟨t,d⟩:=hsrc p hp;obtain⟨its,_,h⟩:=SrcV.has (y:=⟨0,p.1,p.2⟩) r d;exact⟨_,h⟩
 ·refine wpAny_pyIter_zip (s:={ c with heap:=g }) tn.1 ?_;have I2:Inv X pins σ H1 { c with heap:=g }:=r.kept (t':=c.toks) kp;refine⟨_,_,_,_,H1,rfl,I2,(a9u (K:=X.K) (zs:=mkZs c.heap.objs.size f) ?_ hnz (by rw[a0L];exact hsm)).imp ?_ ?_ ?_,tn,λb k=>?_,q⟩
  ·intro X' pins' σ' H' s' hK I' hfp hall;have hl':∀y∈mkZs c.heap.objs.size f,∀b,H' b=none->b∈(c.heap.objs.size+f.length+2)::(c.heap.objs.size+f.length+1)::(mkZs c.heap.objs.size f).map (·.it)->y.l≠b:=by
    intro y a b k hm z;obtain⟨hb1,hb2,hb3⟩:=a01 a;obtain⟨t,d⟩:=hsrc _ hb3;obtain⟨its,_,hh⟩:=SrcV.has (y:=y) r d
    have:@LT.lt Nat _ y.l c.heap.objs.size:=by
     unfold Zs.Has at hh
     split at hh<;>(obtain⟨o,ho,_⟩:=hh;exact Heap.lt_size ho)
    rcases bf.mp hm with e |hm
    ·exact absurd (z.trans e) (a1W (by omega))
    rcases bf.mp hm with e |hm
    ·exact absurd (z.trans e) (a1W (by omega))
    obtain⟨x,d,e⟩:=bu.mp hm
    have:=(a01 d).1
    exact absurd (z.trans e.symm) (a1W (by omega))
   refine⟨a3k _ _,a1W (by omega),a1W (by omega),a1W (by omega),λy a=>?_,λy a=>?_⟩
   ·have:=a01 a
    exact⟨a1W (by omega),a1W (by omega),a1W (by omega)⟩
   ·exact⟨hl' y a _ (hfp _ (by simp)) (by simp),hl' y a _ (hfp _ (by simp)) (by simp),λx d=>hl' y a _ (hfp _ (by simp;exact .inr (.inr (.inr ⟨x,d,rfl⟩)))) (by simp;exact .inr (.inr ⟨x,d,rfl⟩))⟩
  ·intro i H' hgo y a;exact hgo (y.tp,y.l) (a01 a).2.2
  ·rintro i H' x H2 _ ⟨T,vs,a1,a2,a3,a4,a5⟩;refine⟨T,vs,a1,a2,a3,by rw[a4,a0L],λj p t hp d=>?_⟩;obtain⟨y,a,e⟩:=a5x (b:=c.heap.objs.size) hp;subst e;exact a5 j y t a d
  ·rintro i H' ⟨a1,p,hp,t,d,hl⟩;obtain⟨j,hj⟩:=cu hp;obtain⟨y,a,e⟩:=a5x (b:=c.heap.objs.size) hj;subst e;exact⟨λy a=>a1 (y.tp,y.l) (a01 a).2.2,y,bo a,t,d,hl⟩
  ·have hb':@LE.le Nat _ c.heap.objs.size b:=by
    rcases bf.mp k with rfl |k
    ·omega
    rcases bf.mp k with rfl |k
    ·omega
    rcases bf.mp k with rfl |k
    ·omega
    obtain⟨x,d,rfl⟩:=bu.mp k;exact (a01 d).1
   exact r.fpOk hb' (r.hok.fresh hb')
section
variable{X:Cx}
noncomputable def a9v(x y:Str):Int:=match fO.Str.occurrences x y 0 x.length 1 with
 |i::_=>(i:Int)
 |[]=>-1
def b1H:MtR X "str.find" (λx vs H Q=>∃(z y:Str),x=.str z/\vs=[.str y]/\Q (.int (a9v z y)) H):=by
 intro c s σ H x f v g Q I b d h;obtain⟨z,y,rfl,rfl,q⟩:=h;obtain⟨t,rfl⟩:=b;obtain⟨u,rfl,e⟩:=a20 d;obtain⟨a,rfl⟩:=e;exact call_gives PySem.F.slot_str_find (gY _ _ _) PySem.F.entry_str_find (PySem.F.args_str_find_2 _ _) (gives_str_find z y t a) ⟨.int _,H,I.tok _,⟨_,rfl⟩,q⟩
end
end L2
namespace L3
open PySem PySem.Spec PyProof.Rows L2
section
variable{X:Cx}
def b4m:Z->List Z->Hq->K3->Prop:=λx xs G R=>match x,xs with
 |.str z,[.str y]=>R (.int (a9v z y)) G
 |_,_=>False
def b4n:MtQ X "str.find" b4m:=a40 b1H λx g H Q e=>e.un λw c G R a b d h f=>by
 match w,c,h with
 |.str z,[.str y],h=>
  obtain⟨v,rfl,r⟩:=b.one;exact⟨z,y,a,by rw[r],f _ _ _ _ h (by rw[a0k]) d (.refl _ _)⟩
def b4o(h:R (.int (a9v z y)) G):b4m (.str z) [.str y] G R:=h
noncomputable def putZ(kvs:List (Key×Z))(k:Key)(v:Z):List (Key×Z):=
 if (kvs.any λkv=>decide (kv.1=k))=true then kvs.map (λkv=>if kv.1=k then (kv.1,v) else kv) else kvs++[(k,v)]
theorem a7W{α β:Type}:∀{kvs:List (Key×α)}{us:List (Key×β)},us.map (·.1)=kvs.map (·.1)->(us.any λkv=>decide (kv.1=k))=kvs.any λkv=>decide (kv.1=k)
 |[],[],_=>rfl
 |[],_::_,h=>by simp at h
 |_::_,[],h=>by simp at h
 |p::ps,q::qs,h=>by
  rw[aY,aY]at h;injection h with h1 h2
  rw[cI,cI,a7W h2,h1]
def a3M{K:Fg}(rv:Rep K H w v)(hk:us.map (·.1)=kvs.map (·.1))(hr:Reps K H (kvs.map (·.2)) (us.map (·.2))) :
  (putK us k v).map (·.1)=(putZ kvs k w).map (·.1)/\Reps K H ((putZ kvs k w).map (·.2)) ((putK us k v).map (·.2)):=by
 unfold putK putZ;rw[a7W hk]
 split
 ·have l:∀{d:List _}{f:List _},f.map (·.1)=d.map (·.1)->Reps K H (d.map (·.2)) (f.map (·.2))->((f.map λc=>if c.1=k then (c.1,v) else c).map (·.1)=(d.map λc=>if c.1=k then (c.1,w) else c).map (·.1)/\Reps K H ((d.map λc=>if c.1=k then (c.1,w) else c).map (·.2)) ((f.map λc=>if c.1=k then (c.1,v) else c).map (·.2))):=by
   intro d
   induction d with
   |nil=>intro f g h;cases f with
    |nil=>exact⟨rfl,.nil⟩
    |cons _ _=>simp at g
   |cons p ps ih=>
    intro f g h;cases f with
    |nil=>simp at g
    |cons q qs=>
     rw[aY,aY]at g h;injection g with h3 h4
     obtain⟨a,b,e,j,m⟩:=h;injection e with e1 e2
     subst e1 e2;have i:=ih h4 m;simp only[aY]
     by_cases e:p.1=k
     ·rw[if_pos e,if_pos (h3.trans e)];exact⟨by rw[i.1,h3],.cons rv i.2⟩
     ·rw[if_neg e,if_neg (λz=>e (h3.symm.trans z))];exact⟨by rw[i.1,h3],.cons j i.2⟩
  exact l hk hr
 ·rw[bt,bt,hk,bt,bt];exact⟨rfl,hr.append (.cons rv .nil)⟩
noncomputable def keyZ:Z->Option Key
 |.non=>some (.inl none)
 |.int i=>some (.inl (some i))
 |.str x=>some (.inr x)
 |_=>none
def b1I:Z3:=λo i v G R=>match o with
 |.ref p=>∃kvs k,G p=some (.dK kvs)/\keyZ i=some k/\kvs.length<fG/\R (put G p (.dK (putZ kvs k v)))
 |_=>False
def a0M{K:Fg}(h:keyZ i=some k)(r:Rep K H i v):v=kV k:=by
 cases i with
 |non=>rw[a0u]at r;cases h;exact r
 |int j=>rw[a0k]at r;cases h;exact r
 |str j=>rw[a0r]at r;cases h;exact r
 |_=>cases h
def a9w(hu:X.A.units+66<cLine):PSet X (λo i v H Q=>∃a H',o=.ref a/\DPut H a i v H'/\Q H'):=by
 intro e s σ H o i v j l u Q I d f b h;obtain⟨a,H',rfl,g,q⟩:=h;cases (d);exact a7d (by lia) I g f b λk c=>⟨H',c,q⟩
def a7X{α β:Type}{kvs:List (Key×α)}{us:List (Key×β)}(h:us.map (·.1)=kvs.map (·.1)):us.length=kvs.length:=by
 rw[<- aT,h,aT]
def a3l(hu:X.A.units+66<cLine):SetQ X b1I:=b0h (a9w hu) λo i v H Q r=>r.un λa b w G R g q f d h u=>by
 cases a with
 |ref p=>
  obtain⟨j,k,e,n,t,h⟩:=h;obtain⟨x,c,m,s⟩:=d _ _ e;have l:=a3M (k:=k) f m s;refine⟨p,_,g,?_,u _ _ h (d.set (.dK c) ⟨_,a0d,l.1,l.2.mono (.dK c)⟩) (.dK c)⟩;rw[a0M n q];exact DPut.k c (a7X m▸t)
 |_=>exact bg h
def a4u(e:G p=some (.dK kvs))(a:keyZ i=some k)(z:kvs.length<fG)(h:Rg (put G p (.dK (putZ kvs k w)))):b1I (.ref p) i w G Rg:=⟨kvs,k,e,a,z,h⟩
def a7Y:List Z->Hq->K3->Prop:=λxs G R=>match xs with
 |[.ref p]=>∃ns:List Int,(G p=some (.lst (ns.map Z.int))\/∃kvs,G p=some (.dK kvs)/\kvs.map (·.1)=ns.map λi=>Sum.inl (some i))/\ns.length<=1000/\∀(t:Addr)(ms:List Int),G t=none->ms.Perm ns->ms.Pairwise (·<=·)->R (.ref t) (put G t (.lst (ms.map Z.int)))
 |_=>False
def a9x(hc:X.calm=true):a2b X (.builtin "sorted") a7Y:=a1C (a49 hc) λw H Q n=>n.un λm G R o b h q=>by
 match m,h with
 |[.ref p],h=>
  obtain⟨v,rfl,r⟩:=o.one;obtain⟨l,a,e,h⟩:=h;refine⟨p,l,by rw[r],?_,e,λt g c i j=>q _ _ _ _ (h t g (b.out c) i j) (by rw[a0j]) (b.set (.new c) (a0J (a1O _) (.new c))) (.new c)⟩;rcases a with a |⟨kvs,a,hk⟩
  ·obtain⟨u,d,f⟩:=b _ _ a
   have:=a7k f
   subst this;exact .inl (SqL.of d)
  ·obtain⟨k,d,s,_⟩:=b _ _ a;exact .inr ⟨k,d,s.trans hk⟩
def a7Z(e:G p=some (.dK kvs))(k:kvs.map (·.1)=ns.map λi=>Sum.inl (some i))(z:ns.length<=1000)(h:∀(t:Addr)(ms:List Int),G t=none->ms.Perm ns->ms.Pairwise (·<=·)->R (.ref t) (put G t (.lst (ms.map Z.int)))):a7Y [.ref p] G R:=⟨ns,.inr ⟨kvs,e,k⟩,z,h⟩
variable{tg:Expr}{t:A3}
noncomputable def srcZ(G:Hq):Z->Option (List Z)
 |.ref a=>match G a with
  |some (.lst ws)=>some ws
  |_=>none
 |.tup ws=>some ws
 |_=>none
noncomputable def zipZ:List (List Z)->List Z
 |[]=>[]
 |[xs]=>xs.map λx=>.tup [x]
 |xs::rest=>List.zipWith (λx r=>match r with |.tup ws=>.tup (x::ws) |r=>r) xs (zipZ rest)
def iZip(n:Nat)(t:A3):I3:=fun σ G R=>t σ G λws G1=>∃xss:List (List Z),ws.map (srcZ G1)=xss.map some/\xss≠[]/\ws.length=n/\R (zipZ xss) (λG=>ws.map (srcZ G)=xss.map some) G1
theorem a1X:∀(xss:List (List Z)),xss≠[]->∀(i:Nat)(w:Z),(zipZ xss)[i]?=some w↔∃vs:List Z,w=.tup vs/\xss.map (·[i]?)=vs.map some
 |[],h,_,_=>absurd rfl h
 |[xs],_,i,w=>by
  simp only[zipZ,aW,aY,bB]
  constructor
  ·intro h;cases e:xs[i]? with
   |none=>rw[e]at h;cases h
   |some x=>rw[e]at h;cases h;exact⟨[x],rfl,rfl⟩
  ·rintro⟨a,rfl,h⟩
   match a,h with
   |[v],h=>rw[aY,bB]at h;injection h with h _;rw[h];rfl
   |[],h=>cases h
   |_::_::_,h=>simp at h
 |xs::ys::rest,_,i,w=>by
  have b:=a1X (ys::rest) (by simp)
  show (List.zipWith _ xs _)[i]?=some w↔_
  rw[List.getElem?_zipWith]
  constructor
  ·intro h;cases e1:xs[i]? with
   |none=>rw[e1]at h;cases h
   |some x=>
    cases e2:(zipZ (ys::rest))[i]? with
    |none=>rw[e1,e2]at h;cases h
    |some r=>
     rw[e1,e2]at h;obtain⟨a,rfl,c⟩:=(b i r).mp e2;cases h;exact⟨x::a,rfl,by rw[aY,c,e1];rfl⟩
  ·rintro⟨a,rfl,h⟩
   match a,h with
   |[],h=>simp at h
   |v::a,h=>
    rw[aY,aY]at h;injection h with h1 h2
    have:=(b i _).mpr ⟨a,rfl,h2⟩
    rw[h1,this]
def a5y{K:Fg}(h:srcZ G w=some ws)(r:Rep K H w v)(hg:RH K G H):∃p:Bool×Addr,v=.ref p.2/\(p.1=true↔∃us,w=.tup us)/\∃vs,SrcP K H p vs/\Reps K H ws vs:=by
 cases w with
 |ref a=>
  cases q:G a with
  |none=>simp[srcZ,q]at h
  |some o=>
   cases o with
   |lst us=>
    simp[srcZ,q]at h;subst h;obtain⟨c,d,b⟩:=hg _ _ q;exact⟨(false,a),r,by simp,c,by unfold SrcP;rw[if_neg (by simp)];exact SqL.of d,b⟩
   |_=>simp[srcZ,q]at h
 |tup us=>
  obtain⟨a,c,rfl,e,b⟩:=r;cases h;exact⟨(true,a),rfl,by simp,c,by unfold SrcP;rw[if_pos rfl];exact SqT.of e,b⟩
 |_=>cases h
theorem a5z{K:Fg}(hg:RH K G H):∀{ws:List Z}{vs:List V}{xss:List (List Z)},ws.map (srcZ G)=xss.map some->Reps K H ws vs->∃ps:List (Bool×Addr),vs=ps.map (λp=>V.ref p.2)/\ps.length=ws.length /\
  (∀(j:Nat)(p:Bool×Addr)(w:Z),ps[j]?=some p->ws[j]?=some w->(p.1=true↔∃us,w=.tup us))/\∀p∈ps,∃us,SrcP K H p us
 |[],vs,xss,_,r=>by rw[a0n]at r;subst r;exact⟨[],rfl,rfl,λj p w e=>by simp at e,λp h=>by simp at h⟩
 |w::ws,vs,[],h,_=>by simp at h
 |w::ws,vs,xs::xss,h,r=>by
  injection h with h1 h2
  obtain⟨v,s,rfl,d,o⟩:=r;obtain⟨p,rfl,i,f,l,_⟩:=a5y h1 d hg;obtain⟨q,rfl,m,k,n⟩:=a5z hg h2 o;refine⟨p::q,rfl,by simp[m],λj a g c b=>?_,λa h=>?_⟩
  ·cases j with
   |zero=>simp at c b;subst c b;exact i
   |succ j=>exact k j a g (by simpa using c) (by simpa using b)
  ·rcases bf.mp h with rfl |h
   ·grind
   ·exact n a h
def SrcP.uniq{K:Fg}(h:SrcP K H p xs)(g:(if p.1=true then H p.2=some (.tup ys) else H p.2=some (.lst ys))):SrcP K H p ys:=by
 unfold SrcP
 split
 ·next e=>rw[if_pos e]at g;exact SqT.of g
 ·next e=>rw[if_neg e]at g;exact SqL.of g
def a70{K:Fg}(h:srcZ G w=some ws)(r:Rep K H0 w (.ref p.2))(hp:p.1=true↔∃us,w=.tup us)(t:TK K H0 H)(hg:RH K G H):∃vs,SrcP K H p vs/\Reps K H ws vs:=by
 obtain⟨q,e,j,i,f,g⟩:=a5y h (r.mono t) hg;have k:p=q:=by
  obtain⟨a,b⟩:=p;obtain⟨c,d⟩:=q;cases e
  have:a=c:=by rw[cU];exact hp.trans j.symm
  rw[this]
 subst k;exact⟨i,f,g⟩
theorem a1o{α:Type}{β:Type}{f:α->Option β}:∀{l:List α}{m:List β}{j:Nat}{x:α},l.map f=m.map some->l[j]?=some x->∃y,m[j]?=some y/\f x=some y
 |[],_,_,_,_,e=>by simp at e
 |a::l,[],_,_,h,_=>by simp at h
 |a::l,b::m,j,x,h,e=>by
  injection h with h1 h2
  cases j with
  |zero=>simp at e;subst e;exact⟨b,rfl,h1⟩
  |succ j=>simpa using a1o h2 (by simp_all)
def a71{K:Fg}(hne:xss≠[])(hv:vs=ps.map λp=>V.ref p.2)(hl:ps.length=ws.length)(rs:Reps K H0 ws vs)(hk:∀(j:Nat)(p:Bool×Addr)(w:Z),ps[j]?=some p->ws[j]?=some w->(p.1=true↔∃us,w=.tup us)) :
  a23 K (zipZ xss) (λG=>ws.map (srcZ G)=xss.map some) (ItzP K ps) H0:=λi G H S t Q hi=>by
 have A:xss.length=ws.length:=by rw[<- aT (as:=ws),Q,aT]
 have o:∀(j:Nat) p,ps[j]?=some p->∃b a,xss[j]?=some b/\SrcP K H p a/\Reps K H b a:=λj p e=>by
  have d:j<ws.length:=by rw[<- hl];exact (aZ.mp e).1
  have I:=bh d;obtain⟨b,k,n⟩:=a1o Q I;obtain⟨v,m,r⟩:=rs.get I;rw[hv,aW,e]at m;cases m;obtain⟨a,s,L⟩:=a70 n r (hk j p _ e I) t S;exact⟨b,a,k,s,L⟩
 refine⟨λh=>⟨λp F=>?_,?_⟩,λw hw=>?_⟩
 ·obtain⟨j,d⟩:=cu F;obtain⟨b,a,_,k,_⟩:=o j p d;exact⟨a,k⟩
 ·refine Classical.byContradiction λno=>?_;have all:∀b∈xss,i<b.length:=λb E=>by
   obtain⟨j,d⟩:=cu E;have D:j<ps.length:=by rw[hl,<- A];exact (aZ.mp d).1
   obtain⟨xs',a,k,n,m⟩:=o j _ (bh D);rw[d]at k;cases k;refine Classical.byContradiction λc=>no ⟨_,dI D,a,n,?_⟩;rw[<- m.length];omega
  have:(zipZ xss)[i]?=some (.tup (xss.map λb=>b.getD i .non)):=(a1X xss hne i _).mpr ⟨_,rfl,by
   rw[bJ];refine ff λb E=>?_
   have:=all b E
   simp[bh this]⟩
  have:=(aZ.mp this).1
  omega
 ·obtain⟨g,rfl,U⟩:=(a1X xss hne i w).mp hw;have aa:g.length=ps.length:=by rw[<- aT,<- U,aT,A,hl]
  have B:∀(j:Nat)(b:List Z),xss[j]?=some b->∃z,g[j]?=some z/\b[i]?=some z:=λj b d=>a1o (f:=λl:List Z=>l[i]?) U d;refine⟨λp F=>?_,?_⟩
  ·obtain⟨j,d⟩:=cu F;obtain⟨b,a,M,k,n⟩:=o j p d;obtain⟨z,m,r⟩:=B j b M;obtain⟨v,s,_⟩:=n.get r;exact⟨a,v,k,s⟩
  ·rintro x H' ⟨T,a,R,rfl,rfl,C,N⟩;have tT:TK K H (upd H T (.tup a)):=.new R;refine⟨?_,S.hid R,tT⟩;rw[a0V];refine⟨T,a,rfl,a0d,?_⟩;have go:∀{g:List Z}{a:List V},g.length=a.length->(∀(j:Nat) z u,g[j]?=some z->a[j]?=some u->Rep K H z u)->Reps K H g a:=by
    intro g
    induction g with
    |nil=>intro a h _;cases a with
     |nil=>exact .nil
     |cons _ _=>simp at h
    |cons z g ih=>intro a h q;cases a with
     |nil=>simp at h
     |cons u a=>exact .cons (q 0 z u rfl rfl) (ih (by simpa using h) λj z u J y=>q (j+1) z u (by simpa using J) (by simpa using y))
   refine (go (by rw[aa,C]) λj z u J y=>?_).mono tT;have d:j<ps.length:=by rw[<- C];exact (aZ.mp y).1
   obtain⟨b,Y,M,k,n⟩:=o j _ (bh d);obtain⟨z',m,r⟩:=B j b M;rw[J]at m;cases m;obtain⟨v,s,L⟩:=n.get r;obtain⟨u',h7,X⟩:=N j _ Y (bh d) k;rw[y]at h7;cases h7;rw[s]at X;cases X;exact L
def b1J(hok:∀us:List Value,us.length=n->a4t us)(hn:n<=1000)(hg:Gl X "zip")(hm:X.mg "zip"=none)(ha:QA X (e::es) t)
  (he:fL (e::es) X.env=(false,eval e X.env)::fL es X.env:=by rfl) (hpl:(backTo pos (fL es X.env)).any (·.1)=false:=by rfl):QI X (.Tuple elts x1 tpos) (.Call (.Name "zip" p) (e::es) [] pos) (iZip n t):=a7v (b4l hg hm hok hn ha.p he hpl) fun τ H R2 a=>a.un fun σ G R s hg h u=>by
 refine⟨σ,G,_,s,hg,h,λws G1 vs H1 ⟨b,a,c,k,m⟩ l d q=>?_⟩;obtain⟨r,e,g,o,ha⟩:=a5z d a l;refine⟨r,e,?_,by rw[g,k],ha,u _ _ _ _ _ m (a71 c e g l o) d q⟩;rintro rfl
 have:b.length=0:=by rw[<- aT,<- a,aT,<- g];rfl
 exact c (cY.mp this)
def zok2(us:List Value)(h:us.length=2):a4t us:=by
 cases us with
 |nil=>cases h
 |cons a us=>cases us with
  |nil=>cases h
  |cons b us=>cases us with
   |nil=>exact b4k a b
   |cons c us=>cases h
def b4p(h:t σ G λws G1=>∃xss:List (List Z),ws.map (srcZ G1)=xss.map some/\xss≠[]/\ws.length=n/\Ri (zipZ xss) (λG=>ws.map (srcZ G)=xss.map some) G1):iZip n t σ G Ri:=h
end
noncomputable def putQ(f:Str)(y:Z):List (Str×Z)->List (Str×Z)
 |[]=>[(f,y)]
 | (g,x)::r=>if g=f then (g,y)::r else (g,x)::putQ f y r
section
variable{K:Fg}{H:Hp}
theorem a3N:∀{fs:List (Str×Z)}{gs:List (Str×V)},gs.map (·.1)=fs.map (·.1)->Reps K H (fs.map (·.2)) (gs.map (·.2))->(fs.lookup f=none->gs.lookup f=none)/\∀z,fs.lookup f=some z->∃v,gs.lookup f=some v/\Rep K H z v
 |[],[],_,_=>⟨λ_=>rfl,λ_ h=>by cases h⟩
 |[],_::_,h,_=>by simp at h
 |_::_,[],h,_=>by simp at h
 | (k,x)::fs,(k',v)::gs,h,r=>by
  simp at h;obtain⟨rfl,h⟩:=h;obtain⟨i,g,e,d,b⟩:=r;obtain⟨rfl,rfl⟩:=ci.inj e;rw[cg,cg];cases c:f==k' with
  |true=>
   refine⟨λe=>?_,λz e=>?_⟩
   ·cases e
   ·simp_all
  |false=>exact (a3N (f:=f) h b)
theorem a72(ry:Rep K H y u):∀{fs:List (Str×Z)}{gs:List (Str×V)},gs.map (·.1)=fs.map (·.1)->Reps K H (fs.map (·.2)) (gs.map (·.2))->(putF f u gs).map (·.1)=(putQ f y fs).map (·.1)/\Reps K H ((putQ f y fs).map (·.2)) ((putF f u gs).map (·.2))
 |[],[],_,_=>⟨rfl,by show Reps K H [y] [u];rw[a0x];exact⟨u,[],rfl,ry,by rw[a0n]⟩⟩
 |[],_::_,h,_=>by simp at h
 |_::_,[],h,_=>by simp at h
 | (k,x)::fs,(k',v)::gs,h,r=>by
  simp at h;obtain⟨rfl,h⟩:=h;obtain⟨i,g,e,d,b⟩:=r;obtain⟨rfl,rfl⟩:=ci.inj e;have a:=a72 (f:=f) ry h b;unfold putQ putF
  by_cases c:k'=f
  ·rw[if_pos c,if_pos c];exact⟨by simp[h],by show Reps K H (y::fs.map _) _;rw[a0x];exact⟨u,_,rfl,ry,b⟩⟩
  ·rw[if_neg c,if_neg c];exact⟨by simp[a.1],by show Reps K H (x::(putQ f y fs).map _) _;rw[a0x];exact⟨v,_,rfl,d,a.2⟩⟩
end
section
variable{X:Cx}{C f:Addr}{fd:fY}{ps:List Str}{sp:P3}{k:Nat}{a m x:Str}{p pos pos' tpos apos:Pos}{e o value:Expr}{es:List Expr}{te to:E3}{t:A3}
def uFld(C:Addr)(te:E3)(a:Str):E3:=fun σ G R=>te σ G λx G1=>∃q dx fs v,x=.ref q/\G1 q=some (.ins C dx fs)/\fs.lookup a=some v/\R v G1
def a9y(hc:Cls X.K C)(hn:NoAttr X.K C a)(he:QE X e te)(hb:gE e a X.env (eval e X.env)=eval e X.env:=by rfl):QE X (.Attribute e a pos) (uFld C te a):=⟨a0I (b21 he.p hb) fun τ H Q x=>x.un fun σ G R s t h k=>
 ⟨σ,G,_,s,t,h,by
  rintro w D v B ⟨q,r,E,z,i,A,j,d⟩ c b l;subst i;obtain⟨u,m,g,y⟩:=b _ _ A;obtain⟨o,f,n⟩:=(a3N g y).2 _ j;exact⟨q,C,r,u,o,c,m,hc,hn,f,k _ _ _ _ d n b l⟩⟩⟩
def a73(C:Addr)(to te:E3)(a:Str):X3:=λnx _ _ _ σ G=>te σ G λy G1=>to σ G1 λx G2=>∃q dx fs,x=.ref q/\G2 q=some (.ins C dx fs)/\fs.length<1000/\nx σ (put G2 q (.ins C dx (putQ a y fs)))
def a9z(hc:Cls X.K C)(hn:NoAttr X.K C a)(ho:QE X o to)(hv:QE X value te)(hs:gM value (some (.Attribute o a pos')) pos.line X.env=pure false:=by rfl):QS X (.Assign [.Attribute o a pos'] value pos) (a73 C to te a):=⟨a1P (b22 ho.p hv.p hs) λD τ H J=>J.un fun σ G nx rt bk ct hs x h F u2 u3 u4=>
 ⟨σ,G,_,hs,x,h,λy A u H1 E t r e=>⟨σ,A,_,hs.mono e,r,E,by
  rintro w G2 v i ⟨q,j,fs,z,ea,hl,B⟩ k d g;subst z;obtain⟨n,l,m,I⟩:=d _ _ ea;have b:TK X.K i (L2.upd i q (.ins C j (putF a u n))):=.ins l;have s:=a72 (f:=a) (t.mono g) m I;exact⟨q,C,j,n,k,l,hc,hn,by have:=congrArg bM m;simp at this;lia,F _ _ _ _ B (hs.mono ((e.trans g).trans b)) (d.set b ⟨_,a0d,s.1,s.2.mono b⟩) ((e.trans g).trans b)⟩⟩⟩⟩
def a4v(C:Addr)(m:Str)(sp:P3)(to:E3)(t:A3):E3:=fun σ G R=>to σ G λx G1=>∃q dx fs,x=.ref q/\G1 q=some (.ins C dx fs)/\fs.lookup m=none/\t σ G1 λws G2=>sp (.ref q::ws) G2 R
def a9A(h:low X.K (a4v C m sp to t) τ H Q)(h1:o'=low X.K to)(h2:t'=lowA X.K t):b25 C m (lowP X.K sp) [] E o' t' τ H Q:=by
 subst h1 h2;obtain⟨σ,G,R,f,s,h,D⟩:=h;refine⟨σ,G,_,f,s,h,λw B v H1 ⟨q,r,fs,y,n,A,x⟩ b a e=>?_⟩;subst y;obtain⟨u,g,z,p⟩:=a _ _ n;refine⟨q,r,u,b,g,(a3N z p).1 A,σ,B,_,f.mono e,a,x,λj o k H2 h2 i c l=>?_⟩;exact⟨.ref q::j,o,R,by rw[bN,a0x];exact⟨v,k,rfl,by rw[a0j];exact b,i⟩,c,h2,D.mono (e.trans l)⟩
def b4q(ho:QE X o to)(c:Cls X.K C)(hm:Meth X.K C m f)(F:FnOk X.prog X.w X.K X.mg X.base CX0 k f fd ps (lowP X.K sp))(hr:Room k X.A)(hb:Binds X.K fd ps [])(ha:QA X (e::es) t)
  (hst:fL (e::es) X.env=(false,eval e X.env)::fL es X.env) (hpl:(backTo pos (fL es X.env)).any (·.1)=false)
  (ht:eval (.Call (.Attribute o m apos) (e::es) [] pos) X.env=(do
   let ov <- eval o X.env
   gB apos.atName
   let (f,first) <- gb [ov] (io ov m pl)
   iq pos f first (backTo pos (fL (e::es) X.env)) (ir pos (iu [] X.env)))):QE X (.Call (.Attribute o m apos) (e::es) [] pos) (a4v C m sp to t):=
 ⟨a0I (b00 ho.p c hm F hr hb .nil b07 ha.p hst hpl ht) λ_ _ _ h=>a9A h rfl rfl⟩
def b1K(C:Addr)(sp:P3)(t:A3):E3:=fun σ G R=>t σ G λws G1=>∀q dx,G1 q=none->sp (.ref q::ws) (put G1 q (.ins C dx [])) λv G2=>v=.non/\R (.ref q) G2
def made(h1:∀q dx,G1 q=none->sp (.ref q::ws) (put G1 q (.ins C dx [])) λv G2=>v=.non/\R (.ref q) G2)(rs:Reps X.K H1 ws vs)(hg1:RH X.K G1 H1)(up:UpV X.K H1 R Q)(q dx:Addr)(n1:H1 q=none)(n2:H1 dx=none)(ne:dx≠q) :
  lowP X.K sp (.ref q::(vs++[])) (L2.upd (L2.upd H1 dx (.own q)) q (.ins C dx [])) (λv H2=>v=.non/\Q (.ref q) H2) E:=by
 have a:L2.upd H1 dx (.own q) q=none:=(a0e (Ne.symm ne))▸n1;have d:TK X.K H1 (L2.upd _ q (.ins C dx [])):=(TK.new n2).trans (TK.new a);refine⟨.ref q::ws,put G1 q (.ins C dx []),_,?_,?_,h1 q dx (hg1.out n1),?_⟩
 ·rw[bN,a0x];exact⟨_,vs,rfl,by rw[a0j],rs.mono d⟩
 ·exact (hg1.hid n2).set (TK.new a) ⟨[],a0d,rfl,by rw[bB,a0n];rfl⟩
 ·rintro w h v i ⟨f,g⟩ b c e;subst f;exact⟨b,up _ _ _ _ g (by rw[a0j]) c (d.trans e)⟩
def b4r(M:Mk X.K C f)(F:FnOk X.prog X.w X.K X.mg X.base CX0 k f fd ps (lowP X.K sp))(hr:Room (k+1) X.A)(hg:Gl X x)(hm:X.mg x=some (.ref C))(hb:Binds X.K fd ps [])(ha:QA X (e::es) t)
  (hdb:(x==("__debug__":Str))=false:=by decide) (he:fL (e::es) X.env=(false,eval e X.env)::fL es X.env:=by rfl) (hpl:(backTo pos (fL es X.env)).any (·.1)=false:=by rfl):QE X (.Call (.Name x p) (e::es) [] pos) (b1K C sp t):=
 ⟨a0I (b01 M F hr hg hm hb .nil b07 ha.p hdb he hpl) fun τ H Q d=>d.un fun σ G R l hg h up=>⟨σ,G,_,l,hg,h,λws G1 vs H1 h1 c a t1 q g m i j=>made h1 c a (up.mono t1) q g m i j⟩⟩
variable{σ:S3}{G:Hq}{R:K3}{nx bk ct:C3}{rt:K3}{q dx:Addr}{fs:List (Str×Z)}{v:Z}{Ra:List Z->Hq->Prop}
def b4s(h:te σ G λx G1=>∃q dx fs v,x=.ref q/\G1 q=some (.ins C dx fs)/\fs.lookup a=some v/\R v G1):uFld C te a σ G R:=h
def b4t(h:te σ G λy G1=>to σ G1 λx G2=>∃q dx fs,x=.ref q/\G2 q=some (.ins C dx fs)/\fs.length<1000/\nx σ (put G2 q (.ins C dx (putQ a y fs)))):a73 C to te a nx rt bk ct σ G:=h
def b1L(h:to σ G λx G1=>∃q dx fs,x=.ref q/\G1 q=some (.ins C dx fs)/\fs.lookup m=none/\t σ G1 λws G2=>sp (.ref q::ws) G2 R):a4v C m sp to t σ G R:=h
def b1M(h:t σ G λws G1=>∀q dx,G1 q=none->sp (.ref q::ws) (put G1 q (.ins C dx [])) λv G2=>v=.non/\R (.ref q) G2):b1K C sp t σ G R:=h
end
end L3
namespace L2
open PySem PySem.Spec PyProof.Rows
section
variable{X:Cx}{pins:List (Addr×Obj)}{σ:St}{H:Hp}{s:Shared}{a:Addr}{kvs:List (Key×V)}{k:Key}{d:V}{u r:Value}{A:Around}{E:Value->Shared->Prop}
def b4u(I:Inv X pins σ H s)(e:H a=some (.dK kvs))(ry:RelV (kV k) u)(rd:RelV d r)(hz:kvs.length<fG)
  (h1:∀v w' s',valV kvs k=some v->Inv X pins σ H s'->RelV v w'->Q w' s') (h2:valV kvs k=none->∀s',Inv X pins σ (upd H a (.dK (putK kvs k d))) s'->Q r s') :
  wpAny (model X.prog X.w) A (call (.builtin "dict.setdefault") [.ref a,u,r]) Q E s:=by
 obtain⟨z,f,n,b,h⟩:=a6h I.hok e;have l:(putK kvs k d).length<=sizeLine:=by have:=a06 kvs k d;lia
 refine ib PySem.F.slot_dict_setdefault h.typeIs PySem.F.entry_dict_setdefault (PySem.F.args_dict_setdefault_3 _ _ _) (kt_meets_setdefault _ a (a21 ry) f r) ⟨n,h,by rw[<- b.length];exact z,λm i=>?_,λx p c o=>?_⟩
 ·cases hv:valV kvs k with
  |none=>
   have:=(b.val k).isSome_eq
   rw[hv,i]at this;cases this
  |some v=>
   have g:=b.val k;rw[hv,i]at g;exact h1 v m _ hv (I.tok _) g
 ·have j:valV kvs k=none:=by
   have:=(b.val k).isSome_eq
   rw[x]at this;cases hv:valV kvs k with
   |none=>rfl
   |some v=>rw[hv]at this;cases this
  have t:∃q,p.get? a=some q:=by obtain⟨q,_,_,hq,_⟩:=c;exact⟨q,hq⟩
  exact h2 j _ (a2M I (e▸True.intro) o t (a4h l f (b.put k rd) c))
end
section
variable{X:Cx}
def b1N(hu:X.A.units+66<cLine):MtR X "dict.get" (λx vs H Q=>∃a y d o,x=.ref a/\vs=[y,d]/\DGet H a y o/\Q (o.getD d) H):=by
 intro f s σ H x m v t Q I c k ⟨a,y,d,o,h,e,g,q⟩;subst h e;cases c;obtain⟨u,r,rfl,j,l⟩:=a6T k;exact b3e (by lia) I g j l λn p i b=>⟨_,H,i,b,q⟩
def a9B(hu:X.A.units+66<cLine):MtR X "dict.get" (λx vs H Q=>∃a y o,x=.ref a/\vs=[y]/\DGet H a y o/\Q (o.getD .non) H):=by
 intro i s σ H x m v n Q I f e ⟨a,y,o,c,d,g,q⟩;subst c d;cases f;obtain⟨u,rfl,h⟩:=a20 e;exact b3d (by lia) I g h λl k j b=>⟨_,H,j,b,q⟩
def b1O:MtR X "dict.setdefault" (λx vs H Q=>∃a kvs k d,x=.ref a/\vs=[kV k,d]/\H a=some (.dK kvs)/\kvs.length<fG/\(∀v,valV kvs k=some v->Q v H)/\(valV kvs k=none->Q d (upd H a (.dK (putK kvs k d))))):=by
 intro m s σ H x z v B Q I i p ⟨a,y,k,d,n,j,e,q,g,t⟩;subst n j;cases i;obtain⟨u,r,rfl,o,f⟩:=a6T p;exact b4u I e o f q (λv A w l b c=>⟨v,H,b,c,g v l⟩) λh w b=>⟨d,_,b,f,t h⟩
def b4v(hu:X.A.units+66<cLine):OpR X (fM .In) (λx y H Q=>∃a o,y=.ref a/\DGet H a x o/\Q (.bl o.isSome) H):=by
 intro f s σ H x y u v Q I e b ⟨a,o,d,g,q⟩;subst d;cases b;exact d_in (by lia) I g e λh c=>⟨.bl o.isSome,H,c,rfl,q⟩
def a74(hu:X.A.units+66<cLine):OpR X (fM .NotIn) (λx y H Q=>∃a o,y=.ref a/\DGet H a x o/\Q (.bl (!o.isSome)) H):=by
 intro d s σ H x y u v Q I c f ⟨a,o,b,g,q⟩;subst b;cases f;exact b08 (by lia) I g c λh e=>⟨.bl _,H,e,rfl,q⟩
end
end L2
namespace L3
open PySem PySem.Spec PyProof.Rows L2
noncomputable def valZ(kvs:List (Key×Z))(k:Key):Option Z:=(kvs.find? λkv=>decide (kv.1=k)).map (·.2)
theorem a0A{K:Fg}:∀{kvs:List (Key×Z)}{us:List (Key×V)},us.map (·.1)=kvs.map (·.1)->Reps K H (kvs.map (·.2)) (us.map (·.2))->(valZ kvs k=none->valV us k=none)/\∀z,valZ kvs k=some z->∃v,valV us k=some v/\Rep K H z v
 |[],[],_,_=>⟨λ_=>rfl,λ_ h=>by cases h⟩
 |[],_::_,h,_=>by simp at h
 |_::_,[],h,_=>by simp at h
 | (c,x)::fs,(c',v)::gs,h,r=>by
  simp at h;obtain⟨rfl,h⟩:=h;obtain⟨g,f,e,d,a⟩:=r;obtain⟨rfl,rfl⟩:=ci.inj e;unfold valZ valV;rw[bO,bO];cases q:decide (c'=k) with
  |true=>
   refine⟨λe=>?_,λz e=>?_⟩
   ·cases e
   ·cases e;exact⟨v,rfl,d⟩
  |false=>exact (a0A (k:=k) h a)
section
variable{X:Cx}
def b1P:Z->List Z->Hq->K3->Prop:=λx xs G R=>match x,xs with
 |.ref p,[y,d]=>∃kvs k,(G p=some (.dK kvs)\/G p=some (.dF kvs))/\keyZ y=some k/\R ((valZ kvs k).getD d) G
 |_,_=>False
def b0s(hu:X.A.units+66<cLine):MtQ X "dict.get" b1P:=a40 (b1N hu) λx E H Q m=>m.un λw B G R j s i h l=>by
 match w,B,h with
 |.ref p,[y,d],h=>
  obtain⟨v,q,rfl,t,o⟩:=s.two;obtain⟨g,k,e,D,h⟩:=h;obtain⟨a,f,c,b⟩:∃a,Rd H p (.dK a)/\a.map _=g.map _/\Reps X.K H _ (a.map _):=by
   rcases e with e |e
   ·obtain⟨a,f,c,b⟩:=i _ _ e;exact⟨a,.inl f,c,b⟩
   ·obtain⟨C,a,f,c,b⟩:=i _ _ e;exact⟨a,.inr ⟨C,f⟩,c,b⟩
  refine⟨p,v,q,valV a k,j,rfl,by rw[a0M D t];exact .inl ⟨a,k,f,rfl,rfl⟩,?_⟩;cases hz:valZ g k with
  |none=>
   rw[hz]at h;rw[(a0A c b).1 hz];exact l _ _ _ _ h o i (.refl _ _)
  |some z=>
   rw[hz]at h;obtain⟨u,r,n⟩:=(a0A c b).2 z hz;rw[r];exact l _ _ _ _ h n i (.refl _ _)
def b4w:Z->List Z->Hq->K3->Prop:=λx xs G R=>match x,xs with
 |.ref p,[y]=>∃kvs k,G p=some (.dK kvs)/\keyZ y=some k/\R ((valZ kvs k).getD .non) G
 |_,_=>False
def b1Q(hu:X.A.units+66<cLine):MtQ X "dict.get" b4w:=a40 (a9B hu) λx t H Q n=>n.un λw l G R a j b h g=>by
 match w,l,h with
 |.ref p,[y],h=>
  obtain⟨v,rfl,m⟩:=j.one;obtain⟨c,k,e,q,h⟩:=h;obtain⟨r,s,d,f⟩:=b _ _ e;refine⟨p,v,valV r k,a,rfl,by rw[a0M q m];exact DGet.k s,?_⟩;cases hz:valZ c k with
  |none=>
   rw[hz]at h;rw[(a0A d f).1 hz];exact g _ _ _ _ h (by rw[dW,a0u];rfl) b (.refl _ _)
  |some z=>
   rw[hz]at h;obtain⟨u,i,o⟩:=(a0A d f).2 z hz;rw[i];exact g _ _ _ _ h o b (.refl _ _)
def b4x:Z->List Z->Hq->K3->Prop:=λx xs G R=>match x,xs with
 |.ref p,[y,d]=>∃kvs k,G p=some (.dK kvs)/\keyZ y=some k/\kvs.length<fG/\(∀z,valZ kvs k=some z->R z G)/\(valZ kvs k=none->R d (put G p (.dK (putZ kvs k d))))
 |_,_=>False
def a2v:MtQ X "dict.setdefault" b4x:=a40 b1O λx M H Q C=>C.un λw t G R i F l h r=>by
 match w,t,h with
 |.ref p,[y,d],h=>
  obtain⟨v,E,rfl,B,q⟩:=F.two;obtain⟨b,k,e,L,A,s,J⟩:=h;obtain⟨D,c,f,g⟩:=l _ _ e;refine⟨p,D,k,E,i,by rw[a0M L B],c,by rw[a7X f];exact A,λu a=>?_,λa=>?_⟩
  ·cases hq:valZ b k with
   |none=>rw[(a0A f g).1 hq]at a;cases a
   |some z=>
    obtain⟨I,j,m⟩:=(a0A f g).2 z hq;rw[j]at a;cases a;exact r _ _ _ _ (s z hq) m l (.refl _ _)
  ·cases hq:valZ b k with
   |some z=>
    obtain⟨I,j,m⟩:=(a0A f g).2 z hq;rw[j]at a;cases a
   |none=>
    have n:=a3M (k:=k) q f g;exact r _ _ _ _ (J hq) (q.mono (.dK c)) (l.set (.dK c) ⟨_,a0d,n.1,n.2.mono (.dK c)⟩) (.dK c)
def b4y(e:G p=some (.dK kvs))(a:keyZ y=some k)(h:R ((valZ kvs k).getD d) G):b1P (.ref p) [y,d] G R:=⟨kvs,k,.inl e,a,h⟩
def b1R(e:G p=some (.dK kvs)\/G p=some (.dF kvs))(a:keyZ y=some k)(h:R ((valZ kvs k).getD d) G):b1P (.ref p) [y,d] G R:=⟨kvs,k,e,a,h⟩
def b0t(e:G p=some (.dK kvs))(a:keyZ y=some k)(z:kvs.length<fG)(h1:∀z,valZ kvs k=some z->R z G)(h2:valZ kvs k=none->R d (put G p (.dK (putZ kvs k d)))):b4x (.ref p) [y,d] G R:=⟨kvs,k,e,a,z,h1,h2⟩
def a9C{P:Prop}(e:G p=some (.dK kvs))(h:P):tyZ "dict" (.ref p) G/\P:=⟨.inr ⟨rfl,kvs,.inl e⟩,h⟩
def b6I{P:Prop}(e:G p=some (.dK kvs)\/G p=some (.dF kvs))(h:P):tyZ "dict" (.ref p) G/\P:=⟨.inr ⟨rfl,kvs,e⟩,h⟩
end
def a75:List (E3×E3)->S3->Hq->(List (Z×Z)->Hq->Prop)->Prop
 |[],_,G,R=>R [] G
 | (tk,tv)::r,σ,G,R=>tk σ G λx G1=>tv σ G1 λy G2=>a75 r σ G2 λps G3=>R ((x,y)::ps) G3
noncomputable def keysOf:List (Z×Z)->Option (List (Key×Z))
 |[]=>some []
 | (x,y)::r=>match keyZ x,keysOf r with
  |some k,some kvs=>some ((k,y)::kvs)
  |_,_=>none
noncomputable def a5A(kvs more:List (Key×Z)):List (Key×Z):=more.foldl (λacc kv=>putZ acc kv.1 kv.2) kvs
def PReps(K:Fg)(H:Hp):List (Z×Z)->List (V×V)->Prop:=Paired λp q=>Rep K H p.1 q.1/\Rep K H p.2 q.2
def PReps.mono{K:Fg}(t:TK K H H'):∀{ps:List (Z×Z)}{vs:List (V×V)},PReps K H ps vs->PReps K H' ps vs:=by intro z0 y0 x0;induction x0 with
 |nil=>exact .nil
 |cons r s I0=>exact .cons ⟨r.1.mono t,r.2.mono t⟩ (I0)
section
variable{X:Cx}
theorem a4w:∀(trs:List (E3×E3)){σ:S3}{τ:L2.St}{G:Hq}{H:Hp}{R:List (Z×Z)->Hq->Prop}{Q:List (V×V)->Hp->Prop},RSt X.K H σ τ->RH X.K G H->a75 trs σ G R ->
  (∀ps G' vs H',R ps G'->PReps X.K H' ps vs->RH X.K G' H'->TK X.K H H'->Q vs H')->a5m (trs.map λt=>(low X.K t.1,low X.K t.2)) τ H Q
 |[],σ,τ,G,H,R,Q,hs,hg,h,up=>up [] G [] H h .nil hg (.refl _ _)
 |_::r,σ,τ,G,H,R,Q,hs,hg,h,up=>by
  refine⟨σ,G,_,hs,hg,h,λx n q p m l d c=>⟨σ,n,_,hs.mono c,d,m,λy s w u j i e a=>?_⟩⟩;refine a4w r (hs.mono (c.trans a)) e j λA v o z k g f b=>?_;exact up _ _ _ _ k (.cons ⟨l.mono (a.trans b),i.mono b⟩ g) f ((c.trans a).trans b)
def QPs(X:Cx)(pos:Pos)(keys:List (Option Expr))(values:List Expr)(trs:List (E3×E3)):Prop:=PPs X pos keys values (trs.map λt=>(low X.K t.1,low X.K t.2))
def a76:QPs X pos [] [] []:=b09
def a2G(hk:QE X k tk)(hv:QE X v tv)(hr:QPs X pos ks vs trs):QPs X pos (some k::ks) (v::vs) ((tk,tv)::trs):=a84 hk.p hv.p hr
theorem a5B{K:Fg}:∀{ps:List (Z×Z)}{vs:List (V×V)}{kvs:List (Key×Z)},PReps K H ps vs->keysOf ps=some kvs->∃us:List (Key×V),vs=us.map (λkv=>(kV kv.1,kv.2))/\us.map (·.1)=kvs.map (·.1)/\Reps K H (kvs.map (·.2)) (us.map (·.2))/\us.length=kvs.length
 |[],_,kvs,.nil,h=>by cases h;exact⟨[],rfl,rfl,by rw[bB,a0n];rfl,rfl⟩
 | (x,y)::ps,_,kvs,.cons (b:=b) r s,h=>by
  unfold keysOf at h;cases e1:keyZ x with
  |none=>rw[e1]at h;cases h
  |some k=>
   cases e2:keysOf ps with
   |none=>rw[e1,e2]at h;cases h
   |some kr=>
    rw[e1,e2]at h;cases h;obtain⟨d,c,e,i,j⟩:=a5B s e2;obtain⟨g,a⟩:=b;have f:g=kV k:=a0M e1 r.1;refine⟨(k,a)::d,by rw[aY,<- c,f],by rw[aY,aY,e],?_,by rw[bp,bp,j]⟩;exact⟨a,_,rfl,r.2,i⟩
theorem a4x{K:Fg}:∀{more:List (Key×Z)}{us:List (Key×V)}{kvs:List (Key×Z)}{vs:List (Key×V)},us.map (·.1)=more.map (·.1)->Reps K H (more.map (·.2)) (us.map (·.2))->vs.map (·.1)=kvs.map (·.1)->Reps K H (kvs.map (·.2)) (vs.map (·.2)) ->
  (a2s vs us).map (·.1)=(a5A kvs more).map (·.1)/\Reps K H ((a5A kvs more).map (·.2)) ((a2s vs us).map (·.2))
 |[],[],kvs,vs,_,_,h3,h4=>⟨h3,h4⟩
 |[],_::_,_,_,h,_,_,_=>by simp at h
 |_::_,[],_,_,h,_,_,_=>by simp at h
 | (k,x)::more,(k',v)::us,kvs,vs,a,h2,h3,h4=>by
  simp at a;obtain⟨rfl,a⟩:=a;obtain⟨f,d,e,b,c⟩:=h2;obtain⟨rfl,rfl⟩:=ci.inj e;have p:=a3M (k:=k') b h3 h4;exact a4x (more:=more) (us:=us) a c p.1 p.2
def b4z(trs:List (E3×E3)):E3:=fun σ G R=>∀p,G p=none->a75 trs σ (put G p (.dK [])) λps G2=>G2 p=some (.dK [])/\∃kvs,keysOf ps=some kvs/\kvs.length<=15/\R (.ref p) (put G2 p (.dK (a5A [] kvs)))
def b0u(h:QPs X pos keys values trs)(hall:keys.all (·.isSome)=true:=by rfl)(hl:keys.length=values.length:=by rfl)(h0:keys≠[]:=by simp)(h15:keys.length<=15:=by decide):QE X (.Dict keys values pos) (b4z trs):=
 ⟨a0I (b1a h hall hl h0 h15) fun τ H Q ⟨σ,G,R,t,j,h,q⟩ p a=>by
  have l:RH X.K (put G p (.dK [])) _:=j.set (.new a) ⟨[],a0d,rfl,by rw[bB,a0n];rfl⟩;refine a4w trs (t.mono (.new a)) l (h p (j.out a)) λps G2 vs g ⟨e,kvs,y,u,r⟩ x c s=>?_;obtain⟨b,k,n,r0⟩:=c _ _ e;have o:b=[]:=by simp_all
  subst o;obtain⟨f,A,w,v,z⟩:=a5B x y;have m:=a4x (vs:=[]) w v rfl (by omega);have d:TK X.K g (L2.upd g p (.dK (a2s [] f))):=.dK k;exact⟨k,f,A,by rw[z];exact u,q _ _ _ _ r (by rw[a0j]) (c.set d ⟨_,a0d,m.1,m.2.mono d⟩) (((TK.new a).trans s).trans d)⟩⟩
def zDIn(f:Bool->Bool):R3:=λx y G R=>match y with
 |.ref p=>∃kvs k,G p=some (.dK kvs)/\keyZ x=some k/\R (.bl (f (valZ kvs k).isSome)) G
 |_=>False
def a3O{K:Fg}(hn:us.map (·.1)=kvs.map (·.1))(rr:Reps K H (kvs.map (·.2)) (us.map (·.2))):(valV us k).isSome=(valZ kvs k).isSome:=by
 cases hz:valZ kvs k with
 |none=>rw[(a0A hn rr).1 hz];rfl
 |some z=>obtain⟨u,a,_⟩:=(a0A hn rr).2 z hz;rw[a];rfl
def b6J(hu:X.A.units+66<cLine):OpQ X (fM .In) (zDIn id):=a2c (b4v hu) λx y H Q n=>n.un λa b G R m c d h o=>by
 cases b with
 |ref p=>
  obtain⟨q,k,e,f,h⟩:=h;obtain⟨i,j,g,l⟩:=d _ _ e;exact⟨p,valV i k,c,by rw[a0M f m];exact DGet.k j,o _ _ _ _ h (by rw[a0q,a3O g l];rfl) d (.refl _ _)⟩
 |_=>exact bg h
end
end L3
namespace L3
theorem ln0{α:Type}{C:List α->Prop}(h:C []):∀us:List α,us.length=0->C us
 |[],_=>h
theorem lnS{α:Type}{C:List α->Prop}(h:∀a,∀us:List α,us.length=n->C (a::us)):∀us:List α,us.length=n+1->C us
 |a::us,e=>h a us (Nat.succ.inj e)
end L3
namespace L2
open PySem PySem.Spec PyProof.Rows
section
variable{X:Cx}
end
end L2
namespace L3
open PySem PySem.Spec PyProof.Rows L2
section
variable{X:Cx}{e:Expr}{es:List Expr}{t:A3}{x y:Str}{p p2 pos pos2:Pos}
end
section
variable{X:Cx}
end
end L3
namespace L2
open PySem PySem.Spec PyProof.Rows
section
variable{X:Cx}
def KD(X:Cx)(a:Addr)(kvs:List (Key×V)):Prop:=kvs.length<=fG/\(a==fX)=false/\∃vs,KV kvs vs/\∀h:Heap,X.K.In h->h.DictOf (a0i X.prog X.w) a vs
end
end L2
namespace L3
open PySem PySem.Spec PyProof.Rows L2
section
variable{X:Cx}
noncomputable def zV:Z->V
 |.str x=>.str x
 |.ref a=>.ref a
 |.int i=>.int i
 |_=>.non
noncomputable def b4A:Z->Bool
 |.str _=>true
 |.ref _=>true
 |.int _=>true
 |_=>false
def KDZ(X:Cx)(a:Addr)(kvs:List (Key×Z)):Prop:=(∀kv∈kvs,b4A kv.2=true)/\KD X a (kvs.map λkv=>(kv.1,zV kv.2))
def KTup(K:Fg)(a:Addr)(ss:List Str):Prop:=∃(o:Obj)(its:Array Value)(n:Nat),K.lookup a=some o/\o.cls=.type "tuple"/\o.data=.seq its n/\its.size<=fG/\Vals (ss.map V.str) its.toList
def KTup.sq{K:Fg}(h:KTup K a ss):SqT K H a (ss.map V.str):=.inr h
variable{t:A3}
end
def KDk(w:World)(K:Fg)(a:Addr)(kvs:List (Key×Z)):Prop:=(∀kv∈kvs,b4A kv.2=true)/\kvs.length<=fG/\(a==fX)=false/\∃vs:List (Key×Value),KV (kvs.map λkv=>(kv.1,zV kv.2)) vs/\∀(P:fK)(h:Heap),K.In h->h.DictOf (a0i P w) a vs
def KDk.at(h:KDk X.w X.K a kvs):KDZ X a kvs:=⟨h.1,by rw[aT];exact h.2.1,h.2.2.1,by obtain⟨vs,r,q⟩:=h.2.2.2;exact⟨vs,r,q X.prog⟩⟩
end L3
namespace L2
open PySem PySem.W
end L2
namespace L2
open PySem PySem.Spec PyProof.Rows
section
variable{X:Cx}{e:Addr}{oe:Obj}{C:Addr}
end
end L2
namespace L3
open PySem PySem.Spec PyProof.Rows L2
abbrev PX3:=List Z->Hq->K3->(Addr->Hq->Prop)->Prop
def UpX(K:Fg)(H:Hp)(EE:Addr->Hq->Prop)(E:XK):Prop:=∀C G H',EE C G->RH K G H'->TK K H H'->E (.ref C) none H'
def b6K{K:Fg}(t:TKs H H'):TK K H H':=⟨t.tup,λa b h=>by
 rcases h with ⟨o,h⟩ |h
 ·exact .inl ⟨o,t.frz _ _ _ h⟩
 ·exact .inr h,t.frz⟩
def UpN(K:Fg)(EE:Addr->Hq->Prop)(E:XK):Prop:=∀C G H',EE C G->RH K G H'->E (.ref C) none H'
def UpX.since{K:Fg}(h:UpX K H EE E):UpN K EE (since H E):=λC G a q r t=>h C G a q r (b6K t)
section
variable{X:Cx}{E:XK}{EE:Addr->Hq->Prop}{e e0:Expr}{es:List Expr}{x n:Str}{p pos np cpos hpos tpos:Pos}{t:A3}{te:E3}{k:Nat}{f C D:Addr}{fd:fY}{ps:List Str}{sp:PX3}
variable{o:Expr}{m:Str}{apos:Pos}{to:E3}{PC:Addr->Prop}
end
section
variable{X:Cx}{EW:XK}{N':List Str}{sc:Scope}{cap:List (Option Nat)}{tg iter elt:Expr}{ifs:List Expr}{wi:I3}{pt:Pt}{tt:T3}{te:E3}{pos:Pos}
end
section
variable{P:fK}{w:World}{K:Fg}{mg:Str->Option Value}{base:Heap}
end
mutual
def DZ(G:Hq):PyData->Z->Prop
 |.none,x=>x=.non
 |.bool b,x=>x=.bl b
 |.int i,x=>x=.int i
 |.str s,x=>x=.str s
 |.list ds,x=>∃p ws,x=.ref p/\G p=some (.lst ws)/\DZs G ds ws
 |.tuple ds,x=>∃ws,x=.tup ws/\DZs G ds ws
 |.dict _,_=>False
def DZs(G:Hq):List PyData->List Z->Prop
 |[],ws=>ws=[]
 |d::ds,ws=>∃w r,ws=w::r/\DZ G d w/\DZs G ds r
end
mutual
theorem DZ.sm{G G':Hq}(s:Sm G G'):∀{d:PyData}{w:Z},DZ G d w->DZ G' d w
 |.none,w,q=>by unfold DZ at q ⊢;exact q
 |.bool b,w,q=>by unfold DZ at q ⊢;exact q
 |.int i,w,q=>by unfold DZ at q ⊢;exact q
 |.str _,w,q=>by unfold DZ at q ⊢;exact q
 |.list ds,w,q=>by
  unfold DZ at q ⊢;obtain⟨p,ws,e,hp,q⟩:=q;exact⟨p,ws,e,s _ _ hp,DZs.sm s q⟩
 |.tuple ds,w,q=>by
  unfold DZ at q ⊢;obtain⟨ws,e,q⟩:=q;exact⟨ws,e,DZs.sm s q⟩
 |.dict _,w,q=>by unfold DZ at q;exact q.elim
theorem DZs.sm{G G':Hq}(s:Sm G G'):∀{ds:List PyData}{ws:List Z},DZs G ds ws->DZs G' ds ws
 |[],ws,q=>by unfold DZs at q ⊢;exact q
 |d::ds,ws,q=>by
  unfold DZs at q ⊢;obtain⟨w,r,e,q1,q2⟩:=q;exact⟨w,r,e,DZ.sm s q1,DZs.sm s q2⟩
end
section
variable{X:Cx}
end
end L3
namespace L2
open PySem PySem.Spec PyProof.Rows
end L2
namespace L3
open PySem PySem.Spec PyProof.Rows L2
section
variable{X:Cx}{E:XK}{e:Expr}{es:List Expr}{x n:Str}{p pos np hpos tpos:Pos}{t:A3}{k:Nat}{f D:Addr}{fd:fY}{ps:List Str}{sp:PX3}
end
end L3
namespace L2
open PySem PySem.Spec PyProof.Rows
noncomputable def ItD(o:Obj)(a:Addr)(kvs:List (Key×V)):It:=
 ⟨λi H=>H a=some (.frz o (.dK kvs))/\i<kvs.length,λi H x H'=>H'=H/\∃p,kvs[i]?=some p/\x=kV p.1,λi H=>H a=some (.frz o (.dK kvs))/\kvs.length<=i⟩
def b4B(h:(a0i P w).is k u=true):RelV (kV k) u:=by
 rcases a0o h with ⟨i,t,rfl,rfl⟩ |⟨x,t,rfl,rfl⟩ |⟨rfl,rfl⟩
 ·exact⟨t,rfl⟩
 ·exact⟨t,rfl⟩
 ·rfl
def a1Y:∀{kvs:List (Key×V)}{vs:List (Key×Value)},KV kvs vs->vs.length=kvs.length:=by intro z0;induction z0 with
 |nil=>intro vs h;cases h;rfl
 |cons p kvs I0=>
  intro vs h;cases h with
  |cons h1 h2=>rw[bp,bp,I0 h2]
theorem b0v:∀{kvs:List (Key×V)}{vs:List (Key×Value)}{i:Nat}{p:Key×V},KV kvs vs->kvs[i]?=some p->∃q,vs[i]?=some q/\p.1=q.1
 |[],vs,i,p,h,e=>by simp at e
 |p0::kvs,vs,i,p,h,e=>by
  cases h with
  |cons h1 h2=>
   cases i with
   |zero=>cases e;exact⟨_,rfl,h1.1⟩
   |succ i=>exact b0v (i:=i) h2 (by simpa using e)
theorem a77{P:fK}{w:World}{K:Fg}{tg:Expr}(a it:Addr){o:Obj}(kvs:List (Key×V)){es:Array im}{ep:Nat}(hd:o.data=.dict es ep):Turn P w K tg (ItD o a kvs) [it] it (λi h=>h.IsKeyIter it a i kvs.length ep) where
 mem:=by simp
 obj:=λi h st b hb=>by
  have e:b=it:=by simpa using hb
  subst e;obtain⟨o,e,c,d⟩:=st;exact⟨o,e,λv z=>by rw[d]at z;cases z⟩
 keep:=λi h h' st k=>st.at λo e=>k it (by simp) o e
 item:=by
  intro X hP hw hK hc i pins s σ H E I hf st hg;subst hP hw hK;obtain⟨ha,hi⟩:=hg;obtain⟨g,hz,hsm,vs,kv,dof⟩:=(show ObjOk X.prog X.w H s.heap a (.frz o (.dK kvs)) from I.hok a _ ha);obtain⟨f0,f1,f2,f3,f4,f5⟩:=hf it (by simp);have hl:=a1Y kv;have dat:s.heap.DictAt (a0i X.prog X.w) a vs ep:=by
   obtain⟨o',es',ep',h1,h2,h3,h4⟩:=dof;rw[g]at h1;cases h1;rw[hd]at h3;cases h3;exact⟨o,es,g,h2,hd,h4⟩
  obtain⟨p,hp⟩:∃p,kvs[i]?=some p:=⟨kvs[i],bh hi⟩;obtain⟨⟨k,v⟩,hq,e1⟩:=b0v kv hp;refine wpAny_pyNext_dict_item (by rw[hl];exact st) dat hq λkey h' hk st' sb=>?_;have I1:Inv X pins σ H { s with heap:=h' }:=I.turned (t':=s.toks) (λb o hb e=>(sb.2 b hb).trans e) f0 f1 f3 f4 f5;rw[hl]at st';obtain⟨oi,e,c,d⟩:=id st';exact⟨key,rfl,a8N (s:={ s with heap:=h' }) e c d (by decide) ⟨kV p.1,H,I1,by rw[e1];exact b4B hk,⟨rfl,p,hp,rfl⟩,st',λb hb=>(hf b hb).1⟩⟩
 done:=by
  intro X hP hw hK hc i pins s σ H E I hf st hg;subst hP hw hK;obtain⟨ha,hi⟩:=hg;obtain⟨g,hz,hsm,vs,kv,dof⟩:=(show ObjOk X.prog X.w H s.heap a (.frz o (.dK kvs)) from I.hok a _ ha);obtain⟨f0,f1,f2,f3,f4,f5⟩:=hf it (by simp);have hl:=a1Y kv;have dat:s.heap.DictAt (a0i X.prog X.w) a vs ep:=by
   obtain⟨o',es',ep',h1,h2,h3,h4⟩:=dof;rw[g]at h1;cases h1;rw[hd]at h3;cases h3;exact⟨o,es,g,h2,hd,h4⟩
  exact wpAny_pyNext_dict_end (I.ok.hd hc) (by rw[hl];exact st) dat (ei (by omega)) λh' eb=>⟨rfl,I.turned (t':=s.toks) (λb o hb e=>eb b o hb e) f0 f1 f3 f4 f5⟩
 self:=λ_ _ _ _ _ st h=>wpAny_pyIter_keyiter st h
section
variable{X:Cx}{pins:List (Addr×Obj)}{σ:St}{H:Hp}{s:Shared}{a:Addr}{kvs:List (Key×V)}{tg:Expr}
def Inv.freeze(I:Inv X pins σ H s)(e:H a=some (.dK kvs)):∃o,Inv X pins σ (upd H a (.frz o (.dK kvs))) s:=by
 obtain⟨p,k,t,x,h⟩:=(I.hok a _ e);have i:=h;obtain⟨o,C,B,g,r⟩:=i;refine⟨o,?_⟩;have l:∀b,H b=none->b≠a:=λb q z=>by rw[z,e]at q;cases q
 have j:∀b d,H b=some (.tup d)->b≠a:=λb d q z=>by rw[z,e]at q;cases q
 have A:∀b o u,H b=some (.frz o u)->b≠a:=λb o u q z=>by rw[z,e]at q;cases q
 have y:∀b f,H b=some (.tbl f)->b≠a:=λb f q z=>by rw[z,e]at q;cases q
 have m:∀b c,H b=some (.own c)->b≠a:=λb c q z=>by rw[z,e]at q;cases q
 refine I.un ⟨λb o q _ _ _=>q,λb o q _ _ _=>⟨o.slots,q⟩,λb o q n _=>by rw[a0e (l b n)];exact n,λb o q _=>⟨o,q⟩,λb d q=>by rw[a0e (j b d q)];exact q,λb o u q=>by rw[a0e (A b o u q)];exact q,λb f q=>⟨#[],by rw[a0e (y b f q),ej];exact q⟩⟩ λb u q=>?_
 by_cases hb:b=a
 ·subst hb;rw[a0d]at q;cases q;exact⟨g,p,k,t,x,h⟩
 ·rw[a0e hb]at q;exact (I.hok b u q).stay (λc v _ r=>r) (λc r=>by rw[a0e (m c b r)];exact r) λc d r=>by rw[a0e (j c d r)];exact r
def iDct(tl:TE):TI:=fun σ H R=>tl σ H λx H1=>∃a kvs,x=.ref a/\((H1 a=some (.dK kvs)/\∀o,R (ItD o a kvs) (upd H1 a (.frz o (.dK kvs))))\/∃o,H1 a=some (.frz o (.dK kvs))/\R (ItD o a kvs) H1)
def b1S(hl:PE X l tl):PI X tg l (iDct tl):=by
 intro c s σ H R I h;refine thn (hl c s σ H _ I h) λv d ⟨x,B,r,C,E⟩=>?_;obtain⟨a,f,e,q⟩:=E;subst e;cases C;have k:∀o i,Inv X c σ i d->i a=some (.frz o (.dK f))->R _ i->wpAny _ X.A _ (PIE X c σ tg R) X.xe d:=λo i j m q=>by
  obtain⟨g,M,t,L,D,y⟩:=(j.hok a _ m);obtain⟨N,n⟩:=y.dictAt;have p:=n;obtain⟨J,G,u,_,F,_⟩:=p;rw[g]at u;cases u;refine wpAny_pyIter_dict t n ⟨d.heap.objs.size,[d.heap.objs.size],_,_,i,rfl,j.kept λb o e=>Heap.get?_push_of_some _ e,a77 a _ f F,⟨_,Heap.get?_push_size _ rfl,rfl,by rw[a1Y D];rfl⟩,λb z=>?_,q⟩;have e:b=d.heap.objs.size:=by grind
  subst e;exact j.fpOk (aV _) (j.hok.fresh (aV _))
 rcases q with ⟨m,q⟩ |⟨o,m,q⟩
 ·obtain⟨o,j⟩:=r.freeze m;exact k o _ j a0d (q o)
 ·exact k o B r m q
end
end L2
namespace L3
open PySem PySem.Spec PyProof.Rows L2
noncomputable def keyW:Key->Z
 |.inl (some i)=>.int i
 |.inl none=>.non
 |.inr s=>.str s
theorem a5C{K:Fg}:∀k:Key,Rep K H (keyW k) (kV k)
 |.inl (some i)=>by show Rep K H (.int i) (.int i);rw[a0k]
 |.inl none=>by show Rep K H .non .non;rw[a0u]
 |.inr s=>by show Rep K H (.str s) (.str s);rw[a0r]
def wkD(x:Z)(G:Hq)(R:List Z->(Hq->Prop)->Hq->Prop):Prop:=match x with
 |.ref a=>∃kvs,(G a=some (.dK kvs)\/G a=some (.dF kvs))/\R (kvs.map λp=>keyW p.1) (λ_=>True) (put G a (.dF kvs))
 |_=>False
def iD(tl:E3):I3:=fun σ G R=>tl σ G λx G1=>wkD x G1 R
def a3m{K:Fg}{kvs:List (Key×Z)}(e:H0 a=some (.frz o (.dK us)))(hn:us.map (·.1)=kvs.map (·.1)):a23 K (kvs.map λp=>keyW p.1) (λ_=>True) (ItD o a us) H0:=λi G H g t n j=>by
 have d:=t.frd _ _ _ e;have l:us.length=kvs.length:=by have:=congrArg bM hn;simpa using this
 rw[aT]at j;refine⟨λh=>⟨d,by rw[aT]at h;lia⟩,λw b=>?_⟩;rw[aW]at b;cases hk:kvs[i]? with
 |none=>rw[hk]at b;cases b
 |some p=>
  rw[hk]at b;cases b;have k:=(aZ.mp hk).1;refine⟨⟨d,by lia⟩,?_⟩;rintro x m ⟨rfl,q,f,rfl⟩
  have:q.1=p.1:=by
   have c:(us.map (·.1))[i]?=some q.1:=by rw[aW,f];rfl
   rw[hn,aW,hk]at c;exact (bv.inj c).symm
  rw[this];exact⟨a5C _,g,.refl _ _⟩
section
variable{X:Cx}{tg l:Expr}{tl:E3}
def a1J(hl:QE X l tl):QI X tg l (iD tl):=a7v (b1S hl.p) fun τ H B u=>u.un fun σ G R z A h t=>by
 refine⟨σ,G,_,z,A,h,λw r v q d k c s=>?_⟩;cases w with
 |ref a=>
  obtain⟨j,e,d⟩:=d;rcases e with e |e
  ·obtain⟨g,f,i,n⟩:=c _ _ e;refine⟨a,g,k,.inl ⟨f,λo=>?_⟩⟩;have m:TK X.K q (L2.upd q a (.frz o (.dK g))):=.dK f;exact t _ _ _ _ _ d (a3m a0d i) (c.set m ⟨o,g,a0d,i,n.mono m⟩) (s.trans m)
  ·have x:=e;obtain⟨o,g,f,i,n⟩:=c _ _ e;refine⟨a,g,k,.inr ⟨o,f,?_⟩⟩;have y:put r a (.dF j)=r:=by
    funext b
    unfold put
    split
    ·simp_all
    ·rfl
   rw[y]at d;exact t _ _ _ _ _ d (a3m f i) c s
 |_=>exact bg d
def i_iD(h:tl σ G λx G1=>wkD x G1 R):iD tl σ G R:=h
def a5a(e:G p=some (.dK kvs)\/G p=some (.dF kvs))(h:R (kvs.map λp=>keyW p.1) (λ_=>True) (put G p (.dF kvs))):wkD (.ref p) G R:=⟨kvs,e,h⟩
end
end L3
namespace L2
open PySem PySem.Spec PyProof.Rows
def a78:∀{vs:List Value}{ss:List Str},i3 vs ss->Vals (ss.map V.str) vs:=by intro z0 y0 x0;induction x0 with
 |nil=>exact .nil
 |cons s t h I0=>exact .cons ⟨t,rfl⟩ (I0)
end L2
namespace L3
open PySem PySem.Spec PyProof.Rows L2
def a6n{K:Fg}:∀ss:List Str,Reps K H (ss.map Z.str) (ss.map V.str):=by intro z0;induction z0 with
 |nil=>rw[bB,bB,a0n]
 |cons s ss I0=>
  exact⟨_,_,rfl,by rw[a0r],I0⟩
end L3
namespace L2
open PySem PySem.Spec PyProof.Rows
structure Cl where
 x:Str
 np:Pos
 b₀:Stmt
 suite:List Stmt
 hp:Pos
noncomputable def Cl.h(n:Str)(c:Cl):ExceptHandler:=.ExceptHandler (some (.Name c.x c.np)) (some n) (c.b₀::c.suite) c.hp
inductive Picks (X:Cx) (C:Addr) (th:Addr->TS):List Cl->Prop
 |here {c:Cl} {cs:List Cl} {D:Addr} (hg:Gl X c.x) (hm:X.mg c.x=some (.ref D)) (hd:(c.x==("__debug__":Str))=false) (hD:PySem.W.exmOne X.K (.ref C) (.ref D)=some true)
   (hh:∀e oe,oe.cls=.ref C->oe.dict=none->PySem.W.notCls oe=true->PSs (X.hnd e oe) (c.b₀::c.suite) (th e)):Picks X C th (c::cs)
 |next {c:Cl} {cs:List Cl} {D:Addr} (hg:Gl X c.x) (hm:X.mg c.x=some (.ref D)) (hd:(c.x==("__debug__":Str))=false) (hD:PySem.W.exmOne X.K (.ref C) (.ref D)=some false) (hp:Picks X C th cs):Picks X C th (c::cs)
section
variable{X:Cx}{n:Str}{pos tpos:Pos}{ce:Expr}
end
end L2
namespace L3
open PySem PySem.Spec PyProof.Rows L2
inductive Alt (X:Cx) (cs:List Cl):List (Addr×(Addr->X3))->Prop
 |nil:Alt X cs []
 |cons {C:Addr} {th:Addr->X3} {l:List (Addr×(Addr->X3))} (h:Picks X C (λe=>lowS X.K (th e)) cs) (hs:Alt X cs l):Alt X cs ((C,th)::l)
theorem Alt.get:∀{l:List (Addr×(Addr->X3))},Alt X cs l->∀p∈l,Picks X p.1 (λe=>lowS X.K (p.2 e)) cs
 |_,.nil,p,h=>by simp at h
 |_,.cons h hs,p,hp=>by
  rcases bf.mp hp with rfl |hp
  ·omega
  ·exact hs.get p hp
section
variable{X:Cx}{e:Expr}{es:List Expr}{n:Str}{p pos tpos:Pos}{t:A3}{k:Nat}{f:Addr}{fd:fY}{ps:List Str}{sp:PX3}
end
end L3
namespace L2
open PySem PySem.W
end L2
namespace L2
open PySem PySem.Spec PyProof.Rows
end L2
namespace L3
open PySem PySem.Spec PyProof.Rows L2
section
variable{X:Cx}{K:Fg}{H H1:Hp}{a:Addr}{us us1:List (Key×V)}{o:Obj}{e:Expr}{t:E3}{G:Hq}{kvs:List (Key×Z)}
end
end L3
namespace DictP
open PySem PyProof.Rows
section
variable{prog:fK}{w:World}{A:Around}{E:Value->Shared->Prop}{s:Shared}{a:Addr}{xs:Array Value}{k:Nat}{sl:Array (Option Value)}
end
section
variable{prog:fK}{w:World}{A:Around}{R:Result->Shared->Prop}{I:Addr}{fp wr:List Addr}{G:Array iV->Array iV->Prop}{n:Nat}{P:Nat->Value->Prop}{St:Nat->Shared->Prop}
end
section
variable{prog:fK}{w:World}{A:Around}{K:Type}[DecidableEq K]{knd:KeyKind prog w K}
end
end DictP
namespace L2
open PySem PySem.Spec PyProof.Rows
section
variable{X:Cx}
end
section
variable{P:fK}{w:World}{A:Around}{E:Value->Shared->Prop}{s:Shared}
def a6o(h64:ss.length<64)
  (hcol:∀R:List Value->Shared->Prop,(∀(g:Heap)(tk:Nat)(d:Drawn)(vs:List Value)(ks:List Str),(∀b o,s.heap.get? b=some o->g.get? b=some o)->i3 vs ks->ks.Perm ss->R vs { s with heap:=g,drawn:=d,toks:=tk })->wpAny (model P w) A.in1 (collect (.ref r)) R E s)
  (h:∀(g g':Heap)(tk:Nat)(d:Drawn)(out:List Value)(n:Nat)(ts:List Str),(∀b o,s.heap.get? b=some o->g.get? b=some o)->(∀b o,g.get? b=some o->g'.get? b=some o)->g'.get? g.objs.size=some { cls:=.type "list",data:=.seq out.toArray n } ->
   i3 out ts->ts.Perm ss->i5 ts=true->Q (.ref g.objs.size) { s with heap:=g',drawn:=d,toks:=tk }):wpAny (model P w) A (call (.builtin "sorted") [.ref r]) Q E s:=by
 refine Calls.call_function_entry jp jq jr (args_sorted1 _) (fF (fI (fF (hcol _ λg t d f D x c l=>?_))));have F:=c.length.trans l.length_eq;have z:f.length<=sizeLine:=by rw[fR];lia
 refine fF (ie ?_ z);have k:(g.push _).get? g.objs.size=some (seqObj "list" f.toArray 0):=Heap.get?_push_size _ rfl;refine fF (f7 (gA js ⟨_,k,rfl⟩ jt (list_sort_treeK strKind_oneLt k c.keysOf (λH G B e=>keyKind_strs (e▸c)) (by lia) λi p v=>⟨_,rfl,?_⟩) (args_list_sort _)));obtain⟨y,u,C,q⟩:=sorted_out_str c p v;have a:=sortedHeap_at (out:=(arrOf i).map (·.2)) k;obtain⟨n,a⟩:=a;refine fI ⟨_,rfl,h g _ t d ((arrOf i).map (·.2)).toList n y x (λb o e=>?_) (by omega) u (C.trans l) q⟩;have j:=Heap.lt_size e;rw[sortedHeap_old (bj j) (by rw[Heap.size_push];exact cX j)];exact Heap.get?_push_of_some _ e
def b1T(hl:vs.length=ss.length)(h:∀(i:Nat)(v:Value),vs[i]?=some v->∃(x:Str)(t:Tok),ss[i]?=some x/\v=Value.str x t):i3 vs ss:=by
 induction vs generalizing ss with
 |nil=>cases ss with
  |nil=>exact .nil
  |cons _ _=>simp at hl
 |cons v vs ih=>cases ss with
  |nil=>simp at hl
  |cons x ss=>
   obtain⟨y,t,a,rfl⟩:=h 0 v rfl;cases a;exact .cons x t (ih (by simpa using hl) λi v e=>by simpa using h (i+1) v (by simpa using e))
end
section
variable{X:Cx}
def a9D(K:Fg):List V->Hp->VK->Prop:=λxs H Q=>∃(p:Addr)(kvs:List (Key×V))(ss:List Str),xs=[.ref p]/\H p=some (.dK kvs)/\kvs.map (·.1)=ss.map (λs=>(Sum.inr s:Key))/\ss.length<64 /\
 ∀(t:Addr)(ts:List Str),H t=none->ts.Perm ss->i5 ts=true->Q (.ref t) (upd H t (.lst (ts.map V.str)))
def a4y(hc:X.calm=true):CallR X (.builtin "sorted") (a9D X.K):=by
 intro y s σ H xs us Q I r h;obtain⟨p,kvs,ss,rfl,hd,L,F,q⟩:=h;obtain⟨u,rfl,rx⟩:=a20 r;cases rx;refine a6o F (λR U=>?_) λg g' j d E n M k1 k2 e T N a3=>?_
 ·obtain⟨z,lo,B,m,dd⟩:=a6h I.hok hd;obtain⟨ep,C⟩:=dd.dictAt;have D:B.length=ss.length:=by rw[<- m.length,<- aT,L,aT]
  refine PySem.W.kdu_collect (PySem.W.kdl_dict lo) (I.ok.hd hc) C (by rw[D,fR];lia) λg j S Y b=>(U g j s.drawn S.toList ss Y (b1T (by rw[cb,b.1,D]) λi v e=>?_) (.refl _));obtain⟨k,x,e1,e2⟩:=b.2 i v (by simp_all);have l:B.map (·.1)=ss.map λs=>(Sum.inr s):=m.keys▸L;have c:(ss.map λs=>(Sum.inr s))[i]?=some k:=by rw[<- l,aW,e1];rfl
  rw[aW]at c;cases hn:ss[i]? with
  |none=>rw[hn]at c;cases c
  |some n=>
   rw[hn]at c;cases c;obtain⟨t,e4⟩:=Value.isStrOf_shape e2;exact⟨n,t,rfl,e4⟩
 ·have G:Inv X y σ H { s with heap:=g,drawn:=d,toks:=j }:=(I.drew d).kept k1;exact⟨.ref g.objs.size,_,G.laid k2 (aV _) (show ObjOk X.prog X.w _ g' _ (.lst _) from ⟨by rw[aT,N.length_eq,fR];lia,E,n,a78 T,e⟩),rfl,q _ M (G.hok.fresh (aV _)) N a3⟩
end
end L2
namespace L3
open PySem PySem.Spec PyProof.Rows L2
section
variable{X:Cx}{K:Fg}{H:Hp}
def a5D:List Z->Hq->K3->Prop:=λxs G R=>match xs with
 |[.ref p]=>∃(kvs:List (Key×Z))(ss:List Str),G p=some (.dK kvs)/\kvs.map (·.1)=ss.map (λs=>(Sum.inr s:Key))/\ss.length<64/\∀(t:Addr)(ts:List Str),G t=none->ts.Perm ss->i5 ts=true->R (.ref t) (put G t (.lst (ts.map Z.str)))
 |_=>False
def a79(hc:X.calm=true):a2b X (.builtin "sorted") a5D:=a1C (a4y hc) λy H Q l=>l.un λg G R f b h u=>by
 match g,h with
 |[.ref p],h=>
  obtain⟨v,rfl,r⟩:=f.one;obtain⟨w,i,e,m,d,h⟩:=h;obtain⟨q,s,j,x⟩:=b _ _ e;exact⟨p,q,i,by rw[r],s,by rw[j];exact m,d,λt c a n k=>u _ _ _ _ (h t c (b.out a) n k) (by rw[a0j]) (b.set (.new a) ⟨_,a0d,a6n c⟩) (.new a)⟩
def a6p(e:G p=some (.dK kvs))(k:kvs.map (·.1)=ss.map (λs=>(Sum.inr s:Key)))(z:ss.length<64)(h:∀(t:Addr)(ts:List Str),G t=none->ts.Perm ss->i5 ts=true->R (.ref t) (put G t (.lst (ts.map Z.str)))):a5D [.ref p] G R:=⟨kvs,ss,e,k,z,h⟩
theorem Reps.dropLast:∀{ws:List Z}{vs:List V},Reps K H ws vs->Reps K H ws.dropLast vs.dropLast
 |[],vs,h=>by rw[a0n]at h;subst h;exact .nil
 |[w],vs,h=>by
  obtain⟨v,rfl,_⟩:=h.one;exact .nil
 |w::w'::ws,vs,h=>by
  obtain⟨v,r,rfl,c,b⟩:=h;have a:=b;obtain⟨e,d,rfl,_,_⟩:=a;exact .cons c (Reps.dropLast b)
end
end L3
namespace L2
open PySem PySem.Spec PyProof.Rows Tim
noncomputable def ptV:Pz->V
 |.inl none=>.non
 |.inl (some i)=>.int i
 |.inr s=>.str s
theorem b6L:∀{x:Pz}{u:Value},RelV (ptV x) u->PtIs x u
 |.inl none,_,h=>h
 |.inl (some _),_,h=>h
 |.inr _,_,h=>h
def b1U:∀{xs:List Pz}{us:List Value},Vals (xs.map ptV) us->PtsAre xs us:=by intro z0;induction z0 with
 |nil=>intro us r;rw[bB]at r;cases r;trivial
 |cons x xs I0=>
  intro us r;cases r with
  |cons r1 r2=>exact⟨b6L r1,I0 r2⟩
def a9E:∀{bs:List Addr}{us:List Value},Vals (bs.map V.ref) us->us=bs.map Value.ref:=by intro z0;induction z0 with
 |nil=>intro us r;rw[bB]at r;cases r;rfl
 |cons b bs I0=>
  intro us r;cases r with
  |cons r1 r2=>rw[I0 r2,r1];rfl
def a8a(H:Hp)(bs:List Addr)(rows:List (List Pz)):Prop:=bs.length=rows.length/\∀(i:Nat)(b:Addr)(x:List Pz),bs[i]?=some b->rows[i]?=some x->H b=some (.tup (x.map ptV))
theorem a4z(I:Inv X pins σ H s):∀{bs:List Addr}{rows:List (List Pz)},a8a H bs rows->RowsIn s.heap (bs.map Value.ref) rows
 |[],[],_=>trivial
 |[],_::_,h=>by have:=h.1;simp at this
 |_::_,[],h=>by have:=h.1;simp at this
 |b::bs,x::rows,h=>by
  refine⟨?_,a4z I ⟨by have:=h.1;simpa using this,λi c y e d=>h.2 (i+1) c y (by simp_all) (by simp_all)⟩⟩;obtain⟨_,j,r,o,g,a,n,f⟩:=(I.hok b _ (h.2 0 b x rfl rfl));exact⟨b,o,_,n,rfl,g,a,f,by simpa using b1U r⟩
end L2
namespace L3
open PySem PySem.Spec PyProof.Rows L2 Tim
noncomputable def ptZ:Pz->Z
 |.inl none=>.non
 |.inl (some i)=>.int i
 |.inr s=>.str s
noncomputable def tupZ(x:List Pz):Z:=.tup (x.map ptZ)
theorem rep_pt{K:Fg}:∀{x:Pz}{v:V},Rep K H (ptZ x) v↔v=ptV x
 |.inl none,v=>by unfold ptZ ptV;rw[a0u]
 |.inl (some _),v=>by unfold ptZ ptV;rw[a0k]
 |.inr _,v=>by unfold ptZ ptV;rw[a0r]
theorem reps_pts{K:Fg}:∀{xs:List Pz}{vs:List V},Reps K H (xs.map ptZ) vs↔vs=xs.map ptV
 |[],vs=>by rw[bB,a0n,bB]
 |x::xs,vs=>by
  rw[aY,a0x,aY]
  constructor
  ·rintro⟨v,r,rfl,a,b⟩;rw[rep_pt.mp a,reps_pts.mp b]
  ·rintro rfl;exact⟨_,_,rfl,rep_pt.mpr rfl,reps_pts.mpr rfl⟩
def a8b{K:Fg}:∀{rows:List (List Pz)}{vs:List V},Reps K H (rows.map tupZ) vs->∃bs:List Addr,vs=bs.map V.ref/\a8a H bs rows:=by intro z0;induction z0 with
 |nil=>
  intro vs h;subst h;exact⟨[],rfl,rfl,λi b x e=>by simp at e⟩
 |cons x rows I0=>
  intro vs h;obtain⟨v,r,rfl,c,m⟩:=h;obtain⟨a,n,rfl,e,k⟩:=c;rw[reps_pts.mp k]at e;obtain⟨l,rfl,j,g⟩:=I0 m;refine⟨a::l,rfl,by rw[bp,bp,j],λi b y d f=>?_⟩;cases i with
  |zero=>cases d;cases f;exact e
  |succ i=>exact g i b y (by simp_all) (by simp_all)
end L3
namespace L2
open PySem PySem.Spec PyProof.Rows
def a9F:IxR X (λx y H Q=>∃a kvs k v,x=.ref a/\y=kV k/\Rd H a (.dK kvs)/\valV kvs k=some v/\Q v H):=by
 intro h i b s σ H x y v u Q I B j ⟨a,D,k,w,A,m,e,l,q⟩ p;subst A m;cases B;obtain⟨z,E,t,d,c⟩:=a2L I.hok e;obtain⟨f,C,g⟩:=RelO.some_of (l▸d.val k);exact ji c.typeIs PySem.F.slot_dict_getitem.lookup (wpAny_getItem_of (a21 j) c.mapOf C ⟨rfl,w,H,I.tok _,g,q⟩) p
end L2
namespace L3
open PySem PySem.Spec PyProof.Rows L2
def b4C:R3:=λx y G R=>match x with
 |.ref p=>∃kvs k z,(G p=some (.dK kvs)\/G p=some (.dF kvs))/\keyZ y=some k/\valZ kvs k=some z/\R z G
 |_=>False
def a0v:IxQ X b4C:=b3m a9F λx y H Q u=>u.un λa b G R l o j h v=>by
 cases a with
 |ref p=>
  obtain⟨i,k,z,e,m,t,h⟩:=h;obtain⟨c,f,d,g⟩:∃c,Rd H p (.dK c)/\c.map _=i.map _/\Reps X.K H _ (c.map _):=by
   rcases e with e |e
   ·obtain⟨c,f,d,g⟩:=j _ _ e;exact⟨c,.inl f,d,g⟩
   ·obtain⟨q,c,f,d,g⟩:=j _ _ e;exact⟨c,.inr ⟨q,f⟩,d,g⟩
  obtain⟨s,n,r⟩:=(a0A d g).2 z t;exact⟨p,c,k,s,l,a0M m o,f,n,v _ _ _ _ h r j (.refl _ _)⟩
 |_=>exact bg h
def a0t(e:G p=some (.dK kvs)\/G p=some (.dF kvs))(a:keyZ y=some k)(v:valZ kvs k=some w)(h:R w G):b4C (.ref p) y G R:=⟨kvs,k,w,e,a,v,h⟩
end L3
namespace L2
open PySem PySem.Spec PyProof.Rows
section
variable{X:Cx}
end
end L2
namespace L3
open PySem PySem.Spec PyProof.Rows L2
section
variable{X:Cx}{e:Expr}{es:List Expr}{t:A3}{x y:Str}{p p2 pos pos2:Pos}
end
end L3
namespace DictP
open PySem PyProof.Rows
section
variable{prog:fK}{w:World}{K:Type}[DecidableEq K]{knd:KeyKind prog w K}
end
section
variable{prog:fK}{w:World}{A:Around}{K:Type}[DecidableEq K]{knd:KeyKind prog w K}
end
end DictP
namespace L2
open PySem PySem.Spec PyProof.Rows
section
variable{X:Cx}
end
end L2
namespace L3
open PySem PySem.Spec PyProof.Rows L2
section
variable{X:Cx}{K:Fg}{H:Hp}
end
end L3
namespace L2
open PySem PySem.Spec PyProof.Rows
end L2
namespace L3
open PySem PySem.Spec PyProof.Rows L2
end L3
namespace Tim
open PySem PyProof.Rows PySem.W
def RowQ(h:Heap)(v:Value)(xs:List Pz):Prop:=∃a o its n ps b,v=.ref a/\h.get? a=some o/\o.cls=.type "tuple"/\o.data=.seq its n/\its.toList=ps++[Value.ref b]/\PtsAre xs ps
def RowQ.uniq(r:RowQ h v xs)(q:RowQ h v ys):xs=ys:=by
 obtain⟨a,o,s,n,x,b,rfl,j,_,m,l,g⟩:=r;obtain⟨z,y,k,u,t,w,i,f,_,d,c,p⟩:=q;cases i;rw[j]at f;cases f;rw[m]at d;cases d;rw[l]at c;have e:=(List.append_inj' c rfl).1;subst e;exact g.uniq p
def RowsQ(h:Heap):List Value->List (List Pz)->Prop
 |[],[]=>True
 |v::vs,x::xs=>RowQ h v x/\RowsQ h vs xs
 |_,_=>False
theorem RowsQ.mem:∀{vs:List Value}{rows:List (List Pz)},RowsQ h vs rows->∀v∈vs,∃x∈rows,RowQ h v x
 |v::vs,x::xs,⟨r,q⟩,u,hu=>by
  rcases bf.mp hu with rfl |hu
  ·exact⟨x,.head _,r⟩
  ·obtain⟨y,a,b⟩:=q.mem u hu;exact⟨y,.tail _ a,b⟩
 |[],[],_,u,hu=>by simp at hu
 |[],_::_,r,_,_=>r.elim
 |_::_,[],r,_,_=>r.elim
theorem RowsQ.inj:∀{vs:List Value}{rows:List (List Pz)},RowsQ h vs rows->rows.Nodup->∀{v u x},v∈vs->u∈vs->RowQ h v x->RowQ h u x->v=u
 |w::vs,y::ys,⟨r,q⟩,nd,v,u,x,hv,hu,e1,e2=>by
  obtain⟨e,g⟩:=bX.mp nd;have c:∀{z},z∈vs->RowQ h z x->RowQ h w x->False:=λf a b=>by
   obtain⟨j,d,i⟩:=q.mem _ f;rw[i.uniq a]at d;rw[b.uniq r]at d;exact e d
  rcases bf.mp hv with c1 |c1
  ·rcases bf.mp hu with c2 |c2
   ·simp_all
   ·rw[c1]at e1;exact (c c2 e2 e1).elim
  ·rcases bf.mp hu with c2 |c2
   ·rw[c2]at e2;exact (c c1 e1 e2).elim
   ·exact q.inj g c1 c2 e1 e2
 |[],[],_,_,_,_,_,hv,_,_,_=>by simp at hv
 |[],_::_,r,_,_,_,_,_,_,_,_=>r.elim
 |_::_,[],r,_,_,_,_,_,_,_,_=>r.elim
section
variable{prog:fK}{w:World}{A:Around}{E:Value->Shared->Prop}{s:Shared}{a₀:Array Keyed}{b:Bool}{Q:Bool->Shared->Prop}
end
def perm_lift{α β:Type}{f:α->β}:∀{l:List α}{m:List β},m.Perm (l.map f)->∃l':List α,l'.Perm l/\l'.map f=m:=by
 intro l m h;generalize hk:l.map f=k at h
 induction h generalizing l with
 |nil=>exact⟨l,.refl _,hk⟩
 |cons x _ ih=>
  cases l with
  |nil=>simp at hk
  |cons y l=>
   injection hk with h1 h2
   obtain⟨e,c,d⟩:=ih h2;exact⟨y::e,c.cons y,by rw[aY,h1,d]⟩
 |swap x y t=>
  match l,hk with
  |a::b::l,hk=>
   injection hk with h1 hk
   injection hk with h2 h3
   exact⟨b::a::l,.swap ..,by rw[aY,aY,h1,h2,h3]⟩
 |trans _ _ ih1 ih2=>
  obtain⟨n,c,d⟩:=ih2 hk;obtain⟨g,j,i⟩:=ih1 d;exact⟨g,j.trans c,i⟩
end Tim
namespace L2
open PySem PySem.Spec PyProof.Rows Tim
end L2
namespace L3
open PySem PySem.Spec PyProof.Rows L2 Tim
end L3
namespace Tim
open PySem PyProof.Rows PySem.W
section
variable{prog:fK}{w:World}{A:Around}{E:Value->Shared->Prop}{s:Shared}
end
end Tim
namespace L2
open PySem PySem.Spec PyProof.Rows Tim
end L2
namespace L3
open PySem PySem.Spec PyProof.Rows L2 Tim
variable{X:Cx}
end L3
namespace L2
open PySem PySem.Spec PyProof.Rows
section
variable{P:fK}{w:World}{K:Fg}{mg:Str->Option Value}{base:Heap}
def b1V{k:Nat}{f c':Addr}{name qual:Str}{params:g7}{body:Expr}{scope:Scope}{pm ctv:Value}{N ps:List Str}(S:FnScope N ps scope)
  (hbind:∀us:List Value,us.length=ps.length->hZ (PySem.W.kla_fn name qual params body scope [] pm (.ref c') ctv) ⟨us,[]⟩=pure (ps.zip us))
  {A:Around}{outer:List Env}{s:Shared}{H:Hp}{us:List Value}{vs:List V}{Q:VK}(hr:Room k A) (e0:Env0 P w K mg base A outer s H) (r:Vals vs us) (hl:vs.length=ps.length)
  (ho:s.heap.get? f=some (PySem.W.kla_obj name qual params body scope [] pm c' ctv)) (hcd:s.heap.CodeRec (.ref c') qual)
  {t:TE}(ht:PE (cxOf CX0 P w K mg base N qual scope f (.ref c') A outer s H E0).nox body t) (hq:t (start N vs) H Q) :
  gq (model P w) A (.call (.ref f) ⟨us,[]⟩) (CR CX0 outer P w H s Q E0) s:=by
 have lim:s.heap.NoLimit:=e0.mod.nolimit.keeps λb o e=>(e0.bs b o e).1;have hkind:∀y∈ps.zip us,scope.names.lookup y.1=some .local\/(scope.names.lookup y.1=some .cell/\((fQ (s.heap.objs.size+1) scope.names []).lookup y.1).isSome=true):=λ⟨n,v⟩ hy=>by
  rcases S.par n (cG hy).1 with q |q
  ·exact .inl q
  ·exact .inr ⟨q,PySem.W.cellsFrom_some _ _ _ (.inl q)⟩
 refine PySem.W.kla_callFunE hr.depth ho rfl S.co S.gen rfl hcd ?_;rw[hbind us (by rw[<- r.length];exact hl)];refine fI ?_;refine wpAny_newFunctionEnv_cells S.kind hkind λenv he s1 x=>?_;subst he;refine⟨lim.keeps x.toInCall.keep,PySem.W.kla_codeExpr ?_⟩;have I:Inv (cxOf CX0 P w K mg base N qual scope f (.ref c') A outer s H E0) [] (start N vs) H s1:=a4d S hr.hd e0 hl r x;exact fW (ht [] s1 (start N vs) H Q (I.wish _) hq) (λu s' ⟨v,H',J,rv,q⟩=>⟨v,H',J.os,J.bare,J.base,J.hok,rv,q⟩) λe s' hs=>hs.elim
end
def a9G{Pr:fK}{w:World}{H:Hp}{h:Heap}{c:Addr}{q:Str}(r:h.CodeRec (.ref c) q):∃oc,h.get? c=some oc/\ObjOk Pr w H h c (a19 c q):=by
 obtain⟨c0,o,vs,t,e,g,d,x⟩:=r;cases e;exact⟨o,g,⟨c,o,vs,t,rfl,g,d,x⟩,⟨o,g⟩,λh1 h2 ⟨c1,o1,vs1,t1,e1,g1,d1,x1⟩ k=>by cases e1;exact⟨c,o1,vs1,t1,rfl,k _ g1,d1,x1⟩⟩
def a9H{X:Cx}{pins:List (Addr×Obj)}{σ:St}{H:Hp}{s:Shared}{params:g7}{body:Expr}{scope:Scope}{lpos:Pos}{c P:Addr}{q:Str}{E:Value->Shared->Prop}{Q:Value->Shared->Prop}(I:Inv X pins σ H s)(hT:Tab H P lpos q)(hq:q=X.env.qual++"<lambda>")
  (hdef:jx params X.env=([],[])) (hcl:iB scope X.env=pure []) (hcode:X.env.code=.ref c) (hhd:PySem.W.codeHdIn X.K c P=true) (hgP:fU≠P) (hb:X.base.BuiltinsAt X.mg P)
  (h:∀(f c':Addr)(H':Hp)(pm ctv:Value)(s1:Shared)(oc:Obj),Inv X (pins++[(f,PySem.W.kla_obj "<lambda>" q params body scope [] pm c' ctv)]) σ H' s1->H' c'=some (.frz oc (a19 c' q))->Tab H' P lpos q->(∀b u,H b=some u->b≠P->H' b=some u)->Q (.ref f) s1) :
  wpAny (model X.prog X.w) X.A (eval (.Lambda params body scope lpos) X.env) Q E s:=by
 refine PySem.W.kla_eval hdef ?_;rw[<- hq];obtain⟨ps,hP,ht⟩:=hT;have oP:s.heap.get? P=some (PySem.W.tabObj ps):=I.hok P _ hP;have hg:s.heap.Ns fU X.mg:=I.ok.mod.glob.keeps I.bk;have pin:∀(H':Hp)(s1:Shared)(f:Addr)(o:Obj),Inv X pins σ H' s1->s1.heap.get? f=some o->H' f=none->s.heap.objs.size<=f->(∀v,o.data≠.cell v)->Inv X (pins++[(f,o)]) σ H' s1:=λH' s1 f o J e n l d=>by
  refine J.pins_of λp hp=>?_;rcases aU.mp hp with hp |hp
  ·exact J.pin p (bK _ hp)
  ·rw[aX.mp hp];exact⟨e,n,cn (bx I.lt l),I.nofs l,d⟩
 rcases ht with rfl |⟨c0,oc,rfl,hc⟩
 ·refine PySem.W.kla_makeFunction hcl I.ok.glob hg hcode (PySem.W.codeHd_of_K I.kIn hhd) oP trivial rfl hgP (hb.keeps I.bk) λc' ctv h' tk hx hge hlt hrec htb=>?_;generalize hfo:PySem.W.kla_obj "<lambda>" q params body scope [] ((X.mg "__name__").getD .none) c' ctv=fo;have hfd:∀v,fo.data≠.cell v:=λv z=>by rw[<- hfo]at z;cases z
  have hn:H c'=none:=I.hok.fresh hge;have hcP:c'≠P:=a0p hP hn |>.symm;have up:∀b o,b≠P->s.heap.get? b=some o->(h'.push fo).get? b=some o:=λb o hb e=>Heap.get?_push_of_some _ (hx b o hb e);have nP:∀b,H b=none->b≠P:=λb e z=>by rw[z,hP]at e;cases e
  have nc:∀b o,s.heap.get? b=some o->b≠c':=λb o e=>bj (bx (Heap.lt_size e) hge);obtain⟨oc,goc,ook⟩:=a9G (Pr:=X.prog) (w:=X.w) (H:=upd (upd H P (.tbl (#[]++#[rawInt lpos.line,rawInt lpos.col,.ref c']))) c' (.frz default (a19 c' q))) (hrec.push fo);obtain⟨oc,goc,ook⟩:∃oc,(h'.push fo).get? c'=some oc/\ObjOk X.prog X.w (upd (upd H P (.tbl (#[]++#[rawInt lpos.line,rawInt lpos.col,.ref c']))) c' (.frz oc (a19 c' q))) (h'.push fo) c' (a19 c' q):=⟨oc,goc,ook⟩;have old:∀b u,H b=some u->b≠P->upd (upd H P (.tbl (#[]++#[rawInt lpos.line,rawInt lpos.col,.ref c']))) c' (.frz oc (a19 c' q)) b=some u:=λb u e hb=>by
   rw[a0e (a0p e hn),a0e hb];exact e
  have tP:upd (upd H P (.tbl (#[]++#[rawInt lpos.line,rawInt lpos.col,.ref c']))) c' (.frz oc (a19 c' q)) P=some (.tbl (#[]++#[rawInt lpos.line,rawInt lpos.col,.ref c'])):=by rw[a0e hcP.symm,a0d]
  have J:Inv X pins σ (upd (upd H P (.tbl (#[]++#[rawInt lpos.line,rawInt lpos.col,.ref c']))) c' (.frz oc (a19 c' q))) { s with heap:=h'.push fo,toks:=tk }:=by
   refine I.un ⟨λb o e n _ _=>up b o (nP b n) e,λb o e n _ _=>⟨o.slots,up b o (nP b n) e⟩,λb o e n _=>by rw[a0e (nc b o e),a0e (nP b n)];exact n,λb o e _=>?_,λb xs e=>old b _ e λz=>(by rw[z,hP]at e;cases e),λb o u e=>old b _ e λz=>(by rw[z,hP]at e;cases e),λb ps e=>?_⟩ λb u e=>?_
   ·by_cases hb:b=P
    ·rw[hb];exact⟨_,Heap.get?_push_of_some _ htb⟩
    ·exact⟨o,up b o hb e⟩
   ·by_cases hb:b=P
    ·subst hb;rw[hP]at e;cases e;exact⟨_,tP⟩
    ·exact⟨#[],by rw[ej];exact old b _ e hb⟩
   ·by_cases hb:b=c'
    ·subst hb;rw[a0d]at e;cases e;exact⟨goc,ook⟩
    ·by_cases hb2:b=P
     ·subst hb2;rw[tP]at e;cases e;exact Heap.get?_push_of_some _ htb
     ·rw[a0e hb,a0e hb2]at e;refine (I.hok b u e).stay (λd v hd q=>up d v ?_ q) (λd r=>old d _ r λz=>by rw[z,hP]at r;cases r) λd xs r=>old d _ r λz=>by rw[z,hP]at r;cases r
      rcases hd with z |z
      ·rw[z];exact hb2
      ·intro y;rw[y,hP]at z;cases z
  have gf:(h'.push fo).get? h'.objs.size=some fo:=Heap.get?_push_size _ (by rw[<- hfo];rfl);have hs':s.heap.objs.size<=h'.objs.size:=b9 (dw hge hlt);have nf:upd (upd H P (.tbl (#[]++#[rawInt lpos.line,rawInt lpos.col,.ref c']))) c' (.frz oc (a19 c' q)) h'.objs.size=none:=by
   rw[a0e (cn hlt),a0e (nP _ (I.hok.fresh hs'))];exact I.hok.fresh hs'
  have J2:=pin _ _ _ fo J gf nf hs' hfd;rw[<- hfo]at J2;rw[<- hfo];exact h _ c' _ _ ctv _ oc J2 a0d ⟨_,tP,.inr ⟨c',oc,by simp,a0d⟩⟩ old
 ·refine PySem.W.kla_makeFunctionHit hcl I.ok.glob hg hcode (PySem.W.codeHd_of_K I.kIn hhd) oP trivial (cv:=.ref c0) (by simp[codeAmong,rawInt]) (hb.keeps I.bk) λctv h' tk kp sz=>?_;have J:Inv X pins σ H { s with heap:=h'.push (PySem.W.kla_obj "<lambda>" q params body scope [] ((X.mg "__name__").getD .none) c0 ctv),toks:=tk }:=I.kept λb o e=>Heap.get?_push_of_some _ (kp b o e);exact h _ c0 H _ ctv _ oc (pin _ _ _ _ J (Heap.get?_push_size _ rfl) (I.hok.fresh sz) sz λv z=>by cases z) hc ⟨_,hP,.inr ⟨c0,oc,rfl,hc⟩⟩ λb u e _=>e
section
variable{X:Cx}{pins pl:List (Addr×Obj)}{σ:St}{H:Hp}{s:Shared}{h':Heap}{b:Addr}
def Inv.repin{o o':Obj}{t':Nat}(I:Inv X (pl++[(b,o)]) σ H s)(fb:FpOk X pl H b)(k:∀c u,c≠b->s.heap.get? c=some u->h'.get? c=some u)(g:h'.get? b=some o')(d:∀v,o'.data≠.cell v):Inv X (pl++[(b,o')]) σ H { s with heap:=h',toks:=t' }:=by
 obtain⟨f0,f1,f2,f3,f4,f5⟩:=fb;have J:Inv X pl σ H { s with heap:=h',toks:=t' }:=I.unpinned.turned k f0 f1 f3 f4 f5;refine J.pins_of λp hp=>?_;rcases aU.mp hp with hp |hp
 ·exact J.pin p (bK _ hp)
 ·rw[aX.mp hp];exact⟨g,f0,f1,f2,d⟩
def Inv.adopt{o:HO}{t':Nat}(I:Inv X pl σ H s)(fb:FpOk X pl H b)(k:∀c u,c≠b->s.heap.get? c=some u->h'.get? c=some u)(new:ObjOk X.prog X.w (upd H b o) h' b o)(th:∃u,h'.get? b=some u):Inv X pl σ (upd H b o) { s with heap:=h',toks:=t' }:=by
 obtain⟨f0,f1,f2,f3,f4,f5⟩:=fb;have nb:∀c u,H c=some u->c≠b:=λc u e z=>by rw[z,f0]at e;cases e
 refine I.step (g':=s.gens) (d':=s.drawn) (ch:=[b]) (λc hc=>?_) (λc u _ _ hc e _=>k c u (by simpa using hc) e) (λc u _ _ hc e _=>⟨u.slots,k c u (by simpa using hc) e⟩) (λc u hc _ n=>by rw[a0e (by simpa using hc)];exact n) (λc u hc e=>⟨u,k c u (by simpa using hc) e⟩)
  (λc xs e=>by rw[a0e (nb c _ e)];exact e) (λc _ _ e=>by rw[a0e (nb c _ e)];exact e) (λc ps e=>⟨#[],by rw[a0e (nb c _ e),ej];exact e⟩) (λm hm=>?_) (λc u e=>?_) I.bare
 ·rw[aX.mp hc];exact⟨f3,f1,f4,f5⟩
 ·obtain⟨u,es,ep,ho,r⟩:=hm;exact⟨u,es,ep,k _ u (λz=>f1 z.symm) ho,r⟩
 ·by_cases hb:c=b
  ·subst hb;rw[a0d]at e;cases e;exact new
  ·rw[a0e hb]at e;refine (I.hok c u e).stay (λd v hd q=>k d v ?_ q) (λd q=>by rw[a0e (nb d _ q)];exact q) λd xs q=>by rw[a0e (nb d _ q)];exact q
   rcases hd with z |z
   ·rw[z];exact hb
   ·exact nb d _ z
end
section
variable{X:Cx}{pf:List (Addr×Obj)}{σ:St}{H:Hp}{s:Shared}{a kS f:Addr}{vs:List Value}{kz:List Int}{e1:Nat}{P:Fin->Shared->Prop}{E:Value->Shared->Prop}
abbrev lObj(xs:Array Value)(n:Nat):Obj:=seqObj "list" xs n
def a3P(xs:Array Value)(n:Nat):∀v,(lObj xs n).data≠.cell v:=λv z=>by cases z
def FpOk.re{X:Cx}{pl:List (Addr×Obj)}{H H':Hp}{b:Addr}(f:FpOk X pl H b)(h:H' b=none):FpOk X pl H' b:=⟨h,f.2⟩
def b1W{keys:Array Value}{e:Nat}(I:Inv X (pf++[(a,lObj #[] e1),(kS,lObj keys e)]) σ H s)(fa:FpOk X pf H a)(fk:FpOk X (pf++[(a,lObj #[] e1)]) H kS)(hk:f6 keys.toList kz)(hlen:kz.length=vs.length)(hz:vs.length<=100000)
  (h:∀(s':Shared)(out:List Value)(n:Nat),KskOut false kz vs out->Inv X pf σ H s'->FpOk X pf H a->s'.heap.get? a=some (lObj #[] e1)->P (.done (.ret .none)) { s' with heap:=s'.heap.update a (Obj.mapSeq λ_=>out.toArray) }) :
  wpAny (model X.prog X.w) X.A.in1.in1 (ksk_end a false vs.toArray e1 (.ref kS) keys) P E s:=by
 have hsz:keys.size=vs.length:=by
  have h1:=hk.length;rw[cb]at h1;omega
 have hzs:(keys.zip vs.toArray).size=vs.length:=by rw[Array.size_zip,hsz,bG,Nat.min_self]
 have gk:s.heap.get? kS=some (lObj keys e):=(I.pin (kS,lObj keys e) (by simp)).1;have ga:s.heap.get? a=some (lObj #[] e1):=(I.pin (a,lObj #[] e1) (by simp)).1;have hne:a≠kS:=fk.2.2.2.2.2 (a,lObj #[] e1) (by simp);have tail:∀st:SortSt,(arrOf st).Perm (keys.zip vs.toArray)->SortedTo (arrOf st) (arrOf st).size->f8 st=none->wpAny (model X.prog X.w) X.A.in1.in1 (ksk_tail a false e1 (.ref kS) st) P E s:=λst hp hs hf=>by
  have hl2:(arrOf st).size=vs.length:=by rw[hp.size_eq,hzs]
  unfold ksk_tail;dsimp only;refine fF (g9 gk rfl ?_ (by rw[hsz,fR];omega) (bE _));refine fF (ig ?_);have s1:=Heap.SameBut.update s.heap kS (Obj.mapSeq λ_=>(#[]:Array Value));have J:Inv X (pf++[(a,lObj #[] e1)]) σ H { s with heap:=s.heap.update kS (Obj.mapSeq λ_=>(#[]:Array Value)) }:=by
   obtain⟨c2,hc2⟩:∃c2,(s.heap.update kS (Obj.mapSeq λ_=>(#[]:Array Value))).get? kS=some (lObj #[] c2):=⟨_,get?_update_seq gk λ_=>#[]⟩;exact (Inv.repin (t':=s.toks) (pl:=pf++[(a,lObj #[] e1)]) (by simpa using I) fk (λc u hc q=>(s1.2 c hc).trans q) hc2 (a3P _ _)).unpinned
  have ga1:(s.heap.update kS (Obj.mapSeq λ_=>(#[]:Array Value))).get? a=some (lObj #[] e1):=(s1.2 a hne).trans ga;refine fF (iG ga1 rfl ?_);refine fF (g9 ga1 rfl ?_ (bE _) (by simp only[bQ,if_false,e9];rw[hl2,fR];omega));rw[hf];simp only[bne_self_eq_false,bQ,if_false];have ko:=ksk_out (b:=false) hk hp hs;simp only[bQ,if_false]at ko
  have:=h { s with heap:=s.heap.update kS (Obj.mapSeq λ_=>(#[]:Array Value)) } _ 0 ko J.unpinned fa ga1
  simp only[e8]at this;exact fI this
 unfold ksk_end;dsimp only;simp only[bQ,if_false]
 by_cases h2:vs.toArray.size<2
 ·rw[if_pos h2,if_pos h2];refine fF (fI ?_);rw[StateT.run_pure];refine fF (fI ?_);dsimp only;refine tail (SortSt.mk' general' (keys.zip vs.toArray) #[] 7 none) (dh.refl _) ?_ rfl;intro i j hij hj;have hj2:j<(keys.zip vs.toArray).size:=hj;rw[hzs]at hj2;rw[bG]at h2
  have:i=j:=by omega
  subst this;exact bZ _
 ·rw[if_neg h2,if_neg h2];rw[bG]at h2;rw[ksk_kind hk (by rw[hsz];omega)];refine fF (fI ?_);refine fF (fW (Tim.t_sortRuns (a₀:=keys.zip vs.toArray) (κ:=Tim.kN) (k0:=iT) (st:=SortSt.mk' iT (keys.zip vs.toArray) #[] 7 none)
   (Q:=λ_ y=>(arrOf y).Perm (keys.zip vs.toArray)/\f8 y=none/\Tim.Srt Tim.kN (arrOf y).toList) (Tim.lt_ints (ksk_intKeys hk)) ⟨dh.refl _,rfl,rfl⟩ rfl λy q1 q2=>⟨q1.pm,q1.fl,q2⟩) ?_ λ_ _ e=>e)
  rintro⟨⟨⟩,y⟩ s' ⟨rfl,q1,q2,q3⟩;dsimp only;exact tail y q1 (Tim.srt_to q3 rfl) q2
def a9I{Θ:Hp->Prop}(hΘ:Θ H)(I:Inv X (pf++[(a,lObj #[] e1),(kS,lObj #[] 0)]) σ H s)(fa:FpOk X pf H a)(fk:FpOk X (pf++[(a,lObj #[] e1)]) H kS)(hlen:kz.length=vs.length)(hz:vs.length<=100000)
  (turn:∀(i:Nat)(v:Value)(k:Int),vs[i]?=some v->kz[i]?=some k->∀(H1:Hp)(s':Shared)(pl:List (Addr×Obj)),Θ H1->Inv X (pf++pl) σ H1 s'->wpAny (model X.prog X.w) X.A.in1.in1 (call (.ref f) [v]) (EP X (pf++pl) σ λy H'=>y=.int k/\Θ H') (λ_ _=>False) s')
  (h:∀(H1:Hp)(s':Shared)(out:List Value)(n:Nat),Θ H1->KskOut false kz vs out->Inv X pf σ H1 s'->FpOk X pf H1 a->s'.heap.get? a=some (lObj #[] e1)->P (.done (.ret .none)) { s' with heap:=s'.heap.update a (Obj.mapSeq λ_=>out.toArray) }) :
  wpAny (model X.prog X.w) X.A.in1.in1 (ksk_rest a (.ref f) false vs.toArray e1 (.ref kS)) P E s:=by
 unfold ksk_rest;refine fF (gJ ?_)
 first
  |rw[List.forIn_toArray]
  | (rw[<- fg];simp only[List.toList_toArray])
  |rw[<- fg]
 refine fF (ksk_fold (λi s'=>∃H1 kA e,Θ H1/\Inv X (pf++[(a,lObj #[] e1),(kS,lObj kA e)]) σ H1 s'/\f6 kA.toList (kz.take i)) vs 0 s ⟨H,#[],0,hΘ,I,by simpa using f6.nil⟩ ?step ?done)
 case step=>
  rintro j x s' hx ⟨H1,kA,e,θ1,J,hk⟩;simp only[dg]at hk ⊢;have hj:j<vs.length:=(aZ.mp hx).1;obtain⟨k,hkj⟩:∃k,kz[j]?=some k:=⟨_,bh (by omega)⟩;have hzk:kA.size<=vs.length:=by
   have h1:=hk.length;rw[cb,bC]at h1;omega
  refine fF (iU (fW (turn j x k hx hkj H1 s' _ θ1 J) (λv s'' he=>?_) λ_ _ hF=>hF.elim));obtain⟨y,H',J2,rv,rfl,θ2⟩:=he;obtain⟨t2,rfl⟩:=rv;dsimp only;have gk:s''.heap.get? kS=some (lObj kA e):=(J2.pin (kS,lObj kA e) (by simp)).1;have s1:=Heap.SameBut.update s''.heap kS (Obj.mapSeq (·.push (.int k t2)));obtain⟨c2,hc2⟩:∃c2,(s''.heap.update kS (Obj.mapSeq (·.push (.int k t2)))).get? kS=some (lObj (kA.push (.int k t2)) c2):=⟨_,get?_update_seq gk (·.push (.int k t2))⟩;have ek:kz.take (j+1)=kz.take j++[k]:=by rw[cz,hkj];simp
  have ea:(kA.push (Value.int k t2)).toList=kA.toList++[Value.int k t2]:=by simp
  refine fF (g9 gk rfl ?_ (by rw[fR];omega) (be (cF (Array.size_push ..)) (by rw[fR];omega)));refine fI ⟨rfl,H',kA.push (.int k t2),c2,θ2,?_,by rw[ea,ek];exact ksk_snoc hk⟩
  have:=Inv.repin (t':=s''.toks) (pl:=pf++[(a,lObj #[] e1)]) (by simpa using J2) (fk.re (J2.pin (kS,lObj kA e) (by simp)).2.1) (λc u hc q=>(s1.2 c hc).trans q) hc2 (a3P _ _)
  simpa using this
 case done=>
  rintro s' ⟨H1,kA,e,θ1,J,hk⟩;have hk':f6 kA.toList kz:=by
   have e3:kz.take (0+vs.length)=kz:=cr (by omega);rw[e3]at hk;exact hk
  have gk:s'.heap.get? kS=some (lObj kA e):=(J.pin (kS,lObj kA e) (by simp)).1;refine fF (jo gk rfl ?_);exact b1W J (fa.re (J.pin (a,lObj #[] e1) (by simp)).2.1) (fk.re (J.pin (kS,lObj kA e) (by simp)).2.1) hk' hlen hz λs' out n=>h H1 s' out n θ1
end
def perm_lift{α β:Type}{g:α->β}:∀{l:List β}{m:List β},l.Perm m->∀{T:List α},m=T.map g->∃T':List α,T'.Perm T/\l=T'.map g:=by
 intro l m h
 induction h with
 |nil=>intro T e;exact⟨T,.refl _,e⟩
 |cons x h ih=>
  intro T e;cases T with
  |nil=>cases e
  |cons a T=>
   rw[aY]at e;injection e with e1 e2
   obtain⟨T',p,q⟩:=ih e2;exact⟨a::T',p.cons a,by rw[aY,<- q,e1]⟩
 |swap x y l=>
  intro T e
  match T,e with
  |a::b::T,e=>
   rw[aY,aY]at e;injection e with e1 e2
   injection e2 with e2 e3
   exact⟨b::a::T,.swap a b T,by rw[aY,aY,<- e1,<- e2,<- e3]⟩
 |trans h1 h2 ih1 ih2=>
  intro T e;obtain⟨T2,p2,q2⟩:=ih2 e;obtain⟨T1,p1,q1⟩:=ih1 q2;exact⟨T1,p1.trans p2,q1⟩
def SOut{α:Type}(kz:List Int)(xs os:List α):Prop:=∃ps:List (Int×α),ps.Perm (kz.zip xs)/\os=ps.map (·.2)/\ps.Pairwise λp q=>p.1<=q.1
theorem a3Q{α β:Type}:∀{kz:List Int}{xs:List α}{us:List β},xs.length=us.length->kz.zip us=(kz.zip (xs.zip us)).map λt=>(t.1,t.2.2)
 |[],_,_,_=>rfl
 |_::_,[],[],_=>rfl
 |_::kz,_::xs,_::us,h=>by simp[a3Q (kz:=kz) (xs:=xs) (us:=us) (by simpa using h)]
theorem a3R{α β:Type}:∀{kz:List Int}{xs:List α}{us:List β},xs.length=us.length->kz.zip xs=(kz.zip (xs.zip us)).map λt=>(t.1,t.2.1)
 |[],_,_,_=>rfl
 |_::_,[],[],_=>rfl
 |_::kz,_::xs,_::us,h=>by simp[a3R (kz:=kz) (xs:=xs) (us:=us) (by simpa using h)]
theorem a5E:∀{T:List (Int×V×Value)},(∀t∈T,RelV t.2.1 t.2.2)->Vals (T.map λt=>t.2.1) (T.map λt=>t.2.2)
 |[],_=>.nil
 |t::T,h=>.cons (h t (.head _)) (a5E λu hu=>h u (.tail _ hu))
theorem a5F:∀{xs:List V}{us:List Value},Vals xs us->∀p∈xs.zip us,RelV p.1 p.2
 |_,_,.nil,p,h=>by simp at h
 |_,_,.cons r t,p,h=>by
  rcases bf.mp h with rfl |h
  ·exact r
  ·exact a5F t p h
def b1X{kz:List Int}{xs:List V}{us out:List Value}(rv:Vals xs us)(k:KskOut false kz us out):∃os,SOut kz xs os/\Vals os out:=by
 obtain⟨ps,p1,p2,p3⟩:=k;obtain⟨T,t1,t2⟩:=perm_lift p1 (a3Q rv.length);refine⟨T.map λt=>t.2.1,⟨T.map λt=>(t.1,t.2.1),?_,by rw[bJ];rfl,?_⟩,?_⟩
 ·rw[a3R rv.length];exact t1.map _
 ·rw[t2]at p3;rw[bV]at p3 ⊢;exact p3.imp λ{a b} h=>by simpa using h
 ·rw[p2,t2,bJ];exact a5E λt ht=>a5F rv t.2 (cG (t1.mem_iff.mp ht)).2
section
variable{X:Cx}{pf:List (Addr×Obj)}{σ:St}{H:Hp}{s:Shared}{l f:Addr}{xs:List V}{kz:List Int}{Q:Value->Shared->Prop}{E:Value->Shared->Prop}
def a6q{Θ:Hp->Prop}(hΘ:Θ H)(I:Inv X pf σ H s)(hl:SqL X.K H l xs)(hlen:kz.length=xs.length)(hz:xs.length<=100000)
  (turn:∀(i:Nat)(x:V)(v:Value)(k:Int),xs[i]?=some x->RelV x v->kz[i]?=some k->∀(H1:Hp)(s':Shared)(pl:List (Addr×Obj)),Θ H1->Inv X (pf++pl) σ H1 s'->wpAny (model X.prog X.w) X.A.in1.in1 (call (.ref f) [v]) (EP X (pf++pl) σ λy H'=>y=.int k/\Θ H') (λ_ _=>False) s')
  (h:∀(H1:Hp)(s':Shared)(t:Addr)(os:List V),Θ H1->Inv X pf σ (upd H1 t (.lst os)) s'->H1 t=none->SOut kz xs os->Q (.ref t) s'):wpAny (model X.prog X.w) X.A (call (.builtin "sorted") [.ref l] [(Str.ofString "key",.ref f)]) Q E s:=by
 obtain⟨its,rv,pl,_⟩:=I.list hl;have hle:its.length=xs.length:=rv.length.symm;refine call_function_entry_kw jp jq jr (ksk_s1 _ _) ?_;unfold fO.«sorted»;refine fF (m:=checkCount "sorted" 1 1 _) (fI ?_);refine fF (collect_list pl.isList ?_ (by rw[fR];omega));refine fF (ie ?_ (by rw[fR];omega));have hsz:((s.heap.push (seqObj "list" #[] 0)).update s.heap.objs.size (Obj.mapSeq (·++its.toArray))).objs.size=s.heap.objs.size+1:=by
  rw[Heap.size_update,iI]
 have k1:∀b o,s.heap.get? b=some o->((s.heap.push (seqObj "list" #[] 0)).update s.heap.objs.size (Obj.mapSeq (·++its.toArray))).get? b=some o:=λb o e=>by
  have hlt:=Heap.lt_size e;rw[Heap.get?_update_ne _ _ _ _ (bj hlt)];exact Heap.get?_push_of_some _ e
 generalize (s.heap.push (seqObj "list" #[] 0)).update s.heap.objs.size (Obj.mapSeq (·++its.toArray))=g at k1 hsz ⊢;have ho:(g.push (seqObj "list" its.toArray 0)).get? g.objs.size=some (seqObj "list" its.toArray 0):=Heap.get?_push_size _ rfl;refine fF (f7 (wpAny_call_entry_kw js ⟨_,ho,rfl⟩ jt ?body (ksk_l1 _ _)))
 show wpAny (model X.prog X.w) X.A.in1.in1 (fO.«list.sort» ⟨[.ref g.objs.size],[(Str.ofString "key",.ref f)]⟩) _ _ _
 rw[ksk_t1];unfold ksk_tree;refine fF (jo ho rfl ?_);refine fF (g9 ho rfl ?_ (by rw[bG,fR];omega) (bE _));obtain⟨e1,ho1⟩:∃e1,((g.push (seqObj "list" its.toArray 0)).update g.objs.size (Obj.mapSeq λ_=>(#[]:Array Value))).get? g.objs.size=some (seqObj "list" #[] e1):=⟨_,get?_update_seq ho λ_=>#[]⟩;refine fF (iG ho1 rfl ?_);have k2:∀b o,s.heap.get? b=some o->((g.push (seqObj "list" its.toArray 0)).update g.objs.size (Obj.mapSeq λ_=>(#[]:Array Value))).get? b=some o:=λb o e=>by
  have hlt:=Heap.lt_size (k1 b o e);rw[Heap.get?_update_ne _ _ _ _ (bj hlt)];exact Heap.get?_push_of_some _ (k1 b o e)
 have hs2:((g.push (seqObj "list" its.toArray 0)).update g.objs.size (Obj.mapSeq λ_=>(#[]:Array Value))).objs.size=g.objs.size+1:=by rw[Heap.size_update,iI]
 generalize (g.push (seqObj "list" its.toArray 0)).update g.objs.size (Obj.mapSeq λ_=>(#[]:Array Value))=g2 at ho1 k2 hs2 ⊢;refine fF (iH ?_ (by show its.length<=_;rw[fR];omega));refine fF (ie ?_ (bE _));refine f7 ?_;have hn:∀b,@LE.le Nat _ s.heap.objs.size b->FpOk X pf H b:=λb hb=>I.fpOk hb (I.hok.fresh hb);have hga:s.heap.objs.size<=g.objs.size:=by rw[hsz];exact dq _
 have fa:FpOk X pf H g.objs.size:=hn _ hga;have hkS:(g2.push (seqObj "tuple" its.toArray 0)).objs.size=g.objs.size+2:=by rw[iI,hs2]
 have fk0:FpOk X pf H (g2.push (seqObj "tuple" its.toArray 0)).objs.size:=hn _ (by rw[hkS];exact be hga (Nat.le_add_right _ _));have hne:g.objs.size≠(g2.push (seqObj "tuple" its.toArray 0)).objs.size:=by rw[hkS];exact bj (Nat.lt_add_of_pos_right (by decide))
 have fk:FpOk X (pf++[(g.objs.size,lObj #[] e1)]) H (g2.push (seqObj "tuple" its.toArray 0)).objs.size:=by
  obtain⟨f0,f1,f2,f3,f4,f5⟩:=fk0;refine⟨f0,f1,f2,f3,f4,λp hp=>?_⟩;rw[<- bH]at hp;rcases aU.mp hp with hp |hp
  ·exact f5 p hp
  ·rw[aX.mp hp];exact hne
 have I3:Inv X (pf++[(g.objs.size,lObj #[] e1),((g2.push (seqObj "tuple" its.toArray 0)).objs.size,lObj #[] 0)]) σ H { s with heap:=(g2.push (seqObj "tuple" its.toArray 0)).push (seqObj "list" #[] 0) }:=by
  have J:Inv X pf σ H { s with heap:=(g2.push (seqObj "tuple" its.toArray 0)).push (seqObj "list" #[] 0) }:=I.kept (t':=s.toks) λb o e=>Heap.get?_push_of_some _ (Heap.get?_push_of_some _ (k2 b o e));refine J.pins_of λp hp=>?_;rcases aU.mp hp with hp |hp
  ·exact J.pin p (bK _ hp)
  ·rcases bf.mp hp with rfl |hp
   ·exact⟨Heap.get?_push_of_some _ (Heap.get?_push_of_some _ ho1),fa.1,fa.2.1,fa.2.2.1,a3P _ _⟩
   ·rw[aX.mp hp];exact⟨Heap.get?_push_size _ rfl,fk0.1,fk0.2.1,fk0.2.2.1,a3P _ _⟩
 refine a9I (vs:=its) hΘ I3 fa fk (by rw[hlen,hle]) (by omega) (λi v k hv hk H1 s' pl' θ J=>?_) λH1 s' out n θ ko J fa' ga=>⟨_,rfl,?_⟩
 ·obtain⟨x,hx,rx⟩:=rv.tog hv;exact turn i x v k hx rx hk H1 s' pl' θ J
 ·obtain⟨os,so,ro⟩:=b1X rv ko;refine fI ⟨_,rfl,h H1 _ _ os θ ?_ fa'.1 so⟩;have s1:=Heap.SameBut.update s'.heap g.objs.size (Obj.mapSeq λ_=>out.toArray);obtain⟨c2,hc2⟩:∃c2,(s'.heap.update g.objs.size (Obj.mapSeq λ_=>out.toArray)).get? g.objs.size=some (seqObj "list" out.toArray c2):=⟨_,get?_update_seq ga λ_=>out.toArray⟩;have hol:os.length<=sizeLine:=by
   obtain⟨ps,p1,p2,_⟩:=so;rw[p2,aT,p1.length_eq,List.length_zip,fR];omega
  exact J.adopt (t':=s'.toks) fa' (λc u hc q=>(s1.2 c hc).trans q) ⟨hol,out,c2,ro,hc2⟩ ⟨_,hc2⟩
end
def b4D(P:Addr)(H H':Hp):Prop:=∀b u,H b=some u->b≠P->H' b=some u
def b0w{X:Cx}{a:Expr}{ta:TE}(ha:PE X a ta)(he:fL [a] X.env=(false,eval a X.env)::fL [] X.env:=by rfl):PA X [a] (fun σ H Q=>ta σ H λv H1=>Q [v] H1):=by
 intro pos pins s σ H Q I h;exact a60 ha b0c he pos pins s σ H Q I h
structure LamAt (X:Cx) (params:g7) (body:Expr) (scope:Scope) (P:Addr) (q x:Str) (N:List Str):Prop where
 sc:FnScope N [x] scope
 qn:q=X.env.qual++"<lambda>"
 df:jx params X.env=([],[])
 cl:iB scope X.env=pure []
 cd:∃c,X.env.code=.ref c/\PySem.W.codeHdIn X.K c P=true
 gP:fU≠P
 bi:X.base.BuiltinsAt X.mg P
 bd:∀(pm ctv:Value)(c':Addr)(us:List Value),us.length=1->hZ (PySem.W.kla_fn "<lambda>" q params body scope [] pm (.ref c') ctv) ⟨us,[]⟩=pure ([x].zip us)
def b4E(K:Fg)(P:Addr)(lp:Pos)(q:Str)(N:List Str)(t:TE)(Q:VK):VK:=λv H1=>∃p xs kz,∃Θ:Hp->Hp->Prop,v=.ref p/\SqL K H1 p xs/\xs.length<=100000/\Tab H1 P lp q/\kz.length=xs.length /\
 (∀H2,b4D P H1 H2->Tab H2 P lp q->Θ H2 H2)/\(∀H2 H',Θ H2 H'->∀b o u,H2 b=some (.frz o u)->H' b=some (.frz o u)) /\
 (∀(i:Nat) x k,xs[i]?=some x->kz[i]?=some k->∀H2 H',Θ H2 H'->t (start N [x]) H' λy H3=>y=.int k/\Θ H2 H3) /\
 ∀H2 H' tA os,Θ H2 H'->H' tA=none->SOut kz xs os->Q (.ref tA) (upd H' tA (.lst os))
def b4F(K:Fg)(P:Addr)(lp:Pos)(q:Str)(N:List Str)(ta t:TE):TE:=fun σ H Q=>ta σ H (b4E K P lp q N t Q)
def one1(Q:VK):List V->Hp->Prop:=λvs H=>match vs with |[v]=>Q v H |_=>False
def a8c{Q:VK}{vs:List V}{H:Hp}(h:one1 Q vs H):∃v,vs=[v]/\Q v H:=by
 match vs,h with
 |[v],h=>exact⟨v,rfl,h⟩
def a9J{X:Cx}{a:Expr}{ta t:TE}{pN pos kp lpos:Pos}{params:g7}{body:Expr}{scope:Scope}{P:Addr}{q x:Str}{N:List Str}{k:Nat}(hg:Gl X "sorted")(hm:X.mg "sorted"=none)(hr:Room (k+3) X.A)(L:LamAt X params body scope P q x N)(ha:PE X a ta)
  (ht:∀(f c':Addr)(A:Around)(outer:List Env)(s:Shared)(H:Hp),Room k (A.deeper (envOfC q scope s.heap.objs.size f (.ref c')))->PE (cxOf CX0 X.prog X.w X.K X.mg X.base N q scope f (.ref c') A outer s H E0).nox body t)
  (he:fL [a] X.env=(false,eval a X.env)::fL [] X.env:=by rfl) :
  PE X (.Call (.Name "sorted" pN) [a] [⟨some "key",.Lambda params body scope lpos,kp⟩] pos) (b4F X.K P lpos q N ta t):=by
 intro pins s σ H Q I h;refine gU (a2I I hg hm (show gg "sorted"=some (.builtin "sorted") by decide +kernel) ?_);refine callWith_kw (thn (b0w ha he pos pins s σ H (one1 (b4E X.K P lpos q N t Q)) I h) λus s1 ⟨vs,H1,I1,r,q0⟩=>?_) (by rw[he];rfl) (by rw[he];rfl);obtain⟨v,rfl,q1⟩:=a8c q0;obtain⟨u,rfl,ru⟩:=a20 r;obtain⟨p,xs,kz,Θ,rfl,hl,hz,hT,hlen,θ0,θf,hk,hQ⟩:=q1;cases ru;obtain⟨c,hc1,hc2⟩:=L.cd;refine kws_cons (a9H I1 hT L.qn L.df L.cl hc1 hc2 L.gP L.bi λf c' H2 pm ctv s2 oc I2 hcd hT2 kp=>?_);refine kws_nil ?_;have hl2:SqL X.K H2 p xs:=by
  rcases hl with (hl |⟨o,hl⟩) |hl
  ·exact .inl (.inl (kp _ _ hl λz=>by obtain⟨ps,e,_⟩:=hT;rw[z,e]at hl;cases hl))
  ·exact .inl (.inr ⟨o,kp _ _ hl λz=>by obtain⟨ps,e,_⟩:=hT;rw[z,e]at hl;cases hl⟩)
  ·exact .inr hl
 refine a6q (Θ:=Θ H2) (θ0 H2 kp hT2) I2 hl2 hlen hz (λi x' v k' hx rx hk' H3 s' pl θ J=>?_) λH3 s' tA os θ J hn so=>⟨.ref tA,_,J.unpinned,rfl,hQ H2 H3 tA os θ hn so⟩;have hcr:s'.heap.CodeRec (.ref c') q:=(show s'.heap.get? c'=some oc/\ObjOk X.prog X.w H3 s'.heap c' (a19 c' q) from J.hok c' _ (θf _ _ θ _ _ _ hcd)).2.1;have hr2:Room (k+1) X.A.in1.in1:=Room.in1 (Room.in1 hr);refine iP (ip (b1V (k:=k+1) L.sc (L.bd pm ctv c') hr2 J.env0.in1.in1 (.cons rx .nil) rfl (J.pin (f,_) (by simp)).1 hcr (ht f c' X.A.in1.in1 X.stack s' H3 (hr2.deeper _)) (hk i x' k' hx hk' H2 H3 θ)) λr s'' hq=>?_);cases r with
 |error e=>exact hq.elim
 |ok fl=>
  cases fl with
  |ret u=>exact J.after hq
  |next=>exact hq.elim
  |brk=>exact hq.elim
  |cont=>exact hq.elim
end L2
namespace L3
open PySem PySem.Spec PyProof.Rows L2
def a8d(P:Addr)(lp:Pos)(q:Str)(N:List Str)(te t:E3):E3:=fun σ G R=>te σ G λx G1=>∃p ws kz,x=.ref p/\G1 p=some (.lst ws)/\ws.length<=100000/\G1 P=some (.tab lp q)/\kz.length=ws.length /\
 (∀(i:Nat) w k,ws[i]?=some w->kz[i]?=some k->t (a1l N [w]) G1 λy G2=>y=.int k/\G2=G1)/\∀tA os,G1 tA=none->SOut kz ws os->R (.ref tA) (put G1 tA (.lst os))
theorem a5G{K:Fg}{H:Hp}:∀{T:List (Int×Z×V)},(∀t∈T,Rep K H t.2.1 t.2.2)->Reps K H (T.map λt=>t.2.1) (T.map λt=>t.2.2)
 |[],_=>.nil
 |t::T,h=>.cons (h t (.head _)) (a5G λu hu=>h u (.tail _ hu))
theorem a5H{K:Fg}{H:Hp}:∀{ws:List Z}{vs:List V},Reps K H ws vs->∀p∈ws.zip vs,Rep K H p.1 p.2
 |[],vs,_,p,h=>by simp at h
 |w::ws,vs,r,p,h=>by
  rw[a0x]at r;obtain⟨v,r',rfl,h1,h2⟩:=r;rcases bf.mp h with rfl |h
  ·exact h1
  ·exact a5H h2 p h
def a9K{K:Fg}{H:Hp}{kz:List Int}{ws:List Z}{vs os:List V}(rs:Reps K H ws vs)(so:SOut kz vs os):∃zs,SOut kz ws zs/\Reps K H zs os:=by
 obtain⟨ps,p1,p2,p3⟩:=so;obtain⟨T,t1,t2⟩:=perm_lift p1 (a3Q rs.length);refine⟨T.map λt=>t.2.1,⟨T.map λt=>(t.1,t.2.1),?_,by rw[bJ];rfl,?_⟩,?_⟩
 ·rw[a3R rs.length];exact t1.map _
 ·rw[t2]at p3;rw[bV]at p3 ⊢;exact p3
 ·rw[p2,t2,bJ];exact a5G λt ht=>a5H rs t.2 (cG (t1.mem_iff.mp ht)).2
def b1Y{K:Fg}{H H2:Hp}{P:Addr}{ps:Array Value}(hP:H P=some (.tbl ps))(k:b4D P H H2):TK K H H2:=
 ⟨λb xs e=>k _ _ e λz=>(by rw[z,hP]at e;cases e),λb xs e=>by
  rcases e with ⟨o,e⟩ |e
  ·exact .inl ⟨o,k _ _ e λz=>by rw[z,hP]at e;cases e⟩
  ·exact .inr e,λb o u e=>k _ _ e λz=>by rw[z,hP]at e;cases e⟩
def b1Z{X:Cx}{a:Expr}{te t:E3}{pN pos kp lpos:Pos}{params:g7}{body:Expr}{scope:Scope}{P:Addr}{q x:Str}{N:List Str}{k:Nat}(hg:Gl X "sorted")(hm:X.mg "sorted"=none)(hr:Room (k+3) X.A)(L:LamAt X params body scope P q x N)(ha:QE X a te)
  (ht:∀(f c':Addr)(A:Around)(outer:List Env)(s:Shared)(H:Hp),Room k (A.deeper (envOfC q scope s.heap.objs.size f (.ref c')))->QE (cxOf CX0 X.prog X.w X.K X.mg X.base N q scope f (.ref c') A outer s H E0).nox body t)
  (he:fL [a] X.env=(false,eval a X.env)::fL [] X.env:=by rfl) :
  QE X (.Call (.Name "sorted" pN) [a] [⟨some "key",.Lambda params body scope lpos,kp⟩] pos) (a8d P lpos q N te t):=
 ⟨a0I (a9J (t:=low X.K t) hg hm hr L ha.p (λf c' A outer s H r=>(ht f c' A outer s H r).p) he) fun τ H Q hx=>hx.un fun σ G R hs hg h up=>⟨σ,G,_,hs,hg,h,λw G1 v H1 hw rv hg1 t1=>by
  obtain⟨p,ws,kz,rfl,ew,hz,hT,hl,hk,hR⟩:=hw;rw[a0j]at rv;obtain⟨vs,ev,rs⟩:=hg1 p _ ew;obtain⟨ps,hP,hO⟩:=(show Tab H1 P lpos q from hg1 P _ hT);refine⟨p,vs,kz,λH2 H'=>RH X.K G1 H'/\TK X.K H1 H'/\∀b o u,H2 b=some (.frz o u)->H' b=some (.frz o u),rv,SqL.of ev,by rw[<- rs.length];exact hz,⟨ps,hP,hO⟩,by rw[hl,rs.length],λH2 kp T2=>?_,λH2 H' θ=>θ.2.2,λi x' k' hx' hk' H2 H' θ=>?_,λH2 H' tA os θ hn so=>?_⟩
  ·have tk:=b1Y (K:=X.K) hP kp;refine⟨λb o e=>?_,tk,λ_ _ _ z=>z⟩
   by_cases hb:b=P
   ·subst hb;rw[hT]at e;cases e;exact T2
   ·obtain⟨u,z⟩:=(hg1 b o e).some;exact (hg1 b o e).stay tk ((kp _ _ z hb).trans z.symm)
  ·obtain⟨w',ew',rw'⟩:=rs.tog hx';exact⟨a1l N [w'],G1,_,.start (.cons (rw'.mono θ.2.1) .nil),θ.1,hk i w' k' ew' hk',λz G' v' H3 ⟨e1,e2⟩ r g t'=>by
    subst e1 e2;rw[a0k]at r;exact⟨r,g,θ.2.1.trans t',λb o u q=>t'.frd _ _ _ (θ.2.2 _ _ _ q)⟩⟩
  ·obtain⟨zs,so',rz⟩:=a9K (rs.mono θ.2.1) so;exact up _ _ _ _ (hR tA zs (θ.1.out hn) so') (by rw[a0j]) (θ.1.set (.new hn) (a0J rz (.new hn))) (t1.trans (θ.2.1.trans (.new hn)))⟩⟩
def b10{P:Addr}{lp:Pos}{q:Str}{N:List Str}{te t:E3}{σ:S3}{G:Hq}{R:K3}(h:te σ G λx G1=>∃p ws kz,x=.ref p/\G1 p=some (.lst ws)/\ws.length<=100000/\G1 P=some (.tab lp q)/\kz.length=ws.length /\
 (∀(i:Nat) w k,ws[i]?=some w->kz[i]?=some k->t (a1l N [w]) G1 λy G2=>y=.int k/\G2=G1)/\∀tA os,G1 tA=none->SOut kz ws os->R (.ref tA) (put G1 tA (.lst os))):a8d P lp q N te t σ G R:=h
end L3
namespace L2
open PySem PySem.Spec PyProof.Rows
noncomputable def ItI(o:Obj)(a:Addr)(kvs:List (Key×V)):It:=
 ⟨λi H=>H a=some (.frz o (.dK kvs))/\i<kvs.length,λi H x H'=>∃T p,H T=none/\kvs[i]?=some p/\x=.ref T/\H'=upd H T (.tup [kV p.1,p.2]),λi H=>H a=some (.frz o (.dK kvs))/\kvs.length<=i⟩
noncomputable def ItV(o:Obj)(a:Addr)(kvs:List (Key×V)):It:=
 ⟨λi H=>H a=some (.frz o (.dK kvs))/\i<kvs.length,λi H x H'=>H'=H/\∃p,kvs[i]?=some p/\x=p.2,λi H=>H a=some (.frz o (.dK kvs))/\kvs.length<=i⟩
def a3S:∀{kvs:List (Key×V)}{vs:List (Key×Value)}{i:Nat}{p:Key×V},KV kvs vs->kvs[i]?=some p->∃q,vs[i]?=some q/\p.1=q.1/\RelV p.2 q.2:=by
 intro kvs
 induction kvs with
 |nil=>intro vs i p h e;simp at e
 |cons p0 kvs ih=>
  intro vs i p h e;cases h with
  |cons h1 h2=>
   cases i with
   |zero=>cases e;exact⟨_,rfl,h1⟩
   |succ i=>exact ih (i:=i) h2 (by simpa using e)
def a5I{X:Cx}{pins:List (Addr×Obj)}{σ:St}{H:Hp}{s:Shared}{a:Addr}{o:Obj}{kvs:List (Key×V)}{es:Array im}{ep:Nat}(I:Inv X pins σ H s)(hd:o.data=.dict es ep)(ha:H a=some (.frz o (.dK kvs))):∃vs,KV kvs vs/\vs.length=kvs.length/\(a==fX)=false/\s.heap.DictAt (a0i X.prog X.w) a vs ep:=by
 obtain⟨g,hz,hsm,vs,kv,dof⟩:=(show ObjOk X.prog X.w H s.heap a (.frz o (.dK kvs)) from I.hok a _ ha);refine⟨vs,kv,a1Y kv,hsm,?_⟩;obtain⟨o',es',ep',h1,h2,h3,h4⟩:=dof;rw[g]at h1;cases h1;rw[hd]at h3;cases h3;exact⟨o,es,g,h2,hd,h4⟩
def a2S{P:fK}{w:World}{A:Around}{E:Value->Shared->Prop}{s:Shared}{it d:Addr}{i n ep:Nat}{ok ov:Value}{Q:Value->Shared->Prop}(hit:IsItemIter s.heap it d i n ep ok ov)(h:Q (.ref it) s):wpAny (model P w) A (pyIter (.ref it)) Q E s:=by
 have hT:s.TypeIs (.ref it) "dict_itemiterator":=⟨_,hit,rfl⟩;refine wpAny_pyIter_slot hT F.slot_dict_itemiterator_iter (gA (b:=fO.«dict_keyiterator.__iter__») F.slot_dict_itemiterator_iter hT (entryFor_alias (id':="dict_keyiterator.__iter__") (by kernel_rfl) (by decide +kernel) (by decide +kernel) (by kernel_rfl)) ?_ (by unfold argsOk;kernel_rfl))
 show wpAny _ _ (ret (.ref it)) _ _ s
 exact fI ⟨_,rfl,"dict_itemiterator",_,hT,F.slot_dict_itemiterator_next.lookup,h⟩
theorem a6r{P:fK}{w:World}{K:Fg}{elts:List Expr}{x1}{tpos:Pos}(a it:Addr){o:Obj}(kvs:List (Key×V)){es:Array im}{ep:Nat}(hd:o.data=.dict es ep) :
  Turn P w K (.Tuple elts x1 tpos) (ItI o a kvs) [it] it (λi h=>∃ok ov,IsItemIter h it a i kvs.length ep ok ov) where
 mem:=by simp
 obj:=λi h st b hb=>by
  have e:b=it:=by simpa using hb
  subst e;obtain⟨ok,ov,st⟩:=st;exact⟨_,st,λv z=>by cases z⟩
 keep:=λi h h' st k=>by
  obtain⟨ok,ov,st⟩:=st;exact⟨ok,ov,k it (by simp) _ st⟩
 item:=by
  intro X hP hw hK hc i pins s σ H E I hf st hg;subst hP hw hK;obtain⟨ok,ov,st⟩:=st;obtain⟨ha,hi⟩:=hg;obtain⟨vs,kv,hl,hsm,dat⟩:=a5I I hd ha;obtain⟨p,hp⟩:∃p,kvs[i]?=some p:=⟨kvs[i],bh hi⟩;obtain⟨⟨k,v⟩,hq,e1,e2⟩:=a3S kv hp;refine wpAny_pyNext_items_item (by rw[hl];exact st) dat hq λkey h' hk out tup sz kp=>⟨_,rfl,?_⟩;refine wpAny_letOwnedTupleGo_items (s:={ s with heap:=h' }) out λh2 st2 sb=>?_;have hlt:it<s.heap.objs.size:=Heap.lt_size st;have nT:it≠s.heap.objs.size:=bj hlt;rw[hl]at st2;refine⟨.ref s.heap.objs.size,upd H s.heap.objs.size (.tup [kV p.1,p.2]),?_,rfl,⟨_,p,I.hok.fresh (aV _),hp,rfl,rfl⟩,⟨key,v,st2⟩,λb hb=>?_⟩
  ·show Inv X pins σ (upd H s.heap.objs.size (.tup [kV p.1,p.2])) { s with heap:=h2 }
   refine I.turnedT (t':=s.toks) (ch:=[it]) (us:=[key,v]) (λb hb=>hf b hb) (λb o hb e=>?_) (aV _) (.cons (by rw[e1];exact b4B hk) (.cons e2 .nil)) (by show 2<=_;rw[fR];omega) ?_
   ·have hb':b≠it:=by simpa using hb
    exact sb.extBut b o hb' (kp b o hb' e)
   ·exact⟨_,sb.extBut _ _ nT.symm tup,rfl,_,rfl⟩
  ·have e:b=it:=by simpa using hb
   subst e;rw[a0e nT];exact (hf b (by simp)).1
 done:=by
  intro X hP hw hK hc i pins s σ H E I hf st hg;subst hP hw hK;obtain⟨ok,ov,st⟩:=st;obtain⟨ha,hi⟩:=hg;obtain⟨vs,kv,hl,hsm,dat⟩:=a5I I hd ha;obtain⟨f0,f1,f2,f3,f4,f5⟩:=hf it (by simp);exact wpAny_pyNext_items_end (I.ok.hd hc) (by rw[hl];exact st) dat (ei (by omega)) λh' eb=>⟨rfl,I.turned (t':=s.toks) (λb o hb e=>eb b o hb e) f0 f1 f3 f4 f5⟩
 self:=λ_ _ _ _ _ st h=>by obtain⟨ok,ov,st⟩:=st;exact a2S st h
theorem a5b{P:fK}{w:World}{K:Fg}{tg:Expr}(a it:Addr){o:Obj}(kvs:List (Key×V)){es:Array im}{ep:Nat}(hd:o.data=.dict es ep):Turn P w K tg (ItV o a kvs) [it] it (λi h=>h.IsValIter it a i kvs.length ep) where
 mem:=by simp
 obj:=λi h st b hb=>by
  have e:b=it:=by simpa using hb
  subst e;obtain⟨o,e,c,d⟩:=st;exact⟨o,e,λv z=>by rw[d]at z;cases z⟩
 keep:=λi h h' st k=>let ⟨o,e,r⟩:=st;⟨o,k it (by simp) o e,r⟩
 item:=by
  intro X hP hw hK hc i pins s σ H E I hf st hg;subst hP hw hK;obtain⟨ha,hi⟩:=hg;obtain⟨vs,kv,hl,hsm,dat⟩:=a5I I hd ha;obtain⟨f0,f1,f2,f3,f4,f5⟩:=hf it (by simp);obtain⟨p,hp⟩:∃p,kvs[i]?=some p:=⟨kvs[i],bh hi⟩;obtain⟨⟨k,v⟩,hq,e1,e2⟩:=a3S kv hp;refine wpAny_pyNext_values_item (by rw[hl];exact st) dat hq λh' st' sb=>?_;have I1:Inv X pins σ H { s with heap:=h' }:=I.turned (t':=s.toks) (λb o hb e=>(sb.2 b hb).trans e) f0 f1 f3 f4 f5;rw[hl]at st';obtain⟨oi,e,c,d⟩:=id st';exact⟨v,rfl,a8N (s:={ s with heap:=h' }) e c d (by decide) ⟨p.2,H,I1,e2,⟨rfl,p,hp,rfl⟩,st',λb hb=>(hf b hb).1⟩⟩
 done:=by
  intro X hP hw hK hc i pins s σ H E I hf st hg;subst hP hw hK;obtain⟨ha,hi⟩:=hg;obtain⟨vs,kv,hl,hsm,dat⟩:=a5I I hd ha;obtain⟨f0,f1,f2,f3,f4,f5⟩:=hf it (by simp);exact wpAny_pyNext_values_end (I.ok.hd hc) (by rw[hl];exact st) dat (ei (by omega)) λh' eb=>⟨rfl,I.turned (t':=s.toks) (λb o hb e=>eb b o hb e) f0 f1 f3 f4 f5⟩
 self:=λ_ _ _ _ _ st h=>wpAny_pyIter_valiter st h
section
variable{X:Cx}{o:Expr}{to:TE}{apos pos tpos:Pos}{elts:List Expr}{x1:_}
def iDv(J:Obj->Addr->List (Key×V)->It)(tl:TE):TI:=fun σ H R=>tl σ H λx H1=>∃a kvs,x=.ref a/\((H1 a=some (.dK kvs)/\∀o,R (J o a kvs) (upd H1 a (.frz o (.dK kvs))))\/∃o,H1 a=some (.frz o (.dK kvs))/\R (J o a kvs) H1)
def a9L(ho:PE X o to)(hbase:gE o "items" X.env (eval o X.env)=eval o X.env:=by rfl)(hline:(apos.endLine==pos.line)=true:=by rfl):PI X (.Tuple elts x1 tpos) (.Call (.Attribute o "items" apos) [] [] pos) (iDv ItI to):=by
 intro pins s σ H R I h;refine wpAny_Call_method (T:="dict") (id:="dict.items") hbase rfl hline F.plainAttrs_dict F.slot_dict_items F.type_dict_items (thn (ho pins s σ H _ I h) λv s1 ⟨x,H1,I1,r1,q1⟩=>?_);obtain⟨a,kvs,e,q⟩:=q1;subst e;cases r1;obtain⟨o,H2,I2,ea,q⟩:∃o H2,Inv X pins σ H2 s1/\H2 a=some (.frz o (.dK kvs))/\R (ItI o a kvs) H2:=by
  rcases q with ⟨ea,q⟩ |⟨o,ea,q⟩
  ·obtain⟨o,I2⟩:=I1.freeze ea;exact⟨o,_,I2,a0d,q o⟩
  ·exact⟨o,H1,I1,ea,q⟩
 obtain⟨g,hz,hsm,vs,kv,dof⟩:=(show ObjOk X.prog X.w H2 s1.heap a (.frz o (.dK kvs)) from I2.hok a _ ea);refine⟨dof.typeIs,dof.mapOf.noDict,?_⟩
 show wpAny _ _ (iq pos (.builtin "dict.items") [.ref a] [] []) _ _ _
 refine method_meetsIn F.slot_dict_items F.entry_dict_items rfl (PySem.evalArgs_none ⟨rfl,dof.typeIs,F.args_dict_items_1 _,_,meets_dict_items (a0i X.prog X.w) a hsm,⟨vs,dof⟩,?_⟩);obtain⟨ep,dat⟩:=dof.dictAt;have dat':=dat;obtain⟨o',es,g',_,hd,_⟩:=dat';rw[g]at g';cases g';have hl:=a1Y kv;refine wpAny_pyIter_items (s:={ s1 with heap:=s1.heap.push { cls:=.type "dict_items",data:=.fields #[.ref a] } }) (v:=s1.heap.objs.size) ⟨_,Heap.get?_push_size _ rfl,rfl,rfl⟩ (Heap.DictAt.at dat λo e=>Heap.get?_push_of_some _ e) ?_;have I3:Inv X pins σ H2 { s1 with heap:=s1.heap.push { cls:=.type "dict_items",data:=.fields #[.ref a] } }:=I2.kept (t':=s1.toks) λb o e=>Heap.get?_push_of_some _ e;refine⟨_,[_],_,_,H2,rfl,I3.kept (t':=s1.toks) λb o e=>Heap.get?_push_of_some _ e,a6r a _ kvs hd,⟨.none,.none,by rw[<- hl];exact Heap.get?_push_size _ rfl⟩,λb hb=>?_,q⟩;rw[aX.mp hb];exact I3.fpOk (aV _) (I3.hok.fresh (aV _))
def a8e{tg:Expr}(ho:PE X o to)(hbase:gE o "values" X.env (eval o X.env)=eval o X.env:=by rfl)(hline:(apos.endLine==pos.line)=true:=by rfl):PI X tg (.Call (.Attribute o "values" apos) [] [] pos) (iDv ItV to):=by
 intro pins s σ H R I h;refine wpAny_Call_method (T:="dict") (id:="dict.values") hbase rfl hline F.plainAttrs_dict F.slot_dict_values F.type_dict_values (thn (ho pins s σ H _ I h) λv s1 ⟨x,H1,I1,r1,q1⟩=>?_);obtain⟨a,kvs,e,q⟩:=q1;subst e;cases r1;obtain⟨o,H2,I2,ea,q⟩:∃o H2,Inv X pins σ H2 s1/\H2 a=some (.frz o (.dK kvs))/\R (ItV o a kvs) H2:=by
  rcases q with ⟨ea,q⟩ |⟨o,ea,q⟩
  ·obtain⟨o,I2⟩:=I1.freeze ea;exact⟨o,_,I2,a0d,q o⟩
  ·exact⟨o,H1,I1,ea,q⟩
 obtain⟨g,hz,hsm,vs,kv,dof⟩:=(show ObjOk X.prog X.w H2 s1.heap a (.frz o (.dK kvs)) from I2.hok a _ ea);refine⟨dof.typeIs,dof.mapOf.noDict,?_⟩
 show wpAny _ _ (iq pos (.builtin "dict.values") [.ref a] [] []) _ _ _
 refine method_meetsIn F.slot_dict_values F.entry_dict_values rfl (PySem.evalArgs_none ⟨rfl,dof.typeIs,F.args_dict_values_1 _,_,meets_dict_values (a0i X.prog X.w) a hsm,⟨vs,dof⟩,?_⟩);obtain⟨ep,dat⟩:=dof.dictAt;have dat':=dat;obtain⟨o',es,g',_,hd,_⟩:=dat';rw[g]at g';cases g';have hl:=a1Y kv;refine wpAny_pyIter_values (s:={ s1 with heap:=s1.heap.push { cls:=.type "dict_values",data:=.fields #[.ref a] } }) (v:=s1.heap.objs.size) ⟨_,Heap.get?_push_size _ rfl,rfl,rfl⟩ (Heap.DictAt.at dat λo e=>Heap.get?_push_of_some _ e) ?_;have I3:Inv X pins σ H2 { s1 with heap:=s1.heap.push { cls:=.type "dict_values",data:=.fields #[.ref a] } }:=I2.kept (t':=s1.toks) λb o e=>Heap.get?_push_of_some _ e;refine⟨_,[_],_,_,H2,rfl,I3.kept (t':=s1.toks) λb o e=>Heap.get?_push_of_some _ e,a5b a _ kvs hd,⟨_,Heap.get?_push_size _ rfl,rfl,by rw[<- hl];rfl⟩,λb hb=>?_,q⟩;rw[aX.mp hb];exact I3.fpOk (aV _) (I3.hok.fresh (aV _))
end
end L2
namespace L3
open PySem PySem.Spec PyProof.Rows L2
def wkDv(f:Key×Z->Z)(x:Z)(G:Hq)(R:List Z->(Hq->Prop)->Hq->Prop):Prop:=match x with
 |.ref a=>∃kvs,(G a=some (.dK kvs)\/G a=some (.dF kvs))/\R (kvs.map f) (λ_=>True) (put G a (.dF kvs))
 |_=>False
noncomputable def fIt:Key×Z->Z:=λp=>.tup [keyW p.1,p.2]
def iDvZ(f:Key×Z->Z)(tl:E3):I3:=fun σ G R=>tl σ G λx G1=>wkDv f x G1 R
def a1d{us:List (Key×V)}{kvs:List (Key×Z)}{K:Fg}{H:Hp}(hn:us.map (·.1)=kvs.map (·.1))(rr:Reps K H (kvs.map (·.2)) (us.map (·.2))){i:Nat}{p:Key×Z}(e:kvs[i]?=some p):∃u,us[i]?=some u/\u.1=p.1/\Rep K H p.2 u.2:=by
 obtain⟨v,h1,h2⟩:=rr.get (i:=i) (w:=p.2) (by rw[aW,e];rfl);rw[aW]at h1;cases hu:us[i]? with
 |none=>rw[hu]at h1;cases h1
 |some u=>
  rw[hu]at h1;cases h1;have h3:(us.map (·.1))[i]?=some u.1:=by rw[aW,hu];rfl
  rw[hn,aW,e]at h3;exact⟨u,rfl,(bv.inj h3).symm,h2⟩
def a5c{K:Fg}{a:Addr}{o:Obj}{us:List (Key×V)}{kvs:List (Key×Z)}{H0:Hp}(e:H0 a=some (.frz o (.dK us)))(hn:us.map (·.1)=kvs.map (·.1))(rr:Reps K H0 (kvs.map (·.2)) (us.map (·.2))):a23 K (kvs.map fIt) (λ_=>True) (ItI o a us) H0:=λi G H hg t ok hi=>by
 have e1:=t.frd _ _ _ e;have hl:us.length=kvs.length:=by have:=congrArg bM hn;simpa using this
 rw[aT]at hi;refine⟨λh=>⟨e1,by rw[aT]at h;omega⟩,λw hw=>?_⟩;rw[aW]at hw;cases hk:kvs[i]? with
 |none=>rw[hk]at hw;cases hw
 |some p=>
  rw[hk]at hw;cases hw;have hlt:=(aZ.mp hk).1;refine⟨⟨e1,by omega⟩,λx H' hy=>?_⟩;obtain⟨T,u,hT,hu,rfl,rfl⟩:=hy;obtain⟨u',hu',ek,rv⟩:=a1d hn rr hk;rw[hu]at hu';cases hu';refine⟨?_,hg.hid hT,.new hT⟩;unfold fIt;rw[a0V];refine⟨T,_,rfl,a0d,.cons ?_ (.cons ((rv.mono t).mono (.new hT)) .nil)⟩;rw[ek];exact a5C _
def a4A{K:Fg}{a:Addr}{o:Obj}{us:List (Key×V)}{kvs:List (Key×Z)}{H0:Hp}(e:H0 a=some (.frz o (.dK us)))(hn:us.map (·.1)=kvs.map (·.1))(rr:Reps K H0 (kvs.map (·.2)) (us.map (·.2))):a23 K (kvs.map (·.2)) (λ_=>True) (ItV o a us) H0:=λi G H hg t ok hi=>by
 have e1:=t.frd _ _ _ e;have hl:us.length=kvs.length:=by have:=congrArg bM hn;simpa using this
 rw[aT]at hi;refine⟨λh=>⟨e1,by rw[aT]at h;omega⟩,λw hw=>?_⟩;rw[aW]at hw;cases hk:kvs[i]? with
 |none=>rw[hk]at hw;cases hw
 |some p=>
  rw[hk]at hw;cases hw;have hlt:=(aZ.mp hk).1;refine⟨⟨e1,by omega⟩,λx H' hy=>?_⟩;obtain⟨rfl,u,hu,rfl⟩:=hy;obtain⟨u',hu',ek,rv⟩:=a1d hn rr hk;rw[hu]at hu';cases hu';exact⟨rv.mono t,hg,.refl _ _⟩
section
variable{X:Cx}{tg l:Expr}{tl:E3}
def b0x{J:Obj->Addr->List (Key×V)->It}{f:Key×Z->Z}(hJ:∀{K:Fg}{a:Addr}{o:Obj}{us:List (Key×V)}{kvs:List (Key×Z)}{H0:Hp},H0 a=some (.frz o (.dK us))->us.map (·.1)=kvs.map (·.1)->Reps K H0 (kvs.map (·.2)) (us.map (·.2))->a23 K (kvs.map f) (λ_=>True) (J o a us) H0)
  (h:PI X tg l (iDv J (low X.K tl))):QI X tg l (iDvZ f tl):=a7v h fun τ H R2 hx=>hx.un fun σ G R hs hg h up=>by
 refine⟨σ,G,_,hs,hg,h,λw G1 v H1 h1 rv hg1 t1=>?_⟩;cases w with
 |ref a=>
  rw[a0j]at rv;obtain⟨kvs,e,h1⟩:=h1;rcases e with e |e
  ·obtain⟨us,e',hn,rr⟩:=hg1 _ _ e;refine⟨a,us,rv,.inl ⟨e',λo=>?_⟩⟩;have tk:TK X.K H1 (L2.upd H1 a (.frz o (.dK us))):=.dK e';exact up _ _ _ _ _ h1 (hJ a0d hn (rr.mono tk)) (hg1.set (o:=.dF kvs) tk ⟨o,us,a0d,hn,rr.mono tk⟩) (t1.trans tk)
  ·have e0:=e;obtain⟨o,us,e',hn,rr⟩:=hg1 _ _ e;refine⟨a,us,rv,.inr ⟨o,e',?_⟩⟩;have eG:put G1 a (.dF kvs)=G1:=by
    funext b
    unfold put
    split
    ·next hb=>rw[hb,e0]
    ·rfl
   rw[eG]at h1;exact up _ _ _ _ _ h1 (hJ e' hn rr) hg1 t1
 |_=>exact bg h1
def a5J{o:Expr}{apos pos tpos:Pos}{elts:List Expr}{x1:_}(ho:QE X o tl)(hbase:gE o "items" X.env (eval o X.env)=eval o X.env:=by rfl)(hline:(apos.endLine==pos.line)=true:=by rfl):QI X (.Tuple elts x1 tpos) (.Call (.Attribute o "items" apos) [] [] pos) (iDvZ fIt tl):=b0x a5c (a9L ho.p hbase hline)
def a8f{o:Expr}{apos pos:Pos}(ho:QE X o tl)(hbase:gE o "values" X.env (eval o X.env)=eval o X.env:=by rfl)(hline:(apos.endLine==pos.line)=true:=by rfl):QI X tg (.Call (.Attribute o "values" apos) [] [] pos) (iDvZ (·.2) tl):=b0x a4A (a8e ho.p hbase hline)
def b6M{f:Key×Z->Z}{σ:S3}{G:Hq}{R:List Z->(Hq->Prop)->Hq->Prop}(h:tl σ G λx G1=>wkDv f x G1 R):iDvZ f tl σ G R:=h
def a8g{f:Key×Z->Z}{p:Addr}{kvs:List (Key×Z)}{G:Hq}{R:List Z->(Hq->Prop)->Hq->Prop}(e:G p=some (.dK kvs)\/G p=some (.dF kvs))(h:R (kvs.map f) (λ_=>True) (put G p (.dF kvs))):wkDv f (.ref p) G R:=⟨kvs,e,h⟩
end
end L3
namespace Tim
open PySem PyProof.Rows PySem.W
section
variable{prog:fK}{w:World}{A:Around}{E:Value->Shared->Prop}{s:Shared}
def b4G{a b:Addr}{oa ob:Obj}{xs ys:Array Value}{n m:Nat}{x y:List Pz}{P:PySem.Fin->Shared->Prop}(hoa:s.heap.get? a=some oa)(hda:oa.data=.seq xs n)(hob:s.heap.get? b=some ob)(hcb:ob.cls=.type "tuple")(hdb:ob.data=.seq ys m)
  (vx:PtsAre x xs.toList) (vy:PtsAre y ys.toList) (hl:x.length=y.length) (hc:cmpT x y=true) (h:P (.done (.ret (.bool (ltT x y)))) s):wpAny (model prog w) A (fO.«tuple.__lt__» ⟨[.ref a,.ref b],[]⟩) P E s:=by
 have hTb:s.TypeIs (.ref b) "tuple":=⟨_,hob,hcb⟩
 show wpAny _ _ (isInstance (.ref b) (.type "tuple") >>= _) _ _ s
 refine fF (iZ hTb isSubtype_tuple_tuple ?_);simp only[cR,bQ,if_false];refine fF (wpAny_tupleItemsOf hoa hda ?_);refine fF (wpAny_tupleItemsOf hob hdb ?_);refine fF ?_;have l1:xs.size=ys.size:=by
  have e1:=a48 vx;have e2:=a48 vy;rw[cb]at e1 e2;omega
 refine iX _
  (λrest r s'=>r.1=none/\s'=s/\∃(x' y':List Pz)(xs' ys':List Value),rest=List.zip xs' ys'/\PtsAre x' xs'/\PtsAre y' ys'/\cmpT x' y'=true/\ltT x' y'=ltT x y)
  _ ?_ ?_ _ _ ⟨rfl,rfl,x,y,xs.toList,ys.toList,rfl,vx,vy,hc,rfl⟩
 ·rintro⟨u,v⟩ rest r s' ⟨hr,rfl,x',y',xs',ys',hz,hx',hy',hc',hd⟩
  match x',y',xs',ys',hx',hy',hz with
  |p::x2,q::y2,u'::xs2,v'::ys2,⟨hp,hx⟩,⟨hq,hy⟩,hz=>
   simp only[fh,ci.injEq,Prod.mk.injEq]at hz;obtain⟨⟨rfl,rfl⟩,rfl⟩:=hz;rw[ltT]at hd;unfold cmpT at hc'
   by_cases hk:p=q
   ·refine fF (b4f hp hq (.inl hk) ?_);rw[decide_eq_true hk];simp only[cR,bQ,if_false];rw[if_pos hk]at hd hc';exact fI ⟨rfl,rfl,x2,y2,xs2,ys2,rfl,hx,hy,hc',hd⟩
   ·rw[if_neg hk]at hd hc';refine fF (b4f hp hq (.inr hc') ?_);rw[decide_eq_false hk];simp only[Bool.not_false,if_true];rw[<- hd]at h;refine fF (gJ (fF ?_))
    match p,q,hp,hq,hc',h with
    |.inl (some i),.inl (some j),hp,hq,_,h=>obtain⟨t,rfl⟩:=hp;obtain⟨t',rfl⟩:=hq;exact PyProof.Rows.lt_int (fF (fI (fI (fI h))))
    |.inr i,.inr j,hp,hq,_,h=>obtain⟨t,rfl⟩:=hp;obtain⟨t',rfl⟩:=hq;exact PyProof.Rows.lt_str (fF (fI (fI (fI h))))
    |.inl none,_,_,_,hc',_=>simp[cmp1]at hc'
    |.inl (some _),.inl none,_,_,hc',_=>simp[cmp1]at hc'
    |.inl (some _),.inr _,_,_,hc',_=>simp[cmp1]at hc'
    |.inr _,.inl _,_,_,hc',_=>simp[cmp1]at hc'
  |[],_,[],_,_,_,hz=>simp at hz
  |_::_,[],_::_,[],_,_,hz=>simp at hz
 ·rintro⟨r1,r2⟩ s' ⟨hr,rfl,x',y',xs',ys',hz,hx',hy',hc',hd⟩;simp only at hr;subst hr;refine fI ?_;have e:ltT x y=false:=by
   rw[<- hd]
   match x',y',xs',ys',hx',hy',hz with
   |[],_,_,_,_,_,_=>rfl
   |_::_,[],_,_,_,_,_=>rfl
   |_::_,_::_,_::_,_::_,_,_,hz=>simp at hz
  have e2:fO.Tuple.tupleCompareSizes CmpOp.Lt xs.size ys.size=.bool false:=by
   show Value.bool (decide (xs.size<ys.size))=_
   rw[decide_eq_false (by omega)]
  rw[e2];rw[e]at h;exact h
end
section
variable{prog:fK}{w:World}{A:Around}{E:Value->Shared->Prop}{s:Shared}{l I S:Addr}{vs:List Value}{rows:List (List Pz)}{m:Nat}{R:Result->Shared->Prop}{Q:Value->Shared->Prop}
abbrev Kp(s:Shared)(h:Heap):Prop:=∀b o,s.heap.get? b=some o->h.get? b=some o
theorem a3T:∀{h:Heap}{vs:List Value}{rows:List (List Pz)},RowsIn h vs rows->∀{i:Nat}{v:Value},vs[i]?=some v->∃x,rows[i]?=some x/\RowIn h v x
 |_,_::_,_::_,⟨r,_⟩,0,v,e=>by cases e;exact⟨_,rfl,r⟩
 |_,_::_,_::_,⟨_,q⟩,i+1,v,e=>by simpa using a3T q (i:=i) (v:=v) (by simpa using e)
 |_,[],[],_,_,_,e=>by simp at e
def b4H{h:Heap}{s':Shared}(hs:s'.heap=h){u v:Value}{x y:List Pz}{Qv:Value->Shared->Prop}(ru:RowIn h u x)(rv:RowIn h v y)(hl:x.length=y.length)(hc:cmpT x y=true)(hu:A.units<cLine)(q:Qv (.bool (ltT x y)) s'):wpAny (model prog w) A (richCompare .Lt u v) Qv E s':=by
 subst hs;obtain⟨a,o,its,n,rfl,e1,e2,e3,e4⟩:=ru;obtain⟨a',o',its',n',rfl,f1,f2,f3,f4⟩:=rv;exact jy (op:=.Lt) ⟨_,e1,e2⟩ ⟨_,f1,f2⟩ F.slot_tuple_lt (gA F.slot_tuple_lt ⟨_,e1,e2⟩ F.entry_tuple_lt (b4G e1 e3 f1 f2 f3 e4 f4 hl hc ⟨_,rfl,(λe=>nomatch e),q⟩) (F.args_tuple_lt_2 _ _)) hu
def RowIn.up{h h':Heap}{v:Value}{x:List Pz}(r:RowIn h v x)(k:∀b o,h.get? b=some o->h'.get? b=some o):RowIn h' v x:=by
 obtain⟨a,o,its,n,e0,e1,r⟩:=r;exact⟨a,o,its,n,e0,k _ _ e1,r⟩
def a9M(hh:A.in1.handled=none)(hu:A.in1.units<cLine)(hl:s.heap.IsList l vs.toArray)(hr:RowsIn s.heap vs rows)(hm:∀x∈rows,x.length=m)(hc:∀x∈rows,∀y∈rows,cmpT x y=true)(hI:s.heap.objs.size<=I)(hS:s.heap.objs.size<=S)(hSI:S≠I)
  (hR:∀(i:Nat)(v:Value)(x:List Pz)(h':Heap)(tk:Nat),vs[i]?=some v->rows[i]?=some x->(∀y∈rows,ltT y x=false)->Kp s h'->R (.ok (.ret v)) { s with heap:=h',toks:=tk }) :
  ∀(r j i:Nat)(h:Heap)(tk:Nat)(vb:Value)(x:List Pz)(c:Nat),vs.length-(j+1)=r->j+1<=vs.length->Kp s h->h.get? S=some (seqObj "list" #[vb,vb] c)->h.IsListIter I l (j+1)->vs[i]?=some vb->rows[i]?=some x->(∀(j':Nat) y,j'<=j->rows[j']?=some y->ltT y x=false) ->
   gq (model prog w) A (.builtin "min.loop" ⟨[.ref I,.none,.ref S],[(Str.ofString "default",.none)]⟩) R { s with heap:=h,toks:=tk }:=by
 have hname:(toString "min"++toString ".loop":String)="min.loop":=by decide
 obtain⟨ol,hol,_⟩:=id hl;have hll:=Heap.lt_size hol;have hlI:l≠I:=bj (bx hll hI);have W:=Walks.list (prog:=prog) (w:=w) (A:=A.in1) hh I l hlI vs.toArray;have hsz:vs.toArray.size=vs.length:=bG ..;have nI:∀b o,s.heap.get? b=some o->b≠I:=λb o e=>bj (bx (Heap.lt_size e) hI);have nS:∀b o,s.heap.get? b=some o->b≠S:=λb o e=>bj (bx (Heap.lt_size e) hS);have il:∀h,Kp s h->h.IsList l vs.toArray:=λh k=>let ⟨o,e,r⟩:=hl;⟨o,k _ _ e,r⟩
 intro r
 induction r with
 |zero=>
  intro j i h tk vb x c hr' hj K gS hit hvb hx hbest;have hin:j+1=vs.length:=by omega
  refine jz PySem.F.entry_min_loop ?_;rw[Around.under_plainId PySem.F.plain_min_loop _]
  show wpAny _ A.in1 (seqItems? (.ref S) >>= _) _ _ _
  refine fF (gL gS rfl ?_)
  show wpAny _ A.in1 (tryCatch (pyNext (.ref I)) _ >>= _) _ _ _
  refine fF (iJ (W.done _ _ _ ⟨by rw[hsz,<- hin];exact hit,il h K⟩ λh' tk' hk'=>?_));have K1:Kp s h':=λb o e=>hk' b o (by simpa using nI b o e) (K b o e);have gS':=hk' S _ (by simpa using hSI) gS;have s1:=Heap.SameBut.update h' S (Obj.mapSeq λ_=>(#[]:Array Value))
  show wpAny _ A.in1 (updateSeq S (λ_=>#[]) >>= _) _ _ _
  refine fF ?_;refine iY gS' rfl (fF (ig (fI ?_)));exact hR i vb x _ _ hvb hx (λy hy=>by
   obtain⟨j',hj'⟩:=cu hy
   have:=(aZ.mp hj').1
   exact hbest j' y (by have:=hr.len;omega) hj') λb o e=>(s1.2 b (nS b o e)).trans (K1 b o e)
 |succ r ih=>
  intro j i h tk vb x c hr' hj K gS hit hvb hx hbest;have hlt:j+1<vs.length:=by omega
  refine jz PySem.F.entry_min_loop ?_;rw[Around.under_plainId PySem.F.plain_min_loop _]
  show wpAny _ A.in1 (seqItems? (.ref S) >>= _) _ _ _
  refine fF (gL gS rfl ?_)
  show wpAny _ A.in1 (tryCatch (pyNext (.ref I)) _ >>= _) _ _ _
  refine fF (iJ (W.item (j+1) _ _ _ (by rw[hsz];exact hlt) ⟨hit,il h K⟩ λv h' tk' hP hst' hk'=>?_));have hv:vs[j+1]?=some v:=by simpa using hP
  have K1:Kp s h':=λb o e=>hk' b o (by simpa using nI b o e) (K b o e);have gS':=hk' S _ (by simpa using hSI) gS;obtain⟨y,hy,ry⟩:=a3T hr hv;obtain⟨x',hx',rx⟩:=a3T hr hvb;rw[hx]at hx';cases hx';have my:=bo hy;have mx:=bo hx
  show wpAny _ A.in1 (pure v >>= _) _ _ _
  refine fF (fI ?_)
  show wpAny _ A.in1 (tryCatch (gb [v,v] (richCompare .Lt v vb >>= _)) _ >>= _) _ _ _
  refine fF (iJ (f7 (fF (b4H (h:=h') rfl (ry.up K1) (rx.up K1) (by rw[hm y my,hm x mx]) (hc y my x mx) hu ?_))));refine fF (f7 (gw ?_));refine fF (ig (fI ?_));cases hb:ltT y x with
  |true=>
   have s1:=Heap.SameBut.update h' S (Obj.mapSeq λ_=>#[v,v]);obtain⟨c2,hc2⟩:∃c2,(h'.update S (Obj.mapSeq λ_=>#[v,v])).get? S=some (seqObj "list" #[v,v] c2):=⟨_,get?_update_seq gS' λ_=>#[v,v]⟩;simp only[if_true];refine fF ?_;refine iY gS' rfl (fF (ig ?_));rw[hname];refine fI ⟨i6 PySem.F.plain_min_loop _,ih (j+1) (j+1) _ _ v y c2 (by omega) hlt (λb o e=>(s1.2 b (nS b o e)).trans (K1 b o e)) hc2 ?_ hv hy λj' z hj' hz=>?_⟩
   ·obtain⟨oI,g,r⟩:=hst'.1;exact⟨oI,(s1.2 I hSI.symm).trans g,r⟩
   ·by_cases e:j'=j+1
    ·subst e;rw[hy]at hz;cases hz;exact a7P _
    ·have h1:=hbest j' z (by omega) hz;cases h2:ltT z y with
     |false=>rfl
     |true=>rw[a4s h2 hb]at h1;cases h1
  |false=>
   simp only[bQ,if_false];refine fF (ig ?_);rw[hname];refine fI ⟨i6 PySem.F.plain_min_loop _,ih (j+1) i _ _ vb x c (by omega) hlt K1 gS' hst'.1 hvb hx λj' z hj' hz=>?_⟩
   by_cases e:j'=j+1
   ·subst e;rw[hy]at hz;cases hz;exact hb
   ·exact hbest j' z (by omega) hz
def a9N(hh:A.in1.handled=none)(hu:A.in1.units<cLine)(hl:s.heap.IsList l vs.toArray)(hr:RowsIn s.heap vs rows)(hm:∀x∈rows,x.length=m)(hc:∀x∈rows,∀y∈rows,cmpT x y=true)
  (h0:rows=[]->∀(h':Heap)(tk:Nat),Kp s h'->Q .none { s with heap:=h',toks:=tk })
  (h1:∀(i:Nat)(v:Value)(x:List Pz)(h':Heap)(tk:Nat),vs[i]?=some v->rows[i]?=some x->(∀y∈rows,ltT y x=false)->Kp s h'->Q v { s with heap:=h',toks:=tk }) :
  wpAny (model prog w) A (call (.builtin "min") [.ref l] [(Str.ofString "default",.none)]) Q E s:=by
 have hname:(toString "min"++toString ".loop":String)="min.loop":=by decide
 obtain⟨ol,hol,_⟩:=id hl;have hll:=Heap.lt_size hol;have hlI:l≠s.heap.objs.size:=bj hll;have hsz:vs.toArray.size=vs.length:=bG ..;refine kmb_tree PySem.F.kind_min PySem.F.plain_min PySem.F.entry_min (by unfold argsOk;kernel_rfl) ?_
 show wpAny _ A.in1 (fO.Builtins.bindParams "min" ["key","default"] 0 ⟨[],[(Str.ofString "default",.none)]⟩ >>= _) _ _ s
 refine fF (ju (show fO.Builtins.bindParams "min" ["key","default"] 0 ⟨[],[(Str.ofString "default",.none)]⟩=pure [none,some .none] from rfl) ?_);refine fF (fI ?_);refine fF (jf hl ?_);refine fF (ie ?_ (bE _));rw[hname];have hS:(s.heap.push { cls:=.type "list_iterator",data:=.fields #[.ref l,.int 0 0] }).objs.size=s.heap.objs.size+1:=iI ..;have hSI:(s.heap.push { cls:=.type "list_iterator",data:=.fields #[.ref l,.int 0 0] }).objs.size≠s.heap.objs.size:=by rw[hS];exact cn (dk _)
 refine fI ⟨i6 PySem.F.plain_min_loop _,?_⟩;have K0:Kp s ((s.heap.push { cls:=.type "list_iterator",data:=.fields #[.ref l,.int 0 0] }).push (seqObj "list" #[] 0)):=λb x e=>Heap.get?_push_of_some _ (Heap.get?_push_of_some _ e);have gI:((s.heap.push { cls:=.type "list_iterator",data:=.fields #[.ref l,.int 0 0] }).push (seqObj "list" #[] 0)).get? s.heap.objs.size=some { cls:=.type "list_iterator",data:=.fields #[.ref l,.int 0 0] }:=
  Heap.get?_push_of_some _ (Heap.get?_push_size _ rfl)
 have gS:((s.heap.push { cls:=.type "list_iterator",data:=.fields #[.ref l,.int 0 0] }).push (seqObj "list" #[] 0)).get? (s.heap.push { cls:=.type "list_iterator",data:=.fields #[.ref l,.int 0 0] }).objs.size=some (seqObj "list" #[] 0):=Heap.get?_push_size _ rfl;have il:∀h,Kp s h->h.IsList l vs.toArray:=λh k=>let ⟨o,e,r⟩:=hl;⟨o,k _ _ e,r⟩
 have nI:∀b o,s.heap.get? b=some o->b≠s.heap.objs.size:=λb o e=>bj (Heap.lt_size e);have nS:∀b o,s.heap.get? b=some o->b≠(s.heap.push { cls:=.type "list_iterator",data:=.fields #[.ref l,.int 0 0] }).objs.size:=λb o e=>by rw[hS];exact bj (cX (Heap.lt_size e))
 have W:=Walks.list (prog:=prog) (w:=w) (A:=A.in1) hh s.heap.objs.size l hlI vs.toArray;refine jz PySem.F.entry_min_loop ?_;rw[Around.under_plainId PySem.F.plain_min_loop _]
 show wpAny _ A.in1 (seqItems? (.ref _) >>= _) _ _ _
 refine fF (gL gS rfl ?_)
 show wpAny _ A.in1 (tryCatch (pyNext (.ref s.heap.objs.size)) _ >>= _) _ _ _
 by_cases hne:0<vs.length
 ·refine fF (iJ (W.item 0 _ _ _ (by rw[hsz];exact hne) ⟨⟨_,gI,rfl,rfl⟩,il _ K0⟩ λv h' tk' hP hst' hk'=>?_));have hv:vs[0]?=some v:=by simpa using hP
  have K1:Kp s h':=λb o e=>hk' b o (by simpa using nI b o e) (K0 b o e);have gS':=hk' _ _ (by simpa using hSI) gS;obtain⟨y,hy,ry⟩:=a3T hr hv
  show wpAny _ A.in1 (pure v >>= _) _ _ _
  refine fF (fI ?_);have s1:=Heap.SameBut.update h' (s.heap.push { cls:=.type "list_iterator",data:=.fields #[.ref l,.int 0 0] }).objs.size (Obj.mapSeq λ_=>#[v,v]);obtain⟨c2,hc2⟩:∃c2,(h'.update (s.heap.push { cls:=.type "list_iterator",data:=.fields #[.ref l,.int 0 0] }).objs.size (Obj.mapSeq λ_=>#[v,v])).get? (s.heap.push { cls:=.type "list_iterator",data:=.fields #[.ref l,.int 0 0] }).objs.size=some (seqObj "list" #[v,v] c2):=⟨_,get?_update_seq gS' λ_=>#[v,v]⟩
  show wpAny _ A.in1 (updateSeq _ (λ_=>#[v,v]) >>= _) _ _ _
  refine fF ?_;refine iY gS' rfl ?_;rw[hname];refine fI ⟨i6 PySem.F.plain_min_loop _,a9M hh hu hl hr hm hc (aV _) (by rw[hS];exact dq _) hSI (λi v x h' tk a b c d=>h1 i v x h' tk a b c d) _ 0 0 _ _ v y c2 rfl hne (λb o e=>(s1.2 b (nS b o e)).trans (K1 b o e)) hc2 ?_ hv hy λj' z hj' hz=>?_⟩
  ·obtain⟨oI,g,r⟩:=hst'.1;exact⟨oI,(s1.2 _ hSI.symm).trans g,r⟩
  ·have e:j'=0:=by omega
   subst e;rw[hy]at hz;cases hz;exact a7P _
 ·have hn:vs=[]:=fj (by omega);subst hn;have hrn:rows=[]:=fj (by have:=hr.len;simpa using this.symm);refine fF (iJ (W.done _ _ _ ⟨⟨_,gI,rfl,rfl⟩,il _ K0⟩ λh' tk' hk'=>?_));refine fF (gJ (fI ?_));exact h0 hrn _ _ λb o e=>hk' b o (by simpa using nI b o e) (K0 b o e)
end
end Tim
namespace L2
open PySem PySem.Spec PyProof.Rows Tim
def minQ(K:Fg)(Q:VK):VK:=λv H1=>∃(p:Addr)(bs:List Addr)(rows:List (List Pz))(m:Nat),v=.ref p/\SqL K H1 p (bs.map V.ref)/\a8a H1 bs rows/\(∀x∈rows,x.length=m)/\(∀x∈rows,∀y∈rows,cmpT x y=true)/\(rows=[]->Q .non H1) /\
 ∀(i:Nat)(b:Addr)(x:List Pz),bs[i]?=some b->rows[i]?=some x->(∀y∈rows,ltT y x=false)->Q (.ref b) H1
def b11{X:Cx}{a:Expr}{ta:TE}{pN pos kp cp:Pos}{ck:_}(hc:X.calm=true)(hu:X.A.units+66<cLine)(hg:Gl X "min")(hm:X.mg "min"=none)(ha:PE X a ta)(he:fL [a] X.env=(false,eval a X.env)::fL [] X.env:=by rfl) :
  PE X (.Call (.Name "min" pN) [a] [⟨some "default",.Constant .none ck cp,kp⟩] pos) (fun σ H Q=>ta σ H (minQ X.K Q)):=by
 intro pins s σ H Q I h;refine gU (a2I I hg hm (show gg "min"=some (.builtin "min") by decide +kernel) ?_);refine callWith_kw (thn (b0w ha he pos pins s σ H (one1 (minQ X.K Q)) I h) λus s1 ⟨vs,H1,I1,r,q0⟩=>?_) (by rw[he];rfl) (by rw[he];rfl);obtain⟨v,rfl,q1⟩:=a8c q0;obtain⟨u,rfl,ru⟩:=a20 r;obtain⟨p,bs,rows,m,rfl,hl,ht,hm',hcm,h0,h1⟩:=q1;cases ru;refine kws_cons (Constant_none (kws_nil ?_));obtain⟨its,rv,pl,_⟩:=I1.list hl
 have:=a9E rv
 subst this;have hh:X.A.in1.handled=none:=I1.ok.hd hc;refine a9N hh (by show X.A.units+1<_;omega) pl.isList (a4z I1 ht) hm' hcm (λe h' tk k=>⟨.non,H1,I1.kept (t':=tk) k,rfl,h0 e⟩) λi v x h' tk hv hx hy k=>?_;rw[aW]at hv;cases hb:bs[i]? with
 |none=>rw[hb]at hv;cases hv
 |some b=>
  rw[hb]at hv;cases hv;exact⟨.ref b,H1,I1.kept (t':=tk) k,rfl,h1 i b x hb hx hy⟩
end L2
namespace L3
open PySem PySem.Spec PyProof.Rows L2 Tim
def b12(te:E3):E3:=fun σ G R=>te σ G λx G1=>∃(p:Addr)(rows:List (List Pz))(m:Nat),x=.ref p/\G1 p=some (.lst (rows.map tupZ))/\(∀x∈rows,x.length=m)/\(∀x∈rows,∀y∈rows,cmpT x y=true)/\(rows=[]->R .non G1)/\∀x∈rows,(∀y∈rows,ltT y x=false)->R (tupZ x) G1
def b4I{X:Cx}{a:Expr}{te:E3}{pN pos kp cp:Pos}{ck:_}(hc:X.calm=true)(hu:X.A.units+66<cLine)(hg:Gl X "min")(hm:X.mg "min"=none)(ha:QE X a te)(he:fL [a] X.env=(false,eval a X.env)::fL [] X.env:=by rfl) :
  QE X (.Call (.Name "min" pN) [a] [⟨some "default",.Constant .none ck cp,kp⟩] pos) (b12 te):=⟨a0I (b11 hc hu hg hm ha.p he) fun τ H Q hx=>hx.un fun σ G R hs hg h up=>⟨σ,G,_,hs,hg,h,λw G1 v H1 hw rv hg1 t1=>by
  obtain⟨p,rows,m,rfl,e,hm',hcm,h0,h1⟩:=hw;rw[a0j]at rv;obtain⟨vs,e',r'⟩:=hg1 _ _ e;obtain⟨bs,rfl,ta⟩:=a8b r';refine⟨p,bs,rows,m,rv,SqL.of e',ta,hm',hcm,λz=>up _ _ _ _ (h0 z) (by rw[a0u]) hg1 t1,λi b x hb hx hy=>up _ _ _ _ (h1 x (bo hx) hy) ?_ hg1 t1⟩;unfold tupZ;rw[a0V];exact⟨b,_,rfl,ta.2 i b x hb hx,reps_pts.mpr rfl⟩⟩⟩
def b4J{te:E3}{σ:S3}{G:Hq}{R:K3}(h:te σ G λx G1=>∃(p:Addr)(rows:List (List Pz))(m:Nat),x=.ref p/\G1 p=some (.lst (rows.map tupZ))/\(∀x∈rows,x.length=m)/\(∀x∈rows,∀y∈rows,cmpT x y=true)/\(rows=[]->R .non G1)/\∀x∈rows,(∀y∈rows,ltT y x=false)->R (tupZ x) G1):b12 te σ G R:=h
end L3
namespace L2
open PySem PySem.Spec PyProof.Rows
def EqW(P:fK)(w:World)(A:Around)(s:Shared)(v y:Value):Prop:=∀(E:Value->Shared->Prop)(Q:Bool->Shared->Prop),Q true s->wpAny (model P w) A (eqBool v y) Q E s
section
variable{P:fK}{w:World}{A:Around}{E:Value->Shared->Prop}{s:Shared}
def a4B{nm:String}{a b:Addr}{ka kb:List (Key×Value)}{Q:Bool->Shared->Prop}(na:(a==fX)=false)(nb:(b==fX)=false)(da:s.heap.DictOf (a0i P w) a ka)(db:s.heap.DictOf (a0i P w) b kb)(hl:ka.length=kb.length)
  (hv:∀(i:Nat) k v,ka[i]?=some (k,v)->∃y,gi kb k=some y/\EqW P w A s v y) (q:Q true s):wpAny (model P w) A (fO.Dict.samePairs nm a b) Q E s:=by
 obtain⟨o1,e1,p1,g1,x1,d1,k1,r1,z1⟩:=da;obtain⟨o2,e2,p2,g2,x2,d2,k2,r2,z2⟩:=db;have l1:e1.size=ka.length:=by rw[<- r1.length,cb]
 have l2:e2.size=kb.length:=by rw[<- r2.length,cb]
 have fnd:∀k,findBy (a0i P w).is e2 k=gi kb k:=λk=>by
  rw[<- r2.find k];clear l2 r2 k2 d2 g2;cases e2;simp[findBy]
 unfold fO.Dict.samePairs fO.Dict.showsAll;simp only[na,nb,bQ,if_false];refine fF (fI (fF (fI (fF (i7 g1 d1 ?_)))));refine fF (i7 g2 d2 ?_);rw[if_neg (by simp[l1,l2,hl])];refine fF (wpAny_dictEpoch g1 d1 (fF ?_));rw[Std.Legacy.Range.forIn_eq_forIn_range'];simp only[Std.Legacy.Range.size,Nat.sub_zero,dD,Nat.div_one];refine iX _ (λrest u t=>t=s/\u=(none,())/\∃i,i<=e1.size/\rest=List.range' i (e1.size-i)) _ ?_ ?_ _ _ ⟨rfl,rfl,0,bE _,by simp⟩
 ·rintro n rest u t ⟨rfl,rfl,i,hi,er⟩;have lt:i<e1.size:=by
   refine Nat.lt_of_le_of_ne hi λz=>?_;rw[z,Nat.sub_self]at er;cases er
  rw[show e1.size-i=(e1.size-(i+1))+1 by omega,List.range'_succ]at er;cases er;refine fF (i7 g1 d1 ?_);rw[dJ lt];have lk:n<ka.length:=by omega
  obtain⟨⟨k,v⟩,ek⟩:∃p,ka[n]?=some p:=⟨_,bh lk⟩;obtain⟨ky,vl⟩:=r1.get? (i:=n) (e:=e1[n]) (k:=k) (v:=v) (by rw[cw];exact dJ lt) ek;obtain⟨k',ky',hs⟩:=k1 e1[n] (Array.getElem_mem lt);cases (a0i P w).inj _ _ _ ky' ky;obtain⟨y,ey,eq⟩:=hv n k v ek
  show wpAny _ _ (gb [e1[n].key,e1[n].val] _ >>= _) _ _ _
  rw[hs];refine fF (f7 (fF (wpAny_dictFind_of ky g2 d2 k2 ?_)));rw[<- fnd k,findBy_of_findIdx?]at ey;cases hj:e2.findIdx? λe=>(a0i P w).is k e.key with
  |none=>rw[hj]at ey;cases ey
  |some j=>
   have lj:=(Array.findIdx?_eq_some_iff_getElem.mp hj).1;rw[hj]at ey;have ey':e2[j].val=y:=by simpa[dJ lj]using ey
   refine fF (i7 g2 d2 ?_);rw[dJ lj];rw[<- ey',<- vl]at eq;refine f7 (eq _ _ ?_);simp only[cR,bQ,if_false];refine fF (wpAny_dictEpoch g1 d1 ?_);rw[if_neg (by simp)];exact fI ⟨rfl,rfl,n+1,lt,rfl⟩
 ·rintro u t ⟨rfl,rfl,i,hi,er⟩;exact fI q
def b13{a b:Addr}{ka kb:List (Key×Value)}{Q:Value->Shared->Prop}(na:(a==fX)=false)(nb:(b==fX)=false)(da:s.heap.DictOf (a0i P w) a ka)(db:s.heap.DictOf (a0i P w) b kb)(hu:A.units<cLine)(hl:ka.length=kb.length)
  (hv:∀(i:Nat) k v,ka[i]?=some (k,v)->∃y,gi kb k=some y/\EqW P w A.in1 s v y) (q:Q (.bool false) s):wpAny (model P w) A (fM .NotEq (.ref a) (.ref b)) Q E s:=by
 refine jy (op:=.NotEq) da.typeIs db.typeIs PySem.F.slot_dict_ne (gA PySem.F.slot_dict_ne da.typeIs PySem.F.entry_dict_ne ?_ (PySem.F.args_dict_ne_2 _ _)) hu
 show wpAny _ _ (fO.Dict.dictSlotArgs "__ne__" ⟨[.ref a,.ref b],[]⟩ >>= _) _ _ s
 refine fF ?_;unfold fO.Dict.dictSlotArgs;refine fF (wpAny_notOrdered_dict da.typeIs (fI ?_));refine fF (iZ (T:="dict") db.typeIs PySem.F.sub_dict_dict ?_);simp only[cR,bQ,if_false];refine fF (fI (fF (fI (fF (a4B na nb da db hl hv ?_)))));exact fI ⟨_,rfl,(λx=>nomatch x),q⟩
def a9O{a b:Addr}{ka kb:List (Key×Value)}(ne:a≠b)(na:(a==fX)=false)(nb:(b==fX)=false)(da:s.heap.DictOf (a0i P w) a ka)(db:s.heap.DictOf (a0i P w) b kb)(hu:A.units<cLine)(hl:ka.length=kb.length)
  (hv:∀(i:Nat) k v,ka[i]?=some (k,v)->∃y,gi kb k=some y/\EqW P w A.in1 s v y):EqW P w A s (.ref a) (.ref b):=λE Q q=>by
 unfold eqBool;refine f7 (wpAny_ite_split (λh=>absurd (by have:=eq_of_beq h;injection this) ne) λ_=>fF ?_);refine jy (op:=.Eq) da.typeIs db.typeIs PySem.F.slot_dict_eq (gA PySem.F.slot_dict_eq da.typeIs PySem.F.entry_dict_eq ?_ (PySem.F.args_dict_eq_2 _ _)) hu
 show wpAny _ _ (fO.Dict.dictSlotArgs "__eq__" ⟨[.ref a,.ref b],[]⟩ >>= _) _ _ s
 refine fF ?_;unfold fO.Dict.dictSlotArgs;refine fF (wpAny_notOrdered_dict da.typeIs (fI ?_));refine fF (iZ (T:="dict") db.typeIs PySem.F.sub_dict_dict ?_);simp only[cR,bQ,if_false];refine fF (fI (fF (fI (fF (a4B na nb da db hl hv ?_)))));exact fI ⟨_,rfl,(λx=>nomatch x),gw q⟩
end
section
variable{X:Cx}
def a6s:CallR X (.type "dict") (λxs H Q=>∃a kvs,xs=[.ref a]/\Rd H a (.dK kvs)/\∀l,H l=none->Q (.ref l) (upd H l (.dK kvs))):=by
 intro pins s σ H xs us Q I r h;obtain⟨a,kvs,rfl,e,q⟩:=h;obtain⟨u,rfl,rx⟩:=a20 r;cases rx;obtain⟨hz,hm,vs,rel,hd⟩:=a2L I.hok e;refine kt_call_dict hm hd (by rw[<- rel.length];exact hz) λh' dd sb=>?_;refine⟨.ref s.heap.objs.size,_,I.laid (a:=s.heap.objs.size) (o:=.dK kvs) (t':=s.toks) (λb o e=>?_) (aV _) (a4h hz ?_ rel dd),rfl,q _ (I.hok.fresh (aV _))⟩
 ·rw[sb.2 b (bj (Heap.lt_size e))];exact Heap.get?_push_of_some _ e
 ·exact (a3w (P:=X.prog) (w:=X.w) (H:=λ_=>none) s.heap I.big).2.1
def b14:MtR X "dict.pop" (λx vs H Q=>∃a kvs k v,x=.ref a/\vs=[kV k]/\H a=some (.dK kvs)/\valV kvs k=some v/\Q v (upd H a (.dK (a3t kvs k)))):=by
 intro pins s σ H x vs v us Q I rx rv ⟨a,kvs,k,v',ex,ev,e,hv,q⟩;subst ex ev;cases rx;obtain⟨u,rfl,ru⟩:=a20 rv;exact b5N I e ru hv (.inl rfl) λw' s' I' rw'=>⟨v',_,I',rw',q⟩
def DEq1(H:Hp)(x y:V):Prop:=∃d,DV H d x/\DV H d y/\SeqAt.shaped d=true/\PyData.eqv d d=true
def b15(R:V->V->Prop)(H:Hp)(x y:V):Prop:=∃a b ua ub,x=.ref a/\y=.ref b/\a≠b/\Rd H a (.dK ua)/\Rd H b (.dK ub)/\ua.map (·.1)=ub.map (·.1)/\∀(i:Nat) p q,ua[i]?=some p->ub[i]?=some q->R p.2 q.2
def a5d:∀{kb:List (Key×Value)},(kb.map (·.1)).Nodup->∀{i:Nat}{k:Key}{y:Value},kb[i]?=some (k,y)->gi kb k=some y:=by
 intro kb
 induction kb with
 |nil=>intro _ i k y e;simp at e
 |cons p r ih=>
  intro nd i k y e;rw[aY,bX]at nd;unfold gi;cases i with
  |zero=>cases e;simp
  |succ i=>
   have e':r[i]?=some (k,y):=by simpa using e
   have ne:p.1≠k:=λz=>nd.1 (by rw[z];exact b8 (f:=(·.1)) (bo e'));rw[List.find?_cons_of_neg (by simpa using ne)];exact ih nd.2 e'
def a4C{H:Hp}{s:Shared}{pins:List (Addr×Obj)}{σ:St}{ua ub:List (Key×V)}{ka kb:List (Key×Value)}{a b:Addr}{R:V->V->Prop}{A:Around}(va:KV ua ka)(vb:KV ub kb)(db:s.heap.DictOf (a0i X.prog X.w) b kb)(hk:ua.map (·.1)=ub.map (·.1))(hr:∀(i:Nat) p q,ua[i]?=some p->ub[i]?=some q->R p.2 q.2)
  (he:∀x y u v,R x y->RelV x u->RelV y v->EqW X.prog X.w A s u v):ka.length=kb.length/\∀(i:Nat) k v,ka[i]?=some (k,v)->∃y,gi kb k=some y/\EqW X.prog X.w A s v y:=by
 have hl:ua.length=ub.length:=by have:=congrArg bM hk;simpa using this
 refine⟨by rw[a1Y va,a1Y vb,hl],λi k v e=>?_⟩;have li:i<ua.length:=by have:=(aZ.mp e).1;rw[a1Y va]at this;exact this
 obtain⟨p,hp⟩:∃p,ua[i]?=some p:=⟨_,bh li⟩;obtain⟨q,hq⟩:∃q,ub[i]?=some q:=⟨_,bh (by omega)⟩;obtain⟨p',e1,e2,e3⟩:=a3S va hp;obtain⟨q',f1,f2,f3⟩:=a3S vb hq;rw[e]at e1;cases e1;have ek:p.1=q.1:=by
  have:(ua.map (·.1))[i]?=some q.1:=by rw[hk,aW,hq];rfl
  rw[aW,hp]at this;exact bv.inj this
 obtain⟨k',y⟩:=q'
 have:k'=k:=(f2.symm.trans ek.symm).trans e2
 subst this;obtain⟨_,_,_,_,_,_,_,_,nd⟩:=db;exact⟨y,a5d nd f1,he _ _ _ _ (hr i p q hp hq) e3 f3⟩
def b16(hu:X.A.units+200<cLine):OpR X (fM .NotEq) (λx y H Q=>b15 (b15 (DEq1 H) H) H x y/\Q (.bl false) H):=by
 intro pins s σ H x y v u Q I rx ry ⟨h,q⟩;obtain⟨a,b,ua,ub,rfl,rfl,ne,ra,rb,hk,hr⟩:=h;cases rx;cases ry;obtain⟨_,na,ka,va,da⟩:=a2L I.hok ra;obtain⟨_,nb,kb,vb,db⟩:=a2L I.hok rb;obtain⟨hl,hv⟩:=a4C (X:=X) (A:=X.A.in1) (pins:=pins) (σ:=σ) (a:=a) (H:=H) va vb db hk hr λx y u v ⟨a2,b2,ua2,ub2,e1,e2,ne2,ra2,rb2,hk2,hr2⟩ r1 r2=>by
  subst e1 e2;cases r1;cases r2;obtain⟨_,na2,ka2,va2,da2⟩:=a2L I.hok ra2;obtain⟨_,nb2,kb2,vb2,db2⟩:=a2L I.hok rb2;obtain⟨hl2,hv2⟩:=a4C (X:=X) (A:=X.A.in1.in1) (pins:=pins) (σ:=σ) (a:=a2) (H:=H) va2 vb2 db2 hk2 hr2 λx y u v ⟨d,d1,d2,d3,d4⟩ r1 r2=>by
   obtain⟨as,q1⟩:=d1.reads I.hok r1;obtain⟨bs,q2⟩:=d2.reads I.hok r2
   have:=PySem.W.keq_at (A:=X.A.in1) q1 q2 d3 d3 (by show X.A.units+1+1+64<_;omega)
   rw[d4]at this;exact λE Q h=>this _ _ E Q h
  exact a9O ne2 na2 nb2 da2 db2 (by show X.A.units+1<_;omega) hl2 hv2
 exact b13 na nb da db (by omega) hl hv ⟨.bl false,H,I,rfl,q⟩
end
end L2
namespace L3
open PySem PySem.Spec PyProof.Rows L2
section
variable{X:Cx}
def a8h{K:Fg}{G:Hq}{H:Hp}{p:Addr}{kvs:List (Key×Z)}(hg:RH K G H)(e:G p=some (.dK kvs)\/G p=some (.dF kvs)):∃us,Rd H p (.dK us)/\us.map (·.1)=kvs.map (·.1)/\Reps K H (kvs.map (·.2)) (us.map (·.2)):=by
 rcases e with e |e
 ·obtain⟨us,e',hn,rr⟩:=hg _ _ e;exact⟨us,.inl e',hn,rr⟩
 ·obtain⟨ob,us,e',hn,rr⟩:=hg _ _ e;exact⟨us,.inr ⟨ob,e'⟩,hn,rr⟩
def b0y:List Z->Hq->K3->Prop:=λxs G R=>match xs with
 |[.ref p]=>∃kvs,(G p=some (.dK kvs)\/G p=some (.dF kvs))/\∀t,G t=none->R (.ref t) (put G t (.dK kvs))
 |_=>False
def b17:a2b X (.type "dict") b0y:=a1C a6s λxs H Q hx=>hx.un λws G R rs hg h up=>by
 match ws,h with
 |[.ref p],h=>
  obtain⟨v,rfl,r⟩:=rs.one;rw[a0j]at r;obtain⟨kvs,e,h⟩:=h;obtain⟨us,e',hn,rr⟩:=a8h hg e;exact⟨p,us,by rw[r],e',λt ht=>up _ _ _ _ (h t (hg.out ht)) (by rw[a0j]) (hg.set (o:=.dK kvs) (.new ht) ⟨us,a0d,hn,rr.mono (.new ht)⟩) (.new ht)⟩
def b18{p:Addr}{kvs:List (Key×Z)}{G:Hq}{R:K3}(e:G p=some (.dK kvs)\/G p=some (.dF kvs))(h:∀t,G t=none->R (.ref t) (put G t (.dK kvs))):b0y [.ref p] G R:=⟨kvs,e,h⟩
noncomputable def a4D(kvs:List (Key×Z))(k:Key):List (Key×Z):=kvs.filter λkv=>decide (kv.1≠k)
def b4K:Z->List Z->Hq->K3->Prop:=λx xs G R=>match x,xs with
 |.ref p,[y]=>∃kvs k z,G p=some (.dK kvs)/\keyZ y=some k/\valZ kvs k=some z/\R z (put G p (.dK (a4D kvs k)))
 |_,_=>False
def a9P{K:Fg}{H:Hp}{k:Key}:∀{us:List (Key×V)}{kvs:List (Key×Z)},us.map (·.1)=kvs.map (·.1)->Reps K H (kvs.map (·.2)) (us.map (·.2))->(a3t us k).map (·.1)=(a4D kvs k).map (·.1)/\Reps K H ((a4D kvs k).map (·.2)) ((a3t us k).map (·.2)):=by
 intro us
 induction us with
 |nil=>
  intro kvs h _;cases kvs with
  |nil=>exact⟨rfl,.nil⟩
  |cons _ _=>cases h
 |cons u us ih=>
  intro kvs h r;cases kvs with
  |nil=>cases h
  |cons p kvs=>
   rw[aY,aY]at h r;injection h with h1 h2
   rw[a0x]at r;obtain⟨v,r',e,ra,rb⟩:=r;injection e with e1 e2
   subst e1 e2;obtain⟨i1,i2⟩:=ih h2 rb;unfold a3t a4D
   by_cases c:u.1=k
   ·rw[fm (by simpa using c),fm (by rw[<- h1];simpa using c)];exact⟨i1,i2⟩
   ·rw[fq (by simpa using c),fq (by rw[<- h1];simpa using c)];exact⟨by rw[aY,aY,h1];exact congrArg _ i1,.cons ra i2⟩
def b4L:MtQ X "dict.pop" b4K:=a40 b14 λx xs H Q hx=>hx.un λw ws G R rw' rs hg h up=>by
 match w,ws,h with
 |.ref p,[y],h=>
  rw[a0j]at rw';obtain⟨v,rfl,r1⟩:=rs.one;obtain⟨kvs,k,z,e,hk,hz,h⟩:=h;obtain⟨us,e',hn,rr⟩:=hg _ _ e;obtain⟨u',u1,u2⟩:=(a0A hn rr).2 z hz;have tk:TK X.K H (L2.upd H p (.dK (a3t us k))):=.dK e';obtain⟨d1,d2⟩:=a9P (k:=k) hn rr;exact⟨p,us,k,u',rw',by rw[a0M hk r1],e',u1,up _ _ _ _ h (u2.mono tk) (hg.set (o:=.dK (a4D kvs k)) tk ⟨_,a0d,d1,d2.mono tk⟩) tk⟩
def b4M{p:Addr}{kvs:List (Key×Z)}{k:Key}{y z:Z}{G:Hq}{R:K3}(e:G p=some (.dK kvs))(hk:keyZ y=some k)(hz:valZ kvs k=some z)(h:R z (put G p (.dK (a4D kvs k)))):b4K (.ref p) [y] G R:=⟨kvs,k,z,e,hk,hz,h⟩
def LEq(G:Hq)(x y:Z):Prop:=∃p q ws,x=.ref p/\y=.ref q/\G p=some (.lst ws)/\G q=some (.lst ws)/\ws.all (flat 8)=true
def a6t(R:Z->Z->Prop)(G:Hq)(x y:Z):Prop:=∃a b ka kb,x=.ref a/\y=.ref b/\a≠b/\(G a=some (.dK ka)\/G a=some (.dF ka))/\(G b=some (.dK kb)\/G b=some (.dF kb))/\ka.map (·.1)=kb.map (·.1)/\∀(i:Nat) p q,ka[i]?=some p->kb[i]?=some q->R p.2 q.2
def a4E{K:Fg}{G:Hq}{H:Hp}{R:Z->Z->Prop}{S:V->V->Prop}(hg:RH K G H)(hRS:∀x y u v,R x y->Rep K H x u->Rep K H y v->S u v){x y:Z}{u v:V}(h:a6t R G x y)(ru:Rep K H x u)(rv:Rep K H y v):b15 S H u v:=by
 obtain⟨a,b,ka,kb,rfl,rfl,ne,ea,eb,hk,hr⟩:=h;rw[a0j]at ru rv;obtain⟨us,e1,n1,r1⟩:=a8h hg ea;obtain⟨vs,e2,n2,r2⟩:=a8h hg eb;refine⟨a,b,us,vs,ru,rv,ne,e1,e2,by rw[n1,n2,hk],λi p q hp hq=>?_⟩;have l1:us.length=ka.length:=by have:=congrArg bM n1;simpa using this
 have l2:vs.length=kb.length:=by have:=congrArg bM n2;simpa using this
 obtain⟨p',hp'⟩:∃p',ka[i]?=some p':=⟨_,bh (by have:=(aZ.mp hp).1;omega)⟩;obtain⟨q',hq'⟩:∃q',kb[i]?=some q':=⟨_,bh (by have:=(aZ.mp hq).1;omega)⟩;obtain⟨p2,a1,_,a2⟩:=a1d n1 r1 hp';obtain⟨q2,b1,_,b2⟩:=a1d n2 r2 hq';rw[hp]at a1;cases a1;rw[hq]at b1;cases b1;exact hRS _ _ _ _ (hr i p' q' hp' hq') a2 b2
def b6N:R3:=λx y G R=>a6t (a6t (LEq G) G) G x y/\R (.bl false) G
def b4N(hu:X.A.units+200<cLine):OpQ X (fM .NotEq) b6N:=a2c (b16 hu) λx y H Q hx=>hx.un λa b G R ra rb hg h up=>by
 refine⟨a4E hg (λx y u v h1 r1 r2=>a4E hg (λx y u v h1 r1 r2=>?_) h1 r1 r2) h.1 ra rb,up _ _ _ _ h.2 (by rw[a0q]) hg (.refl _ _)⟩;obtain⟨p,q,ws,rfl,rfl,e1,e2,f⟩:=h1;rw[a0j]at r1 r2;subst r1 r2;obtain⟨vs,e1',s1⟩:=hg _ _ e1;obtain⟨us,e2',s2⟩:=hg _ _ e2;refine⟨.list (dZs ws),?_,?_,a09 f (by decide),?_⟩
 ·unfold DV;exact⟨_,vs,rfl,e1',a4k 8 _ _ f s1⟩
 ·unfold DV;exact⟨_,us,rfl,e2',a4k 8 _ _ f s2⟩
 ·simp only[PyData.eqv];exact (a7D 8 8 ws ws f f).mpr rfl
end
abbrev NsG(K:Fg)(x:Str)(v:Option Value):Prop:=PySem.W.nsIn K fU x=some v
def Br(K:Fg)(mg:Str->Option Value):Prop:=∀x v,NsG K x v->mg x=v
def b6O{K:Fg}(X:K.In h)(G:h.Ns fU mg):Br K mg:=λ_ v e=>match v,e with
 |some _,e=>PySem.W.mg_of X G e
 |none,e=>PySem.W.mg_none_of X G e
def FX(K:Fg)(x:Str)(st:Stmt):Prop:=∃f d,NsG K x (some (.ref f))/\Fun K x x st f d
def MX(K:Fg)(C:Addr)(m q:Str)(st:Stmt):Prop:=∃f d,Meth K C m f/\Fun K m q st f d
def AllF(K:Fg)(tp:Nat->Stmt)(l:List (Str×Nat)):Prop:=∀(i:Nat)(r:Str×Nat),l[i]?=some r->FX K r.1 (tp r.2)
def AllM(K:Fg)(tp:Nat->Stmt)(C:Addr)(l:List (Str×Str×Nat×Nat)):Prop:=∀(i:Nat)(r:Str×Str×Nat×Nat),l[i]?=some r->MX K C r.1 r.2.1 (a3s (tp r.2.2.1) r.2.2.2)
def AllB(K:Fg)(l:List Str):Prop:=∀(i:Nat) x,l[i]?=some x->NsG K x none
def AllN(K:Fg)(C:Addr)(l:List Str):Prop:=∀(i:Nat) x,l[i]?=some x->NoAttr K C x
section
variable{K:Fg}{tp:Nat->Stmt}{x m q:Str}{n j:Nat}{f C:Addr}{oc:Value}{od an:Option Addr}{osl:Array (Option Value)}{kV doc pm cdv ct:Value}
def af0:AllF K tp []:=λ_ _ h=>nomatch h
def af1(a:PySem.W.nsIn K fU x=some (some (.ref f)))(e:K.lookup f=some ⟨oc,od,.func (PySem.W.fnOf x x (a1A (tp n)) (a0P (tp n)) (a0l (tp n)) .none kV doc pm an cdv ct),osl⟩)
  (c:PySem.W.codeIn K cdv x=true) (k:PySem.W.keepIn K (.ref f)=true) (t:AllF K tp l):AllF K tp ((x,n)::l):=λi r h=>by
 cases i with
 |zero=>cases h;exact⟨f,_,a,b0e e c k⟩
 |succ i=>exact t i r h
def ab0:AllB K []:=λ_ _ h=>nomatch h
def ab1(a:PySem.W.nsIn K fU x=some none)(t:AllB K l):AllB K (x::l):=λi y h=>by
 cases i with
 |zero=>cases h;exact a
 |succ i=>exact t i y h
def an0:AllN K C []:=λ_ _ h=>nomatch h
def an1(a:PySem.W.findIn K (.ref C) x=some none)(t:AllN K C l):AllN K C (x::l):=λi y h=>by
 cases i with
 |zero=>cases h;exact a
 |succ i=>exact t i y h
def am0:AllM K tp C []:=λ_ _ h=>nomatch h
def am1(a:PySem.W.findIn K (.ref C) m=some (some (.ref f)))(g:PySem.W.isFn K (.ref f)=true)
  (e:K.lookup f=some ⟨oc,od,.func (PySem.W.fnOf m q (a1A (a3s (tp n) j)) (a0P (a3s (tp n) j)) (a0l (a3s (tp n) j)) .none kV doc pm an cdv ct),osl⟩)
  (c:PySem.W.codeIn K cdv q=true) (k:PySem.W.keepIn K (.ref f)=true) (t:AllM K tp C l):AllM K tp C ((m,q,n,j)::l):=λi r h=>by
 cases i with
 |zero=>cases h;exact⟨f,_,⟨a,g,k⟩,b0e e c k⟩
 |succ i=>exact t i r h
end
section
variable{P:fK}{w:World}{K:Fg}{mg:Str->Option Value}{base:Heap}{x q:Str}{st:Stmt}{f C:Addr}{d:fY}{N:List Str}{k n:Nat}
def Fd(P:fK)(w:World)(K:Fg)(mg:Str->Option Value)(base:Heap)(CX:CXT)(k:Nat)(f:Addr)(s:Sp):Prop:=∃d ps,FnOk P w K mg base CX k f d ps s/\Binds K d ps []
structure Cal (P:fK) (w:World) (K:Fg) (mg:Str->Option Value) (base:Heap) (CX:CXT) (k:Nat) (x:Str) (s:Sp):Prop where
 ex:∃f,Fd P w K mg base CX k f s/\mg x=some (.ref f)/\PySem.W.keepIn K (.ref f)=true
def Mal(P:fK)(w:World)(K:Fg)(mg:Str->Option Value)(base:Heap)(CX:CXT)(k:Nat)(C:Addr)(x:Str)(s:Sp):Prop:=∃f,Fd P w K mg base CX k f s/\Meth K C x f
abbrev Bd0(P:fK)(w:World)(K:Fg)(mg:Str->Option Value)(base:Heap)(N:List Str)(q:Str)(st:Stmt)(k:Nat)(sp:P3):Prop:=∀(f:Addr)(cdv:Value)(A:Around)(outer:List Env)(s:Shared)(H:Hp)(E:XK)(ws:List Z)(G:Hq)(R:K3),Room k (A.deeper (envOfC q (a0l st) s.heap.objs.size f cdv))->N.Nodup->sp ws G R ->
 ∃t,QSs (cxOf CX0 P w K mg base N q (a0l st) f cdv A outer s H E).nox (a0P st) t/\t (λ_ G'=>R .non G') R (λ_ _=>False) (λ_ _=>False) (a1l N ws) G
abbrev Pl(x q:Str)(st:Stmt)(ps:List Str):Prop:=∀(kV doc pm:Value)(an:Option Addr)(cdv ct:Value)(us:List Value),us.length=ps.length->hZ (PySem.W.fnOf x q (a1A st) (a0P st) (a0l st) .none kV doc pm an cdv ct) ⟨us,[]⟩=pure (ps.zip us)
def fnd{sp:P3}(F:Fun K x q st f d)(b:Bd0 P w K mg base N q st k sp)(S:FnScope N (N.take n) (a0l st))(len:∀ws G R,sp ws G R->ws.length=(N.take n).length):FnOk P w K mg base CX0 (k+1) f d (N.take n) (lowP K sp):=
 fn3 F S len λcdv A outer s H E ws G R hr h=>b f cdv A outer s H E ws G R hr S.nd h
def fnc{sp:P3}(n:Nat)(B:Br K mg)(F:FX K x st)(b:Bd0 P w K mg base N x st k sp)(len:∀ws G R,sp ws G R->ws.length=(N.take n).length:=by intro ws G R h;repeat' first | (obtain⟨rfl,_⟩:=h;rfl) | (cases h<;>rename_i h))(S:FnScope N (N.take n) (a0l st):=by exact⟨rfl,rfl,rfl,by decide +kernel,rfl,by decide +kernel,by decide +kernel⟩)(pl:Pl x x st (N.take n):=by intro _ _ _ _ _ _;(repeat refine lnS λ_=>?_);exact ln0 rfl):Cal P w K mg base CX0 (k+1) x (lowP K sp):=by
 obtain⟨f,d,e,F⟩:=F;exact⟨⟨f,⟨d,_,fnd F b S len,F.binds pl⟩,B _ _ e,F.kp⟩⟩
def fnm{sp:P3}(n:Nat)(F:MX K C x q st)(b:Bd0 P w K mg base N q st k sp)(len:∀ws G R,sp ws G R->ws.length=(N.take n).length:=by intro ws G R h;repeat' first | (obtain⟨rfl,_⟩:=h;rfl) | (cases h<;>rename_i h))(S:FnScope N (N.take n) (a0l st):=by exact⟨rfl,rfl,rfl,by decide +kernel,rfl,by decide +kernel,by decide +kernel⟩)(pl:Pl x q st (N.take n):=by intro _ _ _ _ _ _;(repeat refine lnS λ_=>?_);exact ln0 rfl):Mal P w K mg base CX0 (k+1) C x (lowP K sp):=by
 obtain⟨f,d,e,F⟩:=F;exact⟨f,⟨d,_,fnd F b S len,F.binds pl⟩,e⟩
end
noncomputable def nst:Expr->Bool
 |.Starred _ _=>false
 |_=>true
def se_(h:nst e=true):fL (e::es) env=(false,eval e env)::fL es env:=by cases e<;>first |rfl |cases h
def hp_:∀{es:List Expr},es.all nst=true->(backTo pos (fL es env)).any (·.1)=false:=by intro z0;induction z0 with
 |nil=>intro _;exact b3u
 |cons e es I0=>
  intro h;rw[cj,bS]at h;exact b1i (se_ h.1) (I0 h.2)
def s1_(h:(e::es).all nst=true):fL (e::es) env=(false,eval e env)::fL es env:=se_ (by simp_all)
def h1_(h:(e::es).all nst=true):(backTo pos (fL es env)).any (·.1)=false:=hp_ (by rw[cj,bS]at h;exact h.2)
section
variable{X:Cx}{e o:Expr}{es:List Expr}{t:A3}{te to:E3}{x m:Str}{k j:Nat}{C:Addr}{p pos apos:Pos}{sp:P3}{sq:PX3}{E:XK}{EE:Addr->Hq->Prop}{pl:Sem Bool}
def q_c(c:Cal X.prog X.w X.K X.mg X.base CX0 k x (lowP X.K sp))(hr:Room j X.A)(ha:QA X (e::es) t)(hn:(e::es).all nst=true:=by rfl)(hk:k<=j:=by decide)(hg:Gl X x:=by rfl)
  (hdb:(x==("__debug__":Str))=false:=by decide):QE X (.Call (.Name x p) (e::es) [] pos) (a9e sp t):=by
 obtain⟨f,⟨d,h,F,b⟩,g,a⟩:=c.ex;exact b3y F (hr.mono hk) hg g a b ha hdb (s1_ hn) (h1_ hn)
def q_m(ho:QE X o to)(c:Cls X.K C)(M:Mal X.prog X.w X.K X.mg X.base CX0 k C m (lowP X.K sp))(hr:Room j X.A)(ha:QA X (e::es) t)(hn:(e::es).all nst=true:=by rfl)(hk:k<=j:=by decide)
  (ht:eval (.Call (.Attribute o m apos) (e::es) [] pos) X.env=(do
   let ov <- eval o X.env
   gB apos.atName
   let (f,first) <- gb [ov] (io ov m pl)
   iq pos f first (backTo pos (fL (e::es) X.env)) (ir pos (iu [] X.env))):=by rfl):QE X (.Call (.Attribute o m apos) (e::es) [] pos) (a4v C m sp to t):=by
 obtain⟨f,⟨d,g,F,a⟩,b⟩:=M;exact b4q ho c b F (hr.mono hk) a ha (s1_ hn) (h1_ hn) ht
def q_k(ha:QE X e te)(hr:QA X es t)(h:nst e=true:=by rfl):QA X (e::es) (a2z te t):=b3x ha hr (se_ h)
def q_B{id:String}(hc:a2b X (.builtin id) r)(hm:X.mg x=none)(ha:QA X (e::es) t)(hv:gg x=some (.builtin id):=by rfl)(hn:(e::es).all nst=true:=by rfl)(hg:Gl X x:=by rfl)(h1:x≠"__name__":=by decide)(h2:(x==("__debug__":Str))=false:=by decide) :
  QE X (.Call (.Name x p) (e::es) [] pos) (uCB r t):=b1k hc hg hm hv ha h1 h2 (s1_ hn) (h1_ hn)
def q_Y{id:String}(hc:a2b X (.type id) r)(hm:X.mg x=none)(ha:QA X (e::es) t)(hv:gg x=some (.type id):=by rfl)(hn:(e::es).all nst=true:=by rfl)(hg:Gl X x:=by rfl)(h1:x≠"__name__":=by decide)(h2:(x==("__debug__":Str))=false:=by decide) :
  QE X (.Call (.Name x p) (e::es) [] pos) (uCB r t):=a9d hc hg hm hv ha h1 h2 (s1_ hn) (h1_ hn)
structure Nm (X:Cx) (x:Str) (i:Nat):Prop where
 nd:X.N.Nodup
 ix:X.N[i]?=some x
 lc:Loc X.env.scope x
 fn:X.fn x=true\/X.env.scope.names.lookup x=some .local
def nmI(i:Nat)(nd:X.N.Nodup)(ix:X.N[i]?=some x:=by rfl)(lc:Loc X.env.scope x:=by first |exact cq rfl |exact bY rfl)(fn:X.fn x=true\/X.env.scope.names.lookup x=some .local:=by first |exact .inl rfl |exact .inr rfl |assumption):Nm X x i:=⟨nd,ix,lc,fn⟩
def z_st(h:Nm X x i)(he:QE X e te)(hs:gM e (some (.Name x pos')) pos.line X.env=pure false:=by rfl):QS X (.Assign [.Name x pos'] e pos) (uAsg te (.nm i)):=b53 h.nd h.ix h.lc he hs h.fn
def z_au(h:Nm X x i)(he:QE X e te)(ho:OpQ X (gN op) r):QS X (.AugAssign (.Name x pos') op e pos) (uAug i te r):=b3F h.nd h.ix h.lc he ho h.fn
def p_nm(h:Nm X x i):QP X (.Name x pos) (.nm i):=a6J h.nd h.ix h.lc h.fn
def QPg(X:Cx)(es:List Expr)(is:List Nat):Prop:=PGs X es (gsOf is)/\(gz es X.env).length=is.length/\(gz es X.env).findIdx? (·.1)=none
def b6P:QPg X [] []:=⟨b0Q,rfl,rfl⟩
def b4O(h:Nm X x i)(t:QPg X es is):QPg X (.Name x pos::es) (i::is):=⟨a8L (a6J h.nd h.ix h.lc h.fn) t.1,congrArg Nat.succ t.2.1,by
 show List.findIdx? _ (_::gz es X.env)=none
 rw[List.findIdx?_cons,if_neg nofun,t.2.2];rfl⟩
def p_tp(hc:X.calm=true)(h:QPg X es is):QP X (.Tuple es c pos) (.tp is):=b2N hc h.1 h.2.1 h.2.2
section
variable{CX:CXT}{P:fK}{w:World}{K:Fg}{mg:Str->Option Value}{base:Heap}{N:List Str}{q:Str}{so:Scope}{f:Addr}{cd:Value}{A:Around}{outer:List Env}{s:Shared}{H:Hp}{E:XK}
def cxN:(cxOf CX P w K mg base N q so f cd A outer s H E).nox.N=N:=rfl
def cxS:(cxOf CX P w K mg base N q so f cd A outer s H E).nox.env.scope=so:=rfl
def cxN':(cxOf CX P w K mg base N q so f cd A outer s H E).N=N:=rfl
def cxS':(cxOf CX P w K mg base N q so f cd A outer s H E).env.scope=so:=rfl
end
def cxcN:(cxC X EW N' sc D s H fp).N=N':=rfl
section
variable{Nj:List Str}{so sc:Scope}{wi:I3}{tg iter elt:Expr}{ifs:List Expr}{tt:T3}{i:Nat}
def q_l(N':List Str)(cap:List (Option Nat))(pt:Pt)(hi:QI X tg iter wi:=by ac_rfl)(ht:∀C s H fp,QIfs (cxC X E0 N' sc C s H fp) ifs tt:=by walk_at "r4")(he:∀C s H fp,QE (cxC X E0 N' sc C s H fp) elt te:=by walk_at "r4")(hg:∀C s H fp,N'.Nodup->QP (cxC X E0 N' sc C s H fp) tg pt:=by walk_at "r5")
  (hNN:X.N=Nj:=by first |exact cxN |exact cxN' |exact cxcN) (hso:X.env.scope=so:=by first |exact cxS |exact cxS' |rfl) (ck:capB Nj so sc N' cap=true:=by first |decide +kernel |rfl) (hp:(pt.slots.all λj=>decide (cap[j]?=some none))=true:=by rfl)
  (nd:N'.Nodup:=by decide +kernel) (hc:X.calm=true:=by rfl) (hs:∀x,hU iter X.env x=pure x:=by intro _;rfl):QE X (.ListComp elt [⟨tg,iter,ifs,0⟩] sc pos) (uLC wi cap pt tt te):=q_lc hc hNN hso ck hp hi (λC s H a=>hg C s H a nd) ht he hs
end
end
def At(N:List Str)(i:Nat)(x:Str):Prop:=N[i]?=some x
def at_0:At (x::l) 0 x:=rfl
def at_1:At (c0::x::l) 1 x:=rfl
def at_2:At (c0::c1::x::l) 2 x:=rfl
def at_3:At (c0::c1::c2::x::l) 3 x:=rfl
def at_4:At (c0::c1::c2::c3::x::l) 4 x:=rfl
def at_5:At (c0::c1::c2::c3::c4::x::l) 5 x:=rfl
def at_6:At (c0::c1::c2::c3::c4::c5::x::l) 6 x:=rfl
def at_7:At (c0::c1::c2::c3::c4::c5::c6::x::l) 7 x:=rfl
def at_8:At (c0::c1::c2::c3::c4::c5::c6::c7::x::l) 8 x:=rfl
def at_9:At (c0::c1::c2::c3::c4::c5::c6::c7::c8::x::l) 9 x:=rfl
def b4P:At (c0::c1::c2::c3::c4::c5::c6::c7::c8::c9::x::l) 10 x:=rfl
def b4Q:At (c0::c1::c2::c3::c4::c5::c6::c7::c8::c9::c10::x::l) 11 x:=rfl
section
variable{X:Cx}{x:Str}{pos:Pos}
def qv(i:Nat)(hN:X.N[i]?=some x:=by rfl)(hv:Vis X.env.scope x:=by first |exact cq rfl |exact bY (cq rfl) |exact bY (bY rfl))(hd:(x==("__debug__":Str))=false:=by decide)
  (hcd:(x==("__classdict__":Str))=false:=by decide):QE X (.Name x pos) (uVar i):=b3n (a6I hN hv hd hcd)
def qw(h:X.N=N)(a:At N i x)(hv:Vis X.env.scope x:=by first |exact cq rfl |exact bY (cq rfl) |exact bY (bY rfl))(hd:(x==("__debug__":Str))=false:=by decide)
  (hcd:(x==("__classdict__":Str))=false:=by decide):QE X (.Name x pos) (uVar i):=b3n (a6I (h▸a) hv hd hcd)
def nwI(h:X.N=N)(a:At N i x)(nd:X.N.Nodup)(lc:Loc X.env.scope x:=by first |exact cq rfl |exact bY rfl)(fn:X.fn x=true\/X.env.scope.names.lookup x=some .local:=by first |exact .inl rfl |exact .inr rfl |assumption):Nm X x i:=⟨nd,by rw[h];exact a,lc,fn⟩
end
end L3
namespace L3
def newK(e:put G a o=G')(h:G a=none):G' a=some o/\Sm G G':=by subst e;exact⟨a0a,Sm.new h⟩
end L3
namespace L2
open PySem PySem.Spec PyProof.Rows
structure Mk0 (K:Fg) (C:Addr):Prop where
 makes:PySem.W.makesIn K C=true
 init:PySem.W.findIn K (.ref C) "__init__"=some (some (.builtin "object.__init__"))
 kp:PySem.W.keepIn K (.ref C)=true
def b19{X:Cx}{C:Addr}{x:Str}{p pos:Pos}(M:Mk0 X.K C)(hg:Gl X x)(hm:X.mg x=some (.ref C))(hdb:(x==("__debug__":Str))=false:=by decide) :
  PE X (.Call (.Name x p) [] [] pos) (λ_ H Q=>∀y dx,H y=none->H dx=none->dx≠y->Q (.ref y) (upd (upd H dx (.own y)) y (.ins C dx []))):=by
 intro pins s σ H Q I h;refine gU (a4T I hg hm ?_ hdb);refine PySem.W.callWith_K0 I.kIn M.kp (iP (a6X I.kIn M.makes M.init (λself=>PySem.W.Looks.of_pure (PySem.W.oi_bind self)) ?_));have I2:=Inv.made (C:=C) I;have gx:((s.heap.push PySem.W.emptyDict).push (PySem.W.instObj C s.heap.objs.size)).get? (s.heap.objs.size+1)=some (PySem.W.instObj C s.heap.objs.size):=by
  have:(s.heap.push PySem.W.emptyDict).objs.size=s.heap.objs.size+1:=Heap.size_push ..
  rw[<- this];exact Heap.get?_push_size _ rfl
 have t1:PySem.W.Looks (model X.prog X.w) ((s.heap.push PySem.W.emptyDict).push (PySem.W.instObj C s.heap.objs.size)) (typeOf (.ref (s.heap.objs.size+1))) (.ref C):=(PySem.W.Looks.ld gx).andThen .now;have t2:PySem.W.Looks (model X.prog X.w) ((s.heap.push PySem.W.emptyDict).push (PySem.W.instObj C s.heap.objs.size)) (isInstance (.ref (s.heap.objs.size+1)) (.type "object")) true:=t1.andThen ((PySem.W.makes_of I.kIn M.makes).top.keeps λb o e=>Heap.get?_push_of_some _ (Heap.get?_push_of_some _ e));refine codeAny_call_builtin PySem.W.oi_plain PySem.W.entry_oi (@PySem.W.check_slot (model X.prog X.w) _ _ _ "object.__init__" "object" "__init__" (.ref (s.heap.objs.size+1)) [] [] _ PySem.W.oi_kind PySem.W.oi_split t2 (PySem.W.oi_args (.ref (s.heap.objs.size+1))) ?_);rw[PySem.W.oi_run];exact fI (And.intro rfl ⟨.ref (s.heap.objs.size+1),_,I2,rfl,h _ _ (I.hok.fresh (dq _)) (I.hok.fresh (aV _)) (bj (dk _))⟩)
end L2
namespace L3
open PySem PySem.Spec PyProof.Rows L2
def b4R(C:Addr):E3:=λ_ G R=>∀q dx,G q=none->R (.ref q) (put G q (.ins C dx []))
def b4S{C:Addr}{σ:S3}{G:Hq}{R:K3}(h:∀q dx,G q=none->R (.ref q) (put G q (.ins C dx []))):b4R C σ G R:=h
def a3U(t u:E3):E3:=fun σ G R=>t σ G R\/u σ G R
def a0U{X:Cx}{e:Expr}{t u:E3}(h:QE X e t)(k:QE X e u):QE X e (a3U t u):=⟨λpins s τ H Q I z=>by
 obtain⟨σ,G,R,hs,hg,z,up⟩:=z;rcases z with z |z
 ·exact h.p pins s τ H Q I ⟨σ,G,R,hs,hg,z,up⟩
 ·exact k.p pins s τ H Q I ⟨σ,G,R,hs,hg,z,up⟩⟩
def b4T(f:Bool->Bool):R3:=λx y G R=>match y with
 |.ref p=>∃kvs k,(G p=some (.dK kvs)\/G p=some (.dF kvs))/\keyZ x=some k/\R (.bl (f (valZ kvs k).isSome)) G
 |_=>False
def a8i{X:Cx}(hu:X.A.units+66<cLine):OpQ X (fM .NotIn) (b4T not):=a2c (a74 hu) λx y H Q hx=>hx.un λa b G R ra rb hg h up=>by
 cases b with
 |ref p=>
  rw[a0j]at rb;obtain⟨kvs,k,e,hk,h⟩:=h;rcases e with e |e
  ·obtain⟨us,e',hn,rr⟩:=hg _ _ e;exact⟨p,valV us k,rb,by rw[a0M hk ra];exact DGet.k e',up _ _ _ _ h (by rw[a0q,a3O hn rr]) hg (.refl _ _)⟩
  ·obtain⟨ob,us,e',hn,rr⟩:=hg _ _ e;exact⟨p,valV us k,rb,by rw[a0M hk ra];exact .inl ⟨us,k,.inr ⟨ob,e'⟩,rfl,rfl⟩,up _ _ _ _ h (by rw[a0q,a3O hn rr]) hg (.refl _ _)⟩
 |_=>exact bg h
def a8j{p:Addr}{kvs:List (Key×Z)}{k:Key}{y:Z}{f:Bool->Bool}{G:Hq}{R:K3}(e:G p=some (.dK kvs)\/G p=some (.dF kvs))(a:keyZ y=some k)(h:R (.bl (f (valZ kvs k).isSome)) G):b4T f y (.ref p) G R:=⟨kvs,k,e,a,h⟩
end L3
namespace L2
open PySem PySem.Spec PyProof.Rows
def a9Q(P0:Addr)(H:Hp):Prop:=H P0=some (.tbl #[])/\∀b,b≠P0->H b=none\/∃o xs,H b=some (.frz o (.lst xs))
def a8k{P:fK}{w:World}{K:Fg}{mg mb:Str->Option Value}{CX:CXT}{k:Nat}{fa a P0 c0:Addr}{fd:fY}{x:Str}{sp:Sp}{sj:Shared}{vs:List Value}{ns:List Int}
  (KX:K.In sj.heap) (hns:sj.heap.Ns fU mg) (hb:sj.heap.Ns ij mb) (hbb:∀x:Str,x≠"__name__"->mb x=gg x) (hlim:sj.heap.NoLimit) (hg:sj.gens=#[])
  (hT:sj.heap.get? P0=some (PySem.W.tabObj #[])) (hK0:K.lookup P0=none) (hC:PySem.W.codeHdIn K c0 P0=true)
  (hB:∃bm ob,mg "__builtins__"=some (.ref bm)/\bm≠ij/\sj.heap.get? bm=some ob/\ob.cls=.type "module"/\ob.dict=some ij/\ob.data=.plain)
  (ha:sj.heap.get? a=some { cls:=.type "list",data:=.seq vs.toArray }) (hi:f6 vs ns) (hl:ns.length<=fG) (hr:Room k g0)
  (F:∀base:Heap,K.In base->base.Ns fU mg->base.BuiltinsAt mg P0->FnOk P w K mg base CX k fa fd [x] sp) (hbind:∀(s:Shared)(u:Value),hV s fd ⟨[u],[]⟩ [(x,u)])
  (hsp:∀H:Hp,a9Q P0 H->SqL K H a (ns.map V.int)->sp [.ref a] H (λv _=>v=.bl true) λ_ _ _=>False)
  (hCX:∀H e s',CX [] H sj (λ_ _ _=>False) e s'->False) :
  gq (model P w) g0 (.call (.ref fa) ⟨[.ref a],[]⟩) (λr s'=>r=.ok (.ret (.bool true))/\OldK sj.heap s'.heap/\s'.os=sj.os/\gu s'.gens) sj:=by
 have rv:=a7a hi;have lenV:=hi.length;have aP:a≠P0:=λz=>by rw[z,hT]at ha;cases ha
 have core:∀H:Hp,a9Q P0 H->SqL K H a (ns.map V.int)->HOk P w H sj.heap->(∀b,H b≠none->b=a\/b=P0)->(H a≠none->K.lookup a=none) ->
   gq (model P w) g0 (.call (.ref fa) ⟨[.ref a],[]⟩) (λr s'=>r=.ok (.ret (.bool true))/\OldK sj.heap s'.heap/\s'.os=sj.os/\gu s'.gens) sj:=by
  intro H hO hS hok hA hK;have keepO:∀{b:Addr}{o:Obj},sj.heap.get? b=some o->o≠PySem.W.tabObj #[]->o≠{ cls:=.type "list",data:=.seq vs.toArray }->H b=none:=λ{b o} e n1 n2=>by
   cases q:H b with
   |none=>rfl
   |some u=>
    rcases hA b (by rw[q];simp) with z |z
    ·subst z;rw[ha]at e;exact absurd (bv.inj e).symm n2
    ·subst z;rw[hT]at e;exact absurd (bv.inj e).symm n1
  have nsK:∀{b:Addr}{m:Str->Option Value},sj.heap.Ns b m->(hidT sj.heap H).Ns b m:=λ{b m} ⟨o,es,ep,e,d,r⟩=>⟨o,es,ep,a3n e (keepO e (λz=>by rw[z]at d;cases d) λz=>by rw[z]at d;cases d),d,r⟩;have hKb:K.In (hidT sj.heap H):=λb o e=>a3n (KX b o e) (by
   cases q:H b with
   |none=>rfl
   |some u=>
    rcases hA b (by rw[q];simp) with z |z
    ·subst z;rw[hK (by rw[q];simp)]at e;cases e
    ·subst z;rw[hK0]at e;cases e)
  have hM:Mod K mg (hidT sj.heap H):=⟨hKb,nsK hns,⟨mb,nsK hb,hbb⟩,let ⟨mc,h1,h2⟩:=hlim;⟨mc,nsK h1,h2⟩⟩;have hBb:(hidT sj.heap H).BuiltinsAt mg P0:=by
   obtain⟨bm,ob,h1,h2,h3,h4,h5,h6⟩:=hB;have nb:H bm=none:=keepO h3 (λz=>by rw[z]at h4;cases h4) λz=>by rw[z]at h4;simp at h4
   refine⟨bm,ob,h1,h2,λz=>?_,λz=>?_,a3n h3 nb,h4,h5,h6⟩
   ·subst z;obtain⟨o,es,ep,e,d,_⟩:=hns;rw[h3]at e;cases e;rw[h6]at d;cases d
   ·subst z;rw[hO.1]at nb;cases nb
  have e0:Env0 P w K mg (hidT sj.heap H) g0 [] sj H:=⟨rfl,hM,λb o e=>b0I e,cF (a6G _ _),trivial,λb hb=>absurd (show b∈([]:List Addr) from hb) (by simp),hok,.of_eq hg⟩;refine ip ((F _ hKb (nsK hns) hBb).run g0 [] sj H ⟨[.ref a],[]⟩ [.ref a] [.ref a] _ _ hr e0 (hbind sj (.ref a)) (.cons rfl .nil) (hsp H hO hS)) λr s' h=>?_;cases r with
  |error e=>exact (hCX H e s' h).elim
  |ok fl=>
   cases fl with
   |next=>exact bg h
   |brk=>exact bg h
   |cont=>exact bg h
   |ret u=>
    obtain⟨v,H',os,bare,un,hok',r',q⟩:=h;have q':v=.bl true:=q;subst q';obtain rfl:u=Value.bool true:=r';have tabK:∃more,s'.heap.get? P0=some (PySem.W.tabObj (#[]++more)):=by
     obtain⟨more,e⟩:=un.tbls P0 _ hO.1;exact⟨more,hok' P0 _ e⟩
    have kp:∀b o,b≠P0->sj.heap.get? b=some o->s'.heap.get? b=some o:=λb o hb e=>by
     rcases hO.2 b hb with z |⟨ob,xs,z⟩
     ·exact un.keep b o e z (by intro z;exact absurd (show b∈([]:List Addr) from z) (by simp)) (by simp)
     ·obtain⟨e1,_⟩:=hok b _ z;obtain⟨e2,_⟩:=hok' b _ (un.frzs b ob _ z);rw[e]at e1;cases e1;exact e2
    obtain⟨more,gm⟩:=tabK;refine⟨rfl,⟨λb o e=>?_,λb o e=>?_⟩,os,bare⟩
    ·by_cases hb:b=P0
     ·subst hb;rw[hT]at e;cases e;exact .inr (.inl ⟨((PySem.W.codeHd_of_K KX hC).tab hT).isCodeTable,rfl,#[],more,rfl,gm⟩)
     ·exact .inl (kp b o hb e)
    ·by_cases hb:b=P0
     ·subst hb;exact⟨_,gm⟩
     ·exact⟨o,kp b o hb e⟩
 cases hk:K.lookup a with
 |some o=>
  have e:=KX a o hk;rw[ha]at e;cases e;refine core (upd (λ_=>none) P0 (.tbl #[])) ⟨a0d,λb hb=>.inl (a0e hb)⟩ (.inr ⟨_,vs.toArray,_,hk,rfl,rfl,rfl,by rw[bG,lenV];exact hl,by simpa using rv⟩) (λb u z=>?_) (λb z=>?_) λz=>absurd (a0e aP) z
  ·by_cases hb:b=P0
   ·subst hb;rw[a0d]at z;cases z;exact hT
   ·rw[a0e hb]at z;cases z
  ·by_cases hb:b=P0
   ·exact .inr hb
   ·exact absurd (a0e hb) z
 |none=>
  refine core (upd (upd (λ_=>none) a (.frz { cls:=.type "list",data:=.seq vs.toArray } (.lst (ns.map V.int)))) P0 (.tbl #[])) ⟨a0d,λb hb=>?_⟩ (.inl (.inr ⟨{ cls:=.type "list",data:=.seq vs.toArray },by rw[a0e aP,a0d]⟩)) (λb u z=>?_) (λb z=>?_) λ_=>hk
  ·by_cases h2:b=a
   ·subst h2;exact .inr ⟨_,_,by rw[a0e hb,a0d]⟩
   ·exact .inl (by rw[a0e hb,a0e h2])
  ·by_cases hb:b=P0
   ·subst hb;rw[a0d]at z;cases z;exact hT
   ·rw[a0e hb]at z
    by_cases h2:b=a
    ·subst h2;rw[a0d]at z;cases z;exact⟨ha,by rw[aT];exact hl,vs,_,rv,ha⟩
    ·rw[a0e h2]at z;cases z
  ·by_cases hb:b=P0
   ·exact .inr hb
   ·by_cases h2:b=a
    ·exact .inl h2
    ·exact absurd (by rw[a0e hb,a0e h2]) z
def walk_ofT{l:PySem.W.OpenLaw}{n k:Nat}{q:fK}{loose:List Str}{XP:(Str->Option Value)->Heap->Prop}{YP:World->Heap->Prop}{d:DefRec}{K:Params->Fg}{CX:World->CXT}{sp:World->Sp}{x:Str}{P0:Addr}
  (hn:l.most=some n) (hn2:n<=fG) (hdf:d.params.defaults=[]) (hr:Room k g0)
  (hY:∀(w:World)(h:Heap),YP w h->(K w.params).In h/\h.get? P0=some (PySem.W.tabObj #[])) (hK0:∀w:World,(K w.params).lookup P0=none)
  (F:∀(w:World)(mg:Str->Option Value)(fa:Addr)(h:Heap),(K w.params).In h->h.Ns fU mg->mg d.name=some (.ref fa) ->
   ∃(fd:fY)(c0:Addr),PySem.W.codeHdIn (K w.params) c0 P0=true/\(∀(s:Shared)(u:Value),hV s fd ⟨[u],[]⟩ [(x,u)]) /\
    ∀base:Heap,(K w.params).In base->base.Ns fU mg->base.BuiltinsAt mg P0->FnOk l.prog w (K w.params) mg base (CX w) k fa fd [x] (sp w))
  (hsp:∀(w:World)(H:Hp)(a:Addr)(ns:List Int),ns.length<=n->a9Q P0 H->SqL (K w.params) H a (ns.map V.int)->sp w [.ref a] H (λv _=>v=.bl true) λ_ _ _=>False)
  (hCX:∀(w:World)(H:Hp)(s:Shared)(e:Value)(s':Shared),CX w [] H s (λ_ _ _=>False) e s'->False) :
  PySem.W.WalkO q loose XP YP l.row.toRowW d [] (λf vs=>PySem.call f vs):=by
 refine Att.attach_call hn hdf λw s₀ sj mg mb fa o pm cd doc a vs ns G Y ho hd hcd hmg hobj hints hlen hg=>?_;obtain⟨KX,hT⟩:=hY w _ Y;obtain⟨fd,c0,hC,hb,hF⟩:=F w mg fa _ KX G.T.g hmg;exact a8k KX G.T.g G.T.b G.T.builtins G.T.nolimit hg hT (hK0 w) hC G.T.bmain hobj hints (be hlen hn2) hr hF hb (λH hO hS=>hsp w H a ns hlen hO hS) λH e s'=>hCX w H sj e s'
end L2
namespace L3
open PySem PySem.Spec PyProof.Rows L2
noncomputable def a8l(K:Fg)(f P0:Addr):Bool:=match K.lookup f with
 |some ⟨_,_,.func fd,_⟩=>(match fd.code with
  |.ref c=>PySem.W.codeHdIn K c P0
  |_=>false)
 |_=>false
section
variable{P:fK}{w:World}{K:Fg}{mg:Str->Option Value}{base:Heap}{x q:Str}{st:Stmt}{f C P0:Addr}{d:fY}{N ps:List Str}{k n:Nat}
def a5K(F:Fun K x q st f d)(h:a8l K f P0=true):∃c,d.code=.ref c/\PySem.W.codeHdIn K c P0=true:=by
 obtain⟨oc,od,kV,doc,pm,an,cdv,ct,osl,rfl,lk,hcd⟩:=F.ex;unfold a8l at h;rw[lk]at h
 match cdv,h with
 |.ref c,h=>exact⟨c,rfl,h⟩
def fnL{sp:P3}(F:Fun K x q st f d)(hL:a8l K f P0=true)(S:FnScope N ps (a0l st))(len:∀ws G R,sp ws G R->ws.length=ps.length)
  (b:∀(c:Addr)(A:Around)(outer:List Env)(s:Shared)(H:Hp)(E:XK)(ws:List Z)(G:Hq)(R:K3),PySem.W.codeHdIn K c P0=true->Room k (A.deeper (envOfC q (a0l st) s.heap.objs.size f (.ref c)))->N.Nodup->sp ws G R ->
   ∃t,QSs (cxOf CX0 P w K mg base N q (a0l st) f (.ref c) A outer s H E).nox (a0P st) t/\t (λ_ G'=>R .non G') R (λ_ _=>False) (λ_ _=>False) (a1l N ws) G):FnOk P w K mg base CX0 (k+1) f d ps (lowP K sp):=by
 obtain⟨c,ec,hc⟩:=a5K F hL;obtain⟨oc,od,kV,doc,pm,an,cdv,ct,osl,rfl,lk,hcd⟩:=F.ex;have ec:cdv=.ref c:=ec;subst ec;refine b26 lk hcd S (λvs H Q E ⟨ws,G,R,rs,hg,h,up⟩=>by rw[<- rs.length];exact len _ _ _ h) ?_;rintro A outer s H vs Q E hr ⟨ws,G,R,rs,hg,h,up⟩;obtain⟨t,ht,hq⟩:=b c A outer s H E ws G R hc hr S.nd h;exact⟨_,PSs.nox ht.p,a1l N ws,G,_,R,_,_,.start rs,hg,hq,fun σ' G' τ' H' h' hs' hg' t'=>up _ _ _ _ h' (by rw[a0u]) hg' t',up,λ_ _ _ _ h _ _ _=>h.elim,λ_ _ _ _ h _ _ _=>h.elim⟩
def FXL(K:Fg)(x:Str)(P0:Addr):Prop:=∃f,NsG K x (some (.ref f))/\a8l K f P0=true
def fncL{sp:P3}(n:Nat)(B:Br K mg)(F:FX K x st)(L:FXL K x P0)
  (b:∀(f c:Addr)(A:Around)(outer:List Env)(s:Shared)(H:Hp)(E:XK)(ws:List Z)(G:Hq)(R:K3),PySem.W.codeHdIn K c P0=true->Room k (A.deeper (envOfC x (a0l st) s.heap.objs.size f (.ref c)))->N.Nodup->sp ws G R ->
   ∃t,QSs (cxOf CX0 P w K mg base N x (a0l st) f (.ref c) A outer s H E).nox (a0P st) t/\t (λ_ G'=>R .non G') R (λ_ _=>False) (λ_ _=>False) (a1l N ws) G)
  (len:∀ws G R,sp ws G R->ws.length=(N.take n).length) (S:FnScope N (N.take n) (a0l st)) (pl:Pl x x st (N.take n)):Cal P w K mg base CX0 (k+1) x (lowP K sp):=by
 obtain⟨f,d,e,F⟩:=F;obtain⟨f',e',hL⟩:=L;cases (show some (some (Value.ref f))=some (some (Value.ref f')) from e.symm.trans e');exact⟨⟨f,⟨d,_,fnL F hL S len λc=>b f c,F.binds pl⟩,B _ _ e,F.kp⟩⟩
end
section
variable{X:Cx}{e:Expr}{es:List Expr}{t:A3}{x:Str}{k j:Nat}{C:Addr}{p pos:Pos}{sp:P3}
def q_mk(mk:PySem.W.makesIn X.K C=true/\PySem.W.keepIn X.K (.ref C)=true)(M:Mal X.prog X.w X.K X.mg X.base CX0 k C "__init__" (lowP X.K sp))(hr:Room j X.A)(hm:X.mg x=some (.ref C))(ha:QA X (e::es) t)(hn:(e::es).all nst=true:=by rfl)(hk:k+1<=j:=by decide)(hg:Gl X x:=by rfl)
  (hdb:(x==("__debug__":Str))=false:=by decide):QE X (.Call (.Name x p) (e::es) [] pos) (b1K C sp t):=by
 obtain⟨f,⟨d,ps,F,hb⟩,h⟩:=M;exact b4r ⟨mk.1,h.at_,h.fn,mk.2⟩ F (hr.mono hk) hg hm hb ha hdb (s1_ hn) (h1_ hn)
def b4U(M:Mk0 X.K C)(hm:X.mg x=some (.ref C))(hg:Gl X x:=by rfl)(hdb:(x==("__debug__":Str))=false:=by decide):QE X (.Call (.Name x p) [] [] pos) (b4R C):=
 ⟨a0I (b19 M hg hm hdb) fun τ H Q hx=>by
  obtain⟨σ,G,R,hs,hg,h,up⟩:=hx;intro q dx n1 n2 ne;have n1':L2.upd H dx (.own q) q=none:=by rw[a0e (Ne.symm ne)];exact n1
  have tk:TK X.K H (L2.upd (L2.upd H dx (.own q)) q (.ins C dx [])):=(TK.new n2).trans (TK.new n1');exact up _ _ _ _ (h q dx (hg.out n1)) (by rw[a0j]) ((hg.hid n2).set (TK.new n1') ⟨[],a0d,rfl,by rw[bB,a0n];rfl⟩) tk⟩
def q_sk{a body:Expr}{te tb:E3}{pN kp lpos:Pos}{params:g7}{scope:Scope}{P0 c:Addr}{q y:Str}{N:List Str}(hm:X.mg "sorted"=none)(hr:Room j X.A)(ha:QE X a te)(hc:X.env.code=.ref c)(hd:PySem.W.codeHdIn X.K c P0=true)(gP:fU≠P0)(bi:X.base.BuiltinsAt X.mg P0)
  (ht:∀(f c':Addr)(A:Around)(outer:List Env)(s:Shared)(H:Hp),Room k (A.deeper (envOfC q scope s.heap.objs.size f (.ref c')))->N.Nodup->QE (cxOf CX0 X.prog X.w X.K X.mg X.base N q scope f (.ref c') A outer s H E0).nox body tb)
  (sc:FnScope N [y] scope) (qn:q=X.env.qual++"<lambda>") (df:jx params X.env=([],[])) (cl:iB scope X.env=pure [])
  (bd:∀(pm ctv:Value)(c':Addr)(us:List Value),us.length=1->hZ (PySem.W.kla_fn "<lambda>" q params body scope [] pm (.ref c') ctv) ⟨us,[]⟩=pure ([y].zip us)) (hk:k+3<=j:=by decide) (hg:Gl X "sorted":=by rfl) (hn:nst a=true:=by rfl) :
  QE X (.Call (.Name "sorted" pN) [a] [⟨some "key",.Lambda params body scope lpos,kp⟩] pos) (a8d P0 lpos q N te tb):=
 b1Z hg hm (hr.mono hk) ⟨sc,qn,df,cl,⟨c,hc,hd⟩,gP,bi,bd⟩ ha (λf c' A outer s H r=>ht f c' A outer s H r sc.nd) (se_ hn)
def q_mn{a:Expr}{te:E3}{pN kp cp:Pos}{ck:_}(hm:X.mg "min"=none)(hr:Room j X.A)(ha:QE X a te)(hc:X.calm=true:=by rfl)(hg:Gl X "min":=by rfl)(hn:nst a=true:=by rfl):QE X (.Call (.Name "min" pN) [a] [⟨some "default",.Constant .none ck cp,kp⟩] pos) (b12 te):=b4I hc (by have:=hr.un;omega) hg hm ha (se_ hn)
end
def a6u{K:Fg}{H:Hp}{E:XK}{P0:Addr}{lp:Pos}{q:Str}{sp:P3}(a:Addr)(ns:List Int)(f:Fz K H a (ns.map V.int))(hT:H P0=some (.tbl #[]))(h:sp [.scr a ns] (put (λ_=>none) P0 (.tab lp q)) λw _=>w=.bl true):lowP K sp [.ref a] H (λv _=>v=.bl true) E:=
 ⟨[.scr a ns],put (λ_=>none) P0 (.tab lp q),λw _=>w=.bl true,.cons (by rw[a2a];exact⟨rfl,f⟩) .nil,λb o e=>(by
  by_cases hb:b=P0
  ·subst hb;rw[a0a]at e;cases e;exact⟨#[],hT,.inl rfl⟩
  ·rw[a0f hb]at e;cases e),h,λw G v H' e r _ _=>by subst e;rw[a0q]at r;exact r⟩
def Fz.ofT{K:Fg}{H:Hp}{a P0:Addr}{xs:List V}(hO:a9Q P0 H)(h:SqL K H a xs):Fz K H a xs:=by
 rcases h with (h |h) |h
 ·by_cases hb:a=P0
  ·rw[hb,hO.1]at h;cases h
  ·rcases hO.2 a hb with z |⟨o,ys,z⟩
   ·rw[h]at z;cases z
   ·rw[h]at z;cases z
 ·exact .inl h
 ·exact .inr h
end L3
set_option maxHeartbeats 4000000
namespace L3
set_option genInjectivity false in
inductive Ex4 {α0 α1 α2 α3:Type}(p:α0->α1->α2->α3->Prop):Prop
 |mk (a0:α0) (a1:α1) (a2:α2) (a3:α3) (h:p a0 a1 a2 a3):Ex4 p
set_option genInjectivity false in
inductive Ex5 {α0 α1 α2 α3 α4:Type}(p:α0->α1->α2->α3->α4->Prop):Prop
 |mk (a0:α0) (a1:α1) (a2:α2) (a3:α3) (a4:α4) (h:p a0 a1 a2 a3 a4):Ex5 p
set_option genInjectivity false in
inductive Ex6 {α0 α1 α2 α3 α4 α5:Type}(p:α0->α1->α2->α3->α4->α5->Prop):Prop
 |mk (a0:α0) (a1:α1) (a2:α2) (a3:α3) (a4:α4) (a5:α5) (h:p a0 a1 a2 a3 a4 a5):Ex6 p
set_option genInjectivity false in
inductive Ex7 {α0 α1 α2 α3 α4 α5 α6:Type}(p:α0->α1->α2->α3->α4->α5->α6->Prop):Prop
 |mk (a0:α0) (a1:α1) (a2:α2) (a3:α3) (a4:α4) (a5:α5) (a6:α6) (h:p a0 a1 a2 a3 a4 a5 a6):Ex7 p
set_option genInjectivity false in
inductive Ex8 {α0 α1 α2 α3 α4 α5 α6 α7:Type}(p:α0->α1->α2->α3->α4->α5->α6->α7->Prop):Prop
 |mk (a0:α0) (a1:α1) (a2:α2) (a3:α3) (a4:α4) (a5:α5) (a6:α6) (a7:α7) (h:p a0 a1 a2 a3 a4 a5 a6 a7):Ex8 p
set_option genInjectivity false in
inductive Ex11 {α0 α1 α2 α3 α4 α5 α6 α7 α8 α9 α10:Type}(p:α0->α1->α2->α3->α4->α5->α6->α7->α8->α9->α10->Prop):Prop
 |mk (a0:α0) (a1:α1) (a2:α2) (a3:α3) (a4:α4) (a5:α5) (a6:α6) (a7:α7) (a8:α8) (a9:α9) (a10:α10) (h:p a0 a1 a2 a3 a4 a5 a6 a7 a8 a9 a10):Ex11 p
end L3
namespace Lw
open PySem L2 L3
noncomputable def top(i:Nat):Stmt:=PySem.Challenge.pw_twotimes_k51_first_broken.main.body.getD i (.Pass ⟨0,0,0,0⟩)
def b4V{A:Around}{k:Nat}(hr:Room k A):A.units+200<cLine:=by have:=hr.un;omega
def b4W(hr:Room k A):A.units+66<cLine:=by have:=hr.un;omega
noncomputable def tF:List (Str×Nat):=("earlier_end",1)::("is_over",8)::("worths_in",7)::("worth_in",3)::("ahead_of",5)::("with_alike_joined",9)::("from_on",6)::("put_on",4)::("holders_in",11)::("by_begin",19)::("places_shared",17)::("places_without",18)::("_law_cell_at",21)::("_law_names",22)::("_law_stretch",23)::("_law_telling",24)::("_law_put",25)::("_law_edges",26)::("_law_keys_broken",27)::("_law_first_broken",28)::("_law_rule",29)::("law",30)::[]
noncomputable def tB:List Str:=["min","len","max","sorted","zip","range","dict","list","isinstance","tuple"]
noncomputable def a8m:List (Str×Str×Nat×Nat):=("broken","Rule.broken",13,0)::[]
noncomputable def a8n:List Str:=[]
noncomputable def a5L:List (Str×Str×Nat×Nat):=("__init__","Alone.__init__",14,0)::("broken","Alone.broken",14,1)::[]
noncomputable def a5M:List Str:=["name"]
noncomputable def a5N:List (Str×Str×Nat×Nat):=("__init__","Named.__init__",15,0)::("broken","Named.broken",15,1)::[]
noncomputable def a5O:List Str:=["name","other"]
noncomputable def a5P:List (Str×Str×Nat×Nat):=("__init__","Still.__init__",16,0)::("broken","Still.broken",16,1)::[]
noncomputable def a5Q:List Str:=["name"]
set_option genInjectivity false in
structure Ad where
 c_Rule:Addr
 c_Alone:Addr
 c_Named:Addr
 c_Still:Addr
 tP:Addr
abbrev lamO:O:=.tab ⟨105,31,105,55⟩ "by_begin.<locals>.<lambda>"
structure Txt (K:Fg) (mg:Str->Option Value) (base:Heap) (a:Ad):Prop where
 br:Br K mg
 f:AllF K top tF
 b0:AllB K tB
 gP:fU≠a.tP
 bi:base.BuiltinsAt mg a.tP
 lam:FXL K "by_begin" a.tP
 mg_Rule:mg "Rule"=some (.ref a.c_Rule)
 cl_Rule:Cls K a.c_Rule
 m_Rule:AllM K top a.c_Rule a8m
 n_Rule:AllN K a.c_Rule a8n
 m0_Rule:Mk0 K a.c_Rule
 mg_Alone:mg "Alone"=some (.ref a.c_Alone)
 cl_Alone:Cls K a.c_Alone
 m_Alone:AllM K top a.c_Alone a5L
 n_Alone:AllN K a.c_Alone a5M
 mk_Alone:PySem.W.makesIn K a.c_Alone=true/\PySem.W.keepIn K (.ref a.c_Alone)=true
 mg_Named:mg "Named"=some (.ref a.c_Named)
 cl_Named:Cls K a.c_Named
 m_Named:AllM K top a.c_Named a5N
 n_Named:AllN K a.c_Named a5O
 mk_Named:PySem.W.makesIn K a.c_Named=true/\PySem.W.keepIn K (.ref a.c_Named)=true
 mg_Still:mg "Still"=some (.ref a.c_Still)
 cl_Still:Cls K a.c_Still
 m_Still:AllM K top a.c_Still a5P
 n_Still:AllN K a.c_Still a5Q
 mk_Still:PySem.W.makesIn K a.c_Still=true/\PySem.W.keepIn K (.ref a.c_Still)=true
def Txt.b{K:Fg}{mg:Str->Option Value}{base:Heap}{a:Ad}(T:Txt K mg base a)(i:Nat){x:Str}(h:tB[i]?=some x:=by rfl):mg x=none:=T.br _ _ (T.b0 i x h)
set_option hygiene false in
local macro_rules | `(tactic| walk_at "in")=>`(tactic| (intro f cdv A outer s H E ws G R hr nd h;have hu:=b4W hr))
set_option hygiene false in
local macro_rules | `(tactic| ac_rfl)=>`(tactic| repeat' first
 | ((with_reducible show QE _ _ _);first | ((with_reducible show QE _ (.Name _ _) _);first | exact qw (by first | exact cxN | exact cxcN | exact cxN') (by with_reducible first | exact at_0 | exact at_1 | exact at_2 | exact at_3 | exact at_4 | exact at_5 | exact at_6 | exact at_7 | exact at_8 | exact at_9 | exact b4P | exact b4Q) | exact q_ty (a3p (v:=.ty "dict") rfl (T.b 6) rfl rfl) | exact q_ty (a3p (v:=.ty "list") rfl (T.b 7) rfl rfl) | exact q_ty (a3p (v:=.ty "tuple") rfl (T.b 9) rfl rfl)) | exact b3o | exact b3p | exact a7o | exact q_bl | refine' b1j x_sl ?_ ?_ ?_ | refine' q_ix x_ix ?_ ?_ (λ_ _=>rfl) | apply q_op | ((with_reducible show QE _ (.Call (.Name "len" _) _ _ _) _);refine' q_B b3L (T.b 1) ?_ (hv:=PySem.boot_len)) | ((with_reducible show QE _ (.Call (.Name "min" _) _ _ _) _);refine' q_B (b6f rfl) (T.b 0) ?_) | ((with_reducible show QE _ (.Call (.Name "max" _) _ _ _) _);refine' q_B (b6e rfl) (T.b 2) ?_) | ((with_reducible show QE _ (.Call (.Name "isinstance" _) _ _ _) _);refine' q_B b3O (T.b 8) ?_) | ((with_reducible show QE _ (.Call (.Name "list" _) _ _ _) _);refine' q_Y b0l (T.b 7) ?_) | refine' q_c (by walk_at "c") hr ?_ | apply b5Z | apply b50 | ((with_reducible show QE _ (.Call (.Attribute _ "append" _) _ _ _) _);refine' q_bm PySem.F.plainAttrs_list PySem.F.slot_list_append PySem.F.type_list_append a9j ?_ ?_) | ((with_reducible show QE _ (.Call (.Attribute _ "extend" _) _ _ _) _);refine' q_bm PySem.F.plainAttrs_list PySem.F.slot_list_extend PySem.F.type_list_extend a3G ?_ ?_) | ((with_reducible show QE _ (.Call (.Attribute _ "find" _) _ _ _) _);refine' q_bm PySem.F.plainAttrs_str PySem.F.slot_str_find PySem.F.type_str_find b4n ?_ ?_) | ((with_reducible show QE _ (.Call (.Attribute _ "get" _) _ _ _) _);first | refine' q_bm PySem.F.plainAttrs_dict PySem.F.slot_dict_get PySem.F.type_dict_get (b0s hu) ?_ ?_ | refine' q_bm PySem.F.plainAttrs_dict PySem.F.slot_dict_get PySem.F.type_dict_get (b1Q hu) ?_ ?_) | ((with_reducible show QE _ (.Call (.Attribute _ "setdefault" _) _ _ _) _);refine' q_bm PySem.F.plainAttrs_dict PySem.F.slot_dict_setdefault PySem.F.type_dict_setdefault a2v ?_ ?_) | apply b5S | refine' b1e ?_ ?_ ?_ ?_ ?_ | apply b5W | refine' q_un b6c ?_ | apply b5U | apply b3s | apply b5V | apply q_if)
 | ((with_reducible show QA _ _ _);first | exact a0y | refine' q_k ?_ ?_)
 | ((with_reducible show OpQ _ _ _);first | ((with_reducible show OpQ _ (fV .Add) _);exact b57) | ((with_reducible show OpQ _ (fM .Eq) _);exact (o_eq hu)) | ((with_reducible show OpQ _ (fV .FloorDiv) _);exact b3H) | ((with_reducible show OpQ _ (fM .Gt) _);exact o_gt) | ((with_reducible show OpQ _ (fM .In) _);exact (o_in hu)) | ((with_reducible show OpQ _ (fM .Is) _);exact o_is) | ((with_reducible show OpQ _ (fM .IsNot) _);exact b1u) | ((with_reducible show OpQ _ (fM .Lt) _);exact o_lt) | ((with_reducible show OpQ _ (fM .LtE) _);exact o_le) | ((with_reducible show OpQ _ (fV .Mod) _);exact b6a) | ((with_reducible show OpQ _ (fV .Mult) _);exact b59) | ((with_reducible show OpQ _ (fM .NotEq) _);exact (o_ne hu)) | ((with_reducible show OpQ _ (fM .NotIn) _);exact (b1t hu)) | ((with_reducible show OpQ _ (fV .Pow) _);exact b6b) | ((with_reducible show OpQ _ (fV .Sub) _);exact b58) | ((with_reducible show OpQ _ (gN .Add) _);exact b3I))
 | ((with_reducible show gR _ _=_);first | exact a2r _ | with_unfolding_all rfl)
 | ((with_reducible show QT _ _ _);first | apply a1x | refine' a9b ?_ ?_ ?_ ?_ ?_ | refine' QW.qt (e:=.BoolOp _ _ _) ?_ | apply b0f | refine' b3t (a:=.Call _ _ _ _) ?_ | refine' b5X ?_ (λ_=>rfl))
 | ((with_reducible show QW _ _ _);first | apply a7q | apply b1g | apply b1f | apply q_or)
 | ((with_reducible show QO _ _ _);first | exact a9c | apply b3w)
 | ((with_reducible show QI _ _ _ _);first | ((with_reducible show QI _ _ (.Call (.Name "range" _) _ _ _) _);first | refine' a6k rfl (T.b 5) ?_) | apply a3E)
 | ((with_reducible show QP _ _ _);first | apply p_nm | refine' p_tp rfl ?_)
 | ((with_reducible show QPg _ _ _);first | exact b6P | apply b4O)
 | ((with_reducible show Nm _ _ _);exact nwI (by first | exact cxN | exact cxcN | exact cxN') (by with_reducible first | exact at_0 | exact at_1 | exact at_2 | exact at_3 | exact at_4 | exact at_5 | exact at_6 | exact at_7 | exact at_8 | exact at_9 | exact b4P | exact b4Q) nd)
 | ((with_reducible show QS _ _ _);first | apply a2d | refine' z_st ?_ ?_ | refine' a5p ?_ | apply z_if | refine' b3E ?_ ?_ | refine' a05 fT.never rfl ?_ ?_ ?_ | apply z_au | exact b3A | exact b1m | exact b3B | exact b3C)
 | ((with_reducible show QSs _ _ _);first | exact a1Q | apply a0s | apply a0g)
 | ((with_reducible show QIfs _ _ _);first | exact b1p | apply a7z)
 | ((with_reducible show Cal _ _ _ _ _ _ _ _ _);walk_at "c")
 | ((with_reducible show _<=_);decide))
local macro_rules | `(tactic| walk_at "r4")=>`(tactic| (intro _ _ _ _;ac_rfl))
set_option hygiene false in
local macro_rules | `(tactic| walk_at "r5")=>`(tactic| (intro _ _ _ _ nd;ac_rfl))
set_option hygiene false in
local macro_rules | `(tactic| walk_at "c")=>`(tactic| first | exact a2B T | exact a4K T | exact a25 T | exact a1f T | exact a30 T | exact a0H T | exact a4M T | exact a5g T | exact a0X T | exact a38 T | exact a16 T | exact a0W T | exact a6w T | exact a94 T | exact a6A T | exact a6C T | exact b0C T | exact a98 T | exact a27 T | exact a2Y T | exact b2v T)
def a4F(t:Addr):P3:=λws G R=>∃b ns,ws=[.scr b ns]/\ns.length<=63/\G t=some lamO/\∀G',R (.bl true) G'
def a9R{b t:Addr}{ns:List Int}(hl:ns.length<=63):a4F t [.scr b ns] (put (λ_=>none) t lamO) λw _=>w=.bl true:=⟨_,_,rfl,hl,a0a,λ_=>rfl⟩
def lenK(h:Nat.ble n 1000=true):n<=sizeLine:=b9 (a0h (Nat.le_of_ble_eq_true h))
def a1Z(h:n<=1000):n<=sizeLine:=b9 (a0h h)
def b4X(x w:Int):Prop:=w=0\/(w=1/\0<=x/\x<536870909)
abbrev RowO(x w:Int):O:=.lst [.int x,.int w]
def RowAt(G:Hq)(r:Addr):Prop:=∃x w,G r=some (RowO x w)/\b4X x w
local macro_rules | `(tactic| walk_at "sd")=>`(tactic| first | assumption | (exact a1Z (by first | decide | omega | (simp;done) | (simp;omega))) | (exact a0h (by first | decide | omega | (simp;done) | (simp;omega))) | decide | omega)
local macro_rules | `(tactic| walk_at "hp")=>`(tactic| first | assumption | exact a0a | (refine a0c ?_ (by assumption);walk_at "hp") | (refine Sm.get (by assumption) ?_;walk_at "hp"))
local macro_rules | `(tactic| walk_at "go1")=>`(tactic| with_reducible (first
 | apply b1y | refine b1x (by with_unfolding_all rfl) ?_ | apply i_c | apply i_op | apply i_un | apply b3P | apply i_chain | apply b6g | apply i_or | apply b6h | apply b3Q | apply i_orV | apply i_notV | apply i_if
 | apply b6i | apply i_truI | apply i_truB | apply i_sl | apply a9l | apply b3S | apply b6j | apply b3T | apply b6k | apply b6l | apply i_cb | apply i_uss | apply i_bm0 | apply i_bm | apply b3U
 | apply b3V | apply b3W | apply b3X | apply i_retN | apply b6m | apply b1z | apply b6n | refine b6o (by with_unfolding_all rfl) ?_ | apply i_break | apply i_cont | apply b38 | apply b6y | apply i_iL | apply i_iT | apply i_iS | apply b6z | apply i_iR2 | apply i_wkC | apply i_wkT | apply i_wkS | apply i_tt
 | apply b3Y | apply i_I0 | apply b6p | apply i_CI | apply i_CS | apply b6q | apply i_isB | apply b30 | apply i_eqB | apply b31 | apply b6r | apply i_inS | apply b35 | apply i_nm | refine a0O (by with_unfolding_all rfl) ?_ | apply i_lenT | apply b37 | apply i_mm | apply b6x
 | apply ifT | apply ifF | apply ifNN | apply ifNI | apply ifNS | apply ifNU | apply ifMN | apply ifMI | apply ifMS | apply ifMU | refine a0O at0 ?_ | refine a0O at1 ?_ | refine a0O at2 ?_ | apply b4o | apply i_iRev | apply i_iR3 | apply b4p | apply b4s | apply b1L | apply b1M | apply b4t | apply i_faug | apply i_disp | apply i_pcons | apply i_pnil | refine⟨_,rfl,?_⟩))
local macro_rules | `(tactic| walk_at "go")=>`(tactic| repeat walk_at "go1")
local macro_rules | `(tactic| symm)=>`(tactic| walk_at "go")
def a6v:P3:=λws G R=>∃p ns k,ws=[.scr p ns,.int k]/\0<=k/\∀i,R (.int i) G
variable{P:fK}{w:World}{K:Fg}{mg:Str->Option Value}{base:Heap}{a:Ad}
set_option tactic.hygienic true in
def a6w(T:Txt K mg base a):Cal P w K mg base CX0 1 "_law_cell_at" (lowP K a6v):=by
 refine fnc 2 (N:=["script","k"]) T.br (T.f 12 _ rfl) ?_;walk_at "in";refine⟨_,(by ac_rfl),?_⟩;obtain⟨p,ns,k,rfl,hk,q⟩:=h;symm;refine ifD (λc=>?_) λ_=>?_
 ·obtain⟨j,rfl⟩:=dL hk;have hj:j<ns.length:=by omega
  symm;exact b6s (a1j (bh hj)) (q _)
 ·symm;exact q _
def RowAt.new(h:RowAt G r)(n:G p=none):RowAt (put G p o) r:=by
 obtain⟨x,w,e,k⟩:=h;exact⟨x,w,a0c e n,k⟩
def RowAt.at{G:Hq}{r:Addr}{x w:Int}(k:b4X x w):RowAt (put G r (RowO x w)) r:=⟨x,w,a0a,k⟩
structure Rw where
 b:Int
 e:Option Int
 w:List Z
@[reducible] noncomputable def oz:Option Int->Z
 |none=>.non
 |some i=>.int i
noncomputable def Rw.z(r:Rw):Z:=.tup (.int r.b::oz r.e::r.w)
noncomputable def bef(t:Int):Option Int->Bool
 |none=>true
 |some e=>decide (t<e)
noncomputable def Rw.has(r:Rw)(t:Int):Bool:=decide (r.b<=t)&&bef t r.e
def Rw.good(r:Rw):Prop:=bef r.b r.e=true
noncomputable def val(l:List Rw)(t:Int):Option (List Z):=(l.find? (·.has t)).map (·.w)
def a2g:val [] t=none:=rfl
def a0F:val (r::l) t=if r.has t=true then some r.w else val l t:=by
 unfold val;rw[bO];cases h:r.has t<;>simp
def a0C:val (l++m) t=(val l t).or (val m t):=by
 unfold val;rw[ft];cases h:l.find? _<;>simp
def Lt(r s:Rw):Prop:=∃e,r.e=some e/\e<=s.b
def Lt2(r s:Rw):Prop:=∃e,r.e=some e/\e<=s.b/\(e=s.b->r.w≠s.w)
def Rise(l:List Rw):Prop:=(∀r∈l,r.good)/\l.Pairwise Lt
def Can(l:List Rw):Prop:=(∀r∈l,r.good)/\l.Pairwise Lt2
def Lt2.lt{r s:Rw}(h:Lt2 r s):Lt r s:=let ⟨e,a,b,_⟩:=h;⟨e,a,b⟩
noncomputable def Can.rise(h:Can l):Rise l:=⟨h.1,h.2.imp Lt2.lt⟩
def Can.nil:Can []:=⟨λ_ h=>by simp at h,.nil⟩
def Rise.nil:Rise []:=Can.nil.rise
def Can.tail(h:Can (r::l)):Can l:=⟨λs a=>h.1 s (.tail _ a),(bD.mp h.2).2⟩
def Rise.tail(h:Rise (r::l)):Rise l:=⟨λs a=>h.1 s (.tail _ a),(bD.mp h.2).2⟩
def a9S{r:Rw}(h:r.good):r.has r.b=true:=by
 unfold Rw.has;rw[h];simp
noncomputable def Lt.has(h:Lt r s)(a:r.has t=true):s.has t=false:=by
 obtain⟨e,c,d⟩:=h;unfold Rw.has at a ⊢;rw[c]at a;simp only[bef,bS,decide_eq_true_eq]at a
 have:decide (s.b<=t)=false:=decide_eq_false (by lia)
 rw[this,en]
def Lt.b(g:r.good)(h:Lt r s):r.b<s.b:=by
 obtain⟨e,a,c⟩:=h
 have:bef r.b r.e=true:=g
 rw[a]at this;simp only[bef,decide_eq_true_eq]at this
 lia
def a3V(h:∀r∈l,r.has t=false):val l t=none:=by simp_all[val]
def a5R{l:List Rw}{t:Int}{w:List Z}(h:val l t=some w):∃r∈l,r.has t=true/\r.w=w:=by
 induction l with
 |nil=>cases h
 |cons r l ih=>
  rw[a0F]at h
  split at h
  ·next e=>cases h;exact⟨r,.head _,e,rfl⟩
  ·obtain⟨s,h1,h2⟩:=ih h;exact⟨s,.tail _ h1,h2⟩
def a5S{r:Rw}(h:t<r.b):r.has t=false:=by
 unfold Rw.has;rw[decide_eq_false (by lia),en]
noncomputable def jn(told:List Rw)(p:Rw):List Rw:=match told.getLast? with
 |some l=>if l.e=some p.b/\l.w=p.w then told.dropLast++[⟨l.b,p.e,p.w⟩] else told++[p]
 |none=>told++[p]
noncomputable def join(ps:List Rw):List Rw:=ps.foldl jn []
def a11{α:Type}{l:List α}{x:α}(h:l.getLast?=some x):l=l.dropLast++[x]:=by
 obtain⟨a,rfl⟩:=List.getLast?_eq_some_iff.mp h;simp
def b6Q(h:Can told)(g:p.good)(hlt:∀r∈told,Lt r p):Can (jn told p)/\(∀t,val (jn told p) t=(val told t).or (val [p] t))/\(∀x,(∀r∈told,Lt r x)->Lt p x->∀r∈jn told p,Lt r x)/\(jn told p).length<=told.length+1/\∀r∈jn told p,r.w=p.w\/∃r'∈told,r.w=r'.w:=by
 unfold jn;cases hl:told.getLast? with
 |none=>
  have:told=[]:=fu.mp hl
  subst this;exact⟨⟨λr a=>by simp at a;rw[a];exact g,by simp⟩,λt=>by simp[a2g],λx _ f r a=>by simp at a;rw[a];exact f,by simp,λr a=>by simp at a;rw[a];exact .inl rfl⟩
 |some l=>
  have d:=a11 hl;generalize told.dropLast=init at d;subst d;have i:l∈init++[l]:=by simp
  have k:=bA.mp h.2;dsimp only
  split
  ·next hc=>
   obtain⟨n,o⟩:=hc;have D:l.b<p.b:=by
    have:bef l.b l.e=true:=h.1 l i
    rw[n]at this;simpa[bef]using this
   have v:(⟨l.b,p.e,p.w⟩:Rw).good:=by
    show bef l.b p.e=true
    have:bef p.b p.e=true:=g
    cases hpe:p.e with
    |none=>rfl
    |some e=>
     rw[hpe]at this;simp only[bef,decide_eq_true_eq]at this ⊢
     lia
   refine⟨⟨λr a=>?_,?_⟩,λt=>?_,λx m f r a=>?_,by simp,λr a=>?_⟩
   ·rcases aU.mp a with a |a
    ·exact h.1 r (by simp[a])
    ·rw[aX.mp a];exact v
   ·refine bA.mpr ⟨k.1,by simp,λr a s d=>?_⟩;rw[aX.mp d];obtain⟨e,c,j,A⟩:=k.2.2 r a l (by simp);exact⟨e,c,j,λz=>by rw[<- o];exact A z⟩
   ·rw[a0C,a0C];cases val init t with
    |some w=>rfl
    |none=>
     have y:(⟨l.b,p.e,p.w⟩:Rw).has t=(l.has t||p.has t):=by
      unfold Rw.has;rw[n]
      have:bef p.b p.e=true:=g
      cases hpe:p.e with
      |none=>
       simp only[bef,dM]
       by_cases c1:l.b<=t<;>by_cases c2:t<p.b<;>by_cases c3:p.b<=t<;>simp[c1,c2,c3]<;>lia
      |some e=>
       rw[hpe]at this;simp only[bef,decide_eq_true_eq]at this ⊢
       by_cases c1:l.b<=t<;>by_cases c2:t<p.b<;>by_cases c3:p.b<=t<;>by_cases c4:t<e<;>simp[c1,c2,c3,c4]<;>lia
     simp only[a0F,a2g,y,o,fv];cases l.has t<;>cases p.has t<;>simp
   ·rcases aU.mp a with a |a
    ·exact m r (by simp[a])
    ·rw[aX.mp a];obtain⟨e,c,j⟩:=f;exact⟨e,c,j⟩
   ·rcases aU.mp a with a |a
    ·exact .inr ⟨r,by simp[a],rfl⟩
    ·rw[aX.mp a];exact .inl rfl
  ·next hc=>
   refine⟨⟨λr a=>?_,?_⟩,λt=>a0C,λx m f r a=>?_,by simp,λr a=>?_⟩
   ·rcases aU.mp a with a |a
    ·exact h.1 r a
    ·rw[aX.mp a];exact g
   ·refine bA.mpr ⟨h.2,by simp,λr a s d=>?_⟩;rw[aX.mp d];obtain⟨e,c,j⟩:=hlt r a;refine⟨e,c,j,λz u=>?_⟩;rcases aU.mp a with hr' |hr'
    ·obtain⟨C,q,B,_⟩:=k.2.2 r hr' l (by simp);rw[c]at q;cases q
     have:=(hlt l i).b (h.1 l i)
     lia
    ·simp_all
   ·rcases aU.mp a with a |a
    ·exact m r a
    ·rw[aX.mp a];exact f
   ·rcases aU.mp a with a |a
    ·exact .inr ⟨r,a,rfl⟩
    ·rw[aX.mp a];exact .inl rfl
def b2a:∀(ps told:List Rw),Can told->Rise ps->(∀r∈told,∀p∈ps,Lt r p)->Can (ps.foldl jn told)/\(∀t,val (ps.foldl jn told) t=(val told t).or (val ps t))/\(ps.foldl jn told).length<=told.length+ps.length/\∀r∈ps.foldl jn told,∃r'∈told++ps,r.w=r'.w:=by intro z0;induction z0 with
 |nil=>intro told h _ _;exact⟨h,λt=>by simp[a2g],by simp,λr f=>⟨r,by simpa using f,rfl⟩⟩
 |cons p ps I0=>
  intro told h f hlt;have a:=b6Q h (f.1 p (.head _)) λr q=>hlt r q p (.head _);have b:=I0 _ a.1 f.tail λr q x j=>a.2.2.1 x (λg k=>hlt g k x (.tail _ j)) ((bD.mp f.2).1 x j) r q;refine⟨b.1,λt=>?_,?_,λr i=>?_⟩
  ·show val (ps.foldl jn _) t=_
   rw[b.2.1 t,a.2.1 t,show p::ps=[p]++ps from rfl,a0C,Option.or_assoc]
  ·grind
  ·obtain⟨g,c,d⟩:=b.2.2.2 r i;rcases aU.mp c with c |c
   ·rcases a.2.2.2.2 g c with e |⟨r2,e1,e2⟩
    ·exact⟨p,by simp,d.trans e⟩
    ·grind
   ·exact⟨g,by simp[c],d⟩
def a3W(h:Rise ps):Can (join ps)/\(∀t,val (join ps) t=val ps t)/\(join ps).length<=ps.length/\∀r∈join ps,∃r'∈ps,r.w=r'.w:=by
 have:=b2a ps [] .nil h λr a=>by simp at a
 unfold join;exact⟨this.1,λt=>by rw[this.2.1 t];rfl,by simpa using this.2.2.1,by simpa using this.2.2.2⟩
noncomputable def emin:Option Int->Option Int->Option Int
 |none,o=>o
 |some e,none=>some e
 |some e,some o=>some (if o<e then o else e)
noncomputable def a1y(m:Option Int)(r:Rw):Option Rw:=if bef r.b m=true then some ⟨r.b,emin r.e m,r.w⟩ else none
noncomputable def ahead(m:Option Int)(l:List Rw):List Rw:=l.filterMap (a1y m)
noncomputable def a3X(m:Int)(r:Rw):Option Rw:=if bef m r.e=true then some ⟨if m > r.b then m else r.b,r.e,r.w⟩ else none
noncomputable def fromOn(m:Int)(l:List Rw):List Rw:=l.filterMap (a3X m)
def b0z(h1:∀r r',f r=some r'->r'.has t=(r.has t&&c)/\r'.w=r.w)(h2:∀r,f r=none->(r.has t&&c)=false):∀l:List Rw,val (l.filterMap f) t=if c=true then val l t else none:=by intro z0;induction z0 with
 |nil=>simp[a2g]
 |cons r l I0=>
  have a:=I0;rw[cm];cases hf:f r with
  |none=>
   have:=h2 r hf
   rw[a,a0F];cases c with
   |true=>rw[dM]at this;rw[this];rfl
   |false=>rfl
  |some r'=>
   obtain⟨d,b⟩:=h1 r r' hf;rw[a0F,a,d,b,a0F];cases c<;>cases r.has t<;>rfl
def a5T:bef t (emin x y)=(bef t x&&bef t y):=by
 cases x with
 |none=>cases y<;>simp[bef,emin]
 |some a=>
  cases y with
  |none=>simp[bef,emin]
  |some b=>
   simp only[bef,emin];rw[<- Bool.decide_and];apply a0B;rw[eq_iff_iff]
   split<;>omega
def a4G(m:Option Int)(l:List Rw)(t:Int):val (ahead m l) t=if bef t m=true then val l t else none:=by
 refine b0z (λr a h=>?_) (λr h=>?_) l
 ·unfold a1y at h
  split at h
  ·cases h;refine⟨?_,rfl⟩;unfold Rw.has;simp only[a5T,Bool.and_assoc]
  ·cases h
 ·unfold a1y at h
  split at h
  ·cases h
  ·next hc=>
   unfold Rw.has;cases m with
   |none=>exact absurd rfl hc
   |some m=>
    simp only[bef,decide_eq_true_eq]at hc ⊢
    by_cases c1:r.b<=t
    ·rw[decide_eq_false (show ¬ t<m by lia),dv]
    ·rw[decide_eq_false c1];rfl
def a9T(m:Int)(l:List Rw)(t:Int):val (fromOn m l) t=if m<=t then val l t else none:=by
 have:(if m<=t then val l t else none)=if decide (m<=t)=true then val l t else none:=by simp
 rw[this];refine b0z (λr a h=>?_) (λr h=>?_) l
 ·unfold a3X at h
  split at h
  ·cases h;unfold Rw.has
   have:decide ((if m > r.b then m else r.b)<=t)=(decide (r.b<=t)&&decide (m<=t)):=by grind
   rw[this];cases decide (r.b<=t)<;>cases decide (m<=t)<;>simp
  ·cases h
 ·unfold a3X at h
  split at h
  ·cases h
  ·next hc=>
   unfold Rw.has;cases he:r.e with
   |none=>rw[he]at hc;exact absurd rfl hc
   |some e=>
    rw[he]at hc;simp only[bef]at hc ⊢
    by_cases c1:m<=t
    ·grind
    ·simp_all
def a12(h:x∈ahead m l):∃r∈l,bef r.b m=true/\x=⟨r.b,emin r.e m,r.w⟩:=by
 obtain⟨r,d,a⟩:=bW.mp h;unfold a1y at a
 split at a
 ·next c=>cases a;exact⟨r,d,c,rfl⟩
 ·cases a
def a2H(h:x∈fromOn m l):∃r∈l,bef m r.e=true/\x=⟨if m > r.b then m else r.b,r.e,r.w⟩:=by
 obtain⟨r,d,a⟩:=bW.mp h;unfold a3X at a
 split at a
 ·next c=>cases a;exact⟨r,d,c,rfl⟩
 ·cases a
def b4Y(hf:∀r s r' s',R r s->f r=some r'->f s=some s'->R r' s'):∀{l:List Rw},l.Pairwise R->(l.filterMap f).Pairwise R:=by intro z0;induction z0 with
 |nil=>intro _;simp
 |cons r l I0=>
  intro h;have b:=bD.mp h;have c:=I0 b.2;rw[cm];cases e:f r with
  |none=>exact c
  |some r'=>
   refine bD.mpr ⟨λs i=>?_,c⟩;obtain⟨a,d,g⟩:=bW.mp i;exact hf r a r' s (b.1 a d) e g
def b2b{x:Int}{m:Option Int}:∃e,emin (some x) m=some e/\e<=x:=by
 cases m with
 |none=>exact⟨x,rfl,bZ _⟩
 |some o=>
  refine⟨_,rfl,?_⟩
  split<;>omega
def a6x(m:Option Int)(h:Rise l):Rise (ahead m l):=by
 refine⟨λx j=>?_,b4Y (λr s t p d a c=>?_) h.2⟩
 ·obtain⟨r,k,i,rfl⟩:=a12 j
  show bef r.b _=true
  rw[a5T,i,dM];exact h.1 r k
 ·unfold a1y at a c
  split at a
  ·split at c
   ·cases a;cases c;obtain⟨e,g,o⟩:=d;obtain⟨f,n,q⟩:=@b2b e m;exact⟨f,by rw[<- n,<- g],by show f<=s.b;lia⟩
   ·grind
  ·grind
def a8o(m:Int)(h:Rise l):Rise (fromOn m l):=by
 refine⟨λx j=>?_,b4Y (λr s n k d a c=>?_) h.2⟩
 ·obtain⟨r,f,g,rfl⟩:=a2H j
  split
  ·exact g
  ·exact h.1 r f
 ·unfold a3X at a c
  split at a
  ·split at c
   ·cases a;cases c;obtain⟨e,i,o⟩:=d;exact⟨e,i,by show e<=(if m > s.b then m else s.b);split<;>omega⟩
   ·grind
  ·grind
def a4H(m:Option Int)(l:List Rw):(ahead m l).length<=l.length:=cx _ _
def a9U(m:Int)(l:List Rw):(fromOn m l).length<=l.length:=cx _ _
def a9V(hbe:b<=e):∀{l:List Rw},Rise l->(ahead (some b) l).length+(fromOn e l).length<=l.length+1:=by intro z0;induction z0 with
 |nil=>intro _;simp[ahead,fromOn]
 |cons r l I0=>
  intro h;have i:=I0 h.tail;have c:(ahead (some b) (r::l)).length=(if bef r.b (some b)=true then 1 else 0)+(ahead (some b) l).length:=by
   unfold ahead;unfold a1y
   split
   ·grind
   ·grind
  have a:(fromOn e (r::l)).length=(if bef e r.e=true then 1 else 0)+(fromOn e l).length:=by
   unfold fromOn;unfold a3X
   split
   ·grind
   ·grind
  rw[c,a,bp]
  by_cases c1:bef r.b (some b)=true
  ·by_cases c2:bef e r.e=true
   ·have:ahead (some b) l=[]:=by
     unfold ahead;rw[List.filterMap_eq_nil_iff];intro s g;unfold a1y;obtain⟨j,f,k⟩:=((bD.mp h.2).1) s g;rw[f]at c2;simp only[bef,decide_eq_true_eq]at c1 c2 ⊢;rw[if_neg (by lia)]
    have:=a9U e l
    simp_all
    lia
   ·grind
  ·rw[if_neg c1];split<;>lia
noncomputable def a1g(l:List Rw)(b:Int)(e:Option Int)(w:Option (List Z)):List Rw:=
 ahead (some b) l++(match w with |some w=>[⟨b,e,w⟩] |none=>[])++(match e with |some e=>fromOn e l |none=>[])
def a2T{l:List Rw}{b:Int}{e:Option Int}{w:Option (List Z)}(h:Rise l)(g:bef b e=true):Rise (a1g l b e w)/\(∀t,val (a1g l b e w) t=if (decide (b<=t)&&bef t e)=true then w else val l t)/\(a1g l b e w).length<=l.length+2:=by
 have hA:=a6x (some b) h;have eA:∀r∈ahead (some b) l,∃x,r.e=some x/\x<=b:=λr hr=>by
  obtain⟨r0,_,_,rfl⟩:=a12 hr
  show ∃x,emin r0.e (some b)=some x/\x<=b
  cases r0.e with
  |none=>exact⟨b,rfl,bZ _⟩
  |some x=>refine⟨_,rfl,?_⟩;split<;>omega
 have hM:Rise (match w with |some w=>[(⟨b,e,w⟩:Rw)] |none=>[]):=by
  cases w with
  |none=>exact .nil
  |some w=>exact⟨λr hr=>by rw[aX.mp hr];exact g,by simp⟩
 have mM:∀r∈(match w with |some w=>[(⟨b,e,w⟩:Rw)] |none=>[]),r.b=b/\r.e=e:=λr hr=>by
  cases w with
  |none=>simp at hr
  |some w=>rw[aX.mp hr];exact⟨rfl,rfl⟩
 have vM:∀t,val (match w with |some w=>[(⟨b,e,w⟩:Rw)] |none=>[]) t=if (decide (b<=t)&&bef t e)=true then w else none:=λt=>by
  cases w with
  |none=>simp[a2g]
  |some w=>rw[a0F,a2g];rfl
 have app:∀{A B:List Rw},Rise A->Rise B->(∀r∈A,∀s∈B,Lt r s)->Rise (A++B):=λha hb hab=>⟨λr hr=>(aU.mp hr).elim (ha.1 r) (hb.1 r),bA.mpr ⟨ha.2,hb.2,hab⟩⟩;unfold a1g;cases e with
 |none=>
  dsimp only;rw[bN];refine⟨app hA hM λr hr s hs=>?_,λt=>?_,?_⟩
  ·obtain⟨x,a1,a2⟩:=eA r hr;exact⟨x,a1,by rw[(mM s hs).1];exact a2⟩
  ·rw[a0C,a4G,vM];simp only[bef,dM,decide_eq_true_eq]
   by_cases c:b<=t
   ·rw[if_neg (by omega),if_pos c,if_pos c];rfl
   ·rw[if_pos (by omega),if_neg c,if_neg c];simp
  ·rw[bn]
   have:=a4H (some b) l
   cases w<;>simp<;>omega
 |some e=>
  have hbe:b<e:=by simpa[bef]using g
  have hF:=a8o e h;have bF:∀s∈fromOn e l,e<=s.b:=λs hs=>by
   obtain⟨r0,_,_,rfl⟩:=a2H hs
   show e<=(if e > r0.b then e else r0.b)
   split<;>omega
  dsimp only;refine⟨app (app hA hM λr hr s hs=>?_) hF λr hr s hs=>?_,λt=>?_,?_⟩
  ·obtain⟨x,a1,a2⟩:=eA r hr;exact⟨x,a1,by rw[(mM s hs).1];exact a2⟩
  ·have hs':=bF s hs;rcases aU.mp hr with hr |hr
   ·obtain⟨x,a1,a2⟩:=eA r hr;exact⟨x,a1,by omega⟩
   ·exact⟨e,(mM r hr).2,hs'⟩
  ·rw[a0C,a0C,a4G,vM,a9T];simp only[bef,bS,decide_eq_true_eq]
   by_cases c1:b<=t
   ·by_cases c2:t<e
    ·rw[if_neg (by omega),if_pos ⟨c1,c2⟩,if_neg (by omega),if_pos ⟨c1,c2⟩];simp
    ·rw[if_neg (by omega),if_neg (by omega),if_pos (by omega),if_neg (by omega)];rfl
   ·rw[if_pos (by omega),if_neg (by omega),if_neg (by omega),if_neg (by omega)];simp
  ·rw[bn,bn]
   have:=a9V (b:=b) (e:=e) (by omega) h
   cases w<;>simp<;>omega
noncomputable def optW(z:Z):Option (List Z):=if z=.non then none else some [z]
noncomputable def a4I(l:List Rw)(b:Int)(e:Option Int)(w:Option (List Z)):List Rw:=join (a1g l b e w)
def a9W{l:List Rw}{b:Int}{e:Option Int}{w:Option (List Z)}(h:Rise l)(g:bef b e=true):Can (a4I l b e w)/\(∀t,val (a4I l b e w) t=if (decide (b<=t)&&bef t e)=true then w else val l t)/\(a4I l b e w).length<=l.length+2:=by
 have a:=a2T (w:=w) h g;have j:=a3W a.1;exact⟨j.1,λt=>by rw[<- a.2.1 t];exact j.2.1 t,be j.2.2.1 a.2.2⟩
def okW(w:List Z):Prop:=w≠[]/\w.length<=4/\w.all (flat 4)=true
def OkR(l:List Rw):Prop:=∀r∈l,okW r.w
def a8p:∀{n m:Nat}{z:Z},n<=m->flat n z=true->flat m z=true:=by
 intro n
 induction n with
 |zero=>intro m z _ h;cases z<;>first | (simp[flat]at h;done) | (cases m<;>simp_all[flat])
 |succ n ih=>
  intro m z b h;cases m with
  |zero=>lia
  |succ m=>
   cases z with
   |tup ws=>
    simp only[flat,cK]at h ⊢;exact λx a=>ih (by lia) (h x a)
   |_=>first | (simp[flat];done) | (simp[flat]at h;done) | (simp only[flat]at h ⊢;exact h)
def a5U{ws:List Z}(hm:n<=m)(h:ws.all (flat n)=true):ws.all (flat m)=true:=by
 rw[cK]at h ⊢;exact λx a=>a8p hm (h x a)
def a3Y:flat n (.int i)=true:=by cases n<;>rfl
def a1e:flat n .non=true:=by cases n<;>rfl
noncomputable def wz:Option (List Z)->Z
 |none=>.non
 |some w=>w.headD .non
def b4Z(h:R (.bl (decide (e=some b))) G):zEq id (oz e) (.int b) G R:=by
 cases e with
 |none=>
  refine (⟨a1e,a3Y,?_⟩)
  have:decide (Z.non=Z.int b)=decide (none=some b):=by simp
  exact h
 |some e=>
  refine b31 ?_
  have:decide (e=b)=decide (some e=some b):=a0B (by simp)
  rw[this];exact h
def b40(h1:flat 8 (.tup xs)=true)(h2:flat 8 (.tup ys)=true)(h:R (.bl (f (decide (xs=ys)))) G):zEq f (.tup xs) (.tup ys) G R:=by
 refine (⟨h1,h2,?_⟩);rw[a0B (Z.tup.injEq _ _)];exact h
def a1h:P3:=λws G R=>∃x y,ws=[oz x,oz y]/\R (oz (emin x y)) G
set_option tactic.hygienic true in
def a2B(T:Txt K mg base a):Cal P w K mg base CX0 1 "earlier_end" (lowP K a1h):=by
 refine fnc 2 (N:=["end","other"]) T.br (T.f 0 _ rfl) ?_;walk_at "in";refine⟨_,(by ac_rfl),?_⟩;obtain⟨x,y,rfl,q⟩:=h;cases x with
 |none=>
  symm;cases y<;>exact q
 |some x=>
  cases y with
  |none=>
   symm;exact q
  |some y=>
   symm;exact q
noncomputable def over(r:Rw)(m:Int):Bool:=match r.e with
 |none=>false
 |some e=>decide (e<=m)
def a4J:P3:=λws G R=>∃r m,ws=[Rw.z r,.int m]/\R (.bl (over r m)) G
set_option tactic.hygienic true in
def a4K(T:Txt K mg base a):Cal P w K mg base CX0 1 "is_over" (lowP K a4J):=by
 refine fnc 2 (N:=["stretch","moment"]) T.br (T.f 1 _ rfl) ?_;walk_at "in";refine⟨_,(by ac_rfl),?_⟩;obtain⟨⟨b,e,w⟩,m,rfl,q⟩:=h;cases e with
 |none=>
  symm;exact a0O at1 (by symm;exact q)
 |some e=>
  symm;refine a0O at1 ?_;symm;refine a0O at1 ?_;symm;exact q
def a2h{α β:Type}{l:List α}{g:α->Z}{g':β->Z}(f:α->Option β)(hok:∀ys,ok (put G1 D (.lst ys)))(hz:l.length<=1000)
  (turn:∀x,x∈l->∀(ys:List Z)(K1:K3)(K2:Hq->Prop),(∀y,f x=some y->K1 (g' y) (put G1 D (.lst ys)))->(f x=none->K2 (put G1 D (.lst ys)))->∃σ',a3D pt (g x) (cap3 cap σ)=some σ'/\tt σ' (put G1 D (.lst ys)) λb G4=>if b=true then te σ' G4 K1 else K2 G4)
  (fin:R (.ref D) (put G1 D (.lst ((l.filterMap f).map g')))):LCB (l.map g) ok cap pt tt te σ R D G1:=by
 refine b56 (λi c G=>c=((l.take i).filterMap f).map g'/\G=put G1 D (.lst c)) ⟨by simp,rfl⟩ ?_ ?_ ?_
 ·simp_all
 ·rintro i x c G d ⟨e,rfl⟩;rw[aW]at d;cases hx':l[i]? with
  |none=>rw[hx']at d;cases d
  |some a=>
   rw[hx']at d;cases d;refine turn a (bo hx') c _ _ (λy j=>⟨a0a,?_,?_,?_⟩) λh=>⟨?_,rfl⟩
   ·rw[e,aT];exact dw (be (cx _ _) (by rw[bC];lia)) (a0h (aV 1000))
   ·rw[a1m hx',j,e,bt];rfl
   ·rw[a0Q]
   ·rw[a1m hx',h,e];simp
 ·simp_all
def One(l:List Rw):Prop:=∀r∈l,∃x,r.w=[x]
def a3Z:P3:=λws G R=>∃p l m,ws=[.ref p,oz m]/\G p=some (.lst (l.map Rw.z))/\One l/\l.length<=1000/\∀t,G t=none->R (.ref t) (put G t (.lst ((ahead m l).map Rw.z)))
set_option tactic.hygienic true in
def a30(T:Txt K mg base a):Cal P w K mg base CX0 2 "ahead_of" (lowP K a3Z):=by
 refine fnc 2 (N:=["line","moment"]) T.br (T.f 4 _ rfl) ?_;walk_at "in";refine⟨_,(a0s (a2d (q_l ["begin","end","worth","moment"] [none,none,none,some 1] (.tp [0,1,2])))),?_⟩;obtain⟨p,l,m,rfl,hp,h1,hz,q⟩:=h;symm;refine a1R hp ?_;intro D hD;refine a2h (a1y m) (λys=>a0c hp hD) hz ?_ (q D hD);intro r hr ys K1 K2 k1 k2;obtain⟨x,hx⟩:=h1 r hr;obtain⟨b,e,w⟩:=r;cases hx;refine⟨_,rfl,?_⟩;cases m with
 |none=>
  symm;refine⟨e,none,rfl,?_⟩;symm;refine⟨lenK rfl,?_⟩;exact k1 _ rfl
 |some m=>
  symm;refine ifD (λc=>?_) λc=>?_
  ·symm;refine⟨e,some m,rfl,?_⟩;symm;refine⟨lenK rfl,?_⟩;refine k1 ⟨b,emin e (some m),[x]⟩ ?_;unfold a1y;rw[if_pos (by simpa[bef]using c)]
  ·refine k2 ?_;unfold a1y;rw[if_neg (by simpa[bef]using c)]
def a4L:P3:=λws G R=>∃p l m,ws=[.ref p,.int m]/\G p=some (.lst (l.map Rw.z))/\One l/\l.length<=1000/\∀t,G t=none->R (.ref t) (put G t (.lst ((fromOn m l).map Rw.z)))
set_option tactic.hygienic true in
def a4M(T:Txt K mg base a):Cal P w K mg base CX0 1 "from_on" (lowP K a4L):=by
 refine fnc 2 (N:=["line","moment"]) T.br (T.f 6 _ rfl) ?_;walk_at "in";refine⟨_,(a0s (a2d (q_l ["begin","end","worth","moment"] [none,none,none,some 1] (.tp [0,1,2])))),?_⟩;obtain⟨p,l,m,rfl,hp,h1,hz,q⟩:=h;symm;refine a1R hp ?_;intro D hD;refine a2h (a3X m) (λys=>a0c hp hD) hz ?_ (q D hD);intro r hr ys K1 K2 k1 k2;obtain⟨x,hx⟩:=h1 r hr;obtain⟨b,e,w⟩:=r;cases hx;refine⟨_,rfl,?_⟩;cases e with
 |none=>
  symm;refine⟨lenK rfl,?_⟩;exact k1 ⟨if m > b then m else b,none,[x]⟩ rfl
 |some e=>
  symm;refine ifD (λc=>?_) λc=>?_
  ·symm;refine⟨lenK rfl,?_⟩;refine k1 ⟨if m > b then m else b,some e,[x]⟩ ?_;unfold a3X;rw[if_pos (by simpa[bef]using c)]
  ·refine k2 ?_;unfold a3X;rw[if_neg (by simpa[bef]using c)]
def a8q(h:0<n):ixN n (-1)=some (n-1):=by grind [ixN]
def a5e{α:Type}{l:List α}{x:α}(h:l.getLast?=some x):atI l (-1)=some x:=by
 have a:l≠[]:=λz=>by subst z;simp at h
 unfold atI;rw[a8q (cQ.mpr a)]
 show l[l.length-1]?=some x
 rw[<- List.getLast?_eq_getElem?];exact h
def a9X{α:Type}{l:List α}{x y:α}(h:l.getLast?=some x):l.set (l.length-1) y=l.dropLast++[y]:=by
 have a:=a11 h;generalize l.dropLast=i at a;subst a;simp
def sIx2{a b:Z}{w:List Z}:HT.sIx (a::b::w).length 0 (some 2)=2:=by
 have:=HT.sIx_nat (a::b::w).length 0 2
 rw[show ((2:Nat):Int)=2 from rfl]at this;rw[this];simp
def cut2{a b:Z}{w:List Z}:cutZ (a::b::w) (some 2) none=w:=by
 unfold cutZ;rw[sIx2,HT.sIx_none];simp
def a8r{a b:Z}{w:List Z}:¬ (HT.sIx (a::b::w).length 0 (some 2)=0/\HT.sIx (a::b::w).length (a::b::w).length none=(a::b::w).length):=by
 rw[sIx2];intro h;exact absurd h.1 (by decide)
def okW0(w:List Z):Prop:=w.length<=4/\w.all (flat 4)=true
def OkR0(l:List Rw):Prop:=∀r∈l,okW0 r.w
def OkR.weak{l:List Rw}(h:OkR l):OkR0 l:=λr hr=>(h r hr).2
def a0G:P3:=λws G R=>∃p ps,ws=[.ref p]/\G p=some (.lst (ps.map Rw.z))/\OkR0 ps/\ps.length<=1000/\∀t,G t=none->R (.ref t) (put G t (.lst ((join ps).map Rw.z)))
def b2c{G:Hq}{R:K3}{a b:Z}{w:List Z}(h:R (.tup w) G):zSl (.tup (a::b::w)) (some 2) none G R:=b34 a8r (by rw[cut2];exact h)
def a8s{w:List Z}(h:okW0 w):flat 8 (.tup w)=true:=a5U (n:=4) (m:=7) (by decide) h.2
set_option tactic.hygienic true in
theorem a5V:∀(ps told:List Rw),OkR0 told->OkR0 ps->OkR0 (ps.foldl jn told)
 |[],_,h,_=>h
 |p::ps,told,h,h'=>by
  refine a5V ps (jn told p) (λr hr=>?_) λr hr=>h' r (.tail _ hr);unfold jn at hr
  split at hr
  ·next l hl=>
   split at hr
   ·rcases aU.mp hr with hr |hr
    ·exact h r (et _ hr)
    ·rw[aX.mp hr];exact h' p (.head _)
   ·rcases aU.mp hr with hr |hr
    ·exact h r hr
    ·rw[aX.mp hr];exact h' p (.head _)
  ·rcases aU.mp hr with hr |hr
   ·exact h r hr
   ·rw[aX.mp hr];exact h' p (.head _)
def b41(told:List Rw)(p:Rw):(jn told p).length<=told.length+1:=by
 unfold jn
 split
 ·split<;>simp
 ·simp
def a9Y:∀(ps told:List Rw),(ps.foldl jn told).length<=told.length+ps.length:=by intro z0;induction z0 with
 |nil=>intro told;simp
 |cons p ps I0=>
  intro told;have b:=I0 (jn told p);have a:=b41 told p
  show (ps.foldl jn (jn told p)).length<=_
  rw[bp]
  lia
def a8t{ps:List Rw}(h:ps[i]?=some p):(ps.take (i+1)).foldl jn []=jn ((ps.take i).foldl jn []) p:=by
 rw[cz,h];simp
set_option tactic.hygienic true in
def a0H(T:Txt K mg base a):Cal P w K mg base CX0 1 "with_alike_joined" (lowP K a0G):=by
 refine fnc 1 (N:=["pieces","told","piece"]) T.br (T.f 5 _ rfl) ?_;walk_at "in";refine⟨_,(a0g (by ac_rfl)
  (a0g (a05 (pt:=(.nm 2)) fT.never rfl (by ac_rfl) (p_nm (nmI 2 nd))
  (a0s (z_if (by ac_rfl)
  (a0s (a2O (by ac_rfl) (qv 1) (by ac_rfl) b6d))
  (by ac_rfl))))
  (by ac_rfl))),?_⟩
 obtain⟨p,ps,rfl,hp,hok,hz,q⟩:=h;symm;refine⟨lenK rfl,λt ht=>?_⟩;symm;refine a1R (a0c hp ht) ?_;refine a0z (λi σ G'=>∃v,σ=[some (.ref p),some (.ref t),v]/\G'=put G t (.lst (((ps.take i).foldl jn []).map Rw.z))) ⟨_,rfl,by simp⟩ (by rintro i σ G' _ ⟨v,_,e⟩;exact by rw[e];exact a0c hp ht) ?_ ?_
 ·rintro i x σ G' hx ⟨v,rfl,rfl⟩;rw[aW]at hx;cases hx':ps[i]? with
  |none=>rw[hx']at hx;cases hx
  |some r=>
   rw[hx']at hx;cases hx;have hr:=hok r (bo hx');have hot:OkR0 ((ps.take i).foldl jn []):=a5V _ _ (λr hr=>by simp at hr) λr hr=>hok r (de hr);have hlt:=a9Y (ps.take i) [];rw[bC]at hlt;have hi:=(aZ.mp hx').1;rw[a8t hx'];generalize (ps.take i).foldl jn []=told at hot hlt ⊢;simp only[dY]at hlt;refine⟨_,rfl,?_⟩;have app:∀G',G'=put G t (.lst (told.map Rw.z))->jn told r=told++[r]->a2f (.ref t) [r.z] G' (λ_ G1=>∃v,([some (.ref p),some (.ref t),some r.z]:S3)=[some (.ref p),some (.ref t),v]/\G1=put G t (.lst ((jn told r).map Rw.z))):=by
    rintro _ rfl e;refine a0S a0a (by rw[aT];exact a0h (by omega)) ⟨_,rfl,?_⟩;rw[a0Q,e,bt]
    rfl
   symm;refine b3R a0a ?_;cases hl:told.getLast? with
   |none=>
    have e0:told=[]:=fu.mp hl;subst e0;refine ifF ?_;symm;refine a1i a0a ?_;symm;exact app _ rfl (by unfold jn;rw[hl])
   |some k=>
    have hne:told≠[]:=λz=>by subst z;simp at hl
    have hlm:(told.map Rw.z).getLast?=some k.z:=by rw[List.getLast?_map,hl];rfl
    have he:(told.map Rw.z).isEmpty=false:=by cases told with |nil=>exact absurd rfl hne |cons _ _=>rfl
    have hk:=hot k (List.mem_of_getLast? hl);rw[he];refine ifT ?_;symm;refine a1w a0a (a5e hlm) ?_;symm;refine a0O at1 ?_;symm;refine a0O at0 ?_;refine b4Z ?_;symm;refine ifD (λc1=>?_) λc1=>?_
    ·symm;refine a1w a0a (a5e hlm) ?_;symm;refine b2c ?_;symm;refine b2c ?_;refine b40 (a8s hk) (a8s hr) ?_;symm;refine ifD (λc2=>?_) λc2=>?_
     ·symm;refine a1w a0a (a5e hlm) ?_;symm;refine a0O at0 ?_;symm;refine a0O at1 ?_;symm;refine⟨lenK rfl,?_⟩;symm;refine b2c ?_;refine b3Z (by simp) (a1Z (by have:=hr.1;simp;omega)) ?_;symm;refine b6v a0a (a8q (by rw[aT];exact cQ.mpr hne)) ?_;refine⟨_,rfl,?_⟩;rw[a0Q,a9X hlm]
      congr 1
      unfold jn;rw[hl];dsimp only;rw[if_pos ⟨c1,c2⟩,bt,List.map_dropLast]
      rfl
     ·symm;refine a1i a0a ?_;symm;exact app _ rfl (by unfold jn;rw[hl];dsimp only;rw[if_neg λz=>c2 z.2])
    ·refine ifF ?_;symm;refine a1i a0a ?_;symm;exact app _ rfl (by unfold jn;rw[hl];dsimp only;rw[if_neg λz=>c1 z.1])
 ·rintro σ G' ⟨v,rfl,rfl⟩;symm;rw[aT,bT];exact q t ht
def a31(h:over r m=true):r.has m=false:=by
 unfold over at h;unfold Rw.has;cases he:r.e with
 |none=>rw[he]at h;cases h
 |some e=>
  rw[he]at h;simp at h;simp only[bef];rw[decide_eq_false (show ¬ m<e by lia),dv]
def a2U(h:m<=m')(o:over r m=true):over r m'=true:=by
 unfold over at o ⊢;cases he:r.e with
 |none=>rw[he]at o;cases o
 |some e=>rw[he]at o;simp at o ⊢;lia
theorem a5W:∀{l:List Rw}{m:Int}{k:Nat},(∀(i:Nat) r,i<k->l[i]?=some r->over r m=true)->val l m=val (l.drop k) m
 |l,m,0,_=>rfl
 |[],m,k+1,_=>rfl
 |r::l,m,k+1,h=>by
  rw[a0F,a31 (h 0 r (by simp) rfl),if_neg (by simp),fw];exact a5W λi s a e=>h (i+1) s (by lia) (by grind)
def a9Z(h:Rise (r::l))(o:over r m=false):val (r::l) m=if r.b<=m then some r.w else none:=by
 rw[a0F];have d:bef m r.e=true:=by
  unfold over at o;cases he:r.e with
  |none=>rfl
  |some e=>rw[he]at o;simp at o;simp only[bef,decide_eq_true_eq];omega
 by_cases c:r.b<=m
 ·have:r.has m=true:=by unfold Rw.has;rw[d,decide_eq_true c];rfl
  rw[this,if_pos rfl,if_pos c]
 ·rw[a5S (by lia),if_neg (by simp),if_neg c];refine a3V λs a=>a5S ?_
  have:=((bD.mp h.2).1 s a).b (h.1 r (.head _))
  lia
def Rise.drop(h:Rise l)(k:Nat):Rise (l.drop k):=⟨λr a=>h.1 r (dA a),h.2.sublist (eO _ _)⟩
def drop_get{α:Type}{l:List α}{x:α}(h:l[k]?=some x):l.drop k=x::l.drop (k+1):=by
 obtain⟨b,a⟩:=aZ.mp h;rw[dz b,a]
def a24:P3:=λws G R=>Ex4 λ(p q:Addr) (l:List Rw) (ms:List Int)=>ws=[.ref p,.ref q]/\G p=some (.lst (l.map Rw.z))/\G q=some (.lst (ms.map Z.int))/\Rise l/\OkR l/\l.length<=1000/\ms.Pairwise (·<=·)/\ms.length<=1000 /\
 ∀t,G t=none->R (.ref t) (put G t (.lst (ms.map λm=>wz (val l m))))
def a2i{l:List Rw}{k:Nat}(h:l[k]?=some r):atI (l.map Rw.z) (k:Int)=some r.z:=a1j (by simp_all)
def take_snoc{α:Type}{l:List α}{x:α}(h:l[i]?=some x):l.take (i+1)=l.take i++[x]:=by rw[cz,h];rfl
set_option tactic.hygienic true in
def a25(T:Txt K mg base a):Cal P w K mg base CX0 2 "worths_in" (lowP K a24):=by
 refine fnc 2 (N:=["line","moments","worths","at","moment"]) T.br (T.f 2 _ rfl) ?_;walk_at "in";refine⟨_,(a0g (by ac_rfl)
  (a0g (by ac_rfl)
  (a0g (a05 (pt:=(.nm 4)) fT.never rfl (by ac_rfl) (p_nm (nmI 4 nd))
  (a3C (a7s fT.never (by ac_rfl)
  (by ac_rfl))
  (by ac_rfl)))
  (by ac_rfl)))),?_⟩
 obtain⟨p,q,l,ms,rfl,hp,hq,hr,hok,hz,hm,hmz,fin⟩:=h;symm;refine⟨lenK rfl,λt ht=>?_⟩;symm;refine a1R (a0c hq ht) ?_;refine a0z (λi σ G'=>∃(k:Nat)(v:Option Z),k<=l.length/\(∀(j:Nat) r m,j<k->l[j]?=some r->ms[i]?=some m->over r m=true)/\σ=[some (.ref p),some (.ref q),some (.ref t),some (.int k),v]/\G'=put G t (.lst ((ms.take i).map λm=>wz (val l m)))) ⟨0,_,bE _,λj r m hj=>by omega,rfl,by simp⟩ (by rintro i σ G' _ ⟨_,_,_,_,_,e⟩;exact by rw[e];exact a0c hq ht) ?_ ?_
 ·rintro i x σ G' hx ⟨k,v,hk,hov,rfl,rfl⟩;rw[aW]at hx;cases hx':ms[i]? with
  |none=>rw[hx']at hx;cases hx
  |some m=>
   rw[hx']at hx;cases hx;refine⟨_,rfl,?_⟩;symm;have hp':put G t (.lst ((ms.take i).map λm=>wz (val l m))) p=some (.lst (l.map Rw.z)):=a0c hp ht;generalize hG:put G t (.lst ((ms.take i).map λm=>wz (val l m)))=G1 at hp' ⊢;refine a3H (fun σ' G'=>∃k':Nat,k'<=l.length/\(∀(j:Nat) r,j<k'->l[j]?=some r->over r m=true)/\(∀r,l[k']?=some r->over r m=false)/\σ'=[some (.ref p),some (.ref q),some (.ref t),some (.int k'),some (.int m)]/\G1=G') ?_ ?_
   ·refine⟨λn σ' G'=>∃k':Nat,n+k'=l.length/\(∀(j:Nat) r,j<k'->l[j]?=some r->over r m=true)/\σ'=[some (.ref p),some (.ref q),some (.ref t),some (.int k'),some (.int m)]/\G1=G',⟨l.length-k,k,by omega,λj r hj e=>hov j r m hj e hx',rfl,rfl⟩,?_⟩;rintro n σ' G' ⟨k',hn,ho,rfl,rfl⟩;symm;refine a4m hp' ?_;symm;refine ifD (λc=>?_) λc=>?_
    ·rw[aT]at c;have hlt:k'<l.length:=by omega
     have hg:=bh hlt;symm;refine a1w hp' (a2i hg) ?_;symm;refine⟨_,_,rfl,?_⟩;symm;refine ifB (λc2=>?_) λc2=>?_
     ·symm;refine⟨n-1,by omega,k'+1,by omega,λj r hj e=>?_,rfl,rfl⟩
      by_cases hjk:j<k'
      ·exact ho j r hjk e
      ·have:j=k':=by omega
       subst this;rw[hg]at e;cases e;exact c2
     ·exact⟨k',by omega,ho,λr e=>by rw[hg]at e;cases e;exact c2,rfl,rfl⟩
    ·rw[aT]at c;refine ifF ?_;exact⟨k',by omega,ho,λr e=>by have:=(aZ.mp e).1;omega,rfl,rfl⟩
   ·rintro σ' G' ⟨k',hk',ho,hn,rfl,rfl⟩;have hv:val l m=val (l.drop k') m:=a5W ho;have nxt:∀w:Z,w=wz (val l m)->a2f (.ref t) [w] G1 (λ_ G2=>∃(k:Nat)(v:Option Z),k<=l.length/\(∀(j:Nat) r m,j<k->l[j]?=some r->ms[i+1]?=some m->over r m=true)/\([some (.ref p),some (.ref q),some (.ref t),some (.int k'),some (.int m)]:S3)=[some (.ref p),some (.ref q),some (.ref t),some (.int k),v]/\G2=put G t (.lst ((ms.take (i+1)).map λm=>wz (val l m)))):=by
     rintro w rfl;subst hG;have hi:=(aZ.mp hx').1;refine a0S a0a (by rw[aT,bC];exact a0h (by omega)) ⟨k',_,hk',λj r m' hj e e'=>a2U ?_ (ho j r hj e),rfl,?_⟩
     ·obtain⟨h1,e1⟩:=aZ.mp hx';obtain⟨h2,e2⟩:=aZ.mp e';rw[<- e1,<- e2];exact cA.mp hm _ _ h1 h2 (by omega)
     ·rw[a0Q,take_snoc hx',bt];rfl
    have ht1:∃ws,G1 t=some (.lst ws):=by rw[<- hG];exact⟨_,a0a⟩
    obtain⟨wt,ht1⟩:=ht1;symm;refine a4m hp' ?_;symm;refine ifD (λc=>?_) λc=>?_
    ·rw[aT]at c;have hlt:k'<l.length:=by omega
     have hg:=bh hlt;have hv2:=a9Z (by rw[<- drop_get hg];exact hr.drop k') (hn _ hg);rw[<- drop_get hg,<- hv]at hv2;symm;refine a1w hp' (a2i hg) ?_;symm;refine a0O at0 ?_;symm;refine ifD (λc2=>?_) λc2=>?_
     ·symm;refine a1i ht1 ?_;symm;refine a1w hp' (a2i hg) ?_;symm;have hw:=hok _ (dI hlt);obtain⟨x,xs,ex⟩:∃x xs,(l[k']).w=x::xs:=by
       cases e:(l[k']).w with
       |nil=>exact absurd e hw.1
       |cons x xs=>exact⟨x,xs,rfl⟩
      refine a0O (w:=x) (by show atI (_::_::(l[k']).w) 2=some x;rw[ex];exact at2) ?_;symm;refine nxt x ?_;rw[hv2,if_pos c2,ex];rfl
     ·symm;refine a1i ht1 ?_;symm;refine nxt .non ?_;rw[hv2,if_neg c2];rfl
    ·rw[aT]at c;refine ifF ?_;symm;refine a1i ht1 ?_;symm;refine nxt .non ?_;rw[hv,cM (by omega)];rfl
 ·rintro σ G' ⟨k,v,_,_,rfl,rfl⟩;symm;rw[aT,bT];exact fin t ht
def a32:P3:=λws G R=>∃p l m,ws=[.ref p,.int m]/\G p=some (.lst (l.map Rw.z))/\Rise l/\OkR l/\l.length<=1000/\∀G',Sm G G'->R (wz (val l m)) G'
set_option tactic.hygienic true in
def a1f(T:Txt K mg base a):Cal P w K mg base CX0 3 "worth_in" (lowP K a32):=by
 refine fnc 2 (N:=["line","moment"]) T.br (T.f 3 _ rfl) ?_;walk_at "in";refine⟨_,(by ac_rfl),?_⟩;obtain⟨p,l,m,rfl,hp,hr,hok,hz,q⟩:=h;symm;refine⟨lenK rfl,λa ha=>?_⟩;symm;refine⟨p,a,l,[m],rfl,a0c hp ha,a0a,hr,hok,hz,by simp,by simp,λt ht=>?_⟩;symm;exact a1w a0a at0 (q _ ((Sm.new (o:=.lst [.int m]) ha).trans (Sm.new ht)))
def a8u(h:OkR l):OkR (ahead m l):=λx a=>by
 obtain⟨r,b,_,rfl⟩:=a12 a;exact h r b
def a90(h:OkR l):OkR (fromOn m l):=λx a=>by
 obtain⟨r,b,_,rfl⟩:=a2H a;exact h r b
def okV(z:Z):Prop:=flat 4 z=true
def b42(h:okV z):okW [z]:=⟨by simp,by simp,by rw[cj,h];rfl⟩
def a6y(h:OkR l)(hz:okV z):OkR (a1g l b e (optW z)):=by
 intro r a;rcases aU.mp a with a |a
 ·rcases aU.mp a with a |a
  ·exact a8u h r a
  ·unfold optW at a
   split at a
   ·next w e=>
          split at e
          ·cases e
          ·cases e;rw[aX.mp a];exact b42 hz
   ·simp_all
 ·cases e with
  |none=>simp at a
  |some e=>exact a90 h r a
def a5f:P3:=λws G R=>Ex5 λp l b e z=>ws=[.ref p,.int b,oz e,z]/\G p=some (.lst (l.map Rw.z))/\Rise l/\OkR l/\One l/\l.length<=900/\bef b e=true/\okV z /\
 ∀t G',G t=none->Sm G G'->G' t=some (.lst ((a4I l b e (optW z)).map Rw.z))->R (.ref t) G'
set_option tactic.hygienic true in
def a5g(T:Txt K mg base a):Cal P w K mg base CX0 3 "put_on" (lowP K a5f):=by
 refine fnc 4 (N:=["line","begin","end","worth","pieces"]) T.br (T.f 7 _ rfl) ?_;walk_at "in";refine⟨_,(a0g (by ac_rfl)
  (a3C (by ac_rfl)
  (a3C (by ac_rfl)
  (by ac_rfl)))),?_⟩
 obtain⟨p,l,b,e,z,rfl,hp,hr,hok,h1,hz,g,hv,q⟩:=h;have hpc:=(a2T (w:=optW z) hr g).2.2;symm;refine⟨p,l,some b,rfl,hp,h1,by omega,λt ht=>?_⟩;symm;have la:=a4H (some b) l;refine a3H (fun σ' G'=>σ'=[some (.ref p),some (.int b),some (oz e),some z,some (.ref t)]/\G'=put G t (.lst ((ahead (some b) l++(match optW z with |some w=>[(⟨b,e,w⟩:Rw)] |none=>[])).map Rw.z))) ?_ ?_
 ·symm;refine ifN (λc=>?_) λc=>?_
  ·symm;refine a1i a0a ?_;symm;refine⟨lenK rfl,?_⟩;symm;refine a0S a0a (by rw[aT];exact a0h (by omega)) ⟨rfl,?_⟩;rw[a0Q,optW,if_neg c,bt];rfl
  ·symm;refine⟨rfl,?_⟩;rw[optW,if_pos c];simp
 ·rintro σ' G' ⟨rfl,rfl⟩;have hp1:∀o,put G t o p=some (.lst (l.map Rw.z)):=λo=>a0c hp ht;have fin:∀G' ,Sm G G'->G' t=some (.lst ((a1g l b e (optW z)).map Rw.z))->a0G [.ref t] G' R:=λG' s ht'=>by
   refine⟨t,_,rfl,ht',(a6y hok hv).weak,by omega,λu hu=>?_⟩;exact q u _ (s.free hu) (s.trans (Sm.new hu)) a0a
  refine a3H (fun σ' G'=>σ'=[some (.ref p),some (.int b),some (oz e),some z,some (.ref t)]/\Sm G G'/\G' t=some (.lst ((a1g l b e (optW z)).map Rw.z))) ?_ ?_
  ·cases e with
   |none=>
    symm;refine⟨rfl,Sm.new ht,?_⟩;unfold a1g;rw[bN];exact a0a
   |some e=>
    symm;refine a1i a0a ?_;symm;refine⟨p,l,e,rfl,hp1 _,h1,by omega,λu hu=>?_⟩;have hut:t≠u:=λz=>by subst z;rw[a0a]at hu;cases hu
    have hpl:(a1g l b (some e) (optW z)).length=(ahead (some b) l++(match optW z with |some w=>[(⟨b,some e,w⟩:Rw)] |none=>[])).length+(fromOn e l).length:=by
     unfold a1g;exact bn
    generalize hA:(ahead (some b) l++(match optW z with |some w=>[(⟨b,some e,w⟩:Rw)] |none=>[]))=A at hu hpl ⊢
    have e1:put (put G t (.lst (A.map Rw.z))) u (.lst ((fromOn e l).map Rw.z)) t=some (.lst (A.map Rw.z)):=by rw[a0f hut];exact a0a
    symm;refine a2D e1 a0a (by rw[aT,aT];exact a1Z (by omega)) ?_;refine⟨rfl,?_,?_⟩
    ·exact ((Sm.new ht).trans (Sm.new hu)).put ht
    ·rw[a0a,<- bt,<- hA]
     rfl
  ·rintro σ' G' ⟨rfl,s,ht'⟩;symm;exact fin G' s ht'
def leS(a b:Str):Prop:=PySem.Spec.ltCps b.cps.toList a.cps.toList=false
def a33{a b:Str}:leS a b↔¬ b.cps.toList<a.cps.toList:=by unfold leS;rw[PyProof.Rows.ltCps_eq];simp
def a4N{a b c:Str}(h:leS a b)(g:leS b c):leS a c:=by
 rw[a33]at *;exact List.le_trans (α:=Nat) h g
def a91{a b:Str}(h:leS a b)(g:leS b a):a=b:=by
 rw[a33]at *;have e:a.cps.toList=b.cps.toList:=List.le_antisymm (α:=Nat) h g;cases a;cases b;simpa using e
def b6R:∀{l:List Str}{p:Str},PyProof.Rows.risingS p l=true->(p::l).Pairwise leS:=by intro z0;induction z0 with
 |nil=>intro p _;exact d0 _ _
 |cons x r I0=>
  intro p h;unfold PyProof.Rows.risingS at h;rw[bS,fx]at h;have b:=I0 h.2;refine bD.mpr ⟨λy a=>?_,b⟩;rcases bf.mp a with rfl |a
  ·exact h.1
  ·exact a4N h.1 (List.rel_of_pairwise_cons b a)
theorem b6S:∀{l:List Str},PyProof.Rows.sortedS l=true->l.Pairwise leS
 |[],_=>cH.nil
 |_::_,h=>b6R h
def isL(c:Nat):Prop:=97<=c/\c<=122
def nmOk(s:Str):Prop:=1<=s.cps.toList.length/\s.cps.toList.length<=8/\∀c∈s.cps.toList,isL c
def a1K(s:Str):s.length=s.cps.toList.length:=by rw[cb];rfl
def b5m:(Str.ofString "abcdefghijklmnopqrstuvwxyz").cps.toList=[97,98,99,100,101,102,103,104,105,106,107,108,109,110,111,112,113,114,115,116,117,118,119,120,121,122]:=by decide +kernel
def b43(h0:0<=k)(h1:k<26):atI (Str.ofString "abcdefghijklmnopqrstuvwxyz").cps.toList k=some (97+k.toNat):=by
 obtain⟨j,rfl⟩:=dL h0;have a:j<26:=by lia
 refine a1j ?_
 have:∀j:Fin 26,([97,98,99,100,101,102,103,104,105,106,107,108,109,110,111,112,113,114,115,116,117,118,119,120,121,122])[j.1]?=some (97+j.1):=by decide
 exact this ⟨j,a⟩
def a92(h:∀c∈s.cps.toList,isL c):PyData.strOk s=true:=by
 unfold PyData.strOk;rw[Array.all_eq_true_iff_forall_mem];intro c a
 have:=(h c (by simp_all)).2
 exact decide_eq_true (by lia)
def a34(h:nmOk s):flat n (.str s)=true:=by
 have:=a92 h.2.2
 cases n<;>exact this
def a5X(a b:Str):(a++b).cps.toList=a.cps.toList++b.cps.toList:=by
 show (a.cps++b.cps).toList=_
 rw[Array.toList_append]
def b44{p:Nat}(h:p<=s.cps.toList.length):(Txt.slice s none (some (p:Int))).cps.toList=s.cps.toList.take p:=by
 have:=eq_of_beq (PyProof.Rows.slice_closes_to (x:=s) (j:=p) ⟨by lia,by lia⟩)
 rw[this];simp
def a8v{p:Nat}(h:p<=s.cps.toList.length):(Txt.slice s (some (p:Int)) none).cps.toList=s.cps.toList.drop p:=by
 have:=PyProof.Rows.slice_from_eq (x:=s) (i:=p) (by simp) (by rw[a1K];lia) rfl
 rw[this,a1K,cr (by simp)];simp
def letN(s:Str)(n:Nat):Prop:=s.cps.toList.length=n/\∀c∈s.cps.toList,isL c
def letN.nm(h:letN s n)(h1:1<=n)(h8:n<=8):nmOk s:=⟨by rw[h.1];exact h1,by rw[h.1];exact h8,h.2⟩
def letN.sz(h:letN s n)(h8:n<=100):s.length<=sizeLine:=a1Z (by rw[a1K,h.1];omega)
def letN.one(h:isL c):letN ⟨#[c]⟩ 1:=⟨rfl,λx a=>by
 have:x=c:=by simpa using a
 rw[this];exact h⟩
def letN.add{a b:Str}{n m:Nat}(h:letN a n)(g:letN b m):letN (a++b) (n+m):=⟨by rw[a5X,bn,h.1,g.1],λc hc=>by
 rw[a5X]at hc;rcases aU.mp hc with hc |hc
 ·exact h.2 c hc
 ·exact g.2 c hc⟩
def letN.to(h:letN s n)(hp:p<=n):letN (Txt.slice s none (some (p:Int))) p:=⟨by rw[b44 (by rw[h.1];exact hp),bC,h.1];omega,λc a=>by
 rw[b44 (by rw[h.1];exact hp)]at a;exact h.2 c (de a)⟩
def letN.from(h:letN s n)(hp:p<=n):letN (Txt.slice s (some (p:Int)) none) (n-p):=⟨by rw[a8v (by rw[h.1];exact hp),b7,h.1],λc a=>by
 rw[a8v (by rw[h.1];exact hp)]at a;exact h.2 c (dA a)⟩
def b6T:(10:Int) ^ (12:Int).toNat=1000000000000:=by decide
def pow6:(1000003:Int) ^ (2:Int).toNat=1000006000009:=by decide
local macro_rules | `(tactic| walk_at "go1")=>`(tactic| first | refine i_I (show (0:Int)<_ by decide) ?_ | (refine i_I ⟨by decide,by decide,by decide⟩ ?_;first | rw[b6T] | rw[pow6]) | refine i_I ⟨by decide,by decide⟩ ?_)
def a93:P3:=λws G R=>∃c:Int,ws=[.int c]/\∀(t:Addr)(ns:List Str)(G':Hq),G t=none->Sm G G'->G' t=some (.lst (ns.map Z.str))->ns.length=4->(∀s∈ns,nmOk s)->R (.ref t) G'
def letN.nil:letN (Str.ofString "") 0:=⟨by decide +kernel,λc hc=>by rw[show (Str.ofString "").cps.toList=[] by decide +kernel]at hc;simp at hc⟩
def abcL{k:Int}(h0:0<=k)(h1:k<26):∃c,atI (Str.ofString "abcdefghijklmnopqrstuvwxyz").cps.toList k=some c/\letN ⟨#[c]⟩ 1:=⟨_,b43 h0 h1,letN.one (by unfold isL;omega)⟩
def a94(T:Txt K mg base a):Cal P w K mg base CX0 1 "_law_names" (lowP K a93):=by
 refine fnc 1 (N:=["cell","letters","base","rest","k","at","first","last","letter"]) T.br (T.f 13 _ rfl) ?_ (len:=λws G R h=>(by obtain⟨_,rfl,_⟩:=h;rfl));walk_at "in";refine⟨_,(by ac_rfl),?_⟩;obtain⟨c,rfl,q⟩:=h;symm;have hn:1<=1+c % 5/\1+c % 5<=5:=by omega
 generalize 1+c % 5=n at hn ⊢;refine⟨by omega,by omega,?_⟩;refine a0z (λi σ G'=>∃(s:Str)(r:Int)(v:Option Z),letN s i/\σ=[some (.int c),some (.str (Str.ofString "abcdefghijklmnopqrstuvwxyz")),some (.str s),some (.int r),v,none,none,none,none]/\G'=G) ⟨_,_,_,letN.nil,rfl,rfl⟩ (λ_ _ _ _ _=>True.intro) ?_ ?_
 ·rintro i x σ G' hx ⟨s,r,v,hs,rfl,rfl⟩;obtain⟨hi,rfl⟩:=a3F hx;refine⟨_,rfl,?_⟩;symm;refine i_I (.inr ⟨by omega,by omega⟩) ?_;symm;refine i_I (.inl ⟨by omega,by omega⟩) ?_;symm;obtain⟨ch,e,hc⟩:=abcL (k:=(r+5*(0+(i:Int))*(r / 31 % 7)) % 26) (by omega) (by omega);refine a7G (lenK rfl) e ?_;refine a4l (a1Z (by rw[a1K,a1K,hs.1,hc.1];omega)) ?_;symm;refine i_I (.inl ⟨by decide,by decide⟩) ?_;symm;exact⟨_,_,_,hs.add hc,rfl,rfl⟩
 ·rintro σ G' ⟨s,r,v,hs,rfl,rfl⟩;rw[a3h]at hs;have hm:1<=n.toNat/\n.toNat<=5:=by omega
  generalize n.toNat=m at hs hm;have sz:=hs.sz (by omega);have sl:s.length=m:=by rw[a1K,hs.1]
  symm;refine b36 sz ?_;symm;refine i_I (show (0:Int)<(s.length:Int) by omega) ?_;symm;have ha:0<=c / 7 % (s.length:Int)/\c / 7 % (s.length:Int)<(s.length:Int):=⟨Int.emod_nonneg _ (by omega),Int.emod_lt_of_pos _ (by omega)⟩;generalize c / 7 % (s.length:Int)=at' at ha ⊢;obtain⟨p,rfl⟩:=dL ha.1;have hp:p<s.cps.toList.length:=by rw[<- a1K];omega
  obtain⟨c1,e1,l1⟩:=abcL (k:=c / 11 % 26) (by omega) (by omega);refine a7G (lenK rfl) e1 ?_;symm;obtain⟨c2,e2,l2⟩:=abcL (k:=(c / 11+1+c / 13 % 25) % 26) (by omega) (by omega);refine a7G (lenK rfl) e2 ?_;symm;refine a7G sz (a1j (bh hp)) ?_;symm;generalize a9v (Str.ofString "abcdefghijklmnopqrstuvwxyz") ⟨#[s.cps.toList[p]]⟩=fd;obtain⟨c3,e3,l3⟩:=abcL (k:=(fd+1+c / 17 % 25) % 26) (by omega) (by omega);refine a7G (lenK rfl) e3 ?_;symm;refine a4l (a1Z (by rw[a1K,a1K,hs.1,l2.1];omega)) ?_;symm;refine a4l (a1Z (by rw[a1K,a1K,hs.1,l1.1];omega)) ?_;symm;refine b33 sz ?_;have g1:=hs.to (p:=p) (by rw[hs.1]at hp;omega);have g2:=hs.from (p:=p+1) (by rw[hs.1]at hp;omega);symm;refine a4l (a1Z (by rw[a1K,a1K,g1.1,l3.1];rw[hs.1]at hp;omega)) ?_;have g3:=g1.add l3;symm;refine b33 sz ?_;rw[show ((p:Int)+1)=((p+1:Nat):Int) by omega];symm;refine a4l (a1Z (by rw[a1K,a1K,g3.1,g2.1];rw[hs.1]at hp;omega)) ?_;have g4:=g3.add g2;symm;refine⟨lenK rfl,λt ht=>q t [_,_,_,_] _ ht (Sm.new ht) a0a rfl λs' hs'=>?_⟩;simp only[bf,List.not_mem_nil,or_false]at hs';rw[hs.1]at hp;rcases hs' with rfl |rfl |rfl |rfl
  ·exact hs.nm (by omega) (by omega)
  ·exact (hs.add l2).nm (by omega) (by omega)
  ·exact (l1.add hs).nm (by omega) (by omega)
  ·exact g4.nm (by omega) (by omega)
def a6z:P3:=λws G R=>∃c:Int,ws=[.int c]/\∀(b:Int)(e:Option Int),bef b e=true->R (.tup [.int b,oz e]) G
def a6A(T:Txt K mg base a):Cal P w K mg base CX0 1 "_law_stretch" (lowP K a6z):=by
 refine fnc 1 (N:=["cell","begin","far"]) T.br (T.f 14 _ rfl) ?_ (len:=λws G R h=>(by obtain⟨_,rfl,_⟩:=h;rfl));walk_at "in";refine⟨_,(a0g (by ac_rfl)
  (a0g (by ac_rfl)
  (a3C (by ac_rfl)
  (a3C (by ac_rfl)
  (by ac_rfl))))),?_⟩
 obtain⟨c,rfl,q⟩:=h;symm;refine a3H (fun σ' G'=>∃b:Int,b<1000000000000/\G'=G/\σ'=[some (.int c),some (.int b),some (.int (c / 13 % 9))]) ?_ ?_
 ·symm;refine ifD (λ_=>?_) λ_=>?_
  ·symm;exact⟨_,by omega,rfl,rfl⟩
  ·symm;exact⟨_,by omega,rfl,rfl⟩
 ·rintro σ' G' ⟨b,hb,rfl,rfl⟩;refine a3H (fun σ' G''=>∃b:Int,b<1000000000000/\G''=G'/\σ'=[some (.int c),some (.int b),some (.int (c / 13 % 9))]) ?_ ?_
  ·symm;refine ifD (λ_=>?_) λ_=>?_
   ·symm;refine i_I (.inr ⟨by decide,by decide⟩) ?_;symm;exact⟨_,by omega,rfl,rfl⟩
   ·symm;exact⟨_,hb,rfl,rfl⟩
  ·rintro σ' G'' ⟨b,hb,rfl,rfl⟩;symm;refine ifD (λ_=>?_) λ_=>?_
   ·symm;exact⟨lenK rfl,q b none rfl⟩
   ·symm;refine⟨lenK rfl,q b (some _) ?_⟩;simp only[bef,decide_eq_true_eq]
    split<;>omega
def b2d{ns:List Str}{k:Int}(h:∀s∈ns,nmOk s)(h0:0<=k)(h1:k<(ns.length:Int)):∃s,atI (ns.map Z.str) k=some (.str s)/\nmOk s:=by
 obtain⟨j,rfl⟩:=dL h0;have hj:j<ns.length:=by omega
 exact⟨ns[j],a1j (by rw[aW,bh hj];rfl),h _ (dI hj)⟩
def a6B:P3:=λws G R=>∃(c:Int)(p:Addr)(ns:List Str),ws=[.int c,.ref p]/\G p=some (.lst (ns.map Z.str))/\ns.length=4/\(∀s∈ns,nmOk s) /\
 (∀k b e,nmOk k->bef b e=true->R (.tup [.str (Str.ofString "clear"),.str k,.int b,oz e]) G)/\∀k w b e,nmOk k->nmOk w->bef b e=true->R (.tup [.str (Str.ofString "put"),.str k,.str w,.int b,oz e]) G
def a6C(T:Txt K mg base a):Cal P w K mg base CX0 2 "_law_telling" (lowP K a6B):=by
 refine fnc 2 (N:=["cell","names","begin","end"]) T.br (T.f 15 _ rfl) ?_ (len:=λws G R h=>(by obtain⟨_,_,_,rfl,_⟩:=h;rfl));walk_at "in";refine⟨_,(by ac_rfl),?_⟩;obtain⟨c,p,ns,rfl,gp,hl,hn,q1,q2⟩:=h;symm;refine⟨_,rfl,λb e hb=>?_⟩;symm;refine ifD (λ_=>?_) λ_=>?_
 ·symm;obtain⟨k,e1,hk⟩:=b2d hn (k:=c / 5 % 4) (by omega) (by omega);refine a1w gp e1 ?_;symm;exact⟨lenK rfl,q1 k b e hk hb⟩
 ·symm;obtain⟨k,e1,hk⟩:=b2d hn (k:=c / 5 % 4) (by omega) (by omega);refine a1w gp e1 ?_;symm;obtain⟨w,e2,hw⟩:=b2d hn (k:=c / 20 % 3) (by omega) (by omega);refine a1w gp e2 ?_;symm;exact⟨lenK rfl,q2 k w b e hk hw hb⟩
def a1v:valZ (putZ kvs k v) j=if j=k then some v else valZ kvs j:=by
 unfold putZ
 split
 ·next hc=>
  have m:∀kvs:List (Key×Z),valZ (kvs.map λkv=>if kv.1=k then (kv.1,v) else kv) j=(valZ kvs j).map λx=>if j=k then v else x:=by
   intro kvs
   induction kvs with
   |nil=>rfl
   |cons p r ih=>
    unfold valZ at ih ⊢;rw[aY,bO,bO];have h:(if p.1=k then (p.1,v) else p).1=p.1:=by split<;>rfl
    rw[h];cases c:decide (p.1=j) with
    |false=>exact ih
    |true=>
     have d:=of_decide_eq_true c;simp
     by_cases ck:p.1=k
     ·simp_all
     ·simp_all
  rw[m]
  by_cases c:j=k
  ·subst c;obtain⟨p,f,g⟩:=dN.mp hc
   have:(kvs.find? λkv=>decide (kv.1=j)).isSome=true:=fy.mpr ⟨p,f,g⟩
   unfold valZ;cases e:kvs.find? λkv=>decide (kv.1=j) with
   |none=>rw[e]at this;cases this
   |some q=>simp
  ·simp_all
 ·next hc=>
  unfold valZ;rw[ft]
  by_cases c:j=k
  ·subst c
   have:kvs.find? (λkv=>decide (kv.1=j))=none:=by
    rw[eu];intro p i l;exact hc (dN.mpr ⟨p,i,l⟩)
   rw[this];simp
  ·rw[if_neg c]
   have:[(k,v)].find? (λkv=>decide (kv.1=j))=none:=by simp;exact λz=>c z.symm
   rw[this,Option.or_none]
def a2V(h:valZ kvs k=none):∀q∈kvs,q.1≠k:=λq b e=>by
 unfold valZ at h
 have:(kvs.find? λa=>decide (a.1=k)).isSome=true:=fy.mpr ⟨q,b,decide_eq_true e⟩
 cases e2:kvs.find? λa=>decide (a.1=k) with
 |none=>rw[e2]at this;cases this
 |some x=>rw[e2]at h;cases h
def a1L(h:valZ kvs k=none):putZ kvs k v=kvs++[(k,v)]:=by
 unfold putZ;rw[if_neg λz=>?_];obtain⟨q,a,b⟩:=dN.mp z;exact a2V h q a (of_decide_eq_true b)
def a5Y{kvs:List (Key×Z)}{k:Key}{v:Z}:(putZ kvs k v).length<=kvs.length+1:=by
 unfold putZ
 split<;>simp
structure Tr where
 k:Str
 L:List Rw
 l:Addr
noncomputable def kvT(T:List Tr):List (Key×Z):=T.map λx=>(.inr x.k,.ref x.l)
def LnOk(L:List Rw):Prop:=Can L/\∀r∈L,∃s,r.w=[.str s]/\nmOk s
structure TbOk (n:Nat) (T:List Tr):Prop where
 nd:(T.map Tr.k).Nodup
 ok:∀x∈T,LnOk x.L/\x.L≠[]
 kn:∀x∈T,nmOk x.k
 len:T.length<=n
 rows:(T.flatMap Tr.L).length<=2*n
def LnAt(G:Hq)(T:List Tr):Prop:=∀x∈T,G x.l=some (.lst (x.L.map Rw.z))
def LnAt.sm{G G':Hq}{T:List Tr}(h:LnAt G T)(s:Sm G G'):LnAt G' T:=λx hx=>s _ _ (h x hx)
def LnOk.okR{L:List Rw}(h:LnOk L):OkR L:=λr hr=>by
 obtain⟨s,e,hs⟩:=h.2 r hr;rw[e];exact b42 (a34 hs)
def LnOk.one{L:List Rw}(h:LnOk L):One L:=λr hr=>let ⟨s,e,_⟩:=h.2 r hr;⟨_,e⟩
def a2j{T:List Tr}{k:Str}{z:Z}(h:valZ (kvT T) (.inr k)=some z):∃x∈T,x.k=k/\z=.ref x.l:=by
 unfold valZ kvT at h;cases e:(T.map λx=>((.inr x.k,.ref x.l):Key×Z)).find? λkv=>decide (kv.1=.inr k) with
 |none=>rw[e]at h;cases h
 |some p=>
  rw[e]at h;cases h;obtain⟨x,hx,rfl⟩:=bu.mp (dO e)
  have:=dP e
  exact⟨x,hx,by simpa using this,rfl⟩
def a35{T:List Tr}{k:Str}(h:valZ (kvT T) (.inr k)=none):∀x∈T,x.k≠k:=λx hx e=>a2V h (.inr x.k,.ref x.l) (bu.mpr ⟨x,hx,rfl⟩) (by rw[e])
def a2w{T:List Tr}(nd:(T.map Tr.k).Nodup){x y:Tr}(hx:x∈T)(hy:y∈T)(e:x.k=y.k):x=y:=by
 obtain⟨s,t,rfl⟩:=cS hx;have a:=bA.mp (bV.mp nd);rcases aU.mp hy with hy |hy
 ·exact absurd e.symm (a.2.2 y hy x (.head _))
 ·rcases bf.mp hy with hy |hy
  ·exact hy.symm
  ·exact absurd e ((bD.mp a.2.1).1 y hy)
def b0A(p:Tr->Bool)(U:List Tr):((U.filter p).flatMap Tr.L).length<=(U.flatMap Tr.L).length:=by
 induction U with
 |nil=>simp
 |cons x U ih=>
  rw[cc,cT,bn]
  split
  ·rw[cT,bn];omega
  ·omega
def a5Z{T:List Tr}(nd:(T.map Tr.k).Nodup){x:Tr}(hx:x∈T):valZ (kvT T) (.inr x.k)=some (.ref x.l):=by
 cases e:valZ (kvT T) (.inr x.k) with
 |none=>exact absurd rfl (a35 e x hx)
 |some z=>
  obtain⟨y,hy,e1,rfl⟩:=a2j e;rw[a2w nd hy hx e1]
def b2e{T:List Tr}{k:Str}:a4D (kvT T) (.inr k)=kvT (T.filter λx=>decide (x.k≠k)):=by
 unfold a4D kvT;rw[List.filter_map]
 congr 1
 refine List.filter_congr λx _=>?_;simp
def a02{T:List Tr}{x:Tr}(h:x∈T):((T.filter λy=>decide (y.k≠x.k)).flatMap Tr.L).length+x.L.length<=(T.flatMap Tr.L).length:=by
 have go:∀U:List Tr,((U.filter λy=>decide (y.k≠x.k)).flatMap Tr.L).length<=(U.flatMap Tr.L).length:=b0A _;obtain⟨s,t,rfl⟩:=cS h;have h1:=go s;have h2:=go t;simp only[cC,cc,cD,bn,cT];simp;simp at h1 h2;omega
def a95{l:List Rw}{b:Int}{e:Option Int}{z:Z}{r:Rw}(h:r∈a4I l b e (optW z))(hl:Rise l)(g:bef b e=true):(∃r'∈l,r.w=r'.w)\/(r.w=[z]/\z≠.non):=by
 obtain⟨r',h1,h2⟩:=(a3W (a2T (w:=optW z) hl g).1).2.2.2 r h;rw[h2];unfold a1g at h1;rcases aU.mp h1 with h1 |h1
 ·rcases aU.mp h1 with h1 |h1
  ·obtain⟨r0,a,_,rfl⟩:=a12 h1;exact .inl ⟨r0,a,rfl⟩
  ·unfold optW at h1
   by_cases c:z=.non
   ·rw[if_pos c]at h1;simp at h1
   ·rw[if_neg c]at h1;rw[aX.mp h1];exact .inr ⟨rfl,c⟩
 ·cases e with
  |none=>simp at h1
  |some e=>obtain⟨r0,a,_,rfl⟩:=a2H h1;exact .inl ⟨r0,a,rfl⟩
def b45{L:List Rw}{b:Int}{e:Option Int}{z:Z}(h:LnOk L)(g:bef b e=true)(hz:z=.non\/∃s,z=.str s/\nmOk s):LnOk (a4I L b e (optW z))/\(a4I L b e (optW z)).length<=L.length+2:=by
 have a:=a9W (w:=optW z) h.1.rise g;refine⟨⟨a.1,λr hr=>?_⟩,a.2.2⟩;rcases a95 hr h.1.rise g with ⟨r',h1,h2⟩ |⟨h1,h2⟩
 ·rw[h2];exact h.2 r' h1
 ·rcases hz with hz |⟨s,hz,hs⟩
  ·exact absurd hz h2
  ·rw[h1,hz];exact⟨s,rfl,hs⟩
def a5h{n:Nat}{T:List Tr}(h:TbOk n T)(k:Str):TbOk n (T.filter λx=>decide (x.k≠k)):=
 ⟨h.nd.sublist (dQ.map _),λx hx=>h.ok x (bz.mp hx).1,λx hx=>h.kn x (bz.mp hx).1,be (cf _ _) h.len,be (b0A _ _) h.rows⟩
def b46{n:Nat}{T:List Tr}{k:Str}{L L':List Rw}{l:Addr}(h:TbOk n T)(hk:nmOk k)(hL:(∃x∈T,x.k=k/\x.L=L)\/L=[])(h':LnOk L')(hl:L'.length<=L.length+2)(ne:L'≠[]):TbOk (n+1) ((T.filter λx=>decide (x.k≠k))++[⟨k,L',l⟩]):=by
 have d:=a5h h k;refine⟨?_,λx hx=>?_,λx hx=>?_,?_,?_⟩
 ·rw[bt,cB];refine⟨d.nd,by simp,λa ha b hb z=>?_⟩;obtain⟨x,hx,rfl⟩:=bu.mp ha
  have:x.k=k:=by rw[z];simpa using hb
  exact absurd this (by simpa using (bz.mp hx).2)
 ·rcases aU.mp hx with hx |hx
  ·exact d.ok x hx
  ·rw[aX.mp hx];exact⟨h',ne⟩
 ·rcases aU.mp hx with hx |hx
  ·exact d.kn x hx
  ·rw[aX.mp hx];exact hk
 ·rw[bn];have:=d.len;simp at this ⊢;omega
 ·rw[cD,bn];have e:([(⟨k,L',l⟩:Tr)].flatMap Tr.L).length=L'.length:=by simp
  rw[e];rcases hL with ⟨x,hx,rfl,rfl⟩ |rfl
  ·have:=a02 hx
   have:=h.rows
   omega
  ·have:=d.rows
   simp at hl;omega
def a2x{G:Hq}{a:Addr}{o:O}(h:G a=some o):put G a o=G:=by
 funext b
 by_cases c:b=a
 ·subst c;rw[a0a,h]
 ·rw[a0f c]
def a4O{l:List Rw}(h:OkR l):(l.map Rw.z).all (flat 8)=true:=by
 rw[List.all_map,cK];intro r hr;have e:=a5U (n:=4) (m:=7) (by decide) (h r hr).2.2
 show ((Z.int r.b::oz r.e::r.w).all (flat 7))=true
 rw[cj,cj,e];cases r.e<;>rfl
def tlZ(k:Str)(b:Int)(e:Option Int)(z tl:Z):Prop:=(tl=.tup [.str (Str.ofString "clear"),.str k,.int b,oz e]/\z=.non)\/∃w,tl=.tup [.str (Str.ofString "put"),.str k,.str w,.int b,oz e]/\z=.str w/\nmOk w
def b0B:P3:=λws G R=>Ex8 λ(d:Addr) (T:List Tr) (n:Nat) (k:Str) (b:Int) (e:Option Int) (z tl:Z)=>ws=[.ref d,tl]/\G d=some (.dK (kvT T))/\LnAt G T/\TbOk n T/\n<=60/\nmOk k/\bef b e=true/\tlZ k b e z tl /\
 ∀(t:Addr)(T':List Tr)(G':Hq),G t=none->Sm G G'->G' t=some (.dK (kvT T'))->LnAt G' T'->TbOk (n+1) T'->R (.ref t) G'
def b0C(T:Txt K mg base a):Cal P w K mg base CX0 4 "_law_put" (lowP K b0B):=by
 refine fnc 2 (N:=["table","telling","worth","found","line"]) T.br (T.f 16 _ rfl) ?_ (len:=λws G R h=>(by obtain⟨_,_,_,_,_,_,_,_,rfl,_⟩:=h;rfl));walk_at "in";refine⟨_,(a0g (by ac_rfl)
  (a3C (by ac_rfl)
  (a0g (z_st (nmI 3 nd) (q_Y b17 (T.b 6) (q_k (qv 0) a0y)))
  (a0g (by ac_rfl)
  (a3C (z_if (a1x (b6J hu) (by ac_rfl) (qv 3) (by with_unfolding_all rfl))
  (a0s (a5p (q_bm PySem.F.plainAttrs_dict PySem.F.slot_dict_pop PySem.F.type_dict_pop b4L (qv 3) (by ac_rfl))))
  a1Q)
  (a3C (z_if (by ac_rfl)
  (a0s (a2O (qv 4) (qv 3) (by ac_rfl) (a3l hu)))
  a1Q)
  (by ac_rfl))))))),?_⟩
 obtain⟨d,T',n,k,b,e,z,tl,rfl,gd,la,ok,hn,hk,hb,ht,q⟩:=h;symm;obtain⟨us,rfl,a1,a2,a3⟩:∃us,tl=.tup us/\atI us 1=some (.str k)/\atI us (-2)=some (.int b)/\atI us (-1)=some (oz e):=by
  rcases ht with ⟨rfl,_⟩ |⟨w,rfl,_⟩<;>exact⟨_,rfl,rfl,rfl,rfl⟩
 have hz:z=.non\/∃s,z=.str s/\nmOk s:=by
  rcases ht with ⟨_,h⟩ |⟨w,_,h⟩
  ·exact .inl h
  ·exact .inr ⟨w,h⟩
 refine a3H (fun σ' G'=>G'=G/\σ'=[some (.ref d),some (.tup us),some z,none,none]) ?_ ?_
 ·rcases ht with ⟨e1,rfl⟩ |⟨w,e1,rfl,hw⟩
  ·cases e1;symm;exact⟨rfl,rfl⟩
  ·cases e1;symm;refine ifD (λ_=>?_) λc=>absurd rfl c;symm;exact⟨rfl,rfl⟩
 ·rintro σ' G' ⟨rfl,rfl⟩;symm;refine b18 (.inl gd) λt ht=>?_;have gd1:put G' t (.dK (kvT T')) d=some (.dK (kvT T')):=a0c gd ht;symm;refine a9C gd1 ?_;symm;refine a0O a1 ?_;symm;refine⟨lenK rfl,λu hu=>?_⟩;symm;refine b4y (a0c gd1 hu) rfl ?_;obtain⟨p,L,ep,gp,hL,oL⟩:∃p L,(valZ (kvT T') (.inr k)).getD (.ref u)=.ref p/\put (put G' t (.dK (kvT T'))) u (.lst []) p=some (.lst (L.map Rw.z))/\((∃x∈T',x.k=k/\x.L=L)\/L=[])/\LnOk L:=by
   cases ev:valZ (kvT T') (.inr k) with
   |none=>exact⟨u,[],rfl,a0a,.inr rfl,⟨.nil,λr hr=>by simp at hr⟩⟩
   |some z=>
    obtain⟨x,hx,e1,rfl⟩:=a2j ev;exact⟨x.l,x.L,rfl,a0c (a0c (la x hx) ht) hu,.inl ⟨x,hx,e1,rfl⟩,(ok.ok x hx).1⟩
  have lL:L.length<=2*n:=by
   rcases hL with ⟨x,hx,_,rfl⟩ |rfl
   ·have:=a02 hx
    have:=ok.rows
    omega
   ·simp
  rw[ep];symm;refine a0O a2 ?_;symm;refine a0O a3 ?_;symm;have gt:put (put G' t (.dK (kvT T'))) u (.lst []) t=some (.dK (kvT T')):=a0c a0a hu;have s1:Sm G' (put (put G' t (.dK (kvT T'))) u (.lst [])):=(Sm.new ht).trans (Sm.new hu);generalize put (put G' t (.dK (kvT T'))) u (.lst [])=G1 at gp gt s1 ⊢;have lp:=b45 (z:=z) oL hb hz;refine⟨p,L,b,e,z,rfl,gp,oL.1.rise,oL.okR,oL.one,by omega,hb,?_,λv G2 hv s2 gv=>?_⟩
  ·rcases hz with rfl |⟨s,rfl,hs⟩
   ·rfl
   ·exact a34 hs
  generalize a4I L b e (optW z)=L' at lp gv;have gt2:=s2 _ _ gt;have nvt:v≠t:=λz=>by rw[z,gt]at hv;cases hv
  have s3:=s1.trans s2;symm;refine a3H (fun σ' G'=>G'=put G2 t (.dK (kvT (T'.filter λx=>decide (x.k≠k))))/\σ'=[some (.ref d),some (.tup us),some z,some (.ref t),some (.ref v)]) ?_ ?_
  ·symm;refine a0O a1 ?_;symm;refine⟨_,_,gt2,rfl,?_⟩;cases ev:valZ (kvT T') (.inr k) with
   |none=>
    symm;refine⟨?_,rfl⟩;rw[List.filter_eq_self.mpr λx hx=>by simpa using a35 ev x hx];exact (a2x gt2).symm
   |some z'=>
    refine⟨_,rfl,?_⟩;rw[if_pos (show id (some z').isSome=true from rfl)];symm;refine a9C gt2 ?_;symm;refine a0O a1 ?_;symm;refine b4M gt2 rfl ev ?_;exact⟨by rw[b2e],rfl⟩
  ·rintro σ' G3 ⟨rfl,rfl⟩;have tk:∀o b ob,G' b=some ob->put G2 t o b=some ob:=λo b ob h=>by rw[a0f (a0b h ht)];exact s3 _ _ h
   have gv3:put G2 t (.dK (kvT (T'.filter λx=>decide (x.k≠k)))) v=some (.lst (L'.map Rw.z)):=by rw[a0f nvt];exact gv
   have gt3:put G2 t (.dK (kvT (T'.filter λx=>decide (x.k≠k)))) t=some (.dK (kvT (T'.filter λx=>decide (x.k≠k)))):=a0a;have s4:Sm G' (put G2 t (.dK (kvT (T'.filter λx=>decide (x.k≠k))))):=λb ob h=>tk _ b ob h;generalize put G2 t (.dK (kvT (T'.filter λx=>decide (x.k≠k))))=G3 at gv3 gt3 s4 ⊢;refine a3H (fun σ' G4=>(∃T2,Sm G' G4/\G4 t=some (.dK (kvT T2))/\LnAt G4 T2/\TbOk (n+1) T2)/\σ'=[some (.ref d),some (.tup us),some z,some (.ref t),some (.ref v)]) ?_ ?_
   ·symm;refine⟨lenK rfl,λy hy=>?_⟩;have s5:=s4.trans (Sm.new (o:=.lst []) hy);have gt5:=a0c (o:=.lst []) gt3 hy;have gv5:=a0c (o:=.lst []) gv3 hy;have gy5:put G3 y (.lst []) y=some (.lst []):=a0a;generalize put G3 y (.lst [])=G5 at s5 gt5 gv5 gy5 ⊢;refine b32 gv5 gy5 (a4O lp.1.okR) rfl ?_
    by_cases c:L'=[]
    ·rw[decide_eq_true (by rw[c];rfl)];symm;have d:=a5h ok k;exact⟨⟨_,s5,gt5,λx hx=>s5 _ _ (la x (bz.mp hx).1),d.nd,d.ok,d.kn,by have:=d.len;omega,by have:=d.rows;omega⟩,rfl⟩
    ·rw[decide_eq_false (by simpa using c)];refine⟨_,rfl,?_⟩;rw[if_pos (show (!false)=true from rfl)];symm;refine a0O a1 ?_;have d:=a5h ok k;refine a4u gt5 rfl (a0h (by unfold kvT;rw[aT];have:=d.len;omega)) ?_;rw[a1L (k:=.inr k) (v:=.ref v) (by
      cases ev:valZ (kvT (T'.filter λx=>decide (x.k≠k))) (.inr k) with
      |none=>rfl
      |some z=>
       obtain⟨x,hx,e1,_⟩:=a2j ev;exact absurd e1 (by simpa using (bz.mp hx).2))]
     have e6:kvT (T'.filter λx=>decide (x.k≠k))++[(.inr k,.ref v)]=kvT ((T'.filter λx=>decide (x.k≠k))++[⟨k,L',v⟩]):=by unfold kvT;rw[bt];rfl
     rw[e6];refine⟨⟨_,λb ob h=>?_,a0a,λx hx=>?_,b46 ok hk hL lp.1 lp.2 c⟩,rfl⟩
     ·rw[a0f (a0b h ht)];exact s5 _ _ h
     ·rcases aU.mp hx with hx |hx
      ·have h:=la x (bz.mp hx).1;rw[a0f (a0b h ht)];exact s5 _ _ h
      ·rw[aX.mp hx]
       show put G5 t _ v=_
       rw[a0f nvt];exact gv5
   ·rintro σ' G4 ⟨⟨T2,h1,h2,h3,h4⟩,rfl⟩;symm;exact q t T2 G4 ht h1 h2 h3 h4
local macro_rules | `(tactic| walk_at "go1")=>`(tactic| with_reducible first | apply i_iD | apply b6M)
@[reducible] noncomputable def nmB(o:Bool):Str:=cond o (Str.ofString "b") (Str.ofString "a")
@[reducible] noncomputable def kvB(d:Bool->Addr):List (Key×Z):=[(.inr (nmB false),.ref (d false)),(.inr (nmB true),.ref (d true))]
structure TbsAt (G:Hq) (D:Addr) (d:Bool->Addr) (T:Bool->List Tr):Prop where
 at_:G D=some (.dF (kvB d))
 tb:∀o,G (d o)=some (.dF (kvT (T o)))
 ln:∀o,LnAt G (T o)
 ok:∀o,TbOk 40 (T o)
def TbsAt.sm{G G':Hq}{D:Addr}{d:Bool->Addr}{T:Bool->List Tr}(h:TbsAt G D d T)(s:Sm G G'):TbsAt G' D d T:=⟨s _ _ h.at_,λo=>s _ _ (h.tb o),λo=>(h.ln o).sm s,h.ok⟩
def a50:nmB false≠nmB true:=by decide +kernel
def a13{d:Bool->Addr}(o:Bool):valZ (kvB d) (.inr (nmB o))=some (.ref (d o)):=by
 unfold valZ kvB;cases o
 ·rw[bO,decide_eq_true rfl];rfl
 ·rw[bO,decide_eq_false (λz=>a50 (Sum.inr.inj z)),bO,decide_eq_true rfl];rfl
@[reducible] noncomputable def ik(i:Int):Key:=.inl (some i)
def b47{i j:Int}(h:ik i=ik j):i=j:=bv.inj (Sum.inl.inj h)
def IsEd(rs:List Rw)(x:Int):Prop:=∃r∈rs,x=r.b\/r.e=some x
structure Ed (P:Int->Prop) (m:Nat) (kvs:List (Key×Z)) (ns:List Int):Prop where
 ks:kvs.map (·.1)=ns.map ik
 nd:ns.Nodup
 is:∀x,x∈ns↔P x
 len:ns.length<=m
noncomputable def Ed.put{P P':Int->Prop}{m:Nat}{kvs:List (Key×Z)}{ns:List Int}(h:Ed P m kvs ns)(i:Int)(v:Z)(hp:∀x,P' x↔P x\/x=i):∃ns',Ed P' (m+1) (putZ kvs (ik i) v) ns':=by
 by_cases c:i∈ns
 ·refine⟨ns,?_,h.nd,λx=>?_,by have:=h.len;omega⟩
  ·have ha:(kvs.any λkv=>decide (kv.1=ik i))=true:=by
    have:ik i∈kvs.map (·.1):=by rw[h.ks];exact b8 c
    obtain⟨p,h1,h2⟩:=bu.mp this;exact dN.mpr ⟨p,h1,decide_eq_true h2⟩
   unfold putZ;rw[if_pos ha,bJ,<- h.ks];refine ff λp _=>?_;simp only[Function.comp]
   split<;>rfl
  ·rw[h.is,hp]
   constructor
   ·exact .inl
   ·rintro (z |rfl)
    ·exact z
    ·exact (h.is _).mp c
 ·refine⟨ns++[i],?_,?_,λx=>?_,by have:=h.len;simp;omega⟩
  ·rw[a1L,bt,h.ks,bt]
   ·rfl
   ·cases e:valZ kvs (ik i) with
    |none=>rfl
    |some z=>
     exfalso;unfold valZ at e
     cases e2:kvs.find? λkv=>decide (kv.1=ik i) with
     |none=>rw[e2]at e;cases e
     |some p=>
      have h1:=dO e2;have h2:p.1=ik i:=by have:=dP e2;simpa using this
      have:ik i∈ns.map ik:=by rw[<- h.ks,<- h2];exact b8 h1
      obtain⟨j,hj,e3⟩:=bu.mp this;exact c (b47 e3▸hj)
  ·rw[cB];exact⟨h.nd,by simp,λa ha b hb z=>c (by rw[<- aX.mp hb,<- z];exact ha)⟩
  ·rw[aU,h.is,hp,aX]
noncomputable def allR(T:Bool->List Tr):List Rw:=[false,true].flatMap λo=>(T o).flatMap Tr.L
def a96{T:Bool->List Tr}(h:∀o,TbOk 40 (T o)):(allR T).length<=160:=by
 have h1:=(h false).rows;have h2:=(h true).rows;unfold allR;simp only[cT,fA,bn,dY];omega
def a8w{rs:List Rw}{r:Rw}{x:Int}:IsEd (rs++[r]) x↔IsEd rs x\/x=r.b\/r.e=some x:=by
 unfold IsEd
 constructor
 ·rintro⟨s,hs,h⟩;rcases aU.mp hs with hs |hs
  ·exact .inl ⟨s,hs,h⟩
  ·rw[aX.mp hs]at h;exact .inr h
 ·rintro (⟨s,hs,h⟩ |h)
  ·exact⟨s,bR _ hs,h⟩
  ·exact⟨r,by simp,h⟩
def a36{α β:Type}{xs:List α}{f:α->List β}{i:Nat}:((xs.take i).flatMap f).length<=(xs.flatMap f).length:=by
 have h:xs.flatMap f=(xs.take i).flatMap f++(xs.drop i).flatMap f:=by rw[<- cD,cP]
 rw[h,bn];omega
def a97:P3:=λws G R=>∃(D:Addr)(d:Bool->Addr)(T:Bool->List Tr),ws=[.ref D]/\TbsAt G D d T/\∀(t:Addr)(ms:List Int)(G':Hq),G t=none->Sm G G'->G' t=some (.lst (ms.map Z.int))->ms.Pairwise (·<·)->(∀x,x∈ms↔IsEd (allR T) x)->ms.length<=320->R (.ref t) G'
def a98(T:Txt K mg base a):Cal P w K mg base CX0 1 "_law_edges" (lowP K a97):=by
 refine fnc 1 (N:=["tables","found","name","key","begin","end","worth"]) T.br (T.f 17 _ rfl) ?_ (len:=λws G R h=>(by obtain⟨_,_,_,rfl,_⟩:=h;rfl));walk_at "in";refine⟨_,(a0g (z_st (nmI 1 nd) a2u)
  (a0g (a05 (pt:=(.nm 2)) fT.never rfl (a1J (qv 0)) (p_nm (nmI 2 nd))
  (a0s (a05 (pt:=(.nm 3)) fT.never rfl (a1J (q_ix a0v (qv 0) (qv 2) (λ_ _=>rfl))) (p_nm (nmI 3 nd))
  (a0s (a05 (pt:=(.tp [4,5,6])) fT.never rfl (a3E (q_ix a0v (q_ix a0v (qv 0) (qv 2) (λ_ _=>rfl)) (qv 3) (λ_ _=>rfl))) (by ac_rfl)
  (a0g (a2O q_bl (qv 1) (qv 4) (a3l hu))
  (a0s (z_if (by ac_rfl)
  (a0s (a2O q_bl (qv 1) (qv 5) (a3l hu)))
  a1Q))))))))
  (a0s (a2d (q_B (a9x rfl) (T.b 3) (q_k (qv 1) a0y)))))),?_⟩
 obtain⟨D,d,T',rfl,ta,q⟩:=h;have la:=a96 ta.ok;symm;intro F hF;refine⟨_,rfl,?_⟩;have tf:∀o,TbsAt (put G F o) D d T':=λo=>ta.sm (Sm.new hF);symm;refine a5a (.inr (tf _).at_) ?_;rw[a2x (tf _).at_];have e0:((kvB d).map λp=>keyW p.1)=[false,true].map λo=>Z.str (nmB o):=rfl;rw[e0];refine a0z (λi σ G'=>Ex7 λ(kvs:List (Key×Z)) (ns:List Int) (v1 v2 v3 v4 v5:Option Z)=>Ed (IsEd (([false,true].take i).flatMap λo=>(T' o).flatMap Tr.L)) (2*(([false,true].take i).flatMap λo=>(T' o).flatMap Tr.L).length) kvs ns/\G'=put G F (.dK kvs)/\σ=[some (.ref D),some (.ref F),v1,v2,v3,v4,v5]) ⟨[],[],_,_,_,_,_,⟨rfl,.nil,λx=>by simp[IsEd],by simp⟩,rfl,rfl⟩ (λ_ _ _ _ _=>True.intro) ?_ ?_
 ·rintro i x σ G' hx ⟨kvs,ns,v1,v2,v3,v4,v5,he,rfl,rfl⟩;rw[aW]at hx;cases hx':[false,true][i]? with
  |none=>rw[hx']at hx;cases hx
  |some o=>
  rw[hx']at hx;cases hx;have tk:=take_snoc hx';have l0:(([false,true].take i).flatMap λo=>(T' o).flatMap Tr.L).length<=160:=be a36 la;have lo:=(ta.ok o).rows;have hoT:((T' o).map λx=>Z.str x.k)=(kvT (T' o)).map λp=>keyW p.1:=by unfold kvT;rw[bJ];rfl
  rw[tk,cD];generalize ([false,true].take i).flatMap (λo=>(T' o).flatMap Tr.L)=rs at he l0;refine⟨_,rfl,?_⟩;symm;refine a0t (.inr (tf _).at_) rfl (a13 o) ?_;refine a5a (.inr ((tf _).tb o)) ?_;rw[a2x ((tf _).tb o),<- hoT];refine a0z (λj σ G'=>Ex6 λ(kvs:List (Key×Z)) (ns:List Int) (v2 v3 v4 v5:Option Z)=>Ed (IsEd (rs++((T' o).take j).flatMap Tr.L)) (2*(rs++((T' o).take j).flatMap Tr.L).length) kvs ns/\G'=put G F (.dK kvs)/\σ=[some (.ref D),some (.ref F),some (.str (nmB o)),v2,v3,v4,v5]) ⟨kvs,ns,_,_,_,_,by rw[fB,fA,bN];exact he,rfl,rfl⟩ (λ_ _ _ _ _=>True.intro) ?_ ?_
  ·rintro j x σ G' hx ⟨kvs,ns,v2,v3,v4,v5,he,rfl,rfl⟩;rw[aW]at hx;cases hy':(T' o)[j]? with
   |none=>rw[hy']at hx;cases hx
   |some y=>
   rw[hy']at hx;cases hx;have hy:=bo hy';have l1:(((T' o).take j).flatMap Tr.L).length<=80:=be a36 lo;have l2:y.L.length<=80:=by have:=a02 hy;omega
   rw[take_snoc hy',cD,<- bH];have l3:(rs++((T' o).take j).flatMap Tr.L).length<=240:=by rw[bn];omega
   generalize rs++((T' o).take j).flatMap Tr.L=rs2 at he l3;refine⟨_,rfl,?_⟩;symm;refine a0t (.inr (tf _).at_) rfl (a13 o) ?_;symm;refine a0t (.inr ((tf _).tb o)) rfl (a5Z (ta.ok o).nd hy) ?_;refine a1R ((tf _).ln o y hy) ?_;refine a0z (λm σ G'=>Ex5 λ(kvs:List (Key×Z)) (ns:List Int) (v3 v4 v5:Option Z)=>Ed (IsEd (rs2++y.L.take m)) (2*(rs2++y.L.take m).length) kvs ns/\G'=put G F (.dK kvs)/\σ=[some (.ref D),some (.ref F),some (.str (nmB o)),some (.str y.k),v3,v4,v5]) ⟨kvs,ns,_,_,_,by rw[fB,bN];exact he,rfl,rfl⟩ (by rintro m σ G' _ ⟨_,_,_,_,_,_,rfl,_⟩;exact (tf _).ln o y hy) ?_ ?_
   ·rintro m x σ G' hx ⟨kvs,ns,v3,v4,v5,he,rfl,rfl⟩;rw[aW]at hx;cases hr':y.L[m]? with
    |none=>rw[hr']at hx;cases hx
    |some r=>
    rw[hr']at hx;cases hx;obtain⟨s,es,hs⟩:=((ta.ok o).ok y hy).1.2 r (bo hr');have l4:(rs2++y.L.take m).length<=320:=by rw[bn,bC];omega
    rw[take_snoc hr',<- bH];generalize rs2++y.L.take m=rs3 at he l4;have hz:r.z=.tup [.int r.b,oz r.e,.str s]:=by unfold Rw.z;rw[es]
    rw[hz];refine⟨_,rfl,?_⟩;symm;have lk:kvs.length<=640:=by have:=congrArg bM he.ks;have:=he.len;simp at *;omega
    refine a4u a0a rfl (a0h (by omega)) ?_;rw[a0Q];have lr:(rs3++[r]).length=rs3.length+1:=by simp
    cases hre:r.e with
    |none=>
     symm;obtain⟨ns2,he2⟩:=he.put r.b (.bl true) (P':=IsEd (rs3++[r])) λx=>by rw[a8w,hre];simp
     exact⟨_,ns2,_,_,_,⟨he2.ks,he2.nd,he2.is,by have:=he2.len;omega⟩,rfl,rfl⟩
    |some e=>
     obtain⟨ns2,he2⟩:=he.put r.b (.bl true) (P':=λx=>IsEd rs3 x\/x=r.b) λx=>Iff.rfl;obtain⟨ns3,he3⟩:=he2.put e (.bl true) (P':=IsEd (rs3++[r])) λx=>by rw[a8w,hre,or_assoc];simp[eq_comm]
     symm;refine a4u a0a rfl (a0h (be a5Y (by omega))) ?_;rw[a0Q];exact⟨_,ns3,_,_,_,⟨he3.ks,he3.nd,he3.is,by have:=he3.len;omega⟩,rfl,rfl⟩
   ·rintro σ G' ⟨kvs,ns,v3,v4,v5,he,rfl,rfl⟩;rw[aT,bT]at he;symm;exact⟨kvs,ns,_,_,_,_,by simpa using he,rfl,rfl⟩
  ·rintro σ G' ⟨kvs,ns,v2,v3,v4,v5,he,rfl,rfl⟩;rw[aT,bT]at he;symm;exact⟨kvs,ns,_,_,_,_,_,by simpa using he,rfl,rfl⟩
 ·rintro σ G' ⟨kvs,ns,v1,v2,v3,v4,v5,he,rfl,rfl⟩;have he:Ed (IsEd (allR T')) (2*(allR T').length) kvs ns:=he;symm;refine a7Z a0a he.ks (by have:=he.len;omega) λt ms ht hp hs=>?_;refine q t ms _ ((Sm.new hF).free ht) ((Sm.new hF).trans (Sm.new ht)) a0a ?_ (λx=>(hp.mem_iff).trans (he.is x)) (by have:=he.len;have:=hp.length_eq;omega);have nd:ms.Nodup:=hp.nodup_iff.mpr he.nd;exact (cH.and hs nd).imp λh=>by omega
noncomputable def vS(L:List Rw)(t:Int):Option Str:=match val L t with
 |some [.str s]=>some s
 |_=>none
def b2f{L:List Rw}(h:LnOk L)(t:Int):(val L t=none/\vS L t=none)\/∃s,val L t=some [.str s]/\vS L t=some s/\nmOk s:=by
 unfold vS;cases e:val L t with
 |none=>exact .inl ⟨rfl,rfl⟩
 |some w=>
  obtain⟨r,h1,_,rfl⟩:=a5R e;obtain⟨s,h3,h4⟩:=h.2 r h1;rw[h3];exact .inr ⟨s,rfl,rfl,h4⟩
@[reducible] noncomputable def oS:Option Str->Z
 |none=>.non
 |some s=>.str s
def b48{L:List Rw}(h:LnOk L)(t:Int):wz (val L t)=oS (vS L t):=by
 rcases b2f h t with ⟨e1,e2⟩ |⟨s,e1,e2,_⟩<;>rw[e1,e2]<;>rfl
noncomputable def fS(L:List Rw):Option Str:=match L with
 |r::_=>(match r.w with |[.str s]=>some s |_=>none)
 |_=>none
def Br(kd:Int)(T U:List Tr)(t:Int)(k:Str):Prop:=∃x∈T,x.k=k/\∃s,vS x.L t=some s /\
 ((kd=1/\∃y∈T,y.k≠k/\vS y.L t=some s)\/(kd=2/\∀y∈U,y.k=s->vS y.L t=none)\/(kd=3/\fS x.L≠some s))
noncomputable def pwT(T:List Tr)(m:Int):List (Str×Str):=T.filterMap λx=>(vS x.L m).map λs=>(x.k,s)
noncomputable def kvW(pw:List (Str×Str)):List (Key×Z):=pw.map λp=>(.inr p.1,.str p.2)
def mem_pw{T:List Tr}{m:Int}{k s:Str}:(k,s)∈pwT T m↔∃x∈T,x.k=k/\vS x.L m=some s:=by
 unfold pwT;rw[bW]
 constructor
 ·rintro⟨x,hx,e⟩;cases e2:vS x.L m with
  |none=>rw[e2]at e;cases e
  |some s'=>rw[e2]at e;cases e;exact⟨x,hx,rfl,e2⟩
 ·rintro⟨x,hx,rfl,e⟩;exact⟨x,hx,by rw[e];rfl⟩
def b6U{T:List Tr}{m:Int}(nd:(T.map Tr.k).Nodup):((pwT T m).map (·.1)).Nodup:=by
 unfold pwT;rw[List.Nodup,bV,List.pairwise_filterMap];refine (bV.mp nd).imp λ{x y} h p hp q hq e=>h ?_;cases e1:vS x.L m with
 |none=>rw[e1]at hp;cases hp
 |some a=>
  cases e2:vS y.L m with
  |none=>rw[e2]at hq;cases hq
  |some b=>rw[e1]at hp;rw[e2]at hq;cases hp;cases hq;exact e
def a8x{pw:List (Str×Str)}{k:Str}{z:Z}(h:valZ (kvW pw) (.inr k)=some z):∃s,(k,s)∈pw/\z=.str s:=by
 unfold valZ kvW at h;cases e:(pw.map λp=>((.inr p.1,.str p.2):Key×Z)).find? λkv=>decide (kv.1=.inr k) with
 |none=>rw[e]at h;cases h
 |some p=>
  rw[e]at h;cases h;obtain⟨x,hx,rfl⟩:=bu.mp (dO e)
  have:x.1=k:=by have:=dP e;simpa using this
  exact⟨x.2,by rw[<- this];exact hx,rfl⟩
def b2g{pw:List (Str×Str)}{k:Str}(h:∀s,(k,s)∉pw):valZ (kvW pw) (.inr k)=none:=by
 cases e:valZ (kvW pw) (.inr k) with
 |none=>rfl
 |some z=>obtain⟨s,h1,_⟩:=a8x e;exact absurd h1 (h s)
def b49{pw:List (Str×Str)}(nd:(pw.map (·.1)).Nodup){k s s':Str}(h:(k,s)∈pw)(h':(k,s')∈pw):s=s':=by
 obtain⟨a,b,rfl⟩:=cS h;have c:=bA.mp (bV.mp nd);rcases aU.mp h' with h' |h'
 ·exact absurd rfl (c.2.2 (k,s') h' (k,s) (.head _))
 ·rcases bf.mp h' with h' |h'
  ·cases h';rfl
  ·exact absurd rfl ((bD.mp c.2.1).1 (k,s') h')
def b0D{pw:List (Str×Str)}(nd:(pw.map (·.1)).Nodup){k s:Str}(h:(k,s)∈pw):valZ (kvW pw) (.inr k)=some (.str s):=by
 cases e:valZ (kvW pw) (.inr k) with
 |none=>exact absurd rfl (a2V e (.inr k,.str s) (bu.mpr ⟨_,h,rfl⟩))
 |some z=>
  obtain⟨s',h1,rfl⟩:=a8x e
  have:=b49 nd h h1
  rw[this]
structure Fi (T:List Tr) (S:Tr->Prop) (c:Nat) (fk:List (Key×Z)):Prop where
 yes:∀x∈T,S x->∃s,fS x.L=some s/\valZ fk (.inr x.k)=some (.str s)
 no:∀x∈T,¬ S x->valZ fk (.inr x.k)=none
 len:fk.length<=c
def b2h{T:List Tr}{x:Tr}{m:Int}:pwT (T++[x]) m=pwT T m++((vS x.L m).map λs=>(x.k,s)).toList:=by
 unfold pwT;rw[eN];cases e:vS x.L m<;>simp[e]
def a8y{T:List Tr}(nd:(T.map Tr.k).Nodup){i:Nat}{y:Tr}(h:T[i]?=some y):∀x∈T.take i,x.k≠y.k:=λx hx=>by
 have e:T.take (i+1)=T.take i++[y]:=take_snoc h
 have:=(bV.mp nd).sublist (dt (i+1) T)
 rw[e]at this;exact (bA.mp this).2.2 x hx y (.head _)
def b0E{T:List Tr}{m:Int}:(pwT T m).length<=T.length:=cx _ _
def b5a{kd m:Int}{T U:List Tr}(nd:(T.map Tr.k).Nodup){x:Tr}{s:Str}(hx:x∈T)(e:vS x.L m=some s):Br kd T U m x.k↔(kd=1/\∃p∈pwT T m,p.1≠x.k/\p.2=s)\/(kd=2/\∀y∈U,y.k=s->vS y.L m=none)\/(kd=3/\fS x.L≠some s):=by
 constructor
 ·rintro⟨y,hy,ey,s',es,h⟩
  have:=a2w nd hy hx ey
  subst this;rw[e]at es;cases es;rcases h with ⟨h,y,h1,h2,h3⟩ |h |h
  ·exact .inl ⟨h,(y.k,s),mem_pw.mpr ⟨y,h1,rfl,h3⟩,h2,rfl⟩
  ·exact .inr (.inl h)
  ·exact .inr (.inr h)
 ·intro h;refine⟨x,hx,rfl,s,e,?_⟩;rcases h with ⟨h,p,h1,h2,h3⟩ |h |h
  ·obtain⟨y,y1,y2,y3⟩:=mem_pw.mp (show (p.1,s)∈pwT T m by rw[<- h3];exact h1);exact .inl ⟨h,y,y1,by rw[y2];exact h2,y3⟩
  ·exact .inr (.inl h)
  ·exact .inr (.inr h)
def b2i{pw:List (Str×Str)}(nd:(pw.map (·.1)).Nodup){k s:Str}(h:(k,s)∈pw):1<(pw.filter λp=>decide (p.2=s)).length↔∃p∈pw,p.1≠k/\p.2=s:=by
 constructor
 ·intro hl;have nf:=nd.sublist ((dQ (l:=pw) (p:=λp:Str×Str=>decide (p.2=s))).map (·.1))
  match e:pw.filter (λp=>decide (p.2=s)) with
  |[]=>rw[e]at hl;simp at hl
  |[_]=>rw[e]at hl;simp at hl
  |p::q::r=>
   rw[e]at nf;have m1:p∈pw.filter λp=>decide (p.2=s):=by rw[e];simp
   have m2:q∈pw.filter λp=>decide (p.2=s):=by rw[e];simp
   rw[bz,decide_eq_true_eq]at m1 m2
   by_cases c:p.1=k
   ·refine⟨q,m2.1,λz=>?_,m2.2⟩;simp only[aY,bX,bf]at nf;exact nf.1 (.inl (by rw[c,z]))
   ·exact⟨p,m1.1,c,m1.2⟩
 ·rintro⟨p,h1,h2,h3⟩;have m1:(k,s)∈pw.filter λp=>decide (p.2=s):=bz.mpr ⟨h,by simp⟩;have m2:p∈pw.filter λp=>decide (p.2=s):=bz.mpr ⟨h1,by simpa using h3⟩
  match e:pw.filter (λp=>decide (p.2=s)) with
  |[]=>rw[e]at m1;simp at m1
  |[q]=>
   rw[e]at m1 m2;rw[aX]at m1 m2;rw[<- m1]at m2;exact absurd (by rw[m2]) h2
  |_::_::_=>rw[e];simp
noncomputable def brB(kd:Int)(T U:List Tr)(m:Int)(k:Str):Bool:=@decide (Br kd T U m k) (Classical.propDecidable _)
def brB_t{kd:Int}{T U:List Tr}{m:Int}{k:Str}:brB kd T U m k=true↔Br kd T U m k:=by unfold brB;exact @decide_eq_true_iff _ (Classical.propDecidable _)
def b6V{kd:Int}{T U:List Tr}{m:Int}{k:Str}(h:¬ Br kd T U m k):brB kd T U m k=false:=by
 cases e:brB kd T U m k with
 |false=>rfl
 |true=>exact absurd (brB_t.mp e) h
def a26:P3:=λws G R=>Ex11 λ(kd m:Int) (o u:Bool) (D F:Addr) (d:Bool->Addr) (T:Bool->List Tr) (S:Tr->Prop) (c:Nat) (fk:List (Key×Z))=>ws=[.int kd,.str (nmB o),.str (nmB u),.ref D,.int m,.ref F]/\TbsAt G D d T/\G F=some (.dK fk) /\
 Fi (T o) S c fk/\c<=30000/\(kd=3->∀x∈T o,¬ S x->∀s,vS x.L m=some s->fS x.L=some s) /\
 ∀(t:Addr)(ks:List Str)(fk':List (Key×Z))(G':Hq),G t=none->Kq F G G'->G' F=some (.dK fk')->G' t=some (.lst (ks.map Z.str))->(∀k,k∈ks↔Br kd (T o) (T u) m k)->ks.Pairwise leS->ks.length<=40->(∀k∈ks,nmOk k)->Fi (T o) (λx=>S x\/(kd=3/\vS x.L m≠none)) (c+40) fk'->R (.ref t) G'
def a27(T:Txt K mg base a):Cal P w K mg base CX0 4 "_law_keys_broken" (lowP K a26):=by
 refine fnc 6 (N:=["kind","one","other","tables","moment","firsts","worths","key","worth","found"]) T.br (T.f 18 _ rfl) ?_ (len:=λws G R h=>(by obtain⟨_,_,_,_,_,_,_,_,_,_,_,rfl,_⟩:=h;rfl));walk_at "in";refine⟨_,(a0g (z_st (nmI 6 nd) a2u)
  (a0g (a05 (pt:=(.nm 7)) fT.never rfl (a1J (q_ix a0v (qv 3) (qv 1) (λ_ _=>rfl))) (p_nm (nmI 7 nd))
  (a0g (z_st (nmI 8 nd) (q_c (a1f T) hr (q_k (q_ix a0v (q_ix a0v (qv 3) (qv 1) (λ_ _=>rfl)) (qv 7) (λ_ _=>rfl)) (q_k (qv 4) a0y)) ))
  (a0s (z_if (by ac_rfl)
  (a0s (a2O (qv 8) (qv 6) (qv 7) (a3l hu)))
  a1Q))))
  (a0g (by ac_rfl)
  (a0g (a05 (pt:=(.nm 7)) fT.never rfl (a3E (q_B (a79 rfl) (T.b 3) (q_k (qv 6) a0y))) (p_nm (nmI 7 nd))
  (a0s (z_if (by ac_rfl)
  (a0s (z_if (a1x o_gt (q_B b3L (T.b 1) (q_k (q_l ["more","worths","key"] [none,some 6,some 7] (.nm 0) (hi:=(a1J (qv 6))) (ht:=λ_ _ _ _=>(a7z (a1x (o_eq hu) (q_ix a0v (qv 1) (qv 0) (λ_ _=>rfl)) (q_ix a0v (qv 1) (qv 2) (λ_ _=>rfl)) (a2r _))))) a0y) (hv:=PySem.boot_len)) b3o (a2r _))
  (by ac_rfl)
  a1Q))
  (a0s (z_if (by ac_rfl)
  (a0s (z_if (QW.qt (q_or (a1x (a8i hu) (q_ix a0v (qv 6) (qv 7) (λ_ _=>rfl)) (q_ix a0v (qv 3) (qv 2) (λ_ _=>rfl)) (by with_unfolding_all rfl)) (b1f (a1x o_is (q_c (a1f T) hr (q_k (q_ix a0v (q_ix a0v (qv 3) (qv 2) (λ_ _=>rfl)) (q_ix a0v (qv 6) (qv 7) (λ_ _=>rfl)) (λ_ _=>rfl)) (q_k (qv 4) a0y)) ) b3p (a2r _)))))
  (by ac_rfl)
  a1Q))
  (a0s (z_if (QW.qt (b1g (by ac_rfl) (a7q (a1x (o_ne hu) (q_bm PySem.F.plainAttrs_dict PySem.F.slot_dict_setdefault PySem.F.type_dict_setdefault a2v (qv 5) (q_k (qv 7) (q_k (q_ix a0v (qv 6) (qv 7) (λ_ _=>rfl)) a0y))) (q_ix a0v (qv 6) (qv 7) (λ_ _=>rfl)) (a2r _)))))
  (by ac_rfl)
  a1Q)))))))
  (by ac_rfl))))),?_⟩
 obtain⟨kd,m,o,u,D,F,d,T',S,c,fk,rfl,ta,gF,fi,hc,hS,q⟩:=h;have ok:=ta.ok o;symm;intro W hW;refine⟨_,rfl,?_⟩;have nWF:F≠W:=a0b gF hW;generalize eW:put G W (.dK [])=G1;obtain⟨gW,s1⟩:=newK eW hW;have ta1:=ta.sm s1;have gF1:=s1 _ _ gF;symm;refine a0t (.inr ta1.at_) rfl (a13 o) ?_;refine a5a (.inr (ta1.tb o)) ?_;rw[a2x (ta1.tb o)];have hoT:((T' o).map λx=>Z.str x.k)=(kvT (T' o)).map λp=>keyW p.1:=by unfold kvT;rw[bJ];rfl
 rw[<- hoT];refine a0z (λi σ G'=>∃v7 v8:Option Z,G' W=some (.dK (kvW (pwT ((T' o).take i) m)))/\Kq W G1 G'/\σ=[some (.int kd),some (.str (nmB o)),some (.str (nmB u)),some (.ref D),some (.int m),some (.ref F),some (.ref W),v7,v8,none]) ⟨_,_,gW,Kq.refl _ _,rfl⟩ (λ_ _ _ _ _=>True.intro) ?_ ?_
 ·rintro i x σ G' hx ⟨v7,v8,gW',kq,rfl⟩;rw[aW]at hx;cases hy':(T' o)[i]? with
  |none=>rw[hy']at hx;cases hx
  |some y=>
  rw[hy']at hx;cases hx;have hy:=bo hy';have s':Sm G G':=λb ob h=>kq b ob (s1 _ _ h) (a0b h hW);have ta':=ta.sm s';have oy:=(ok.ok y hy).1;have ly:y.L.length<=80:=by have:=a02 hy;have:=ok.rows;omega
  refine⟨_,rfl,?_⟩;symm;refine a0t (.inr ta'.at_) rfl (a13 o) ?_;symm;refine a0t (.inr (ta'.tb o)) rfl (a5Z ok.nd hy) ?_;symm;refine⟨_,y.L,m,rfl,ta'.ln o y hy,oy.1.rise,oy.okR,by omega,λG2 s2=>?_⟩;rw[b48 oy,take_snoc hy',b2h];cases es:vS y.L m with
  |none=>
   symm;exact⟨_,_,by rw[Option.map_none,fC,bN];exact s2 _ _ gW',λb ob h nb=>s2 _ _ (kq b ob h nb),rfl⟩
  |some s=>
   symm;have lp:=b0E (T:=(T' o).take i) (m:=m);refine⟨_,.inr y.k,s2 _ _ gW',rfl,a0h (by unfold kvW;rw[aT];rw[bC]at lp;have:=ok.len;omega),?_⟩;rw[a1L (b2g λs' z=>by
    obtain⟨x,hx,e,_⟩:=mem_pw.mp z;exact a8y ok.nd hy' x hx e)]
   refine⟨_,_,?_,λb ob h nb=>by rw[a0f nb];exact s2 _ _ (kq b ob h nb),rfl⟩;rw[a0a];unfold kvW;rw[bt];rfl
 ·rintro σ G2 ⟨v7,v8,gW2,kq,rfl⟩;rw[aT,bT]at gW2;have ndp:=b6U (m:=m) ok.nd;have lp:=b0E (T:=T' o) (m:=m);have l4:=ok.len;have s2:Sm G G2:=λb ob h=>kq b ob (s1 _ _ h) (a0b h hW);symm;refine⟨lenK rfl,λX hX=>?_⟩;generalize eX:put G2 X (.lst [])=G3;obtain⟨gX3,s3⟩:=newK eX hX;have gW3:=s3 _ _ gW2;have s03:=s2.trans s3;have nXW:W≠X:=a0b gW2 hX;have nXF:F≠X:=a0b (s2 _ _ gF) hX;symm;refine a6p gW3 (ss:=(pwT (T' o) m).map (·.1)) (by unfold kvW;rw[bJ,bJ];rfl) (by rw[aT];omega) λt ts ht hp hs=>?_;have ntW:W≠t:=a0b gW3 ht;have ntX:X≠t:=a0b gX3 ht;have ntF:F≠t:=a0b (s03 _ _ gF) ht;generalize eB:put G3 t (.lst (ts.map Z.str))=B;obtain⟨gt,s4⟩:=newK eB ht;have s04:=s03.trans s4;have hts:∀k,k∈ts↔∃x∈T' o,x.k=k/\∃s,vS x.L m=some s:=λk=>by
   rw[hp.mem_iff,bu]
   constructor
   ·rintro⟨⟨k',s⟩,h,rfl⟩;obtain⟨x,h1,h2,h3⟩:=mem_pw.mp h;exact⟨x,h1,h2,s,h3⟩
   ·rintro⟨x,h1,h2,s,h3⟩;exact⟨(k,s),mem_pw.mpr ⟨x,h1,h2,h3⟩,rfl⟩
  have ltl:ts.length<=40:=by have:=hp.length_eq;rw[aT]at this;omega
  refine a1R gt ?_;have gW4:=s4 _ _ gW3;have gX4:=s4 _ _ gX3;have GX:G X=none:=s2.free hX;refine a0z (λi σ G'=>∃(fk':List (Key×Z))(v7:Option Z),(∀b ob,b≠F->b≠W->b≠X->B b=some ob->G' b=some ob)/\(G' W=some (.dK (kvW (pwT (T' o) m)))\/G' W=some (.dF (kvW (pwT (T' o) m))))/\G' F=some (.dK fk') /\
   G' X=some (.lst (((ts.take i).filter (brB kd (T' o) (T' u) m)).map Z.str))/\Fi (T' o) (λx=>S x\/(kd=3/\vS x.L m≠none/\x.k∈ts.take i)) (c+i) fk'/\σ=[some (.int kd),some (.str (nmB o)),some (.str (nmB u)),some (.ref D),some (.int m),some (.ref F),some (.ref W),v7,v8,some (.ref X)])
   ⟨fk,_,λb ob _ _ _ h=>h,.inl gW4,s04 _ _ gF,gX4,⟨λx hx h=>fi.yes x hx (h.resolve_right (by simp)),λx hx h=>fi.no x hx λz=>h (.inl z),fi.len⟩,rfl⟩ (by rintro i σ G' _ ⟨_,_,k,_⟩;exact k t _ (Ne.symm ntF) (Ne.symm ntW) (Ne.symm ntX) gt) ?_ ?_
  ·rintro i x σ G' hx ⟨fk',v7,kp,gW',gF',gX',fi',rfl⟩;rw[aW]at hx;cases hk':ts[i]? with
   |none=>rw[hk']at hx;cases hx
   |some k=>
   rw[hk']at hx;cases hx;have hi:=(aZ.mp hk').1;obtain⟨y,hy,rfl,s,es⟩:=(hts k).mp (bo hk');have hpk:=mem_pw.mpr ⟨y,hy,rfl,es⟩;have hv:=b0D ndp hpk;have bi:=b5a (kd:=kd) (U:=T' u) ok.nd hy es;have kpt:∀b ob,G b=some ob->(∀kvs,ob≠.dK kvs)->G' b=some ob:=λb ob h n=>kp b ob (λz=>by rw[z,gF]at h;exact n _ (bv.inj h).symm) (a0b h hW) (a0b h GX) (s04 _ _ h);have ta':TbsAt G' D d T':=⟨kpt _ _ ta.at_ (by simp),λo=>kpt _ _ (ta.tb o) (by simp),λo x hx=>kpt _ _ (ta.ln o x hx) (by simp),ta.ok⟩;have lX:((((ts.take i).filter (brB kd (T' o) (T' u) m)).map Z.str)).length<=40:=by rw[aT];exact be (cf _ _) (by rw[bC];omega)
   have tk:=take_snoc hk';have fi2:kd≠3->Fi (T' o) (λx=>S x\/(kd=3/\vS x.L m≠none/\x.k∈ts.take (i+1))) (c+(i+1)) fk':=λn=>⟨λx hx h=>fi'.yes x hx (.inl (h.resolve_right λz=>n z.1)),λx hx h=>fi'.no x hx λz=>h (.inl (z.resolve_right λz=>n z.1)),by have:=fi'.len;omega⟩;have yes:Br kd (T' o) (T' u) m y.k->((ts.take (i+1)).filter (brB kd (T' o) (T' u) m)).map Z.str=((ts.take i).filter (brB kd (T' o) (T' u) m)).map Z.str++[.str y.k]:=λh=>by
    rw[tk,cC,cc,brB_t.mpr h,if_pos rfl,fD,bt];rfl
   have no:¬ Br kd (T' o) (T' u) m y.k->(ts.take (i+1)).filter (brB kd (T' o) (T' u) m)=(ts.take i).filter (brB kd (T' o) (T' u) m):=λh=>by
    rw[tk,cC,cc,b6V h,if_neg (by simp),fD,bN]
   refine⟨_,rfl,?_⟩;symm;refine ifD (λc1=>?_) λc1=>?_
   ·subst c1;symm;refine a5a gW' ?_;have ek:((kvW (pwT (T' o) m)).map λp=>keyW p.1)=(pwT (T' o) m).map λp=>Z.str p.1:=by unfold kvW;rw[bJ];rfl
    rw[ek];generalize e5:put G' W (.dF (kvW (pwT (T' o) m)))=G5;have gW5:G5 W=some (.dF (kvW (pwT (T' o) m))):=by rw[<- e5];exact a0a
    have kp5:∀b ob,b≠W->G' b=some ob->G5 b=some ob:=λb ob n h=>by rw[<- e5,a0f n];exact h
    have gX5:=kp5 X _ (Ne.symm nXW) gX';have gF5:=kp5 F _ nWF gF';intro C hC;refine a2h (g':=λp:Str×Str=>Z.str p.1) (λp=>if p.2=s then some p else none) (λ_=>True.intro) (by omega) ?_ ?_
    ·rintro⟨k2,s2'⟩ hp2 ys K1 K2 k1 k2;refine⟨_,rfl,?_⟩;symm;refine a0t (.inr (a0c gW5 hC)) rfl (b0D ndp hp2) ?_;symm;refine a0t (.inr (a0c gW5 hC)) rfl hv ?_;symm;refine ifD (λc2=>?_) λc2=>?_
     ·symm;exact k1 _ (if_pos c2)
     ·exact k2 (if_neg c2)
    ·symm;refine a4m a0a ?_;symm;have el:(((pwT (T' o) m).filterMap λp=>if p.2=s then some p else none).map λp:Str×Str=>Z.str p.1).length=((pwT (T' o) m).filter λp=>decide (p.2=s)).length:=by
      rw[aT];generalize pwT (T' o) m=l
      induction l with
      |nil=>rfl
      |cons p l ih=>
       rw[cm,cc]
       by_cases c:p.2=s
       ·rw[if_pos c,decide_eq_true c,if_pos rfl,bp,bp,ih]
       ·rw[if_neg c,decide_eq_false c,if_neg (by simp),ih]
     rw[el];have ti:=b2i ndp hpk;refine ifD (λc2=>?_) λc2=>?_
     ·have hb:Br 1 (T' o) (T' u) m y.k:=bi.mpr (.inl ⟨rfl,ti.mp (by omega)⟩);symm;refine a1i (a0c gX5 hC) ?_;symm;refine a0S (a0c gX5 hC) (a0h (by omega)) ?_;refine⟨fk',_,λb ob n1 n2 n3 h=>?_,.inr ?_,?_,?_,fi2 (by decide),rfl⟩
      ·rw[a0f n3];exact a0c (kp5 _ _ n2 (kp b ob n1 n2 n3 h)) hC
      ·rw[a0f nXW];exact a0c gW5 hC
      ·rw[a0f nXF];exact a0c gF5 hC
      ·rw[a0a,yes hb]
     ·have hb:¬ Br 1 (T' o) (T' u) m y.k:=λz=>by
       rcases bi.mp z with ⟨_,z⟩ |⟨z,_⟩ |⟨z,_⟩
       ·have:=ti.mpr z;omega
       ·cases z
       ·cases z
      symm;refine⟨fk',_,λb ob n1 n2 n3 h=>a0c (kp5 _ _ n2 (kp b ob n1 n2 n3 h)) hC,.inr (a0c gW5 hC),a0c gF5 hC,?_,fi2 (by decide),rfl⟩;rw[no hb];exact a0c gX5 hC
   ·symm;refine ifD (λc2=>?_) λc2=>?_
    ·subst c2;symm;refine a0t gW' rfl hv ?_;symm;refine a0t (.inr ta'.at_) rfl (a13 u) ?_;symm;have fin1:∀G6:Hq,Sm G' G6->Br 2 (T' o) (T' u) m y.k->a2f (.ref X) [.str y.k] G6 λ_ G7=>∃(fk':List (Key×Z))(v7:Option Z),(∀b ob,b≠F->b≠W->b≠X->B b=some ob->G7 b=some ob)/\(G7 W=some (.dK (kvW (pwT (T' o) m)))\/G7 W=some (.dF (kvW (pwT (T' o) m))))/\G7 F=some (.dK fk') /\
       G7 X=some (.lst (((ts.take (i+1)).filter (brB 2 (T' o) (T' u) m)).map Z.str))/\Fi (T' o) (λx=>S x\/((2:Int)=3/\vS x.L m≠none/\x.k∈ts.take (i+1))) (c+(i+1)) fk'/\[some (Z.int 2),some (.str (nmB o)),some (.str (nmB u)),some (.ref D),some (.int m),some (.ref F),some (.ref W),some (.str y.k),v8,some (.ref X)]=[some (Z.int 2),some (.str (nmB o)),some (.str (nmB u)),some (.ref D),some (.int m),some (.ref F),some (.ref W),v7,v8,some (.ref X)]:=λG6 s6 hb=>by
      refine a0S (s6 _ _ gX') (a0h (by omega)) ?_;refine⟨fk',_,λb ob n1 n2 n3 h=>?_,?_,?_,?_,fi2 (by decide),rfl⟩
      ·rw[a0f n3];exact s6 _ _ (kp b ob n1 n2 n3 h)
      ·rw[a0f nXW];exact gW'.imp (s6 _ _) (s6 _ _)
      ·rw[a0f nXF];exact s6 _ _ gF'
      ·rw[a0a,yes hb]
     refine a8j (.inr (ta'.tb u)) rfl ?_;cases ev:valZ (kvT (T' u)) (.inr s) with
     |none=>
      refine⟨_,rfl,?_⟩;rw[if_pos (show (!(none:Option Z).isSome)=true from rfl),if_pos rfl];symm;refine a1i gX' ?_;symm;exact fin1 G' (Sm.refl _) (bi.mpr (.inr (.inl ⟨rfl,λy2 h2 e2=>absurd e2 (a35 ev y2 h2)⟩)))
     |some z=>
      obtain⟨y2,hy2,e2,rfl⟩:=a2j ev;have oy2:=((ta.ok u).ok y2 hy2).1;have ly2:y2.L.length<=80:=by have:=a02 hy2;have:=(ta.ok u).rows;omega
      refine⟨_,rfl,?_⟩;rw[if_neg (show ¬ (!(some (Z.ref y2.l)).isSome)=true by simp)];symm;refine a0t (.inr ta'.at_) rfl (a13 u) ?_;symm;refine a0t gW' rfl hv ?_;refine a0t (.inr (ta'.tb u)) rfl ev ?_;symm;refine⟨_,y2.L,m,rfl,ta'.ln u y2 hy2,oy2.1.rise,oy2.okR,by omega,λG6 s6=>?_⟩;rw[b48 oy2];have b2:Br 2 (T' o) (T' u) m y.k↔vS y2.L m=none:=by
       rw[bi]
       constructor
       ·rintro (⟨z,_⟩ |⟨_,h⟩ |⟨z,_⟩)
        ·cases z
        ·exact h y2 hy2 e2
        ·cases z
       ·intro h;refine .inr (.inl ⟨rfl,λy3 h3 e3=>?_⟩);rw[a2w (ta.ok u).nd h3 hy2 (e3.trans e2.symm)];exact h
      cases ev2:vS y2.L m with
      |none=>
       symm;refine a1i (s6 _ _ gX') ?_;symm;exact fin1 G6 s6 (b2.mpr ev2)
      |some s9=>
       symm;refine⟨fk',_,λb ob n1 n2 n3 h=>s6 _ _ (kp b ob n1 n2 n3 h),gW'.imp (s6 _ _) (s6 _ _),s6 _ _ gF',?_,fi2 (by decide),rfl⟩;rw[no λz=>by rw[b2.mp z]at ev2;cases ev2];exact s6 _ _ gX'
    ·symm;refine ifD (λc3=>?_) λc3=>?_
     ·subst c3;symm;refine a9C gF' ?_;symm;refine a0t gW' rfl hv ?_;symm;have ndt:ts.Nodup:=hp.nodup_iff.mpr ndp;have nin:y.k∉ts.take i:=λz=>by
       have:=ndt.sublist (dt (i+1) ts)
       rw[tk]at this;exact (cB.mp this).2.2 _ z _ (.head _) rfl
      have sy:(S y\/((3:Int)=3/\vS y.L m≠none/\y.k∈ts.take i))↔S y:=⟨λz=>z.resolve_right λz=>nin z.2.2,.inl⟩;have b3:Br 3 (T' o) (T' u) m y.k↔fS y.L≠some s:=by
       rw[bi]
       constructor
       ·rintro (⟨z,_⟩ |⟨z,_⟩ |⟨_,h⟩)
        ·cases z
        ·cases z
        ·exact h
       ·exact λh=>.inr (.inr ⟨rfl,h⟩)
      refine b0t gF' rfl (dw fi'.len (bx (by omega:_<40000) (by decide))) (λz hz=>?_) λhz=>?_
      ·have hSy:S y:=by
        by_cases c:S y
        ·exact c
        ·rw[fi'.no y hy λz=>c (sy.mp z)]at hz;cases hz
       obtain⟨s0,f1,f2⟩:=fi'.yes y hy (.inl hSy);rw[hz]at f2;cases f2;have f3:Fi (T' o) (λx=>S x\/((3:Int)=3/\vS x.L m≠none/\x.k∈ts.take (i+1))) (c+(i+1)) fk':=by
        refine⟨λx hx h=>fi'.yes x hx ?_,λx hx h=>fi'.no x hx λz=>h ?_,by have:=fi'.len;omega⟩
        ·rcases h with h |⟨h1,h2,h3⟩
         ·exact .inl h
         ·rw[tk]at h3;rcases aU.mp h3 with h3 |h3
          ·exact .inr ⟨h1,h2,h3⟩
          ·rw[a2w ok.nd hx hy (aX.mp h3)];exact .inl hSy
        ·rcases z with z |⟨h1,h2,h3⟩
         ·exact .inl z
         ·exact .inr ⟨h1,h2,by rw[tk];exact bR _ h3⟩
       symm;refine a0t gW' rfl hv ?_;symm
       by_cases c4:s0=s
       ·rw[decide_eq_true c4];symm;refine⟨fk',_,kp,gW',gF',?_,f3,rfl⟩;rw[no λz=>b3.mp z (by rw[f1,c4])];exact gX'
       ·rw[decide_eq_false c4];rw[if_pos (show (!false)=true from rfl)];symm;refine a1i gX' ?_;symm;refine a0S gX' (a0h (by omega)) ?_;refine⟨fk',_,λb ob n1 n2 n3 h=>?_,?_,?_,?_,f3,rfl⟩
        ·rw[a0f n3];exact kp b ob n1 n2 n3 h
        ·rw[a0f nXW];exact gW'
        ·rw[a0f nXF];exact gF'
        ·rw[a0a,yes (b3.mpr λz=>c4 (by rw[f1]at z;exact bv.inj z))]
      ·have hSy:¬ S y:=λz=>by
        obtain⟨s0,_,f2⟩:=fi'.yes y hy (.inl z);rw[hz]at f2;cases f2
       have f0:=hS rfl y hy hSy s es;have f3:Fi (T' o) (λx=>S x\/((3:Int)=3/\vS x.L m≠none/\x.k∈ts.take (i+1))) (c+(i+1)) (putZ fk' (.inr y.k) (.str s)):=by
        refine⟨λx hx h=>?_,λx hx h=>?_,be a5Y (by have:=fi'.len;omega)⟩
        ·rw[a1v]
         by_cases c:x.k=y.k
         ·rw[a2w ok.nd hx hy c,if_pos rfl];exact⟨s,f0,rfl⟩
         ·rw[if_neg λz=>c (Sum.inr.inj z)];refine fi'.yes x hx ?_;rcases h with h |⟨h1,h2,h3⟩
          ·exact .inl h
          ·rw[tk]at h3;rcases aU.mp h3 with h3 |h3
           ·exact .inr ⟨h1,h2,h3⟩
           ·exact absurd (aX.mp h3) c
        ·have c:x.k≠y.k:=λc=>h (.inr ⟨rfl,by rw[a2w ok.nd hx hy c,es];simp,by rw[tk,c];simp⟩);rw[a1v,if_neg λz=>c (Sum.inr.inj z)];refine fi'.no x hx λz=>h ?_;rcases z with z |⟨h1,h2,h3⟩
         ·exact .inl z
         ·exact .inr ⟨h1,h2,by rw[tk];exact bR _ h3⟩
       symm;have nFW:W≠F:=Ne.symm nWF;refine a0t (by rw[a0f nFW];exact gW') rfl hv ?_;symm;rw[decide_eq_true rfl];symm;refine⟨_,_,λb ob n1 n2 n3 h=>?_,?_,a0a,?_,f3,rfl⟩
       ·rw[a0f n1];exact kp b ob n1 n2 n3 h
       ·rw[a0f nFW];exact gW'
       ·rw[a0f (Ne.symm nXF),no λz=>b3.mp z f0];exact gX'
     ·refine ifF ?_;symm;refine⟨fk',_,kp,gW',gF',?_,fi2 c3,rfl⟩;rw[no λz=>?_]
      ·exact gX'
      ·rcases bi.mp z with ⟨z,_⟩ |⟨z,_⟩ |⟨z,_⟩
       ·exact c1 z
       ·exact c2 z
       ·exact c3 z
  ·rintro σ G' ⟨fk',v7,kp,gW',gF',gX',fi',rfl⟩;rw[aT,bT]at gX' fi';symm;refine q X _ fk' G' GX (λb ob h n=>?_) gF' gX' (λk=>?_) ((b6S hs).sublist dQ) (be (cf _ _) ltl) (λk hk=>?_) ?_
   ·exact kp b ob n (a0b h hW) (a0b h GX) (s04 _ _ h)
   ·rw[bz,brB_t];refine⟨λh=>h.2,λh=>⟨(hts k).mpr ?_,h⟩⟩;obtain⟨x,h1,h2,s,h3,_⟩:=h;exact⟨x,h1,h2,s,h3⟩
   ·obtain⟨x,h1,h2,_⟩:=(hts k).mp (bz.mp hk).1;rw[<- h2];exact ok.kn x h1
   ·have e:∀x∈T' o,vS x.L m≠none->x.k∈ts:=λx hx h=>(hts _).mpr ⟨x,hx,rfl,Option.ne_none_iff_exists'.mp h⟩;refine⟨λx hx h=>fi'.yes x hx ?_,λx hx h=>fi'.no x hx λz=>h ?_,by have:=fi'.len;omega⟩
    ·rcases h with h |⟨h1,h2⟩
     ·exact .inl h
     ·exact .inr ⟨h1,h2,e x hx h2⟩
    ·rcases z with z |⟨h1,h2,_⟩
     ·exact .inl z
     ·exact .inr ⟨h1,h2⟩
def Fst(E:Int->Prop)(P:Int->Str->Prop):Option (Int×Str)->Prop
 |none=>∀t k,E t->¬ P t k
 |some (t,k)=>E t/\P t k/\∀t' k',E t'->P t' k'->t<t'\/(t=t'/\leS k k')
@[reducible] noncomputable def fz:Option (Int×Str)->Z
 |none=>.non
 |some (t,k)=>.tup [.int t,.str k]
def a14(a:Str):leS a a:=by rw[a33];exact fc _
def Fst.uniq{E:Int->Prop}{P:Int->Str->Prop}{x y:Option (Int×Str)}(hx:Fst E P x)(hy:Fst E P y):x=y:=by
 match x,y,hx,hy with
 |none,none,_,_=>rfl
 |none,some (t,k),h,⟨h1,h2,_⟩=>exact absurd h2 (h t k h1)
 |some (t,k),none,⟨h1,h2,_⟩,h=>exact absurd h2 (h t k h1)
 |some (t,k),some (t',k'),⟨h1,h2,h3⟩,⟨g1,g2,g3⟩=>
  rcases h3 t' k' g1 g2 with a |⟨a,b⟩
  ·rcases g3 t k h1 h2 with c |⟨c,_⟩<;>omega
  ·rcases g3 t k h1 h2 with c |⟨c,e⟩
   ·omega
   ·rw[a,a91 b e]
def a8z{L:List Rw}(h:LnOk L){t:Int}{s:Str}(e:vS L t=some s):∃r∈L,r.has t=true/\r.w=[.str s]:=by
 rcases b2f h t with ⟨_,e2⟩ |⟨s',e1,e2,_⟩
 ·rw[e]at e2;cases e2
 ·rw[e]at e2;cases e2;exact a5R e1
def a8A{L:List Rw}(h:LnOk L){t:Int}{s:Str}{r:Rw}(hr:r∈L)(a:r.has t=true)(e:r.w=[.str s]):vS L t=some s:=by
 have hv:val L t=some r.w:=by
  obtain⟨x,y,rfl⟩:=cS hr;have pw:=bA.mp h.1.rise.2;rw[a0C,a3V (l:=x) λq hq=>?_,fv,a0F,if_pos a];cases c:q.has t with
  |false=>rfl
  |true=>rw[(pw.2.2 q hq r (.head _)).has c]at a;cases a
 unfold vS;rw[hv,e]
def a4P{r:Rw}{t:Int}(h:r.has t=true):r.b<=t:=by unfold Rw.has at h;simp only[bS,decide_eq_true_eq]at h;exact h.1
def a2W{r:Rw}{l:List Rw}{s:Str}(e:r.w=[.str s]):fS (r::l)=some s:=by show (match r.w with |[.str s]=>some s |_=>none)=some s;rw[e]
def a8B{L:List Rw}(h:LnOk L)(ne:L≠[]):∃r s,r∈L/\fS L=some s/\vS L r.b=some s/\∀t s',vS L t=some s'->r.b<=t:=by
 match L,ne with
 |r::l,_=>
  obtain⟨s,e,_⟩:=h.2 r (.head _);refine⟨r,s,.head _,a2W e,a8A h (.head _) (a9S (h.1.1 r (.head _))) e,λt s' e'=>?_⟩;obtain⟨q,hq,a,_⟩:=a8z h e'
  have:=a4P a
  rcases bf.mp hq with rfl |hq
  ·exact this
  ·have:=((bD.mp h.1.2).1 q hq).lt.b (h.1.1 r (.head _))
   omega
def a51{T:Bool->List Tr}{o:Bool}{x:Tr}{r:Rw}(hx:x∈T o)(hr:r∈x.L):r∈allR T:=by
 unfold allR;rw[dR];exact⟨o,by cases o<;>simp,dR.mpr ⟨x,hx,hr⟩⟩
def a6D{ns:List Str}(h:∀s∈ns,nmOk s):(ns.map Z.str).all (flat 8)=true:=by
 rw[cK];intro x hx;obtain⟨s,hs,rfl⟩:=bu.mp hx;exact a34 (h s hs)
def a2X:P3:=λws G R=>Ex6 λ(kd:Int) (o u:Bool) (D:Addr) (d:Bool->Addr) (T:Bool->List Tr)=>ws=[.int kd,.str (nmB o),.str (nmB u),.ref D]/\TbsAt G D d T /\
 ∀(z:Option (Int×Str))(G':Hq),Sm G G'->Fst (IsEd (allR T)) (Br kd (T o) (T u)) z->(∀t k,z=some (t,k)->nmOk k)->R (fz z) G'
def a2Y(T:Txt K mg base a):Cal P w K mg base CX0 5 "_law_first_broken" (lowP K a2X):=by
 refine fnc 4 (N:=["kind","one","other","tables","firsts","moment","found"]) T.br (T.f 19 _ rfl) ?_ (len:=λws G R h=>(by obtain⟨_,_,_,_,_,_,rfl,_⟩:=h;rfl));walk_at "in";refine⟨_,(a0g (z_st (nmI 4 nd) a2u)
  (by ac_rfl)),?_⟩
 obtain⟨kd,o,u,D,d,T',rfl,ta,q⟩:=h;have ok:=ta.ok o;symm;intro F hF;refine⟨_,rfl,?_⟩;generalize eF:put G F (.dK [])=G1;obtain⟨gF,s1⟩:=newK eF hF;symm;refine⟨D,d,T',rfl,ta.sm s1,λt ms G2 ht s2 gt hpw hm lm=>?_⟩;have s02:=s1.trans s2;have ntF:t≠F:=Ne.symm (a0b gF ht);refine a1R gt ?_;refine a0z (λi σ G'=>∃(fk:List (Key×Z))(v5 v6:Option Z),Kq F G2 G'/\G' F=some (.dK fk)/\Fi (T' o) (λx=>kd=3/\∃m∈ms.take i,vS x.L m≠none) (40*i) fk/\(∀m∈ms.take i,∀k,¬ Br kd (T' o) (T' u) m k)/\σ=[some (.int kd),some (.str (nmB o)),some (.str (nmB u)),some (.ref D),some (.ref F),v5,v6])
  ⟨[],_,_,Kq.refl _ _,s2 _ _ gF,⟨λx _ h=>by simp at h,λ_ _ _=>rfl,by simp⟩,λm h=>by simp at h,rfl⟩ (by rintro i σ G' _ ⟨_,_,_,k,_⟩;exact k _ _ gt ntF) ?_ ?_
 ·rintro i x σ G' hx ⟨fk,v5,v6,kq,gF',fi,nb,rfl⟩;rw[aW]at hx;cases hm':ms[i]? with
  |none=>rw[hm']at hx;cases hx
  |some m=>
  rw[hm']at hx;cases hx;have hi:=(aZ.mp hm').1;have hmem:=bo hm';have s':Sm G G':=λb ob h=>kq b ob (s02 _ _ h) (a0b h hF);have tk:=take_snoc hm';have early:∀t∈ms,t<m->t∈ms.take i:=λt ht hl=>by
   obtain⟨j,hj,e⟩:=dE.mp ht;obtain⟨h1,e1⟩:=aZ.mp hm'
   have:j<i:=by
    by_cases c:j<i
    ·exact c
    ·by_cases c2:i=j
     ·subst c2;omega
     ·have:=cA.mp hpw i j h1 hj (by omega)
      omega
   rw[<- e];exact List.mem_take_iff_getElem.mpr ⟨j,by omega,rfl⟩
  refine⟨_,rfl,?_⟩;symm;refine⟨kd,m,o,u,D,F,d,T',_,40*i,fk,rfl,ta.sm s',gF',fi,by omega,λk3 x hx hS s es=>?_,λX ks fk' G3 hX kq3 gF3 gX3 hks hpwk lk nk fi3=>?_⟩
  ·obtain⟨r,s0,h1,h2,h3,h4⟩:=a8B (ok.ok x hx).1 (ok.ok x hx).2;have hb:=h4 _ _ es
   by_cases c:r.b<m
   ·exact absurd ⟨k3,r.b,early r.b ((hm _).mpr ⟨r,a51 hx h1,.inl rfl⟩) c,by rw[h3];simp⟩ hS
   ·have:r.b=m:=by omega
    rw[this,es]at h3;rw[h2,<- h3]
  symm;refine⟨lenK rfl,λY hY=>?_⟩;have gX4:=a0c (o:=.lst []) gX3 hY;refine b32 gX4 a0a (a6D nk) rfl ?_;cases hk0:ks with
  |nil=>
   rw[decide_eq_true (by rfl)];symm;refine⟨fk',_,_,λb ob h nb'=>a0c (kq3 _ _ (kq b ob h nb') nb') hY,a0c gF3 hY,⟨λx hx h=>fi3.yes x hx ?_,λx hx h=>fi3.no x hx λz=>h ?_,by have:=fi3.len;omega⟩,λm' hm'' k hb=>?_,rfl⟩
   ·obtain⟨h1,m',h2,h3⟩:=h;rw[tk]at h2;rcases aU.mp h2 with h2 |h2
    ·exact .inl ⟨h1,m',h2,h3⟩
    ·rw[aX.mp h2]at h3;exact .inr ⟨h1,h3⟩
   ·rcases z with ⟨h1,m',h2,h3⟩ |⟨h1,h2⟩
    ·exact⟨h1,m',by rw[tk];exact bR _ h2,h3⟩
    ·exact⟨h1,m,by rw[tk];simp,h2⟩
   ·rw[tk]at hm'';rcases aU.mp hm'' with h2 |h2
    ·exact nb m' h2 k hb
    ·rw[aX.mp h2]at hb
     have:=(hks k).mpr hb
     rw[hk0]at this;simp at this
  |cons k0 kr=>
   rw[decide_eq_false (by simp)];refine⟨_,rfl,?_⟩;rw[if_pos (show (!false)=true from rfl)];rw[hk0]at gX4 hks hpwk nk;symm;refine a1w gX4 (w:=.str k0) at0 ?_;symm;refine⟨lenK rfl,?_⟩;refine q (some (m,k0)) _ (λb ob h=>a0c (kq3 _ _ (s' _ _ h) (a0b h hF)) hY) ⟨(hm m).mp hmem,(hks k0).mp (.head _),λt' k' ht' hb'=>?_⟩ λt k e=>by cases e;exact nk _ (.head _)
   by_cases c:t'<m
   ·exact absurd hb' (nb t' (early t' ((hm t').mpr ht') c) k')
   ·by_cases c2:m=t'
    ·subst c2;refine .inr ⟨rfl,?_⟩;rcases bf.mp ((hks k').mpr hb') with e |e
     ·rw[e];exact a14 _
     ·exact (bD.mp hpwk).1 k' e
    ·exact .inl (by omega)
 ·rintro σ G' ⟨fk,v5,v6,kq,gF',fi,nb,rfl⟩;rw[aT,bT]at nb;symm;exact q none G' (λb ob h=>kq b ob (s02 _ _ h) (a0b h hF)) (λt k ht=>nb t ((hm t).mpr ht) k) λt k e=>by cases e
structure Hd where
 k:Str
 b:Int
 e:Option Int
 w:Str
noncomputable def Hd.r(h:Hd):Rw:=⟨h.b,h.e,[.str h.w]⟩
noncomputable def Hd.z(h:Hd):Z:=.tup [.str h.k,.int h.b,oz h.e]
set_option tactic.hygienic true in
def a99{α β:Type}{f:α->β}{ps qs:List β}(h:ps.Perm qs):∀A:List α,qs=A.map f->∃B:List α,B.Perm A/\ps=B.map f:=by
 induction h with
 |nil=>exact λA e=>⟨[],by rw[fE.mp e.symm],rfl⟩
 |cons x _ ih=>
  intro A e
  match A,e with
  |a::A,e=>
   rw[aY]at e;injection e with e1 e2
   obtain⟨B,h1,rfl⟩:=ih A e2;exact⟨a::B,h1.cons a,by rw[e1];rfl⟩
 |swap x y l=>
  intro A e
  match A,e with
  |[],e=>cases e
  |[_],e=>cases e
  |a::b::A,e=>
   simp only[aY,ci.injEq]at e;obtain⟨rfl,rfl,rfl⟩:=e;exact⟨b::a::A,bP.swap a b A,rfl⟩
 |trans _ _ ih1 ih2=>
  intro A e;obtain⟨B,h1,e1⟩:=ih2 A e;obtain⟨C,h2,e2⟩:=ih1 B e1;exact⟨C,h2.trans h1,e2⟩
def b5b{α β γ:Type}{f:α->β}{g:α->γ}(A:List α):(A.map f).zip (A.map g)=A.map λx=>(f x,g x):=by
 induction A with
 |nil=>rfl
 |cons a A ih=>rw[aY,aY,fh,ih];rfl
def b2j{A:List Hd}{os:List Z}(h:SOut (A.map Hd.b) (A.map Hd.z) os):∃B:List Hd,B.Perm A/\os=B.map Hd.z/\B.Pairwise λx y=>x.b<=y.b:=by
 obtain⟨ps,hp,rfl,hs⟩:=h;have e:=b5b (f:=Hd.b) (g:=Hd.z) A;obtain⟨B,h1,rfl⟩:=a99 hp A e;have hs:=bV.mp hs;exact⟨B,h1,by rw[bJ];rfl,hs⟩
def a37(a:Ad):P3:=λws G R=>∃(p:Addr)(A:List Hd),ws=[.ref p]/\G p=some (.lst (A.map Hd.z))/\A.length<=1000/\G a.tP=some lamO/\∀(t:Addr)(B:List Hd),G t=none->B.Perm A->(B.Pairwise λx y=>x.b<=y.b)->R (.ref t) (put G t (.lst (B.map Hd.z)))
def a38(T:Txt K mg base a):Cal P w K mg base CX0 4 "by_begin" (lowP K (a37 a)):=by
 refine fncL 1 (N:=["holders"]) T.br (T.f 9 _ rfl) T.lam ?_ (λws G R h=>(by obtain⟨_,_,rfl,_⟩:=h;rfl)) ⟨rfl,rfl,rfl,by decide +kernel,rfl,by decide +kernel,by decide +kernel⟩ (by intro kV doc pm an cdv ct us hl;match us,hl with |[_],_=>rfl)
 intro f c A outer s H E ws G R hcd hr nd h;have hu:=b4W hr;refine⟨_,(a0s (a2d (q_sk (y:="holder") (N:=["holder"]) (k:=0) (T.b 3) hr (qv 0) rfl hcd T.gP T.bi (λ_ _ _ _ _ _ hr nd=>(by ac_rfl)) ⟨rfl,rfl,rfl,by decide +kernel,rfl,by decide +kernel,by decide +kernel⟩ rfl rfl rfl (λ_ _ _ us hl=>match us,hl with |[_],_=>rfl)))),?_⟩
 obtain⟨p,A',rfl,gp,hl,gT,q⟩:=h;refine b3X ?_;refine b10 ?_;symm;refine⟨p,_,A'.map Hd.b,rfl,gp,by rw[aT];omega,gT,by rw[aT,aT],λi w k hw hk=>?_,λt os ht so=>?_⟩
 ·rw[aW]at hw hk;cases hh:A'[i]? with
  |none=>rw[hh]at hw;cases hw
  |some h=>
   rw[hh]at hw hk;cases hw;cases hk;symm;exact a0O at1 ⟨rfl,rfl⟩
 ·obtain⟨B,h1,rfl,h2⟩:=b2j so;exact q t B ht h1 h2
def b6W{A B:Prop}(h:A):if (!false)=true then A else B:=h
def b6X{A B:Prop}(h:B):if (!true)=true then A else B:=h
local macro_rules | `(tactic| walk_at "go1")=>`(tactic| with_reducible first | apply b6W | apply b6X)
def a8C{α:Type}{xs:List α}:cutZ xs (some 1) none=xs.drop 1:=by
 cases xs with
 |nil=>rfl
 |cons x xs=>
  unfold cutZ;simp[HT.sIx]
noncomputable def plZ(p:Int×Str):Z:=.tup [.int p.1,.str p.2]
structure Shar (A:List Hd) (Ps:List (Int×Str)):Prop where
 yes:∀p∈Ps,∃h∈A,h.k=p.2/\h.r.has p.1=true/\(∃o∈A,o≠h/\o.r.has p.1=true)/\∃l∈A,p.1=l.b
 all:∀t h o,h∈A->o∈A->h≠o->h.r.has t=true->o.r.has t=true->∃p∈Ps,p.1<t\/(p.1=t/\p.2=h.k)
 len:Ps.length<=A.length
def zip2{xs ys:List Z}{i:Nat}{w:Z}(h:(zipZ [xs,ys])[i]?=some w):∃a b,w=.tup [a,b]/\xs[i]?=some a/\ys[i]?=some b:=by
 obtain⟨vs,rfl,e⟩:=(a1X [xs,ys] (by simp) i w).mp h
 match vs,e with
 |[],e=>simp at e
 |[_],e=>simp at e
 |[a,b],e=>
  simp only[aY,bB,ci.injEq,and_true]at e;exact⟨a,b,rfl,e.1,e.2⟩
 |_::_::_::_,e=>simp at e
def b5c{G:Hq}{R:K3}{a b:Z}{w:List Z}(h:R (.tup (b::w)) G):zSl (.tup (a::b::w)) (some 1) none G R:=b34 (by intro z;simp[HT.sIx]at z) (by rw[a8C];exact h)
def a52{r:Rw}{m:Int}:r.has m=(decide (r.b<=m)&&!over r m):=by
 unfold Rw.has over;cases r.e with
 |none=>rfl
 |some e=>
  simp only[bef]
  congr 1
  by_cases c:m<e
  ·rw[decide_eq_true c,decide_eq_false (by omega)];rfl
  ·rw[decide_eq_false c,decide_eq_true (by omega)];rfl
def srt{B:List Hd}(hs:B.Pairwise λx y=>x.b<=y.b){x y:Nat}{h o:Hd}(hx:B[x]?=some h)(hy:B[y]?=some o)(l:x<=y):h.b<=o.b:=by
 obtain⟨h1,e1⟩:=aZ.mp hx;obtain⟨h2,e2⟩:=aZ.mp hy
 by_cases c:x=y
 ·subst c;rw[hx]at hy;cases hy;exact bZ _
 ·rw[<- e1,<- e2];exact cA.mp hs x y h1 h2 (by omega)
def a8D{B:List Hd}(hs:B.Pairwise λx y=>x.b<=y.b){i:Nat}(hov:∀j<i,∀h l,B[j]?=some h->B[j+1]?=some l->over h.r l.b=true){t:Int}{h o:Hd}(hh:h∈B)(ho:o∈B)(ne:h≠o)(ah:h.r.has t=true)(ao:o.r.has t=true) :
  ∃l,B[i+1]?=some l/\l.b<=t:=by
 have go:∀(x y:Nat)(h o:Hd),x<y->B[x]?=some h->B[y]?=some o->h.r.has t=true->o.r.has t=true->∃l,B[i+1]?=some l/\l.b<=t:=λx y h o hxy hx hy ah ao=>by
  have hy2:=(aZ.mp hy).1;have ot:=a4P ao
  by_cases c:y<=i
  ·exfalso;have g1:=bh (l:=B) (i:=x+1) (by omega)
   have h1:=hov x (by omega) h _ hx g1;have h2:=srt hs g1 hy (by omega);have h3:=a31 (a2U (show (B[x+1]).b<=t from bI h2 ot) h1);rw[ah]at h3;cases h3
  ·have g1:=bh (l:=B) (i:=i+1) (by omega);exact⟨_,g1,bI (srt hs g1 hy (by omega)) ot⟩
 obtain⟨x,h1,e1⟩:=dE.mp hh;obtain⟨y,h2,e2⟩:=dE.mp ho;have e1:B[x]?=some h:=by rw[bh h1,e1]
 have e2:B[y]?=some o:=by rw[bh h2,e2]
 by_cases c:x<y
 ·exact go x y h o c e1 e2 ah ao
 ·by_cases c2:y<x
  ·exact go y x o h c2 e2 e1 ao ah
  ·have:x=y:=by omega
   subst this;rw[e1]at e2;exact absurd (bv.inj e2) ne
noncomputable def shF(m:Int)(h:Hd):Option (Int×Str):=if h.b<=m/\over h.r m=false then some (m,h.k) else none
def b0a{A B:List Hd}(hB:B.Perm A)(nd:A.Nodup)(gd:∀h∈A,h.r.good)(hs:B.Pairwise λx y=>x.b<=y.b){i:Nat}(hov:∀j<i,∀h l,B[j]?=some h->B[j+1]?=some l->over h.r l.b=true){h l:Hd}(h1:B[i]?=some h)(h2:B[i+1]?=some l)(h3:over h.r l.b=false):Shar A (B.filterMap (shF l.b)):=by
 have ndB:B.Nodup:=hB.nodup_iff.mpr nd;have hm:=bo h1;have lm:=bo h2;have hh:h.r.has l.b=true:=by rw[a52,h3,decide_eq_true (show h.r.b<=l.b from srt hs h1 h2 (by omega))];rfl
 have hl:l.r.has l.b=true:=a9S (gd l (hB.mem_iff.mp lm));have hne:h≠l:=λz=>by
  obtain⟨a1,e1⟩:=aZ.mp h1;obtain⟨a2,e2⟩:=aZ.mp h2;exact cA.mp ndB i (i+1) a1 a2 (by omega) (by rw[e1,e2,z])
 have mem:∀p:Int×Str,p∈B.filterMap (shF l.b)↔∃x∈B,x.r.has l.b=true/\p=(l.b,x.k):=λp=>by
  rw[bW]
  constructor
  ·rintro⟨x,hx,e⟩;unfold shF at e
   split at e
   ·next c=>cases e;exact⟨x,hx,by rw[a52,c.2,decide_eq_true (show x.r.b<=l.b from c.1)];rfl,rfl⟩
   ·cases e
  ·rintro⟨x,hx,c,rfl⟩;refine⟨x,hx,?_⟩;rw[a52,bS,decide_eq_true_eq,fx]at c;unfold shF;rw[if_pos ⟨c.1,c.2⟩]
 refine⟨λp hp=>?_,λt h' o' hh' ho' ne ah ao=>?_,be (cx _ _) (by rw[hB.length_eq];exact aV _)⟩
 ·obtain⟨x,hx,hx2,rfl⟩:=(mem p).mp hp;refine⟨x,hB.mem_iff.mp hx,rfl,hx2,?_,l,hB.mem_iff.mp lm,rfl⟩
  by_cases c:x=h
  ·exact⟨l,hB.mem_iff.mp lm,by rw[c];exact Ne.symm hne,hl⟩
  ·exact⟨h,hB.mem_iff.mp hm,Ne.symm c,hh⟩
 ·obtain⟨l',e1,e2⟩:=a8D hs hov (hB.mem_iff.mpr hh') (hB.mem_iff.mpr ho') ne ah ao;rw[h2]at e1;cases e1
  by_cases c:l.b=t
  ·exact⟨(l.b,h'.k),(mem _).mpr ⟨h',hB.mem_iff.mpr hh',by rw[c];exact ah,rfl⟩,.inr ⟨c,rfl⟩⟩
  ·exact⟨(l.b,h.k),(mem _).mpr ⟨h,hm,hh,rfl⟩,.inl (by show l.b<t;omega)⟩
def b2k{A B:List Hd}(hB:B.Perm A)(hs:B.Pairwise λx y=>x.b<=y.b)(hov:∀j<B.length,∀h l,B[j]?=some h->B[j+1]?=some l->over h.r l.b=true):Shar A []:=⟨λp h=>by simp at h,λt h o hh ho ne ah ao=>by
 obtain⟨l,e,_⟩:=a8D hs hov (hB.mem_iff.mpr hh) (hB.mem_iff.mpr ho) ne ah ao
 have:=(aZ.mp e).1
 omega,by simp⟩
def a15(a:Ad):P3:=λws G R=>∃(p:Addr)(A:List Hd),ws=[.ref p]/\G p=some (.lst (A.map Hd.z))/\A.length<=500/\A.Nodup/\(∀h∈A,h.r.good)/\G a.tP=some lamO /\
 ∀(t:Addr)(Ps:List (Int×Str))(G':Hq),G t=none->Sm G G'->G' t=some (.lst (Ps.map plZ))->Shar A Ps->R (.ref t) G'
def a16(T:Txt K mg base a):Cal P w K mg base CX0 5 "places_shared" (lowP K (a15 a)):=by
 refine fnc 1 (N:=["holders","rising","holder","later","moment"]) T.br (T.f 10 _ rfl) ?_ (len:=λws G R h=>(by obtain⟨_,_,rfl,_⟩:=h;rfl));walk_at "in";refine⟨_,(a0g (by ac_rfl)
  (a0g (a05 (pt:=(.tp [2,3])) fT.never rfl (b1J (n:=2) zok2 (by decide) rfl (T.b 4) (by ac_rfl) (he:=se_ rfl) (hpl:=hp_ rfl)) (by ac_rfl)
  (a0g (by ac_rfl)
  (a0s (z_if (by ac_rfl)
  (a0s (a2d (q_l ["each","moment"] [none,some 4] (.nm 0))))
  a1Q))))
  (by ac_rfl))),?_⟩
 obtain⟨p,A',rfl,gp,hl,nd',gd,gT,q⟩:=h;symm;refine⟨p,A',rfl,gp,by omega,gT,λt B ht hB hs=>?_⟩;generalize eB:put G t (.lst (B.map Hd.z))=G1;obtain⟨gt,s1⟩:=newK eB ht;symm;refine b6t gt λc hc=>?_;rw[a8C];generalize ec:put G1 c (.lst ((B.map Hd.z).drop 1))=G2;obtain⟨gc,s2⟩:=newK ec hc;have gt2:=s2 _ _ gt;symm;have hsrc:∀G':Hq,G'=G2->[Z.ref t,Z.ref c].map (srcZ G')=[B.map Hd.z,(B.map Hd.z).drop 1].map some:=λG' e=>by
  subst e;simp only[aY,bB,srcZ,gt2,gc]
 have lB:=hB.length_eq;have nx:∀{i:Nat}{x:Z},((B.map Hd.z).drop 1)[i]?=some x->∃l,B[i+1]?=some l/\x=l.z:=λ{i x} e=>by
  rw[dc,Nat.add_comm 1 i,aW]at e;cases e2:B[i+1]? with
  |none=>rw[e2]at e;cases e
  |some l=>rw[e2]at e;cases e;exact⟨l,rfl,rfl⟩
 refine⟨_,hsrc G2 rfl,by simp,rfl,?_⟩;refine a0z (λi σ G'=>∃v2 v3 v4:Option Z,(∀j<i,∀h l,B[j]?=some h->B[j+1]?=some l->over h.r l.b=true)/\G'=G2/\σ=[some (.ref p),some (.ref t),v2,v3,v4]) ⟨_,_,_,λj hj=>by omega,rfl,rfl⟩ (by rintro i σ G' _ ⟨_,_,_,_,e,_⟩;exact hsrc G' e) ?_ ?_
 ·rintro i x σ G' hx ⟨v2,v3,v4,hov,rfl,rfl⟩;obtain⟨x1,x2,rfl,e1,e2⟩:=zip2 hx;obtain⟨l,el,rfl⟩:=nx e2;rw[aW]at e1;cases eh:B[i]? with
  |none=>rw[eh]at e1;cases e1
  |some h=>
  rw[eh]at e1;cases e1;refine⟨_,rfl,?_⟩;symm;refine a0O at1 ?_;symm;refine b5c ?_;symm;refine⟨⟨h.b,h.e,[]⟩,l.b,rfl,?_⟩;have eo:over ⟨h.b,h.e,[]⟩ l.b=over h.r l.b:=rfl;rw[eo];cases ho:over h.r l.b with
  |true=>
   symm;refine⟨_,_,_,λj hj h' l' f1 f2=>?_,rfl,rfl⟩
   by_cases c:j<i
   ·exact hov j c h' l' f1 f2
   ·have:j=i:=by omega
    subst this;rw[eh]at f1;rw[el]at f2;cases f1;cases f2;exact ho
  |false=>
   symm;refine a1R gt2 ?_;intro C hC;refine a2h (g':=plZ) (shF l.b) (λys=>a0c gt2 hC) (by omega) ?_ ?_
   ·intro y hy ys K1 K2 k1 k2;refine⟨_,rfl,?_⟩;symm;refine a0O at1 ?_;symm;refine ifD (λc1=>?_) λc1=>?_
    ·symm;refine b5c ?_;symm;refine⟨⟨y.b,y.e,[]⟩,l.b,rfl,?_⟩;have eo2:over ⟨y.b,y.e,[]⟩ l.b=over y.r l.b:=rfl;rw[eo2];cases ho2:over y.r l.b with
     |true=>
      symm;exact k2 (if_neg λz=>by rw[ho2]at z;cases z.2)
     |false=>
      symm;refine a0O at0 ?_;symm;exact⟨lenK rfl,k1 _ (if_pos ⟨c1,ho2⟩)⟩
    ·refine ifF ?_;exact k2 (if_neg λz=>c1 z.1)
   ·exact q C _ _ ((s1.trans s2).free hC) ((s1.trans s2).trans (Sm.new hC)) a0a (b0a hB nd' gd hs hov eh el ho)
 ·rintro σ G' ⟨v2,v3,v4,hov,rfl,rfl⟩;symm;refine⟨lenK rfl,λX hX=>?_⟩;refine q X [] _ ((s1.trans s2).free hX) ((s1.trans s2).trans (Sm.new hX)) a0a (b2k hB hs λj _ h l e1 e2=>hov j ?_ h l e1 e2)
  have:(zipZ [B.map Hd.z,(B.map Hd.z).drop 1])[j]?=some (.tup [h.z,l.z]):=(a1X _ (by simp) j _).mpr ⟨[h.z,l.z],rfl,by
   simp only[aY,bB,dc,aW,Nat.add_comm 1 j,e1,e2,cJ]⟩
  exact (aZ.mp this).1
noncomputable def L0(L:List Rw):List Rw:=L.map λr=>⟨r.b,r.e,[]⟩
def has0{r:Rw}{t:Int}:(⟨r.b,r.e,[]⟩:Rw).has t=r.has t:=rfl
def b5d{L:List Rw}(h:Rise L):Rise (L0 L):=⟨λr hr=>by
 obtain⟨s,hs,rfl⟩:=bu.mp hr;exact h.1 s hs,bV.mpr (h.2.imp λ{r s} ⟨e,a,b⟩=>⟨e,a,b⟩)⟩
def val0{L:List Rw}{t:Int}:val (L0 L) t=none↔val L t=none:=by
 unfold L0
 induction L with
 |nil=>exact Iff.rfl
 |cons r L ih=>
  rw[aY,a0F,a0F,has0];cases r.has t with
  |true=>simp
  |false=>simpa using ih
def jn_e{told:List Rw}{p r:Rw}(h:r∈jn told p):(∃s∈told,s.e=r.e)\/r.e=p.e:=by
 unfold jn at h
 split at h
 ·split at h
  ·rcases aU.mp h with h |h
   ·exact .inl ⟨r,et _ h,rfl⟩
   ·rw[aX.mp h];exact .inr rfl
  ·rcases aU.mp h with h |h
   ·exact .inl ⟨r,h,rfl⟩
   ·rw[aX.mp h];exact .inr rfl
 ·rcases aU.mp h with h |h
  ·exact .inl ⟨r,h,rfl⟩
  ·rw[aX.mp h];exact .inr rfl
def b5e{r:Rw}:∀(ps told:List Rw),r∈ps.foldl jn told->(∃s∈told,s.e=r.e)\/∃s∈ps,s.e=r.e:=by
 intro ps
 induction ps with
 |nil=>exact λtold h=>.inl ⟨r,h,rfl⟩
 |cons p ps ih=>
  intro told h;rcases ih (jn told p) h with ⟨s,h1,h2⟩ |⟨s,h1,h2⟩
  ·rcases jn_e h1 with ⟨q,h3,h4⟩ |h3
   ·exact .inl ⟨q,h3,h4.trans h2⟩
   ·exact .inr ⟨p,.head _,h3.symm.trans h2⟩
  ·exact .inr ⟨s,.tail _ h1,h2⟩
def b5f{L:List Rw}{r:Rw}(h:r∈join (L0 L)):∃s∈L,s.e=r.e:=by
 rcases b5e _ _ h with ⟨s,h1,_⟩ |⟨s,h1,h2⟩
 ·simp at h1
 ·obtain⟨q,h3,rfl⟩:=bu.mp h1;exact⟨q,h3,h2⟩
def b5g{r:Rw}:∀(ps told:List Rw),(∀s∈told,s.w=[])->(∀s∈ps,s.w=[])->r∈ps.foldl jn told->r.w=[]:=by
 intro ps
 induction ps with
 |nil=>exact λtold h _ hr=>h r hr
 |cons p ps ih=>
  intro told h h' hr;refine ih (jn told p) (λs hs=>?_) (λs hs=>h' s (.tail _ hs)) hr;unfold jn at hs
  split at hs
  ·split at hs
   ·rcases aU.mp hs with hs |hs
    ·exact h s (et _ hs)
    ·rw[aX.mp hs];exact h' p (.head _)
   ·rcases aU.mp hs with hs |hs
    ·exact h s hs
    ·rw[aX.mp hs];exact h' p (.head _)
  ·rcases aU.mp hs with hs |hs
   ·exact h s hs
   ·rw[aX.mp hs];exact h' p (.head _)
def gap0{J:List Rw}(h:Can J)(w:∀r∈J,r.w=[]){r:Rw}(hr:r∈J){x:Int}(e:r.e=some x):val J x=none:=by
 refine a3V λs hs=>?_;obtain⟨a,b,rfl⟩:=cS hr;have pw:=bA.mp h.2;have g:r.b<x:=by have:bef r.b r.e=true:=h.1 r hr;rw[e]at this;simpa[bef]using this
 rcases aU.mp hs with hs |hs
 ·obtain⟨e',h1,h2,_⟩:=pw.2.2 s hs r (.head _);unfold Rw.has;rw[h1];simp only[bef];rw[decide_eq_false (show ¬ x<e' by omega),dv]
 ·rcases bf.mp hs with rfl |hs
  ·unfold Rw.has;rw[e];simp[bef]
  ·obtain⟨e',h1,h2,h3⟩:=(bD.mp pw.2.1).1 s hs;rw[e]at h1;cases h1
   have:x≠s.b:=λz=>h3 z (by rw[w r hr,w s (by simp[hs])])
   exact a5S (by omega)
noncomputable def rcF(J:List Rw)(b:Int):Option Int:=match J.find? (·.has b) with
 |some r=>r.e
 |none=>some b
noncomputable def plF(J:List Rw)(h:Hd):Option (Int×Str):=if emin h.e (rcF J h.b)=h.e then none else (rcF J h.b).map λx=>(x,h.k)
structure With (A:List Hd) (L:List Rw) (Ps:List (Int×Str)):Prop where
 yes:∀p∈Ps,∃h∈A,h.k=p.2/\h.r.has p.1=true/\val L p.1=none/\((∃x∈A,p.1=x.b)\/∃r∈L,r.e=some p.1)
 all:∀t h,h∈A->h.r.has t=true->val L t=none->∃p∈Ps,p.1<=t/\p.2=h.k
 len:Ps.length<=A.length
def a8E{e:Option Int}{r:Option Int}(h:emin e r≠e):∃x,r=some x/\bef x e=true:=by
 cases r with
 |none=>cases e<;>exact absurd rfl h
 |some x=>
  refine⟨x,rfl,?_⟩;cases e with
  |none=>rfl
  |some e=>
   simp only[emin,ne_eq,bv.injEq]at h;simp only[bef,decide_eq_true_eq]
   split at h<;>omega
def b2l{e:Option Int}{x:Int}(h:bef x e=true):emin e (some x)≠e:=by
 cases e with
 |none=>simp[emin]
 |some e=>
  simp only[bef,decide_eq_true_eq]at h;simp only[emin,ne_eq,bv.injEq]
  split<;>omega
def b2m{A B:List Hd}{L:List Rw}(hB:B.Perm A)(gd:∀h∈A,h.r.good)(hL:Rise L):With A L (B.filterMap (plF (join (L0 L)))):=by
 have jk:=a3W (b5d hL);have jw:∀r∈join (L0 L),r.w=[]:=λr hr=>b5g _ _ (λs h=>by simp at h) (λs hs=>by obtain⟨q,_,rfl⟩:=bu.mp hs;rfl) hr;have jv:∀t,val (join (L0 L)) t=none↔val L t=none:=λt=>by rw[jk.2.1 t];exact val0
 have je:∀r∈join (L0 L),∃s∈L,s.e=r.e:=λr hr=>b5f hr;generalize join (L0 L)=J at jk jw jv je;have rc:∀b,(val J b=none/\rcF J b=some b)\/∃r∈J,r.has b=true/\rcF J b=r.e:=λb=>by
  unfold rcF val;cases e:J.find? (·.has b) with
  |none=>exact .inl ⟨rfl,rfl⟩
  |some r=>exact .inr ⟨r,dO e,by have:=dP e;exact this,rfl⟩
 refine⟨λp hp=>?_,λt h hh ht hv=>?_,be (cx _ _) (by rw[hB.length_eq];exact aV _)⟩
 ·obtain⟨h,hh,e⟩:=bW.mp hp;have hA:=hB.mem_iff.mp hh;unfold plF at e
  split at e
  ·cases e
  ·next c=>
   obtain⟨x,ex,hx⟩:=a8E c;rw[ex]at e;cases e;refine⟨h,hA,rfl,?_⟩;rcases rc h.b with ⟨h1,h2⟩ |⟨r,h1,h2,h3⟩
   ·rw[ex]at h2;cases h2;exact⟨a9S (gd h hA),(jv _).mp h1,.inl ⟨h,hA,rfl⟩⟩
   ·rw[ex]at h3;have hb:h.b<x:=by
     unfold Rw.has at h2;rw[<- h3]at h2;simp only[bef,bS,decide_eq_true_eq]at h2;exact h2.2
    obtain⟨s,s1,s2⟩:=je r h1;refine⟨?_,(jv _).mp (gap0 jk.1 jw h1 h3.symm),.inr ⟨s,s1,s2.trans h3.symm⟩⟩;unfold Rw.has
    show (decide (h.b<=x)&&bef x h.e)=true
    rw[hx,decide_eq_true (by omega)];rfl
 ·have hb:=a4P ht;have hb:h.b<=t:=hb;have he:bef t h.e=true:=by unfold Rw.has at ht;rw[bS]at ht;exact ht.2
  have fin:∀x,rcF J h.b=some x->x<=t->∃p∈B.filterMap (plF J),p.1<=t/\p.2=h.k:=λx ex hx=>by
   refine⟨(x,h.k),bW.mpr ⟨h,hB.mem_iff.mpr hh,?_⟩,hx,rfl⟩;unfold plF;rw[ex,if_neg (b2l ?_)]
   ·rfl
   ·cases e:h.e with
    |none=>rfl
    |some y=>rw[e]at he;simp only[bef,decide_eq_true_eq]at he ⊢;omega
  rcases rc h.b with ⟨h1,h2⟩ |⟨r,h1,h2,h3⟩
  ·exact fin _ h2 hb
  ·have nt:r.has t=false:=by
    cases c:r.has t with
    |false=>rfl
    |true=>
     have:=(jv t).mpr hv
     unfold val at this;rw[Option.map_eq_none_iff,eu]at this;exact absurd c (this r h1)
   have rb:=a4P h2;cases e:r.e with
   |none=>unfold Rw.has at nt;rw[e,decide_eq_true (show r.b<=t by omega)]at nt;simp[bef]at nt
   |some x=>
    refine fin x (h3.trans e) ?_;unfold Rw.has at nt;rw[e,decide_eq_true (show r.b<=t by omega)]at nt;simpa[bef]using nt
def a4Q{m:Int}{l:List Rw}{k:Nat}(h:∀(i:Nat) r,i<k->l[i]?=some r->over r m=true):l.find? (·.has m)=(l.drop k).find? (·.has m):=by
 induction k generalizing l with
 |zero=>rfl
 |succ k ih=>
  cases l with
  |nil=>rfl
  |cons r l=>
   rw[bO,a31 (h 0 r (by omega) rfl),fw];exact ih λi s hi e=>h (i+1) s (by omega) (by simpa using e)
def b6Y{J:List Rw}(hJ:Rise J){m:Int}{k:Nat}(h:∀(i:Nat) r,i<k->J[i]?=some r->over r m=true){r:Rw}(e:J[k]?=some r)(o:over r m=false):rcF J m=if r.b<=m then r.e else some m:=by
 unfold rcF;rw[a4Q h,drop_get e,bO,a52,o]
 by_cases c:r.b<=m
 ·rw[decide_eq_true c,if_pos c];rfl
 ·rw[decide_eq_false c,if_neg c]
  have:(J.drop (k+1)).find? (·.has m)=none:=by
   rw[eu];intro s hs;have hd:=hJ.drop k;rw[drop_get e]at hd
   have:=((bD.mp hd.2).1 s hs).b (hd.1 r (.head _))
   rw[a5S (by omega)];simp
  simp only[en,this]
def b5h{J:List Rw}{m:Int}{k:Nat}(h:∀(i:Nat) r,i<k->J[i]?=some r->over r m=true)(e:J.length<=k):rcF J m=some m:=by
 unfold rcF;rw[a4Q h,cM e];rfl
def b6Z{G:Hq}{R:K3}{x y:Option Int}(h:R (.bl (!decide (x=y))) G):zEq not (oz x) (oz y) G R:=by
 cases x with
 |none=>
  cases y with
  |none=>exact (show flat 8 Z.non=true/\flat 8 Z.non=true/\R (.bl (!decide (Z.non=Z.non))) G from ⟨a1e,a1e,by rw[decide_eq_true rfl]at h ⊢;exact h⟩)
  |some y=>exact (show flat 8 Z.non=true/\flat 8 (Z.int y)=true/\R (.bl (!decide (Z.non=Z.int y))) G from ⟨a1e,a3Y,by rw[decide_eq_false (by simp)]at h ⊢;exact h⟩)
 |some x=>
  cases y with
  |none=>exact (show flat 8 (Z.int x)=true/\flat 8 Z.non=true/\R (.bl (!decide (Z.int x=Z.non))) G from ⟨a3Y,a1e,by rw[decide_eq_false (by simp)]at h ⊢;exact h⟩)
  |some y=>
   have e:decide (some x=some y)=decide (x=y):=a0B (by simp);rw[e]at h;exact h
def a1M(a:Ad):P3:=λws G R=>Ex4 λ(p l:Addr) (A:List Hd) (L:List Rw)=>ws=[.ref p,.ref l]/\G p=some (.lst (A.map Hd.z))/\G l=some (.lst (L.map Rw.z))/\A.length<=500/\(∀h∈A,h.r.good)/\Rise L/\One L/\L.length<=500/\G a.tP=some lamO /\
 ∀(t:Addr)(Ps:List (Int×Str))(G':Hq),G t=none->Sm G G'->G' t=some (.lst (Ps.map plZ))->With A L Ps->R (.ref t) G'
def a0W(T:Txt K mg base a):Cal P w K mg base CX0 5 "places_without" (lowP K (a1M a)):=by
 refine fnc 2 (N:=["holders","line","standing","places","at","key","begin","end","reach"]) T.br (T.f 11 _ rfl) ?_ (len:=λws G R h=>(by obtain⟨_,_,_,_,rfl,_⟩:=h;rfl));walk_at "in";refine⟨_,(a0g (z_st (nmI 2 nd) (q_c (a0H T) hr (q_k (q_l ["begin","end","worth"] [none,none,none] (.tp [0,1,2])) a0y) ))
  (a0g (by ac_rfl)
  (a0g (by ac_rfl)
  (a0g (a05 (pt:=(.tp [5,6,7])) fT.never rfl (by ac_rfl) (by ac_rfl)
  (a3C (a7s fT.never (by ac_rfl)
  (by ac_rfl))
  (by ac_rfl)))
  (by ac_rfl))))),?_⟩
 obtain⟨p,l,A',L,rfl,gp,gl,hA,gd,hL,oL,lL,gT,q⟩:=h;symm;refine a1R gl ?_;intro C hC;refine a2h (g':=Rw.z) (λr=>some (⟨r.b,r.e,[]⟩:Rw)) (λys=>a0c gl hC) (by omega) ?_ ?_
 ·intro r hr ys K1 K2 k1 k2;obtain⟨x,hx⟩:=oL r hr;obtain⟨b,e,w⟩:=r;cases hx;refine⟨_,rfl,?_⟩;symm;exact⟨lenK rfl,k1 _ rfl⟩
 rw[List.filterMap_eq_map'];have eL:L.map (λr=>(⟨r.b,r.e,[]⟩:Rw))=L0 L:=rfl;rw[eL];generalize eC:put G C (.lst ((L0 L).map Rw.z))=G1;obtain⟨gC,s1⟩:=newK eC hC;symm;refine⟨C,L0 L,rfl,gC,λr hr=>?_,by unfold L0;rw[aT];omega,λS hS=>?_⟩
 ·obtain⟨s,_,rfl⟩:=bu.mp hr;exact⟨by simp,rfl⟩
 have jk:=a3W (b5d hL);have lJ:(join (L0 L)).length<=500:=be jk.2.2.1 (by unfold L0;rw[aT];exact lL);have wo:=λB hB=>b2m (A:=A') (B:=B) (L:=L) hB gd hL;generalize join (L0 L)=J at jk lJ wo;generalize eS:put G1 S (.lst (J.map Rw.z))=G2;obtain⟨gS,s2⟩:=newK eS hS;symm;refine⟨lenK rfl,λW hW=>?_⟩;generalize eW:put G2 W (.lst [])=G3;obtain⟨gW,s3⟩:=newK eW hW;have s03:=(s1.trans s2).trans s3;symm;refine⟨p,A',rfl,s03 _ _ gp,by omega,s03 _ _ gT,λt B ht hB hs=>?_⟩;generalize eB:put G3 t (.lst (B.map Hd.z))=G4;obtain⟨gt,s4⟩:=newK eB ht;have gS4:=s4 _ _ (s3 _ _ gS);have gW4:=s4 _ _ gW;have nWS:S≠W:=a0b gS hW;have nWt:t≠W:=Ne.symm (a0b gW ht);have GW:G W=none:=(s1.trans s2).free hW;have lB:=hB.length_eq;refine a1R gt ?_;have gS5:∀o,put G4 W o S=some (.lst (J.map Rw.z)):=λo=>by rw[a0f nWS];exact gS4
 refine a0z (λi σ G'=>Ex5 λ(k:Nat) (v5 v6 v7 v8:Option Z)=>k<=J.length/\(∀(j:Nat) r h,j<k->J[j]?=some r->B[i]?=some h->over r h.b=true)/\σ=[some (.ref p),some (.ref l),some (.ref S),some (.ref W),some (.int k),v5,v6,v7,v8]/\G'=put G4 W (.lst (((B.take i).filterMap (plF J)).map plZ)))
  ⟨0,_,_,_,_,bE _,λj r h hj=>absurd hj (Nat.not_lt_zero j),rfl,(a2x gW4).symm⟩ (by rintro i σ G' _ ⟨_,_,_,_,_,_,_,_,e⟩;rw[e,a0f nWt];exact gt) ?_ ?_
 ·rintro i x σ G' hx ⟨k,v5,v6,v7,v8,hk,hov,rfl,rfl⟩;rw[aW]at hx;cases hx':B[i]? with
  |none=>rw[hx']at hx;cases hx
  |some h=>
  rw[hx']at hx;cases hx;have hi:=(aZ.mp hx').1;refine⟨_,rfl,?_⟩;have gS':=gS5 (.lst (((B.take i).filterMap (plF J)).map plZ));have gW':put G4 W (.lst (((B.take i).filterMap (plF J)).map plZ)) W=some (.lst (((B.take i).filterMap (plF J)).map plZ)):=a0a;have pp:∀o,put (put G4 W (.lst (((B.take i).filterMap (plF J)).map plZ))) W o=put G4 W o:=λo=>a0Q;have e5:=a1m (f:=plF J) hx';have l5:((B.take i).filterMap (plF J)).length<=500:=be (cx _ _) (by rw[bC];omega);generalize put G4 W (.lst (((B.take i).filterMap (plF J)).map plZ))=G5 at gS' gW' pp ⊢;generalize (B.take i).filterMap (plF J)=P5 at gW' e5 l5;rw[e5];refine a3H (fun σ' G'=>∃k':Nat,k'<=J.length/\(∀(j:Nat) r,j<k'->J[j]?=some r->over r h.b=true)/\(∀r,J[k']?=some r->over r h.b=false)/\σ'=[some (.ref p),some (.ref l),some (.ref S),some (.ref W),some (.int k'),some (.str h.k),some (.int h.b),some (oz h.e),v8]/\G5=G') ?_ ?_
  ·refine⟨λn σ' G'=>∃k':Nat,n+k'=J.length/\(∀(j:Nat) r,j<k'->J[j]?=some r->over r h.b=true)/\σ'=[some (.ref p),some (.ref l),some (.ref S),some (.ref W),some (.int k'),some (.str h.k),some (.int h.b),some (oz h.e),v8]/\G5=G',⟨J.length-k,k,by omega,λj r hj e=>hov j r h hj e hx',rfl,rfl⟩,?_⟩;rintro n σ' G' ⟨k',hn,ho,rfl,rfl⟩;symm;refine a4m gS' ?_;symm;refine ifD (λc=>?_) λc=>?_
   ·rw[aT]at c;have hlt:k'<J.length:=by omega
    have hg:=bh hlt;symm;refine a1w gS' (a2i hg) ?_;symm;refine⟨_,_,rfl,?_⟩;symm;refine ifB (λc2=>?_) λc2=>?_
    ·symm;refine⟨n-1,by omega,k'+1,by omega,λj r hj e=>?_,rfl,rfl⟩
     by_cases hjk:j<k'
     ·exact ho j r hjk e
     ·have:j=k':=by omega
      subst this;rw[hg]at e;cases e;exact c2
    ·exact⟨k',by omega,ho,λr e=>by rw[hg]at e;cases e;exact c2,rfl,rfl⟩
   ·rw[aT]at c;refine ifF ?_;exact⟨k',by omega,ho,λr e=>by have:=(aZ.mp e).1;omega,rfl,rfl⟩
  ·rintro σ' G' ⟨k',hk',ho,hn,rfl,rfl⟩;have nxt:∀(j:Nat) r h',j<k'->J[j]?=some r->B[i+1]?=some h'->over r h'.b=true:=λj r h' hj e e'=>a2U (srt hs hx' e' (by omega)) (ho j r hj e);have fin:∀v8:Option Z,∀G':Hq,G'=put G4 W (.lst ((P5++(plF J h).toList).map plZ))->Ex5 λ(k:Nat) (v5 v6 v7 v8':Option Z)=>k<=J.length/\(∀(j:Nat) r h,j<k->J[j]?=some r->B[i+1]?=some h->over r h.b=true)/\[some (.ref p),some (.ref l),some (.ref S),some (.ref W),some (.int k'),some (.str h.k),some (.int h.b),some (oz h.e),v8]=[some (.ref p),some (.ref l),some (.ref S),some (.ref W),some (.int k),v5,v6,v7,v8']/\G'=put G4 W (.lst ((P5++(plF J h).toList).map plZ)):=λv8 G' e=>⟨k',_,_,_,_,hk',nxt,rfl,e⟩;have idW:G5=put G4 W (.lst (P5.map plZ)):=by rw[<- pp];exact (a2x gW').symm
   have rest:∀rc:Option Int,rcF J h.b=rc->uIfS (a6i (uOp (zEq not) (a9e a1h (a2z (uVar 7) (a2z (uVar 8) uNil))) (uVar 7))) (b1n (uBM "list" a2f (uVar 3) (a2z (uTup (a2z (uVar 8) (a2z (uVar 5) uNil))) uNil))) a9f
     (fun σ G'=>Ex5 λ(k:Nat) (v5 v6 v7 v8:Option Z)=>k<=J.length/\(∀(j:Nat) r h,j<k->J[j]?=some r->B[i+1]?=some h->over r h.b=true)/\σ=[some (.ref p),some (.ref l),some (.ref S),some (.ref W),some (.int k),v5,v6,v7,v8]/\G'=put G4 W (.lst ((P5++(plF J h).toList).map plZ)))
     R (uRet (uVar 3) (λx G'=>R Z.non G') R (λx x_1=>False) λx x_1=>False)
     (fun σ G'=>Ex5 λ(k:Nat) (v5 v6 v7 v8:Option Z)=>k<=J.length/\(∀(j:Nat) r h,j<k->J[j]?=some r->B[i+1]?=some h->over r h.b=true)/\σ=[some (.ref p),some (.ref l),some (.ref S),some (.ref W),some (.int k),v5,v6,v7,v8]/\G'=put G4 W (.lst ((P5++(plF J h).toList).map plZ)))
     [some (.ref p),some (.ref l),some (.ref S),some (.ref W),some (.int k'),some (.str h.k),some (.int h.b),some (oz h.e),some (oz rc)] G5:=λrc erc=>by
    symm;refine⟨h.e,rc,rfl,?_⟩;symm;refine b6Z ?_
    by_cases c:emin h.e rc=h.e
    ·rw[decide_eq_true c];symm;refine fin _ _ ?_
     have:plF J h=none:=by unfold plF;rw[erc,if_pos c]
     rw[this,fC,bN];exact idW
    ·obtain⟨x,rfl,_⟩:=a8E c;rw[decide_eq_false c];symm;refine a1i gW' ?_;symm;refine⟨lenK rfl,?_⟩;symm;refine a0S gW' (by rw[aT];exact a0h (by omega)) ?_;refine fin _ _ ?_
     have:plF J h=some (x,h.k):=by unfold plF;rw[erc,if_neg c];rfl
     rw[pp,this,bt];rfl
   symm;refine a4m gS' ?_;symm;refine ifD (λc=>?_) λc=>?_
   ·rw[aT]at c;have hlt:k'<J.length:=by omega
    have hg:=bh hlt;have er:=b6Y jk.1.rise ho hg (hn _ hg);symm;refine a1w gS' (a2i hg) ?_;symm;refine a0O at0 ?_;symm;refine ifD (λc2=>?_) λc2=>?_
    ·symm;refine a1w gS' (a2i hg) ?_;symm;refine a0O at1 ?_;exact⟨_,rfl,rest _ (by rw[er,if_pos c2])⟩
    ·refine b1x (by with_unfolding_all rfl) ?_;exact⟨_,rfl,rest (some h.b) (by rw[er,if_neg c2])⟩
   ·rw[aT]at c;refine ifF ?_;refine b1x (by with_unfolding_all rfl) ?_;exact⟨_,rfl,rest (some h.b) (b5h ho (by omega))⟩
 ·rintro σ G' ⟨k,v5,v6,v7,v8,_,_,rfl,rfl⟩;rw[aT,bT];symm;exact q W _ _ GW (λb ob h=>by rw[a0f (a0b h GW)];exact s4 _ _ (s03 _ _ h)) a0a (wo B hB)
noncomputable def getW(d:Str):List Z->Str
 |[.str s]=>s
 |_=>d
noncomputable def hdOf(k:Str)(r:Rw):Hd:=⟨k,r.b,r.e,getW k r.w⟩
def a53{k:Str}{r:Rw}{w:Str}(h:r.w=[.str w]):hdOf k r=⟨k,r.b,r.e,w⟩/\(hdOf k r).r=r:=by
 cases r;simp only at h;subst h;exact⟨rfl,rfl⟩
def b2n{α:Type}[BEq α][LawfulBEq α]:∀{l B:List α},l.Nodup->(∀x∈l,x∈B)->l.length<=B.length:=by intro z0;induction z0 with
 |nil=>intro _ _ _;exact bE _
 |cons x l I0=>
  intro B h q;obtain⟨c,d⟩:=bX.mp h;have a:=q x (.head _)
  have:=I0 d λy b=>(List.mem_erase_of_ne (show y≠x from λe=>c (e▸b))).mpr (q y (.tail _ b))
  rw[List.length_erase_of_mem a]at this;have f:=List.length_pos_of_mem a;rw[bp]
  lia
structure HolD (B0 G:Hq) (d:Addr) (A:List Hd) (vs:List Str) (hkv:List (Key×Z)):Prop where
 at_:G d=some (.dK hkv)
 ks:hkv.map (·.1)=vs.map λs=>(Sum.inr s:Key)
 nd:vs.Nodup
 ln:∀w∈vs,∃l,valZ hkv (.inr w)=some (.ref l)/\G l=some (.lst ((A.filter λh=>decide (h.w=w)).map Hd.z))/\B0 l=none
 no:∀w,w∉vs->valZ hkv (.inr w)=none
 al:∀h∈A,h.w∈vs
 inj:∀w v l,valZ hkv (.inr w)=some (.ref l)->valZ hkv (.inr v)=some (.ref l)->w=v
 sm:Sm B0 G
 fr:B0 d=none
def HolD.keep(H:HolD B0 G d A vs hkv)(s:Sm G G'):HolD B0 G' d A vs hkv:=
 ⟨s _ _ H.at_,H.ks,H.nd,λw e=>by obtain⟨l,a,b,c⟩:=H.ln w e;exact⟨l,a,s _ _ b,c⟩,H.no,H.al,H.inj,H.sm.trans s,H.fr⟩
def HolD.len(H:HolD B0 G d A vs hkv):hkv.length=vs.length:=by have:=congrArg bM H.ks;simpa using this
def HolD.old(H:HolD B0 G d A vs hkv)(hw:h.w∈vs)(hl:valZ hkv (.inr h.w)=some (.ref l))(s:Sm G Gx):HolD B0 (put Gx l (.lst ((A.filter λx=>decide (x.w=h.w)).map Hd.z++[h.z]))) d (A++[h]) vs hkv:=by
 obtain⟨r,i,n,j⟩:=H.ln h.w hw;rw[hl]at i;cases i;have g:d≠l:=λz=>by have:=H.at_;rw[z,n]at this;cases this
 refine⟨by rw[a0f g];exact s _ _ H.at_,H.ks,H.nd,λw k=>?_,H.no,λx a=>?_,H.inj,λb o e=>?_,H.fr⟩
 ·obtain⟨m,f,q,p⟩:=H.ln w k
  by_cases c:w=h.w
  ·subst c;rw[hl]at f;refine⟨l,hl,?_,j⟩;rw[a0a,cC];simp
  ·refine⟨m,f,?_,p⟩;rw[a0f λz=>c (H.inj w h.w l (by grind) hl),cC,cc,if_neg (by simpa using λz=>c z.symm)];simpa using s _ _ q
 ·rcases aU.mp a with a |a
  ·exact H.al x a
  ·simp_all
 ·rw[a0f λz=>by rw[z,j]at e;cases e];exact s _ _ (H.sm _ _ e)
def HolD.new(H:HolD B0 G d A vs hkv)(hw:h.w∉vs)(ht:G t=none):HolD B0 (put (put (put G t (.lst [])) d (.dK (putZ hkv (.inr h.w) (.ref t)))) t (.lst [h.z])) d (A++[h]) (vs++[h.w]) (putZ hkv (.inr h.w) (.ref t)):=by
 have E:=H.no h.w hw;have p:∀b o,b≠d->G b=some o->put (put (put G t (.lst [])) d (.dK (putZ hkv (.inr h.w) (.ref t)))) t (.lst [h.z]) b=some o:=λb o F e=>by
  have m:=a0b e ht;rw[a0f m,a0f F,a0f m];exact e
 have m:∀w l,valZ hkv (.inr w)=some (.ref l)->l≠t:=λw l e z=>by
  by_cases c:w∈vs
  ·obtain⟨u,n,k,_⟩:=H.ln w c;rw[e]at n;cases n;rw[z,ht]at k;cases k
  ·rw[H.no w c]at e;cases e
 refine⟨by rw[a0f (a0b H.at_ ht),a0a],by rw[a1L E,bt,H.ks,bt];rfl,?_,λw i=>?_,λw i=>?_,λx j=>?_,λw v l g f=>?_,λb o e=>?_,H.fr⟩
 ·rw[cB];exact⟨H.nd,by simp,λa D b B z=>hw (by simp_all)⟩
 ·by_cases c:w=h.w
  ·subst c;refine⟨t,by rw[a1v,if_pos rfl],?_,(H.sm.free ht)⟩;rw[a0a,cC,List.filter_eq_nil_iff.mpr λx j=>by simpa using λz:x.w=h.w=>hw (z▸H.al x j)];simp
  ·have y:w∈vs:=by
    rcases aU.mp i with q |q
    ·exact q
    ·simp_all
   obtain⟨u,n,k,C⟩:=H.ln w y;refine⟨u,by rw[a1v,if_neg (λz=>c (by injection z))];exact n,?_,C⟩;rw[p _ _ (λz=>by rw[z,H.at_]at k;cases k) k,cC,cc,if_neg (by simpa using λz=>c z.symm)];simp
 ·rw[aU,not_or]at i;rw[a1v,if_neg (λz=>i.2 (by injection z with z;simp[z]))];exact H.no w i.1
 ·rcases aU.mp j with j |j
  ·exact bR _ (H.al x j)
  ·rw[aX.mp j];simp
 ·rw[a1v]at g f
  split at g<;>split at f
  ·grind
  ·injection g with g;injection g with g;exact absurd g.symm (m _ _ f)
  ·injection f with f;injection f with f;exact absurd f.symm (m _ _ g)
  ·exact H.inj _ _ _ g f
 ·exact p _ _ (λz=>by rw[z,H.fr]at e;cases e) (H.sm _ _ e)
def a5i{vs:List Str}{A:List Hd}(nd:vs.Nodup)(h:∀w∈vs,∃x∈A,x.w=w):vs.length<=A.length:=by
 have:=b2n nd λw a=>by
  obtain⟨x,b,c⟩:=h w a;exact bu.mpr ⟨x,b,c⟩
 simpa using this
def b0F{L:List Rw}(h:LnOk L){r:Rw}(hr:r∈L):∃w,r.w=[.str w]:=let ⟨s,e,_⟩:=h.2 r hr;⟨s,e⟩
noncomputable def hdT(T:List Tr):List Hd:=T.flatMap λx=>x.L.map (hdOf x.k)
def a2Z:P3:=λws G R=>∃(d:Addr)(T:List Tr),ws=[.ref d]/\G d=some (.dF (kvT T))/\LnAt G T/\TbOk 40 T/\∀(t:Addr)(vs:List Str)(hkv:List (Key×Z))(G':Hq),G t=none->HolD G G' t (hdT T) vs hkv->(∀w∈vs,∃x∈hdT T,x.w=w)->R (.ref t) G'
def a0X(T:Txt K mg base a):Cal P w K mg base CX0 1 "holders_in" (lowP K a2Z):=by
 refine fnc 1 (N:=["table","holders","key","begin","end","worth"]) T.br (T.f 8 _ rfl) ?_ (len:=λws G R h=>(by obtain⟨_,_,rfl,_⟩:=h;rfl));walk_at "in";refine⟨_,(a0g (z_st (nmI 1 nd) a2u)
  (a0g (a05 (pt:=(.nm 2)) fT.never rfl (a1J (qv 0)) (p_nm (nmI 2 nd))
  (a0s (a05 (pt:=(.tp [3,4,5])) fT.never rfl (a3E (q_ix a0v (qv 0) (qv 2) (λ_ _=>rfl))) (by ac_rfl)
  (by ac_rfl))))
  (by ac_rfl))),?_⟩
 obtain⟨d,T',rfl,gd,la,ok,q⟩:=h;have lA:(hdT T').length<=80:=by
  have e:(hdT T').length=(T'.flatMap Tr.L).length:=by unfold hdT;simp[ez]
  rw[e];exact ok.rows
 symm;intro D hD;refine⟨_,rfl,?_⟩;have ndD:d≠D:=a0b gd hD;symm;refine a5a (.inr (a0c gd hD)) ?_;rw[a2x (a0c gd hD)];have H0:HolD G (put G D (.dK [])) D [] [] []:=⟨a0a,rfl,.nil,λw h=>by simp at h,λ_ _=>rfl,λh hh=>by simp at hh,(λw v l e=>by cases e),Sm.new hD,hD⟩;have lnB:∀x∈T',valZ (kvT T') (.inr x.k)=some (.ref x.l)/\G x.l=some (.lst (x.L.map Rw.z)):=λx hx=>⟨a5Z ok.nd hx,la x hx⟩;have ek:((kvT T').map λp=>keyW p.1)=T'.map λx=>Z.str x.k:=by unfold kvT;rw[bJ];rfl
 generalize put G D (.dK [])=G1 at H0 ⊢;rw[ek];unfold hdT at lA q;refine a0z (λi σ G'=>Ex6 λ(vs:List Str) (hkv:List (Key×Z)) (v1 v2 v3 v4:Option Z)=>HolD G G' D ((T'.take i).flatMap λx=>x.L.map (hdOf x.k)) vs hkv/\(∀w∈vs,∃x∈(T'.take i).flatMap (λx=>x.L.map (hdOf x.k)),x.w=w)/\σ=[some (.ref d),some (.ref D),v1,v2,v3,v4]) ⟨[],[],_,_,_,_,H0,λw h=>by simp at h,rfl⟩ (λ_ _ _ _ _=>True.intro) ?_ ?_
 ·rintro i x σ G2 hx ⟨vs,hkv,v1,v2,v3,v4,H,hvs,rfl⟩;rw[aW]at hx;cases hx':T'[i]? with
  |none=>rw[hx']at hx;cases hx
  |some y=>
  rw[hx']at hx;cases hx;have hy:=bo hx';obtain⟨hv,gl⟩:=lnB y hy;have tk:((T'.take (i+1)).flatMap λx=>x.L.map (hdOf x.k))=((T'.take i).flatMap λx=>x.L.map (hdOf x.k))++y.L.map (hdOf y.k):=by rw[take_snoc hx',cD];simp
  have l1:((T'.take i).flatMap λx=>x.L.map (hdOf x.k)).length<=80:=be a36 lA;have l2:y.L.length<=80:=by have:=a02 hy;have:=ok.rows;omega
  generalize ((T'.take i).flatMap λx=>x.L.map (hdOf x.k))=A0 at H hvs tk l1;refine⟨_,rfl,?_⟩;symm;refine a0t (.inr (H.sm _ _ gd)) rfl hv ?_;symm;refine a1R (H.sm _ _ gl) ?_;refine a0z (λj σ G'=>Ex5 λ(vs:List Str) (hkv:List (Key×Z)) (v2 v3 v4:Option Z)=>HolD G G' D (A0++(y.L.take j).map (hdOf y.k)) vs hkv/\(∀w∈vs,∃x∈A0++(y.L.take j).map (hdOf y.k),x.w=w)/\σ=[some (.ref d),some (.ref D),some (.str y.k),v2,v3,v4]) ⟨_,_,_,_,_,by simpa using H,by simpa using hvs,rfl⟩ (by rintro i σ G' _ ⟨_,_,_,_,_,K,_⟩;exact K.sm _ _ gl) ?_ ?_
  ·rintro j x σ G3 hx ⟨vs,hkv,v2,v3,v4,H,hvs,rfl⟩;rw[aW]at hx;cases hr':y.L[j]? with
   |none=>rw[hr']at hx;cases hx
   |some r=>
   rw[hr']at hx;cases hx;have hj:=(aZ.mp hr').1;obtain⟨w,hw⟩:=b0F (ok.ok y hy).1 (bo hr');have hz:r.z=.tup [.int r.b,oz r.e,.str w]:=by unfold Rw.z;rw[hw]
   have eh:hdOf y.k r=⟨y.k,r.b,r.e,w⟩:=(a53 hw).1;have tk2:A0++(y.L.take (j+1)).map (hdOf y.k)=(A0++(y.L.take j).map (hdOf y.k))++[⟨y.k,r.b,r.e,w⟩]:=by rw[take_snoc hr',bt,<- eh];simp
   have l3:(A0++(y.L.take j).map (hdOf y.k)).length<=252:=by rw[bn,aT,bC];omega
   generalize A0++(y.L.take j).map (hdOf y.k)=A1 at H hvs tk2 l3;have lv:=a5i H.nd hvs;have lh:=H.len;rw[hz];refine⟨_,rfl,?_⟩;symm;refine a9C H.at_ ?_;symm;refine⟨lenK rfl,λt0 ht0=>?_⟩;symm;refine b0t (a0c H.at_ ht0) rfl (a0h (by omega)) (λz hz=>?_) λhz=>?_
   ·have hwv:w∈vs:=by
     by_cases c:w∈vs
     ·exact c
     ·have:=H.no w c;rw[hz]at this;cases this
    obtain⟨l',e1,e2,_⟩:=H.ln w hwv;rw[hz]at e1;cases e1;refine a1i (a0c e2 ht0) ?_;symm;refine⟨lenK rfl,?_⟩;symm;refine a0S (a0c e2 ht0) (by rw[aT];exact a0h (by have:=cf (λh:Hd=>decide (h.w=w)) A1;omega)) ?_;refine⟨vs,hkv,_,_,_,?_,λv hv'=>?_,rfl⟩
    ·rw[tk2];exact H.old (h:=⟨y.k,r.b,r.e,w⟩) hwv hz (Sm.new ht0)
    ·obtain⟨x,h1,h2⟩:=hvs v hv';exact⟨x,by rw[tk2];exact bR _ h1,h2⟩
   ·have hwv:w∉vs:=λc=>by
     obtain⟨l',e1,_⟩:=H.ln w c;rw[hz]at e1;cases e1
    have ndt:D≠t0:=a0b H.at_ ht0;have gt0:put (put G3 t0 (.lst [])) D (.dK (putZ hkv (.inr w) (.ref t0))) t0=some (.lst []):=by rw[a0f (Ne.symm ndt),a0a]
    refine a1i gt0 ?_;symm;refine⟨lenK rfl,?_⟩;symm;refine a0S gt0 (a0h (by simp)) ?_;refine⟨vs++[w],putZ hkv (.inr w) (.ref t0),_,_,_,by rw[tk2];exact H.new (h:=⟨y.k,r.b,r.e,w⟩) hwv ht0,λv hv'=>?_,rfl⟩
    ·rw[tk2];rcases aU.mp hv' with hv' |hv'
     ·obtain⟨x,h1,h2⟩:=hvs v hv';exact⟨x,bR _ h1,h2⟩
     ·exact⟨_,bK _ (List.mem_singleton_self _),(aX.mp hv').symm⟩
  ·rintro σ G3 ⟨vs,hkv,v2,v3,v4,H,hvs,rfl⟩;rw[aT,bT]at H hvs;symm;exact⟨vs,hkv,_,_,_,_,by rw[tk];exact H,by rw[tk];exact hvs,rfl⟩
 ·rintro σ G2 ⟨vs,hkv,v1,v2,v3,v4,H,hvs,rfl⟩;rw[aT,bT]at H hvs;symm;exact q D vs hkv G2 hD H hvs
noncomputable def pzR(p:Int×Str):List Tim.Pz:=[.inl (some p.1),.inr p.2]
def b60{p y:Int×Str}(h:Tim.ltT (pzR y) (pzR p)=false):p.1<y.1\/(p.1=y.1/\leS p.2 y.2):=by
 unfold pzR Tim.ltT at h
 by_cases c:y.1=p.1
 ·rw[if_pos (by rw[c])]at h;refine .inr ⟨c.symm,?_⟩;unfold Tim.ltT at h
  by_cases c2:y.2=p.2
  ·rw[c2];exact a14 _
  ·rw[if_neg (λz=>c2 (Sum.inr.inj z))]at h;rw[a33];exact of_decide_eq_false h
 ·rw[if_neg (λz=>c (bv.inj (Sum.inl.inj z)))]at h
  have:¬ y.1<p.1:=of_decide_eq_false h
  exact .inl (by omega)
def b2o{E:Int->Prop}{P:Int->Str->Prop}{Ps:List (Int×Str)}(yes:∀p∈Ps,E p.1/\P p.1 p.2)(all:∀t k,E t->P t k->∃p∈Ps,p.1<t\/(p.1=t/\leS p.2 k)) :
  (Ps=[]->Fst E P none)/\∀p∈Ps,(∀y∈Ps,Tim.ltT (pzR y) (pzR p)=false)->Fst E P (some p):=by
 constructor
 ·rintro rfl t k h1 h2;obtain⟨p,hp,_⟩:=all t k h1 h2;simp at hp
 ·intro p hp hm;obtain⟨h1,h2⟩:=yes p hp;refine⟨h1,h2,λt k g1 g2=>?_⟩;obtain⟨y,hy,h⟩:=all t k g1 g2;have hpy:=b60 (hm y hy);rcases hpy with a |⟨a,a'⟩
  ·rcases h with b |⟨b,_⟩<;>exact .inl (by omega)
  ·rcases h with b |⟨b,b'⟩
   ·exact .inl (by omega)
   ·exact .inr ⟨a.trans b,a4N a' b'⟩
def minP{E:Int->Prop}{P:Int->Str->Prop}{G1:Hq}{R:K3}{W:Addr}{Ps:List (Int×Str)}(gW:G1 W=some (.lst (Ps.map plZ)))(yes:∀p∈Ps,E p.1/\P p.1 p.2)(all:∀t k,E t->P t k->∃p∈Ps,p.1<t\/(p.1=t/\leS p.2 k))(q:∀z,Fst E P z->(∀t k,z=some (t,k)->(t,k)∈Ps)->R (fz z) G1) :
  ∃(p:Addr)(rows:List (List Tim.Pz))(m:Nat),Z.ref W=.ref p/\G1 p=some (.lst (rows.map tupZ))/\(∀x∈rows,x.length=m)/\(∀x∈rows,∀y∈rows,Tim.cmpT x y=true)/\(rows=[]->R .non G1)/\∀x∈rows,(∀y∈rows,Tim.ltT y x=false)->R (tupZ x) G1:=by
 have mf:=b2o yes all;have e:(Ps.map pzR).map tupZ=Ps.map plZ:=by rw[bJ];rfl
 refine⟨W,Ps.map pzR,2,rfl,by rw[e];exact gW,λx hx=>?_,λx hx y hy=>?_,λz=>q none (mf.1 (fE.mp z)) (λt k z=>by cases z),λx hx hm=>?_⟩
 ·obtain⟨p,_,rfl⟩:=bu.mp hx;rfl
 ·obtain⟨p,_,rfl⟩:=bu.mp hx;obtain⟨p',_,rfl⟩:=bu.mp hy;unfold pzR Tim.cmpT
  split
  ·unfold Tim.cmpT
   split
   ·rfl
   ·rfl
  ·rfl
 ·obtain⟨p,hp,rfl⟩:=bu.mp hx;exact q (some p) (mf.2 p hp λy hy=>hm _ (b8 hy)) λt k z=>by cases z;exact hp
def a2k{T:List Tr}(ok:TbOk 40 T){h:Hd}:h∈hdT T↔∃x∈T,x.k=h.k/\h.r∈x.L:=by
 unfold hdT;rw[dR]
 constructor
 ·rintro⟨x,hx,hm⟩;obtain⟨r,hr,rfl⟩:=bu.mp hm;obtain⟨w,hw⟩:=b0F (ok.ok x hx).1 hr;exact⟨x,hx,by rw[(a53 hw).1],by rw[(a53 hw).2];exact hr⟩
 ·rintro⟨x,hx,e,hr⟩;exact⟨x,hx,bu.mpr ⟨h.r,hr,by rw[(a53 (k:=x.k) (w:=h.w) rfl).1,e];rfl⟩⟩
def b2p{T:List Tr}(ok:TbOk 40 T){h:Hd}(hh:h∈hdT T){t:Int}(ht:h.r.has t=true):∃x∈T,x.k=h.k/\vS x.L t=some h.w:=by
 obtain⟨x,hx,e,hr⟩:=(a2k ok).mp hh;exact⟨x,hx,e,a8A (ok.ok x hx).1 hr ht rfl⟩
def b2q{T:List Tr}(ok:TbOk 40 T){x:Tr}(hx:x∈T){t:Int}{s:Str}(e:vS x.L t=some s):∃h∈hdT T,h.k=x.k/\h.w=s/\h.r.has t=true:=by
 obtain⟨r,hr,ht,hw⟩:=a8z (ok.ok x hx).1 e
 have:(⟨x.k,r.b,r.e,s⟩:Hd).r=r:=by cases r;simp only[Hd.r]at hw ⊢;rw[hw]
 exact⟨⟨x.k,r.b,r.e,s⟩,(a2k ok).mpr ⟨x,hx,rfl,by rw[this];exact hr⟩,rfl,rfl,by rw[this];exact ht⟩
def a8F{T:List Tr}(ok:TbOk 40 T){h:Hd}(hh:h∈hdT T):h.r.good:=by
 obtain⟨x,hx,_,hr⟩:=(a2k ok).mp hh;exact (ok.ok x hx).1.1.1 _ hr
def b0G{T:Bool->List Tr}{o:Bool}(ok:TbOk 40 (T o)){h:Hd}(hh:h∈hdT (T o)):h.r∈allR T:=by
 obtain⟨x,hx,_,hr⟩:=(a2k ok).mp hh;exact a51 hx hr
def a54{T:List Tr}(ok:TbOk 40 T):(hdT T).Nodup:=by
 unfold hdT;refine List.pairwise_flatMap.mpr ⟨λx hx=>?_,(bV.mp ok.nd).imp λ{x y} n a ha b hb z=>?_⟩
 ·refine bV.mpr (cH.imp_of_mem (λ{r s} hr hs q z=>?_) (ok.ok x hx).1.1.rise.2)
  have:=q.b ((ok.ok x hx).1.1.1 r hr)
  have e:r.b=s.b:=congrArg Hd.b z;omega
 ·obtain⟨_,_,rfl⟩:=bu.mp ha;obtain⟨_,_,rfl⟩:=bu.mp hb;exact n (congrArg Hd.k z)
def b2r{L:List Rw}(h:Rise L){r s:Rw}{t:Int}(hr:r∈L)(hs:s∈L)(h1:r.has t=true)(h2:s.has t=true):r=s:=by
 obtain⟨a,b,rfl⟩:=cS hr;have pw:=bA.mp h.2;rcases aU.mp hs with hs |hs
 ·rw[(pw.2.2 s hs r (.head _)).has h2]at h1;cases h1
 ·rcases bf.mp hs with hs |hs
  ·exact hs.symm
  ·rw[((bD.mp pw.2.1).1 s hs).has h1]at h2;cases h2
def b2s{T:List Tr}(ok:TbOk 40 T){h o:Hd}(hh:h∈hdT T)(ho:o∈hdT T){t:Int}(h1:h.r.has t=true)(h2:o.r.has t=true)(ne:h≠o):h.k≠o.k:=λe=>by
 obtain⟨x,hx,ex,hr⟩:=(a2k ok).mp hh;obtain⟨y,hy,ey,hs⟩:=(a2k ok).mp ho
 have:=a2w ok.nd hx hy (by rw[ex,ey,e])
 subst this
 have:=b2r (ok.ok x hx).1.1.rise hr hs h1 h2
 cases h;cases o;unfold Hd.r at this;simp_all
local macro_rules | `(tactic| walk_at "go1")=>`(tactic| with_reducible first | apply b4J | apply b4S)
def a1z(a:Ad):P3:=λws G R=>∃(s D:Addr),ws=[.ref s,.ref D]/\R .non G
def a04(T:Txt K mg base a):Mal P w K mg base CX0 1 a.c_Rule "broken" (lowP K (a1z a)):=by
 refine fnm 2 (N:=["self","tables"]) (T.m_Rule 0 _ rfl) ?_ (len:=λws G R h=>(by obtain⟨_,_,rfl,_⟩:=h;rfl));walk_at "in";refine⟨_,(by ac_rfl),?_⟩;obtain⟨s',D,rfl,q⟩:=h;symm;exact q
def a2l(a:Ad):P3:=λws G R=>∃(q dx:Addr)(n:Str),ws=[.ref q,.str n]/\G q=some (.ins a.c_Alone dx [])/\R .non (put G q (.ins a.c_Alone dx [("name",.str n)]))
def a2m(T:Txt K mg base a):Mal P w K mg base CX0 1 a.c_Alone "__init__" (lowP K (a2l a)):=by
 refine fnm 2 (N:=["self","name"]) (T.m_Alone 0 _ rfl) ?_ (len:=λws G R h=>(by obtain⟨_,_,_,rfl,_⟩:=h;rfl));walk_at "in";refine⟨_,(a0s (a9z T.cl_Alone (T.n_Alone 0 _ rfl) (qv 0) (qv 1))),?_⟩;obtain⟨p,dx,n,rfl,gp,q⟩:=h;symm;exact⟨p,dx,[],rfl,gp,by decide,q⟩
def a2n(a:Ad):P3:=λws G R=>∃(q dx:Addr)(n:Str),ws=[.ref q,.str n]/\G q=some (.ins a.c_Still dx [])/\R .non (put G q (.ins a.c_Still dx [("name",.str n)]))
def a2o(T:Txt K mg base a):Mal P w K mg base CX0 1 a.c_Still "__init__" (lowP K (a2n a)):=by
 refine fnm 2 (N:=["self","name"]) (T.m_Still 0 _ rfl) ?_ (len:=λws G R h=>(by obtain⟨_,_,_,rfl,_⟩:=h;rfl));walk_at "in";refine⟨_,(a0s (a9z T.cl_Still (T.n_Still 0 _ rfl) (qv 0) (qv 1))),?_⟩;obtain⟨p,dx,n,rfl,gp,q⟩:=h;symm;exact⟨p,dx,[],rfl,gp,by decide,q⟩
def a2p(a:Ad):P3:=λws G R=>Ex4 λ(q dx:Addr) (n m:Str)=>ws=[.ref q,.str n,.str m]/\G q=some (.ins a.c_Named dx [])/\R .non (put G q (.ins a.c_Named dx [("name",.str n),("other",.str m)]))
def a2q(T:Txt K mg base a):Mal P w K mg base CX0 1 a.c_Named "__init__" (lowP K (a2p a)):=by
 refine fnm 3 (N:=["self","name","other"]) (T.m_Named 0 _ rfl) ?_ (len:=λws G R h=>(by obtain⟨_,_,_,_,rfl,_⟩:=h;rfl));walk_at "in";refine⟨_,(a0g (a9z T.cl_Named (T.n_Named 0 _ rfl) (qv 0) (qv 1))
  (a0s (a9z T.cl_Named (T.n_Named 1 _ rfl) (qv 0) (qv 2)))),?_⟩
 obtain⟨p,dx,n,m,rfl,gp,q⟩:=h;symm;refine⟨p,dx,[],rfl,gp,by decide,?_⟩;symm;refine⟨p,dx,[("name",.str n)],rfl,a0a,by simp,?_⟩;rw[a0Q];exact q
def b5i{k:Key}{x:Z}{kvs:List (Key×Z)}{i:Nat}(nd:(kvs.map (·.1)).Nodup)(h:kvs[i]?=some (k,x)):valZ kvs k=some x:=by
 induction kvs generalizing i with
 |nil=>simp at h
 |cons p kvs ih=>
  rw[aY,bX]at nd;cases i with
  |zero=>
   have:p=(k,x):=by simpa using h
   subst this;unfold valZ;rw[bO,decide_eq_true rfl];rfl
  |succ i=>
   have h':kvs[i]?=some (k,x):=by simpa using h
   have:=ih nd.2 h'
   unfold valZ at this ⊢;rw[bO,decide_eq_false (λz=>nd.1 (by rw[z];exact bu.mpr ⟨_,bo h',rfl⟩))];exact this
def b0H{B0 G:Hq}{H:Addr}{A:List Hd}{vs:List Str}{hkv:List (Key×Z)}(hD:HolD B0 G H A vs hkv):∀(i:Nat) x,(hkv.map λx=>x.2)[i]?=some x->∃w,vs[i]?=some w/\hkv[i]?=some (.inr w,x)/\valZ hkv (.inr w)=some x:=λi x hx=>by
 rw[aW]at hx;cases e:hkv[i]? with
 |none=>rw[e]at hx;cases hx
 |some p=>
  rw[e]at hx;cases hx;have h1:(hkv.map (·.1))[i]?=some p.1:=by rw[aW,e];rfl
  rw[hD.ks,aW]at h1;cases e2:vs[i]? with
  |none=>rw[e2]at h1;cases h1
  |some w=>
   rw[e2]at h1;have ep:p.1=.inr w:=(bv.inj h1).symm;have e':hkv[i]?=some (.inr w,p.2):=by rw[e,<- ep]
   refine⟨w,rfl,by rw[<- ep],b5i ?_ e'⟩;rw[hD.ks];exact bV.mpr (hD.nd.imp λh z=>h (Sum.inr.inj z))
def a1p(a:Ad):P3:=λws G R=>Ex7 λ(q dx D:Addr) (o u:Bool) (d:Bool->Addr) (T:Bool->List Tr)=>ws=[.ref q,.ref D]/\G q=some (.ins a.c_Alone dx [("name",.str (nmB o))])/\TbsAt G D d T/\G a.tP=some lamO /\
 ∀(z:Option (Int×Str))(G':Hq),Sm G G'->Fst (IsEd (allR T)) (Br 1 (T o) (T u)) z->(∀t k,z=some (t,k)->nmOk k)->R (fz z) G'
def a0Y(T:Txt K mg base a):Mal P w K mg base CX0 6 a.c_Alone "broken" (lowP K (a1p a)):=by
 refine fnm 2 (N:=["self","tables","places","holders"]) (T.m_Alone 1 _ rfl) ?_ (len:=λws G R h=>(by obtain⟨_,_,_,_,_,_,_,rfl,_⟩:=h;rfl));walk_at "in";refine⟨_,(a0g (by ac_rfl)
  (a0g (a05 (pt:=(.nm 3)) fT.never rfl (a8f (q_c (a0X T) hr (q_k (q_ix a0v (qv 1) (a9y T.cl_Alone (T.n_Alone 0 _ rfl) (qv 0)) (λ_ _=>rfl)) a0y) )) (p_nm (nmI 3 nd))
  (by ac_rfl))
  (a0s (a2d (q_mn (T.b 0) hr (qv 2)))))),?_⟩
 obtain⟨p,dx,D,o,u,d,T',rfl,gp,ta,gT,q⟩:=h;have ok:=ta.ok o;symm;refine⟨lenK rfl,λW hW=>?_⟩;generalize eW:put G W (.lst [])=G1;obtain⟨gW,s1⟩:=newK eW hW;have ta1:=ta.sm s1;symm;refine⟨p,dx,_,.str (nmB o),rfl,s1 _ _ gp,rfl,?_⟩;refine a0t (.inr ta1.at_) rfl (a13 o) ?_;symm;refine⟨d o,T' o,rfl,ta1.tb o,ta1.ln o,ok,λH vs hkv G2 hH hD hvs=>?_⟩;have ndH:=a54 ok;have ltA:(hdT (T' o)).length<=80:=by
  have e:(hdT (T' o)).length=((T' o).flatMap Tr.L).length:=by unfold hdT;simp[ez]
  rw[e];exact ok.rows
 have lvs:vs.length<=80:=be (a5i hD.nd hvs) ltA;have gm:∀h∈hdT (T' o),h.r.good:=λh hh=>a8F ok hh;have nHW:W≠H:=a0b gW hH;have s2:=hD.sm;have gH:=hD.at_;have gW2:=s2 _ _ gW;refine a8g (.inl gH) ?_;generalize eH:put G2 H (.dF hkv)=G3;have kp3:∀b ob,b≠H->G2 b=some ob->G3 b=some ob:=λb ob n h=>by rw[<- eH,a0f n];exact h
 have s03:Sm G G3:=λb ob h=>kp3 b ob (a0b (s1 _ _ h) hH) (s2 _ _ (s1 _ _ h));have gW3:=kp3 W _ nHW gW2;have ln3:∀w∈vs,∃l,valZ hkv (.inr w)=some (.ref l)/\G3 l=some (.lst (((hdT (T' o)).filter λh=>decide (h.w=w)).map Hd.z))/\G1 l=none:=λw hw=>by
  obtain⟨l,h1,h2,h3⟩:=hD.ln w hw;exact⟨l,h1,kp3 _ _ (λz=>by rw[z,gH]at h2;cases h2) h2,h3⟩
 have hat:=b0H hD;refine a0z (λi σ G'=>∃(Ps:List (Int×Str))(v:Option Z),Kq W G3 G'/\G' W=some (.lst (Ps.map plZ))/\Ps.length<=80*i/\(∀p∈Ps,∃w∈vs.take i,∃Q,Shar ((hdT (T' o)).filter λh=>decide (h.w=w)) Q/\p∈Q)/\(∀w∈vs.take i,∃Q,Shar ((hdT (T' o)).filter λh=>decide (h.w=w)) Q/\∀p∈Q,p∈Ps)/\σ=[some (.ref p),some (.ref D),some (.ref W),v]) ⟨[],_,Kq.refl _ _,gW3,by simp,λp h=>by simp at h,λw h=>by simp at h,rfl⟩ (λ_ _ _ _ _=>True.intro) ?_ ?_
 ·rintro i x σ G' hx ⟨Ps,v,kq,gW',lP,hy,ha,rfl⟩;obtain⟨w,hw',_,hv⟩:=hat i x hx;have hi:=(aZ.mp hw').1;have hw:=bo hw';obtain⟨l,e1,gl,l0⟩:=ln3 w hw;rw[hv]at e1;cases e1;have nlW:l≠W:=Ne.symm (a0b gW l0);have tk:=take_snoc hw';refine⟨_,rfl,?_⟩;symm;refine a1i gW' ?_;symm;refine⟨l,_,rfl,kq _ _ gl nlW,be (cf _ _) (by omega),ndH.sublist dQ,λh hh=>gm h (bz.mp hh).1,kq _ _ (s03 _ _ gT) (a0b gT hW),λt Q G4 ht s4 gt sh=>?_⟩;have lQ:Q.length<=80:=be sh.len (be (cf _ _) ltA);symm;refine a2D (s4 _ _ gW') gt (by rw[aT,aT];exact be (by omega:_<=40000) (by decide)) ?_;refine⟨Ps++Q,_,λb ob h nb=>by rw[a0f nb];exact s4 _ _ (kq b ob h nb),by rw[a0a,bt],by rw[bn];omega,λp hp=>?_,λw' hw2=>?_,rfl⟩
  ·rcases aU.mp hp with hp |hp
   ·obtain⟨w',h1,h2⟩:=hy p hp;exact⟨w',by rw[tk];exact bR _ h1,h2⟩
   ·exact⟨w,by rw[tk];simp,Q,sh,hp⟩
  ·rw[tk]at hw2;rcases aU.mp hw2 with h1 |h1
   ·obtain⟨Q',h2,h3⟩:=ha w' h1;exact⟨Q',h2,λp hp=>bR _ (h3 p hp)⟩
   ·rw[aX.mp h1];exact⟨Q,sh,λp hp=>bK _ hp⟩
 ·rintro σ G' ⟨Ps,v,kq,gW',lP,hy,ha,rfl⟩;have lh:=hD.len;rw[aT,lh,bT]at hy ha;symm;have key:∀p∈Ps,IsEd (allR T') p.1/\Br 1 (T' o) (T' u) p.1 p.2:=λp hp=>by
   obtain⟨w,_,Q,sh,hQ⟩:=hy p hp;obtain⟨h,hh,ek,ht,⟨o',ho',ne,hto⟩,l,hl,el⟩:=sh.yes p hQ;obtain⟨hh1,hh2⟩:=bz.mp hh;obtain⟨ho1,ho2⟩:=bz.mp ho';refine⟨⟨l.r,b0G ok (bz.mp hl).1,.inl el⟩,?_⟩;obtain⟨x,x1,x2,x3⟩:=b2p ok hh1 ht;obtain⟨y,y1,y2,y3⟩:=b2p ok ho1 hto;rw[of_decide_eq_true hh2]at x3;rw[of_decide_eq_true ho2]at y3;exact⟨x,x1,x2.trans ek,w,x3,.inl ⟨rfl,y,y1,by rw[y2,<- ek];exact b2s ok ho1 hh1 hto ht ne,y3⟩⟩
  refine minP (E:=IsEd (allR T')) (P:=Br 1 (T' o) (T' u)) gW' key (λt k hE hb=>?_) λz hz hz2=>?_
  ·obtain⟨x,x1,rfl,s,x3,h⟩:=hb;rcases h with ⟨_,y,y1,y2,y3⟩ |⟨h,_⟩ |⟨h,_⟩
   ·obtain⟨h,hh,a1,a2,a3⟩:=b2q ok x1 x3;obtain⟨o',ho',b1,b2,b3⟩:=b2q ok y1 y3;have hwv:s∈vs:=by rw[<- a2];exact hD.al h hh
    obtain⟨Q,sh,hQ⟩:=ha s hwv;obtain⟨p,hp,h5⟩:=sh.all t h o' (bz.mpr ⟨hh,by simpa using a2⟩) (bz.mpr ⟨ho',by simpa using b2⟩) (λz=>y2 (by rw[<- b1,<- z,a1])) a3 b3;refine⟨p,hQ p hp,h5.imp id λz=>⟨z.1,by rw[z.2,a1];exact a14 _⟩⟩
   ·cases h
   ·cases h
  ·refine q z G' (λb ob h=>kq b ob (s03 _ _ h) (a0b h hW)) hz λt k e=>?_;obtain⟨_,x,x1,x2,_⟩:=key _ (hz2 t k e);have x2:x.k=k:=x2;rw[<- x2];exact ok.kn x x1
def Ln(U:List Tr)(w:Str)(L:List Rw):Prop:=(∃x∈U,x.k=w/\L=x.L)\/((∀x∈U,x.k≠w)/\L=[])
def Ln.ok{U:List Tr}{w:Str}{L:List Rw}(ok:TbOk 40 U)(h:Ln U w L):LnOk L/\L.length<=80:=by
 rcases h with ⟨x,hx,_,rfl⟩ |⟨_,rfl⟩
 ·exact⟨(ok.ok x hx).1,by have:=a02 hx;have:=ok.rows;omega⟩
 ·exact⟨⟨.nil,λr hr=>by simp at hr⟩,by simp⟩
def b61{U:List Tr}(_:TbOk 40 U)(w:Str):∃L,Ln U w L:=by
 by_cases c:∃x∈U,x.k=w
 ·obtain⟨x,hx,e⟩:=c;exact⟨x.L,.inl ⟨x,hx,e,rfl⟩⟩
 ·exact⟨[],.inr ⟨λx hx e=>c ⟨x,hx,e⟩,rfl⟩⟩
def b2t(A:List Hd)(U:List Tr)(w:Str)(Q:List (Int×Str)):Prop:=∃L,Ln U w L/\With (A.filter λh=>decide (h.w=w)) L Q
def a1q(a:Ad):P3:=λws G R=>Ex7 λ(q dx D:Addr) (o u:Bool) (d:Bool->Addr) (T:Bool->List Tr)=>ws=[.ref q,.ref D]/\G q=some (.ins a.c_Named dx [("name",.str (nmB o)),("other",.str (nmB u))])/\TbsAt G D d T/\G a.tP=some lamO /\
 ∀(z:Option (Int×Str))(G':Hq),Sm G G'->Fst (IsEd (allR T)) (Br 2 (T o) (T u)) z->(∀t k,z=some (t,k)->nmOk k)->R (fz z) G'
def a0Z(T:Txt K mg base a):Mal P w K mg base CX0 6 a.c_Named "broken" (lowP K (a1q a)):=by
 refine fnm 2 (N:=["self","tables","places","worth","holders"]) (T.m_Named 1 _ rfl) ?_ (len:=λws G R h=>(by obtain⟨_,_,_,_,_,_,_,rfl,_⟩:=h;rfl));walk_at "in";refine⟨_,(a0g (by ac_rfl)
  (a0g (a05 (pt:=(.tp [3,4])) fT.never rfl (a5J (q_c (a0X T) hr (q_k (q_ix a0v (qv 1) (a9y T.cl_Named (T.n_Named 0 _ rfl) (qv 0)) (λ_ _=>rfl)) a0y) )) (by ac_rfl)
  (a0s (a5p (q_bm PySem.F.plainAttrs_list PySem.F.slot_list_extend PySem.F.type_list_extend a3G (qv 2) (q_k (q_c (a0W T) hr (q_k (qv 4) (q_k (q_bm PySem.F.plainAttrs_dict PySem.F.slot_dict_get PySem.F.type_dict_get (b0s hu) (q_ix a0v (qv 1) (a9y T.cl_Named (T.n_Named 1 _ rfl) (qv 0)) (λ_ _=>rfl)) (by ac_rfl)) a0y)) ) a0y)))))
  (a0s (a2d (q_mn (T.b 0) hr (qv 2)))))),?_⟩
 obtain⟨p,dx,D,o,u,d,T',rfl,gp,ta,gT,q⟩:=h;have ok:=ta.ok o;have oku:=ta.ok u;symm;refine⟨lenK rfl,λW hW=>?_⟩;generalize eW:put G W (.lst [])=G1;obtain⟨gW,s1⟩:=newK eW hW;have ta1:=ta.sm s1;symm;refine⟨p,dx,_,.str (nmB o),rfl,s1 _ _ gp,rfl,?_⟩;refine a0t (.inr ta1.at_) rfl (a13 o) ?_;symm;refine⟨d o,T' o,rfl,ta1.tb o,ta1.ln o,ok,λH vs hkv G2 hH hD hvs=>?_⟩;have ndH:=a54 ok;have ltA:(hdT (T' o)).length<=80:=by
  have e:(hdT (T' o)).length=((T' o).flatMap Tr.L).length:=by unfold hdT;simp[ez]
  rw[e];exact ok.rows
 have lvs:vs.length<=80:=be (a5i hD.nd hvs) ltA;have gm:∀h∈hdT (T' o),h.r.good:=λh hh=>a8F ok hh;have nHW:W≠H:=a0b gW hH;have s2:=hD.sm;have gH:=hD.at_;have gW2:=s2 _ _ gW;refine a8g (.inl gH) ?_;generalize eH:put G2 H (.dF hkv)=G3;have kp3:∀b ob,b≠H->G2 b=some ob->G3 b=some ob:=λb ob n h=>by rw[<- eH,a0f n];exact h
 have s03:Sm G G3:=λb ob h=>kp3 b ob (a0b (s1 _ _ h) hH) (s2 _ _ (s1 _ _ h));have gW3:=kp3 W _ nHW gW2;have ln3:∀w∈vs,∃l,valZ hkv (.inr w)=some (.ref l)/\G3 l=some (.lst (((hdT (T' o)).filter λh=>decide (h.w=w)).map Hd.z))/\G1 l=none:=λw hw=>by
  obtain⟨l,h1,h2,h3⟩:=hD.ln w hw;exact⟨l,h1,kp3 _ _ (λz=>by rw[z,gH]at h2;cases h2) h2,h3⟩
 have hat:=b0H hD;have lnU:∀w,∃L,Ln (T' u) w L:=b61 oku;refine a0z (λi σ G'=>∃(Ps:List (Int×Str))(v v':Option Z),Kq W G3 G'/\G' W=some (.lst (Ps.map plZ))/\Ps.length<=80*i/\(∀p∈Ps,∃w∈vs.take i,∃Q,b2t (hdT (T' o)) (T' u) w Q/\p∈Q)/\(∀w∈vs.take i,∃Q,b2t (hdT (T' o)) (T' u) w Q/\∀p∈Q,p∈Ps)/\σ=[some (.ref p),some (.ref D),some (.ref W),v,v']) ⟨[],_,_,Kq.refl _ _,gW3,by simp,λp h=>by simp at h,λw h=>by simp at h,rfl⟩ (λ_ _ _ _ _=>True.intro) ?_ ?_
 ·rintro i x σ G' hx ⟨Ps,v,v',kq,gW',lP,hy,ha,rfl⟩;rw[aW]at hx;cases hkx:hkv[i]? with
  |none=>rw[hkx]at hx;cases hx
  |some kx=>
  obtain⟨k2,z2⟩:=kx;rw[hkx]at hx;obtain⟨w,hw',ekx,hv⟩:=hat i z2 (by rw[aW,hkx];rfl);rw[hkx]at ekx;cases ekx;cases hx;have hi:=(aZ.mp hw').1;have hw:=bo hw';obtain⟨l,e1,gl,l0⟩:=ln3 w hw;rw[hv]at e1;cases e1;have nlW:l≠W:=Ne.symm (a0b gW l0);have tk:=take_snoc hw';have s':Sm G G':=λb ob h=>kq b ob (s03 _ _ h) (a0b h hW);have ta':=ta.sm s';refine⟨_,rfl,?_⟩;symm;refine a1i gW' ?_;symm;refine⟨p,dx,_,.str (nmB u),rfl,s' _ _ gp,rfl,?_⟩;refine a0t (.inr ta'.at_) rfl (a13 u) ?_;symm;refine b6I (.inr (ta'.tb u)) ?_;symm;refine⟨lenK rfl,λN hN=>?_⟩;symm;refine b1R (.inr (a0c (ta'.tb u) hN)) rfl ?_;obtain⟨y,L,ey,gy,hL⟩:∃y L,(valZ (kvT (T' u)) (.inr w)).getD (.ref N)=.ref y/\put G' N (.lst []) y=some (.lst (L.map Rw.z))/\Ln (T' u) w L:=by
   cases ev:valZ (kvT (T' u)) (.inr w) with
   |none=>exact⟨N,[],rfl,a0a,.inr ⟨a35 ev,rfl⟩⟩
   |some z=>
    obtain⟨x,hx,e1,rfl⟩:=a2j ev;exact⟨x.l,x.L,rfl,a0c (ta'.ln u x hx) hN,.inl ⟨x,hx,e1,rfl⟩⟩
  have oL:=hL.ok oku;rw[ey];symm;refine⟨l,y,_,L,rfl,a0c (kq _ _ gl nlW) hN,gy,be (cf _ _) (by omega),λh hh=>gm h (bz.mp hh).1,oL.1.1.rise,oL.1.one,by have:=oL.2;omega,a0c (s' _ _ gT) hN,λt Q G4 ht s4' gt wi=>?_⟩;have sh:b2t (hdT (T' o)) (T' u) w Q:=⟨L,hL,wi⟩;have s4:Sm G' G4:=(Sm.new hN).trans s4';have lQ:Q.length<=80:=be wi.len (be (cf _ _) ltA);symm;refine a2D (s4 _ _ gW') gt (by rw[aT,aT];exact be (by omega:_<=40000) (by decide)) ?_;refine⟨Ps++Q,_,_,λb ob h nb=>by rw[a0f nb];exact s4 _ _ (kq b ob h nb),by rw[a0a,bt],by rw[bn];omega,λp hp=>?_,λw' hw2=>?_,rfl⟩
  ·rcases aU.mp hp with hp |hp
   ·obtain⟨w',h1,h2⟩:=hy p hp;exact⟨w',by rw[tk];exact bR _ h1,h2⟩
   ·exact⟨w,by rw[tk];simp,Q,sh,hp⟩
  ·rw[tk]at hw2;rcases aU.mp hw2 with h1 |h1
   ·obtain⟨Q',h2,h3⟩:=ha w' h1;exact⟨Q',h2,λp hp=>bR _ (h3 p hp)⟩
   ·rw[aX.mp h1];exact⟨Q,sh,λp hp=>bK _ hp⟩
 ·rintro σ G' ⟨Ps,v,v',kq,gW',lP,hy,ha,rfl⟩;have lh:=hD.len;rw[aT,lh,bT]at hy ha;symm;have key:∀p∈Ps,IsEd (allR T') p.1/\Br 2 (T' o) (T' u) p.1 p.2:=λp hp=>by
   obtain⟨w,_,Q,⟨L,hL,wi⟩,hQ⟩:=hy p hp;obtain⟨h,hh,ek,ht,hn,he⟩:=wi.yes p hQ;obtain⟨hh1,hh2⟩:=bz.mp hh
   constructor
   ·rcases he with ⟨x,hx,e⟩ |⟨r,hr,e⟩
    ·exact⟨x.r,b0G ok (bz.mp hx).1,.inl e⟩
    ·rcases hL with ⟨y,y1,_,rfl⟩ |⟨_,rfl⟩
     ·exact⟨r,a51 y1 hr,.inr e⟩
     ·simp at hr
   ·obtain⟨x,x1,x2,x3⟩:=b2p ok hh1 ht;rw[of_decide_eq_true hh2]at x3;refine⟨x,x1,x2.trans ek,w,x3,.inr (.inl ⟨rfl,λy hy' ey=>?_⟩)⟩;rcases hL with ⟨y2,y1,e2,rfl⟩ |⟨h2,_⟩
    ·rw[a2w oku.nd hy' y1 (ey.trans e2.symm)];unfold vS;rw[hn]
    ·exact absurd ey (h2 y hy')
  refine minP (E:=IsEd (allR T')) (P:=Br 2 (T' o) (T' u)) gW' key (λt k hE hb=>?_) λz hz hz2=>?_
  ·obtain⟨x,x1,rfl,s,x3,h⟩:=hb;rcases h with ⟨h,_⟩ |⟨_,h9⟩ |⟨h,_⟩
   ·cases h
   ·obtain⟨h,hh,a1,a2,a3⟩:=b2q ok x1 x3;have hwv:s∈vs:=by rw[<- a2];exact hD.al h hh
    obtain⟨Q,⟨L,hL,wi⟩,hQ⟩:=ha s hwv;have hn:val L t=none:=by
     rcases hL with ⟨y,y1,e2,rfl⟩ |⟨_,rfl⟩
     ·have:=h9 y y1 e2
      rcases b2f (oku.ok y y1).1 t with ⟨z,_⟩ |⟨s',_,z,_⟩
      ·exact z
      ·rw[this]at z;cases z
     ·rfl
    obtain⟨p,hp,h5,h6⟩:=wi.all t h (bz.mpr ⟨hh,by simpa using a2⟩) a3 hn;refine⟨p,hQ p hp,?_⟩
    by_cases c:p.1=t
    ·exact .inr ⟨c,by rw[h6,a1];exact a14 _⟩
    ·exact .inl (by omega)
   ·cases h
  ·refine q z G' (λb ob h=>kq b ob (s03 _ _ h) (a0b h hW)) hz λt k e=>?_;obtain⟨_,x,x1,x2,_⟩:=key _ (hz2 t k e);have x2:x.k=k:=x2;rw[<- x2];exact ok.kn x x1
noncomputable def stF(k:Str)(s0:Option Str)(r:Rw):Option (Int×Str):=if fS [r]=s0 then none else some (r.b,k)
noncomputable def stP(x:Tr):List (Int×Str):=x.L.filterMap (stF x.k (fS x.L))
def a1r(a:Ad):P3:=λws G R=>Ex7 λ(q dx D:Addr) (o u:Bool) (d:Bool->Addr) (T:Bool->List Tr)=>ws=[.ref q,.ref D]/\G q=some (.ins a.c_Still dx [("name",.str (nmB o))])/\TbsAt G D d T /\
 ∀(z:Option (Int×Str))(G':Hq),Sm G G'->Fst (IsEd (allR T)) (Br 3 (T o) (T u)) z->(∀t k,z=some (t,k)->nmOk k)->R (fz z) G'
def a00(T:Txt K mg base a):Mal P w K mg base CX0 1 a.c_Still "broken" (lowP K (a1r a)):=by
 refine fnm 2 (N:=["self","tables","places","key","line"]) (T.m_Still 1 _ rfl) ?_ (len:=λws G R h=>(by obtain⟨_,_,_,_,_,_,_,rfl,_⟩:=h;rfl));walk_at "in";refine⟨_,(a0g (by ac_rfl)
  (a0g (a05 (pt:=(.tp [3,4])) fT.never rfl (a5J (q_ix a0v (qv 1) (a9y T.cl_Still (T.n_Still 0 _ rfl) (qv 0)) (λ_ _=>rfl))) (by ac_rfl)
  (a0s (a5p (q_bm PySem.F.plainAttrs_list PySem.F.slot_list_extend PySem.F.type_list_extend a3G (qv 2) (q_k (q_l ["begin","end","worth","key","line"] [none,none,none,some 3,some 4] (.tp [0,1,2])) a0y)))))
  (a0s (a2d (q_mn (T.b 0) hr (qv 2)))))),?_⟩
 obtain⟨p,dx,D,o,u,d,T',rfl,gp,ta,q⟩:=h;have ok:=ta.ok o;symm;refine⟨lenK rfl,λW hW=>?_⟩;generalize eW:put G W (.lst [])=G1;obtain⟨gW,s1⟩:=newK eW hW;have ta1:=ta.sm s1;symm;refine⟨p,dx,_,.str (nmB o),rfl,s1 _ _ gp,rfl,?_⟩;refine a0t (.inr ta1.at_) rfl (a13 o) ?_;refine a8g (.inr (ta1.tb o)) ?_;rw[a2x (ta1.tb o)];have ek:(kvT (T' o)).map fIt=(T' o).map λx=>Z.tup [.str x.k,.ref x.l]:=by unfold kvT;rw[bJ];rfl
 rw[ek];have lst:∀x,(stP x).length<=x.L.length:=λx=>cx _ _;have lall:∀i,(((T' o).take i).flatMap stP).length<=80:=λi=>by
  refine be ?_ (be (a36 (xs:=T' o) (f:=Tr.L) (i:=i)) ok.rows);generalize (T' o).take i=l
  induction l with
  |nil=>simp
  |cons x l ih=>rw[cT,cT,bn,bn];have:=lst x;omega
 refine a0z (λi σ G'=>∃(v v':Option Z),Kq W G1 G'/\G' W=some (.lst ((((T' o).take i).flatMap stP).map plZ))/\σ=[some (.ref p),some (.ref D),some (.ref W),v,v']) ⟨_,_,Kq.refl _ _,gW,rfl⟩ (λ_ _ _ _ _=>True.intro) ?_ ?_
 ·rintro i x σ G' hx ⟨v,v',kq,gW',rfl⟩;rw[aW]at hx;cases hy':(T' o)[i]? with
  |none=>rw[hy']at hx;cases hx
  |some y=>
  rw[hy']at hx;cases hx;have hy:=bo hy';have s':Sm G G':=λb ob h=>kq b ob (s1 _ _ h) (a0b h hW);have gy:=(ta.sm s').ln o y hy;obtain⟨oy,ney⟩:=ok.ok y hy;have ly:y.L.length<=80:=by have:=a02 hy;have:=ok.rows;omega
  have li:=lall i;have tk:((T' o).take (i+1)).flatMap stP=((T' o).take i).flatMap stP++stP y:=by rw[take_snoc hy',cD];simp
  have e0:∃r0 l0 s0,y.L=r0::l0/\r0.w=[.str s0]/\fS y.L=some s0:=by
   cases e:y.L with
   |nil=>exact absurd e ney
   |cons r0 l0=>
    obtain⟨s0,h0,_⟩:=oy.2 r0 (by rw[e];simp);exact⟨r0,l0,s0,rfl,h0,a2W h0⟩
  obtain⟨r0,l0,s0,eL,ew0,ef⟩:=e0;refine⟨_,rfl,?_⟩;symm;refine a1i gW' ?_;symm;refine a1R gy ?_;intro C hC;refine a2h (g':=plZ) (stF y.k (fS y.L)) (λys=>a0c gy hC) (by omega) ?_ ?_
  ·intro r hr ys K1 K2 k1 k2;obtain⟨s2,es2,_⟩:=oy.2 r hr;have hz:r.z=.tup [.int r.b,oz r.e,.str s2]:=by unfold Rw.z;rw[es2]
   have hf:fS [r]=some s2:=a2W es2;rw[hz];refine⟨_,rfl,?_⟩;symm;refine a1w (a0c gy hC) (w:=r0.z) (by rw[eL];exact at0) ?_;symm;refine a0O (w:=.str s0) (by show atI (_::_::r0.w) 2=_;rw[ew0];exact at2) ?_;symm
   by_cases c:s2=s0
   ·rw[decide_eq_true c];symm;exact k2 (by unfold stF;rw[if_pos (by rw[hf,ef,c])])
   ·rw[decide_eq_false c];symm;exact⟨lenK rfl,k1 (r.b,y.k) (by unfold stF;rw[if_neg (by rw[hf,ef];exact λz=>c (bv.inj z))])⟩
  ·symm;have l2:=lst y;refine a2D (a0c gW' hC) a0a (by rw[aT,aT];exact be (by unfold stP at l2;omega:_<=1000) (by decide)) ?_;refine⟨_,_,λb ob h nb=>by rw[a0f nb];exact a0c (kq b ob h nb) hC,?_,rfl⟩;rw[a0a,tk,bt];rfl
 ·rintro σ G' ⟨v,v',kq,gW',rfl⟩;rw[aT,bT]at gW';symm;have mem:∀t k,(t,k)∈(T' o).flatMap stP↔∃x∈T' o,x.k=k/\∃r∈x.L,r.b=t/\fS [r]≠fS x.L:=λt k=>by
   rw[dR]
   constructor
   ·rintro⟨x,hx,h⟩;obtain⟨r,hr,e⟩:=bW.mp h;unfold stF at e
    split at e
    ·cases e
    ·next c=>cases e;exact⟨x,hx,rfl,r,hr,rfl,c⟩
   ·rintro⟨x,hx,rfl,r,hr,rfl,c⟩;exact⟨x,hx,bW.mpr ⟨r,hr,by unfold stF;rw[if_neg c]⟩⟩
  have key:∀p∈(T' o).flatMap stP,IsEd (allR T') p.1/\Br 3 (T' o) (T' u) p.1 p.2:=λp hp=>by
   obtain⟨x,hx,e1,r,hr,e2,c⟩:=(mem p.1 p.2).mp hp;obtain⟨s2,es2,_⟩:=(ok.ok x hx).1.2 r hr;rw[a2W es2]at c;refine⟨⟨r,a51 hx hr,.inl e2.symm⟩,x,hx,e1,s2,?_,.inr (.inr ⟨rfl,Ne.symm c⟩)⟩;rw[<- e2];exact a8A (ok.ok x hx).1 hr (a9S ((ok.ok x hx).1.1.1 r hr)) es2
  refine minP (E:=IsEd (allR T')) (P:=Br 3 (T' o) (T' u)) gW' key (λt k hE hb=>?_) λz hz hz2=>?_
  ·obtain⟨x,x1,rfl,s2,x3,h⟩:=hb;rcases h with ⟨h,_⟩ |⟨h,_⟩ |⟨_,h⟩
   ·cases h
   ·cases h
   ·obtain⟨r,hr,ht,ew⟩:=a8z (ok.ok x x1).1 x3;refine⟨(r.b,x.k),(mem _ _).mpr ⟨x,x1,rfl,r,hr,rfl,by rw[a2W ew];exact Ne.symm h⟩,?_⟩
    have:=a4P ht
    by_cases c:r.b=t
    ·exact .inr ⟨c,a14 _⟩
    ·exact .inl (by show r.b<t;omega)
  ·refine q z G' (λb ob h=>kq b ob (s1 _ _ h) (a0b h hW)) hz λt k e=>?_;obtain⟨_,x,x1,x2,_⟩:=key _ (hz2 t k e);have x2:x.k=k:=x2;rw[<- x2];exact ok.kn x x1
def b5j(a:Ad)(kd:Int)(o u:Bool)(ob:O):Prop:=(kd=1/\∃dx,ob=.ins a.c_Alone dx [("name",.str (nmB o))])\/(kd=2/\∃dx,ob=.ins a.c_Named dx [("name",.str (nmB o)),("other",.str (nmB u))])\/(kd=3/\∃dx,ob=.ins a.c_Still dx [("name",.str (nmB o))])\/(kd≠1/\kd≠2/\kd≠3/\∃dx,ob=.ins a.c_Rule dx [])
def b2u(a:Ad):P3:=λws G R=>∃(kd:Int)(o u:Bool),ws=[.int kd,.str (nmB o),.str (nmB u)]/\∀(q:Addr)(ob:O),G q=none->b5j a kd o u ob->R (.ref q) (put G q ob)
def b2v(T:Txt K mg base a):Cal P w K mg base CX0 3 "_law_rule" (lowP K (b2u a)):=by
 refine fnc 3 (N:=["kind","one","other"]) T.br (T.f 20 _ rfl) ?_ (len:=λws G R h=>(by obtain⟨_,_,_,rfl,_⟩:=h;rfl));walk_at "in";refine⟨_,(a0g (z_if (by ac_rfl)
  (a0s (a2d (q_mk T.mk_Alone (a2m T) hr T.mg_Alone (q_k (qv 1) a0y))))
  a1Q)
  (a0g (z_if (by ac_rfl)
  (a0s (a2d (q_mk T.mk_Named (a2q T) hr T.mg_Named (q_k (qv 1) (q_k (qv 2) a0y)))))
  a1Q)
  (a0g (z_if (by ac_rfl)
  (a0s (a2d (q_mk T.mk_Still (a2o T) hr T.mg_Still (q_k (qv 1) a0y))))
  a1Q)
  (a0s (a2d (b4U T.m0_Rule T.mg_Rule)))))),?_⟩
 obtain⟨kd,o,u,rfl,q⟩:=h;symm;refine ifD (λc=>?_) λc1=>?_
 ·symm;intro p dx hp;refine⟨p,dx,nmB o,rfl,a0a,rfl,?_⟩;rw[a0Q];exact q p _ hp (.inl ⟨c,dx,rfl⟩)
 ·symm;refine ifD (λc=>?_) λc2=>?_
  ·symm;intro p dx hp;refine⟨p,dx,nmB o,nmB u,rfl,a0a,rfl,?_⟩;rw[a0Q];exact q p _ hp (.inr (.inl ⟨c,dx,rfl⟩))
  ·symm;refine ifD (λc=>?_) λc3=>?_
   ·symm;intro p dx hp;refine⟨p,dx,nmB o,rfl,a0a,rfl,?_⟩;rw[a0Q];exact q p _ hp (.inr (.inr (.inl ⟨c,dx,rfl⟩)))
   ·symm;intro p dx hp;exact q p _ hp (.inr (.inr (.inr ⟨c1,c2,c3,dx,rfl⟩)))
noncomputable def upB{α:Type}(f:Bool->α)(o:Bool)(x:α):Bool->α:=λy=>if y=o then x else f y
structure TbM (G:Hq) (D:Addr) (d:Bool->Addr) (T:Bool->List Tr) (n:Nat):Prop where
 at_:G D=some (.dK (kvB d))
 tb:∀o,G (d o)=some (.dK (kvT (T o)))
 ln:∀o,LnAt G (T o)
 ok:∀o,TbOk n (T o)
 ne:∀o,d o≠D
 inj:d false≠d true
def TbOk.mono{n m:Nat}{T:List Tr}(h:TbOk n T)(l:n<=m):TbOk m T:=⟨h.nd,h.ok,h.kn,by have:=h.len;omega,by have:=h.rows;omega⟩
def TbM.sm{G G':Hq}{D:Addr}{d:Bool->Addr}{T:Bool->List Tr}{n:Nat}(h:TbM G D d T n)(s:Sm G G'):TbM G' D d T n:=⟨s _ _ h.at_,λo=>s _ _ (h.tb o),λo=>(h.ln o).sm s,h.ok,h.ne,h.inj⟩
def TbM.told{G G1:Hq}{D t:Addr}{d:Bool->Addr}{T:Bool->List Tr}{n:Nat}{o:Bool}{T2:List Tr}(h:TbM G D d T n)(s:Sm G G1)(ht:G t=none)(gt:G1 t=some (.dK (kvT T2)))(la:LnAt G1 T2)(ok:TbOk (n+1) T2):TbM (put G1 D (.dK (kvB (upB d o t)))) D (upB d o t) (upB T o T2) (n+1):=by
 have nt:t≠D:=Ne.symm (a0b h.at_ ht);have h1:=h.sm s;have ll:∀{U:List Tr},LnAt G1 U->LnAt (put G1 D (.dK (kvB (upB d o t)))) U:=λla x hx=>by rw[a0f λz=>by have e:=la x hx;rw[z,h1.at_]at e;cases e];exact la x hx
 refine⟨a0a,λy=>?_,λy=>?_,λy=>?_,λy=>?_,?_⟩
 ·unfold upB
  by_cases c:y=o
  ·rw[if_pos c,if_pos c,a0f nt];exact gt
  ·rw[if_neg c,if_neg c,a0f (h.ne y)];exact h1.tb y
 ·unfold upB
  by_cases c:y=o
  ·rw[if_pos c];exact ll la
  ·rw[if_neg c];exact ll (h1.ln y)
 ·unfold upB
  by_cases c:y=o
  ·rw[if_pos c];exact ok
  ·rw[if_neg c];exact (h.ok y).mono (by omega)
 ·unfold upB
  by_cases c:y=o
  ·rw[if_pos c];exact nt
  ·rw[if_neg c];exact h.ne y
 ·unfold upB;have n1:d false≠t:=a0b (h.tb false) ht;have n2:d true≠t:=a0b (h.tb true) ht;cases o
  ·exact Ne.symm n2
  ·exact n1
def b62{d:Bool->Addr}{o:Bool}{t:Addr}:putZ (kvB d) (.inr (nmB o)) (.ref t)=kvB (upB d o t):=by
 have n1:((Sum.inr (nmB false):Key)=.inr (nmB true))=False:=by simp only[eq_iff_iff,iff_false];exact λz=>a50 (Sum.inr.inj z)
 have n2:((Sum.inr (nmB true):Key)=.inr (nmB false))=False:=by simp only[eq_iff_iff,iff_false];exact λz=>a50 (Sum.inr.inj z).symm
 unfold putZ kvB upB;cases o
 ·rw[if_pos (by simp)];simp only[aY,bB,if_pos,n2,if_false,reduceCtorEq]
 ·rw[if_pos (by simp)];simp only[aY,bB,if_pos,n1,if_false,reduceCtorEq]
def b2w{x y:Addr}:a5A [] [(.inr (nmB false),.ref x),(.inr (nmB true),.ref y)]=kvB λo=>cond o y x:=by
 have n:(decide ((Sum.inr (nmB false):Key)=.inr (nmB true)))=false:=decide_eq_false λz=>a50 (Sum.inr.inj z)
 show putZ (putZ [] (.inr (nmB false)) (.ref x)) (.inr (nmB true)) (.ref y)=_
 rw[a1L (kvs:=[]) rfl,a1L]
 ·rfl
 ·unfold valZ;rw[dG,bO,n];rfl
def a8G{σ:S3}{G:Hq}{R:K3}(h:∀(D x y:Addr)(G':Hq),G D=none->G x=none->G y=none->Sm G G'->D≠x->D≠y->x≠y->G' D=some (.dK (kvB λo=>cond o y x))->G' x=some (.dK [])->G' y=some (.dK [])->R (.ref D) G'):b4z [(uC (.str (nmB false)),a9k),(uC (.str (nmB true)),a9k)] σ G R:=by
 intro D hD x hx y hy;have nx:D≠x:=a0b a0a hx;have ny:D≠y:=a0b (a0c a0a hx) hy;have nxy:x≠y:=a0b a0a hy;have hx0:G x=none:=(Sm.new hD).free hx;have hy0:G y=none:=((Sm.new hD).trans (Sm.new hx)).free hy;refine⟨a0c (a0c a0a hx) hy,_,rfl,by simp,?_⟩;rw[b2w];refine h D x y _ hD hx0 hy0 (λb o e=>?_) nx ny nxy a0a (by rw[a0f (Ne.symm nx)];exact a0c a0a hy) (by rw[a0f (Ne.symm ny)];exact a0a);rw[a0f (a0b e hD)];exact a0c (a0c (a0c e hD) hx) hy
def Cp(U V:List Tr):Prop:=U.map (λx=>(x.k,x.L))=V.map λx=>(x.k,x.L)
def cp_k{U V:List Tr}(h:Cp U V):U.map Tr.k=V.map Tr.k:=by
 have:=congrArg (List.map Prod.fst) h
 simpa[bJ,Function.comp_def]using this
def b5k{z:Option (Int×Str)}{G:Hq}{R:K3}(hk:∀t k,z=some (t,k)->nmOk k)(h:R (.bl false) G):zEq not (fz z) (fz z) G R:=by
 match z,hk with
 |none,_=>exact (show flat 8 Z.non=true/\flat 8 Z.non=true/\R (.bl (!decide (Z.non=Z.non))) G from ⟨a1e,a1e,by rw[decide_eq_true rfl];exact h⟩)
 |some (t,k),hk=>
  have f:flat 8 (.tup [.int t,.str k])=true:=by
   show ([Z.int t,.str k].all (flat 7))=true
   rw[cj,cj,a34 (hk t k rfl)];rfl
  exact b40 f f (by rw[decide_eq_true rfl];exact h)
def b63{U V:List Tr}(h:Cp U V){i:Nat}{x y:Tr}(hx:U[i]?=some x)(hy:V[i]?=some y):x.L=y.L:=by
 have e:=congrArg (·[i]?) h;simp only[aW,hx,hy,cJ,bv.injEq,Prod.mk.injEq]at e;exact e.2
def a8H{G:Hq}{D KA:Addr}{d e:Bool->Addr}{T T2:Bool->List Tr}(ta:TbsAt G D d T)(gK:G KA=some (.dK (kvB e)))(kk:∀o,G (e o)=some (.dK (kvT (T2 o))))(kl:∀o,LnAt G (T2 o))(cp:∀o,Cp (T o) (T2 o)):a6t (a6t (LEq G) G) G (.ref D) (.ref KA):=by
 have inner:∀o,a6t (LEq G) G (.ref (d o)) (.ref (e o)):=λo=>by
  refine⟨d o,e o,_,_,rfl,rfl,λz=>?_,.inr (ta.tb o),.inl (kk o),?_,λi p q hp hq=>?_⟩
  ·have:=ta.tb o;rw[z,kk o]at this;cases this
  ·have:=congrArg (List.map λs=>(Sum.inr s:Key)) (cp_k (cp o))
   unfold kvT;simpa[bJ,Function.comp_def]using this
  ·unfold kvT at hp hq;rw[aW]at hp hq;cases hx:(T o)[i]? with
   |none=>rw[hx]at hp;cases hp
   |some x=>
    cases hy:(T2 o)[i]? with
    |none=>rw[hy]at hq;cases hq
    |some y=>
     rw[hx]at hp;rw[hy]at hq;cases hp;cases hq;have hxm:=bo hx;refine⟨x.l,y.l,_,rfl,rfl,ta.ln o x hxm,by rw[b63 (cp o) hx hy];exact kl o y (bo hy),a4O ((ta.ok o).ok x hxm).1.okR⟩
 refine⟨D,KA,_,_,rfl,rfl,λz=>?_,.inr ta.at_,.inl gK,rfl,λi p q hp hq=>?_⟩
 ·have:=ta.at_;rw[z,gK]at this;cases this
 ·match i,hp,hq with
  |0,hp,hq=>cases hp;cases hq;exact inner false
  |1,hp,hq=>cases hp;cases hq;exact inner true
  |_+2,hp,_=>simp at hp
def b64{ns:List Int}:(cutZ ns (some 2) (some 42)).length<=40:=by
 unfold cutZ;have h1:=HT.sIx_nat ns.length 0 2;have h2:=HT.sIx_nat ns.length ns.length 42;rw[show ((2:Nat):Int)=2 from rfl]at h1;rw[show ((42:Nat):Int)=42 from rfl]at h2;rw[h1,h2,bC];omega
def b5l(T:Txt K mg base a){f:Addr}{d:fY}(J:Fun K "law" "law" (top 30) f d):FnOk P w K mg base CX0 7 f d ["script"] (lowP K (a4F a.tP)):=by
 refine fnd (n:=1) (N:=["script","names","tables","cell","name","kept","key","kind","one","other","rule","due"]) J ?_ ⟨rfl,rfl,rfl,by decide +kernel,rfl,by decide +kernel,by decide +kernel⟩ λws G R h=>by obtain⟨_,_,rfl,_⟩:=h;rfl
 walk_at "in";refine⟨_,(a0g (by ac_rfl)
  (a0g (z_st (nmI 2 nd) (b0u (a2G a7o a2u (a2G a7o a2u a76))))
  (a0g (a05 (pt:=(.nm 3)) fT.never rfl (by ac_rfl) (p_nm (nmI 3 nd))
  (a0g (by ac_rfl)
  (a0s (a2O (q_c (b0C T) hr (q_k (q_ix a0v (qv 2) (qv 4) (λ_ _=>rfl)) (q_k (by ac_rfl) a0y)) ) (qv 2) (qv 4) (a3l hu)))))
  (a0g (z_st (nmI 5 nd) (b0u (a2G a7o a2u (a2G a7o a2u a76))))
  (a0g (a05 (pt:=(.nm 4)) fT.never rfl (a1J (qv 2)) (p_nm (nmI 4 nd))
  (a0s (a05 (pt:=(.nm 6)) fT.never rfl (a1J (q_ix a0v (qv 2) (qv 4) (λ_ _=>rfl))) (p_nm (nmI 6 nd))
  (a0s (a2O (q_Y b0l (T.b 7) (q_k (q_ix a0v (q_ix a0v (qv 2) (qv 4) (λ_ _=>rfl)) (qv 6) (λ_ _=>rfl)) a0y)) (q_ix a0v (qv 5) (qv 4) (λ_ _=>rfl)) (qv 6) (a3l hu))))))
  (a0g (a05 (pt:=(.nm 7)) fT.never rfl (by ac_rfl) (p_nm (nmI 7 nd))
  (a0s (a05 (pt:=(.tp [8,9])) fT.never rfl (by ac_rfl) (by ac_rfl)
  (a0g (by ac_rfl)
  (a0g (by ac_rfl)
  (a0g (z_if (QW.qt (q_or (a1x (o_ne hu) (a0U (q_m (qv 10) T.cl_Rule (a04 T) hr (q_k (qv 2) a0y)) (a0U (q_m (qv 10) T.cl_Alone (a0Y T) hr (q_k (qv 2) a0y)) (a0U (q_m (qv 10) T.cl_Named (a0Z T) hr (q_k (qv 2) a0y)) (q_m (qv 10) T.cl_Still (a00 T) hr (q_k (qv 2) a0y))))) (qv 11) (a2r _)) (q_or (a1x (o_ne hu) (a0U (q_m (qv 10) T.cl_Rule (a04 T) hr (q_k (qv 2) a0y)) (a0U (q_m (qv 10) T.cl_Alone (a0Y T) hr (q_k (qv 2) a0y)) (a0U (q_m (qv 10) T.cl_Named (a0Z T) hr (q_k (qv 2) a0y)) (q_m (qv 10) T.cl_Still (a00 T) hr (q_k (qv 2) a0y))))) (qv 11) (a2r _)) (b1f (a1x (b4N (b4V hr)) (qv 2) (qv 5) (a2r _))))))
  (by ac_rfl)
  a1Q)
  (a0s (z_if (QW.qt (b1g (by ac_rfl) (a7q (b0f (b3t (q_B b3O (T.b 8) (q_k (a0U (q_m (qv 10) T.cl_Rule (a04 T) hr (q_k (qv 2) a0y)) (a0U (q_m (qv 10) T.cl_Alone (a0Y T) hr (q_k (qv 2) a0y)) (a0U (q_m (qv 10) T.cl_Named (a0Z T) hr (q_k (qv 2) a0y)) (q_m (qv 10) T.cl_Still (a00 T) hr (q_k (qv 2) a0y))))) (q_k (q_ty (a3p (v:=.ty "tuple") rfl (T.b 9) rfl rfl)) a0y))))))))
  (by ac_rfl)
  a1Q))))))))
  (by ac_rfl))))))),?_⟩
 obtain⟨sc,ns,rfl,hl,gT,q⟩:=h;symm;refine⟨sc,ns,0,rfl,by decide,λi0=>?_⟩;symm;refine⟨i0,rfl,λNA nms G1 hNA s1 gNA lN okN=>?_⟩;have gT1:=s1 _ _ gT;refine⟨_,rfl,?_⟩;refine b1y ?_;refine b1z ?_;refine a8G λD x0 y0 G2 hD hx0 hy0 s2 n1 n2 n3 gD gx gy=>?_;have gT2:=s2 _ _ gT1;have gN2:=s2 _ _ gNA;refine⟨_,rfl,?_⟩;symm;refine b6u λCE hCE=>?_;have l40:=b64 (ns:=ns);generalize cutZ ns (some 2) (some 42)=cs at l40;generalize eC:put G2 CE (.lst (cs.map Z.int))=G3;obtain⟨gC,s3⟩:=newK eC hCE;have M0:TbM G3 D (λo=>cond o y0 x0) (λ_=>[]) 0:=⟨s3 _ _ gD,λo=>by cases o;exact s3 _ _ gx;exact s3 _ _ gy,λo x hx=>by simp at hx,λo=>⟨.nil,λx hx=>by simp at hx,λx hx=>by simp at hx,by simp,by simp⟩,λo=>by cases o;exact Ne.symm n1;exact Ne.symm n2,n3⟩;have gT3:=s3 _ _ gT2;have gN3:=s3 _ _ gN2;have nDC:CE≠D:=Ne.symm (a0b gD hCE);have nDN:NA≠D:=λz=>by rw[z,gD]at gN2;cases gN2
 have nDT:a.tP≠D:=λz=>by rw[z,gD]at gT2;cases gT2
 refine a1R gC ?_;refine a0z (λi σ G'=>Ex4 λ(d:Bool->Addr) (T:Bool->List Tr) (v3 v4:Option Z)=>TbM G' D d T i/\Kq D G3 G'/\σ=[some (.scr sc ns),some (.ref NA),some (.ref D),v3,v4,none,none,none,none,none,none,none]) ⟨_,_,_,_,M0,Kq.refl _ _,rfl⟩ (by rintro i σ G' _ ⟨_,_,_,_,_,k,_⟩;exact k _ _ gC nDC) ?_ ?_
 ·rintro i x σ G' hx ⟨d,T',v3,v4,M,kq,rfl⟩;rw[aW]at hx;cases hc':cs[i]? with
  |none=>rw[hc']at hx;cases hx
  |some c=>
  rw[hc']at hx;cases hx;have hi:=(aZ.mp hc').1;refine⟨_,rfl,?_⟩;symm;refine⟨lenK rfl,λX hX=>?_⟩;generalize eX:put G' X _=G4;obtain⟨gX,s4⟩:=newK eX hX;symm;obtain⟨o,eo⟩:∃o:Bool,atI [Z.str (nmB false),Z.str (nmB true)] (c / 3 % 2)=some (.str (nmB o)):=by
   have:c / 3 % 2=0\/c / 3 % 2=1:=by omega
   rcases this with z |z
   ·exact⟨false,by rw[z];exact at0⟩
   ·exact⟨true,by rw[z];exact at1⟩
  refine a1w gX eo ?_;have M4:=M.sm s4;have gN4:=s4 _ _ (kq _ _ gN3 nDN);symm;refine a0t (.inl M4.at_) rfl (a13 o) ?_;symm;have st:∀k b e z tl (R':K3),nmOk k->bef b e=true->tlZ k b e z tl->(∀(t:Addr)(T2:List Tr)(G5:Hq),G4 t=none->Sm G4 G5->TbM (put G5 D (.dK (kvB (upB d o t)))) D (upB d o t) (upB T' o T2) (i+1)->G5 D=some (.dK (kvB d))->R' (.ref t) G5)->b0B [.ref (d o),tl] G4 R':=λk b e z tl R' hk hb ht r=>
   ⟨d o,T' o,i,k,b,e,z,tl,rfl,M4.tb o,M4.ln o,M4.ok o,by omega,hk,hb,ht,λt T2 G5 ht s5 gt la ok=>r t T2 G5 ht s5 (M4.told s5 ht gt la ok) (s5 _ _ M4.at_)⟩
  have fin:∀(t:Addr)(T2:List Tr)(G5:Hq),Sm G4 G5->TbM (put G5 D (.dK (kvB (upB d o t)))) D (upB d o t) (upB T' o T2) (i+1)->G5 D=some (.dK (kvB d))->b1I (.ref D) (.str (nmB o)) (.ref t) G5 λG4=>Ex4 λ(d:Bool->Addr) (T:Bool->List Tr) (v3 v4:Option Z)=>TbM G4 D d T (i+1)/\Kq D G3 G4/\[some (.scr sc ns),some (.ref NA),some (.ref D),some (.int c),some (.str (nmB o)),none,none,none,none,none,none,none]=[some (.scr sc ns),some (.ref NA),some (.ref D),v3,v4,none,none,none,none,none,none,none]:=λt T2 G5 s5 M5 g5=>by
   refine a4u g5 rfl (a0h (by simp[kvB])) ?_;rw[b62];exact⟨_,_,_,_,M5,λb ob h nb=>by rw[a0f nb];exact s5 _ _ (s4 _ _ (kq b ob h nb)),rfl⟩
  refine⟨_,NA,nms,rfl,gN4,lN,okN,λk b e hk hb=>?_,λk w b e hk hw hb=>?_⟩
  ·symm;refine st k b e .non _ _ hk hb (.inl ⟨rfl,rfl⟩) λt T2 G5 ht s5 M5 g5=>?_;symm;exact fin t T2 G5 s5 M5 g5
  ·symm;refine st k b e (.str w) _ _ hk hb (.inr ⟨w,rfl,rfl,hw⟩) λt T2 G5 ht s5 M5 g5=>?_;symm;exact fin t T2 G5 s5 M5 g5
 ·rintro σ G4 ⟨d,T',v3,v4,M,kq,rfl⟩;rw[aT]at M;have M:TbM G4 D d T' 40:=⟨M.at_,M.tb,M.ln,λo=>(M.ok o).mono l40,M.ne,M.inj⟩;have gT4:=kq _ _ gT3 nDT;clear kq;refine b1y ?_;refine b1z ?_;refine a8G λKA e0 e1 G5 hK he0 he1 s5 m1 m2 m3 gK ge0 ge1=>?_;obtain⟨e,ee⟩:∃e:Bool->Addr,e=λo=>cond o e1 e0:=⟨_,rfl⟩;rw[<- ee]at gK;have ge:∀o,G5 (e o)=some (.dK []):=λo=>by rw[ee];cases o;exact ge0;exact ge1
  have he:∀o,G4 (e o)=none:=λo=>by rw[ee];cases o;exact he0;exact he1
  have ne:∀o,e o≠KA:=λo=>by rw[ee];cases o;exact Ne.symm m1;exact Ne.symm m2
  have ni:∀o y,o≠y->e o≠e y:=λo y h=>by
   rw[ee];cases o<;>cases y
   ·exact absurd rfl h
   ·exact m3
   ·exact Ne.symm m3
   ·exact absurd rfl h
  have M5:=M.sm s5;have gT5:=s5 _ _ gT4;have nDe:∀o,D≠e o:=λo=>a0b M.at_ (he o);have nde:∀y o,d y≠e o:=λy o=>a0b (M.tb y) (he o);have nDK:D≠KA:=a0b M.at_ hK;have ndK:∀y,d y≠KA:=λy=>a0b (M.tb y) hK;have nTe:∀o,a.tP≠e o:=λo=>a0b gT4 (he o);have nTD:a.tP≠D:=nDT;have nTd:∀y,a.tP≠d y:=λy z=>by have:=M.tb y;rw[<- z,gT4]at this;cases this
  clear ge0 ge1 he0 he1 m1 m2 m3;refine⟨_,rfl,?_⟩;symm;refine a5a (.inl M5.at_) ?_;have ek:((kvB d).map λp=>keyW p.1)=[false,true].map λo=>Z.str (nmB o):=rfl;rw[ek];refine a0z (λi σ G'=>∃(T2:Bool->List Tr)(v4 v6:Option Z),(∀o∈[false,true].take i,G' (d o)=some (.dF (kvT (T' o)))/\Cp (T' o) (T2 o))/\(∀o,o∉[false,true].take i->G' (d o)=some (.dK (kvT (T' o)))/\T2 o=[])/\G' D=some (.dF (kvB d))/\G' KA=some (.dK (kvB e)) /\
   (∀o,G' (e o)=some (.dK (kvT (T2 o)))/\LnAt G' (T2 o)/\LnAt G' (T' o))/\G' a.tP=some lamO/\σ=[some (.scr sc ns),some (.ref NA),some (.ref D),v3,v4,some (.ref KA),v6,none,none,none,none,none]) ⟨λ_=>[],_,_,λo h=>by simp at h,λo _=>⟨by rw[a0f (M.ne o)];exact M5.tb o,rfl⟩,a0a,by rw[a0f (Ne.symm nDK)];exact gK,λo=>⟨by rw[a0f (Ne.symm (nDe o))];exact ge o,λx hx=>by simp at hx,λx hx=>by rw[a0f λz=>by have:=M5.ln o x hx;rw[z,M5.at_]at this;cases this];exact M5.ln o x hx⟩,by rw[a0f nTD];exact gT5,rfl⟩ (λ_ _ _ _ _=>True.intro) ?_ ?_
  ·rintro i x σ G' hx ⟨T2,v4,v6,hy,hn,gD',gK',hE,gT',rfl⟩;rw[aW]at hx;cases ho':[false,true][i]? with
   |none=>rw[ho']at hx;cases hx
   |some o=>
   rw[ho']at hx;cases hx;have tk:=take_snoc ho';have nin:o∉[false,true].take i:=by
    match i,ho' with
    |0,_=>simp
    |1,h=>cases h;simp
    |_+2,h=>simp at h
   obtain⟨gdo,e2⟩:=hn o nin;obtain⟨geo,_,lno⟩:=hE o;rw[e2]at geo;have ok:=M.ok o;refine⟨_,rfl,?_⟩;symm;refine a0t (.inr gD') rfl (a13 o) ?_;refine a5a (.inl gdo) ?_;have hoT:((T' o).map λx=>Z.str x.k)=(kvT (T' o)).map λp=>keyW p.1:=by unfold kvT;rw[bJ];rfl
   rw[<- hoT];generalize eQ:put G' (d o) (.dF (kvT (T' o)))=G6;have g6:G6 (d o)=some (.dF (kvT (T' o))):=by rw[<- eQ];exact a0a
   have k6:∀b ob,b≠d o->G' b=some ob->G6 b=some ob:=λb ob n h=>by rw[<- eQ,a0f n];exact h
   have ln6:∀U,LnAt G' U->LnAt G6 U:=λU h x hx=>k6 _ _ (λz=>by have e:=h x hx;rw[z,gdo]at e;cases e) (h x hx);have ge6:=k6 _ _ (Ne.symm (nde o o)) geo;have gK6:=k6 _ _ (Ne.symm (ndK o)) gK';have gD6:=k6 _ _ (Ne.symm (M.ne o)) gD';have l6:=ln6 _ lno;refine a0z (λj σ G''=>∃(c:List Tr)(v6:Option Z),Kq (e o) G6 G''/\G'' (e o)=some (.dK (kvT c))/\LnAt G'' c/\Cp ((T' o).take j) c/\σ=[some (.scr sc ns),some (.ref NA),some (.ref D),v3,some (.str (nmB o)),some (.ref KA),v6,none,none,none,none,none]) ⟨[],_,Kq.refl _ _,ge6,λx hx=>by simp at hx,rfl,rfl⟩ (λ_ _ _ _ _=>True.intro) ?_ ?_
   ·rintro j x σ G'' hx ⟨c,v6,kq,gc,lc,cp,rfl⟩;rw[aW]at hx;cases hy':(T' o)[j]? with
    |none=>rw[hy']at hx;cases hx
    |some y=>
    rw[hy']at hx;cases hx;have hym:=bo hy';have gl:G'' y.l=some (.lst (y.L.map Rw.z)):=kq _ _ (l6 y hym) λz=>by have e:=l6 y hym;rw[z,ge6]at e;cases e
    have ck:=cp_k cp;have cl:c.length<=40:=by have:=congrArg bM ck;rw[aT,aT,bC]at this;have:=ok.len;omega
    refine⟨_,rfl,?_⟩;symm;refine a0t (.inr (kq _ _ gD6 (nDe o))) rfl (a13 o) ?_;symm;refine a0t (.inr (kq _ _ g6 (nde o o))) rfl (a5Z ok.nd hym) ?_;symm;refine b1A gl λX hX=>?_;symm;refine a0t (.inl (a0c (kq _ _ gK6 (Ne.symm (ne o))) hX)) rfl (a13 o) ?_;symm;refine a4u (a0c gc hX) rfl (a0h (by unfold kvT;rw[aT];omega)) ?_;rw[a1L (k:=.inr y.k) (v:=.ref X) (by
     cases ev:valZ (kvT c) (.inr y.k) with
     |none=>rfl
     |some z=>
      obtain⟨x,hx,e1,_⟩:=a2j ev
      have:x.k∈((T' o).take j).map Tr.k:=by rw[ck];exact b8 hx
      obtain⟨x',hx',e3⟩:=bu.mp this;exact absurd (e3.trans e1) (a8y ok.nd hy' x' hx'))]
    have e6:kvT c++[(.inr y.k,.ref X)]=kvT (c++[⟨y.k,y.L,X⟩]):=by unfold kvT;rw[bt];rfl
    rw[e6];have nXe:X≠e o:=Ne.symm (a0b gc hX);refine⟨_,_,λb ob h nb=>by rw[a0f nb];exact a0c (kq b ob h nb) hX,a0a,λx hx=>?_,?_,rfl⟩
    ·rcases aU.mp hx with hx |hx
     ·have h:=lc x hx;rw[a0f λz=>by rw[z,gc]at h;cases h];exact a0c h hX
     ·rw[aX.mp hx]
      show put _ (e o) _ X=_
      rw[a0f nXe];exact a0a
    ·unfold Cp;rw[take_snoc hy',bt,bt,cp];rfl
   ·rintro σ G'' ⟨c,v6,kq,gc,lc,cp,rfl⟩;rw[aT,bT]at cp;symm;refine⟨upB T2 o c,_,_,λy hy2=>?_,λy hy2=>?_,kq _ _ gD6 (nDe o),kq _ _ gK6 (Ne.symm (ne o)),λy=>?_,kq _ _ (k6 _ _ (nTd o) gT') (nTe o),rfl⟩
    ·rw[tk]at hy2;unfold upB
     by_cases c2:y=o
     ·rw[if_pos c2,c2];exact⟨kq _ _ g6 (nde o o),cp⟩
     ·rw[if_neg c2];have h2:=hy y ((aU.mp hy2).resolve_right λz=>c2 (aX.mp z));exact⟨kq _ _ (k6 _ _ (λz=>by rw[z,gdo]at h2;cases h2.1) h2.1) (nde y o),h2.2⟩
    ·rw[tk]at hy2;have c2:y≠o:=λz=>hy2 (by rw[z];simp);have h2:=hn y λz=>hy2 (bR _ z);unfold upB;rw[if_neg c2];have dn:d y≠d o:=by
      have:=M.inj
      cases y<;>cases o
      ·exact absurd rfl c2
      ·exact this
      ·exact Ne.symm this
      ·exact absurd rfl c2
     exact⟨kq _ _ (k6 _ _ dn h2.1) (nde y o),h2.2⟩
    ·have lT:LnAt G'' (T' y):=λx hx=>by
      have h:=ln6 _ (hE y).2.2 x hx;exact kq _ _ h λz=>by rw[z,ge6]at h;cases h
     unfold upB
     by_cases c2:y=o
     ·rw[if_pos c2,c2];exact⟨gc,lc,by rw[<- c2];exact lT⟩
     ·rw[if_neg c2];obtain⟨h1,h2,_⟩:=hE y;refine⟨kq _ _ (k6 _ _ (Ne.symm (nde o y)) h1) (ni y o c2),λx hx=>?_,lT⟩;have h:=ln6 _ h2 x hx;exact kq _ _ h λz=>by rw[z,ge6]at h;cases h
  ·rintro σ G6 ⟨T2,v4,v6,hy,_,gD6,gK6,hE,gT6,rfl⟩;have ta:TbsAt G6 D d T':=⟨gD6,λo=>(hy o (by cases o<;>simp)).1,λo=>(hE o).2.2,M.ok⟩
   have cp:∀o,Cp (T' o) (T2 o):=λo=>(hy o (by cases o<;>simp)).2
   have kk:=λo=>(hE o).1;have kl:=λo=>(hE o).2.1;clear hy hE;symm;refine⟨by decide,by decide,?_⟩;refine a0z (λi σ G'=>Ex5 λ(w8 w9 w10 w11 w12:Option Z)=>Sm G6 G'/\σ=[some (.scr sc ns),some (.ref NA),some (.ref D),v3,v4,some (.ref KA),v6,w8,w9,w10,w11,w12]) ⟨_,_,_,_,_,Sm.refl _,rfl⟩ (λ_ _ _ _ _=>True.intro) ?_ ?_
   ·rintro i x σ G' hx ⟨w8,w9,w10,w11,w12,s6,rfl⟩;obtain⟨_,rfl⟩:=a3F hx;generalize (0:Int)+(i:Int)=kd;refine⟨_,rfl,?_⟩;symm;refine⟨lenK rfl,?_⟩;symm;refine⟨lenK rfl,?_⟩;symm;refine⟨lenK rfl,?_⟩;symm;refine⟨lenK rfl,λX hX=>?_⟩;have eX:[Z.tup [Z.str (Str.ofString "a"),.str (Str.ofString "b")],.tup [.str (Str.ofString "b"),.str (Str.ofString "a")],.tup [.str (Str.ofString "a"),.str (Str.ofString "a")]]=[(false,true),(true,false),(false,false)].map λp:Bool×Bool=>Z.tup [.str (nmB p.1),.str (nmB p.2)]:=rfl;rw[eX];generalize eG:put G' X _=G7;obtain⟨gX,s7⟩:=newK eG hX;have s7:=s6.trans s7;refine a1R gX ?_;refine a0z (λi σ G'=>Ex4 λ(w9 w10 w11 w12:Option Z)=>Sm G7 G'/\σ=[some (.scr sc ns),some (.ref NA),some (.ref D),v3,v4,some (.ref KA),v6,some (.int kd),w9,w10,w11,w12]) ⟨_,_,_,_,Sm.refl _,rfl⟩ (by rintro i σ G' _ ⟨_,_,_,_,s,_⟩;exact s _ _ gX) ?_ ?_
    ·rintro i x σ G8 hx ⟨w9,w10,w11,w12,s8,rfl⟩;rw[aW]at hx;cases hp':[(false,true),(true,false),(false,false)][i]? with
     |none=>rw[hp']at hx;cases hx
     |some pr=>
     rw[hp']at hx;cases hx;obtain⟨o,u⟩:=pr;have s08:=s7.trans s8;refine⟨_,rfl,?_⟩;symm;refine⟨kd,o,u,rfl,λQ ob hQ hr'=>?_⟩;generalize eQ:put G8 Q ob=G9;obtain⟨gQ,s9⟩:=newK eQ hQ;have s09:=s08.trans s9;symm;refine⟨kd,o,u,D,d,T',rfl,ta.sm s09,λz G10 s10 hz nmz=>?_⟩;have s010:=s09.trans s10;have gQ10:=s10 _ _ gQ;have br:∀(Gx:Hq)(Rk:K3),Sm G10 Gx->(∀Gy,Sm Gx Gy->Rk (fz z) Gy)->a3U (a4v a.c_Rule (Str.ofString "broken") (a1z a) (uVar 10) (a2z (uVar 2) uNil)) (a3U (a4v a.c_Alone (Str.ofString "broken") (a1p a) (uVar 10) (a2z (uVar 2) uNil)) (a3U (a4v a.c_Named (Str.ofString "broken") (a1q a) (uVar 10) (a2z (uVar 2) uNil)) (a4v a.c_Still (Str.ofString "broken") (a1r a) (uVar 10) (a2z (uVar 2) uNil))))
       [some (.scr sc ns),some (.ref NA),some (.ref D),v3,v4,some (.ref KA),v6,some (.int kd),some (.str (nmB o)),some (.str (nmB u)),some (.ref Q),some (fz z)] Gx Rk:=λGx Rk sx r=>by
      have g:=sx _ _ gQ10;have tax:=ta.sm (s010.trans sx);have gTx:=(s010.trans sx) _ _ gT6;rcases hr' with ⟨k1,dx,rfl⟩ |⟨k1,dx,rfl⟩ |⟨k1,dx,rfl⟩ |⟨k1,k2,k3,dx,rfl⟩
      ·refine .inr (.inl ?_);subst k1;symm;refine⟨Q,dx,_,rfl,g,rfl,?_⟩;symm;refine⟨Q,dx,D,o,u,d,T',rfl,g,tax,gTx,λz' Gy sy hz' _=>?_⟩;rw[hz'.uniq hz];exact r Gy sy
      ·refine .inr (.inr (.inl ?_));subst k1;symm;refine⟨Q,dx,_,rfl,g,rfl,?_⟩;symm;refine⟨Q,dx,D,o,u,d,T',rfl,g,tax,gTx,λz' Gy sy hz' _=>?_⟩;rw[hz'.uniq hz];exact r Gy sy
      ·refine .inr (.inr (.inr ?_));subst k1;symm;refine⟨Q,dx,_,rfl,g,rfl,?_⟩;symm;refine⟨Q,dx,D,o,u,d,T',rfl,g,tax,λz' Gy sy hz' _=>?_⟩;rw[hz'.uniq hz];exact r Gy sy
      ·refine .inl ?_;symm;refine⟨Q,dx,_,rfl,g,rfl,?_⟩;symm;refine⟨Q,D,rfl,?_⟩;have e:z=none:=hz.uniq (show Fst _ _ none from λt k _ hb=>by
        obtain⟨_,_,_,_,_,h |h |h⟩:=hb
        ·exact k1 h.1
        ·exact k2 h.1
        ·exact k3 h.1)
       have:=r Gx (Sm.refl _)
       rw[e]at this;exact this
     clear hr';symm;refine br _ _ (Sm.refl _) λG11 s11=>?_;symm;refine b5k nmz ?_;symm;refine br _ _ s11 λG12 s12=>?_;symm;refine b5k nmz ?_;symm;have s012:=(s010.trans s11).trans s12;refine⟨a8H (ta.sm s012) (s012 _ _ gK6) (λo=>s012 _ _ (kk o)) (λo=>(kl o).sm s012) cp,?_⟩;symm
     by_cases c:z=none
     ·rw[decide_eq_true (show fz z=Z.non by rw[c])];symm;exact⟨_,_,_,_,(((s9.trans s10).trans s11).trans s12) |> s8.trans,rfl⟩
     ·rw[decide_eq_false (show ¬ fz z=Z.non by cases z with |none=>exact absurd rfl c |some p=>intro h;cases h)]
      symm;refine br _ _ (s11.trans s12) λG13 s13=>?_;symm;refine b6w (n:="tuple") (b:=true) (by cases z with |none=>exact absurd rfl c |some p=>rfl) rfl ?_
      symm;exact⟨_,_,_,_,((((s9.trans s10).trans s11).trans s12).trans s13) |> s8.trans,rfl⟩
    ·rintro σ G8 ⟨w9,w10,w11,w12,s8,rfl⟩;symm;exact⟨_,_,_,_,_,s7.trans s8,rfl⟩
   ·rintro σ G7 ⟨w8,w9,w10,w11,w12,s6,rfl⟩;symm;exact q _
def all_mk{l:PySem.W.OpenLaw}{w:World}{K:Fg}{h:Heap}{mg:Str->Option Value}{fa:Addr}(X:K.In h)(G:h.Ns fU mg)(hfa:mg "law"=some (.ref fa))
  {ad aa ab ac:Addr}
  {ae tP:Addr}
  (aD:PySem.W.nsIn K fU "Rule"=some (some (.ref ad)))
  (af:PySem.W.nsIn K fU "Alone"=some (some (.ref aa)))
  (ag:PySem.W.nsIn K fU "Named"=some (some (.ref ab)))
  (ah:PySem.W.nsIn K fU "Still"=some (some (.ref ac)))
  (aE:PySem.W.plainGet K ad Str.empty=true)
  (aF:PySem.W.hasDictIn K ad=true)
  (aG:PySem.W.plainOver K ad=true)
  (aH:PySem.W.findIn K (.ref ad) "__setattr__"=some (some (.builtin "object.__setattr__")))
  (ai:PySem.W.plainGet K aa Str.empty=true)
  (aj:PySem.W.hasDictIn K aa=true)
  (ak:PySem.W.plainOver K aa=true)
  (al:PySem.W.findIn K (.ref aa) "__setattr__"=some (some (.builtin "object.__setattr__")))
  (am:PySem.W.makesIn K aa=true)
  (ao:PySem.W.keepIn K (.ref aa)=true)
  (ap:PySem.W.plainGet K ab Str.empty=true)
  (aq:PySem.W.hasDictIn K ab=true)
  (ar:PySem.W.plainOver K ab=true)
  (au:PySem.W.findIn K (.ref ab) "__setattr__"=some (some (.builtin "object.__setattr__")))
  (av:PySem.W.makesIn K ab=true)
  (aw:PySem.W.keepIn K (.ref ab)=true)
  (ax:PySem.W.plainGet K ac Str.empty=true)
  (ay:PySem.W.hasDictIn K ac=true)
  (az:PySem.W.plainOver K ac=true)
  (aA:PySem.W.findIn K (.ref ac) "__setattr__"=some (some (.builtin "object.__setattr__")))
  (aB:PySem.W.makesIn K ac=true)
  (aC:PySem.W.keepIn K (.ref ac)=true)
  (lf:PySem.W.nsIn K fU "by_begin"=some (some (.ref ae)))
  (ll:a8l K ae tP=true)
  (gP:fU≠tP)
  (aI:PySem.W.findIn K (.ref ad) "__init__"=some (some (.builtin "object.__init__")))
  (aJ:PySem.W.makesIn K ad=true)
  (aK:PySem.W.keepIn K (.ref ad)=true)
  (F:AllF K top tF)
  (B:AllB K tB)
  (aR:AllM K top ad a8m)
  (aS:AllN K ad a8n)
  (aL:AllM K top aa a5L)
  (aM:AllN K aa a5M)
  (aN:AllM K top ab a5N)
  (aO:AllN K ab a5O)
  (aP:AllM K top ac a5P)
  (aQ:AllN K ac a5Q) :
  ∃(fd:fY)(c0:Addr),PySem.W.codeHdIn K c0 tP=true/\(∀(s:Shared)(v:Value),hV s fd ⟨[v],[]⟩ [("script",v)])/\∀base:Heap,K.In base->base.Ns fU mg->base.BuiltinsAt mg tP->FnOk l.prog w K mg base CX0 7 fa fd ["script"] (lowP K (a4F tP)):=by
 have br:=b6O X G;obtain⟨f,d,e,J⟩:=F 21 _ rfl;have e:=hfa.symm.trans (br _ _ e);cases e
 let a:Ad:=⟨ad,aa,ab,ac,tP⟩
 have hb:=λP base (bi:base.BuiltinsAt mg tP)=>b5l (P:=P) (w:=w) (base:=base) (a:=a) ⟨br,F,B,gP,bi,⟨ae,lf,ll⟩,br _ _ aD,⟨aE,aF,aG,aH⟩,aR,aS,⟨aJ,aI,aK⟩,br _ _ af,⟨ai,aj,ak,al⟩,aL,aM,⟨am,ao⟩,br _ _ ag,⟨ap,aq,ar,au⟩,aN,aO,⟨av,aw⟩,br _ _ ah,⟨ax,ay,az,aA⟩,aP,aQ,⟨aB,aC⟩⟩ J;obtain⟨fl,dl,el,Jl⟩:=F 9 _ rfl;cases (show some (some (Value.ref fl))=some (some (Value.ref ae)) from el.symm.trans lf);obtain⟨c0,_,hc0⟩:=a5K Jl ll;obtain⟨oc,od,kV,doc,pm,an,cdv,ct,osl,rfl,lk,hcd⟩:=J.ex;exact⟨_,c0,hc0,λs v=>.of_eq rfl,λbase _ _ bi=>hb l.prog base bi⟩
def walk{l:PySem.W.OpenLaw}{q:fK}{loose:List Str}{XP:(Str->Option Value)->Heap->Prop}{YP:World->Heap->Prop}{d:DefRec}{K:Params->Fg}{P0:Addr}(hn:l.most=some 63)(hdf:d.params.defaults=[])
  (hY:∀(w:World)(h:Heap),YP w h->(K w.params).In h/\h.get? P0=some (PySem.W.tabObj #[])) (hK0:∀w:World,(K w.params).lookup P0=none)
  (F:∀(w:World)(mg:Str->Option Value)(fa:Addr)(h:Heap),(K w.params).In h->h.Ns fU mg->mg d.name=some (.ref fa) ->
   ∃(fd:fY)(c0:Addr),PySem.W.codeHdIn (K w.params) c0 P0=true/\(∀(s:Shared)(u:Value),hV s fd ⟨[u],[]⟩ [("script",u)])/\∀base:Heap,(K w.params).In base->base.Ns fU mg->base.BuiltinsAt mg P0->FnOk l.prog w (K w.params) mg base CX0 7 fa fd ["script"] (lowP (K w.params) (a4F P0))) :
  PySem.W.WalkO q loose XP YP l.row.toRowW d [] (λf vs=>PySem.call f vs):=
 L2.walk_ofT (n:=63) (k:=7) (x:="script") (CX:=λ_=>CX0) (sp:=λw=>lowP (K w.params) (a4F P0)) hn (by decide) hdf ⟨rfl,by decide,by decide⟩ hY hK0 F (λ_ _ a ns hl hO hS=>a6u a ns (Fz.ofT hO hS) hO.1 (a9R hl)) λ_ _ _ _ _ z=>z
end Lw
end
open PySem PySem.W PyProof.Rows
set_option maxRecDepth 100000 in
set_option maxHeartbeats 0 in
theorem PySem.Challenge.cw_twotimes_k51_first_broken_holds : PySem.Challenge.rw_twotimes_k51_first_broken.Holds := by
 w_on;o_law;k_head;(case hw=>w_witness2)
 k_fill
 refine Lw.walk (l:=PySem.Challenge.rw_twotimes_k51_first_broken) rfl rfl (fun w h Y=>⟨PySem.W.km_in_of Y,PySem.W.km_tabs_of Y _ (.head _)⟩) (fun w=>by kernel_rfl) ?F
 case F=>
  intro w mg fa h KX G hmg;refine' Lw.all_mk KX G hmg ?aa ?ab ?ac ?ad ?ae ?af ?ag ?ah ?ai ?aj ?ak ?al ?am ?an ?ao ?ap ?aq ?ar ?au ?av ?aw ?ax ?ay ?az ?aA ?aB ?aC ?aD ?aE ?aF ?aG ?aH ?F ?aI ?aJ ?aK ?aL ?aM ?aN ?aO ?aP ?aQ
  all_goals try k_is
  (case aD=>kernel_rfl)
  (case aE=>decide)
  all_goals try k_is
  all_goals (repeat first |exact L3.af0 |exact L3.am0 |exact L3.ab0 |exact L3.an0 | (first |refine' L3.af1 ?_ ?_ ?_ ?_ ?_ |refine' L3.am1 ?_ ?_ ?_ ?_ ?_ ?_ |refine' L3.ab1 ?_ ?_ |refine' L3.an1 ?_ ?_)<;>try k_is)
