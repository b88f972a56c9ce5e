import PyProof.Rows.All
import Wide.All
import OpenK.AllK
import Wide.FinOn
import Lean
import PyProof.EqAt
import PyProof.EqKinds
import PyProof.TupleCall
import PyProof.CompFree
import PyProof.P3In
import PyProof.RaisesMany
import PyProof.StationsW
import PyProof.ExcClass3
import PyProof.ExcBaseAll.ValueError
import PyProof.RulesTry
import PyProof.RulesAs
import PyProof.NsDelKeeps
import KE.KTryMore
import PyProof.ExcArgs
import KE.RegKIsAll
import PyProof.Rows.EqDataRows
import KE.KLam
import KE.KSortKey
import KE.KNestM
import PyProof.DictItemsLoops
import PyProof.DictValues
import PyProof.DictWalks
import KE.KMinBuiltin
import KE.KEqDict
import KE.KIntText
import KE.KDictOf
import PyProof.StrBlockH
import KE.KWords
import PyProof.CallStr
import PyProof.StrLawsTight
import PyProof.StrLawsChain
import PyProof.AttrMissHeap
import KE.KSortTup
import Wide.Seal
import PySem.Challenge.RW_twotimes_k65_whole_joined_on_and_on
set_option Elab.async false
set_option linter.all false
set_option maxRecDepth 100000
set_option compiler.extract_closed false
set_option bootstrap.genMatcherCode false
noncomputable section
open List renaming length_map→aq,mem_append→au,mem_cons→ax,mem_singleton→ay,getElem?_eq_some_iff→az,getElem?_map→aA,getElem?_eq_getElem→aC,map_cons→aF,map_append→aG,pairwise_cons→aH,length_cons→aI,length_append→aJ,length_take→aK,mem_of_getElem?→aL,mem_map→aM,range→aO,all_cons→aS,pairwise_append→aT,size_toArray→aU,Perm→aV,append_assoc→aW,length→aX,mem_append_right→aY,append_nil→a9,mem_of_mem_take→bf,mem_map_of_mem→bg,length_drop→bj,take_length→bp,mem_cons_self→bu,nodup_cons→bv,map_nil→bx,getElem_mem→bz,all_eq_true→bA,getElem?_of_mem→bB,mem_filter→bC,filterMap_cons→bE,mem_cons_of_mem→bG,find?_cons→bJ,filter_cons→bK,lookup_cons→bL,cons→bN,map_map→bQ,mem_range→bR,pairwise_map→bT,mem_filterMap→bU,take_add_one→bV,length_filterMap_le→bW,getD_eq_getElem?_getD→bX,take_of_length_le→bY,pairwise_iff_getElem→bZ,nodup_append→b5,Pairwise→b6,length_eq_zero_iff→b8,any_eq_true→b9,mem_append_left→cf,any_cons→ci,reverse_append→cj,filter_sublist→cn,flatMap_cons→cq,of_mem_zip→cw,getElem?_append_right→cx,getElem?_append_left→cy,forIn_cons→cz,getElem?_drop→cE,reverse_singleton→cF,mem_iff_getElem→cH,length_pos_iff→cJ,any_eq_false→cK,reverse_cons→cM,drop_eq_getElem_cons→cQ,drop_eq_nil_of_le→cR,nil_append→cT,take_append_drop→cU,cons_append→cV,length_range→cW,find?_eq_none→cX,filter_eq_nil_iff→cZ,getElem?_set_self→de,getElem?_set_ne→dg,lookup→dh,replicate→dj,take_sublist→dk,lookup_append→dr,extract_eq_take_drop→du,getElem?_take→dw,take_append_of_le_length→dz,not_mem_nil→dB,length_filter_le→dG,mem_of_find?_eq_some→dH,filterMap_map→dJ,length_singleton→dM,pairwise_singleton→dO,drop_sublist→dP,perm_append_comm→dQ,mem_of_mem_drop→dR,singleton_append→dS,drop_append→dW,eraseIdx_cons_succ→dX,ext_getElem?→dY,pairwise_lt_range→d7,getElem?_eq_none→d8,find?_some→eh,rel_of_pairwise_cons→eB,take_succ_cons→eC,mem_flatMap→eD,map_eq_nil_iff→eE,getElem_take→eF,getElem?_eq_none_iff→eG,length_set→eO,filterMap_append→eP,map_take→eQ,perm_middle→eR,zipIdx_cons→eS,foldl_cons→eT,drop_set_of_lt→eU,take_set_of_le→eV,drop_append_of_le_length→eX,flatten_cons→eY,findIdx?→e9,ext_getElem→fj,length_reverse→fu,map_congr_left→fv,range'_succ→fz,map_filterMap→fB,find?_append→fD,getLast?_eq_none_iff→fF,head?_cons→fG,getLast?_eq_getElem?→fH,dropLast_subset→fI,getLast?_map→fJ,cons_lt_cons_iff→fK,perm_ext_iff_of_nodup→fL,find?_isSome→fM,filterMap_eq_map→fN
open Nat renaming le_refl→av,le_trans→aD,ne_of_lt→aE,lt_of_lt_of_le→aP,zero_le→aR,lt_irrefl→bt,le_of_lt→bD,ne_of_gt→bH,le_succ→cg,zero_add→cm,le_of_eq→cu,le_of_succ_le→cB,lt_succ_of_lt→cD,add_assoc→cI,lt_trans→cO,lt_succ_self→di,lt_of_le_of_lt→dq,add_zero→dy,mod_lt→dC,add_sub_cancel→dU,add_comm→er,min_le_right→eL,add_right_comm→ft,le_add_right→fw,le_of_lt_succ→fA
open False renaming elim→aB
open Option renaming some→aN,map_some→cA,filter→dI,getD_none→dL,isSome_iff_exists→eK,bind_some→eN
open Array renaming length_toList→aQ,getElem?_eq_getElem→bh,toList_push→bo,getElem?_toList→bP,perm_iff_toList_perm→cP,Perm→cS,size_map→dA,forIn_toList→dD,append_empty→d9,append_assoc→eI,mem_toList_iff→eJ,toList_extract→eW,toList_setIfInBounds→eZ,getElem?_modify→e7,toArray_toList→e8,getD_eq_getD_getElem?→fe,getElem?_eq_none→fi,size_setIfInBounds→fq,isEmpty_iff_size_eq_zero→fC
open Bool renaming false_ne_true→aZ,and_eq_true→bn,true_and→bM,eq_iff_iff→cr,false_eq_true→cG,and_false→cN,and_true→dE,and_self→dN,false_or→eM,false_and→fE
open Int renaming le_trans→be,le_of_lt→bO,le_refl→bS,eq_ofNat_of_zero_le→cY,not_lt→dv,emod_nonneg→et,emod_lt_of_pos→eu,toNat_natCast→fm
open Or renaming inr→bI,inl→b7
open PySem renaming wpAny_bind→fO,wpAny_pure→fP,SetTable→fQ,sizeLine→fR,Program→fV,starEach→fW,Builtin→fX,compareOp→fZ,NameKind→f6,cellsFrom→f7,sizeLine_eq→f8,wpAny_mono→f9,binaryOp→gb,mainGlobals→gg,wpAny_holding→gh,PassesOwn→gi,sysModules→gm,holding→gr,bootBuiltins→gx,FuncData→gz,wpAny_call_entry→gE,codeAny→gF,wpAny_setState_of→gG,wpAny_field→gH,scanBound→gK,valueAt→gM,wpAny_ite_split→gO,wpAny_rule→gQ,assignEach→gU,pickOrder→gX,wpAny_truthy_bool→gY,swapsWith→gZ,codeAny_mono→g5,wpAny_newObj_type→g7,standAt→g8,inplaceOp→g9,foldedSetIterable→hU,unsupported→hV,codeAny_builtin→hZ,wpAny_attempt→h9,wpAny_setField→ib,wpAny_passesOwn→ic,behindInMarks→ie,Keyword→ig,typeIs_str→ii,sliceBounds→ik,callerA→io,plainId_quiet→iq,wpAny_setEntries_of→ir,attributeBase→iu,BindsTo→iw,bindArgs→iy,backToKw→iz,keywordEach→iA,compEnvC→iB,wpAny_newTuple→iE,relayAll→iF,wpAny_isInstance→iG,wpAny_dictEntries→iI,tupleKind→iJ,intKind→iK,builtinsNs→iM,wpAny_load→iN,wpAny_pyIter_list→iO,getMethod→iP,wpAny_call→iQ,wpAny_Call_Name_kw→iR,getItem→iU,call_meetsIn→iV,closureFor→iW,notedBy→iX,wpAny_newList→i6,wpAny_storeSet_of→i7,fits_of_scanBound→i8,wpAny_askSetting→i9,isSubtype_type→ja,entryFor→jc,wpAny_seqItems→jd,wpAny_execs_nil→jf,setItem→jg,unaryOp→jh,lastMarks→ji,DictEntry→jj,wpAny_typeOf→jk,CellsOk→jl,wpAny_getItem_str_slice→jm,post_val_or_str→jo,ElemsOf→jq,setAddHashed→jr,storeSet→js,GenState→jt,wpAny_of_eq→ju,setNext→jv,wpAny_fieldsOf→jw,wpAny_setEpoch_of→jx,wpAny_setField_rec→jy,storeName→jz,wpAny_Name→jA,wpAny_standAt→jB,swapsWithSole→jC,swappedStores→jD,letOwnedTupleGo→jE,callWith→jF,seqIndex_of→jG,seqIndex_neg→jH,call_meets→jI,tupleKind_room_in1→jJ,wpAny_alloc→jK,compPost→jL,setAddHashedIn→jO,codeAny_of_tree→jP,checkBuiltinCall→jQ,entryFor_alias→jR,wpAny_updateSeq→jS,wpAny_forIn_list→jY,defaultsOf→jZ,wpAny_dictEpoch→j3,setMerge→j5
open PyProof.Rows renaming wpS_bind→fS,wpS_pure→fU,pendingOf→fY,IntsAre→gj,wpS_forRange→gk,failedOf→gA,wpS_mono→gC,SortKind→gI,wpS_modify→gJ,wpS_get→gN,AllBare→gR,listUpdate_at→ip,pairsOf→iC,sortedS→iH,reverseSlice'→iY,setPending→iZ,seqEpoch_at→i5,StrsAre→je,size_push'→jp,mergeAt'→jM,listItems_at→jN,kind_sorted→jT,plain_sorted→jU,entry_sorted→jV,slot_list_sort→jW,entry_list_sort→jX
abbrev Fg:=PySem.W.Frag
set_option tactic.hygienic false
namespace PySem.W.Fast
noncomputable def z:=0
def tw1932201132416917161:=z
def tw9802710815433441266:=z
def tw5592794230943225486:=z
def tw10011506032547935055:=z
def tw12917619481873698335:=z
def tw6503270820283142207:=z
def tw14962729367853572316:=z
def tw13193992144586109479:=z
def tw15438780599936979524:=z
def tw10046039955060805616:=z
def tw2473641388414589472:=z
def tw11328982436818663211:=z
def tw13079192173882671220:=z
def tw10140841540837143183:=z
def tw14148130974976781443:=z
def tw18314839834553328294:=z
def tw17053281387369598222:=z
def tw7046104489228232423:=z
def tw3778153693463270789:=z
def tw6757473005871552524:=z
def tw5847477730783850498:=z
def tw16405097660146048773:=z
def tw18252643212560468731:=z
def tw4988593717538014169:=z
def tw11752475741861519271:=z
def tw7537575193231575595:=z
def tw11520972866098096935:=z
def tw2640428989561605060:=z
def tw6814024295543922964:=z
def tw14407048691510976014:=z
def tw17805532437992384216:=z
def tw8355894632902186495:=z
def tw5901949662772579147:=z
def tw4884709001585229184:=z
def tw18354776948242464699:=z
def tw4180897174670405828:=z
def tw9022248995320867530:=z
def tw14258230073360897017:=z
def tw10849386910073082984:=z
def tw17819060450169653785:=z
def tw16708935299643655074:=z
def tw15321500651193904155:=z
def tw17123212005497633339:=z
def tw13187386703573165035:=z
def tw11720780272570044441:=z
def tw5958938603734302105:=z
def tw2390377343990330980:=z
def tw12141059601964603703:=z
def tw14471656968753571020:=z
def tw8025780418275822011:=z
def tw4964058403555041313:=z
def tw8104423308189277672:=z
def tw13725883130131519558:=z
def tw5254064665571205176:=z
def tw16319525480319438375:=z
def tw8958020977339790230:=z
def tw1169348176219614490:=z
def tw8040955624299815836:=z
def tw17750840292308866536:=z
def tw15753635047881094430:=z
def tw15869104341119533952:=z
def tw14704407790464043418:=z
def tw16855109893624458090:=z
def tw7561007424096131121:=z
def tw13577591562689627739:=z
def tw10719190364412924438:=z
def tw11841930828556462948:=z
def tw6089357914432891002:=z
def tw54637847411199498:=z
def tw8101707285354032578:=z
def tw14344531612015331299:=z
def tw8828337801997922608:=z
def tw14693720035362777024:=z
def tw15247349182819773986:=z
def tw532213468562303275:=z
def tw13462603727316977161:=z
def tw8028628683067137133:=z
def tw17744193861736058650:=z
def tw14988292076623985540:=z
def tw11323675000198159474:=z
def tw11840623977564952850:=z
def tw3872032273933713013:=z
def tw2825956267174571030:=z
def tw3112390540880394566:=z
def tw14996507224352699707:=z
def tw11041892926264681217:=z
def tw1440539329011669018:=z
def tw1925458268284034694:=z
def tw11255851290389435968:=z
def tw7782510148052337698:=z
def tw14981442485974463105:=z
def tw8349218814928404734:=z
def tw9533368922571211350:=z
def tw8901294378560625541:=z
def tw18368947003348477302:=z
def tw13398365459327242445:=z
def tw299215708623973862:=z
def tw11769041301019517010:=z
def tw15003642678447270141:=z
def tw17973276158069825567:=z
def tw11669953119451750188:=z
def tw10897388666052164339:=z
def tw17865299903247027089:=z
def tw10475583079485998818:=z
def tw1182659331284163309:=z
def tw10512093095207153422:=z
def tw6025744657309656953:=z
def tw8008065199599754601:=z
def tw17926188138291250051:=z
def tw12155811341124928048:=z
def tw7355439243879292460:=z
def tw4970775930418975146:=z
def tw2569193072055867661:=z
def tw1507770119688219007:=z
def tw1336822720400002703:=z
def tw632929447999360063:=z
def tw3894050185233685870:=z
def tw15345852980866388412:=z
def tw7924643464808783538:=z
def tw1081489560964773576:=z
def tw11823650437191324899:=z
def tw17481472140979656468:=z
def tw4412650781905347694:=z
def tw14250380054670484636:=z
def tw3348155910755686761:=z
def tw3925374865835357579:=z
def tw11600613331173767274:=z
def tw5303863613915757174:=z
def tw7866863394672654077:=z
def tw11941702389195030261:=z
def tw3360308833202338669:=z
def tw7891507592602113243:=z
def tw1210246079345372727:=z
def tw11426544974638474462:=z
def tw17365830512207375420:=z
def tw18395904707055797804:=z
def tw5753827422540216413:=z
def tw9521469273026708515:=z
def tw15189322173371012563:=z
def tw15285098028148736981:=z
def tw7337280296576229731:=z
def tw13225227232504015910:=z
def tw4546786014658238014:=z
def tw14467987037359392101:=z
def tw12423290818592861307:=z
def tw4033677854850802482:=z
def tw9557075786282841364:=z
def tw1838994590354472530:=z
def tw2462898883251607094:=z
def tw5298066173879062194:=z
def tw18260916493761415896:=z
def tw13142700024429470644:=z
def tw14711838168670202561:=z
def tw13941728409873072844:=z
def tw16695644085207747184:=z
def tw5305397046273268643:=z
def tw16506665063000264798:=z
def tw9919825425223703079:=z
def tw11573253019622577987:=z
def tw1507292211817216682:=z
def tw16886932035577167206:=z
def tw15792644286140025178:=z
def tw16633971665776443665:=z
def tw3750999624885635814:=z
def tw4264746686282760071:=z
def tw14916071006546662560:=z
def tw13964260552639497706:=z
def tw6108408599902820237:=z
def tw4832296545139713608:=z
def tw8135297945392230080:=z
def tw13394101620711763687:=z
def tw2319530661234324541:=z
def tw7256166894015047195:=z
def tw13202237332893869098:=z
def tw17961835403950402555:=z
def tw4403755832967506228:=z
def tw7824784508747511361:=z
def tw13163545560493487445:=z
def tw8486566351500754384:=z
def tw12313335935125885186:=z
def tw3935231300654545832:=z
def tw7860805760796707375:=z
def tw11436400254878997770:=z
def tw2642832177067674043:=z
def tw8887502833085195966:=z
def tw1171088305757982791:=z
def tw15640419222979867956:=z
def tw2298704321107108193:=z
def tw17137190971369127674:=z
def tw17094672150651773791:=z
def tw12153865785128449204:=z
def tw17535416189417529148:=z
def tw16624506517039759815:=z
def tw1857798109655488770:=z
def tw17540048617560736295:=z
def tw3896866294220742075:=z
def tw7212181782546121018:=z
def tw12536879787446404983:=z
def tw9334722808842513213:=z
def tw18305501828813094592:=z
def tw12632535544619072537:=z
def tw15291763236352810077:=z
def tw5396186058572143123:=z
def tw11359172330852815887:=z
def tw7473515224991135240:=z
def tw2466666963502546316:=z
def tw12933416564220571097:=z
def tw6688827158912480787:=z
def tw16313556272267109561:=z
def tw5598591608199125458:=z
def tw18114602676379146713:=z
def tw9846380319467933516:=z
def tw8929636429448582836:=z
def tw8320219109047534667:=z
def tw11414263160597217101:=z
def tw2015747844968132155:=z
def tw16012488195301064675:=z
def tw17998266264712769455:=z
def tw10152324416892979262:=z
def tw10819895202084681275:=z
def tw4973741505006921404:=z
def tw3761354895079798882:=z
def tw16223852288398357609:=z
def tw10333347884243113049:=z
def tw4203059862278669192:=z
def tw11324962859731192117:=z
def tw5025181697892846161:=z
def tw11998543209708932066:=z
def tw12379556562219805134:=z
def tw8420867121131950263:=z
def tw10049458337872834895:=z
def tw10506617539641023802:=z
def tw16451868704274168845:=z
def tw9701801479683468398:=z
def tw15272689495120082282:=z
def tw3042029834671824545:=z
def tw14410238484297237453:=z
def tw3637817531985238181:=z
def tw2607657772135943680:=z
def tw13048616220730329358:=z
def tw10430655513674235884:=z
def tw9149995211878105000:=z
def tw5326567292837626331:=z
def tw15059408574837172246:=z
def tw4390159086138967206:=z
def tw10076398218649122628:=z
def tw10781290241681863282:=z
def tw8047445471354180123:=z
def tw1630811055210612099:=z
def tw15486011965014216743:=z
def tw17355010234969716946:=z
def tw15996622776985424211:=z
def tw3163929888293568106:=z
def tw4596929178552388173:=z
def tw13295046845768183594:=z
def tw9054697231377533069:=z
def tw15821232639527572686:=z
def tw5290114006012789047:=z
def tw3552798710352413255:=z
def tw12283291926211782043:=z
def tw2960186150735749934:=z
def tw3521185467991356282:=z
def tw17528186617476274198:=z
def tw5476587599342661926:=z
def tw15081912633492143555:=z
def tw10664393532676820420:=z
def tw9932122043198624563:=z
def tw7744233747024905613:=z
def tw987292011733824528:=z
def tw8581732459585288638:=z
def tw13643098807190200534:=z
def tw7371859128663628354:=z
def tw13268042393317588414:=z
def tw2300450750469712872:=z
def tw12507603497881277399:=z
def tw9157175851001702115:=z
def tw6364864867207821096:=z
def tw13508689988307448098:=z
def tw4039752297889826253:=z
def tw15098276053967936547:=z
def tw1790164599108189839:=z
def tw4751066329257872229:=z
def tw12918979059668072038:=z
def tw17135024458440946626:=z
def tw10963865883956809374:=z
def tw4575514649358002853:=z
def tw12270917589663700803:=z
def tw3712006771206924037:=z
def tw9574010407704726797:=z
def tw3129651055060810597:=z
def tw13616234913771471240:=z
def tw11353030601399605940:=z
def tw13198093664926039912:=z
def tw8564717200453288953:=z
def tw5773549716936841161:=z
def tw13743677359600712427:=z
def tw7613497730758538992:=z
def tw10049392373320010906:=z
def tw6841389364346516619:=z
def tw16274107322173884338:=z
def tw9504544163090128820:=z
def tw10116848777594053789:=z
def tw11687243966899093091:=z
def tw1396579383780235967:=z
def tw1031997096032699716:=z
def tw6277841209196924069:=z
def tw5606912419681193783:=z
def tw1000735030209361264:=z
def tw11038718071385420679:=z
def tw5947499378936457605:=z
def tw4520129508446171144:=z
def tw13263467068026407247:=z
def tw9784308658634944385:=z
def tw17533564272739191218:=z
def tw17712656829857512993:=z
def tw10631886405162078188:=z
def tw17341400848312514640:=z
def tw1655344415858616813:=z
def tw2458899896845375425:=z
def tw3758781207501813531:=z
def tw1075429959517791522:=z
def tw4024262805041457832:=z
def tw6525918776060483596:=z
def tw3869877312870929566:=z
def tw9788455611113136330:=z
def tw11473567084709221951:=z
def tw15759702290160596809:=z
def tw570893200101051753:=z
def tw16074118075702515827:=z
def tw13343862540473380680:=z
def tw2050908150439708145:=z
def tw10792027911352240453:=z
def tw5081738418497760926:=z
def tw14258900902655099219:=z
def tw9809630245197398735:=z
def tw13082168667944140315:=z
def tw13484643802385443512:=z
def tw10379786605058099768:=z
def tw11692070139409599811:=z
def tw11456123322792542918:=z
def tw1686709113374249606:=z
def tw14606631089297317396:=z
def tw13506177642533533373:=z
def tw15579453618212130125:=z
def tw13455921604410473605:=z
def tw16876819477768776676:=z
def tw7062593224376747237:=z
def tw15317181507302035844:=z
def tw7289543435988792751:=z
def tw3191085853631764391:=z
def tw10538575531539377243:=z
def tw18394002041121036121:=z
def tw17377743623388284217:=z
def tw17042590870900880856:=z
def tw14983506021840263123:=z
def tw14446957523424040464:=z
def tw2777791171531406029:=z
def tw2485463945452703047:=z
def tw13927512314829873065:=z
def tw11632534694903773214:=z
def tw15754948312771609674:=z
def tw212718816973941766:=z
def tw16595824395264236455:=z
def tw13025074994371679362:=z
def tw922305649395221625:=z
def tw18036358179722392652:=z
def tw3538958124367111189:=z
def tw11852583038606683981:=z
def tw18333508696040150810:=z
def tw12248517310496802994:=z
end PySem.W.Fast
namespace L2
open PySem PySem.Spec PyProof.Rows
abbrev Key:=Sum (Option Int) Str
noncomputable def b7N:Value->Bool
 |.none=>true
 |_=>false
noncomputable def a7g:Key->Value->Bool
 |.inl (some k),v=>Value.isInt k v
 |.inl none,v=>b7N v
 |.inr x,v=>Value.isStrOf x v
noncomputable def keyH(w:World):Key->Int
 |.inl (some k)=>hashInt k
 |.inl none=>reduceHash 0xFCA86420
 |.inr x=>hashStr w x
theorem a0n:∀{k:Key}{v:Value},a7g k v=true->(∃i t,k=Sum.inl (some i)/\v=Value.int i t)\/(∃x t,k=Sum.inr x/\v=Value.str x t)\/(k=Sum.inl none/\v=Value.none)
 |.inl (some i),v,h=>by
  obtain⟨t,e⟩:=Value.isInt_shape h;exact .inl ⟨i,t,rfl,e⟩
 |.inl none,v,h=>by
  cases v<;>first |exact .inr (.inr ⟨rfl,rfl⟩) |cases h
 |.inr x,v,h=>by
  obtain⟨t,e⟩:=Value.isStrOf_shape h;exact .inr (.inl ⟨x,t,rfl,e⟩)
def a7Z(i:Int)(t:Tok):a7g (.inl (some i)) (.int i t)=true:=by simp[a7g,Value.isInt]
def a70(x:Str)(t:Tok):a7g (.inr x) (.str x t)=true:=by simp[a7g,Value.isStrOf]
def b4U(a b:Int):decide ((Sum.inl (some a):Key)=Sum.inl (some b))=(a==b):=by
 by_cases e:a=b
 ·simp_all
 ·simp_all
def b4V(a b:Str):decide ((Sum.inr a:Key)=Sum.inr b)=decide (a=b):=by simp
def a3w{a b:Key}(h:a≠b):decide (a=b)=false:=decide_eq_false h
noncomputable def a0j(prog:fV)(w:World):PySem.KeyKind prog w Key where
 is:=a7g
 hash:=keyH w
 inj:=λv a b ha hb=>by
  rcases a0n ha with ⟨i,t,rfl,rfl⟩ |⟨x,t,rfl,rfl⟩ |⟨rfl,rfl⟩
  ·rcases a0n hb with ⟨j,u,rfl,e⟩ |⟨y,u,rfl,e⟩ |⟨rfl,e⟩
   ·injection e with e1 _;rw[e1]
   ·exact nomatch e
   ·exact nomatch e
  ·rcases a0n hb with ⟨j,u,rfl,e⟩ |⟨y,u,rfl,e⟩ |⟨rfl,e⟩
   ·exact nomatch e
   ·injection e with e1 _;rw[e1]
   ·exact nomatch e
  ·rcases a0n hb with ⟨j,u,rfl,e⟩ |⟨y,u,rfl,e⟩ |⟨rfl,e⟩
   ·exact nomatch e
   ·exact nomatch e
   ·rfl
 byValue:=λk v h=>by
  rcases a0n h with ⟨i,t,rfl,rfl⟩ |⟨x,t,rfl,rfl⟩ |⟨rfl,rfl⟩<;>rfl
 pyHash:=λhv h=>by
  rcases a0n hv with ⟨i,t,rfl,rfl⟩ |⟨x,t,rfl,rfl⟩ |⟨rfl,rfl⟩
  ·exact wpAny_pyHash_int h
  ·exact wpAny_pyHash_str h
  ·exact PySem.W.pyHash_slot (T:="NoneType") rfl F.slot_NoneType_hash F.entry_NoneType_hash (F.args_NoneType_hash_1 _) (beq_builtin_none _) (.inl rfl) (fO (fP (fO (wpAny_mkInt (fP ⟨_,_,rfl,h⟩)))))
 eqBool:=λhu hv h=>by
  rcases a0n hu with ⟨i,t,rfl,rfl⟩ |⟨x,t,rfl,rfl⟩ |⟨rfl,rfl⟩
  ·rcases a0n hv with ⟨j,u,rfl,rfl⟩ |⟨y,u,rfl,rfl⟩ |⟨rfl,rfl⟩
   ·rw[b4U]at h;exact wpAny_eqBool_int h
   ·rw[show decide ((Sum.inl (some i):Key)=Sum.inr y)=false from a3w (by simp)]at h;exact SeqAt.EqAt.int_str i t y u _ _ _ _ h
   ·rw[show decide ((Sum.inl (some i):Key)=Sum.inl none)=false from a3w (by simp)]at h;exact SeqAt.EqAt.int_none i t _ _ _ _ h
  ·rcases a0n hv with ⟨j,u,rfl,rfl⟩ |⟨y,u,rfl,rfl⟩ |⟨rfl,rfl⟩
   ·rw[show decide ((Sum.inr x:Key)=Sum.inl (some j))=false from a3w (by simp)]at h;exact SeqAt.EqAt.str_int x t j u _ _ _ _ h
   ·rw[b4V]at h;exact wpAny_eqBool_str h
   ·rw[show decide ((Sum.inr x:Key)=Sum.inl none)=false from a3w (by simp)]at h;exact SeqAt.EqAt.str_none x t _ _ _ _ h
  ·rcases a0n hv with ⟨j,u,rfl,rfl⟩ |⟨y,u,rfl,rfl⟩ |⟨rfl,rfl⟩
   ·rw[show decide ((Sum.inl none:Key)=Sum.inl (some j))=false from a3w (by simp)]at h;exact SeqAt.EqAt.none_int j u _ _ _ _ h
   ·rw[show decide ((Sum.inl none:Key)=Sum.inr y)=false from a3w (by simp)]at h;exact SeqAt.EqAt.none_str y u _ _ _ _ h
   ·rw[decide_eq_true rfl]at h;unfold PySem.eqBool;refine gh ?_;exact gO (λ_=>fO (gQ (fP h))) λhab=>absurd rfl hab
 «strs»:=λk x t v h=>by
  rcases a0n h with ⟨i,u,rfl,e⟩ |⟨y,u,rfl,e⟩ |⟨rfl,e⟩
  ·exact nomatch e
  ·injection e with e1 _
   subst e1;cases v<;>rfl
  ·exact nomatch e
def a5C(prog:fV)(w:World)(i:Int)(t:Tok):(a0j prog w).is (.inl (some i)) (.int i t)=true:=a7Z i t
def a5D(prog:fV)(w:World)(x:Str)(t:Tok):(a0j prog w).is (.inr x) (.str x t)=true:=a70 x t
inductive V where
 |non |bl (b:Bool) |int (i:Int) |str (x:Str) |byt (b:Array UInt8) |flt (b:UInt64) |ref (a:Addr) |ty (n:String)
 deriving DecidableEq
def RelV:V->Value->Prop
 |.non,u=>u=Value.none
 |.bl b,u=>u=Value.bool b
 |.int i,u=>∃t,u=Value.int i t
 |.str x,u=>∃t,u=Value.str x t
 |.byt b,u=>∃t,u=Value.bytes b t
 |.flt b,u=>∃t,u=Value.float b t
 |.ref a,u=>u=Value.ref a
 |.ty n,u=>u=Value.type n
abbrev Vals:List V->List Value->Prop:=Paired RelV
def Vals.length(r:Vals xs us):xs.length=us.length:=Paired.length r
theorem Vals.get:∀{xs:List V}{us:List Value}{i:Nat}{x:V},Vals xs us->xs[i]?=some x->∃u,us[i]?=some u/\RelV x u
 |_,_,_,_,.nil,e=>by simp at e
 |_,_,0,_,.cons r _,e=>by simp at e;subst e;exact⟨_,rfl,r⟩
 |_,_,i+1,x,.cons _ t,e=>by
  obtain⟨u,b,a⟩:=Vals.get t (by simpa using e);exact⟨u,by simpa using b,a⟩
theorem Vals.set(r:RelV x u):∀{xs:List V}{us:List Value}(i:Nat),Vals xs us->Vals (xs.set i x) (us.set i u)
 |_,_,_,.nil=>.nil
 |_,_,0,.cons _ t=>.cons r t
 |_,_,i+1,.cons q t=>.cons q (Vals.set r i t)
def Vals.append:∀{xs ys:List V}{us ws:List Value},Vals xs us->Vals ys ws->Vals (xs++ys) (us++ws):=by intro z0 y0 x0 w0 v0;induction v0 with
 |nil=>intro s;exact s
 |cons r t I0=>intro s;exact .cons r (I0 s)
theorem Vals.take:∀{xs:List V}{us:List Value}(n:Nat),Vals xs us->Vals (xs.take n) (us.take n)
 |_,_,0,_=>.nil
 |_,_,_+1,.nil=>.nil
 |_,_,n+1,.cons r t=>.cons r (Vals.take n t)
theorem Vals.drop:∀{xs:List V}{us:List Value}(n:Nat),Vals xs us->Vals (xs.drop n) (us.drop n)
 |_,_,0,r=>r
 |_,_,_+1,.nil=>.nil
 |_,_,n+1,.cons _ t=>Vals.drop n t
def Vals.none_of:∀{xs:List V}{us:List Value}{i:Nat},Vals xs us->xs[i]?=none->us[i]?=none:=λ{a d i} r e=>by
 have b:=r.length;have c:=eG.mp e;exact eG.mpr (by lia)
def RelO:Option V->Option Value->Prop
 |some v,some u=>RelV v u
 |none,none=>True
 |_,_=>False
def KV{κ:Type}:List (κ×V)->List (κ×Value)->Prop:=Paired λ(p:κ×V) (q:κ×Value)=>p.1=q.1/\RelV p.2 q.2
noncomputable def kV:Key->V
 |.inl (some i)=>.int i
 |.inl none=>.non
 |.inr x=>.str x
inductive HO where
 |lst (xs:List V)
 |tup (xs:List V)
 |dK (kvs:List (Key×V)) |dT (kvs:List (List Key×V))
 |set (S:Int->Bool) (n:Nat)
 |ins (C dx:Addr) (fs:List (Str×V))
 |own (x:Addr)
 |xd (fs:List (Str×V))
 |met (f x:Addr)
 |rng (lo hi:Int)
 |frz (o:Obj) (u:HO)
 |tbl (ps:Array Value)
 |ext (φ:Heap->Prop)
abbrev Hp:=Addr->Option HO
noncomputable def upd(H:Hp)(a:Addr)(o:HO):Hp:=λb=>if b=a then some o else H b
def a0d:upd H a o a=some o:=by unfold upd;rw[if_pos rfl]
def a0c(h:b≠a):upd H a o b=H b:=by unfold upd;rw[if_neg h]
def b7O{H:Hp}(h:H a=some o)(h':H b=some u)(d:o≠u):a≠b:=by
 intro e;subst e;rw[h]at h';exact d (aN.inj h')
def a0r{H:Hp}(h:H a=some o)(h':H b=none):a≠b:=by
 intro e;subst e;rw[h]at h';cases h'
section
variable(P:fV)(w:World)
def ObjOk(H:Hp)(h:Heap)(a:Addr):HO->Prop
 |.lst xs=>xs.length<=fR/\∃(its:List Value)(n:Nat),Vals xs its/\h.get? a=some { cls:=.type "list",data:=.seq its.toArray n }
 |.tup xs=>xs.length<=fR/\∃its:List Value,Vals xs its/\IsTup h a its.toArray
 |.dK kvs=>kvs.length<=fR/\(a==gm)=false/\∃vs,KV kvs vs/\h.DictOf (a0j P w) a vs
 |.dT kvs=>kvs.length<=fR/\(a==gm)=false/\∃xs:List (List Key×Addr×Value),
   Paired (λ(p:List Key×V) (q:List Key×Addr×Value)=>p.1=q.1/\H q.2.1=some (.tup (p.1.map kV))/\RelV p.2 q.2.2) kvs xs /\
   ∃o es ep,h.get? a=some o/\o.ExactDict/\o.data=.dict es ep/\es.toList=xs.map (entryOfKey (iJ (a0j P w)))/\(xs.map (·.1)).Nodup
 |.set S n=>h.SetOf (iK P w) a S n
 |.ins C dx fs=>H dx=some (.own a)/\fs.length<=1000/\dx≠a/\h.get? a=some (PySem.W.instObj C dx) /\
   ∃mA,h.Ns1 dx mA/\(∀f,RelO (fs.lookup f) (mA f))/\PySem.Within mA (fs.map (·.1))
 |.own _=>∃o,h.get? a=some o
 |.xd fs=>∃mA,h.Ns1 a mA/\∀f,RelO (fs.lookup f) (mA f)
 |.rng lo hi=>∃t u v,h.get? a=some { cls:=.type "range",data:=.fields #[.int lo t,.int hi u,.int 1 v] }
 |.frz o u=>h.get? a=some o/\ObjOk H h a u
 |.tbl ps=>h.get? a=some { cls:=.none,data:=.fields ps }
 |.met f x=>h.get? a=some (PySem.W.methodObj (.ref f) (.ref x))
 |.ext φ=>φ h/\(∃o,h.get? a=some o)/\∀h1 h2:Heap,φ h1->(∀o,h1.get? a=some o->h2.get? a=some o)->φ h2
def HOk(H:Hp)(h:Heap):Prop:=∀a o,H a=some o->ObjOk P w H h a o
end
section
variable{P:fV}{w:World}{H H':Hp}{h h':Heap}{a:Addr}{o:HO}
def ObjOk.lt(x:ObjOk P w H h a o):a<h.objs.size:=by
 cases o with
 |lst xs=>obtain⟨_,_,_,_,e⟩:=x;exact Heap.lt_size e
 |tup xs=>obtain⟨_,_,_,p⟩:=x;exact p.lt
 |dK kvs=>obtain⟨_,_,_,_,o,_,_,e,_⟩:=x;exact Heap.lt_size e
 |dT kvs=>obtain⟨_,_,_,_,o,_,_,e,_⟩:=x;exact Heap.lt_size e
 |set S n=>obtain⟨o,_,_,_,e,_⟩:=x;exact Heap.lt_size e
 |ins C dx fs=>obtain⟨_,_,_,e,_⟩:=x;exact Heap.lt_size e
 |own y=>obtain⟨_,e⟩:=x;exact Heap.lt_size e
 |xd fs=>obtain⟨_,⟨_,_,_,e,_⟩,_⟩:=x;exact Heap.lt_size e
 |rng lo hi=>obtain⟨_,_,_,e⟩:=x;exact Heap.lt_size e
 |frz ob u=>obtain⟨e,_⟩:=x;exact Heap.lt_size e
 |tbl ps=>exact Heap.lt_size (x)
 |met f y=>exact Heap.lt_size (x)
 |ext φ=>obtain⟨_,⟨_,e⟩,_⟩:=x;exact Heap.lt_size e
def Paired.mapP{α β:Type}{F G:α->β->Prop}:∀{l₁:List α}{l₂:List β},Paired F l₁ l₂->(∀a b,F a b->G a b)->Paired G l₁ l₂:=by intro z0 y0 x0;induction x0 with
 |nil=>intro _;exact .nil
 |cons r t I0=>intro f;exact .cons (f _ _ r) (I0 f)
def ObjOk.stay(x:ObjOk P w H h a o)(k:∀b u,(b=a\/H b=some (.own a))->h.get? b=some u->h'.get? b=some u)
  (ho:∀b,H b=some (.own a)->H' b=some (.own a)) (ht:∀b xs,H b=some (.tup xs)->H' b=some (.tup xs)):ObjOk P w H' h' a o:=by
 induction o with
 |lst s=>obtain⟨z,l,n,r,e⟩:=x;exact⟨z,l,n,r,k _ _ (.inl rfl) e⟩
 |tup s=>obtain⟨z,l,r,g,e,c⟩:=x;exact⟨z,l,r,g,k _ _ (.inl rfl) e,c⟩
 |dK kvs=>obtain⟨z,y,F,r,g,i,j,e,c⟩:=x;exact⟨z,y,F,r,g,i,j,k _ _ (.inl rfl) e,c⟩
 |dT kvs=>
  obtain⟨z,y,s,r,g,i,j,e,c⟩:=x;exact⟨z,y,s,Paired.mapP r λp q z=>⟨z.1,ht _ _ z.2.1,z.2.2⟩,g,i,j,k _ _ (.inl rfl) e,c⟩
 |set S n=>obtain⟨g,i,j,t,e,c⟩:=x;exact⟨g,i,j,t,k _ _ (.inl rfl) e,c⟩
 |ins C dx fs=>
  obtain⟨d,z,D,e,A,⟨m,i,j,E,c⟩,r⟩:=x;exact⟨ho _ d,z,D,k _ _ (.inl rfl) e,A,⟨m,i,j,k _ _ (.inr d) E,c⟩,r⟩
 |own y=>obtain⟨g,e⟩:=x;exact⟨g,k _ _ (.inl rfl) e⟩
 |xd fs=>obtain⟨A,⟨m,i,j,e,c⟩,r⟩:=x;exact⟨A,⟨m,i,j,k _ _ (.inl rfl) e,c⟩,r⟩
 |rng lo hi=>obtain⟨t,u,v,e⟩:=x;exact⟨t,u,v,k _ _ (.inl rfl) e⟩
 |frz g u ih=>obtain⟨e,q⟩:=x;exact⟨k _ _ (.inl rfl) e,ih q⟩
 |tbl ps=>
  exact k a _ (.inl rfl) x
 |met f y=>
  exact k a _ (.inl rfl) x
 |ext φ=>obtain⟨p,⟨o,e⟩,B⟩:=x;exact⟨B _ _ p λo q=>k _ _ (.inl rfl) q,⟨o,k _ _ (.inl rfl) e⟩,B⟩
def HOk.lt(x:HOk P w H h)(e:H a=some o):a<h.objs.size:=(x a o e).lt
def HOk.fresh(x:HOk P w H h)(e:h.objs.size<=a):H a=none:=by
 cases q:H a with
 |none=>rfl
 |some u=>exact absurd (aP (x.lt q) e) (bt _)
def HOk.kept(x:HOk P w H h)(k:∀b u,h.get? b=some u->h'.get? b=some u):HOk P w H h':=λa o e=>
 (x a o e).stay (λb u _ q=>k b u q) (λ_ q=>q) λ_ _ q=>q
def HOk.laid(x:HOk P w H h)(k:∀b u,h.get? b=some u->h'.get? b=some u)(hp:h.objs.size<=a)(new:ObjOk P w (upd H a o) h' a o):HOk P w (upd H a o) h':=λb u e=>by
 have d:=x.fresh hp
 by_cases hb:b=a
 ·subst hb;rw[a0d]at e;cases e;exact new
 ·rw[a0c hb]at e;exact (x b u e).stay (λc v _ q=>k c v q) (λc q=>by rw[a0c (a0r q d)];exact q) λc f q=>by rw[a0c (a0r q d)];exact q
end
def Rd(H:Hp)(a:Addr)(u:HO):Prop:=H a=some u\/∃o,H a=some (.frz o u)
def Rd.of(h:H a=some u):Rd H a u:=.inl h
def Rd.ok(r:Rd H a u)(x:HOk P w H h):ObjOk P w H h a u:=by
 rcases r with r |⟨o,r⟩
 ·exact x a u r
 ·obtain⟨_,q⟩:=x a _ r;exact q
def Mut:Option HO->Prop
 |some (.lst _)=>True
 |some (.dK _)=>True
 |some (.dT _)=>True
 |some (.set _ _)=>True
 |some (.ins _ _ _)=>True
 |some (.ext _)=>True
 |_=>False
section
variable{P:fV}{w:World}{H:Hp}{h h':Heap}{x e:Addr}{o':HO}
def HOk.write(ok:HOk P w H h)(mu:Mut (H x))(he:e=x\/H e=some (.own x))(k:∀b u,b≠e->h.get? b=some u->h'.get? b=some u)(heo:∃u,h'.get? e=some u)
  (new:ObjOk P w (upd H x o') h' x o'):HOk P w (upd H x o') h':=λb u q=>by
 have a:∀c y,H c=some (.own y)->c≠x:=λc y r z=>by subst z;rw[r]at mu;exact mu
 have g:∀c d,H c=some (.tup d)->c≠x:=λc d r z=>by subst z;rw[r]at mu;exact mu
 by_cases hb:b=x
 ·subst hb;rw[a0d]at q;cases q;exact new
 ·rw[a0c hb]at q
  by_cases hbe:b=e
  ·have i:H b=some (.own x):=by
    rcases he with z |z
    ·exact absurd (hbe.trans z) hb
    ·rw[hbe];exact z
   rw[q]at i;cases i;obtain⟨v,j⟩:=heo;exact⟨v,by rw[hbe];exact j⟩
  ·refine (ok b u q).stay (λc v f r=>k c v ?_ r) (λc r=>by rw[a0c (a c b r)];exact r) λc d r=>by rw[a0c (g c d r)];exact r
   rcases f with rfl |f
   ·omega
   ·grind
end
structure Un (fs ex:List Addr) (H H':Hp) (h h':Heap):Prop where
 keep:∀b o,h.get? b=some o->H b=none->b∉fs->b∉ex->h'.get? b=some o
 slot:∀b o,h.get? b=some o->H b=none->b∈fs->b∉ex->∃sl,h'.get? b=some { o with slots:=sl }
 free:∀b o,h.get? b=some o->H b=none->b∉ex->H' b=none
 there:∀b o,h.get? b=some o->b∉ex->∃o',h'.get? b=some o'
 tups:∀b xs,H b=some (.tup xs)->H' b=some (.tup xs)
 frzs:∀b o u,H b=some (.frz o u)->H' b=some (.frz o u)
 tbls:∀b ps,H b=some (.tbl ps)->∃more,H' b=some (.tbl (ps++more))
section
variable{fs fs' ex ex':List Addr}{H H1 H2:Hp}{h h1 h2 h':Heap}{a x e:Addr}{o:HO}
noncomputable def Un.any(u:Un fs ex H H1 h h1)(q:h.get? b=some ob)(n:H b=none)(hx:b∉ex):∃sl,h1.get? b=some { ob with slots:=sl }:=by
 by_cases hb:b∈fs
 ·exact u.slot b ob q n hb hx
 ·exact⟨ob.slots,u.keep b ob q n hb hx⟩
theorem Un.trans(a:Un fs ex H H1 h h1)(b:Un fs ex H1 H2 h1 h2):Un fs ex H H2 h h2 where
 keep:=λc ob q n hc hx=>b.keep c ob (a.keep c ob q n hc hx) (a.free c ob q n hx) hc hx
 slot:=λc ob q n hc hx=>by
  obtain⟨sl,e1⟩:=a.slot c ob q n hc hx;obtain⟨sl',e2⟩:=b.slot c _ e1 (a.free c ob q n hx) hc hx;exact⟨sl',e2⟩
 free:=λc ob q n hx=>by
  obtain⟨o',e1⟩:=a.there c ob q hx;exact b.free c o' e1 (a.free c ob q n hx) hx
 there:=λc ob q hx=>by
  obtain⟨o',e1⟩:=a.there c ob q hx;exact b.there c o' e1 hx
 tups:=λc xs q=>b.tups c xs (a.tups c xs q)
 frzs:=λc ob xs q=>b.frzs c ob xs (a.frzs c ob xs q)
 tbls:=λc ps q=>by
  obtain⟨m1,e1⟩:=a.tbls c ps q;obtain⟨m2,e2⟩:=b.tbls c _ e1;exact⟨m1++m2,by rw[e2,eI]⟩
def Un.kept(k:∀b u,h.get? b=some u->h'.get? b=some u):Un fs ex H H h h':=
 ⟨λb a q _ _ _=>k b a q,λb a q _ _ _=>⟨a.slots,k b a q⟩,λ_ _ _ n _=>n,λb a q _=>⟨a,k b a q⟩,λ_ _ q=>q,λ_ _ _ q=>q,λ_ c q=>⟨#[],by rw[q];simp⟩⟩
def Un.refl:Un fs ex H H h h:=Un.kept λ_ _ q=>q
theorem Un.laid(k:∀b u,h.get? b=some u->h'.get? b=some u)(hp:h.objs.size<=a)(hn:H a=none):Un fs ex H (upd H a o) h h' where
 keep:=λb u q _ _ _=>k b u q
 slot:=λb u q _ _ _=>⟨u.slots,k b u q⟩
 free:=λb u q n _=>by rw[a0c (aE (aP (Heap.lt_size q) hp))];exact n
 there:=λb u q _=>⟨u,k b u q⟩
 tups:=λb xs q=>by rw[a0c (a0r q hn)];exact q
 frzs:=λb u xs q=>by rw[a0c (a0r q hn)];exact q
 tbls:=λb ps q=>⟨#[],by rw[a0c (a0r q hn),q];simp⟩
def Un.write(mu:Mut (H x))(he:e=x\/H e=some (.own x))(k:∀b u,b≠e->h.get? b=some u->h'.get? b=some u)(heo:∃u,h'.get? e=some u):Un fs ex H (upd H x o) h h':=by
 have d:∀b,H b=none->b≠x:=λb n z=>by subst z;rw[n]at mu;exact mu
 have c:∀b,H b=none->b≠e:=λb n z=>by simp_all
 have a:∀b u,H b=some u->¬ Mut (some u)->b≠x:=λb u q g z=>by subst z;rw[q]at mu;exact g mu
 refine⟨λb u q n _ _=>k b u (c b n) q,λb u q n _ _=>⟨u.slots,k b u (c b n) q⟩,λb u q n _=>by rw[a0c (d b n)];exact n,λb u q _=>?_,
  λb f q=>by rw[a0c (a b _ q λz=>z)];exact q,λb u f q=>by rw[a0c (a b _ q λz=>z)];exact q,λb i q=>⟨#[],by rw[a0c (a b _ q λz=>z),q];simp⟩⟩
 by_cases hbe:b=e
 ·grind
 ·exact⟨u,k b u hbe q⟩
def Un.mono(u:Un fs ex H H1 h h1)(hs:∀b∈fs,b∈fs')(hx:∀b∈ex,b∈ex'):Un fs' ex' H H1 h h1:=
 ⟨λb c q n d a=>u.keep b c q n (λz=>d (hs b z)) λz=>a (hx b z),λ_ _ q n _ a=>u.any q n λz=>a (hx _ z),λb c q n a=>u.free b c q n λz=>a (hx b z),λb c q a=>u.there b c q λz=>a (hx b z),u.tups,u.frzs,u.tbls⟩
end
noncomputable def trk(h:Heap)(H:Hp):List Addr:=(aO h.objs.size).filter λa=>(H a).isSome
noncomputable def hidT(h:Heap)(H:Hp):Heap:=PySem.W.hideAll h (trk h H)
def a71(h:Heap)(H:Hp):(hidT h H).objs.size=h.objs.size:=PySem.W.hideAll_size _ _
def a3U(e:h.get? b=some o)(n:H b=none):(hidT h H).get? b=some o:=
 PySem.W.hideAll_get _ e λa=>by
  have q:=(bC.mp a).2;rw[n]at q;simp at q
def b2M(e:(hidT h H).get? b=some o):h.get? b=some o/\H b=none:=by
 have a:=PySem.W.of_hideAll _ e;refine⟨a,?_⟩;cases q:H b with
 |none=>rfl
 |some x=>
  have c:b∈trk h H:=bC.mpr ⟨bR.mpr (Heap.lt_size a),by simp[q]⟩;have z:(hidT h H).get? b=none:=PySem.W.hideAll_none _ c;rw[z]at e;cases e
noncomputable def b2N(g h:Heap)(L:Addr):List (Addr×Obj):=(aO h.objs.size).filterMap λa=>if a=L\/(g.get? a).isSome=true then none else (h.get? a).map λo=>(a,o)
noncomputable def rest(g h:Heap)(L d:Addr):List (Addr×Obj):=(b2N g h L).filter λp=>decide (p.1≠d)
structure Mod (K:Fg) (mg:Str->Option Value) (base:Heap):Prop where
 kin:K.In base
 glob:base.Ns gg mg
 blt:∃mb,base.Ns iM mb/\∀x:Str,x≠"__name__"->mb x=gx x
 nolimit:base.NoLimit
structure Cx where
 prog:fV
 w:World
 K:Fg
 mg:Str->Option Value
 base:Heap
 A:Around
 N:List Str
 s₀:Shared
 H₀:Hp
 env:Env
 outer:List Env
 stack:List Env
 ex:List Addr
 fn:Str->Bool
 calm:Bool
 pn:List (Addr×Obj)
 xe:Value->Shared->Prop
noncomputable def frs(l:List Env):List Addr:=l.filterMap (·.frame)
abbrev Cx.fs(X:Cx):List Addr:=frs X.outer
def Vis(sc:Scope)(x:Str):Prop:=sc.names.lookup x=some .local\/sc.names.lookup x=some .cell\/sc.names.lookup x=some .free
def Loc(sc:Scope)(x:Str):Prop:=sc.names.lookup x=some .local\/sc.names.lookup x=some .cell
def Look(env:Env)(h:Heap)(m:Str->Option Value)(x:Str)(u:Value):Prop:=
 (env.kindOf x=some .local/\m x=some u)\/((env.kindOf x=some .cell\/env.kindOf x=some .free)/\∃c,env.cells.lookup x=some c/\h.IsCell c (some u))
structure Cx.Ok (X:Cx):Prop where
 mod:Mod X.K X.mg X.base
 kind:X.env.scope.kind=.function
 glob:X.env.globals=gg
 blt:X.env.builtins=iM
 above:X.s₀.heap.objs.size<=X.env.locals
 inj:∀x y c,X.env.cells.lookup x=some c->X.env.cells.lookup y=some c->x=y
 has:∀x,(X.env.kindOf x=some .cell\/X.env.kindOf x=some .free)->∃c,X.env.cells.lookup x=some c
 cab:∀x c,X.fn x=true->X.env.cells.lookup x=some c->X.s₀.heap.objs.size<=c
 hd:X.calm=true->X.A.handled=none
 frames:X.A.frames=some X.stack
 stk:X.stack=X.outer\/(X.stack=X.env::X.outer/\X.env.frame=some X.env.locals)
 exf:∀b∈X.ex,b≠X.env.locals/\∀x c,X.env.cells.lookup x=some c->c≠b
 bs:∀b o,X.base.get? b=some o->X.s₀.heap.get? b=some o/\X.H₀ b=none
 bsz:X.base.objs.size<=X.s₀.heap.objs.size
 noex:∀b o,X.base.get? b=some o->b∉X.ex
 exfs:∀b∈X.ex,b∉X.fs
 funs:X.s₀.heap.FunFrames X.base X.outer
 frf:∀b∈X.fs,X.H₀ b=none
structure Inv (X:Cx) (pins:List (Addr×Obj)) (σ:List (Option V)) (H:Hp) (s:Shared):Prop where
 ok:X.Ok
 os:s.os=X.s₀.os
 bare:gR s.gens
 base:Un X.fs X.ex X.H₀ H X.s₀.heap s.heap
 loc:∃m,s.heap.Ns X.env.locals m/\∀(i:Nat)(x:Str)(v:V),X.N[i]?=some x->σ[i]?=some (some v)->Vis X.env.scope x->∃u,RelV v u/\Look X.env s.heap m x u
 cell:∀x c,X.env.cells.lookup x=some c->∃v,s.heap.IsCell c v
 free:H X.env.locals=none
 freeC:∀x c,X.env.cells.lookup x=some c->H c=none
 pin:∀p∈X.pn++pins,s.heap.get? p.1=some p.2/\H p.1=none/\p.1≠X.env.locals/\p.1∉X.fs/\∀v,p.2.data≠.cell v
 hok:HOk X.prog X.w H s.heap
 len:σ.length=X.N.length
section
variable{X:Cx}{pins:List (Addr×Obj)}{σ:List (Option V)}{H H':Hp}{s:Shared}{h':Heap}
def Cx.Ok.nofr(ok:X.Ok)(e:X.base.get? b=some o):b∉X.fs:=λa=>by
 have:=(ok.funs.mem a).1
 rw[e]at this;cases this
def Inv.bs(I:Inv X pins σ H s):∀b o,X.base.get? b=some o->s.heap.get? b=some o/\H b=none:=λb o e=>
 ⟨I.base.keep b o (I.ok.bs b o e).1 (I.ok.bs b o e).2 (I.ok.nofr e) (I.ok.noex b o e),I.base.free b o (I.ok.bs b o e).1 (I.ok.bs b o e).2 (I.ok.noex b o e)⟩
def Inv.bk(I:Inv X pins σ H s):∀b o,X.base.get? b=some o->s.heap.get? b=some o:=λb o e=>(I.bs b o e).1
def Inv.mod(I:Inv X pins σ H s):Mod X.K X.mg X.base:=I.ok.mod
def Inv.kIn(I:Inv X pins σ H s):X.K.In s.heap:=I.ok.mod.kin.keeps I.bk
def Inv.nolimit(I:Inv X pins σ H s):s.heap.NoLimit:=I.ok.mod.nolimit.keeps I.bk
def Inv.fr(I:Inv X pins σ H s):∃m,Fr X.base X.env.locals s.heap m:=
 let ⟨m,hn,_⟩:=I.loc
 ⟨m,hn,I.bk,aD I.ok.bsz I.ok.above⟩
def Inv.lt(I:Inv X pins σ H s):X.env.locals<s.heap.objs.size:=let ⟨_,hn,_⟩:=I.loc;hn.lt
def Inv.sz(I:Inv X pins σ H s):X.s₀.heap.objs.size<=s.heap.objs.size:=aD I.ok.above (bD I.lt)
def Inv.nofs(I:Inv X pins σ H s)(h:s.heap.objs.size<=a):a∉X.fs:=λc=>by
 obtain⟨_,o,b,_⟩:=I.ok.funs.mem c;exact absurd (aP (Heap.lt_size b) (aD I.sz h)) (bt _)
def Inv.cne(I:Inv X pins σ H s):∀x c,X.env.cells.lookup x=some c->c≠X.env.locals:=λx c e z=>by
 obtain⟨v,o,d,b⟩:=I.cell x c e;obtain⟨m,⟨i,g,h,a,f,_⟩,_⟩:=I.loc;rw[z,a]at d;cases d;rw[f]at b;cases b
def Inv.funs(I:Inv X pins σ H s):s.heap.FunFrames X.base X.outer:=by
 have g:∀l,(∀b∈frs l,b∈X.fs)->X.s₀.heap.FunFrames X.base l->s.heap.FunFrames X.base l:=by
  intro l
  induction l with
  |nil=>intro _ _;trivial
  |cons env r ih=>
   intro f h;obtain⟨k,⟨L,o,c,n,m,j⟩,i⟩:=h;have d:=f L (by unfold frs;rw[bE,c];exact bu);obtain⟨p,e⟩:=I.base.slot L o m (I.ok.frf L d) d λz=>I.ok.exfs L z d;exact⟨k,⟨L,_,c,n,e,j⟩,ih (λb a=>f b (by unfold frs;rw[bE,c];exact bG _ a)) i⟩
 exact g X.outer (λ_ a=>a) I.ok.funs
def Inv.stack(I:Inv X pins σ H s):s.heap.FunFrames X.base X.stack:=by
 rcases I.ok.stk with e |⟨e,hf⟩
 ·rw[e];exact I.funs
 ·rw[e];obtain⟨m,a,_⟩:=I.loc;refine .cons (by rw[I.ok.kind];decide) hf a ?_ I.funs;exact Heap.get?_none_of_le (aD I.ok.bsz I.ok.above)
def Inv.stkSub(I:Inv X pins σ H s):∀b∈frs X.stack,b∈X.env.locals::X.fs:=λb a=>by
 rcases I.ok.stk with e |⟨e,hf⟩
 ·rw[e]at a;exact bG _ a
 ·rw[e]at a;unfold frs at a;rw[bE,hf]at a;exact a
def Inv.stkFree(I:Inv X pins σ H s):∀b∈frs X.stack,H b=none:=λb a=>by
 rcases ax.mp (I.stkSub b a) with e |a
 ·rw[e];exact I.free
 ·obtain⟨_,o,c,_⟩:=I.ok.funs.mem a;exact I.base.free b o c (I.ok.frf b a) λz=>I.ok.exfs b z a
def Inv.step{ch:List Addr}(I:Inv X pins σ H s)
  (hch:∀b∈ch,(b∈X.ex\/X.s₀.heap.objs.size<=b)/\b≠X.env.locals/\(∀x c,X.env.cells.lookup x=some c->c≠b)/\∀p∈X.pn++pins,p.1≠b)
  (keep:∀b o,b≠X.env.locals->b∉X.fs->b∉ch->s.heap.get? b=some o->H b=none->h'.get? b=some o)
  (slot:∀b o,b≠X.env.locals->b∈X.fs->b∉ch->s.heap.get? b=some o->H b=none->∃sl,h'.get? b=some { o with slots:=sl }) (free:∀b o,b∉ch->s.heap.get? b=some o->H b=none->H' b=none)
  (there:∀b o,b∉ch->s.heap.get? b=some o->∃o',h'.get? b=some o')
  (tups:∀b xs,H b=some (.tup xs)->H' b=some (.tup xs)) (frzs:∀b o u,H b=some (.frz o u)->H' b=some (.frz o u)) (tbls:∀b ps,H b=some (.tbl ps)->∃more,H' b=some (.tbl (ps++more)))
  (ns:∀m,s.heap.Ns X.env.locals m->h'.Ns X.env.locals m) (hok:HOk X.prog X.w H' h') (hg:gR g') :
  Inv X pins σ H' { s with heap:=h',gens:=g',drawn:=d',toks:=t' }:=by
 have C:∀b o,X.s₀.heap.get? b=some o->b≠X.env.locals:=λb o e=>aE (aP (Heap.lt_size e) I.ok.above);have j:∀b o,X.s₀.heap.get? b=some o->b∉X.ex->b∉ch:=λb o e a h=>by
  rcases (hch b h).1 with z |z
  ·grind
  ·exact absurd (aP (Heap.lt_size e) z) (bt _)
 have t:∀x c,X.env.cells.lookup x=some c->∀v,s.heap.IsCell c v->h'.IsCell c v:=by
  rintro x c e v ⟨o,y,E⟩;have g:=λz=>(hch c z).2.2.1 x c e rfl
  by_cases hc:c∈X.fs
  ·obtain⟨S,q⟩:=slot c o (I.cne x c e) hc g y (I.freeC x c e);exact⟨_,q,E⟩
  ·exact⟨o,keep c o (I.cne x c e) hc g y (I.freeC x c e),E⟩
 refine⟨I.ok,I.os,hg,⟨λb o e n h a=>(keep b o (C b o e) h (j b o e a) (I.base.keep b o e n h a) (I.base.free b o e n a)),λb o e n h a=>?_,λb o e n a=>?_,λb o e a=>?_,λb B e=>tups b B (I.base.tups b B e),λb o B e=>frzs b o B (I.base.frzs b o B e),λb Q e=>?_⟩,?_,λx c e=>?_,?_,λx c e=>?_,λp L=>?_,hok,I.len⟩
 ·obtain⟨S,f⟩:=I.base.slot b o e n h a;obtain⟨F,A⟩:=slot b _ (C b o e) h (j b o e a) f (I.base.free b o e n a);exact⟨F,A⟩
 ·obtain⟨D,f⟩:=I.base.there b o e a;exact free b D (j b o e a) f (I.base.free b o e n a)
 ·obtain⟨D,f⟩:=I.base.there b o e a;exact there b D (j b o e a) f
 ·obtain⟨N,f⟩:=I.base.tbls b Q e;obtain⟨U,A⟩:=tbls b _ f;exact⟨N++U,by rw[A,eI]⟩
 ·obtain⟨m,T,M⟩:=I.loc;refine⟨m,ns m T,λi x v f A R=>?_⟩;obtain⟨u,r,l⟩:=M i x v f A R;refine⟨u,r,?_⟩;rcases l with l |⟨k,c,e,z⟩
  ·exact .inl l
  ·exact .inr ⟨k,c,e,t x c e _ z⟩
 ·obtain⟨v,z⟩:=I.cell x c e;exact⟨v,t x c e v z⟩
 ·obtain⟨m,⟨o,_,_,y,_⟩,_⟩:=I.loc;exact free _ o (λz=>(hch _ z).2.1 rfl) y I.free
 ·obtain⟨v,o,y,E⟩:=I.cell x c e;exact free c o (λz=>(hch c z).2.2.1 x c e rfl) y (I.freeC x c e)
 ·obtain⟨e,n,G,J,d⟩:=I.pin p L;have g:=λz=>(hch p.1 z).2.2.2 p L rfl;exact⟨keep p.1 p.2 G J g e n,free p.1 p.2 g e n,G,J,d⟩
def Inv.un(I:Inv X pins σ H s)(u:Un X.fs [] H H' s.heap h')(hok:HOk X.prog X.w H' h'):Inv X pins σ H' { s with heap:=h',toks:=t' }:=by
 obtain⟨m,⟨o,k,q,g,r⟩,_⟩:=id I.loc;obtain⟨l,j⟩:=u.any g I.free (by simp);exact I.step (ch:=[]) (λ_ z=>nomatch z) (λb o _ c _ e n=>u.keep b o e n c (by simp)) (λb o _ c _ e n=>u.slot b o e n c (by simp)) (λb o _ e n=>u.free b o e n (by simp)) (λb o _ e=>u.there b o e (by simp)) u.tups u.frzs u.tbls (λt h=>by
  obtain⟨p,d,f,a,i⟩:=h;rw[g]at a;cases a;exact⟨_,d,f,j,i⟩) hok I.bare
def Inv.call(I:Inv X pins σ H s)(u:Un (frs X.stack) ch H H' s.heap h')(hok:HOk X.prog X.w H' h')(hg:gR g')
  (hch:∀b∈ch,(b∈X.ex\/X.s₀.heap.objs.size<=b)/\b≠X.env.locals/\(∀x c,X.env.cells.lookup x=some c->c≠b)/\∀p∈X.pn++pins,p.1≠b) :
  Inv X pins σ H' { s with heap:=h',gens:=g',drawn:=d',toks:=t' }:=by
 obtain⟨m,⟨o,q,y,i,r⟩,_⟩:=id I.loc;obtain⟨t,f⟩:=u.any i I.free λz=>(hch _ z).2.1 rfl;exact I.step hch (λb o f l a e n=>u.keep b o e n (λz=>(ax.mp (I.stkSub b z)).elim f l) a) (λb o _ _ a e n=>u.any e n a) (λb o a e n=>u.free b o e n a) (λb o a e=>u.there b o e a) u.tups u.frzs u.tbls (λA j=>by
  obtain⟨v,g,h,d,k⟩:=j;rw[i]at d;cases d;exact⟨_,g,h,f,k⟩) hok hg
def Inv.turned(I:Inv X pins σ H s)(k:∀b o,b≠it->s.heap.get? b=some o->h'.get? b=some o)(hn:H it=none)(hL:it≠X.env.locals)
  (h1:it∈X.ex\/X.s₀.heap.objs.size<=it) (h2:∀x c,X.env.cells.lookup x=some c->c≠it) (h3:∀p∈X.pn++pins,p.1≠it):Inv X pins σ H { s with heap:=h',toks:=t' }:=by
 have d:∀b u,H b=some u->b≠it:=λb u e z=>by rw[z,hn]at e;cases e
 refine I.step (ch:=[it]) (λb i=>?_) (λb o _ _ a e _=>k b o (λz=>a (by simp[z])) e) (λb o _ _ a e _=>⟨o.slots,k b o (λz=>a (by simp[z])) e⟩) (λ_ _ _ _ n=>n)
  (λb o a e=>⟨o,k b o (λz=>a (by simp[z])) e⟩) (λ_ _ e=>e) (λ_ _ _ e=>e) (λb l e=>⟨#[],by rw[e];simp⟩) (λm h=>?_) (λb u e=>?_) I.bare
 ·have e:b=it:=by simpa using i
  subst e;exact⟨h1,hL,h2,h3⟩
 ·obtain⟨o,f,j,g,r⟩:=h;exact⟨o,f,j,k _ o (Ne.symm hL) g,r⟩
 ·refine (I.hok b u e).stay (λc v a q=>k c v ?_ q) (λ_ q=>q) λ_ _ q=>q;rcases a with z |z
  ·rw[z];exact d b u e
  ·exact d c _ z
def Inv.tok(I:Inv X pins σ H s)(t:Nat):Inv X pins σ H { s with toks:=t }:=I.un Un.refl I.hok
def Inv.kept(I:Inv X pins σ H s)(k:∀b u,s.heap.get? b=some u->h'.get? b=some u):Inv X pins σ H { s with heap:=h',toks:=t' }:=I.un (Un.kept k) (I.hok.kept k)
def Inv.laid(I:Inv X pins σ H s)(k:∀b u,s.heap.get? b=some u->h'.get? b=some u)(hp:s.heap.objs.size<=a)(new:ObjOk X.prog X.w (upd H a o) h' a o) :
  Inv X pins σ (upd H a o) { s with heap:=h',toks:=t' }:=I.un (Un.laid k hp (I.hok.fresh hp)) (I.hok.laid k hp new)
def Inv.write(I:Inv X pins σ H s)(mu:Mut (H x))(he:e=x\/H e=some (.own x))(k:∀b u,b≠e->s.heap.get? b=some u->h'.get? b=some u)(heo:∃u,h'.get? e=some u)
  (new:ObjOk X.prog X.w (upd H x o) h' x o):Inv X pins σ (upd H x o) { s with heap:=h',toks:=t' }:=I.un (Un.write mu he k heo) (I.hok.write mu he k heo new)
def Inv.weak(I:Inv X pins σ H s)(hl:σ'.length=σ.length)(w:∀(i:Nat) v,σ'[i]?=some (some v)->σ[i]?=some (some v)):Inv X pins σ' H s:=
 ⟨I.ok,I.os,I.bare,I.base,by obtain⟨m,hn,hl'⟩:=I.loc;exact⟨m,hn,λi x v b c a=>hl' i x v b (w i v c) a⟩,I.cell,I.free,I.freeC,I.pin,I.hok,hl.trans I.len⟩
def Inv.pins_of(I:Inv X pins σ H s)(h:∀p∈pins',s.heap.get? p.1=some p.2/\H p.1=none/\p.1≠X.env.locals/\p.1∉X.fs/\∀v,p.2.data≠.cell v):Inv X pins' σ H s:=
 ⟨I.ok,I.os,I.bare,I.base,I.loc,I.cell,I.free,I.freeC,λp a=>(au.mp a).elim (λz=>I.pin p (cf _ z)) (h p),I.hok,I.len⟩
def a6m{N:List Str}(hN:N.Nodup){i j:Nat}(a:N[i]?=some x)(b:N[j]?=some x):i=j:=by
 obtain⟨f,c⟩:=az.mp a;obtain⟨e,d⟩:=az.mp b;exact (List.getElem_inj hN).mp (c.trans d.symm)
def a4N(I:Inv X pins σ H s)(hN:X.N.Nodup)(hi:X.N[i]?=some x)(hx:Loc X.env.scope x)(r:RelV v u)
  (h:∀s',Inv X pins (σ.set i (some v)) H s'->(∃a,Heap.SameBut a s.heap s'.heap/\(a=X.env.locals\/X.env.cells.lookup x=some a))->Q () s') (hf:X.fn x=true\/X.env.scope.names.lookup x=some .local):wpAny M A (jz X.env x u) Q E s:=by
 obtain⟨m,hn,hl⟩:=id I.loc;have hcls:(X.env.scope.kind==.class||(X.env.scope.kind==.module&&X.env.locals != X.env.globals))=false:=by rw[I.ok.kind];rfl
 have U:i<σ.length:=I.len▸(az.mp hi).1;have J:=I.cne;have B:∀{a:Addr}{G:Heap},(∃o,s.heap.get? a=some o/\H a=none)->Heap.SameBut a s.heap G->HOk X.prog X.w H G:=λ{a G} ha f b ob e=>by
  obtain⟨_,_,F⟩:=ha;refine (I.hok b ob e).stay (λc R l q=>(f.2 c ?_).trans q) (λ_ q=>q) λ_ _ q=>q;rintro rfl;rcases l with rfl |l
  ·rw[F]at e;cases e
  ·rw[F]at l;cases l
 rcases hx with hk |hk
 ·refine wpAny_storeName_local hk hn (λG hn' f=>?_) hcls;obtain⟨oL,_,_,hoL,_⟩:=id hn;refine h _ ⟨I.ok,I.os,I.bare,⟨λb o e n D hx=>((f.2 b (aE (aP (Heap.lt_size e) I.ok.above))).trans (I.base.keep b o e n D hx)),λb o e n D hx=>?_,I.base.free,λb o e hx=>?_,I.base.tups,I.base.frzs,I.base.tbls⟩,⟨_,hn',λj y v' g C e3=>?_⟩,λy c e=>?_,I.free,I.freeC,λp hp=>?_,B ⟨oL,hoL,I.free⟩ f,by simpa using I.len⟩ ⟨_,f,.inl rfl⟩
  ·obtain⟨sl,g⟩:=I.base.slot b o e n D hx;exact⟨sl,(f.2 b (aE (aP (Heap.lt_size e) I.ok.above))).trans g⟩
  ·obtain⟨o',g⟩:=I.base.there b o e hx;exact⟨o',(f.2 b (aE (aP (Heap.lt_size e) I.ok.above))).trans g⟩
  ·by_cases hj:j=i
   ·subst hj;rw[hi]at g;cases g;rw[de U]at C;cases C;exact⟨u,r,.inl ⟨hk,by simp⟩⟩
   ·rw[dg (Ne.symm hj)]at C;obtain⟨u',r',q⟩:=hl j y v' g C e3;refine⟨u',r',?_⟩;rcases q with ⟨k,e⟩ |⟨k,c,e,z⟩
    ·refine .inl ⟨k,?_⟩
     have:y≠x:=λe=>hj (a6m hN g (e▸hi))
     simp[this,e]
    ·exact .inr ⟨k,c,e,z.sameBut f (J y c e)⟩
  ·obtain⟨R,z⟩:=I.cell y c e;exact⟨R,z.sameBut f (J y c e)⟩
  ·obtain⟨e,n,S,nf,d⟩:=I.pin p hp;exact⟨(f.2 p.1 S).trans e,n,S,nf,d⟩
 ·have L:X.fn x=true:=by
   rcases hf with z |z
   ·exact z
   ·rw[z]at hk;cases hk
  obtain⟨c,l⟩:=I.ok.has x (.inl hk);obtain⟨R,z⟩:=I.cell x c l;refine wpAny_storeName_cell I.ok.kind hk l z (λG Y f=>?_);obtain⟨oc,W,hocd⟩:=id z;refine h { s with heap:=G } ⟨I.ok,I.os,I.bare,⟨λb o e n D hx=>((f.2 b (aE (aP (Heap.lt_size e) (I.ok.cab x c L l)))).trans (I.base.keep b o e n D hx)),λb o e n D hx=>?_,I.base.free,λb o e hx=>?_,I.base.tups,I.base.frzs,I.base.tbls⟩,⟨m,hn.sameBut f (Ne.symm (J x c l)),λj y v' g C e3=>?_⟩,λy T e=>?_,I.free,I.freeC,λp hp=>?_,B ⟨oc,W,I.freeC x c l⟩ f,by simpa using I.len⟩ ⟨c,f,.inr l⟩
  ·obtain⟨sl,g⟩:=I.base.slot b o e n D hx;exact⟨sl,(f.2 b (aE (aP (Heap.lt_size e) (I.ok.cab x c L l)))).trans g⟩
  ·obtain⟨o',g⟩:=I.base.there b o e hx;exact⟨o',(f.2 b (aE (aP (Heap.lt_size e) (I.ok.cab x c L l)))).trans g⟩
  ·by_cases hj:j=i
   ·subst hj;rw[hi]at g;cases g;rw[de U]at C;cases C;exact⟨u,r,.inr ⟨.inl hk,c,l,Y⟩⟩
   ·rw[dg (Ne.symm hj)]at C;obtain⟨u',r',q⟩:=hl j y v' g C e3;refine⟨u',r',?_⟩;rcases q with q |⟨k,T,e,z'⟩
    ·exact .inl q
    ·refine .inr ⟨k,T,e,z'.sameBut f ?_⟩;rintro rfl;exact hj (a6m hN g (I.ok.inj _ _ _ e l▸hi))
  ·by_cases hcc:T=c
   ·subst hcc;exact⟨_,Y⟩
   ·obtain⟨w2,z2⟩:=I.cell y T e;exact⟨w2,z2.sameBut f hcc⟩
  ·obtain⟨e,n,S,nf,d⟩:=I.pin p hp;refine⟨(f.2 p.1 ?_).trans e,n,S,nf,d⟩;intro q;rw[q,W]at e;exact d R ((aN.inj e)▸hocd)
def a3V(I:Inv X pins σ H s)(hN:X.N.Nodup)(hi:X.N[i]?=some x)(hx:Loc X.env.scope x)(r:RelV v u)
  (h:∀s',Inv X pins (σ.set i (some v)) H s'->Q () s') (hf:X.fn x=true\/X.env.scope.names.lookup x=some .local):wpAny M A (jz X.env x u) Q E s:=
 a4N I hN hi hx r (λa b _=>h a b) hf
def Inv.call'(I:Inv X pins σ H s)(ho:s'.os=s.os)(u:Un (frs X.stack) ch H H' s.heap s'.heap)(hok:HOk X.prog X.w H' s'.heap)(hg:gR s'.gens)
  (hch:∀b∈ch,(b∈X.ex\/X.s₀.heap.objs.size<=b)/\b≠X.env.locals/\(∀x c,X.env.cells.lookup x=some c->c≠b)/\∀p∈X.pn++pins,p.1≠b):Inv X pins σ H' s':=by
 obtain⟨h',g',d',t',g⟩:=s';have e:=ho;subst e;exact I.call u hok hg hch
end
abbrev XK:=Value->Option Addr->Hp->Prop
abbrev St:=List (Option V)
abbrev VK:=V->Hp->Prop
abbrev TE:=St->Hp->VK->Prop
abbrev TT:=St->Hp->(Bool->Hp->Prop)->Prop
abbrev TA:=St->Hp->(List V->Hp->Prop)->Prop
structure Ends where
 nx:St->Hp->Prop
 rt:VK
 bk:St->Hp->Prop:=λ_ _=>False
 ct:St->Hp->Prop:=λ_ _=>False
abbrev TS:=Ends->St->Hp->Prop
def EP(X:Cx)(pins:List (Addr×Obj))(σ:St)(Q:VK)(u:Value)(s':Shared):Prop:=∃v H',Inv X pins σ H' s'/\RelV v u/\Q v H'
def TP(X:Cx)(pins:List (Addr×Obj))(σ:St)(Q:Bool->Hp->Prop)(b:Bool)(s':Shared):Prop:=∃H',Inv X pins σ H' s'/\Q b H'
def AP(X:Cx)(pins:List (Addr×Obj))(σ:St)(Q:List V->Hp->Prop)(us:List Value)(s':Shared):Prop:=∃vs H',Inv X pins σ H' s'/\Vals vs us/\Q vs H'
def SP(X:Cx)(pins:List (Addr×Obj))(D:Ends)(f:Flow)(s':Shared):Prop:=
 match f with
 |.next=>∃σ' H',Inv X pins σ' H' s'/\D.nx σ' H'
 |.brk=>∃σ' H',Inv X pins σ' H' s'/\D.bk σ' H'
 |.cont=>∃σ' H',Inv X pins σ' H' s'/\D.ct σ' H'
 |.ret u=>∃v σ' H',Inv X pins σ' H' s'/\RelV v u/\D.rt v H'
def PE(X:Cx)(e:Expr)(t:TE):Prop:=
 ∀(pins:List (Addr×Obj))(s:Shared)(σ:St)(H:Hp)(Q:VK),Inv X pins σ H s->t σ H Q->wpAny (model X.prog X.w) X.A (eval e X.env) (EP X pins σ Q) X.xe s
def PT(X:Cx)(e:Expr)(t:TT):Prop:=
 ∀(pins:List (Addr×Obj))(s:Shared)(σ:St)(H:Hp)(Q:Bool->Hp->Prop),Inv X pins σ H s->t σ H Q->wpAny (model X.prog X.w) X.A (isTrue e X.env (eval e X.env)) (TP X pins σ Q) X.xe s
def PW(X:Cx)(e:Expr)(t:TT):Prop:=
 ∀(whole:Sem Value)(pins:List (Addr×Obj))(s:Shared)(σ:St)(H:Hp)(Q:Bool->Hp->Prop),Inv X pins σ H s->t σ H Q->wpAny (model X.prog X.w) X.A (isTrue e X.env whole) (TP X pins σ Q) X.xe s
def PW.pt(h:PW X e t):PT X e t:=h _
def PA(X:Cx)(es:List Expr)(t:TA):Prop:=
 ∀(pos:Pos)(pins:List (Addr×Obj))(s:Shared)(σ:St)(H:Hp)(Q:List V->Hp->Prop),Inv X pins σ H s->t σ H Q->wpAny (model X.prog X.w) X.A (spliced (backTo pos (fW es X.env))) (AP X pins σ Q) X.xe s
def PS(X:Cx)(st:Stmt)(t:TS):Prop:=
 ∀(pins:List (Addr×Obj))(s:Shared)(σ:St)(H:Hp)(D:Ends),Inv X pins σ H s->t D σ H->wpAny (model X.prog X.w) X.A (exec st X.env) (SP X pins D) X.xe s
def PSs(X:Cx)(st:List Stmt)(t:TS):Prop:=
 ∀(pins:List (Addr×Obj))(s:Shared)(σ:St)(H:Hp)(D:Ends),Inv X pins σ H s->t D σ H->wpAny (model X.prog X.w) X.A (execs st X.env) (SP X pins D) X.xe s
def thn{α:Type}{t:Sem α}{Q Q':α->Shared->Prop}(h:wpAny M A t Q E s)(hQ:∀a s,Q a s->Q' a s):wpAny M A t Q' E s:=f9 h hQ λ_ _ x=>x
section
variable{X:Cx}
def tVar(i:Nat):TE:=fun σ H Q=>∃v,σ[i]?=some (some v)/\Q v H
def tC(v:V):TE:=λ_ H Q=>Q v H
def a72(hN:X.N[i]?=some x)(hv:Vis X.env.scope x)(hd:(x==("__debug__":Str))=false:=by decide)(hcd:(x==("__classdict__":Str))=false:=by decide):PE X (.Name x pos) (tVar i):=by
 intro b s σ H Q I h;obtain⟨v,e,h⟩:=h;obtain⟨m,f,d⟩:=I.loc;obtain⟨u,r,l⟩:=d i x v hN e hv;have a:EP X b σ Q u s:=⟨v,H,I,r,h⟩;rcases l with ⟨hk,hm⟩ |⟨hk,c,hc,hcell⟩
 ·exact jA (wpAny_loadName_local I.ok.kind hk f hm a) hd
 ·rcases hk with hk |hk
  ·exact jA (wpAny_loadName_cell I.ok.kind hk hc hcell a) hd
  ·exact jA (wpAny_loadName_free I.ok.kind hk hc hcell a hcd) hd
def b4W:PE X (.Constant (.int i) j pos) (tC (.int i)):=λ_ _ _ H _ I h=>wpAny_Constant_int ⟨.int i,H,I.tok _,⟨_,rfl⟩,h⟩
def b7P:PE X (.Constant (.bool b) j pos) (tC (.bl b)):=λ_ _ _ H _ I h=>Constant_bool ⟨.bl b,H,I,rfl,h⟩
def b4X:PE X (.Constant .none j pos) (tC .non):=λ_ _ _ H _ I h=>Constant_none ⟨.non,H,I,rfl,h⟩
def b4Y:PE X (.Constant (.str x) j pos) (tC (.str x)):=λ_ _ _ H _ I h=>Calls.Constant_str ⟨.str x,H,I.tok _,⟨_,rfl⟩,h⟩
def Gl(X:Cx)(x:Str):Prop:=X.env.kindOf x=some .globalImplicit
def a5E(I:Inv X pins σ H s)(hg:Gl X x)(hm:X.mg x=some u)(h:Q u s)
  (hd:(x==("__debug__":Str))=false:=by decide):wpAny (model X.prog X.w) X.A (eval (.Name x pos) X.env) Q E s:=
 Calls.Name_function_global I.ok.kind hg (Calls.loadGlobal_global (I.ok.glob▸I.mod.glob.keeps I.bk) hm h) hd
def a2X(I:Inv X pins σ H s)(hg:Gl X x)(hm:X.mg x=none)(hv:gx x=some u)(h:Q u s)
  (hn:x≠"__name__":=by decide) (hd:(x==("__debug__":Str))=false:=by decide):wpAny (model X.prog X.w) X.A (eval (.Name x pos) X.env) Q E s:=by
 obtain⟨c,b,a⟩:=I.mod.blt;exact Calls.Name_function_global I.ok.kind hg (Calls.loadGlobal_builtin (I.ok.glob▸I.mod.glob.keeps I.bk) hm (I.ok.blt▸b.keeps I.bk) ((a x hn).trans hv) h) hd
def b2O(hg:Gl X x)(hm:X.mg x=some u)(r:RelV v u)(hd:(x==("__debug__":Str))=false):PE X (.Name x pos) (tC v):=
 λ_ _ _ H _ I h=>a5E I hg hm ⟨v,H,I,r,h⟩ hd
def a3W(hg:Gl X x)(hm:X.mg x=none)(hv:gx x=some u)(r:RelV v u)(hn:x≠"__name__":=by decide)(hd:(x==("__debug__":Str))=false:=by decide):PE X (.Name x pos) (tC v):=
 λ_ _ _ H _ I h=>a2X I hg hm hv ⟨v,H,I,r,h⟩ hn hd
variable{a b:Expr}{ta tb:TE}{pos:Pos}
def PC(X:Cx)(op:CmpOp)(a b:Expr)(t:TE):Prop:=
 ∀(pins:List (Addr×Obj))(s:Shared)(σ:St)(H:Hp)(Q:VK),Inv X pins σ H s->t σ H Q ->
  wpAny (model X.prog X.w) X.A (eval a X.env) (λv sj=>wpAny (model X.prog X.w) X.A (eval b X.env) (λu sv=>wpAny (model X.prog X.w) X.A (fZ op v u) (EP X pins σ Q) X.xe sv) X.xe sj) X.xe s
noncomputable def tB(t:TE):TT:=fun σ H Q=>t σ H λx H1=>∃c,x=.bl c/\Q c H1
def b4Z(h:PE X e t)(he:∀whole,isTrue e X.env whole=(do let v <- whole;g8 e.pos;gr [v] (truthy v)):=by intro _;rfl):PT X e (tB t):=by
 intro a s σ H Q I f;refine isTrue_plain (thn (h a s σ H _ I f) λv j ⟨x,b,i,g,c⟩=>?_) (he _);obtain⟨d,rfl,q⟩:=c;cases g;exact gY ⟨b,i,q⟩
variable{tA tB':TT}{rest:List Expr}
def tAnd(t u:TT):TT:=fun σ H Q=>t σ H λc H1=>if c=true then u σ H1 Q else Q false H1
def tOr(t u:TT):TT:=fun σ H Q=>t σ H λc H1=>if c=true then Q true H1 else u σ H1 Q
def tNot(t:TT):TT:=fun σ H Q=>t σ H λc H1=>Q (!c) H1
def b2P(ha:PT X a tA):PW X (.BoolOp .And [a] pos) tA:=by
 intro f b s σ H Q I h;refine isTrue_and (thn (ha b s σ H Q I h) λc d e=>?_);cases c with
 |true=>exact isTrue_and_nil e
 |false=>exact e
def b40(ha:PT X a tA):PW X (.BoolOp .Or [a] pos) tA:=by
 intro f b s σ H Q I h;refine isTrue_or (thn (ha b s σ H Q I h) λc d e=>?_);cases c with
 |false=>exact isTrue_or_nil e
 |true=>exact e
def b41(ha:PT X a tA)(hb:PW X (.BoolOp .And (b::rest) pos) tB'):PW X (.BoolOp .And (a::b::rest) pos) (tAnd tA tB'):=by
 intro j d s σ H Q I h;refine isTrue_and (thn (ha d s σ H _ I h) λc i Y=>Y.elim λe Y=>Y.elim λg f=>?_);cases c with
 |true=>exact hb j d i σ e Q g f
 |false=>exact⟨e,g,f⟩
def b7Q(ha:PT X a tA)(hb:PW X (.BoolOp .Or (b::rest) pos) tB'):PW X (.BoolOp .Or (a::b::rest) pos) (tOr tA tB'):=by
 intro j d s σ H Q I h;refine isTrue_or (thn (ha d s σ H _ I h) λc i Y=>Y.elim λg Y=>Y.elim λe f=>?_);cases c with
 |true=>exact⟨g,e,f⟩
 |false=>exact hb j d i σ g Q e f
def b42(ha:PT X a tA):PT X (.UnaryOp .Not a pos) (tNot tA):=λb s σ H Q I h=>isTrue_not (ha b s σ H _ I h)
def b7R(ta tb:TE):TE:=fun σ H Q=>ta σ H λx H1=>∃c,x=.bl c/\if c=true then tb σ H1 Q else Q (.bl false) H1
def tOrV(ta tb:TE):TE:=fun σ H Q=>ta σ H λx H1=>∃c,x=.bl c/\if c=true then Q (.bl true) H1 else tb σ H1 Q
def b7S(ta:TE):TE:=fun σ H Q=>ta σ H λx H1=>∃c,x=.bl c/\Q (.bl (!c)) H1
def b43(h:PE X a t):PE X (.BoolOp op [a] pos) t:=λb s σ H Q I c=>BoolOp_one (h b s σ H Q I c)
def b44(ha:PE X a ta)(hb:PE X (.BoolOp .And (b::rest) pos) tb):PE X (.BoolOp .And (a::b::rest) pos) (b7R ta tb):=by
 intro d s σ H Q I h;refine BoolOp_and (thn (ha d s σ H _ I h) λv j ⟨x,f,g,i,e⟩=>?_);obtain⟨c,rfl,e⟩:=e;cases i;refine gY ?_;cases c with
 |true=>exact hb d j σ f Q g e
 |false=>exact⟨.bl false,f,g,rfl,e⟩
def b7T(ha:PE X a ta)(hb:PE X (.BoolOp .Or (b::rest) pos) tb):PE X (.BoolOp .Or (a::b::rest) pos) (tOrV ta tb):=by
 intro d s σ H Q I h;refine BoolOp_or (thn (ha d s σ H _ I h) λv i ⟨x,g,f,j,e⟩=>?_);obtain⟨c,rfl,e⟩:=e;cases j;refine gY ?_;cases c with
 |false=>exact hb d i σ g Q f e
 |true=>exact⟨.bl true,g,f,rfl,e⟩
def b45(ha:PE X a ta):PE X (.UnaryOp .Not a pos) (b7S ta):=by
 intro b s σ H Q I h;refine UnaryOp_ (thn (ha b s σ H _ I h) λv i ⟨x,g,f,e,d⟩=>?_);obtain⟨c,rfl,d⟩:=d;cases e;exact not_of (gY ⟨.bl (!c),g,f,rfl,d⟩)
def tIf(t:TT)(ta tb:TE):TE:=fun σ H Q=>t σ H λc H1=>if c=true then ta σ H1 Q else tb σ H1 Q
def b0o(hc:PT X c tA)(ha:PE X a ta)(hb:PE X b tb):PE X (.IfExp c a b pos) (tIf tA ta tb):=by
 intro e s σ H Q I h;refine wpAny_IfExp (thn (hc e s σ H _ I h) λd j Y=>Y.elim λi Y=>Y.elim λf g=>?_);cases d with
 |true=>exact ha e j σ i Q f g
 |false=>exact hb e j σ i Q f g
end
def SqL(K:Fg)(H:Hp)(a:Addr)(xs:List V):Prop:=
 Rd H a (.lst xs) \/
  ∃(o:Obj)(its:Array Value)(n:Nat),K.lookup a=some o/\o.cls=.type "list"/\o.dict=none/\o.data=.seq its n/\its.size<=fR/\Vals xs its.toList
def SqT(K:Fg)(H:Hp)(a:Addr)(xs:List V):Prop:=
 Rd H a (.tup xs) \/
  ∃(o:Obj)(its:Array Value)(n:Nat),K.lookup a=some o/\o.cls=.type "tuple"/\o.data=.seq its n/\its.size<=fR/\Vals xs its.toList
noncomputable def absV:Value->Option V
 |.none=>some .non
 |.bool b=>some (.bl b)
 |.int i _=>some (.int i)
 |.str x _=>some (.str x)
 |.bytes b _=>some (.byt b)
 |.float b _=>some (.flt b)
 |.ref a=>some (.ref a)
 |.type n=>some (.ty n)
 |_=>none
def RelV.abs(r:RelV x u):absV u=some x:=by
 cases x with
 |non=>cases r;rfl
 |bl _=>cases r;rfl
 |int _=>obtain⟨t,rfl⟩:=r;rfl
 |str _=>obtain⟨t,rfl⟩:=r;rfl
 |byt _=>obtain⟨t,rfl⟩:=r;rfl
 |flt _=>obtain⟨t,rfl⟩:=r;rfl
 |ref _=>cases r;rfl
 |ty _=>cases r;rfl
def RelV.inj(r:RelV x u)(q:RelV y u):x=y:=aN.inj (r.abs.symm.trans q.abs)
def Vals.inj:∀{xs ys:List V}{us:List Value},Vals xs us->Vals ys us->xs=ys:=by
 intro xs ys us h
 induction h generalizing ys with
 |nil=>intro k;cases k;rfl
 |cons r t ih=>
  intro k;cases k with
  |cons r' t'=>rw[r.inj r',ih t']
section
variable{X:Cx}{pins:List (Addr×Obj)}{σ:St}{H:Hp}{s:Shared}{a:Addr}{xs ys:List V}
def SqL.of{K:Fg}(h:H a=some (.lst xs)):SqL K H a xs:=.inl (.inl h)
def SqT.of{K:Fg}(h:H a=some (.tup xs)):SqT K H a xs:=.inl (.inl h)
def Inv.list(I:Inv X pins σ H s)(h:SqL X.K H a xs):∃its:List Value,Vals xs its/\PlainL s.heap a its.toArray/\xs.length<=sizeLine:=by
 rcases h with h |⟨o,b,n,hk,hc,hd,hs,hz,r⟩
 ·obtain⟨z,b,n,r,e⟩:=h.ok I.hok;exact⟨b,r,⟨_,n,e,rfl,rfl,rfl⟩,z⟩
 ·refine⟨b.toList,r,⟨o,n,I.kIn a o hk,hc,hd,by simpa using hs⟩,?_⟩;have e:=r.length;simp at e
  lia
def Inv.tuple(I:Inv X pins σ H s)(h:SqT X.K H a xs):∃its:List Value,Vals xs its/\IsTup s.heap a its.toArray/\xs.length<=sizeLine:=by
 rcases h with h |⟨o,b,n,hk,hc,hs,hz,r⟩
 ·obtain⟨z,b,r,p⟩:=h.ok I.hok;exact⟨b,r,p,z⟩
 ·refine⟨b.toList,r,⟨o,I.kIn a o hk,hc,n,by simpa using hs⟩,?_⟩;have e:=r.length;simp at e
  lia
def Inv.list_inj(I:Inv X pins σ H s)(h:SqL X.K H a xs)(h':SqL X.K H a ys):xs=ys:=by
 obtain⟨f,r,⟨o,n,e,_,_,d⟩,_⟩:=I.list h;obtain⟨b,i,⟨j,k,c,_,_,g⟩,_⟩:=I.list h'
 have:f=b:=by grind
 subst this;exact r.inj i
def Inv.tuple_inj(I:Inv X pins σ H s)(h:SqT X.K H a xs)(h':SqT X.K H a ys):xs=ys:=by
 obtain⟨f,r,⟨o,e,_,n,d⟩,_⟩:=I.tuple h;obtain⟨b,i,⟨j,c,_,k,g⟩,_⟩:=I.tuple h'
 have:f=b:=by grind
 subst this;exact r.inj i
end
abbrev Cx.wish(X:Cx)(E:Value->Shared->Prop):Cx:={ X with xe:=E }
abbrev Cx.nox(X:Cx):Cx:=X.wish λ_ _=>False
noncomputable def Cx.Ok.wish{X:Cx}(ok:X.Ok)(E:Value->Shared->Prop):(X.wish E).Ok:=
 ⟨ok.mod,ok.kind,ok.glob,ok.blt,ok.above,ok.inj,ok.has,ok.cab,ok.hd,ok.frames,ok.stk,ok.exf,ok.bs,ok.bsz,ok.noex,ok.exfs,ok.funs,ok.frf⟩
def Cx.Ok.unwish{X:Cx}(ok:(X.wish E).Ok):X.Ok:=
 ⟨ok.mod,ok.kind,ok.glob,ok.blt,ok.above,ok.inj,ok.has,ok.cab,ok.hd,ok.frames,ok.stk,ok.exf,ok.bs,ok.bsz,ok.noex,ok.exfs,ok.funs,ok.frf⟩
section
variable{X:Cx}{pins:List (Addr×Obj)}{σ:St}{H:Hp}{s:Shared}{E:Value->Shared->Prop}
noncomputable def Inv.wish(I:Inv X pins σ H s)(E:Value->Shared->Prop):Inv (X.wish E) pins σ H s:=⟨I.ok.wish E,I.os,I.bare,I.base,I.loc,I.cell,I.free,I.freeC,I.pin,I.hok,I.len⟩
def Inv.unwish(I:Inv (X.wish E) pins σ H s):Inv X pins σ H s:=⟨I.ok.unwish,I.os,I.bare,I.base,I.loc,I.cell,I.free,I.freeC,I.pin,I.hok,I.len⟩
def SP.unwish(h:SP (X.wish E) pins D f s'):SP X pins D f s':=by
 cases f with
 |next=>obtain⟨σ',H',I,q⟩:=h;exact⟨σ',H',I.unwish,q⟩
 |brk=>obtain⟨σ',H',I,q⟩:=h;exact⟨σ',H',I.unwish,q⟩
 |cont=>obtain⟨σ',H',I,q⟩:=h;exact⟨σ',H',I.unwish,q⟩
 |ret u=>obtain⟨v,σ',H',I,r,q⟩:=h;exact⟨v,σ',H',I.unwish,r,q⟩
noncomputable def PE.nox(h:PE X.nox e t):PE X e t:=λa s σ H Q I d=>
 f9 (h a s σ H Q (I.wish _) d) (by rintro _ _ ⟨v,b,c,r,q⟩;exact⟨v,b,c.unwish,r,q⟩) λ_ _ z=>aB z
noncomputable def PT.nox(h:PT X.nox e t):PT X e t:=λa s σ H Q I d=>
 f9 (h a s σ H Q (I.wish _) d) (by rintro _ _ ⟨c,b,q⟩;exact⟨c,b.unwish,q⟩) λ_ _ z=>aB z
noncomputable def PSs.nox{st:List Stmt}(h:PSs X.nox st t):PSs X st t:=λa s σ H D I b=>
 f9 (h a s σ H D (I.wish _) b) (λ_ _ q=>q.unwish) λ_ _ z=>aB z
end
section
variable{X:Cx}{st:Stmt}{rest:List Stmt}{t u:TS}{e:Expr}{te:TE}{pos:Pos}
def b46:TS:=λD σ H=>D.nx σ H
def tSeq(t u:TS):TS:=λD σ H=>t { D with nx:=u D } σ H
def b2Q:PSs X [] b46:=λ_ _ σ H _ I h=>jf ⟨σ,H,I,h⟩
def a6n(h1:PS X st t)(h2:PSs X rest u):PSs X (st::rest) (tSeq t u):=by
 intro a s σ H D I h;refine wpAny_execs_cons (thn (h1 a s σ H { D with nx:=u D } I h) λf b q=>?_);cases f with
 |next=>
  obtain⟨σ',H',I',q⟩:=q;exact h2 a b σ' H' D I' q
 |ret v=>exact q
 |brk=>exact q
 |cont=>exact q
def b2R(h1:PS X st t):PSs X [st] t:=by
 intro a s σ H D I h;refine wpAny_execs_cons (thn (h1 a s σ H D I h) λf b q=>?_);cases f with
 |next=>exact jf q
 |ret v=>exact q
 |brk=>exact q
 |cont=>exact q
def b47:TS:=λD σ H=>D.bk σ H
def b7U:TS:=λD σ H=>D.ct σ H
def b2S:PS X (.Pass pos) b46:=λ_ _ σ H _ I h=>wpAny_Pass ⟨σ,H,I,h⟩
def b0p:PS X (.Break pos) b47:=λ_ _ σ H _ I h=>wpAny_Break ⟨σ,H,I,h⟩
def a5F:PS X (.Continue pos) b7U:=λ_ _ σ H _ I h=>wpAny_Continue ⟨σ,H,I,h⟩
def Inv.quiet(I:Inv X pins σ H s):interactive X.env=false:=by simp[interactive,I.ok.kind]
def b7V(te:TE):TS:=λD σ H=>te σ H λ_ H1=>D.nx σ H1
def b2T(he:PE X e te)(hs:gZ e none pos.line X.env=pure false):PS X (.Expr e pos) (b7V te):=λa s σ H D I h=>wpAny_Expr_any (thn (he a s σ H _ I h) λv f ⟨x,d,c,g,b⟩=>⟨σ,d,c,b⟩) I.quiet hs
def tRet(te:TE):TS:=λD σ H=>te σ H D.rt
def b48(he:PE X e te):PS X (.Return (some e) pos) (tRet te):=λa s σ H D I h=>wpAny_Return_some (thn (he a s σ H _ I h) λv g ⟨x,c,b,f,d⟩=>⟨x,σ,c,b,f,d⟩)
def b7W:TS:=λD _ H=>D.rt .non H
def b2U:PS X (.Return none pos) b7W:=λ_ _ σ H _ I h=>wpAny_Return_none ⟨.non,σ,H,I,rfl,h⟩
def tIfS(c:TT)(t u:TS):TS:=λD σ H=>c σ H λb H1=>if b=true then t D σ H1 else u D σ H1
def b7X(hc:PT X c tc)(ha:PSs X a t)(hb:PSs X b u):PS X (.If c a b pos) (tIfS tc t u):=by
 intro e s σ H D I h;refine wpAny_If (thn (hc e s σ H _ I h) λd f Y=>Y.elim λg Y=>Y.elim λi j=>?_);cases d with
 |true=>exact ha e f σ g D i j
 |false=>exact hb e f σ g D i j
end
abbrev TG:=V->St->Hp->(St->Hp->Prop)->Prop
abbrev TGs:=List V->St->Hp->(St->Hp->Prop)->Prop
def PG(X:Cx)(target:Expr)(t:TG):Prop:=
 ∀(pins:List (Addr×Obj))(s:Shared)(σ:St)(H:Hp)(v:V)(u:Value)(Q:St->Hp->Prop),Inv X pins σ H s->RelV v u->t v σ H Q ->
  wpAny (model X.prog X.w) X.A (assign target X.env u) (λ_ s'=>∃σ' H',Inv X pins σ' H' s'/\Q σ' H') X.xe s
def PGs(X:Cx)(ts:List Expr)(t:TGs):Prop:=
 ∀(pins:List (Addr×Obj))(s:Shared)(σ:St)(H:Hp)(vs:List V)(us:List Value)(Q:St->Hp->Prop),Inv X pins σ H s->Vals vs us->t vs σ H Q ->
  wpAny (model X.prog X.w) X.A (assignInOrder ((gU ts X.env).map (·.2)) us) (λ_ s'=>∃σ' H',Inv X pins σ' H' s'/\Q σ' H') X.xe s
abbrev TSet:=V->V->V->Hp->(Hp->Prop)->Prop
def PSet(X:Cx)(t:TSet):Prop:=
 ∀(pins:List (Addr×Obj))(s:Shared)(σ:St)(H:Hp)(o i v:V)(ov iv u:Value)(Q:Hp->Prop),Inv X pins σ H s->RelV o ov->RelV i iv->RelV v u->t o i v H Q ->
  wpAny (model X.prog X.w) X.A (jg ov iv u) (λ_ s'=>∃H',Inv X pins σ H' s'/\Q H') X.xe s
abbrev TIp:=V->V->Hp->VK->Prop
def PIp(X:Cx)(op:Operator)(t:TIp):Prop:=
 ∀(pins:List (Addr×Obj))(s:Shared)(σ:St)(H:Hp)(x y:V)(v u:Value)(Q:VK),Inv X pins σ H s->RelV x v->RelV y u->t x y H Q ->
  wpAny (model X.prog X.w) X.A (g9 op v u) (EP X pins σ Q) X.xe s
section
variable{X:Cx}{pos:Pos}
def a73(i:Nat):TG:=λv σ H Q=>Q (σ.set i (some v)) H
def a74(hN:X.N.Nodup)(hi:X.N[i]?=some x)(hx:Loc X.env.scope x)(hf:X.fn x=true\/X.env.scope.names.lookup x=some .local):PG X (.Name x pos) (a73 i):=λb s σ H v u Q I r h=>wpAny_assign_Name (a3V I hN hi hx r (λc a=>⟨_,H,a,h⟩) hf)
def gNil:TGs:=λvs σ H Q=>vs=[]/\Q σ H
def b49(t:TG)(u:TGs):TGs:=λvs σ H Q=>∃v r,vs=v::r/\t v σ H fun σ' H'=>u r σ' H' Q
def b2V:PGs X [] gNil:=by
 intro a s σ H b c Q I r h;obtain⟨e,h⟩:=h;subst e;exact assignInOrder_nil ⟨σ,H,I,h⟩
def b0q(h1:PG X e t)(h2:PGs X es u)
  (hs:(gU (e::es) X.env).map (·.2)=assign e X.env::(gU es X.env).map (·.2):=by rfl):PGs X (e::es) (b49 t u):=by
 intro a s σ H k i Q I r h;obtain⟨v,j,g,h⟩:=h;subst g;cases r with
 |cons r rr=>
  rw[hs];exact assignInOrder_cons (thn (h1 a s σ H _ _ _ I r h) λ_ f ⟨σ1,d,b,c⟩=>(h2 a f σ1 d _ _ Q b rr c))
def gTup(K:Fg)(n:Nat)(t:TGs):TG:=λv σ H Q=>∃a xs,v=.ref a/\SqT K H a xs/\xs.length=n/\t xs σ H Q
def b5a(hc:X.calm=true)(h:PGs X es t)
  (hn:(gU es X.env).length=n) (hst:(gU es X.env).findIdx? (·.1)=none):PG X (.Tuple es k pos) (gTup X.K n t):=by
 intro c s σ H v u Q I r d;obtain⟨a,i,q,m,l,d⟩:=d;subst q;cases r;obtain⟨x,f,p,y⟩:=I.tuple m;exact assign_Tuple_tuple (I.ok.hd hc) p (by simp[hn,<- l,f.length]) hst λw j=>(h c _ σ H i _ Q (I.kept (t':=s.toks) λb o e=>j b o (aE (Heap.lt_size e)) e) (by omega) d)
def gSub(to ti:TE)(t:TSet):TG:=λv σ H Q=>to σ H λo H1=>ti σ H1 λi H2=>t o i v H2 λH3=>Q σ H3
def b5b(ho:PE X o to)(hi:PE X i ti)(hs:PSet X t)
  (ha:∀v,assign (.Subscript o i pos) X.env v=(do
   let ov <- gr [v] (eval o X.env)
   let iv <- gr [v,ov] (eval i X.env)
   g8 pos
   gr [v,ov,iv] (jg ov iv v)
   release [v,ov,iv] []):=by intro _;rfl):PG X (.Subscript o i pos) (gSub to ti t):=by
 intro a s σ H v u Q I r h;rw[ha];exact fO (gh (thn (ho a s σ H _ I h) λl n ⟨x,c,e,g,p⟩=>(fO (gh (thn (hi a n σ c _ e p) λm q ⟨y,f,w,b,k⟩=>(fO (jB (fO (gh (thn (hs a q σ f x y v l m u _ w g b r k) λ_ A Y=>Y.elim λj Y=>Y.elim λz d=>(wpAny_release ⟨σ,j,z,d⟩)))))))))))
def tAsg(te:TE)(g:TG):TS:=λD σ H=>te σ H λx H1=>g x σ H1 D.nx
def b2b(he:PE X e te)(hg:PG X tg g)(hs:jC [tg] e pos.line X.env=pure false)(hw:jD [tg] e X.env=pure none)
  (h1:(gU [tg] X.env).map (·.2)=[assign tg X.env]):PS X (.Assign [tg] e pos) (tAsg te g):=by
 intro a s σ H D I h;refine wpAny_Assign_stores (thn (he a s σ H _ I h) λv c ⟨x,d,b,i,f⟩=>?_) hs hw;rw[h1];exact thn (hg a c σ d x v _ b i f) λ_ j q=>q
def b5c(hN:X.N.Nodup)(hi:X.N[i]?=some x)(hx:Loc X.env.scope x)(he:PE X e te)(hs:gZ e (some (.Name x pos')) pos.line X.env=pure false)(hf:X.fn x=true\/X.env.scope.names.lookup x=some .local) :
  PS X (.Assign [.Name x pos'] e pos) (tAsg te (a73 i)):=by
 intro a s σ H D I h;refine wpAny_Assign_Name (thn (he a s σ H _ I h) λv j ⟨y,f,d,c,g⟩=>?_) hs;exact a3V d hN hi hx c (λk b=>⟨_,f,b,g⟩) hf
def tAug(i:Nat)(te:TE)(ti:TIp):TS:=λD σ H=>∃x,σ[i]?=some (some x)/\te σ H λy H1=>ti x y H1 λz H2=>D.nx (σ.set i (some z)) H2
def b5d(hN:X.N.Nodup)(hi:X.N[i]?=some x)(hx:Loc X.env.scope x)(he:PE X e te)(ho:PIp X op ti)(hf:X.fn x=true\/X.env.scope.names.lookup x=some .local) :
  PS X (.AugAssign (.Name x pos') op e pos) (tAug i te ti):=by
 intro a s σ H D I h;obtain⟨v,f,h⟩:=h;obtain⟨m,g,j⟩:=I.loc;have b:Vis X.env.scope x:=by rcases hx with k |k;exact .inl k;exact .inr (.inl k)
 obtain⟨u,r,l⟩:=j i x v hi f b;refine wpAny_AugAssign_Name ?_;have d:wpAny (model X.prog X.w) X.A (eval e X.env) (λw B=>wpAny (model X.prog X.w) X.A (g9 op u w) (λr G=>wpAny (model X.prog X.w) X.A (jz X.env x r) (λ_=>SP X a D .next) X.xe G) X.xe B) X.xe s:=by
  exact thn (he a s σ H _ I h) λw C ⟨y,n,p,F,t⟩=>(thn (ho a C σ n v y u w _ p r F t) λz Q ⟨M,E,o,L,J⟩=>(a3V o hN hi hx L (λR q=>⟨_,E,q,J⟩) hf))
 rcases l with ⟨hk,hm⟩ |⟨hk,c,hc,hcell⟩
 ·exact wpAny_loadName_local I.ok.kind hk g hm d
 ·rcases hk with hk |hk
  ·exact wpAny_loadName_cell I.ok.kind hk hc hcell d
  ·rcases hx with k |k
   ·have:X.env.scope.names.lookup x=some .free:=hk
    rw[k]at this;cases this
   ·have:X.env.scope.names.lookup x=some .free:=hk
    rw[k]at this;cases this
end
section
variable{X:Cx}{pos:Pos}
def b5e(c:TT)(tb:TS):TS:=λD σ H=>∃W:Nat->St->Hp->Prop,(∃m,W m σ H)/\∀m σ H,W m σ H ->
 c σ H λb H1=>if b=true then ∃N:St->Hp->Prop,(∀σ' H',N σ' H'->∃m',m'<m/\W m' σ' H')/\tb { D with nx:=N,ct:=N,bk:=D.nx } σ H1 else D.nx σ H1
def b0r(hp:gi (model X.prog X.w) X.A X.env X.xe)(hc:PT X c tc)(hb:PSs X body tb):PS X (.While c body [] pos) (b5e tc tb):=by
 intro a s σ H D I h;obtain⟨W,⟨z,y⟩,g⟩:=h;refine wpAny_While (codeAny_whileLoop (λn t=>∃σ' H',Inv X a σ' H' t/\W n σ' H') ?_ z ⟨σ,H,I,y⟩);rintro n x ⟨σ1,q,r,u⟩;refine ic hp (thn (hc a x σ1 q _ r (g n σ1 q u)) λb B Y=>Y.elim λo Y=>Y.elim λm e=>?_);cases b with
 |true=>
  obtain⟨N,p,e⟩:=e;refine ic hp (thn (hb a B σ1 o _ m e) λf C d=>?_);cases f with
  |next=>
   obtain⟨σ3,H3,I3,k⟩:=d;obtain⟨j,l,i⟩:=p σ3 H3 k;exact⟨j,l,σ3,H3,I3,i⟩
  |cont=>
   obtain⟨σ3,H3,I3,k⟩:=d;obtain⟨j,l,i⟩:=p σ3 H3 k;exact⟨j,l,σ3,H3,I3,i⟩
  |brk=>exact d
  |ret v=>exact d
 |false=>
  exact jf ⟨σ1,o,m,e⟩
end
structure It where
 go:Nat->Hp->Prop
 yld:Nat->Hp->V->Hp->Prop
 stop:Nat->Hp->Prop
def FpOk(X:Cx)(pins:List (Addr×Obj))(H:Hp)(b:Addr):Prop:=
 H b=none/\b≠X.env.locals/\b∉X.fs/\(b∈X.ex\/X.s₀.heap.objs.size<=b)/\(∀x c,X.env.cells.lookup x=some c->c≠b)/\∀p∈X.pn++pins,p.1≠b
def Inv.fpOk(I:Inv X pins σ H s)(hb:s.heap.objs.size<=b)(hn:H' b=none):FpOk X pins H' b:=by
 refine⟨hn,bH (aP I.lt hb),I.nofs hb,.inr (aD I.sz hb),λx c e z=>?_,λp a z=>(absurd (aP (Heap.lt_size (I.pin p a).1) (by simp_all)) (bt _))⟩
 ·obtain⟨v,q⟩:=I.cell x c e;exact absurd (aP q.lt (by simp_all)) (bt _)
structure Turn (P:fV) (w:World) (K:Fg) (tg:Expr) (J:It) (fp:List Addr) (it:Addr) (tn:Nat->Heap->Prop):Prop where
 mem:it∈fp
 obj:∀i h,tn i h->∀b∈fp,∃o,h.get? b=some o/\∀v,o.data≠.cell v
 keep:∀i h h',tn i h->(∀b∈fp,∀o,h.get? b=some o->h'.get? b=some o)->tn i h'
 item:∀(X:Cx),X.prog=P->X.w=w->X.K=K->X.calm=true->∀(i:Nat)(pins:List (Addr×Obj))(s:Shared)(σ:St)(H:Hp)(E:Value->Shared->Prop),Inv X pins σ H s->(∀b∈fp,FpOk X pins H b)->tn i s.heap->J.go i H ->
  wpAny (model P w) X.A (pyNext (.ref it)) (λr s1=>∃u,r=some u /\
   wpAny (model P w) X.A (jE tg (.ref it) u) (λ_ s2=>∃x H',Inv X pins σ H' s2/\RelV x u/\J.yld i H x H'/\tn (i+1) s2.heap/\∀b∈fp,H' b=none) E s1) E s
 done:∀(X:Cx),X.prog=P->X.w=w->X.K=K->X.calm=true->∀(i:Nat)(pins:List (Addr×Obj))(s:Shared)(σ:St)(H:Hp)(E:Value->Shared->Prop),Inv X pins σ H s->(∀b∈fp,FpOk X pins H b)->tn i s.heap->J.stop i H ->
  wpAny (model P w) X.A (pyNext (.ref it)) (λr s1=>r=none/\Inv X pins σ H s1) E s
 self:∀(A:Around)(i:Nat)(s:Shared)(Q:Value->Shared->Prop)(E:Value->Shared->Prop),tn i s.heap->Q (.ref it) s->wpAny (model P w) A (pyIter (.ref it)) Q E s
abbrev TI:=St->Hp->(It->Hp->Prop)->Prop
def PIE(X:Cx)(pins:List (Addr×Obj))(σ:St)(tg:Expr)(R:It->Hp->Prop)(itv:Value)(s2:Shared):Prop:=
 ∃(it:Addr)(fp:List Addr)(tn:Nat->Heap->Prop)(J:It)(H':Hp),itv=.ref it/\Inv X pins σ H' s2/\Turn X.prog X.w X.K tg J fp it tn/\tn 0 s2.heap/\(∀b∈fp,FpOk X pins H' b)/\R J H'
def PI(X:Cx)(tg iter:Expr)(wi:TI):Prop:=
 ∀(pins:List (Addr×Obj))(s:Shared)(σ:St)(H:Hp)(R:It->Hp->Prop),Inv X pins σ H s->wi σ H R ->
  wpAny (model X.prog X.w) X.A (eval iter X.env) (λv s1=>wpAny (model X.prog X.w) X.A (pyIter v) (PIE X pins σ tg R) X.xe s1) X.xe s
def a7h(ho:s.heap.get? it=some o)(hc:o.cls=.type n)(hd:o.data=.fields vs)
    (hn:["enumerate","zip","dict_itemiterator","dict_reverseitemiterator","odict_iterator","itertools.zip_longest","itertools.pairwise"].contains n=false) (hQ:Q () s):wpAny M A (jE tg (.ref it) u) Q E s:=by
  cases tg<;>first
    |exact fP hQ
    | (cases u<;>first
        |exact fP hQ
        | (refine fO (iN ho ?_)
           rw[hc,hd]
           show wpAny M A (if _=true then _ else _) Q E s
           rw[if_neg (by grind)];exact fP hQ))
noncomputable def Itl(K:Fg)(a:Addr):It:=
 ⟨λi H=>∃xs x,SqL K H a xs/\xs[i]?=some x,λi H x H'=>H'=H/\∀xs,SqL K H a xs->xs[i]?=some x,λi H=>∃xs,SqL K H a xs/\xs.length<=i⟩
noncomputable def Itt(K:Fg)(a:Addr):It:=
 ⟨λi H=>∃xs x,SqT K H a xs/\xs[i]?=some x,λi H x H'=>H'=H/\∀xs,SqT K H a xs->xs[i]?=some x,λi H=>∃xs,SqT K H a xs/\xs.length<=i⟩
noncomputable def Itr(lo:Int)(n:Nat):It:=⟨λi _=>i<n,λi H x H'=>H'=H/\x=.int (lo+i),λi _=>n<=i⟩
theorem a75{P:fV}{w:World}{K:Fg}{tg:Expr}(a it:Addr):Turn P w K tg (Itl K a) [it] it (λi h=>h.IsListIter it a i) where
 mem:=by simp
 obj:=λi h st b hb=>by
  have e:b=it:=by simpa using hb
  subst e;obtain⟨o,e,c,d⟩:=st;exact⟨o,e,λv z=>by rw[d]at z;cases z⟩
 keep:=λi h h' st k=>st.at λo e=>k it (by simp) o e
 item:=by
  intro X hP hw hK hc i pins s σ H E I hf st hg;subst hP hw hK;obtain⟨xs,x,hq,hx⟩:=hg;obtain⟨its,rv,p,hz⟩:=I.list hq;obtain⟨u,hu,ru⟩:=rv.get hx;obtain⟨f0,f1,f2,f3,f4,f5⟩:=hf it (by simp);refine wpAny_pyNext_list_item st p.isList (x:=u) (by simpa using hu) λh' st' sb=>?_;have I1:Inv X pins σ H { s with heap:=h' }:=I.turned (t':=s.toks) (λb o hb e=>(sb.2 b hb).trans e) f0 f1 f3 f4 f5;obtain⟨o,e,c,d⟩:=id st';exact⟨u,rfl,a7h (s:={ s with heap:=h' }) e c d (by decide) ⟨x,H,I1,ru,⟨rfl,λys hy=>by rw[I.list_inj hy hq];exact hx⟩,st',λb hb=>(hf b hb).1⟩⟩
 done:=by
  intro X hP hw hK hc i pins s σ H E I hf st hg;subst hP hw hK;obtain⟨xs,hq,hx⟩:=hg;obtain⟨its,rv,p,hz⟩:=I.list hq;obtain⟨f0,f1,f2,f3,f4,f5⟩:=hf it (by simp);have hl:=rv.length;exact wpAny_pyNext_list_end (I.ok.hd hc) st p.isList (by simp;omega) λh' eb=>⟨rfl,I.turned (t':=s.toks) (λb o hb e=>eb b o hb e) f0 f1 f3 f4 f5⟩
 self:=λ_ _ _ _ _ st h=>wpAny_pyIter_listiter st h
theorem a7i{P:fV}{w:World}{K:Fg}{tg:Expr}(a it:Addr):Turn P w K tg (Itt K a) [it] it (λi h=>h.IsTupleIter it a i) where
 mem:=by simp
 obj:=λi h st b hb=>by
  have e:b=it:=by simpa using hb
  subst e;obtain⟨o,e,c,d⟩:=st;exact⟨o,e,λv z=>by rw[d]at z;cases z⟩
 keep:=λi h h' st k=>st.at λo e=>k it (by simp) o e
 item:=by
  intro X hP hw hK hc i pins s σ H E I hf st hg;subst hP hw hK;obtain⟨xs,x,hq,hx⟩:=hg;obtain⟨its,rv,p,hz⟩:=I.tuple hq;obtain⟨u,hu,ru⟩:=rv.get hx;obtain⟨f0,f1,f2,f3,f4,f5⟩:=hf it (by simp);refine wpAny_pyNext_tuple_item st (show s.heap.IsTuple a its.toArray from p) (x:=u) (by simpa using hu) λh' st' sb=>?_;have I1:Inv X pins σ H { s with heap:=h' }:=I.turned (t':=s.toks) (λb o hb e=>(sb.2 b hb).trans e) f0 f1 f3 f4 f5;obtain⟨o,e,c,d⟩:=id st';exact⟨u,rfl,a7h (s:={ s with heap:=h' }) e c d (by decide) ⟨x,H,I1,ru,⟨rfl,λys hy=>by rw[I.tuple_inj hy hq];exact hx⟩,st',λb hb=>(hf b hb).1⟩⟩
 done:=by
  intro X hP hw hK hc i pins s σ H E I hf st hg;subst hP hw hK;obtain⟨xs,hq,hx⟩:=hg;obtain⟨its,rv,p,hz⟩:=I.tuple hq;obtain⟨f0,f1,f2,f3,f4,f5⟩:=hf it (by simp);have hl:=rv.length;exact wpAny_pyNext_tuple_end (I.ok.hd hc) st (show s.heap.IsTuple a its.toArray from p) (by simp;omega) λh' eb=>⟨rfl,I.turned (t':=s.toks) (λb o hb e=>eb b o hb e) f0 f1 f3 f4 f5⟩
 self:=λ_ _ _ _ _ st h=>wpAny_pyIter_tupleiter st h
theorem a7j{P:fV}{w:World}{K:Fg}{tg:Expr}(it:Addr)(lo:Int)(n:Nat):Turn P w K tg (Itr lo n) [it] it (λi h=>IsRangeIter h it (lo+(i:Nat)*1) ((n:Int)-(i:Nat)) 1) where
 mem:=by simp
 obj:=λi h st b hb=>by
  have e:b=it:=by simpa using hb
  subst e;exact⟨_,st,λv z=>by
   have z':Data.fields _=Data.cell v:=z;cases z'⟩
 keep:=λi h h' st k=>k it (by simp) _ st
 item:=by
  intro X hP hw hK hc i pins s σ H E I hf st hg;subst hP hw hK;obtain⟨f0,f1,f2,f3,f4,f5⟩:=hf it (by simp);have W:=Walks.range (prog:=X.prog) (w:=X.w) (I.ok.hd hc) it lo 1 n;refine W.item i s _ _ hg st λv h' tk hv st' kk=>?_;obtain⟨t,rfl⟩:=hv;have I1:Inv X pins σ H { s with heap:=h',toks:=tk }:=I.turned (λb o hb e=>kk b o (by simpa using hb) e) f0 f1 f3 f4 f5;refine⟨_,rfl,a7h (s:={ s with heap:=h',toks:=tk }) (n:="range_iterator") st' rfl rfl (by decide) ⟨.int (lo+i),H,I1,⟨t,?_⟩,⟨rfl,rfl⟩,st',λb hb=>(hf b hb).1⟩⟩;rw[Int.mul_one]
 done:=by
  intro X hP hw hK hc i pins s σ H E I hf st hg;subst hP hw hK;obtain⟨f0,f1,f2,f3,f4,f5⟩:=hf it (by simp);exact wpAny_pyNext_range_end (I.ok.hd hc) st (by have:n<=i:=hg;omega) λh' eb=>⟨rfl,I.turned (t':=s.toks) (λb o hb e=>eb b o hb e) f0 f1 f3 f4 f5⟩
 self:=λ_ _ _ _ _ st h=>wpAny_pyIter_rangeiter st h
section
variable{X:Cx}{tg:Expr}
def b7Y(K:Fg)(tl:TE):TI:=fun σ H R=>tl σ H λx H1=>∃a,x=.ref a/\(∃xs,SqL K H1 a xs)/\R (Itl K a) H1
def iTup(K:Fg)(tl:TE):TI:=fun σ H R=>tl σ H λx H1=>∃a,x=.ref a/\(∃xs,SqT K H1 a xs)/\R (Itt K a) H1
def b2W(hl:PE X l tl):PI X tg l (b7Y X.K tl):=by
 intro f s σ H R I h;refine thn (hl f s σ H _ I h) λv d ⟨x,m,c,g,i⟩=>?_;obtain⟨a,e,⟨r,j⟩,q⟩:=i;subst e;cases g;obtain⟨n,u,p,t⟩:=c.list j;refine iO p.isList ⟨d.heap.objs.size,[d.heap.objs.size],_,_,m,rfl,c.kept λb o e=>Heap.get?_push_of_some _ e,a75 a _,⟨_,Heap.get?_push_size _ rfl,rfl,rfl⟩,λb k=>?_,q⟩;have e:b=d.heap.objs.size:=by simp_all
 subst e;exact c.fpOk (av _) (c.hok.fresh (av _))
def b5f(hl:PE X l tl):PI X tg l (iTup X.K tl):=by
 intro f s σ H R I h;refine thn (hl f s σ H _ I h) λv c ⟨x,m,d,k,j⟩=>?_;obtain⟨a,e,⟨u,n⟩,q⟩:=j;subst e;cases k;obtain⟨g,t,p,r⟩:=d.tuple n;refine wpAny_pyIter_tuple (p) ⟨c.heap.objs.size,[c.heap.objs.size],_,_,m,rfl,d.kept λb o e=>Heap.get?_push_of_some _ e,a7i a _,⟨_,Heap.get?_push_size _ rfl,rfl,rfl⟩,λb i=>?_,q⟩;have e:b=c.heap.objs.size:=by simp_all
 subst e;exact d.fpOk (av _) (d.hok.fresh (av _))
def b0s{lo hi:Int}(I:Inv X pins σ H s)(h1:-(2 ^ 62)<=lo)(h2:lo<2 ^ 62)(h3:-(2 ^ 62)<=hi)(h4:hi<2 ^ 62)
  (q:R (Itr lo (hi-lo).toNat) H):wpAny (model X.prog X.w) X.A (pyIter (.ref s.heap.objs.size)) (PIE X pins σ tg R) E { s with heap:=s.heap.push { cls:=.type "range",data:=.fields #[.int lo t,.int hi u,.int 1 v] },toks:=tk }:=by
 refine wpAny_pyIter_range (IsRange.new ..) (small_one h1 h2 h3 h4) ?_;have a:Inv X pins σ H { s with heap:=s.heap.push { cls:=.type "range",data:=.fields #[.int lo t,.int hi u,.int 1 v] },toks:=tk }:=I.kept λb o e=>Heap.get?_push_of_some _ e;refine⟨(s.heap.push { cls:=.type "range",data:=.fields #[.int lo t,.int hi u,.int 1 v] }).objs.size,[(s.heap.push { cls:=.type "range",data:=.fields #[.int lo t,.int hi u,.int 1 v] }).objs.size],_,_,H,rfl,
  a.kept λb o e=>Heap.get?_push_of_some _ e,a7j _ lo (hi-lo).toNat,?_,λb d=>?_,q⟩
 ·have c:lo+((0:Nat))*1=lo:=by simp
  have f:(((hi-lo).toNat))-((0:Nat))=fX.Range.rangeSize lo hi 1:=by rw[rangeSize_one];split<;>lia
  rw[c,f];exact Heap.get?_push_size _ rfl
 ·have e:b=(s.heap.push { cls:=.type "range",data:=.fields #[.int lo t,.int hi u,.int 1 v] }).objs.size:=by simpa using d
  subst e;exact a.fpOk (av _) (a.hok.fresh (av _))
def b5g(ta:TA):TI:=fun σ H R=>ta σ H λvs H1=>∃j:Int,vs=[.int j]/\-(2 ^ 62)<=j/\j<2 ^ 62/\R (Itr 0 j.toNat) H1
def a76(hg:Gl X "range")(hm:X.mg "range"=none)(ha:PA X [a] ta)(hs:fW [a] X.env=[(false,eval a X.env)]):PI X tg (.Call (.Name "range" p) [a] [] pos) (b5g ta):=by
 intro b s σ H R I h;refine Call_ (a2X I hg hm boot_range (PyProof.Rows.callWith_type1 (thn (ha pos b s σ H _ I h) λl k ⟨i,m,d,f,c⟩=>?_) hs rfl));obtain⟨j,e,c,g,q⟩:=c;subst e;cases f with
 |cons r rr=>
  cases rr;obtain⟨t,rfl⟩:=r;exact call_range_1 (b0s d (by simp) (by simp) c g (by grind))
def tFor(wi:TI)(g:TG)(tb:TS):TS:=λD σ H=>wi σ H λJ H1=>∃W:Nat->Nat->St->Hp->Prop,(∃m,W 0 m σ H1)/\∀i m σ H,W i m σ H ->
 (J.stop i H/\D.nx σ H)\/(J.go i H/\∃N:St->Hp->Prop,(∀σ' H',N σ' H'->∃m',m'<m/\W (i+1) m' σ' H')/\∀x H',J.yld i H x H'->g x σ H' fun σ2 H2=>tb { D with nx:=N,ct:=N,bk:=D.nx } σ2 H2)
noncomputable def a6o(fp:List Addr)(h:Heap):List (Addr×Obj):=fp.filterMap λb=>(h.get? b).map λo=>(b,o)
def a1r(hb:b∈fp)(e:h.get? b=some o):(b,o)∈a6o fp h:=bU.mpr ⟨b,hb,by rw[e];rfl⟩
def a77(hp:p∈a6o fp h):p.1∈fp/\h.get? p.1=some p.2:=by
 obtain⟨b,a,e⟩:=bU.mp hp;cases q:h.get? b with
 |none=>rw[q]at e;cases e
 |some o=>
  rw[q]at e;have c:=aN.inj e;subst c;exact⟨a,q⟩
def Inv.pinned(I:Inv X pins σ H s)(hf:∀b∈fp,FpOk X pins H b)(ho:∀b∈fp,∃o,s.heap.get? b=some o/\∀v,o.data≠.cell v):Inv X (pins++a6o fp s.heap) σ H s:=
 I.pins_of λp h=>(au.mp h).elim (λz=>I.pin p (aY _ z)) λz=>by
  obtain⟨a,e⟩:=a77 z;obtain⟨g,f,i,_⟩:=hf p.1 a;obtain⟨o,c,d⟩:=ho p.1 a;rw[e]at c;cases c;exact⟨e,g,f,i,d⟩
def Inv.unpinned(I:Inv X (pins++pl) σ H s):Inv X pins σ H s:=I.pins_of λp a=>I.pin p (aY _ (cf _ a))
def b5h(hp:gi (model X.prog X.w) X.A X.env X.xe)(hc:X.calm=true)(hi:PI X tg iter wi)(hg:PG X tg g)(hb:PSs X body tb)
  (hs:∀x,hU iter X.env x=pure x:=by intro _;rfl):PS X (.For tg iter body [] pos) (tFor wi g tb):=by
 intro a s σ H D I h;refine wpAny_For (thn (hi a s σ H _ I h) λv s1 h1=>thn h1 λitv s2 h2=>?_) hs;obtain⟨it,z,Q,J,H2,e,I2,T,st2,S,W,⟨m0,w0⟩,F⟩:=h2;subst e;have p:∀{H':Hp},(∀b∈z,H' b=none)->∀b∈z,FpOk X a H' b:=λhn b hb=>⟨hn b hb,(S b hb).2⟩;refine codeAny_forLoop_any (λn Y=>∃i σ' H',Inv X a σ' H' Y/\Q i Y.heap/\(∀b∈z,H' b=none)/\W i n σ' H') ?_ m0 ⟨0,σ,H2,I2,st2,λb hb=>(S b hb).1,w0⟩;rintro n U ⟨i,σ3,B,R,E,C,w3⟩;rcases F i n σ3 B w3 with ⟨stop,qn⟩ |⟨go,N,hN,step⟩
 ·refine ic hp (thn (T.done X rfl rfl rfl hc i a U σ3 B X.xe R (p C) E stop) λr s4 Y=>Y.elim λG I4=>?_);subst G;exact jf ⟨σ3,B,I4,qn⟩
 ·refine ic hp (thn (T.item X rfl rfl rfl hc i a U σ3 B X.xe R (p C) E go) λr s4 Y=>Y.elim λu Y=>Y.elim λG h4=>?_);subst G;refine ic hp (thn h4 λ_ s5 ⟨x,H5,I5,r5,y5,y,M⟩=>(ic hp (thn (hg _ s5 σ3 H5 x u _ (I5.pinned (p M) (T.obj _ _ y)) r5 (step x H5 y5)) λ_ s6 ⟨σ6,H6,I6,q6⟩=>(ic hp (thn (hb _ s6 σ6 H6 _ I6 q6) λf L l=>?_)))));have q:∀{σ7:St}{j:Hp},Inv X _ σ7 j L->N σ7 j->∃m,m<n/\∃i σ' H',Inv X a σ' H' L/\Q i L.heap/\(∀b∈z,H' b=none)/\W i m σ' H':=λ{σ7 j} c t=>by
   obtain⟨m',hm,w7⟩:=hN σ7 j t;refine⟨m',hm,i+1,σ7,j,c.unpinned,T.keep _ _ _ y λb hb o e=>(c.pin _ (aY _ (aY _ (a1r hb e)))).1,λb hb=>?_,w7⟩;obtain⟨o,e,d⟩:=T.obj _ _ y b hb;exact (c.pin _ (aY _ (aY _ (a1r hb e)))).2.1
  cases f with
  |next=>obtain⟨σ7,j,c,t⟩:=l;exact q c t
  |cont=>obtain⟨σ7,j,c,t⟩:=l;exact q c t
  |brk=>obtain⟨σ7,j,c,l⟩:=l;exact⟨σ7,j,c.unpinned,l⟩
  |ret v=>obtain⟨x7,σ7,j,c,r7,l⟩:=l;exact⟨x7,σ7,j,c.unpinned,r7,l⟩
end
abbrev R2:=V->V->Hp->VK->Prop
def OpR(X:Cx)(f:Value->Value->Sem Value)(r:R2):Prop:=
 ∀(pins:List (Addr×Obj))(s:Shared)(σ:St)(H:Hp)(x y:V)(v u:Value)(Q:VK),Inv X pins σ H s->RelV x v->RelV y u->r x y H Q ->
  wpAny (model X.prog X.w) X.A (f v u) (EP X pins σ Q) X.xe s
def UnR(X:Cx)(f:Value->Sem Value)(r:V->Hp->VK->Prop):Prop:=
 ∀(pins:List (Addr×Obj))(s:Shared)(σ:St)(H:Hp)(x:V)(v:Value)(Q:VK),Inv X pins σ H s->RelV x v->r x H Q ->
  wpAny (model X.prog X.w) X.A (f v) (EP X pins σ Q) X.xe s
def CallR(X:Cx)(f:Value)(r:List V->Hp->VK->Prop):Prop:=
 ∀(pins:List (Addr×Obj))(s:Shared)(σ:St)(H:Hp)(xs:List V)(us:List Value)(Q:VK),Inv X pins σ H s->Vals xs us->r xs H Q ->
  wpAny (model X.prog X.w) X.A (call f us) (EP X pins σ Q) X.xe s
def TruR(X:Cx)(r:V->Hp->(Bool->Hp->Prop)->Prop):Prop:=
 ∀(pins:List (Addr×Obj))(s:Shared)(σ:St)(H:Hp)(x:V)(v:Value)(Q:Bool->Hp->Prop),Inv X pins σ H s->RelV x v->r x H Q ->
  wpAny (model X.prog X.w) X.A (truthy v) (TP X pins σ Q) X.xe s
def tOp(r:R2)(ta tb:TE):TE:=fun σ H Q=>ta σ H λx H1=>tb σ H1 λy H2=>r x y H2 Q
def tUn(r:V->Hp->VK->Prop)(ta:TE):TE:=fun σ H Q=>ta σ H λx H1=>r x H1 Q
def rI(C:Int->Int->Prop)(g:Int->Int->V):R2:=λx y H Q=>∃i j,x=.int i/\y=.int j/\C i j/\Q (g i j) H
def rI0(g:Int->Int->V):R2:=λx y H Q=>∃i j,x=.int i/\y=.int j/\Q (g i j) H
def rU(g:Int->V):V->Hp->VK->Prop:=λx H Q=>∃i,x=.int i/\Q (g i) H
section
variable{X:Cx}{a b c:Expr}{ta tb tc:TE}{pos:Pos}
def binT(ha:PE X a ta)(hb:PE X b tb){R:V->V->Hp->Prop}(I:Inv X pins σ H s)
  (h:ta σ H λx H1=>tb σ H1 λy H2=>R x y H2) {f:Value->Value->Sem Value}
  (hf:∀v u s2 x y H2,Inv X pins σ H2 s2->RelV x v->RelV y u->R x y H2->wpAny (model X.prog X.w) X.A (f v u) Q X.xe s2) :
  wpAny (model X.prog X.w) X.A (eval a X.env) (λv sj=>wpAny (model X.prog X.w) X.A (eval b X.env) (λu sv=>wpAny (model X.prog X.w) X.A (f v u) Q X.xe sv) X.xe sj) X.xe s:=by
 exact thn (ha pins s σ H _ I h) λv c ⟨x,j,i,g,n⟩=>(thn (hb pins c σ j _ i n) λu e ⟨y,m,d,k,l⟩=>(hf v u e x y m d g k l))
def b5i(ho:OpR X (gb op) r)(ha:PE X a ta)(hb:PE X b tb):PE X (.BinOp a op b pos) (tOp r ta tb):=λc s σ H Q I h=>wpAny_BinOp (binT ha hb I h λv u i x y f e d g q=>ho c i σ f x y v u Q e d g q)
def b7Z(ho:UnR X (jh op) r)(ha:PE X a ta):PE X (.UnaryOp op a pos) (tUn r ta):=λb s σ H Q I h=>UnaryOp_ (thn (ha b s σ H _ I h) λv d ⟨x,e,c,g,f⟩=>ho b d σ e x v Q c g f)
def opI{g:Int->Int->Int}
  (rule:∀(i j:Int)(t u:Tok)(s:Shared)(Q:Value->Shared->Prop)(E:Value->Shared->Prop),C i j->Q (.int (g i j) s.toks) { s with toks:=s.toks+1 }->wpAny (model X.prog X.w) X.A (f (.int i t) (.int j u)) Q E s) :
  OpR X f (rI C λi j=>.int (g i j)):=by
 intro b s σ H x y v u Q I a d h;obtain⟨i,j,rfl,rfl,e,q⟩:=h;obtain⟨t,rfl⟩:=a;obtain⟨c,rfl⟩:=d;exact rule i j t c s _ _ e ⟨.int _,H,I.tok _,⟨_,rfl⟩,q⟩
def opI0{g:Int->Int->Int}
  (rule:∀(i j:Int)(t u:Tok)(s:Shared)(Q:Value->Shared->Prop)(E:Value->Shared->Prop),Q (.int (g i j) s.toks) { s with toks:=s.toks+1 }->wpAny (model X.prog X.w) X.A (f (.int i t) (.int j u)) Q E s) :
  OpR X f (rI0 λi j=>.int (g i j)):=by
 intro a s σ H x y v u Q I d b h;obtain⟨i,j,rfl,rfl,q⟩:=h;obtain⟨t,rfl⟩:=d;obtain⟨c,rfl⟩:=b;exact rule i j t c s _ _ ⟨.int _,H,I.tok _,⟨_,rfl⟩,q⟩
def opB0{g:Int->Int->Bool}
  (rule:∀(i j:Int)(t u:Tok)(s:Shared)(Q:Value->Shared->Prop)(E:Value->Shared->Prop),Q (.bool (g i j)) s->wpAny (model X.prog X.w) X.A (f (.int i t) (.int j u)) Q E s) :
  OpR X f (rI0 λi j=>.bl (g i j)):=by
 intro d s σ H x y v u Q I c a h;obtain⟨i,j,rfl,rfl,q⟩:=h;obtain⟨t,rfl⟩:=c;obtain⟨b,rfl⟩:=a;exact rule i j t b s _ _ ⟨.bl _,H,I,rfl,q⟩
def CPow(i j:Int):Prop:=0<=j/\j<=1000000/\i.natAbs<2 ^ 64
def CMul(i j:Int):Prop:=(-(2 ^ 64)<i/\i<2 ^ 64)\/(-(2 ^ 64)<j/\j<2 ^ 64)
def CMul.ok(h:CMul i j):IntMulOk i j:=by
 rcases h with ⟨h1,h2⟩ |⟨h1,h2⟩
 ·exact .of_left (intBits_le_64 h1 h2)
 ·exact .of_right (intBits_le_64 h1 h2)
def op_add:OpR X (gb .Add) (rI0 λi j=>.int (i+j)):=opI0 λ_ _ _ _ _ _ _ q=>add_int q
def b5j:OpR X (gb .Sub) (rI0 λi j=>.int (i-j)):=opI0 λ_ _ _ _ _ _ _ q=>sub_int q
def b5k:OpR X (gb .Mult) (rI CMul λi j=>.int (i*j)):=opI λ_ _ _ _ _ _ _ a q=>mul_int q a.ok
def b5l:OpR X (gb .Mod) (rI (λ_ j=>0<j) λi j=>.int (i % j)):=opI λi j _ _ _ _ _ a q=>by
 have b:(0:Int)<j:=a;exact mod_int' (by omega) (by rw[Int.fmod_eq_emod_of_nonneg i (by omega)];exact q)
def b5m:OpR X (gb .Pow) (rI CPow λi j=>.int (i ^ j.toNat)):=opI λ_ _ _ _ _ _ _ a q=>pow_int_small a.1 a.2.1 a.2.2 q
def b2X:OpR X (g9 .Add) (rI0 λi j=>.int (i+j)):=opI0 λ_ _ _ _ _ _ _ q=>iadd_int q
def unI{g:Int->Int}
  (rule:∀(i:Int)(t:Tok)(s:Shared)(Q:Value->Shared->Prop)(E:Value->Shared->Prop),Q (.int (g i) s.toks) { s with toks:=s.toks+1 }->wpAny (model X.prog X.w) X.A (f (.int i t)) Q E s) :
  UnR X f (rU λi=>.int (g i)):=by
 intro b s σ H x v Q I a h;obtain⟨i,rfl,q⟩:=h;obtain⟨t,rfl⟩:=a;exact rule i t s _ _ ⟨.int _,H,I.tok _,⟨_,rfl⟩,q⟩
def b5n:UnR X (jh .USub) (rU λi=>.int (-i)):=unI λ_ _ _ _ _ q=>neg_int q
end
noncomputable def scal:V->V->Bool
 |.non,.non=>true |.non,.int _=>true |.int _,.non=>true |.non,.bl _=>true |.bl _,.non=>true |.non,.str _=>true |.str _,.non=>true
 |.int _,.int _=>true |.bl _,.bl _=>true |.str _,.str _=>true |.byt _,.byt _=>true
 |.int _,.str _=>true |.str _,.int _=>true |.bl _,.str _=>true |.str _,.bl _=>true
 |_,_=>false
def rEq:R2:=λx y H Q=>scal x y=true/\Q (.bl (decide (x=y))) H
def rNe:R2:=λx y H Q=>scal x y=true/\Q (.bl (!decide (x=y))) H
def a78:decide (V.int i=V.int j)=(i==j):=by
 rw[cr];simp
def a79:decide (V.bl i=V.bl j)=(i==j):=by
 rw[cr];simp
def a8a:decide (V.str i=V.str j)=(i==j):=by
 rw[cr];simp
def a8b:decide (V.byt i=V.byt j)=(i.toList==j.toList):=by
 rw[cr];cases i;cases j;simp
section
variable{X:Cx}{a b c:Expr}{ta tb tc:TE}{pos:Pos}
def a0m(I:Inv X pins σ H s)(q:Q (.bl k) H)(e:k=k'):EP X pins σ Q (.bool k') s:=by
 subst e;exact⟨.bl k,H,I,rfl,q⟩
def op_eq:OpR X (fZ .Eq) rEq:=by
 intro pins s σ H x y v u Q I rx ry h;obtain⟨hs,q⟩:=h;cases x with
 |non=>
  cases rx;cases y with
  |non=>cases ry;exact PySem.EqNone.eq_none_none (a0m I q (by simp))
  |bl j=>cases ry;exact PySem.EqNone.eq_none_bool (a0m I q (by simp))
  |int j=>obtain⟨t',rfl⟩:=ry;exact PySem.EqNone.eq_none_int (a0m I q (by simp))
  |str j=>obtain⟨t',rfl⟩:=ry;exact PySem.EqNone.eq_none_str (a0m I q (by simp))
  |_=>exact absurd (show false=true from hs) aZ
 |bl i=>
  cases rx;cases y with
  |non=>cases ry;exact PySem.EqNone.eq_bool_none (a0m I q (by simp))
  |bl j=>cases ry;exact eq_bool (a0m I q a79)
  |str j=>obtain⟨t',rfl⟩:=ry;exact PySem.EqMixed.eq_bool_str (a0m I q (by simp))
  |_=>exact absurd (show false=true from hs) aZ
 |int i=>
  obtain⟨t,rfl⟩:=rx;cases y with
  |non=>cases ry;exact PySem.EqNone.eq_int_none (a0m I q (by simp))
  |int j=>obtain⟨t',rfl⟩:=ry;exact eq_int (a0m I q a78)
  |str j=>obtain⟨t',rfl⟩:=ry;exact PySem.EqMixed.eq_int_str (a0m I q (by simp))
  |_=>exact absurd (show false=true from hs) aZ
 |str i=>
  obtain⟨t,rfl⟩:=rx;cases y with
  |non=>cases ry;exact PySem.EqNone.eq_str_none (a0m I q (by simp))
  |bl j=>cases ry;exact PySem.EqMixed.eq_str_bool (a0m I q (by simp))
  |int j=>obtain⟨t',rfl⟩:=ry;exact PySem.EqMixed.eq_str_int (a0m I q (by simp))
  |str j=>obtain⟨t',rfl⟩:=ry;exact eq_str (a0m I q a8a)
  |_=>exact absurd (show false=true from hs) aZ
 |byt i=>
  obtain⟨t,rfl⟩:=rx;cases y with
  |byt j=>obtain⟨t',rfl⟩:=ry;exact PySem.W.eq_bytes (a0m I q a8b)
  |_=>exact absurd (show false=true from hs) aZ
 |_=>cases y<;>exact absurd (show false=true from hs) aZ
def op_ne:OpR X (fZ .NotEq) rNe:=by
 intro e s σ H x y v u Q I d a h;obtain⟨c,q⟩:=h;cases x with
 |non=>
  cases d;cases y with
  |non=>cases a;exact PySem.EqNone.ne_none_none (a0m I q (by simp))
  |bl j=>cases a;exact PySem.EqNone.ne_none_bool (a0m I q (by simp))
  |int j=>obtain⟨b,rfl⟩:=a;exact PySem.EqNone.ne_none_int (a0m I q (by simp))
  |str j=>obtain⟨b,rfl⟩:=a;exact PySem.EqNone.ne_none_str (a0m I q (by simp))
  |_=>exact absurd (show false=true from c) aZ
 |bl i=>
  cases d;cases y with
  |non=>cases a;exact PySem.EqNone.ne_bool_none (a0m I q (by simp))
  |bl j=>cases a;exact ne_bool (a0m I q (congrArg not a79))
  |str j=>obtain⟨b,rfl⟩:=a;exact PySem.EqMixed.ne_bool_str (a0m I q (by simp))
  |_=>exact absurd (show false=true from c) aZ
 |int i=>
  obtain⟨t,rfl⟩:=d;cases y with
  |non=>cases a;exact PySem.EqNone.ne_int_none (a0m I q (by simp))
  |int j=>obtain⟨b,rfl⟩:=a;exact ne_int (a0m I q (congrArg not a78))
  |str j=>obtain⟨b,rfl⟩:=a;exact PySem.EqMixed.ne_int_str (a0m I q (by simp))
  |_=>exact absurd (show false=true from c) aZ
 |str i=>
  obtain⟨t,rfl⟩:=d;cases y with
  |non=>cases a;exact PySem.EqNone.ne_str_none (a0m I q (by simp))
  |bl j=>cases a;exact PySem.EqMixed.ne_str_bool (a0m I q (by simp))
  |int j=>obtain⟨b,rfl⟩:=a;exact PySem.EqMixed.ne_str_int (a0m I q (by simp))
  |str j=>obtain⟨b,rfl⟩:=a;exact ne_str (a0m I q (congrArg not a8a))
  |_=>exact absurd (show false=true from c) aZ
 |byt i=>
  obtain⟨t,rfl⟩:=d;cases y with
  |byt j=>obtain⟨b,rfl⟩:=a;exact PySem.W.ne_bytes (a0m I q (congrArg not a8b))
  |_=>exact absurd (show false=true from c) aZ
 |_=>cases y<;>exact absurd (show false=true from c) aZ
def b70:OpR X (fZ .Lt) (rI0 λi j=>.bl (decide (i<j))):=opB0 λ_ _ _ _ _ _ _ q=>lt_int q
def b71:OpR X (fZ .LtE) (rI0 λi j=>.bl (decide (i<=j))):=opB0 λ_ _ _ _ _ _ _ q=>le_int q
def b72:OpR X (fZ .Gt) (rI0 λi j=>.bl (decide (j<i))):=opB0 λ_ _ _ _ _ _ _ q=>gt_int q
def a8c:OpR X (fZ .Lt) (λx y H Q=>∃i j,x=.str i/\y=.str j/\Q (.bl (decide (i.cps.toList<j.cps.toList))) H):=by
 intro b s σ H x y v u Q I a c h;obtain⟨i,j,rfl,rfl,q⟩:=h;obtain⟨t,rfl⟩:=a;obtain⟨d,rfl⟩:=c;exact lt_str (a0m I q rfl)
def op_in_str:OpR X (fZ .In) (λx y H Q=>∃i j,x=.str i/\y=.str j/\Q (.bl (!(fX.Str.occurrences j i 0 j.length 1).isEmpty)) H):=by
 intro b s σ H x y v u Q I a c h;obtain⟨i,j,rfl,rfl,q⟩:=h;obtain⟨t,rfl⟩:=a;obtain⟨d,rfl⟩:=c;exact in_str (a0m I q rfl)
def op_isN:OpR X (fZ .Is) (λx y H Q=>y=.non/\Q (.bl (decide (x=.non))) H):=by
 intro b s σ H x y v u Q I a c h;obtain⟨rfl,q⟩:=h;cases c;refine is_none_gen (a0m I q ?_);cases x<;>first
  | (cases a;rfl)
  | (obtain⟨t,rfl⟩:=a;rfl)
def b2Y:OpR X (fZ .IsNot) (λx y H Q=>y=.non/\Q (.bl (!decide (x=.non))) H):=by
 intro c s σ H x y v u Q I a b h;obtain⟨rfl,q⟩:=h;cases b;refine isnot_none_gen (a0m I q ?_);cases x<;>first
  | (cases a;rfl)
  | (obtain⟨t,rfl⟩:=a;rfl)
def OpR.or(h:OpR X f r)(h':OpR X f r'):OpR X f (λx y H Q=>r x y H Q\/r' x y H Q):=by
 intro a s σ H x y v u Q I c b q;rcases q with q |q
 ·exact h a s σ H x y v u Q I c b q
 ·exact h' a s σ H x y v u Q I c b q
def b2c(b:Expr)(h:op≠.In:=by decide)(h2:op≠.NotIn:=by decide):ie op b=false:=by
 have a:(op==CmpOp.In)=false:=by grind
 have c:(op==CmpOp.NotIn)=false:=by grind
 cases b<;>simp[ie,a,c]
def b2Z(ho:OpR X (fZ op) r)(ha:PE X a ta)(hb:PE X b tb)(hm:ie op b=false):PE X (.Compare a [op] [b] pos) (tOp r ta tb):=λc s σ H Q I h=>wpAny_Compare1 (binT ha hb I h λv u d x y f g i e q=>ho c d σ f x y v u Q g i e q) hm
def b5o(t:TE):TT:=fun σ H Q=>t σ H λx H'=>∃k,x=.bl k/\Q k H'
def b20(ho:OpR X (fZ op) r)(ha:PE X a ta)(hb:PE X b tb)(hm:ie op b=false):PT X (.Compare a [op] [b] pos) (b5o (tOp r ta tb)):=by
 intro d s σ H Q I h;refine wpAny_isTrue_Compare1 (thn (ha d s σ H _ I h) λv l ⟨x,w,f,n,B⟩=>thn (hb d l σ w _ f B) λu t ⟨y,m,i,j,A⟩=>
  thn (ho d t σ m x y v u _ i n j A) λc C ⟨z,q,p,o,k,e,g⟩=>?_) hm
 subst e;cases o;exact gY ⟨q,p,g⟩
def a8d(r r':R2)(ta tb tc:TE):TE:=fun σ H Q=>ta σ H λx H1=>tb σ H1 λy H2=>r x y H2 λz H3=>∃k,z=.bl k /\
 (if k=true then tc σ H3 λw' H4=>r' y w' H4 Q else Q (.bl false) H3)
def b0t(ho:OpR X (fZ op) r)(ho':OpR X (fZ op') r')(ha:PE X a ta)(hb:PE X b tb)(hc:PE X c tc)
  (hm:ji [op,op'] [b,c]=false:=by with_unfolding_all rfl):PE X (.Compare a [op,op'] [b,c] pos) (a8d r r' ta tb tc):=by
 intro f s σ H Q I h;refine Compare_chain (thn (ha f s σ H _ I h) λv m ⟨x,t,J,p,N⟩=>chain_link (thn (hb f m σ t _ J N) λu o ⟨y,C,F,j,L⟩=>
  thn (ho f o σ C x y v u _ F p j L) λd A ⟨z,i,g,n,k,e,l⟩=>?_)) hm
 subst e;cases n;refine gY ?_;cases k with
 |false=>exact ite_ff ⟨.bl false,i,g,rfl,l⟩
 |true=>exact ite_tt (chain_last (thn (hc f A σ i _ g l) λM w ⟨D,q,B,G,E⟩=>ho' f w σ q y D u M Q B j G E))
def b0u(ho:OpR X (fZ op) r)(ho':OpR X (fZ op') r')(ha:PE X a ta)(hb:PE X b tb)(hc:PE X c tc)
  (hm:ji [op,op'] [b,c]=false:=by with_unfolding_all rfl):PT X (.Compare a [op,op'] [b,c] pos) (b5o (a8d r r' ta tb tc)):=by
 intro f s σ H Q I h;refine isTrue_chain (thn (ha f s σ H _ I h) λv B ⟨x,G,p,D,R⟩=>test_link (thn (hb f B σ G _ p R) λu q ⟨y,V,J,l,Y⟩=>
  thn (ho f q σ V x y v u _ J D l Y) λd S ⟨z,j,i,T,k,e,g⟩=>?_)) hm
 subst e;cases T;refine gY ?_;cases k with
 |false=>
  obtain⟨k',t,w⟩:=g;cases t;exact ite_ff ⟨j,i,w⟩
 |true=>
  refine ite_tt (test_last (thn (hc f S σ j _ i g) λN F ⟨U,o,C,L,m⟩=>thn (ho' f F σ o y U u N _ C l L m) λd' s5 ⟨z2,A,W,n,k2,M,E⟩=>?_));subst M;cases n;exact gY ⟨A,W,E⟩
def TruV(K:Fg)(x:V)(H:Hp)(k:Bool):Prop:=
 match x with
 |.non=>k=false
 |.bl b=>k=b
 |.int i=>k=(i != 0)
 |.str y=>y.length<=fR/\k=((y.length:Int) != 0)
 |.byt y=>y.size<=fR/\k=((y.size:Int) != 0)
 |.ref p=>(∃xs,SqL K H p xs/\k=!xs.isEmpty)\/(∃xs,SqT K H p xs/\k=!xs.isEmpty)\/∃kvs,H p=some (.dK kvs)/\k=!kvs.isEmpty
 |_=>False
def a7k{κ:Type}{kvs:List (κ×V)}{vs:List (κ×Value)}(r:KV kvs vs):(!vs.isEmpty)=!kvs.isEmpty:=by
 cases r<;>rfl
def a3x(r:Vals xs its):(!its.toArray.isEmpty)=!xs.isEmpty:=by
 cases r<;>simp
def a4O:(fR:Nat)<2 ^ 63:=by rw[f8];decide
def b5p:TruR X (λx H Q=>∃k,TruV X.K x H k/\Q k H):=by
 intro u s σ H x v Q I c h;obtain⟨k,e,q⟩:=h;have z:=a4O;have A:fR=16777216:=f8;cases x with
 |non=>
  cases c;have a:k=false:=e;subst a;exact truthy_none ⟨H,I,q⟩
 |bl b=>
  cases c;have a:k=b:=e;subst a;exact gY ⟨H,I,q⟩
 |int i=>
  obtain⟨t,rfl⟩:=c;have a:k=(i != 0):=e;subst a;exact PySem.P.truthy_int ⟨H,I,q⟩
 |str y=>
  obtain⟨t,rfl⟩:=c;obtain⟨o,a⟩:=e;subst a;exact PySem.P.truthy_str (by lia) ⟨H,I.tok _,q⟩
 |byt y=>
  obtain⟨t,rfl⟩:=c;obtain⟨o,a⟩:y.size<=fR/\k=((y.size:Int) != 0):=e;subst a;exact PySem.W.truthy_bytes (by lia) ⟨H,I.tok _,q⟩
 |ref p=>
  cases c;have a:=e;rcases a with ⟨xs,hx,a⟩ |⟨xs,hx,a⟩ |⟨kvs,hx,a⟩
  ·subst a;obtain⟨l,r,g,j⟩:=I.list hx;have d:=r.length;exact wpAny_truthy_list g.isList (by simp only[aU];lia) ⟨H,I.tok _,by rw[a3x r];exact q⟩
  ·subst a;obtain⟨l,r,g,j⟩:=I.tuple hx;have d:=r.length;exact truthy_tuple g (by simp only[aU];lia) ⟨H,I.tok _,by rw[a3x r];exact q⟩
  ·subst a;obtain⟨j,n,f,r,m⟩:=I.hok p _ hx;have d:kvs.length=f.length:=Paired.length r;exact wpAny_truthy_dict n m (by lia) ⟨H,I.tok _,by rw[a7k r];exact q⟩
 |_=>exact (show False from e).elim
def b0v(ha:PE X a ta)(he:∀whole,isTrue a X.env whole=(do let v <- whole;g8 a.pos;gr [v] (truthy v))) :
  PT X a (fun σ H Q=>ta σ H λx H'=>∃k,TruV X.K x H' k/\Q k H'):=λb s σ H Q I h=>isTrue_plain (thn (ha b s σ H _ I h) λv e ⟨x,f,d,g,c⟩=>b5p b e σ f x v Q d g c) (he _)
def op_add_str:OpR X (gb .Add) (λx y H Q=>∃i j,x=.str i/\y=.str j/\i.length+j.length<=fR/\Q (.str (i++j)) H):=by
 intro b s σ H x y v u Q I a d h;obtain⟨i,j,rfl,rfl,e,q⟩:=h;obtain⟨t,rfl⟩:=a;obtain⟨c,rfl⟩:=d;exact add_str (λc f=>⟨.str (i++j),H,I.tok _,⟨_,rfl⟩,q⟩) e
def a2A(r:Vals [x] us):∃u,us=[u]/\RelV x u:=by
 cases r with
 |cons r1 r2=>cases r2;exact⟨_,rfl,r1⟩
def a8e(r:Vals [x,y] us):∃u w',us=[u,w']/\RelV x u/\RelV y w':=by
 cases r with
 |cons r1 r2=>
  cases r2 with
  |cons r3 r4=>cases r4;exact⟨_,_,rfl,r1,r3⟩
def a8f(hc:X.calm=true):CallR X (.builtin "max") (λxs H Q=>∃i j,xs=[.int i,.int j]/\Q (.int (if j > i then j else i)) H):=by
 intro a s σ H d e Q I r h;obtain⟨i,j,rfl,q⟩:=h;obtain⟨u,f,rfl,⟨t,rfl⟩,⟨b,rfl⟩⟩:=a8e r;refine max_two_ints (I.ok.hd hc) λg c k=>⟨_,H,I.kept k,?_,q⟩
 by_cases hj:j > i
 ·rw[if_pos hj,if_pos hj];exact⟨_,rfl⟩
 ·rw[if_neg hj,if_neg hj];exact⟨_,rfl⟩
def a8g(hc:X.calm=true):CallR X (.builtin "min") (λxs H Q=>∃i j,xs=[.int i,.int j]/\Q (.int (if j<i then j else i)) H):=by
 intro a s σ H d f Q I r h;obtain⟨i,j,rfl,q⟩:=h;obtain⟨u,g,rfl,⟨t,rfl⟩,⟨c,rfl⟩⟩:=a8e r;refine min_two_ints (I.ok.hd hc) λb e k=>⟨_,H,I.kept k,?_,q⟩
 by_cases hj:j<i
 ·rw[if_pos hj,if_pos hj];exact⟨_,rfl⟩
 ·rw[if_neg hj,if_neg hj];exact⟨_,rfl⟩
def LenV(K:Fg)(x:V)(H:Hp)(n:Nat):Prop:=
 match x with
 |.str y=>y.length<=fR/\n=y.length
 |.byt y=>y.size<=fR/\n=y.size
 |.ref p=>(∃xs,SqL K H p xs/\n=xs.length)\/∃xs,SqT K H p xs/\n=xs.length
 |_=>False
def b0w:CallR X (.builtin "len") (λxs H Q=>∃x n,xs=[x]/\LenV X.K x H n/\Q (.int n) H):=by
 intro j s σ H a v Q I r h;obtain⟨x,n,rfl,e,q⟩:=h;obtain⟨u,rfl,d⟩:=a2A r;have o:=f8;cases x with
 |str y=>
  obtain⟨t,rfl⟩:=d;obtain⟨k,b⟩:=e;subst b;exact len_str (by omega) ⟨.int _,H,I.tok _,⟨_,rfl⟩,q⟩
 |byt y=>
  obtain⟨t,rfl⟩:=d;obtain⟨k,b⟩:=e;subst b;exact PySem.W.len_bytes (by omega) ⟨.int _,H,I.tok _,⟨_,rfl⟩,q⟩
 |ref p=>
  cases d;have b:=e;rcases b with ⟨a,hx,b⟩ |⟨a,hx,b⟩
  ·subst b;obtain⟨i,g,f,l⟩:=I.list hx;have c:=g.length;exact Calls.call_len_list f.isList (by grind) ⟨.int a.length,H,I.tok _,⟨_,by simp only[aU];rw[c]⟩,q⟩
  ·subst b;obtain⟨i,g,f,l⟩:=I.tuple hx;have c:=g.length;exact len_tuple f (by grind) ⟨.int a.length,H,I.tok _,⟨_,by simp only[aU];rw[c]⟩,q⟩
 |_=>exact (e).elim
end
structure ObjM (h:Heap) (x dx C:Addr) (mA:Str->Option Value):Prop where
 obj:h.get? x=some (PySem.W.instObj C dx)
 ns:h.Ns1 dx mA
 ne:dx≠x
def a8h{h:Heap}(n:h.Ns1 dx mA):∃od,h.get? dx=some od/\∀name,PySem.W.lookIn name od=some (mA name):=by
 obtain⟨o,d,m,l,j,f,_,g⟩:=n;refine⟨o,l,λc=>?_⟩;have e:=g c;unfold nsFind findBy at e;rw[<- Array.find?_toList]at e;unfold PySem.W.lookIn;rw[j];dsimp only
 split
 ·simp_all
 ·rename_i q
  rw[q]at e;have a:d.toList.any (·.refKey)=false:=by
   rw[cK];intro y k;obtain⟨z,t,b⟩:=f y (eJ.mp k);simp[jj.refKey,b]
  have i:¬ d.toList.any (·.refKey)=true:=a▸aZ;rw[if_neg i];exact congrArg some e
def ObjM.look(I:ObjM h x dx C mA):∃od,PySem.W.InstAt h x (PySem.W.instObj C dx) C (some od)/\∀name,PySem.W.lookIn name od=some (mA name):=
 let ⟨od,ho,hl⟩:=a8h I.ns
 ⟨od,⟨I.obj,rfl,rfl,ho⟩,hl⟩
section
variable{prog:fV}{w:World}{A:Around}{E:Value->Shared->Prop}{s:Shared}{K:Fg}{x dx C f:Addr}{mA:Str->Option Value}{name:Str}{v:Value}
def b21(X:K.In s.heap)(I:ObjM s.heap x dx C mA)(hg:PySem.W.plainGet K C name=true)(hh:PySem.W.hasDictIn K C=true)
  (ha:PySem.W.findIn K (.ref C) name=some none) (hv:mA name=some v) (hv':PySem.W.handedIn v=true) (h:Q v { s with toks:=s.toks+1 }) :
  wpAny (model prog w) A (getAttr (.ref x) name expr) Q E s:=by
 obtain⟨b,J,a⟩:=I.look;exact PySem.W.get_value X J (PySem.W.plainGet_of hg).1 (PySem.W.findObj_own hh ha rfl (by simp_all)) hv' h
def b0x(X:K.In s.heap)(I:ObjM s.heap x dx C mA)(hg:PySem.W.plainGet K C name=true)
  (hf:PySem.W.findIn K (.ref C) name=some (some (.ref f))) (ht:PySem.W.isFn K (.ref f)=true) (hv:mA name=none) (h:Q (.ref f,[.ref x]) s) :
  wpAny (model prog w) A (iP (.ref x) name pl) Q E s:=by
 obtain⟨b,J,a⟩:=I.look;exact PySem.W.method_fn X J (PySem.W.plainGet_of hg).1 (PySem.W.plainGet_of hg).2 hf (beq_iff_eq.mp ht) (by show (PySem.W.lookIn name b).map _=some false;rw[a,hv];rfl) h
def b22(X:K.In s.heap)(I:ObjM s.heap x dx C mA)
  (hs:PySem.W.findIn K (.ref C) "__setattr__"=some (some (.builtin "object.__setattr__"))) (hp:PySem.W.plainOver K C=true) (ht:PySem.W.takerIn K C name=some none) (hh:PySem.W.hasDictIn K C=true)
  (hw:PySem.Within mA ns) (hsz:ns.length<=fR)
  (h:∀h',ObjM h' x dx C (λy=>if y=name then some v else mA y)->Heap.SameBut dx s.heap h'->Q () { s with heap:=h',toks:=s.toks+2 }) :
  wpAny (model prog w) A (setAttr (.ref x) name v) Q E s:=by
 obtain⟨p,J,n⟩:=I.look;refine PySem.W.set_plain X J hs (PySem.W.osa_open X J hp ht λb=>?_);obtain⟨o,j,i⟩:=PySem.W.any_some hh;refine fO (fP (fO (fO (wpAny_loadPart I.obj (fO (PySem.W.Looks.here (PySem.W.looks_clsIn X j) ?_))))));rw[i];refine fP (fO (fP (fO (wpAny_nsSet1 I.ns λt d c=>?_))));obtain⟨q,l,m,f,g,e⟩:=d.count (PySem.Within.cons name v hw);exact fO (wpAny_lookBehind f (g▸pastItsLine_dict (aD e (by grind))) (fP (h _ ⟨(c.2 _ (Ne.symm I.ne)).trans I.obj,d,I.ne⟩ c)))
def b0y(X:K.In s.heap)(hm:PySem.W.makesIn K C=true)
  (hi:PySem.W.findIn K (.ref C) "__init__"=some (some (.ref f))) (hf:PySem.W.typeIn K (.ref f)=some (.type "function"))
  (h:gF (model prog w) (A.under (.builtin "type.__call__" ⟨.ref C::vs,kw⟩)) (.call (.ref f) ⟨.ref (s.heap.objs.size+1)::vs,kw⟩) (PySem.W.InitBack (s.heap.objs.size+1) R)
   { s with heap:=(s.heap.push PySem.W.emptyDict).push (PySem.W.instObj C s.heap.objs.size) }) :
  gF (model prog w) A (.call (.ref C) ⟨vs,kw⟩) R s:=PySem.W.make_core (PySem.W.makes_of X hm) (PySem.W.looks_findIn X hi) (λa=>PySem.W.bind_fn X a hf) (.inl rfl) h
end
noncomputable def putF(f:Str)(v:V):List (Str×V)->List (Str×V)
 |[]=>[(f,v)]
 | (g,x)::r=>if g=f then (g,v)::r else (g,x)::putF f v r
def a5G(f g:Str)(v:V):∀fs:List (Str×V),(putF f v fs).lookup g=if g=f then some v else fs.lookup g:=by intro z0;induction z0 with
 |nil=>
  show dh g [_]=_
  by_cases h:g=f
  ·simp_all
  ·simp_all
 |cons q0 r I0=>
  obtain⟨k,x⟩:=q0;rw[show putF f v _=(if k=f then _::r else (k,x)::putF f v r) from rfl]
  by_cases hk:k=f
  ·rw[if_pos hk]
   by_cases h:g=k
   ·simp_all
   ·have a:=beq_eq_false_iff_ne.mpr h;simp only[dh,a,if_neg (λe:g=f=>h (e.trans hk.symm))]
  ·rw[if_neg hk]
   by_cases h:g=k
   ·simp_all
   ·have a:=beq_eq_false_iff_ne.mpr h;simp only[dh,a];exact (I0)
def a4P(f:Str)(v:V):∀fs:List (Str×V),f∈(putF f v fs).map (·.1)/\∀g,g∈fs.map (·.1)->g∈(putF f v fs).map (·.1):=by intro z0;induction z0 with
 |nil=>exact⟨by simp[putF],λg h=>by simp at h⟩
 |cons q0 r I0=>
  obtain⟨k,x⟩:=q0;obtain⟨a,b⟩:=I0;rw[show putF f v _=(if k=f then _::r else (k,x)::putF f v r) from rfl]
  by_cases hk:k=f
  ·grind
  ·rw[if_neg hk];refine⟨?_,λg h=>?_⟩
   ·rw[aF];exact bG _ a
   ·rw[aF]at h ⊢;rcases ax.mp h with e |e
    ·exact ax.mpr (.inl e)
    ·exact bG _ (b g e)
def a5H(f:Str)(v:V):∀fs:List (Str×V),(putF f v fs).length<=fs.length+1:=by intro z0;induction z0 with
 |nil=>simp[putF]
 |cons q0 r I0=>
  obtain⟨k,x⟩:=q0;have a:=I0;rw[show putF f v _=(if k=f then _::r else (k,x)::putF f v r) from rfl]
  by_cases hk:k=f
  ·grind
  ·grind
def RelO.some_of(r:RelO (some v) o):∃u,o=some u/\RelV v u:=by
 cases o with
 |none=>exact (r).elim
 |some u=>exact⟨u,rfl,r⟩
def RelO.none_of(r:RelO none o):o=none:=by
 cases o with
 |none=>rfl
 |some u=>exact (r).elim
def a8i(r:RelV v u):PySem.W.handedIn u=true:=by
 cases v with
 |non=>cases (r);rfl
 |bl b=>cases (r);rfl
 |int i=>obtain⟨t,e⟩:=(r);cases e;rfl
 |str x=>obtain⟨t,e⟩:=(r);cases e;rfl
 |byt b=>obtain⟨t,e⟩:=(r);cases e;rfl
 |flt b=>obtain⟨t,e⟩:=(r);cases e;rfl
 |ref a=>cases (r);rfl
 |ty n=>cases (r);rfl
section
variable{P:fV}{w:World}{H H':Hp}{h h':Heap}{a C dx:Addr}{fs fs':List (Str×V)}
def a3X(hok:HOk P w H h)(e:H a=some (.ins C dx fs)):∃mA,ObjM h a dx C mA/\(∀f,RelO (fs.lookup f) (mA f))/\PySem.Within mA (fs.map (·.1))/\fs.length<=1000/\H dx=some (.own a):=by
 obtain⟨d,z,c,g,b,n,r,q⟩:=(hok a _ e);exact⟨b,⟨g,n,c⟩,r,q,z,d⟩
end
structure Cls (K:Fg) (C:Addr):Prop where
 pg:PySem.W.plainGet K C Str.empty=true
 hd:PySem.W.hasDictIn K C=true
 po:PySem.W.plainOver K C=true
 sa:PySem.W.findIn K (.ref C) "__setattr__"=some (some (.builtin "object.__setattr__"))
def Cls.get{K:Fg}(c:Cls K C)(f:Str):PySem.W.plainGet K C f=true:=c.pg
def NoAttr(K:Fg)(C:Addr)(f:Str):Prop:=PySem.W.findIn K (.ref C) f=some none
def NoAttr.taker{K:Fg}(n:NoAttr K C f):PySem.W.takerIn K C f=some none:=by
 unfold PySem.W.takerIn;rw[n]
 rfl
structure Meth (K:Fg) (C:Addr) (m:Str) (f:Addr):Prop where
 at_:PySem.W.findIn K (.ref C) m=some (some (.ref f))
 fn:PySem.W.isFn K (.ref f)=true
 kp:PySem.W.keepIn K (.ref f)=true
section
variable{X:Cx}{pins:List (Addr×Obj)}{σ:St}{H:Hp}{s:Shared}{a C dx:Addr}{fs:List (Str×V)}{f:Str}{v:V}{A:Around}{E:Value->Shared->Prop}
def a3y(I:Inv X pins σ H s)(e:H a=some (.ins C dx fs))(c:Cls X.K C)(n:NoAttr X.K C f)(l:fs.lookup f=some v)
  (h:∀u s',Inv X pins σ H s'->RelV v u->Q u s'):wpAny (model X.prog X.w) A (getAttr (.ref a) f b) Q E s:=by
 obtain⟨i,O,r,_,_,_⟩:=a3X I.hok e;obtain⟨u,g,d⟩:=RelO.some_of (l▸r f);exact b21 I.kIn O (c.get f) c.hd n g (a8i d) (h u _ (I.tok _) d)
def a7l(I:Inv X pins σ H s)(e:H a=some (.ins C dx fs))(c:Cls X.K C)(k:Meth X.K C m g)(l:fs.lookup m=none)
  (h:Q (.ref g,[.ref a]) s):wpAny (model X.prog X.w) A (iP (.ref a) m pl) Q E s:=by
 obtain⟨b,O,r,_,_,_⟩:=a3X I.hok e;have d:=RelO.none_of (l▸r m);exact b0x I.kIn O (c.get m) k.at_ k.fn d h
def a3z(I:Inv X pins σ H s)(e:H a=some (.ins C dx fs))(c:Cls X.K C)(n:NoAttr X.K C f)(hl:fs.length<1000)(ry:RelV y u)
  (h:∀s',Inv X pins σ (upd H a (.ins C dx (putF f y fs))) s'->Q () s'):wpAny (model X.prog X.w) A (setAttr (.ref a) f u) Q E s:=by
 obtain⟨i,O,r,j,_,k⟩:=a3X I.hok e;have v:(fs.map (·.1)).length<=sizeLine:=by rw[aq,f8];lia
 refine b22 I.kIn O c.sa c.po n.taker c.hd j v λm d l=>h _ ?_;have t:∃o,m.get? dx=some o:=by obtain⟨o,_,_,e',_⟩:=d.ns;exact⟨o,e'⟩
 refine I.write (e▸True.intro) (.inr k) (λb q p z=>(l.2 b p).trans z) t ⟨by rw[a0c O.ne];exact k,?_,O.ne,d.obj,_,d.ns,λg=>?_,λg B=>?_⟩
 ·have:=a5H f y fs;lia
 ·show RelO _ _
  rw[a5G]
  by_cases q:g=f
  ·rw[if_pos q,if_pos q];exact ry
  ·simp_all
 ·by_cases q:g=f
  ·rw[q];exact (a4P f y fs).1
  ·refine (a4P f y fs).2 g (j g λz=>B ?_)
   show (if g=f then some u else i g)=none
   rw[if_neg q];exact z
def Inv.made(I:Inv X pins σ H s):Inv X pins σ (upd (upd H s.heap.objs.size (.own (s.heap.objs.size+1))) (s.heap.objs.size+1) (.ins C s.heap.objs.size []))
  { s with heap:=(s.heap.push PySem.W.emptyDict).push (PySem.W.instObj C s.heap.objs.size) }:=by
 have c:(s.heap.push PySem.W.emptyDict).get? s.heap.objs.size=some PySem.W.emptyDict:=Heap.get?_push_size s.heap rfl;have i:((s.heap.push PySem.W.emptyDict).push (PySem.W.instObj C s.heap.objs.size)).get? (s.heap.objs.size+1)=some (PySem.W.instObj C s.heap.objs.size):=by
  have:=Heap.get?_push_size (s.heap.push PySem.W.emptyDict) (o:=PySem.W.instObj C s.heap.objs.size) rfl
  rwa [Heap.size_push]at this
 have g:(s.heap.push PySem.W.emptyDict).Ns s.heap.objs.size _:=⟨PySem.W.emptyDict,#[],_,c,rfl,(λe h=>absurd h (by simp)),λ_=>rfl⟩;refine (I.laid (o:=.own (s.heap.objs.size+1)) (t':=s.toks) (λb u q=>Heap.get?_push_of_some _ q) (av _) ⟨_,c⟩).laid (t':=s.toks) (λb u q=>Heap.get?_push_of_some _ q) (cu (Heap.size_push _ _)) ?_;have d:s.heap.objs.size≠s.heap.objs.size+1:=aE (di _);refine⟨by rw[a0c d,a0d],aR _,d,i,λ_=>none,(Heap.Ns1.of_empty g).at λo q=>Heap.get?_push_of_some _ q,λ_=>True.intro,λy f=>absurd rfl f⟩
def b23(hb:iu e f env (eval e env)=eval e env)
  (h:wpAny (model prog w) A (eval e env) (λo sj=>wpAny (model prog w) A (getAttr o f true) Q E sj) E s):wpAny (model prog w) A (eval (.Attribute e f pos) env) Q E s:=
 Attribute_any_ h (by rw[arm_eval_Attribute,hb])
end
def tFld(K:Fg)(ta:TE)(f:Str):TE:=fun σ H Q=>ta σ H λx H1=>∃a C dx fs v,x=.ref a/\H1 a=some (.ins C dx fs)/\Cls K C/\NoAttr K C f/\fs.lookup f=some v/\Q v H1
def sFld(K:Fg)(ta tv:TE)(f:Str):TS:=λD σ H=>tv σ H λy H1=>ta σ H1 λx H2=>∃a C dx fs,x=.ref a/\H2 a=some (.ins C dx fs)/\Cls K C/\NoAttr K C f/\fs.length<1000 /\
 D.nx σ (upd H2 a (.ins C dx (putF f y fs)))
def InOp(X:Cx)(op:Operator)(rd:V->V->Hp->VK->Prop):Prop:=
 ∀(pins:List (Addr×Obj))(s:Shared)(σ:St)(H:Hp)(x y:V)(u v:Value)(Q:VK),Inv X pins σ H s->RelV x u->RelV y v->rd x y H Q->wpAny (model X.prog X.w) X.A (g9 op u v) (EP X pins σ Q) X.xe s
def b24(K:Fg)(ta tv:TE)(rd:V->V->Hp->VK->Prop)(f:Str):TS:=λD σ H=>ta σ H λx H1=>∃a C dx fs v,x=.ref a/\H1 a=some (.ins C dx fs)/\Cls K C/\NoAttr K C f/\fs.lookup f=some v /\
 tv σ H1 λy H2=>rd v y H2 λz H3=>∃dx' fs',H3 a=some (.ins C dx' fs')/\fs'.length<1000/\D.nx σ (upd H3 a (.ins C dx' (putF f z fs')))
section
variable{X:Cx}{o e value:Expr}{f:Str}{pos pos' tpos:Pos}{ta tv:TE}
def b5q(he:PE X e ta)(hb:iu e f X.env (eval e X.env)=eval e X.env):PE X (.Attribute e f pos) (tFld X.K ta f):=by
 intro b s σ H Q I h;refine b23 hb (thn (he b s σ H _ I h) λu p ⟨x,d,i,j,a,C,r,w,v,g,m,c,n,l,q⟩=>?_);subst g;obtain rfl:u=Value.ref a:=j;exact a3y i m c n l λy t o k=>⟨v,d,o,k,q⟩
def b5r(ha:PE X o ta)(hv:PE X value tv)(hs:gZ value (some (.Attribute o f pos')) pos.line X.env=pure false):PS X (.Assign [.Attribute o f pos'] value pos) (sFld X.K ta tv f):=by
 intro b s σ H D I h;refine plainObj_wpAny_Assign_Attribute (thn (hv b s σ H _ I h) λu g ⟨y,d,k,v,q⟩=>thn (ha b g σ d _ k q) λj A ⟨x,B,r,p,a,C,z,E,i,t,c,n,l,m⟩=>?_) hs;subst i;obtain rfl:j=Value.ref a:=p;exact a3z r t c n l v λw e=>⟨σ,_,e,m⟩
def a8j(ha:PE X o ta)(hv:PE X value tv)(hop:InOp X op rd):PS X (.AugAssign (.Attribute o f tpos) op value pos) (b24 X.K ta tv rd f):=by
 intro b s σ H D I h;refine wpAny_AugAssign_AttributeAny (thn (ha b s σ H _ I h) λj T ⟨x,e,k,M,a,C,dx,fs,v,B,p,c,n,l,q⟩=>?_);subst B;obtain rfl:j=Value.ref a:=M;exact a3y k p c n l λu J r m=>thn (hv b J σ e _ r q) λi E ⟨y,t,g,w,L⟩=>thn (hop b E σ t v y u i _ g m w L) λU Y ⟨z,H3,N,A,R,S,d,Q,F⟩=>(a3z N d c n Q A λW G=>⟨σ,_,G,F⟩)
end
section
variable{X:Cx}{pins:List (Addr×Obj)}{σ:St}{H:Hp}{s:Shared}{A:Around}{E:Value->Shared->Prop}{Q:Value->Shared->Prop}{c:Value}{b:Bool}
inductive TyOf (K:Fg) (H:Hp):V->Value->Prop where
 |non:TyOf K H .non (.type "NoneType")
 |bl (x:Bool):TyOf K H (.bl x) (.type "bool")
 |int (i:Int):TyOf K H (.int i) (.type "int")
 |str (x:Str):TyOf K H (.str x) (.type "str")
 |flt (x:UInt64):TyOf K H (.flt x) (.type "float")
 |lst {a:Addr} {xs:List V} (e:H a=some (.lst xs)):TyOf K H (.ref a) (.type "list")
 |frz {a:Addr} {o:Obj} {xs:List V} (e:H a=some (.frz o (.lst xs))):TyOf K H (.ref a) (.type "list")
 |tup {a:Addr} {xs:List V} (e:H a=some (.tup xs)):TyOf K H (.ref a) (.type "tuple")
 |dK {a:Addr} {kvs:List (Key×V)} (e:H a=some (.dK kvs)):TyOf K H (.ref a) (.type "dict")
 |dT {a:Addr} {kvs:List (List Key×V)} (e:H a=some (.dT kvs)):TyOf K H (.ref a) (.type "dict")
 |ins {a C dx:Addr} {fs:List (Str×V)} (e:H a=some (.ins C dx fs)) (cl:Cls K C) (ha:PySem.W.findIn K (.ref C) "__class__"=some (some (.builtin "object.__class__")))
   (hn:PySem.W.specialIn K (.builtin "object.__class__") "__get__"=some (some (.builtin "getset_descriptor.__get__"))) (htk:PySem.W.takesIn K (.builtin "object.__class__")=some true)
   (hm:PySem.W.mroIn K C (.type "object")=some true):TyOf K H (.ref a) (.ref C)
def a8k(I:Inv X pins σ H s)(rx:RelV x u)(ty:TyOf X.K H x t)(e:PySem.W.kitOne X.K t c=some b)(h:∀tk,Q (.bool b) { s with toks:=tk }) :
  wpAny (model X.prog X.w) A (call (.builtin "isinstance") [u,c]) Q E s:=by
 cases ty with
 |non=>cases (rx);exact PySem.W.kia_one PySem.W.kitx_none I.kIn True.intro e (λz=>nomatch z) h
 |bl y=>cases (rx);exact PySem.W.kia_one PySem.W.kitx_bool I.kIn True.intro e (λz=>nomatch z) h
 |int i=>obtain⟨t,q⟩:=(rx);cases q;exact PySem.W.kia_one PySem.W.kitx_int I.kIn True.intro e (λz=>nomatch z) h
 |str y=>obtain⟨t,q⟩:=(rx);cases q;exact PySem.W.kia_one PySem.W.kitx_str I.kIn True.intro e (λz=>nomatch z) h
 |flt y=>obtain⟨t,q⟩:=(rx);cases q;exact PySem.W.kia_one PySem.W.kitx_float I.kIn True.intro e (λz=>nomatch z) h
 | @lst a f ea=>
  cases (rx);obtain⟨_,_,n,_,d⟩:=(I.hok a _ ea);exact PySem.W.kia_one PySem.W.kitx_list I.kIn ⟨_,d,rfl⟩ e (λz=>nomatch z) h
 | @frz a ob f ea=>
  cases (rx);obtain⟨_,_,_,n,_,d⟩:=(I.hok a _ ea);exact PySem.W.kia_one PySem.W.kitx_list I.kIn ⟨_,d,rfl⟩ e (λz=>nomatch z) h
 | @tup a f ea=>
  cases (rx);obtain⟨_,_,_,p⟩:=(I.hok a _ ea);obtain⟨o,d,g,_⟩:=p;exact PySem.W.kia_one PySem.W.kitx_tuple I.kIn ⟨o,d,g⟩ e (λz=>nomatch z) h
 | @dK a kvs ea=>
  cases (rx);obtain⟨_,_,l,_,p⟩:=(I.hok a _ ea);obtain⟨o,j,k,d,g,_⟩:=p;exact PySem.W.kia_one PySem.W.kitx_dict I.kIn ⟨o,d,g.1⟩ e (λz=>nomatch z) h
 | @dT a kvs ea=>
  cases (rx);obtain⟨_,_,f,_,o,j,k,d,g,_⟩:=(I.hok a _ ea);exact PySem.W.kia_one PySem.W.kitx_dict I.kIn ⟨o,d,g.1⟩ e (λz=>nomatch z) h
 | @ins a C dx fs ea cl ha hn htk hm=>
  cases (rx);obtain⟨r,O,_⟩:=a3X I.hok ea;obtain⟨m,J,_⟩:=O.look;exact PySem.W.kia_one (PySem.W.kitx_own (cl.get _) cl.hd ha hn htk hm) I.kIn J e (λz=>nomatch z) h
end
structure Room (k:Nat) (A:Around):Prop where
 hd:A.handled=none
 dp:A.depth+3*k+5<recursionLimit
 un:A.units+16*k+200<cLine
def Room.mono(r:Room k A)(h:j<=k):Room j A:=⟨r.hd,by have:=r.dp;lia,by have:=r.un;lia⟩
def Room.deeper(r:Room (k+1) A)(env:Env):Room k (A.deeper env):=
 ⟨r.hd,by have:=r.dp;show A.depth+1+3*k+5<_;lia,by have:=r.un;show A.units+3+16*k+200<_;lia⟩
def Room.in1(r:Room (k+1) A):Room k A.in1:=
 ⟨r.hd,by have:=r.dp;show A.depth+3*k+5<_;lia,by have:=r.un;show A.units+1+16*k+200<_;lia⟩
def a7m{A:Around}:(A.under (.builtin "type.__call__" ⟨.ref C::us,kw⟩)).depth=A.depth+1:=rfl
def a7n{A:Around}:(A.under (.builtin "type.__call__" ⟨.ref C::us,kw⟩)).units=A.units+1:=rfl
def Room.make(r:Room (k+1) A)(C:Addr)(us:List Value)(kw:List (Str×Value)):Room k (A.under (.builtin "type.__call__" ⟨.ref C::us,kw⟩)):=
 ⟨r.hd,by have:=r.dp;rw[a7m];lia,by have:=r.un;rw[a7n];lia⟩
def Room.depth(r:Room k A):A.depth<recursionLimit:=by have:=r.dp;omega
def Room.units(r:Room k A):A.units+64<cLine:=by have:=r.un;omega
def tNil:TA:=λ_ H Q=>Q [] H
def b73(ta:TE)(tr:TA):TA:=fun σ H Q=>ta σ H λx H1=>tr σ H1 λxs H2=>Q (x::xs) H2
section
variable{X:Cx}{e:Expr}{es:List Expr}{te:TE}{t:TA}{pos:Pos}
def a6p:PA X [] tNil:=λ_ _ _ _ H Q I h=>Calls.spliced_nil ⟨[],H,I,.nil,h⟩
def a3Y(ha:PE X e te)(hr:PA X es t)(hs:fW (e::es) X.env=(false,eval e X.env)::fW es X.env):PA X (e::es) (b73 te t):=by
 intro b a s σ H Q I h;rw[hs];exact Calls.spliced_cons (thn (ha a s σ H _ I h) λu j ⟨x,d,k,c,g⟩=>(thn (hr b a j σ d _ k g) λp o ⟨i,f,l,m,n⟩=>⟨x::i,f,l,.cons c m,n⟩))
def tTup(t:TA):TE:=fun σ H Q=>t σ H λxs H1=>xs.length<=fR/\∀p,H1 p=none->Q (.ref p) (upd H1 p (.tup xs))
def tLst(t:TA):TE:=fun σ H Q=>t σ H λxs H1=>xs.length<=fR/\∀p,H1 p=none->Q (.ref p) (upd H1 p (.lst xs))
def b5s(h:PA X es t):PE X (.Tuple es x1 pos) (tTup t):=by
 intro c s σ H Q I i;refine wpAny_Tuple_spliced (thn (h pos c s σ H _ I i) λk a ⟨g,d,f,r,z,q⟩=>⟨by rw[<- r.length];exact z,?_⟩);have j:=f.hok.fresh (av _);refine⟨.ref a.heap.objs.size,upd d a.heap.objs.size _,f.laid (λb u e=>Heap.get?_push_of_some _ e) (av _) ?_,rfl,q _ j⟩;exact⟨z,k,r,⟨_,Heap.get?_push_size _ rfl,rfl,_,rfl⟩⟩
def b5t(h:PA X es t):PE X (.List es pos) (tLst t):=by
 intro c s σ H Q I j;refine wpAny_List_spliced (thn (h pos c s σ H _ I j) λi a ⟨k,d,f,r,z,q⟩=>⟨by rw[<- r.length];exact z,?_⟩);have g:=f.hok.fresh (av _);refine⟨.ref a.heap.objs.size,upd d a.heap.objs.size _,f.laid (λb u e=>Heap.get?_push_of_some _ e) (av _) ?_,rfl,q _ g⟩;exact⟨z,i,0,r,Heap.get?_push_size _ rfl⟩
end
abbrev Sp:=List V->Hp->VK->XK->Prop
abbrev CXT:=List Env->Hp->Shared->XK->Value->Shared->Prop
structure Env0 (P:fV) (w:World) (K:Fg) (mg:Str->Option Value) (base:Heap) (A:Around) (outer:List Env) (s:Shared) (H:Hp):Prop where
 frames:A.frames=some outer
 mod:Mod K mg base
 bs:∀b o,base.get? b=some o->s.heap.get? b=some o/\H b=none
 bsz:base.objs.size<=s.heap.objs.size
 funs:s.heap.FunFrames base outer
 frf:∀b∈frs outer,H b=none
 hok:HOk P w H s.heap
 bare:gR s.gens
def CE(outer:List Env)(P:fV)(w:World)(H:Hp)(s:Shared)(Q:VK)(u:Value)(s':Shared):Prop:=
 ∃v H',s'.os=s.os/\gR s'.gens/\Un (frs outer) [] H H' s.heap s'.heap/\HOk P w H' s'.heap/\RelV v u/\Q v H'
def CR(CX:CXT)(outer:List Env)(P:fV)(w:World)(H:Hp)(s:Shared)(Q:VK)(E:XK)(r:Result)(s':Shared):Prop:=
 match r with
 |.ok (.ret u)=>CE outer P w H s Q u s'
 |.ok _=>False
 |.error e=>CX outer H s E e s'
structure FnOk (P:fV) (w:World) (K:Fg) (mg:Str->Option Value) (base:Heap) (CX:CXT) (k:Nat) (f:Addr) (fd:gz) (ps:List Str) (sp:Sp):Prop where
 len:∀vs H Q E,sp vs H Q E->vs.length=ps.length
 run:∀(A:Around)(outer:List Env)(s:Shared)(H:Hp)(args:Args)(us:List Value)(vs:List V)(Q:VK)(E:XK),Room k A->Env0 P w K mg base A outer s H->iw s fd args (ps.zip us)->Vals vs us->sp vs H Q E ->
  gF (model P w) A (.call (.ref f) args) (CR CX outer P w H s Q E) s
def FnOk.mono{K:Fg}(F:FnOk P w K mg base CX j f fd ps sp)(h:j<=k) :
  FnOk P w K mg base CX k f fd ps sp:=⟨F.len,λA a s H b c e Q E d=>F.run A a s H b c e Q E (d.mono h)⟩
def FnOk.imp{K:Fg}(F:FnOk P w K mg base CX k f fd ps sp)
  (h:∀vs H Q E,sp' vs H Q E->sp vs H Q E):FnOk P w K mg base CX k f fd ps sp':=
 ⟨λb H Q E q=>F.len b H Q E (h _ _ _ _ q),λA a s H c d b Q E j i g l e=>F.run A a s H c d b Q E j i g l (h _ _ _ _ e)⟩
def Env0.make{K:Fg}(e:Env0 P w K mg base A outer s H)(C:Addr)(us:List Value)(kw:List (Str×Value)) :
  Env0 P w K mg base (A.under (.builtin "type.__call__" ⟨.ref C::us,kw⟩)) outer s H:=⟨by first |exact e.frames | (simpa using e.frames),e.mod,e.bs,e.bsz,e.funs,e.frf,e.hok,e.bare⟩
def Env0.in1{K:Fg}(e:Env0 P w K mg base A outer s H) :
  Env0 P w K mg base A.in1 outer s H:=⟨e.frames,e.mod,e.bs,e.bsz,e.funs,e.frf,e.hok,e.bare⟩
section
variable{X:Cx}{pins:List (Addr×Obj)}{σ:St}{H:Hp}{s s':Shared}
def Inv.env0(I:Inv X pins σ H s):Env0 X.prog X.w X.K X.mg X.base X.A X.stack s H:=
 ⟨I.ok.frames,I.ok.mod,I.bs,aD I.ok.bsz I.sz,I.stack,I.stkFree,I.hok,I.bare⟩
def Inv.after(I:Inv X pins σ H s)(h:CE X.stack X.prog X.w H s Q u s'):EP X pins σ Q u s':=by
 obtain⟨v,H',j,a,f,c,r,q⟩:=h;obtain⟨i,g,d,t,e⟩:=s';obtain rfl:e=s.os:=j;exact⟨v,H',I.call f c a (λb z=>absurd z (by simp)),r,q⟩
end
def b74(sp:Sp)(dvs:List V)(E:XK)(t:TA):TE:=fun σ H Q=>t σ H λvs H1=>sp (vs++dvs) H1 Q E
def b5u(C:Addr)(m:Str)(sp:Sp)(dvs:List V)(E:XK)(ta:TE)(t:TA):TE:=fun σ H Q=>ta σ H λx H1=>∃a dx fs,x=.ref a/\H1 a=some (.ins C dx fs)/\fs.lookup m=none /\
 t σ H1 λvs H2=>sp (x::(vs++dvs)) H2 Q E
def b75(C:Addr)(sp:Sp)(dvs:List V)(E:XK)(t:TA):TE:=fun σ H Q=>t σ H λvs H1=>∀x dx,H1 x=none->H1 dx=none->dx≠x ->
 sp (.ref x::(vs++dvs)) (upd (upd H1 dx (.own x)) x (.ins C dx [])) (λv H2=>v=.non/\Q (.ref x) H2) E
def Binds(K:Fg)(fd:gz)(ps:List Str)(ds:List Value):Prop:=
 ∀(s:Shared)(us:List Value),K.In s.heap->(us++ds).length=ps.length->iw s fd ⟨us,[]⟩ (ps.zip (us++ds))
def Binds.all{K:Fg}(h:∀us:List Value,us.length=ps.length->iy fd ⟨us,[]⟩=pure (ps.zip us)):Binds K fd ps []:=λs b _ a=>by
 rw[a9]at a ⊢;exact .of_eq (h b a)
def a3A(CX:CXT)(X:Cx)(E:XK):Prop:=∀(pins:List (Addr×Obj))(σ:St)(H:Hp)(s:Shared)(e:Value)(s':Shared),Inv X pins σ H s->CX X.stack H s E e s'->X.xe e s'
section
variable{X:Cx}{CX:CXT}{k:Nat}{f C:Addr}{fd:gz}{ps:List Str}{sp:Sp}{dvs:List V}{ds:List Value}{E:XK}{x m:Str}{p pos apos:Pos}{e o:Expr}{es:List Expr}{ta:TE}{t:TA}
def b2d(F:FnOk X.prog X.w X.K X.mg X.base CX k f fd ps sp)(hr:Room k X.A)(hb:Binds X.K fd ps ds)(hd:Vals dvs ds)(hx:a3A CX X E)
  (I:Inv X pins σ H s) (r:Vals vs us) (h:sp (vs++dvs) H Q E):wpAny (model X.prog X.w) X.A (call (.ref f) us) (EP X pins σ Q) X.xe s:=by
 have b:=r.append hd;have d:(us++ds).length=ps.length:=b.length▸F.len _ _ _ _ h;refine iQ (g5 (F.run X.A X.stack s H ⟨us,[]⟩ (us++ds) _ Q E hr I.env0 (hb s us I.kIn d) b h) λr c a=>?_);cases r with
 |error e=>exact hx pins σ H s e c I a
 |ok fl=>
  cases fl with
  |ret u=>exact I.after a
  |next=>exact aB a
  |brk=>exact aB a
  |cont=>exact aB a
def b25(F:FnOk X.prog X.w X.K X.mg X.base CX k f fd ps sp)(hr:Room k X.A)(hg:Gl X x)(hm:X.mg x=some (.ref f))(hk:PySem.W.keepIn X.K (.ref f)=true)(hb:Binds X.K fd ps ds)(hd:Vals dvs ds)(hx:a3A CX X E)
  (ha:PA X (e::es) t) (hdb:(x==("__debug__":Str))=false) (he:fW (e::es) X.env=(false,eval e X.env)::fW es X.env) (hpl:(backTo pos (fW es X.env)).any (·.1)=false) :
  PE X (.Call (.Name x p) (e::es) [] pos) (b74 sp dvs E t):=by
 intro a s σ H Q I h;refine iR (a5E I hg hm ?_ hdb);refine PySem.W.callWith_K I.ok.mod.kin hk (thn (ha pos a s σ H _ I h) λi d ⟨c,g,b,r,q⟩=>⟨b.kIn,?_⟩) he hpl;exact b2d F hr hb hd hx b r q
def b26(he:PE X o ta)(c:Cls X.K C)(hm:Meth X.K C m f)(F:FnOk X.prog X.w X.K X.mg X.base CX k f fd ps sp)(hr:Room k X.A)(hb:Binds X.K fd ps ds)(hd:Vals dvs ds)(hx:a3A CX X E)(ha:PA X (e::es) t)
  (hst:fW (e::es) X.env=(false,eval e X.env)::fW es X.env) (hpl:(backTo pos (fW es X.env)).any (·.1)=false)
  (ht:eval (.Call (.Attribute o m apos) (e::es) [] pos) X.env=(do
   let ov <- eval o X.env
   g8 apos.atName
   let (f,first) <- gr [ov] (iP ov m pl)
   jF pos f first (backTo pos (fW (e::es) X.env)) (iz pos (iA [] X.env)))) :
  PE X (.Call (.Attribute o m apos) (e::es) [] pos) (b5u C m sp dvs E ta t):=by
 intro b s σ H Q I h;refine PySem.W.methodCall_KW (thn (he b s σ H _ I h) λu z ⟨x,p,i,n,a,dx,fs,v,y,l,q⟩=>?_) ht;subst v;obtain rfl:u=Value.ref a:=n;refine a7l i y c hm l (PySem.W.callWith_K I.ok.mod.kin hm.kp (thn (ha pos b z σ p _ i q) λus s2 ⟨vs,H2,g,r,B⟩=>⟨g.kIn,?_⟩) hst hpl);exact b2d (vs:=.ref a::vs) F hr hb hd hx g (.cons rfl r) B
structure Mk (K:Fg) (C f:Addr):Prop where
 makes:PySem.W.makesIn K C=true
 init:PySem.W.findIn K (.ref C) "__init__"=some (some (.ref f))
 fn:PySem.W.isFn K (.ref f)=true
 kp:PySem.W.keepIn K (.ref C)=true
def b0z(M:Mk X.K C f)(F:FnOk X.prog X.w X.K X.mg X.base CX k f fd ps sp)(hr:Room (k+1) X.A)(hb:Binds X.K fd ps ds)(hd:Vals dvs ds)
  (hx:a3A CX X E) (I:Inv X pins σ H s) (r:Vals vs us)
  (h:∀x dx,H x=none->H dx=none->dx≠x->sp (.ref x::(vs++dvs)) (upd (upd H dx (.own x)) x (.ins C dx [])) (λv H2=>v=.non/\Q (.ref x) H2) E) :
  wpAny (model X.prog X.w) X.A (call (.ref C) us) (EP X pins σ Q) X.xe s:=by
 have d:=h _ s.heap.objs.size (I.hok.fresh (cg _)) (I.hok.fresh (av _)) (aE (di _));have b:=Inv.made (C:=C) I;have c:Vals (V.ref (s.heap.objs.size+1)::_) _:=.cons rfl (r.append hd);have g:(Value.ref (s.heap.objs.size+1)::us++ds).length=ps.length:=by
  have e:=c.length;rw[F.len _ _ _ _ d]at e;exact e.symm
 refine iQ (b0y I.kIn M.makes M.init (beq_iff_eq.mp M.fn) (g5 (F.run _ X.stack _ _ ⟨Value.ref (s.heap.objs.size+1)::us,[]⟩ _ _ _ E (hr.make C us [])
  (b.env0.make C us []) (hb _ _ b.kIn g) c d) λr m a=>?_))
 cases r with
 |error e=>exact hx pins σ _ _ e m b a
 |ok fl=>
  cases fl with
  |ret u=>
   obtain⟨v,H',I3,j,l,i⟩:=b.after a;subst l;exact⟨j,⟨V.ref (s.heap.objs.size+1),H',I3,rfl,i⟩⟩
  |next=>exact aB a
  |brk=>exact aB a
  |cont=>exact aB a
def b0A(M:Mk X.K C f)(F:FnOk X.prog X.w X.K X.mg X.base CX k f fd ps sp)(hr:Room (k+1) X.A)(hg:Gl X x)(hm:X.mg x=some (.ref C))(hb:Binds X.K fd ps ds)(hd:Vals dvs ds)(hx:a3A CX X E)
  (hdb:(x==("__debug__":Str))=false):PE X (.Call (.Name x p) [] [] pos) (b75 C sp dvs E tNil):=by
 intro a s σ H Q I h;refine iR (a5E I hg hm ?_ hdb);exact PySem.W.callWith_K0 I.kIn M.kp (b0z M F hr hb hd hx I .nil h)
end
section
variable{X:Cx}{CX:CXT}{k:Nat}{f C:Addr}{fd:gz}{ps ks:List Str}{sp:Sp}{E:XK}{x m:Str}{p pos apos kpos:Pos}{e o:Expr}{es:List Expr}{kws:List ig}{te ta:TE}{t tk:TA}{nm:Option Str}
variable{g:List Value->List Value->List Value}{gV:List V->List V->List V}
end
structure FnScope (N P:List Str) (sc:Scope):Prop where
 kind:sc.kind=.function
 co:sc.isCoroutine=false
 gen:sc.isGenerator=false
 nd:N.Nodup
 pre:N.take P.length=P
 par:∀x∈P,sc.names.lookup x=some .local\/sc.names.lookup x=some .cell
 nofree:∀y∈sc.names,y.2≠.free
def a8l{kindOf:Str->Option f6}:∀{binds:List (Str×Value)}{m:Str->Option Value},(∀v,(x,v)∉binds)->bindL kindOf binds m x=m x:=by intro z0;induction z0 with
 |nil=>intro _ _;exact rfl
 |cons q0 r I0=>
  obtain⟨n,v⟩:=q0;intro m h;unfold bindL;rw[I0 λw a=>h w (bG _ a)]
  split
  ·have:x≠n:=by rintro rfl;exact h v bu
   simp[this]
  ·rfl
def a8m{kindOf:Str->Option f6}:∀{binds:List (Str×Value)}{m:Str->Option Value},(∀v,(x,v)∉binds)->bindC kindOf binds m x=m x:=by intro z0;induction z0 with
 |nil=>intro _ _;exact rfl
 |cons q0 r I0=>
  obtain⟨n,v⟩:=q0;intro m h;unfold bindC;rw[I0 λw a=>h w (bG _ a)]
  split
  ·rfl
  ·have:x≠n:=by rintro rfl;exact h v bu
   simp[this]
theorem a4Q{kindOf:Str->Option f6}:∀{P:List Str}{vs:List Value}{i:Nat}{m:Str->Option Value},P.Nodup->P[i]?=some x->vs[i]?=some v->kindOf x=some .local ->
  bindL kindOf (P.zip vs) m x=some v
 |[],_,_,_,_,h,_,_=>by simp at h
 |_::_,[],_,_,_,_,h,_=>by simp at h
 |p::P,w::vs,0,m,nd,h1,h2,hk=>by
  simp at h1 h2;subst h1;subst h2
  show bindL kindOf (_::P.zip vs) m p=_
  unfold bindL;rw[a8l λv a=>(bv.mp nd).1 (cw a).1,if_pos hk];simp
 |p::P,w::vs,i+1,m,nd,h1,h2,hk=>by
  unfold bindL;exact a4Q (bv.mp nd).2 (by simpa using h1) (by simp_all) hk
theorem a4R{kindOf:Str->Option f6}:∀{P:List Str}{vs:List Value}{i:Nat}{m:Str->Option Value},P.Nodup->P[i]?=some x->vs[i]?=some v->kindOf x≠some .local ->
  bindC kindOf (P.zip vs) m x=some v
 |[],_,_,_,_,h,_,_=>by simp at h
 |_::_,[],_,_,_,_,h,_=>by simp at h
 |p::P,w::vs,0,m,nd,h1,h2,hk=>by
  simp at h1 h2;subst h1;subst h2
  show bindC kindOf (_::P.zip vs) m p=_
  unfold bindC;rw[a8m λv a=>(bv.mp nd).1 (cw a).1,if_neg hk];simp
 |p::P,w::vs,i+1,m,nd,h1,h2,hk=>by
  unfold bindC;exact a4R (bv.mp nd).2 (by simpa using h1) (by simp_all) hk
noncomputable def start(N:List Str)(vs:List V):St:=vs.map some++dj (N.length-vs.length) none
noncomputable def cxOf(CX:CXT)(P:fV)(w:World)(K:Fg)(mg:Str->Option Value)(base:Heap)(N:List Str)(qual:Str)(scope:Scope)(f:Addr)(cd:Value)(A:Around)(outer:List Env)(s:Shared)(H:Hp)(E:XK):Cx where
 prog:=P
 w:=w
 K:=K
 mg:=mg
 base:=base
 A:=A.deeper (envOfC qual scope s.heap.objs.size f cd)
 N:=N
 s₀:=s
 H₀:=H
 env:=envOfC qual scope s.heap.objs.size f cd
 outer:=outer
 stack:=envOfC qual scope s.heap.objs.size f cd::outer
 ex:=[]
 calm:=true
 fn:=λ_=>true
 pn:=[]
 xe:=λe s'=>wpAny (model P w) (A.deeper (envOfC qual scope s.heap.objs.size f cd)) (leaving (envOfC qual scope s.heap.objs.size f cd) e) (λ_ s''=>CX outer H s E e s'') (λe' s''=>CX outer H s E e' s'') s'
def a2O{sc:Scope}(h:sc.names.lookup x=some .cell):∃c,(f7 n sc.names []).lookup x=some c:=by
 exact eK.mp (PySem.W.cellsFrom_some sc.names n [] (.inl h))
def a4S{K:Fg}
  (S:FnScope N ps scope) (hd:A.handled=none) (e0:Env0 P w K mg base A outer s H) (hl:vs.length=ps.length) (r:Vals vs us)
  (x:InCallC s s.heap.objs.size (bindL (envOfC qual scope s.heap.objs.size f cd).kindOf (ps.zip us) λ_=>none) (f7 (s.heap.objs.size+1) scope.names []) (bindC (envOfC qual scope s.heap.objs.size f cd).kindOf (ps.zip us) λ_=>none) s1) :
  Inv (cxOf CX P w K mg base N qual scope f cd A outer s H E) [] (start N vs) H s1:=by
 have G:ps.length<=N.length:=by have:=congrArg aX S.pre;rw[aK]at this;lia
 obtain⟨m,J,rfl,C⟩:=x.done;have l:∀b:Addr,b∉(cxOf CX P w K mg base N qual scope f cd A outer s H E).ex:=λb z=>absurd (show b∈([]) from z) (by simp);refine⟨⟨e0.mod,S.kind,rfl,rfl,av _,λy z c m d=>?_,λy g=>?_,λy c _ h=>?_,λ_=>hd,Around.frames_deeper e0.frames,.inr ⟨rfl,rfl⟩,λb z=>absurd z (l b),e0.bs,e0.bsz,λb _ _=>l b,λb z=>absurd z (l b),e0.funs,e0.frf⟩,
  rfl,e0.bare,Un.kept C,⟨_,x.toInCall.ns,λi y v m d I=>?_⟩,λy c h=>⟨_,x.cell y c h⟩,e0.hok.fresh (av _),λy c h=>?_,λp j=>absurd (show p∈([]) from j) (by simp),e0.hok.kept C,?_⟩
 ·exact name_of_addr x.apart (PySem.mem_of_lookup m) (PySem.mem_of_lookup d)
 ·have g:=g;rcases g with g |g
  ·exact a2O g
  ·exact absurd rfl (S.nofree _ (PySem.mem_of_lookup g))
 ·exact bD (x.above y c (PySem.mem_of_lookup h))
 ·have o:i<vs.length:=by
   unfold start at d
   by_cases o:i<vs.length
   ·exact o
   ·rw[cx (by simp_all)]at d;rw[List.getElem?_replicate]at d
    split at d<;>cases d
  have F:vs[i]?=some v:=by
   unfold start at d;rw[cy (by simpa using o),aA]at d;cases e:vs[i]? with
   |none=>rw[e]at d;cases d
   |some a=>rw[e]at d;cases d;rfl
  obtain⟨u,B,D⟩:=r.get F;have j:ps[i]?=some y:=by
   rw[<- S.pre,List.getElem?_take_of_lt (by lia)];exact m
  have t:ps.Nodup:=S.pre▸S.nd.sublist (dk _ _);refine⟨u,D,?_⟩;rcases S.par y (aL j) with k |k
  ·exact .inl ⟨k,a4Q t j B k⟩
  ·obtain⟨c,e⟩:=a2O k;refine .inr ⟨.inl k,c,e,?_⟩;have q:=x.cell y c e;rw[a4R t j B (by show scope.names.lookup y≠_;rw[k];decide)]at q;exact q
 ·exact e0.hok.fresh (bD (x.above y c (PySem.mem_of_lookup h)))
 ·unfold start
  show _=N.length
  rw[aJ,aq,List.length_replicate]
  lia
def b5v{K:Fg}{dV kV doc pm cdv ct oc:Value}
 (lk:K.lookup f=some ⟨oc,od,.func (PySem.W.fnOf name qual params body scope dV kV doc pm an cdv ct),osl⟩) (hcd:PySem.W.codeIn K cdv qual=true) (S:FnScope N ps scope)
    (len:∀vs H Q E,sp vs H Q E->vs.length=ps.length)
    (hbody:∀(A:Around)(outer:List Env)(s:Shared)(H:Hp)(vs:List V)(Q:VK)(E:XK),Room k (A.deeper (envOfC qual scope s.heap.objs.size f cdv))->sp vs H Q E ->
      ∃t,PSs (cxOf CX P w K mg base N qual scope f cdv A outer s H E) body t/\t { nx:=λ_ H'=>Q .non H',rt:=Q } (start N vs) H) :
    FnOk P w K mg base CX (k+1) f (PySem.W.fnOf name qual params body scope dV kV doc pm an cdv ct) ps sp:=by
  refine⟨len,λA a s H L F m Q E z g R r i=>?_⟩;have C:=g.mod.kin.keeps λb o e=>(g.bs b o e).1;have h:∀y∈ps.zip F,scope.names.lookup y.1=some .local\/(scope.names.lookup y.1=some .cell/\((f7 (s.heap.objs.size+1) scope.names []).lookup y.1).isSome=true):=by
    rintro⟨n,v⟩ G;rcases S.par n (cw G).1 with q |q
    · exact .inl q
    · exact .inr ⟨q,PySem.W.cellsFrom_some _ _ _ (.inl q)⟩
  refine codeAny_call_function z.depth (C _ _ lk) rfl S.co S.gen rfl (PySem.W.codeRec_of C hcd) (R _ _ _ _ (wpAny_newFunctionEnv_cells S.kind h λaa Y B x=>?_));subst Y;refine⟨(g.mod.nolimit.keeps λb o e=>(g.bs b o e).1).keeps x.toInCall.keep,codeAny_func ?_⟩;obtain⟨t,T,U⟩:=hbody A a s H m Q E (z.deeper _) i;have I:Inv (cxOf CX P w K mg base N qual scope f cdv A a s H E) [] _ H B:=a4S S z.hd g (len _ _ _ _ i) r x;refine f9 (T [] B _ H _ I U) (λX p c=>?_) λe p c=>c;have j:∀{σ':St}{d:Hp}{v:V}{u:Value},Inv (cxOf CX P w K mg base N qual scope f cdv A a s H E) [] σ' d p->RelV v u->Q v d->CE a P w H s Q u p:=
    λ{σ' d v u} J l q=>⟨v,d,J.os,J.bare,J.base,J.hok,l,q⟩
  cases X with
  |ret u=>
    obtain⟨v,σ',d,J,l,q⟩:=c;exact j J l q
  |next=>
    obtain⟨σ',d,J,q⟩:=c;exact j (v:=V.non) J rfl q
  |brk=>
    obtain⟨_,_,_,q⟩:=c;exact aB q
  |cont=>
    obtain⟨_,_,_,q⟩:=c;exact aB q
section
variable{X:Cx}{x:Str}{p pos:Pos}{e:Expr}{es:List Expr}{t:TA}{id T:String}{r:List V->Hp->VK->Prop}
def tCB(r:List V->Hp->VK->Prop)(t:TA):TE:=fun σ H Q=>t σ H λvs H1=>r vs H1 Q
def a3Z(hc:CallR X (.builtin id) r)(hg:Gl X x)(hm:X.mg x=none)(hv:gx x=some (.builtin id))(ha:PA X (e::es) t)(hn:x≠"__name__")(hdb:(x==("__debug__":Str))=false)
  (he:fW (e::es) X.env=(false,eval e X.env)::fW es X.env) (hpl:(backTo pos (fW es X.env)).any (·.1)=false):PE X (.Call (.Name x p) (e::es) [] pos) (tCB r t):=by
 intro a s σ H Q I h;refine iR (a2X I hg hm hv ?_ hn hdb);exact PyProof.Rows.callWith_builtin1 (thn (ha pos a s σ H _ I h) λg c ⟨b,f,i,d,j⟩=>hc a c σ f b g Q i d j) he hpl
def a1K(hc:CallR X (.type T) r)(hg:Gl X x)(hm:X.mg x=none)(hv:gx x=some (.type T))(ha:PA X (e::es) t)(hn:x≠"__name__")(hdb:(x==("__debug__":Str))=false)
  (he:fW (e::es) X.env=(false,eval e X.env)::fW es X.env) (hpl:(backTo pos (fW es X.env)).any (·.1)=false):PE X (.Call (.Name x p) (e::es) [] pos) (tCB r t):=by
 intro a s σ H Q I h;refine iR (a2X I hg hm hv ?_ hn hdb);exact PyProof.Rows.callWith_type1 (thn (ha pos a s σ H _ I h) λj f ⟨b,g,d,i,c⟩=>hc a f σ g b j Q d i c) he hpl
end
end L2
namespace HT
open PySem PyProof.Rows
section
open PySem.SeqAt
open PySem.AutoSeq1 (wpAny_loadPart')
open PySem.MeetsSeq PySem.MeetsSeq2 PySem.MeetsSeq3
end
section
variable{prog:fV}{w:World}{A:Around}{E:Value->Shared->Prop}{s:Shared}
def cat_tup(ht:IsTup s.heap t vs.toArray)(hb:IsTup s.heap b ws.toArray)(hv:vs≠[])
  (h1:ws=[]->Q (.ref t) s) (h2:ws≠[]->Q (.ref s.heap.objs.size) { s with heap:=s.heap.push { cls:=.type "tuple",data:=.seq (vs++ws).toArray } })
  (hsz:vs.length+ws.length<=fR):wpAny (model prog w) A (gb .Add (.ref t) (.ref b)) Q E s:=by
 obtain⟨⟨r,j,p,k⟩,c,l,n,m⟩:=id ht;obtain⟨⟨q,f,o,h⟩,a,g,i,d⟩:=id hb;subst l m g d;have e:vs.toArray++ws.toArray=(vs++ws).toArray:=by simp
 by_cases hw:ws=[]
 ·exact concat_meets ⟨_,c,rfl⟩ ⟨_,a,rfl⟩ noFill_tuple_add seq_tuple_add PySem.F.slot_tuple_add PySem.F.entry_tuple_add (PySem.F.args_tuple_add_2 _ _)
   (tuple_addW1 t b vs.toArray ws.toArray n i j f k h (by simp_all) (by grind)) ⟨c,a,h1 hw⟩
 ·refine concat_meets ⟨_,c,rfl⟩ ⟨_,a,rfl⟩ noFill_tuple_add seq_tuple_add PySem.F.slot_tuple_add PySem.F.entry_tuple_add (PySem.F.args_tuple_add_2 _ _)
   (tuple_addW2 t b vs.toArray ws.toArray n i j f k h (by simp_all) (by simp_all) (by omega)) ⟨c,a,?_⟩
  rw[e];exact h2 hw
noncomputable def sIx(n d:Nat):Option Int->Nat
 |none=>d
 |some v=>if v<0 then (v+(n:Int)).toNat else min v.toNat n
def sIx_none(n d:Nat):sIx n d none=d:=rfl
def sIx_nat(n d k:Nat):sIx n d (some (k:Int))=min k n:=rfl
def b9D(n d:Nat)(hd:d<=n)(o:Option Int):sIx n d o<=n:=by
 cases o with
 |none=>exact hd
 |some v=>
  show (if v<0 then (v+n).toNat else min v.toNat n)<=n
  by_cases hv:v<0
  ·grind
  ·rw[if_neg hv];exact eL _ _
def a8n(v:Int)(n d:Nat):(if v<0 then max (v+(n:Int)) 0 else min v (n:Int))=((sIx n d (some v):Nat):Int):=by grind [sIx]
def a7o(lo hi:Option Int)(n:Nat):fX.Slice.sliceAdjust lo hi 1 (n:Int)=(((sIx n 0 lo:Nat):Int),((sIx n n hi:Nat):Int)):=by
 unfold fX.Slice.sliceAdjust;refine Prod.ext ?_ ?_
 ·cases lo with
  |none=>rfl
  |some v=>exact a8n v n 0
 ·cases hi with
  |none=>rfl
  |some v=>exact a8n v n n
def a7p(i j:Nat):fX.Slice.slicePlaces (i:Int) (j:Int) 1=j-i:=by
 unfold fX.Slice.slicePlaces;simp
 split<;>lia
def a3B(p:IsPart v o)(h:Q o s):wpAny (model prog w) A (fX.Slice.slicePartIndex v) Q E s:=by
 cases p with
 |none=>exact slicePart_none h
 |int i t=>exact slicePart_int h
def a2B{lo hi:Option Int}{n:Nat}(hs:s.heap.IsSliceOf sl vl vu .none)(pl:IsPart vl lo)(pu:IsPart vu hi)
  (h:Q (((sIx n 0 lo:Nat):Int),1,sIx n n hi-sIx n 0 lo) s):wpAny (model prog w) A (fX.Slice.sliceApplied (.ref sl) (pure (n:Int))) Q E s:=by
 obtain⟨d,a,c,b⟩:=id hs;refine fO (fO (gH a b rfl (fO (gH a b rfl (fO (gH a b rfl (fP (fO (slicePart_none (fO (a3B pl (fO (a3B pu (fO (fP ?_)))))))))))))))
 show wpAny _ _ (match fX.Slice.sliceAdjust lo hi 1 n with | (lo,hi)=>pure (lo,_,fX.Slice.slicePlaces lo hi 1)) _ _ s
 rw[a7o lo hi n]
 show wpAny _ _ (pure _) _ _ s
 rw[a7p];exact fP h
def b0B(xs:Array Value)(i k:Nat):((aO k).filterMap λ(m:Nat)=>xs[((i:Int)+(m:Int)*1).toNat]?).toArray=((xs.toList.drop i).take k).toArray:=by
 have e:(λ(m:Nat)=>xs[(i+(m:Int)*1).toNat]?)=λm=>xs[i+m]?:=by
  funext m
  have:(i+(m:Int)*1).toNat=i+m:=by lia
  rw[this]
 rw[e]
 have:=pick_run xs i k
 rw[dJ]at this;have a:(_∘λx=>i+x)=λm=>xs[i+m]?:=rfl;rw[a]at this;rw[this]
def getItem_tuple_cut{lo hi:Option Int}(ht:IsTup s.heap t items)(hs:s.heap.IsSliceOf sl vl vu .none)(pl:IsPart vl lo)(pu:IsPart vu hi)
  (hw:¬ (sIx items.size 0 lo=0/\sIx items.size items.size hi=items.size))
  (h:Q (.ref s.heap.objs.size) { s with heap:=s.heap.push { cls:=.type "tuple",data:=.seq ((items.toList.drop (sIx items.size 0 lo)).take (sIx items.size items.size hi-sIx items.size 0 lo)).toArray } })
  (hsz:items.size<=fR):wpAny (model prog w) A (iU (.ref t) (.ref sl)) Q E s:=by
 have a:sizeOk (.seq ((items.toList.drop (sIx items.size 0 lo)).take (sIx items.size items.size hi-sIx items.size 0 lo)).toArray):=by
  show ((items.toList.drop (sIx items.size 0 lo)).take (sIx items.size items.size hi-sIx items.size 0 lo)).toArray.size<=fR
  rw[aU,aK,bj,aQ];omega
 obtain⟨f,d,e,g⟩:=id hs;have b:s.TypeIs (.ref sl) "slice":=⟨f,d,e⟩;unfold iU
 try with_reducible refine gh ?_
 refine fO (wpAny_sequenceKey ht.typeIs (by decide) ?_);refine fO (wpAny_callSpecial?_slot ht.typeIs PyProof.Rows.slot_tuple_getitem
  (gE PyProof.Rows.slot_tuple_getitem ht.typeIs entry_tuple_getitem ?_ (args_tuple_getitem _ _)))
 show wpAny _ _ (fX.Tuple.tupleItemsOf _ >>= _) _ _ s
 refine fO (tupleItemsOf_ ht (fO (jk b (fO (a2B hs pl pu ?_)))));have c:¬ ((((sIx items.size 0 lo):Int)==0&&(1:Int)==1&&(sIx items.size items.size hi-sIx items.size 0 lo)==items.size)=true):=by grind
 show wpAny _ _ (if (((sIx items.size 0 lo):Int)==0&&(1:Int)==1&&(sIx items.size items.size hi-sIx items.size 0 lo)==items.size)=true then _ else _) _ _ s
 rw[if_neg c,b0B]
 first
  |exact fO (g7 (fP ⟨_,rfl,fP h⟩) a)
  |exact fO _
  |exact fO _
  |exact fO _
end
end HT
namespace L2
open PySem PySem.Spec PyProof.Rows
abbrev TO:=St->Hp->(Option Int->Hp->Prop)->Prop
def PO(X:Cx)(e:Option Expr)(t:TO):Prop:=
 ∀(pins:List (Addr×Obj))(s:Shared)(σ:St)(H:Hp)(Q:Option Int->Hp->Prop),Inv X pins σ H s->t σ H Q ->
  wpAny (model X.prog X.w) X.A (evalPart e X.env) (λu s'=>∃o H',Inv X pins σ H' s'/\IsPart u o/\Q o H') X.xe s
def b27:TO:=λ_ H Q=>Q none H
def b76(t:TE):TO:=fun σ H Q=>t σ H λx H1=>∃i,x=.int i/\Q (some i) H1
def a7q:∀{us:List Value},Vals (ns.map V.int) us->gj us ns:=by
 induction ns with
 |nil=>intro a r;cases r;exact .nil
 |cons n ns ih=>
  intro a r;cases r with
  |cons r1 r2=>
   obtain⟨t,e⟩:=r1;subst e;exact .cons n t (ih r2)
section
variable{X:Cx}{e:Expr}{te:TE}{lo hi:Option Expr}{tl th:TO}{pos p2:Pos}
def b28:PO X none b27:=λa s σ H Q I h=>fP ⟨none,H,I,.none,h⟩
def b29(h:PE X e te):PO X (some e) (b76 te):=by
 intro a s σ H Q I b;refine thn (h a s σ H _ I b) λu j ⟨x,d,f,c,g⟩=>?_;obtain⟨i,rfl,q⟩:=g;obtain⟨t,rfl⟩:=c;exact⟨some i,d,f,.int i t,q⟩
def SlR(X:Cx)(r:V->Option Int->Option Int->Hp->VK->Prop):Prop:=
 ∀(pins:List (Addr×Obj))(s:Shared)(σ:St)(H:Hp)(x:V)(v vl vu:Value)(lo hi:Option Int)(sl:Addr)(Q:VK),Inv X pins σ H s->RelV x v->s.heap.IsSliceOf sl vl vu .none->IsPart vl lo->IsPart vu hi->r x lo hi H Q ->
  ∃T id,typeLookup (.type T) "__getitem__"=pure (some (.builtin id))/\s.TypeIs v T/\wpAny (model X.prog X.w) X.A (iU v (.ref sl)) (EP X pins σ Q) X.xe s
def SlR.or(h:SlR X r)(h':SlR X r'):SlR X (λx lo hi H Q=>r x lo hi H Q\/r' x lo hi H Q):=by
 intro a s σ H x v b k d j c Q I g i e f q;rcases q with q |q
 ·exact h a s σ H x v b k d j c Q I g i e f q
 ·exact h' a s σ H x v b k d j c Q I g i e f q
def tSl(r:V->Option Int->Option Int->Hp->VK->Prop)(te:TE)(tl th:TO):TE:=fun σ H Q=>te σ H λx H1=>tl σ H1 λl H2=>th σ H2 λu H3=>r x l u H3 Q
def b0C(hr:SlR X r)(he:PE X e te)(hl:PO X lo tl)(hu:PO X hi th):PE X (.Subscript e (.Slice lo hi none p2) pos) (tSl r te tl th):=by
 intro a s σ H Q I h;refine Subscript_ (thn (he a s σ H _ I h) λv o ⟨x,D,j,t,J⟩=>(wpAny_Slice (thn (hl a o σ D _ j J) λf B ⟨l,p,m,n,G⟩=>thn (hu a B σ p _ m G) λd c ⟨u,g,y,z,k⟩=>(fP ?_))));have C:Inv X a σ g { c with heap:=c.heap.push { cls:=.type "slice",data:=.fields #[f,d,.none] } }:=y.kept λb L q=>Heap.get?_push_of_some _ q;obtain⟨T,M,F,E,i⟩:=hr a { c with heap:=c.heap.push { cls:=.type "slice",data:=.fields #[f,d,.none] } } σ g x v f d l u c.heap.objs.size Q C t (Heap.IsSliceOf.new ..) n z k;exact tail_any E F i (by with_unfolding_all rfl)
noncomputable def cutV(xs:List V)(lo hi:Option Int):List V:=(xs.drop (HT.sIx xs.length 0 lo)).take (HT.sIx xs.length xs.length hi-HT.sIx xs.length 0 lo)
def a2Y(xs:List V)(lo hi:Option Int):(cutV xs lo hi).length<=xs.length:=by
 unfold cutV;rw[aK,bj];omega
def rSlT(K:Fg):V->Option Int->Option Int->Hp->VK->Prop:=λx lo hi H Q=>∃a xs,x=.ref a/\SqT K H a xs /\
 ¬ (HT.sIx xs.length 0 lo=0/\HT.sIx xs.length xs.length hi=xs.length)/\∀p,H p=none->Q (.ref p) (upd H p (.tup (cutV xs lo hi)))
def sl_tup:SlR X (rSlT X.K):=by
 intro p s σ H x v A w e f z Q I k m l t h;obtain⟨a,d,rfl,n,u,q⟩:=h;cases k;obtain⟨j,r,g,i⟩:=I.tuple n;have c:j.toArray.size=d.length:=aU▸r.length.symm;refine⟨"tuple",_,PyProof.Rows.slot_tuple_getitem.lookup,g.typeIs,?_⟩;refine HT.getItem_tuple_cut g m l t (c▸u) ?_ (by simp_all);rw[c];refine⟨.ref s.heap.objs.size,_,I.laid (λb y q=>Heap.get?_push_of_some _ q) (av _) ?_,rfl,q _ (I.hok.fresh (av _))⟩;exact⟨aD (a2Y d e f) i,_,(r.drop _).take _,IsTup.new _ _⟩
def b77(K:Fg):R2:=λx y H Q=>∃a b xs ys,x=.ref a/\y=.ref b/\SqT K H a xs/\SqT K H b ys/\xs≠[]/\xs.length+ys.length<=fR /\
 (ys=[]->Q (.ref a) H)/\(ys≠[]->∀p,H p=none->Q (.ref p) (upd H p (.tup (xs++ys))))
def Vals.nil_iff(r:Vals xs us):us=[]↔xs=[]:=by
 cases r with
 |nil=>simp
 |cons _ _=>simp
def op_catT:OpR X (gb .Add) (b77 X.K):=by
 intro r s σ H x y v u Q I p B h;obtain⟨a,b,k,j,rfl,rfl,t,g,f,e,m,n⟩:=h;cases p;cases B;obtain⟨C,d,i,_⟩:=I.tuple t;obtain⟨l,c,A,_⟩:=I.tuple g;refine HT.cat_tup i A (λz=>f (d.nil_iff.mp z)) (λz=>⟨.ref a,H,I,rfl,m (c.nil_iff.mp z)⟩) (λz=>?_) (by rw[<- d.length,<- c.length];exact e);refine⟨.ref s.heap.objs.size,_,I.laid (λb D q=>Heap.get?_push_of_some _ q) (av _) ?_,rfl,n (λw=>z (c.nil_iff.mpr w)) _ (I.hok.fresh (av _))⟩;exact⟨by rw[aJ];exact e,_,d.append c,IsTup.new _ _⟩
end
noncomputable def ixN(n:Nat)(i:Int):Option Nat:=if 0<=i then (if i<n then some i.toNat else none) else if -(n:Int)<=i then some (i+n).toNat else none
noncomputable def atI{α:Type}(xs:List α)(i:Int):Option α:=(ixN xs.length i).bind λj=>xs[j]?
def a8o(h:ixN n i=some j):seqIndex? i n=some j/\j<n/\-(n:Int)<=i/\i<n:=by
 unfold ixN at h
 by_cases h0:0<=i
 ·rw[if_pos h0]at h
  by_cases h1:i<n
  ·rw[if_pos h1]at h;have e:=aN.inj h;exact⟨by rw[jG h0 h1,e],by omega,by omega,h1⟩
  ·simp_all
 ·rw[if_neg h0]at h
  by_cases h1:-n<=i
  ·rw[if_pos h1]at h;have e:=aN.inj h;exact⟨by rw[jH (by omega) h1,e],by omega,h1,by omega⟩
  ·simp_all
def a5I{α:Type}{xs:List α}{v:α}(h:atI xs i=some v):∃j,seqIndex? i xs.length=some j/\xs[j]?=some v/\j<xs.length/\-(xs.length:Int)<=i/\i<xs.length:=by
 unfold atI at h;cases e:ixN xs.length i with
 |none=>rw[e]at h;cases h
 |some j=>
  rw[e]at h;obtain⟨d,c,b,a⟩:=a8o e;exact⟨j,d,h,c,b,a⟩
def a05{α:Type}{xs:List α}{j:Nat}{v:α}(h:xs[j]?=some v):atI xs (j:Int)=some v:=by
 have a:=(az.mp h).1;have e:ixN xs.length j=some j:=by
  unfold ixN;rw[if_pos (by simp),if_pos (by lia)];simp
 unfold atI;rw[e];exact h
def a8p(b:Expr):Prop:=∀o i,subscripted b false o i=operate [o,i] (iU o i)
def IxR(X:Cx)(r:R2):Prop:=
 ∀(value slice:Expr)(pins:List (Addr×Obj))(s:Shared)(σ:St)(H:Hp)(x y:V)(v u:Value)(Q:VK),Inv X pins σ H s->RelV x v->RelV y u->r x y H Q ->
  subscripted slice false v u=operate [v,u] (iU v u)->wpAny (model X.prog X.w) X.A (subscriptTail value slice v u) (EP X pins σ Q) X.xe s
def MtR(X:Cx)(id:String)(r:V->List V->Hp->VK->Prop):Prop:=
 ∀(pins:List (Addr×Obj))(s:Shared)(σ:St)(H:Hp)(x:V)(xs:List V)(v:Value)(us:List Value)(Q:VK),Inv X pins σ H s->RelV x v->Vals xs us->r x xs H Q ->
  wpAny (model X.prog X.w) X.A (call (.builtin id) (v::us)) (EP X pins σ Q) X.xe s
section
variable{X:Cx}{a b:Expr}{ta tb:TE}{pos:Pos}
def IxR.or(h:IxR X r)(h':IxR X r'):IxR X (λx y H Q=>r x y H Q\/r' x y H Q):=by
 intro b a c s σ H x y v u Q I e f q d;rcases q with q |q
 ·exact h b a c s σ H x y v u Q I e f q d
 ·exact h' b a c s σ H x y v u Q I e f q d
def MtR.or{id:String}(h:MtR X id r)(h':MtR X id r'):MtR X id (λx xs H Q=>r x xs H Q\/r' x xs H Q):=by
 intro a s σ H x e v b Q I c d q;rcases q with q |q
 ·exact h a s σ H x e v b Q I c d q
 ·exact h' a s σ H x e v b Q I c d q
def b78(hr:IxR X r)(ha:PE X a ta)(hb:PE X b tb)(hs:a8p b):PE X (.Subscript a b pos) (tOp r ta tb):=λc s σ H Q I h=>Subscript_ (binT ha hb I h λv u d x y f g i e q=>hr a b c d σ f x y v u Q g i e q (hs _ _))
def rIxL(K:Fg):R2:=λx y H Q=>∃p xs i v,x=.ref p/\y=.int i/\SqL K H p xs/\atI xs i=some v/\Q v H
def rIxT(K:Fg):R2:=λx y H Q=>∃p xs i v,x=.ref p/\y=.int i/\SqT K H p xs/\atI xs i=some v/\Q v H
def rIxS:R2:=λx y H Q=>∃z i c,x=.str z/\y=.int i/\z.length<=fR/\atI z.cps.toList i=some c/\Q (.str ⟨#[c]⟩) H
def ix_list:IxR X (rIxL X.K):=by
 intro n m a s σ H x y v u Q I F o h f;obtain⟨p,M,i,z,rfl,rfl,C,J,q⟩:=h;cases F;obtain⟨t,rfl⟩:=o;obtain⟨l,r,d,R⟩:=I.list C;obtain⟨j,b,B,L,D,A⟩:=a5I J;obtain⟨w,g,k⟩:=r.get B;have G:=r.length;have N:=a4O;have c:EP X a σ Q w s:=⟨z,H,I,k,q⟩
 by_cases h0:0<=i
 ·have e:i.toNat=j:=by
   rw[jG h0 A]at b;exact aN.inj b
  exact item_listR d.isList h0 (by omega) (by rw[e];simpa using g) c f
 ·have e:(i+(l.toArray.size:Int)).toNat=j:=by
   rw[jH (by omega) D]at b;rw[aU,<- G];exact aN.inj b
  exact subscriptTail_builtinR d.isList.typeIs slot_list_getitem.lookup
   (wpAny_getItem_list_neg d.isList (by omega) (by simp_all) (by omega) (by rw[e];simpa using g) ⟨rfl,c⟩) f
def ix_tup:IxR X (rIxT X.K):=by
 intro f e a s σ H x y v u Q I A D h k;obtain⟨p,J,i,z,rfl,rfl,B,C,q⟩:=h;cases A;obtain⟨t,rfl⟩:=D;obtain⟨E,r,d,M⟩:=I.tuple B;obtain⟨j,l,g,G,F,L⟩:=a5I C;obtain⟨w,m,c⟩:=r.get g;have N:=a4O;have b:EP X a σ Q w s:=⟨z,H,I,c,q⟩;exact subscriptTail_builtinR d.typeIs slot_tuple_getitem.lookup
  (getItem_tuple d (by lia) (by lia) (by rw[aU,<- r.length];exact l) (by simp_all) ⟨rfl,b⟩) k
def b5w:IxR X rIxS:=by
 intro b d r s σ H x y v u Q I o f h p;obtain⟨z,i,c,rfl,rfl,A,n,q⟩:=h;obtain⟨t,rfl⟩:=o;obtain⟨C,rfl⟩:=f;obtain⟨j,a,l,D,g,w⟩:=a5I n;have k:z.cps.toList.length=z.length:=by simp[Str.length]
 rw[k]at a g w;have B:=a4O;exact tail_any (ii s z t) slot_str_getitem.lookup (getItem_str (by grind) (by rw[a];simpa using l) ⟨.str ⟨#[c]⟩,H,I.tok _,⟨_,rfl⟩,q⟩) p
def rIx(K:Fg):R2:=λx y H Q=>rIxL K x y H Q\/rIxT K x y H Q\/rIxS x y H Q
def b5x:IxR X (rIx X.K):=ix_list.or (ix_tup.or b5w)
def a7r(its:List Value)(n j:Nat)(u:Value):Obj.mapSeq (·.setIfInBounds j u) { cls:=.type "list",data:=.seq its.toArray n }={ cls:=.type "list",data:=.seq (its.set j u).toArray n }:=by
 simp[Obj.mapSeq]
def Inv.lst{pins:List (Addr×Obj)}{σ:St}{H:Hp}{s:Shared}{p:Addr}{xs:List V}(I:Inv X pins σ H s)(h:H p=some (.lst xs)) :
  ∃(its:List Value)(n:Nat),Vals xs its/\s.heap.get? p=some { cls:=.type "list",data:=.seq its.toArray n }/\xs.length<=sizeLine:=by
 obtain⟨z,a,n,r,e⟩:=I.hok p _ h;exact⟨a,n,r,e,z⟩
def Inv.lstUpd{its its':List Value}(I:Inv X pins σ H s)(h:H p=some (.lst xs))
  (ho:s.heap.get? p=some { cls:=.type "list",data:=.seq its.toArray n }) (hf:f { cls:=.type "list",data:=.seq its.toArray n }={ cls:=.type "list",data:=.seq its'.toArray n' }) (r:Vals ys its') (hz:ys.length<=fR) (t:Nat) :
  Inv X pins σ (upd H p (.lst ys)) { s with heap:=s.heap.update p f,toks:=t }:=by
 have e:(s.heap.update p f).get? p=some { cls:=.type "list",data:=.seq its'.toArray n' }:=by
  rw[Heap.get?_update_self f ho (by rw[hf]<;>rfl),hf]
 refine I.write (by rw[h];trivial) (.inl rfl) (λb u a q=>(Heap.get?_update_other _ _ (Ne.symm a)).trans q) ⟨_,e⟩ ?_;exact⟨hz,its',n',r,e⟩
def b79:V->V->V->Hp->(Hp->Prop)->Prop:=λo i v H Q=>∃p xs k j,o=.ref p/\i=.int k/\H p=some (.lst xs)/\ixN xs.length k=some j/\Q (upd H p (.lst (xs.set j v)))
def b0D:PSet X b79:=by
 intro d s σ H o i v D F u Q I x z C h;obtain⟨p,y,k,j,rfl,rfl,g,B,q⟩:=h;cases x;obtain⟨t,rfl⟩:=z;obtain⟨b,n,r,f,A⟩:=I.lst g;obtain⟨a,E,m,w⟩:=a8o B;have e:=r.length;have G:=a4O;have l:=
  I.lstUpd g f (a7r b n j u) (r.set C j) (by simp_all) s.toks
 by_cases h0:0<=k
 ·have c:k.toNat=j:=by
   rw[jG h0 w]at a;exact aN.inj a
  exact PySem.W.ki_setAt f h0 (by lia) (by simp_all) (c▸⟨_,l,q⟩)
 ·have c:(k+(b.toArray.size)).toNat=j:=by
   rw[jH (by lia) m]at a;rw[aU,<- e];exact aN.inj a
  exact PySem.W.ki_setBack f (by lia) (by simp_all) (by lia) (c▸⟨_,l,q⟩)
def a4T(lo hi:Option Int)(n:Nat):(ik lo hi none n).1=((HT.sIx n 0 lo:Nat):Int)/\(ik lo hi none n).2.1=((HT.sIx n n hi:Nat):Int)/\(ik lo hi none n).2.2=1:=by
 refine⟨?_,?_,rfl⟩
 ·cases lo with
  |none=>simp[ik,HT.sIx]
  |some i=>
   simp only[ik,HT.sIx,dL]
   by_cases h:i<0
   ·grind
   ·grind
 ·cases hi with
  |none=>simp[ik,HT.sIx]
  |some i=>
   simp only[ik,HT.sIx,dL]
   by_cases h:i<0
   ·grind
   ·grind
def a30(its:List Value)(lo hi:Option Int):slicePick its.toArray lo hi none=((its.drop (HT.sIx its.length 0 lo)).take (HT.sIx its.length its.length hi-HT.sIx its.length 0 lo)).toArray:=by
 obtain⟨a,c,b⟩:=a4T lo hi its.toArray.size;unfold slicePick;rw[a,c,b];simp only[sliceRange_one,pick_run]<;>rfl
def rSlL(K:Fg):V->Option Int->Option Int->Hp->VK->Prop:=λx lo hi H Q=>∃a xs,x=.ref a/\SqL K H a xs/\∀p,H p=none->Q (.ref p) (upd H p (.lst (cutV xs lo hi)))
def sl_list:SlR X (rSlL X.K):=by
 intro p s σ H x v u w d e y Q I m i n j h;obtain⟨a,c,rfl,k,q⟩:=h;cases m;obtain⟨t,r,g,l⟩:=I.list k;have f:=r.length;refine⟨"list",_,slot_list_getitem.lookup,g.isList.typeIs,?_⟩;refine wpAny_getItem_list_slice g.isList i n j .none (by simp) ?_ (by grind);rw[a30,<- f];refine⟨.ref s.heap.objs.size,_,I.laid (λb z q=>Heap.get?_push_of_some _ q) (av _) ?_,rfl,q _ (I.hok.fresh (av _))⟩;exact⟨aD (a2Y c d e) l,_,0,(r.drop _).take _,Heap.get?_push_size _ rfl⟩
def CallR.or(h:CallR X f r)(h':CallR X f r'):CallR X f (λxs H Q=>r xs H Q\/r' xs H Q):=by
 intro a s σ H c d Q I b q;rcases q with q |q
 ·exact h a s σ H c d Q I b q
 ·exact h' a s σ H c d Q I b q
def tyV(K:Fg)(T:String)(x:V)(H:Hp):Prop:=match x with
 |.str _=>T="str"
 |.int _=>T="int"
 |.ref p=>(T="list"/\∃xs,SqL K H p xs)\/(T="tuple"/\∃o,K.lookup p=some o/\o.cls=.type "tuple"/\o.dict=none) \/
   (T="dict"/\((∃kvs,H p=some (.dK kvs))\/(∃kvs,H p=some (.dT kvs))\/∃ob kvs,H p=some (.frz ob (.dK kvs))))\/(T="set"/\∃S n,H p=some (.set S n))
 |_=>False
def b5y(I:Inv X pins σ H s)(r:RelV x v)(ty:tyV X.K T x H) :
  s.TypeIs v T/\∀a,v=.ref a->∃ob,s.heap.get? a=some ob/\ob.dict=none:=by
 cases x with
 |str z=>
  obtain⟨t,rfl⟩:=r;cases (ty);exact⟨ii s z t,λ_ e=>nomatch e⟩
 |int i=>
  obtain⟨t,rfl⟩:=r;cases (ty);exact⟨typeIs_int s i t,λ_ e=>nomatch e⟩
 |ref p=>
  cases r;rcases ty with ⟨rfl,xs,hq⟩ |⟨rfl,o,hk,hc,f⟩ |⟨rfl,hk⟩ |⟨rfl,S,n,hk⟩
  ·obtain⟨h,_,g,_⟩:=I.list hq;refine⟨g.isList.typeIs,λa e=>?_⟩;cases e;obtain⟨o,n,e,c,f,_⟩:=g;exact⟨o,e,f⟩
  ·refine⟨⟨o,I.kIn p o hk,hc⟩,λa e=>?_⟩;cases e;exact⟨o,I.kIn _ o hk,f⟩
  ·have z:∃o,s.heap.get? p=some o/\o.ExactDict:=by
    rcases hk with ⟨kvs,hk⟩ |⟨kvs,hk⟩ |⟨ob,kvs,hk⟩
    ·obtain⟨_,_,_,_,o,_,_,e,b,_⟩:=I.hok p _ hk;exact⟨o,e,b⟩
    ·obtain⟨_,_,_,_,o,_,_,e,b,_⟩:=I.hok p _ hk;exact⟨o,e,b⟩
    ·obtain⟨_,_,_,_,_,o,_,_,e,b,_⟩:=I.hok p _ hk;exact⟨o,e,b⟩
   obtain⟨o,e,b⟩:=z;refine⟨⟨o,e,b.1⟩,λa d=>?_⟩;cases d;exact⟨o,e,b.2.1⟩
  ·obtain⟨o,_,_,_,e,b,_⟩:=I.hok p _ hk;refine⟨⟨o,e,b.1⟩,λa d=>?_⟩;cases d;exact⟨o,e,b.2.1⟩
 |_=>exact aB ty
def tBM(K:Fg)(T:String)(r:V->List V->Hp->VK->Prop)(to:TE)(t:TA):TE:=fun σ H Q=>to σ H λx H1=>tyV K T x H1/\t σ H1 λxs H2=>r x xs H2 Q
variable{o e:Expr}{es:List Expr}{to:TE}{t:TA}{name:Str}{apos cpos:Pos}{T id:String}{r:V->List V->Hp->VK->Prop}
def b8a(pa:PlainAttrs T)(slot:Slot T name id)(hty:typeOf (.builtin id)=pure (.type "method_descriptor"))(hm:MtR X id r)(ho:PE X o to)(ha:PA X (e::es) t)
  (hbase:iu o name X.env (eval o X.env)=eval o X.env)
  (hfew:((backTo cpos (fW (e::es) X.env)).all (λx=>!x.1)&&(iz cpos (iA [] X.env)).all (λx=>x.1.isSome)
   && decide ((e::es).length+([]:List ig).length+(if ([]:List ig).isEmpty then 0 else 1)<30))=true)
  (hline:(apos.endLine==cpos.line)=true) (hs:fW (e::es) X.env=(false,eval e X.env)::fW es X.env) (hplain:(backTo cpos (fW es X.env)).any (·.1)=false) :
  PE X (.Call (.Attribute o name apos) (e::es) [] cpos) (tBM X.K T r to t):=by
 intro a s σ H Q I h;refine wpAny_Call_method_late hbase hfew hline rfl (thn (ho a s σ H _ I h) λv k ⟨x,w,b,c,u,j⟩=>?_);obtain⟨g,n⟩:=b5y b c u;refine⟨T,id,pa,slot,hty,g,n,?_⟩;have d:=ha cpos a k σ w _ b j;rw[hs]at d ⊢;exact Calls.callWith_builtin (by show (false||(backTo cpos _).any _)=false;rw[hplain]<;>rfl) (Calls.evalArgs_plain (thn d λi m ⟨q,l,y,f,p⟩=>hm a m σ l x q v i Q y c f p))
end
def MtM(X:Cx)(id:String)(r:V->List V->Hp->VK->Prop):Prop:=
 ∀(pins:List (Addr×Obj))(s:Shared)(σ:St)(H:Hp)(x:V)(xs:List V)(v:Value)(us:List Value)(Q:VK),Inv X pins σ H s->RelV x v->Vals xs us->r x xs H Q ->
  wpAny (model X.prog X.w) X.A (call (.builtin id) (v::us)) (EP X pins σ Q) X.xe s
def Vals.one:∀{x:V}{us:List Value},Vals [x] us->∃u,us=[u]/\RelV x u:=by
 intro x us h;cases h with
 |cons r h=>cases h;exact⟨_,rfl,r⟩
def Vals.two:∀{x y:V}{us:List Value},Vals [x,y] us->∃u v,us=[u,v]/\RelV x u/\RelV y v:=by
 intro x y a h;cases h with
 |cons r h=>cases h with
  |cons q h=>cases h;exact⟨_,_,rfl,r,q⟩
def Vals.zero:∀{us:List Value},Vals [] us->us=[]:=by
 intro us h;cases h;rfl
def Vals.dropLast(h:Vals xs us):Vals xs.dropLast us.dropLast:=by
 induction h with
 |nil=>exact .nil
 |cons r t ih=>
  cases t with
  |nil=>exact .nil
  |cons q t'=>exact .cons r ih
theorem Vals.eraseIdx:∀{xs:List V}{us:List Value}(i:Nat),Vals xs us->Vals (xs.eraseIdx i) (us.eraseIdx i)
 |_,_,_,.nil=>.nil
 |_,_,0,.cons _ t=>t
 |_,_,i+1,.cons r t=>.cons r (Vals.eraseIdx i t)
def Vals.reverse(h:Vals xs us):Vals xs.reverse us.reverse:=by
 induction h with
 |nil=>exact .nil
 |cons r t ih=>rw[cM,cM];exact Vals.append ih (.cons r .nil)
section
variable{X:Cx}{pins:List (Addr×Obj)}{σ:St}{H:Hp}{s:Shared}{l b:Addr}{xs ys zs:List V}
def Inv.lset{its its':List Value}(I:Inv X pins σ H s)(hH:H l=some (.lst xs))
  (e:s.heap.get? l=some { cls:=.type "list",data:=.seq its.toArray n }) (hf:f its.toArray=its'.toArray) (hv:Vals ys its') (hz:ys.length<=fR) :
  Inv X pins σ (upd H l (.lst ys)) { s with heap:=s.heap.update l (Obj.mapSeq f),toks:=t' }:=by
 have q:=PySem.IsL.update e f;rw[hf]at q;refine I.write (hH▸trivial) (.inl rfl) (λc u a b=>(Heap.get?_update_other s.heap _ (Ne.symm a)).trans b) ⟨_,q⟩ ?_;exact⟨hz,its',_,hv,q⟩
def Inv.lnew(I:Inv X pins σ H s)(hv:Vals ys its)(hz:ys.length<=fR) :
  Inv X pins σ (upd H s.heap.objs.size (.lst ys)) { s with heap:=s.heap.push { cls:=.type "list",data:=.seq its.toArray },toks:=t' }:=
 I.laid (λ_ _ q=>Heap.get?_push_of_some _ q) (av _) ⟨hz,its,0,hv,Heap.get?_push_size _ rfl⟩
def Inv.fresh(I:Inv X pins σ H s):H s.heap.objs.size=none:=I.hok.fresh (av _)
def Inv.lstM(I:Inv X pins σ H s)(hH:H l=some (.lst xs)):xs.length<=fR/\∃(its:List Value)(n:Nat),Vals xs its/\xs.length=its.length/\s.heap.get? l=some { cls:=.type "list",data:=.seq its.toArray n }:=by
 obtain⟨z,a,n,r,e⟩:=I.hok l _ hH;exact⟨z,a,n,r,r.length,e⟩
def b0E(h:n<=fR):fX.List.listTooLong n=false:=decide_eq_false (by omega)
end
section
variable{X:Cx}
def b3a:V->List V->Hp->VK->Prop:=λx vs H Q=>∃l xs y,x=.ref l/\vs=[y]/\H l=some (.lst xs)/\xs.length<fR/\Q .non (upd H l (.lst (xs++[y])))
def a4U:MtM X "list.append" b3a:=by
 intro c s σ H x k v o Q I f d h;obtain⟨l,j,y,rfl,rfl,b,i,q⟩:=h;cases f;obtain⟨u,rfl,g⟩:=d.one;obtain⟨z,a,n,r,m,e⟩:=I.lstM b;refine jI F.slot_list_append ⟨_,e,rfl⟩ F.entry_list_append (F.args_list_append_2 _ _) (PySem.list_append l a.toArray n u (by grind)) ⟨e,?_⟩;refine⟨.non,_,I.lset b e (by simp) (r.append (.cons g .nil)) ?_,rfl,q⟩;rw[aJ,dM]
 lia
def b3b:V->List V->Hp->VK->Prop:=λx vs H Q=>∃l b xs zs,x=.ref l/\vs=[.ref b]/\H l=some (.lst xs)/\H b=some (.lst zs)/\xs.length+zs.length<=fR/\Q .non (upd H l (.lst (xs++zs)))
def a8q:MtM X "list.extend" b3b:=by
 intro k s σ H x A v C Q I i j h;obtain⟨l,b,B,E,rfl,rfl,f,t,G,q⟩:=h;cases i;obtain⟨u,rfl,p⟩:=j.one;cases p;obtain⟨z,c,n,r,D,e⟩:=I.lstM f;obtain⟨J,a,w,m,y,o⟩:=I.lstM t;have g:c.toArray.size+a.toArray.size<=sizeLine:=by grind
 have d:¬ (!c.toArray.isEmpty&&fX.List.listTooLong (c.toArray.size+a.toArray.size))=true:=by
  rw[b0E g,cN];exact aZ
 refine jI F.slot_list_extend ⟨_,e,rfl⟩ F.entry_list_extend (F.args_list_extend_2 _ _)
  (AutoSeq1.list_extend_list_list_0 l c.toArray n b a.toArray w d (by grind) (by lia)) ⟨e,o,?_⟩
 refine⟨.non,_,I.lset f e (by simp) (r.append m) ?_,rfl,q⟩;rw[aJ]
 lia
def rCat:R2:=λx y H Q=>∃l b xs zs,x=.ref l/\y=.ref b/\H l=some (.lst xs)/\H b=some (.lst zs)/\xs.length+zs.length<=fR/\∀p,H p=none->Q (.ref p) (upd H p (.lst (xs++zs)))
def b5z:OpR X (gb .Add) rCat:=by
 intro i s σ H x y v u Q I f k h;obtain⟨l,b,C,w,rfl,rfl,m,d,A,q⟩:=h;cases f;cases k;obtain⟨z,c,n,r,t,e⟩:=I.lstM m;obtain⟨B,a,D,o,p,g⟩:=I.lstM d;refine PySem.P.add_list e g ?_ (by grind);have j:c.toArray++a.toArray=(c++a).toArray:=by simp
 rw[j];exact⟨.ref _,_,I.lnew (r.append o) (by grind),rfl,q _ I.fresh⟩
end
section
variable{prog:fV}{w:World}{A:Around}{E:Value->Shared->Prop}{s:Shared}
end
section
variable{X:Cx}
end
end L2
namespace Att
open PySem PySem.W PySem.Calls PyProof.Rows
def a2Z:∀(ns:List Int)(vs:List Value),WellAll P h vs (ns.map WData.int)->gj vs ns:=by
 intro c
 induction c with
 |nil=>
  intro d w;cases w;exact .nil
 |cons n c ih=>
  intro d w;cases w with
  |cons a b=>
   cases a;exact .cons _ _ (ih _ b)
def a8r{l:OpenLaw}(hn:l.most=some n)
  (hpre:l.row.toRowW.claim.pre args=true) (hwl:WellAll P h vals args) :
  ∃a vs ns,vals=[Value.ref a]/\args=[WData.list (ns.map WData.int)]/\h.get? a=some { cls:=.type "list",data:=.seq vs.toArray }/\gj vs ns/\ns.length<=n:=by
 have i:=(pre_splitW hpre).1;have g:l.pre.holds [] { args:=args }=true:=(pre_splitW hpre).2;obtain⟨d,r,rfl,j,m⟩:=hasAllW_cons i;obtain rfl:=hasAllW_nil m;obtain⟨p,rfl,o⟩:=hasW_list j;obtain⟨b,rfl⟩:=items_int o;have f:b.length<=n:=by
  have c:(WTm.not (.lt (.lit (.int n)) (.len (.arg 0)))).holds [] { args:=[.list (b.map .int)] }=true:=by
   have c:=(holds_andW g).1;rw[hn]at c;exact c
  have e:=condW_of c (w_not (w_lt w_lit (w_len_list (w_arg rfl))))
  first
   | (rw[decide_eq_true k]at e;exact absurd e (by simp))
   | (simp at e;omega)
 cases hwl with
 |cons w1 w2=>
  cases w2;cases w1 with
  |list ho hall=>exact⟨_,_,b,rfl,rfl,ho,a2Z b _ hall,f⟩
def a8s(l:OpenLaw)(args:List WData):l.row.toRowW.claim.post args (.bool true) args=true:=
 postW_of
  (show WShape.has [] _ .bool=true by first |rfl |decide |simp)
  (w_eq_bool (w_res rfl) w_lit) rfl
def attach_call{l:OpenLaw}
  (hn:l.most=some n) (hdf:d.params.defaults=[])
  (call:∀(w:World)(s₀ sj:Shared)(mg mb:Str->Option Value)(fa:Addr)(o:Obj)(pm cd doc:Value)(a:Addr)(vs:List Value)(ns:List Int),
   Ground q loose [] XP w s₀ mg mb sj.heap->YP w sj.heap ->
   sj.heap.get? fa=some o->o.data=.func (docDef d.name d.params d.body d.scope pm cd doc)->sj.heap.CodeRec cd d.name->mg d.name=some (.ref fa) ->
   sj.heap.get? a=some { cls:=.type "list",data:=.seq vs.toArray }->gj vs ns->ns.length<=n->sj.gens=#[] ->
   gF (model l.prog w) io (.call (.ref fa) ⟨[.ref a],[]⟩) (λr s'=>r=.ok (.ret (.bool true))/\OldK sj.heap s'.heap/\s'.os=sj.os/\gR s'.gens) sj) :
  WalkO q loose XP YP l.row.toRowW d [] (λf vs=>PySem.call f vs):=by
 intro w C s D y G Y x o F v i Q H L B k h j N u J U c A S m T;obtain rfl:Q=.none:=Dflts.none h hdf;obtain rfl:H=.none:=Dflts.noKw h;obtain⟨a,I,E,rfl,rfl,g,b,e⟩:=a8r hn c m;refine enter_call (g5 (call w C s D y x o F v i a I E G Y L (fd_plain B) k j g b e N) λr V R=>?_);obtain⟨rfl,t,z,M⟩:=R;exact⟨.inl ⟨.bool true,.bool true,[],rfl,λ_=>rfl,.bool true,a8s l _,λ_=>⟨b6.nil,λ_ p=>(nomatch p)⟩⟩,t,z,M⟩
section
variable{prog:fV}{w:World}{A:Around}{E:Value->Shared->Prop}{s:Shared}{K:Frag}
end
end Att
namespace L2
open PySem PySem.Spec PyProof.Rows
def a8t:∀{vs:List Value}{ns:List Int},gj vs ns->Vals (ns.map V.int) vs:=by intro z0 y0 x0;induction x0 with
 |nil=>exact .nil
 |cons n t h I0=>exact .cons ⟨t,rfl⟩ (I0)
def Only(H:Hp):Prop:=∀b,H b=none\/∃o xs,H b=some (.frz o (.lst xs))
noncomputable def a31(s:Stmt)(j:Nat):Stmt:=match s with
 |.ClassDef _ _ _ body _ _ _ _ _ _ _=>body.getD j (.Pass ⟨0,0,0,0⟩)
 |_=>.Pass ⟨0,0,0,0⟩
noncomputable def a1y(s:Stmt):Arguments:=match s with
 |.FunctionDef _ a _ _ _ _ _ _ _ _=>a
 |_=>{ posonlyargs:=[],args:=[],vararg:=none,kwonlyargs:=[],kw_defaults:=[],kwarg:=none,defaults:=[] }
noncomputable def a0S(s:Stmt):List Stmt:=match s with
 |.FunctionDef _ _ b _ _ _ _ _ _ _=>b
 |_=>[]
noncomputable def a0l(s:Stmt):Scope:=match s with
 |.FunctionDef _ _ _ _ _ _ sc _ _ _=>sc
 |_=>{ kind:=.function,names:=[],isGenerator:=false,isCoroutine:=false }
abbrev CX0:CXT:=λ_ _ _ _ _ _=>False
abbrev E0:XK:=λ_ _ _=>False
def b3c:a3A CX0 X E0:=λ_ _ _ _ _ _ _ h=>h.elim
structure Fun (K:Fg) (x qual:Str) (st:Stmt) (f:Addr) (fd:gz):Prop where
 ex:∃(oc:Value)(od:Option Addr)(kV doc pm:Value)(an:Option Addr)(cdv ct:Value)(osl:Array (Option Value)),
  fd=PySem.W.fnOf x qual (a1y st) (a0S st) (a0l st) .none kV doc pm an cdv ct/\K.lookup f=some ⟨oc,od,.func fd,osl⟩/\PySem.W.codeIn K cdv qual=true
 kp:PySem.W.keepIn K (.ref f)=true
section
variable{P:fV}{w:World}{K:Fg}{mg:Str->Option Value}{base:Heap}
def Fun.ok{st:Stmt}(F:Fun K x qual st f fd)(S:FnScope N ps (a0l st))(len:∀vs H Q E,sp vs H Q E->vs.length=ps.length)
  (hbody:∀(cdv:Value)(A:Around)(outer:List Env)(s:Shared)(H:Hp)(vs:List V)(Q:VK)(E:XK),Room k (A.deeper (envOfC qual (a0l st) s.heap.objs.size f cdv))->sp vs H Q E ->
   ∃t,PSs (cxOf CX0 P w K mg base N qual (a0l st) f cdv A outer s H E).nox (a0S st) t/\t { nx:=λ_ H'=>Q .non H',rt:=Q } (start N vs) H):FnOk P w K mg base CX0 (k+1) f fd ps sp:=by
 obtain⟨n,u,r,l,m,o,c,p,j,rfl,i,d⟩:=F.ex;refine b5v i d S len λA a s H g Q E e b=>?_;obtain⟨t,h,q⟩:=hbody c A a s H g Q E e b;exact⟨t,h.nox,q⟩
def Fun.binds{st:Stmt}(F:Fun K x qual st f fd)
  (h:∀(kV doc pm:Value)(an:Option Addr)(cdv ct:Value)(us:List Value),us.length=ps.length->iy (PySem.W.fnOf x qual (a1y st) (a0S st) (a0l st) .none kV doc pm an cdv ct) ⟨us,[]⟩=pure (ps.zip us)):Binds K fd ps []:=by
 obtain⟨k,l,g,a,e,d,b,c,i,rfl,m,j⟩:=F.ex;exact .all (h g a e d b c)
def b2e{st:Stmt}{kV doc pm cdv ct:Value}(l:K.lookup f=some ⟨oc,od,.func (PySem.W.fnOf x qual (a1y st) (a0S st) (a0l st) .none kV doc pm an cdv ct),osl⟩)
  (c:PySem.W.codeIn K cdv qual=true) (k:PySem.W.keepIn K (.ref f)=true):Fun K x qual st f (PySem.W.fnOf x qual (a1y st) (a0S st) (a0l st) .none kV doc pm an cdv ct):=⟨⟨oc,od,kV,doc,pm,an,cdv,ct,osl,rfl,l,c⟩,k⟩
end
def a0g(h:n<=1000):n<sizeLine:=dq h (by decide)
section
variable{X:Cx}
def pv(i:Nat)(hN:X.N[i]?=some x:=by rfl)(hv:Vis X.env.scope x:=by first |exact b7 rfl |exact bI (b7 rfl) |exact bI (bI rfl))(hd:(x==("__debug__":Str))=false:=by decide)
  (hcd:(x==("__classdict__":Str))=false:=by decide):PE X (.Name x pos) (tVar i):=a72 hN hv hd hcd
end
def Same(H H':Hp):Prop:=∀b o,H b=some o->H' b=some o
def Same.refl(H:Hp):Same H H:=λ_ _ h=>h
def Same.trans(a:Same H H1)(b:Same H1 H2):Same H H2:=λc o h=>b c o (a c o h)
def Same.free(e:Same H H')(h:H' l=Option.none):H l=Option.none:=by
 cases q:H l with
 |none=>rfl
 |some o=>
  rw[e l o q]at h;cases h
def Same.seq{K:Fg}(e:Same H H')(h:SqL K H a xs):SqL K H' a xs:=by
 rcases h with (h |⟨o,h⟩) |h
 ·exact .inl (.inl (e _ _ h))
 ·exact .inl (.inr ⟨o,e _ _ h⟩)
 ·exact .inr h
section
variable{κ:Type}[DecidableEq κ]
noncomputable def valV(kvs:List (κ×V))(k:κ):Option V:=(kvs.find? λkv=>decide (kv.1=k)).map (·.2)
noncomputable def putK(kvs:List (κ×V))(k:κ)(v:V):List (κ×V):=
 if (kvs.any λkv=>decide (kv.1=k))=true then kvs.map (λkv=>if kv.1=k then (kv.1,v) else kv) else kvs++[(k,v)]
noncomputable def b5A(kvs:List (κ×V))(k:κ):List (κ×V):=kvs.filter λkv=>decide (kv.1≠k)
def a32{k:κ}(e:p.1=k):valV (p::r) k=some p.2:=by simp[valV,bJ,e]
def a33{k:κ}(e:¬ p.1=k):valV (p::r) k=valV r k:=by simp[valV,bJ,e]
def b0F(k:κ):∀kvs:List (κ×V),(kvs.any λkv=>decide (kv.1=k))=(valV kvs k).isSome:=by intro z0;induction z0 with
 |nil=>exact rfl
 |cons p r I0=>
  rw[ci]
  by_cases e:p.1=k
  ·simp only[a32 e,decide_eq_true e,Bool.true_or,Option.isSome_some]
  ·rw[a33 e,decide_eq_false e,eM];exact I0
def a1a(kvs:List (κ×V))(k:κ)(v:V):(putK kvs k v).length<=kvs.length+1:=by grind [putK]
def RelO.isSome_eq(r:RelO o u):o.isSome=u.isSome:=by
 cases o with
 |none=>cases u with
  |none=>rfl
  |some _=>exact (r).elim
 |some _=>cases u with
  |none=>exact (r).elim
  |some _=>rfl
def RelO.getD(r:RelO o u)(rd:RelV d d'):RelV (o.getD d) (u.getD d'):=by
 cases o with
 |none=>cases u with
  |none=>exact rd
  |some _=>exact (r).elim
 |some _=>cases u with
  |none=>exact (r).elim
  |some _=>exact r
noncomputable def KV.val(r:KV kvs vs)(k:κ):RelO (valV kvs k) (gM vs k):=by
 induction r with
 |nil=>exact True.intro
 | @cons p q ps qs h t ih=>
  obtain⟨c,d⟩:=h
  by_cases e:p.1=k
  ·have a:=c.symm.trans e;have b:gM (q::qs) k=some q.2:=by simp[gM,a]
   rw[a32 e,b];exact d
  ·have a:¬ q.1=k:=λz=>e (c.trans z);have b:gM (q::qs) k=gM qs k:=by simp[gM,a]
   rw[a33 e,b];exact ih
noncomputable def KV.any(r:KV kvs vs)(k:κ):(kvs.any λkv=>decide (kv.1=k))=vs.any λkv=>decide (kv.1=k):=by
 induction r with
 |nil=>rfl
 |cons h t ih=>rw[ci,ci,ih,h.1]
def KV.repl(r:KV kvs vs)(k:κ)(ry:RelV y u) :
  KV (kvs.map λkv=>if kv.1=k then (kv.1,y) else kv) (vs.map λkv=>if kv.1=k then (kv.1,u) else kv):=by
 induction r with
 |nil=>exact .nil
 | @cons p q ps qs h t ih=>
  rw[aF,aF];refine .cons ?_ ih;obtain⟨a,b⟩:=h
  by_cases e:p.1=k
  ·rw[if_pos e,if_pos (a.symm.trans e)];exact⟨a,ry⟩
  ·rw[if_neg e,if_neg (λz=>e (a.trans z))];exact⟨a,b⟩
noncomputable def KV.put(r:KV kvs vs)(k:κ)(ry:RelV y u):KV (putK kvs k y) (stored vs k u):=by
 unfold putK stored;rw[r.any k]
 by_cases e:(vs.any λkv=>decide (kv.1=k))=true
 ·rw[if_pos e,if_pos e];exact r.repl k ry
 ·rw[if_neg e,if_neg e];exact Paired.snoc r ⟨rfl,ry⟩
def KV.drop(r:KV kvs vs)(k:κ):KV (b5A kvs k) (without vs k):=by
 unfold b5A without
 induction r with
 |nil=>exact .nil
 | @cons p q ps qs h t ih=>
  obtain⟨c,d⟩:=h;rw[bK,bK]
  by_cases e:p.1=k
  ·simp_all
  ·have f:¬ q.1=k:=λz=>e (c.trans z);have a:decide (p.1≠k)=true:=by simp[e]
   have b:decide (q.1≠k)=true:=by simp[f]
   rw[if_pos a,if_pos b];exact .cons ⟨c,d⟩ ih
theorem KV.keys{kvs:List (κ×V)}(r:KV kvs vs):kvs.map (·.1)=vs.map (·.1):=by
 induction r with
 |nil=>rfl
 |cons h t ih=>rw[aF,aF,ih,h.1]
def KV.length(r:KV kvs vs):kvs.length=vs.length:=Paired.length r
end
def a7s(r:RelV (kV k) u):(a0j P w).is k u=true:=by
 match k,r with
 |.inl (some i),r=>obtain⟨t,e⟩:=(r);subst e;exact a5C P w i t
 |.inl none,r=>rw[r];rfl
 |.inr x,r=>obtain⟨t,e⟩:=(r);subst e;exact a5D P w x t
def a8u:∀{ks:List Key}{us:List Value},Vals (ks.map kV) us->ItemsAre (a0j P w) ks us:=by intro z0;induction z0 with
 |nil=>intro _ r;rw[bx]at r;cases r;exact .nil
 |cons k ks I0=>
  intro _ r;cases r with
  |cons h t=>exact .cons (a7s h) (I0 t)
abbrev KT(H:Hp):List (List Key×V)->List (List Key×Addr×Value)->Prop:=Paired λp q=>p.1=q.1/\H q.2.1=some (.tup (p.1.map kV))/\RelV p.2 q.2.2
noncomputable def KT.val(r:KT H kvs xs)(k:List Key):RelO (valV kvs k) ((atKey xs k).map (·.2)):=by
 induction r with
 |nil=>exact True.intro
 | @cons p q ps qs h t ih=>
  obtain⟨c,_,d⟩:=h
  by_cases e:p.1=k
  ·have a:=c.symm.trans e;have b:atKey (q::qs) k=some q.2:=by simp[atKey,a]
   rw[a32 e,b];exact d
  ·have a:¬ q.1=k:=λz=>e (c.trans z);have b:atKey (q::qs) k=atKey qs k:=by simp[atKey,a]
   rw[a33 e,b];exact ih
def KT.repl(r:KT H kvs xs)(k:List Key)(ry:RelV y u) :
  KT H (kvs.map λkv=>if kv.1=k then (kv.1,y) else kv) (xs.map (putAt k u)):=by
 induction r with
 |nil=>exact .nil
 | @cons p q ps qs h t ih=>
  rw[aF,aF];refine .cons ?_ ih;obtain⟨a,b,c⟩:=h;unfold putAt
  by_cases e:p.1=k
  ·rw[if_pos e,if_pos (a.symm.trans e)];exact⟨a,b,ry⟩
  ·rw[if_neg e,if_neg (λz=>e (a.trans z))];exact⟨a,b,c⟩
noncomputable def KT.put(r:KT H kvs xs)(k:List Key)(hb:H b=some (.tup (k.map kV)))(ry:RelV y u) :
  KT H (putK kvs k y) (storedH xs k b u):=by
 have e:(kvs.any λa=>decide (a.1=k))=(atKey xs k).isSome:=by
  rw[b0F,(r.val k).isSome_eq,Option.isSome_map]
 unfold putK storedH;rw[e]
 by_cases q:(atKey xs k).isSome=true
 ·rw[if_pos q,if_pos q];exact r.repl k ry
 ·rw[if_neg q,if_neg q];exact Paired.snoc r ⟨rfl,hb,ry⟩
def KT.keeps(r:KT H kvs xs)(ht:∀b ys,H b=some (.tup ys)->H' b=some (.tup ys)):KT H' kvs xs:=
 Paired.mapP r λ_ _ z=>⟨z.1,ht _ _ z.2.1,z.2.2⟩
section
variable{P:fV}{w:World}{H:Hp}{h:Heap}{a:Addr}
def b5B(ok:HOk P w H h)(e:Rd H a u):ObjOk P w H h a u:=e.ok ok
def a8v(ok:HOk P w H h)(e:Rd H a (.dK kvs)):kvs.length<=fR/\(a==gm)=false/\∃vs,KV kvs vs/\h.DictOf (a0j P w) a vs:=
 b5B ok e
def b5C(ok:HOk P w H h)(e:H a=some (.dK kvs)):kvs.length<=fR/\(a==gm)=false/\∃vs,KV kvs vs/\h.DictOf (a0j P w) a vs:=a8v ok (.inl e)
def a6q(ok:HOk P w H h)(e:H a=some (.tup (ks.map kV))):(iJ (a0j P w)).is h ks a:=by
 obtain⟨_,b,r,o,d,c,n,f⟩:=(ok a _ e);exact⟨o,b.toArray,n,d,c,f,by simpa using a8u r⟩
def b3d(ok:HOk P w H h)(e:Rd H a (.dT kvs)):kvs.length<=fR/\(a==gm)=false /\
  ∃xs,KT H kvs xs/\h.DictOfH (iJ (a0j P w)) a xs:=by
 obtain⟨z,y,g,r,o,d,s,j,k,f,n,i⟩:=(b5B ok e);refine⟨z,y,g,r,o,d,s,j,k,f,n,λx b=>?_,i⟩;have c:∀{l:List _}{m:List _},KT H l m->∀x∈m,(iJ (a0j P w)).is h x.1 x.2.1:=by
  intro l m q
  induction q with
  |nil=>intro x b;exact nomatch b
  | @cons p q ps qs hq t ih=>
   intro x b;rcases ax.mp b with e |b
   ·subst e;exact a6q ok (by simp_all)
   ·exact ih x b
 exact c r x b
def b8b(ok:HOk P w H h)(e:H a=some (.dT kvs)):kvs.length<=fR/\(a==gm)=false /\
  ∃xs,KT H kvs xs/\h.DictOfH (iJ (a0j P w)) a xs:=b3d ok (.inl e)
end
def DGet(H:Hp)(a:Addr)(y:V)(r:Option V):Prop:=
 (∃kvs k,Rd H a (.dK kvs)/\y=kV k/\r=valV kvs k)\/∃kvs k b,Rd H a (.dT kvs)/\y=.ref b/\H b=some (.tup (k.map kV))/\r=valV kvs k
def DPut(H:Hp)(a:Addr)(y v:V)(H':Hp):Prop:=
 (∃kvs k,H a=some (.dK kvs)/\y=kV k/\kvs.length<fR/\H'=upd H a (.dK (putK kvs k v))) \/
 ∃kvs k b,H a=some (.dT kvs)/\y=.ref b/\H b=some (.tup (k.map kV))/\kvs.length<fR/\H'=upd H a (.dT (putK kvs k v))
def DGet.k{k:Key}(e:H a=some (.dK kvs)):DGet H a (kV k) (valV kvs k):=.inl ⟨kvs,k,.inl e,rfl,rfl⟩
def DGet.t{k:List Key}(e:H a=some (.dT kvs))(eb:H b=some (.tup (k.map kV))):DGet H a (.ref b) (valV kvs k):=.inr ⟨kvs,k,b,.inl e,rfl,eb,rfl⟩
def DPut.k{k:Key}(e:H a=some (.dK kvs))(hl:kvs.length<fR):DPut H a (kV k) v (upd H a (.dK (putK kvs k v))):=.inl ⟨kvs,k,e,rfl,hl,rfl⟩
def DPut.t{k:List Key}(e:H a=some (.dT kvs))(eb:H b=some (.tup (k.map kV)))(hl:kvs.length<fR) :
  DPut H a (.ref b) v (upd H a (.dT (putK kvs k v))):=.inr ⟨kvs,k,b,e,rfl,eb,hl,rfl⟩
section
variable{X:Cx}{pins:List (Addr×Obj)}{σ:St}{H:Hp}{s:Shared}{a:Addr}{y v:V}{u r:Value}{o:Option V}{A:Around}{E:Value->Shared->Prop}
def Inv.big(I:Inv X pins σ H s):gm<s.heap.objs.size:=by
 have h:=(I.mod.glob.keeps I.bk).lt;exact cO (by decide) h
def a5J(I:Inv X pins σ H s)(mu:Mut (H a))(hs:Heap.SameBut a s.heap h')(he:∃q,h'.get? a=some q)(new:ObjOk X.prog X.w (upd H a ob) h' a ob) :
  Inv X pins σ (upd H a ob) { s with heap:=h',toks:=t' }:=
 I.write mu (.inl rfl) (λb q c z=>(hs.2 b c).trans z) he new
def b2f(z:kvs.length<=fR)(hd:(a==gm)=false)(rel:KV kvs vs)(dd:h'.DictOf (a0j P w) a vs) :
  ObjOk P w H' h' a (.dK kvs):=⟨z,hd,vs,rel,dd⟩
def a8w(hu:A.units+1<cLine)(I:Inv X pins σ H s)(g:DPut H a y v H')(ry:RelV y u)(rv:RelV v r)(h:∀s',Inv X pins σ H' s'->Q () s') :
  wpAny (model X.prog X.w) A (jg (.ref a) u r) Q E s:=by
 rcases g with ⟨kvs,k,e,ey,l,eH⟩ |⟨kvs,k,b,e,ey,eb,l,eH⟩
 ·subst ey eH;obtain⟨z,m,F,d,p⟩:=b5C I.hok e;have o:F.length<=sizeLine:=d.length▸z;have n:(putK kvs k v).length<=sizeLine:=by have:=a1a kvs k v;lia
  refine wpAny_setItem_pairs (a7s ry) p λx f j=>h _ ?_;have L:∃q,x.get? a=some q:=by obtain⟨q,_,_,i,_⟩:=f;exact⟨q,i⟩
  exact a5J I (e▸True.intro) j L (b2f n m (d.put k rv) f)
 ·subst ey eH;cases (ry);obtain⟨z,m,D,d,p⟩:=b8b I.hok e;have o:D.length<=sizeLine:=(Paired.length d)▸z;have n:(putK kvs k v).length<=sizeLine:=by have:=a1a kvs k v;lia
  refine wpAny_setItem_heap (hsz:=o) (jJ hu) (a6q I.hok eb) p λx f j=>h _ ?_;obtain⟨q,C,M,i,J,N,B,_,G⟩:=f;refine a5J I (e▸True.intro) j ⟨q,i⟩ ⟨n,m,_,(d.put k eb rv).keeps λc R t=>?_,q,C,M,i,J,N,B,G⟩;rw[a0c (b7O t e (λz=>nomatch z))];exact t
end
section
variable{X:Cx}{pins:List (Addr×Obj)}{σ:St}{H:Hp}{s:Shared}{a:Addr}{kvs:List (Key×V)}{k:Key}{u:Value}{A:Around}{E:Value->Shared->Prop}
end
section
variable{X:Cx}{o i e value:Expr}{pos pos' tpos:Pos}{td ty tv:TE}
end
def a6r(h:Heap)(hb:gm<h.objs.size):ObjOk P w H (h.push { cls:=.type "dict",data:=.dict #[] }) h.objs.size (.dK []):=
 ⟨aR _,beq_eq_false_iff_ne.mpr (Ne.symm (aE hb)),[],.nil,Heap.DictOf.new h⟩
def b5D:TE:=λ_ H Q=>∀p,H p=none->Q (.ref p) (upd H p (.dK []))
section
variable{X:Cx}{pos:Pos}
def b0G:PE X (.Dict [] [] pos) b5D:=λb s σ H Q I h=>
 wpAny_Dict_empty ⟨.ref s.heap.objs.size,_,I.laid (λ_ _ q=>Heap.get?_push_of_some _ q) (av _) (a6r s.heap I.big),rfl,h _ (I.hok.fresh (av _))⟩
end
noncomputable def b5E(kvs more:List (Key×V)):List (Key×V):=more.foldl (λacc kv=>putK acc kv.1 kv.2) kvs
def KV.merge:∀{more:List (Key×V)}{rs:List (Key×Value)}{kvs:List (Key×V)}{vs:List (Key×Value)},KV more rs->KV kvs vs->KV (b5E kvs more) (merged vs rs):=by
 intro d f a b r
 induction r generalizing a b with
 |nil=>intro q;exact q
 | @cons p q ps qs h t ih=>
  intro c;have e:KV (putK a p.1 p.2) (stored b q.1 q.2):=by
   have:=c.put p.1 h.2
   rw[<- h.1];exact this
  exact ih e
structure M2 (X:Cx) (o:Expr) (m:Str) (apos:Pos) (e f:Expr) (cpos:Pos):Prop where
 base:iu o m X.env (eval o X.env)=eval o X.env
 few:((backTo cpos (fW [e,f] X.env)).all (λx=>!x.1)&&(iz cpos (iA [] X.env)).all (λx=>x.1.isSome)
  && decide (([e,f]:List Expr).length+([]:List ig).length+(if ([]:List ig).isEmpty then 0 else 1)<30))=true
 line:(apos.endLine==cpos.line)=true
 trees:backTo cpos (fW [e,f] X.env)=[(false,eval e X.env),(false,eval f X.env)]
section
variable{X:Cx}{pins:List (Addr×Obj)}{σ:St}{H:Hp}{s:Shared}{a:Addr}{y d:V}{u r:Value}{o:Option V}{A:Around}{E:Value->Shared->Prop}
def b5F(hu:A.units+1<cLine)(I:Inv X pins σ H s)(g:DGet H a y o)(ry:RelV y u)(h:∀w' s',Inv X pins σ H s'->RelV (o.getD .non) w'->Q w' s') :
  wpAny (model X.prog X.w) A (call (.builtin "dict.get") [.ref a,u]) Q E s:=by
 rcases g with ⟨kvs,k,e,ey,l⟩ |⟨kvs,k,b,e,ey,eb,l⟩
 ·subst ey;obtain⟨z,f,j,d,c⟩:=a8v I.hok e;refine iV PySem.F.slot_dict_get c.typeIs PySem.F.entry_dict_get (PySem.F.args_dict_get_2 _ _) (meets_dict_get _ a (a7s ry) f) ⟨_,c.mapOf,h _ _ (I.tok _) ?_⟩;rw[l];exact (d.val k).getD rfl
 ·subst ey;cases (ry);obtain⟨z,f,i,d,c⟩:=b3d I.hok e;refine iV PySem.F.slot_dict_get c.typeIs PySem.F.entry_dict_get (PySem.F.args_dict_get_2 _ _) (meetsH_dict_get _ a b f) ⟨jJ hu,k,i,a6q I.hok eb,c,h _ _ (I.tok _) ?_⟩;rw[l];exact (d.val k).getD rfl
def b5G(hu:A.units+1<cLine)(I:Inv X pins σ H s)(g:DGet H a y o)(ry:RelV y u)(rd:RelV d r)(h:∀w' s',Inv X pins σ H s'->RelV (o.getD d) w'->Q w' s') :
  wpAny (model X.prog X.w) A (call (.builtin "dict.get") [.ref a,u,r]) Q E s:=by
 rcases g with ⟨kvs,k,e,ey,l⟩ |⟨kvs,k,b,e,ey,eb,l⟩
 ·subst ey;obtain⟨z,i,m,f,c⟩:=a8v I.hok e;refine iV PySem.F.slot_dict_get c.typeIs PySem.F.entry_dict_get (PySem.F.args_dict_get_3 _ _ _) (meets_dict_get_default _ a (a7s ry) i r) ⟨_,c.mapOf,h _ _ (I.tok _) ?_⟩;rw[l];exact (f.val k).getD rd
 ·subst ey;cases (ry);obtain⟨z,i,j,f,c⟩:=b3d I.hok e;refine iV PySem.F.slot_dict_get c.typeIs PySem.F.entry_dict_get (PySem.F.args_dict_get_3 _ _ _) (meetsH_dict_get_default _ a b i r) ⟨jJ hu,k,j,a6q I.hok eb,c,h _ _ (I.tok _) ?_⟩;rw[l];exact (f.val k).getD rd
end
section
variable{X:Cx}{o e f:Expr}{apos cpos:Pos}{td ty tx:TE}
end
section
variable{X:Cx}{pins:List (Addr×Obj)}{σ:St}{H:Hp}{s:Shared}{a:Addr}{kvs:List (Key×V)}{A:Around}{E:Value->Shared->Prop}
end
section
variable{X:Cx}{pins:List (Addr×Obj)}{σ:St}{H:Hp}{s:Shared}{a:Addr}{y:V}{u:Value}{A:Around}{E:Value->Shared->Prop}
end
end L2
namespace PySem
noncomputable def a0C(env:Env):List (Str×f6)->List (Str×Addr)->List (Str×Addr)
 |[],cs=>cs
 | (n,k)::r,cs=>if (k==.free)=true then a0C env r ((n,(env.cells.lookup n).getD 0)::cs) else a0C env r cs
def a34(h:∀x∈scope.names,x.2=.free->∃c,env.cells.lookup x.1=some c):iW scope env=pure (a0C env scope.names []):=by
 simp only[iW]
 suffices H:∀l b,(∀x∈l,x.2=.free->∃c,env.cells.lookup x.1=some c) ->
   forIn l b _=pure (a0C env l b) by
  rw[H scope.names [] h];rfl
 intro l
 induction l with
 |nil=>intro b _;rfl
 |cons x l ih=>
  intro b j;obtain⟨n,k⟩:=x;have g:=λb=>ih b λy o=>j y (bG _ o);rw[cz]
  by_cases hk:k=.free
  ·subst hk;obtain⟨c,m⟩:=j _ bu rfl;have f:cellOf env n=pure c:=by unfold cellOf;rw[m]
   rw[if_pos (show (f6.free==f6.free)=true from rfl),f];have e:a0C env ((n,f6.free)::l) b=a0C env l ((n,c)::b):=by
    show (if (f6.free==f6.free)=true then _ else _)=_
    rw[m];rfl
   rw[e,<- g ((n,c)::b)]
   rfl
  ·have i:(k==f6.free)=false:=by simpa using hk
   have e:a0C env ((n,k)::l) b=a0C env l b:=by
    show (if (k==f6.free)=true then _ else _)=_
    rw[i];rfl
   rw[e,<- g b];rw[i,if_neg aZ]
   rfl
def a35:∀(l:List (Str×f6))(cs:List (Str×Addr)),(∀y∈l,y.2=.free->∃c,env.cells.lookup y.1=some c)->(∀y c,cs.lookup y=some c->env.cells.lookup y=some c) ->
  ∀c,(a0C env l cs).lookup x=some c->env.cells.lookup x=some c:=by intro z0;induction z0 with
 |nil=>intro cs _ hc c h;exact hc x c h
 |cons q0 r I0=>
  obtain⟨n,k⟩:=q0;intro cs hx hc c h;have g:=λy m=>hx y (bG _ m);unfold a0C at h
  split at h
  ·rename_i hk
   have f:k=.free:=by simpa using hk
   obtain⟨d,j⟩:=hx (n,k) bu f;refine I0 _ g (λy i a=>?_) c h;rw[bL]at a;cases e:y==n with
   |true=>
    rw[e]at a;have o:y=n:=by simpa using e
    subst o;rw[j]at a ⊢;exact a
   |false=>rw[e]at a;exact hc y i a
  ·exact I0 cs g hc c h
def a5K:∀(l:List (Str×f6))(cs:List (Str×Addr))(c:Addr),cs.lookup x=some c->∃c',(a0C env l cs).lookup x=some c':=by intro z0;induction z0 with
 |nil=>intro cs c h;exact⟨c,h⟩
 |cons q0 r I0=>
  obtain⟨n,k⟩:=q0;intro cs c h;unfold a0C
  split
  ·cases e:x==n with
   |true=>exact I0 _ _ (by rw[bL,e])
   |false=>exact I0 _ c (by rw[bL,e];exact h)
  ·exact I0 cs c h
def a3C:∀(l:List (Str×f6))(cs:List (Str×Addr)),(x,f6.free)∈l->∃c,(a0C env l cs).lookup x=some c:=by intro z0;induction z0 with
 |nil=>intro cs h;cases h
 |cons _ r I0=>
  intro cs h;unfold a0C;rcases ax.mp h with e |e
  ·cases e;exact a5K r _ ((env.cells.lookup x).getD 0) (by simp)
  ·split
   ·exact I0 _ e
   ·exact I0 _ e
def a3i{env:Env}:∀(names:List (Str×f6)),
  (names.map λ(n,k)=>if (k==f6.free&&env.scope.kind==.function&&env.kindOf n==some .cell) then (n,f6.cell) else (n,k)).lookup x =
   (names.lookup x).map λk=>if (k==f6.free&&env.scope.kind==.function&&env.kindOf x==some .cell)=true then f6.cell else k:=by intro z0;induction z0 with
 |nil=>exact rfl
 |cons q0 r I0=>
  obtain⟨n,k⟩:=q0;have a:=I0
  show dh x ((if _=true then _ else (n,k))::_)=_
  cases hx:x==n with
  |true=>
   have e:x=n:=by grind
   subst e
   by_cases hc:(k==f6.free&&env.scope.kind==.function&&env.kindOf x==some .cell)=true
   simp only[bL,hx,cA,if_pos hc];simp only[bL,hx,cA,if_neg hc]
  |false=>
   by_cases hc:(k==f6.free&&env.scope.kind==.function&&env.kindOf n==some .cell)=true
   ·rw[if_pos hc];simp only[bL,hx];exact a
   ·rw[if_neg hc];simp only[bL,hx];exact a
def a1z(I:Nat->Shared->Prop)
  (turn:∀n s,I n s->wpAny (model prog w) A (pyNext it) (λr sj=>match r with
   |none=>R (.ok .next) sj
   |some v=>wpAny (model prog w) A (jE target it v) (λ_ sj=>wpAny (model prog w) A (assign target env v) (λ_ sv=>
     wpAny (model prog w) A (forIn ifs true λc r=>if r=true then do let ok <- isTrue c env (eval c env);pure (ForInStep.yield ok) else pure (ForInStep.yield r)) (λok sw=>
      if ok=true then wpAny (model prog w) A (eval elt env) (λx sx=>
       wpAny (model prog w) A (call (.builtin "list.append") [acc,x]) (λ_ sy=>∃m,m<n/\I m sy) (iX (model prog w) A env λe s'=>R (.error e) s') sx) (iX (model prog w) A env λe s'=>R (.error e) s') sw
      else ∃m,m<n/\I m sw) (iX (model prog w) A env λe s'=>R (.error e) s') sv) (iX (model prog w) A env λe s'=>R (.error e) s') sj) (λ_ _=>False) sj) (λ_ _=>False) s)
  (n:Nat) (h:I n s) :
  gF (model prog w) A (.compLoop (.ListComp elt [⟨target,iter,ifs,0⟩] scope pos) 0 it acc env) R s:=by
 refine codeAny_loop rfl I (λn s k=>?_) n h;refine wpAny_noted (fO (jB (fO (f9 (turn n s k) (λr d a=>?_) λ_ _ f=>f.elim))));cases r with
 |none=>exact fP a
 |some v=>
  refine fO (f9 a (λ_ d a=>?_) λ_ _ f=>f.elim);refine fO (f9 a (λ_ p g=>fO (f9 g (λl z b=>?_) λ_ _ f=>f)) λ_ _ f=>f);cases l with
  |false=>exact fP ⟨rfl,b⟩
  |true=>
   exact fO (fO (f9 b (λx o i=>fO (f9 i (λ_ u j=>fP (fP ⟨rfl,j⟩)) λ_ _ f=>f)) λ_ _ f=>f))
theorem a0O:∀(names:List (Str×f6))(n:Nat)(acc:List (Str×Addr)),f7 n names acc=f7 n names []++acc
 |[],_,_=>rfl
 | (x,k)::r,n,acc=>by
  rw[f7,f7]
  split
  ·rw[a0O r _ _,a0O r _ [_]];simp
  ·exact a0O r n acc
theorem a20:∀{names:List (Str×f6)}{n:Nat},(x,c)∈f7 n names []->(x,f6.cell)∈names
 |[],_,h=>by rw[f7]at h;simp at h
 |_::r,n,h=>by
  rw[f7]at h
  split at h
  ·next e=>
   rw[a0O,au]at h;rcases h with h |h
   ·exact .tail _ (a20 h)
   ·grind
  ·exact .tail _ (a20 h)
def a36{code:Value}
  (h:∀h',h'.Ns s.heap.objs.size (λ_=>none)->(∀b o,s.heap.get? b=some o->h'.get? b=some o)->jl h' (s.heap.objs.size+1) (f7 (s.heap.objs.size+1) scope.names [])->Q (newEnv scope s.heap.objs.size globals (f7 (s.heap.objs.size+1) scope.names closure) qual func code around builtins) { s with heap:=h' }) :
  wpAny M A (newFunctionEnv scope globals closure [] qual func code around builtins) Q E s:=by
 refine fO (jK (fO (wpAny_layCells _ (λ_ _ _=>rfl) scope.names closure _ _ ?_)));have e:=Heap.size_push s.heap { cls:=Value.type (if around.isSome=true then "dict" else "frame"),data:=.dict #[] };have q:=h _ ((Heap.Ns.new s.heap _).keeps (pushCells_keeps _ _)) (λb o h=>pushCells_keeps _ _ _ _ (Heap.get?_push_of_some _ h)) (by
  rw[<- e];exact cellsFrom_ok scope.names _ _ [] ⟨λ_ _ h=>by simp at h,.nil⟩ (av _))
 rw[<- e]at q;exact fO (fP (fP q))
end PySem
namespace L2
open PySem PySem.Spec PyProof.Rows
noncomputable def a15(cap:List (Option Nat))(σ:St):St:=cap.map λo=>o.bind λj=>(σ[j]?).join
def a1b:St->St->Prop
 |[],[]=>True
 |none::a,_::b=>a1b a b
 |some x::a,y::b=>y=some x/\a1b a b
 |_,_=>False
theorem a16:∀{a b:St},a1b a b->a.length=b.length/\∀(i:Nat) v,a[i]?=some (some v)->b[i]?=some (some v)
 |[],[],_=>⟨rfl,λi v h=>by simp at h⟩
 |none::a,y::b,h=>by
  have c:=a16 (b:=b) h;refine⟨by simp[c.1],λi v e=>?_⟩;cases i with
  |zero=>simp at e
  |succ i=>simpa using c.2 i v (by simp_all)
 |some x::a,y::b,h=>by
  obtain⟨d,h⟩:=(h);have c:=a16 (b:=b) h;refine⟨by simp[c.1],λi v e=>?_⟩;cases i with
  |zero=>rw[d];simpa using e
  |succ i=>simpa using c.2 i v (by simpa using e)
 |[],_::_,h=>aB h
 |none::_,[],h=>aB h
 |some _::_,[],h=>aB h
theorem a1o:∀a:St,a1b a a
 |[]=>True.intro
 |none::a=>a1o a
 |some _::a=>⟨rfl,a1o a⟩
noncomputable def capB(N:List Str)(so sc:Scope)(N':List Str)(cap:List (Option Nat)):Bool:=
 decide (sc.kind=.function)&&decide N'.Nodup&&decide (cap.length=N'.length)&&(sc.names.all λy=>decide (y.2=.cell->sc.names.lookup y.1=some .cell)) &&
 (sc.names.all λy=>decide (y.2=.local->sc.names.lookup y.1=some .local)) &&
 (sc.names.all λy=>decide (y.2=.free->so.names.lookup y.1=some .cell\/so.names.lookup y.1=some .free)) &&
 ((N'.zip cap).all λy=>match y.2 with |none=>true |some j=>decide (N[j]?=some y.1)&&decide (sc.names.lookup y.1=some .free))
structure CapOk (N:List Str) (so sc:Scope) (N':List Str) (cap:List (Option Nat)):Prop where
 kind:sc.kind=.function
 nd:N'.Nodup
 len:cap.length=N'.length
 cms:∀y∈sc.names,y.2=.cell->sc.names.lookup y.1=some .cell
 nms:∀y∈sc.names,y.2=.local->sc.names.lookup y.1=some .local
 fre:∀y∈sc.names,y.2=.free->so.names.lookup y.1=some .cell\/so.names.lookup y.1=some .free
 cap:∀(i:Nat) x j,N'[i]?=some x->cap[i]?=some (some j)->N[j]?=some x/\sc.names.lookup x=some .free
def a8x(h:capB N so sc N' cap=true):CapOk N so sc N' cap:=by
 unfold capB at h;simp only[bn,decide_eq_true_eq,bA]at h;obtain⟨⟨⟨⟨⟨⟨f,k⟩,d⟩,g⟩,b⟩,l⟩,e⟩:=h;refine⟨f,k,d,g,b,l,λi x j c a=>?_⟩;have m:(N'.zip cap)[i]?=some (x,some j):=by rw[List.getElem?_zip_eq_some];exact⟨c,a⟩
 simpa using (e (x,some j) (aL m))
structure Lk (fr:List Addr) (ex:Addr->Prop) (h h':Heap):Prop where
 keep:∀b o,h.get? b=some o->b∉fr->¬ ex b->h'.get? b=some o
 slot:∀b o,h.get? b=some o->¬ ex b->∃sl,h'.get? b=some { o with slots:=sl }
 size:h.objs.size<=h'.objs.size
def Lk.refl{fr:List Addr}{ex:Addr->Prop}{h:Heap}:Lk fr ex h h:=⟨λ_ _ q _ _=>q,λ_ o q _=>⟨o.slots,q⟩,av _⟩
def Lk.trans{fr:List Addr}{ex ex2:Addr->Prop}{h h1 h2:Heap}(a:Lk fr ex h h1)(b:Lk fr ex2 h1 h2)(i:∀x,ex2 x->ex x\/h.objs.size<=x):Lk fr ex h h2:=by
 have n:∀{x o},h.get? x=some o->¬ ex x->¬ ex2 x:=λ{x o} q n z=>by
  rcases i x z with z |z
  ·exact n z
  ·exact absurd (Heap.lt_size q) (Nat.not_lt.mpr z)
 refine⟨λx o q f z=>b.keep x o (a.keep x o q f z) f (n q z),λx o q z=>?_,aD a.size b.size⟩;obtain⟨sl,e⟩:=a.slot x o q z;obtain⟨sl2,e2⟩:=b.slot x _ e (n q z);exact⟨sl2,e2⟩
theorem Lk.funs(k:Lk fr ex h h'):∀{l:List Env},(∀b∈frs l,¬ ex b)->h.FunFrames base l->h'.FunFrames base l
 |[],_,_=>True.intro
 |env::rest,hx,⟨hk,⟨L,o,hf,hn,ho,hd⟩,hr⟩=>by
  have a:L∈frs (env::rest):=by show L∈(env::rest).filterMap _;rw[bE,hf];exact .head _
  obtain⟨d,e⟩:=k.slot L o ho (hx L a);exact⟨hk,⟨L,_,hf,hn,e,hd⟩,k.funs (λb c=>hx b (by show b∈(env::rest).filterMap _;rw[bE,hf];exact .tail _ c)) hr⟩
def FlyT(e:Addr)(cls:Value)(T:Addr)(fl:Value)(h:Heap):Prop:=∃oe vs oT ts,h.get? e=some oe/\(oe.cls=cls/\oe.dict=none)/\oe.data=.fields vs/\vs[1]?=some (.ref T)/\T≠e/\h.get? T=some oT/\oT.data=.fields ts/\ts[3]?=some fl
section
variable{M:Model}{A:Around}{E:Value->Shared->Prop}{s:Shared}{base:Heap}{env:Env}{outer:List Env}{L e T:Addr}{cls fl:Value}{Q:Unit->Shared->Prop}
def FlyT.field{Q:Value->Shared->Prop}(h:FlyT e cls T fl s.heap)(q:Q (.ref T) s):wpAny M A (field (.ref e) 1) Q E s:=by
 obtain⟨_,_,_,_,a,_,b,c,_⟩:=h;exact gH a b c q
def FlyT.mark{Q:Value->Shared->Prop}(h:FlyT e cls T fl s.heap)(q:Q fl s):wpAny M A (PySem.field (.ref T) 3) Q E s:=by
 obtain⟨_,_,_,_,_,_,_,_,_,a,c,b⟩:=h;exact gH a c b q
end
def Un.lk(u:Un fs ex0 H0 H h0 h)(v:Lk fr ex h h')(hf:∀b∈fr,b∈fs\/h0.get? b=none)(hx:∀b,ex b->b∈ex0\/h0.get? b=none):Un fs ex0 H0 H h0 h':=by
 have g:∀{b o},h0.get? b=some o->b∉ex0->¬ ex b:=λ{b o} q n z=>by
  rcases hx b z with z |z
  ·grind
  ·grind
 refine⟨λb o q n c a=>?_,λb o q n c a=>?_,u.free,λb o q a=>?_,u.tups,u.frzs,u.tbls⟩
 ·refine v.keep b o (u.keep b o q n c a) (λz=>?_) (g q a);rcases hf b z with z |z
  ·grind
  ·grind
 ·obtain⟨j,f⟩:=u.slot b o q n c a;obtain⟨d,e⟩:=v.slot b _ f (g q a);exact⟨d,e⟩
 ·obtain⟨i,f⟩:=u.there b o q a;obtain⟨d,e⟩:=v.slot b _ f (g q a);exact⟨_,e⟩
def ObjOk.is(x:ObjOk P w H h a o):∃ob,h.get? a=some ob:=by
 cases o with
 |lst xs=>obtain⟨_,_,_,_,e⟩:=x;exact⟨_,e⟩
 |tup xs=>obtain⟨_,_,_,b,e,_⟩:=x;exact⟨_,e⟩
 |dK kvs=>obtain⟨_,_,_,_,o,_,_,e,_⟩:=x;exact⟨_,e⟩
 |dT kvs=>obtain⟨_,_,_,_,o,_,_,e,_⟩:=x;exact⟨_,e⟩
 |set S n=>obtain⟨o,_,_,_,e,_⟩:=x;exact⟨_,e⟩
 |ins C dx fs=>obtain⟨_,_,_,e,_⟩:=x;exact⟨_,e⟩
 |own y=>obtain⟨_,e⟩:=x;exact⟨_,e⟩
 |xd fs=>obtain⟨_,⟨_,_,_,e,_⟩,_⟩:=x;exact⟨_,e⟩
 |rng lo hi=>obtain⟨_,_,_,e⟩:=x;exact⟨_,e⟩
 |frz b u=>obtain⟨e,_⟩:=x;exact⟨_,e⟩
 |tbl ps=>exact⟨_,x⟩
 |met f y=>exact⟨_,x⟩
 |ext φ=>obtain⟨_,⟨_,e⟩,_⟩:=x;exact⟨_,e⟩
def HOk.lk(x:HOk P w H h)(l:Lk fr ex h h')(hf:∀b∈fr,H b=none)(he:∀b,ex b->H b=none):HOk P w H h':=λa o q=>
 (x a o q).stay (λb u c r=>by
  have d:H b≠none:=by
   rcases c with rfl |c
   ·simp_all
   ·simp_all
  exact l.keep b u r (λz=>d (hf b z)) λz=>d (he b z)) (λ_ q=>q) λ_ _ q=>q
structure Fly (N:Addr->Prop) (H:Hp) (fl:Value) (e:Addr) (cls:Value) (h:Heap):Prop where
 at_:∃T,FlyT e cls T fl h/\N T/\H T=none
 old:N e
 free:H e=none
def CXx(P:fV)(w:World):CXT:=λouter H s E ev s'=>∃e C H',ev=.ref e/\s'.os=s.os/\gR s'.gens/\Un (frs outer) [] H H' s.heap s'.heap/\HOk P w H' s'.heap/\Fly (λb=>s.heap.get? b=none) H' .none e (.ref C) s'.heap/\E (.ref C) none H'
structure TKs (H H':Hp):Prop where
 tup:∀b xs,H b=some (.tup xs)->H' b=some (.tup xs)
 frz:∀b o u,H b=some (.frz o u)->H' b=some (.frz o u)
def since(H:Hp)(E:XK):XK:=λc d H'=>TKs H H'->E c d H'
structure Outs (X:Cx) (E:XK):Prop where
 xe:∀ev s',wpAny (model X.prog X.w) X.A (leaving X.env ev) (λ_ s''=>CXx X.prog X.w X.outer X.H₀ X.s₀ E ev s'') (λe' s''=>CXx X.prog X.w X.outer X.H₀ X.s₀ E e' s'') s'->X.xe ev s'
 stk:X.stack=X.env::X.outer
 frm:X.env.frame=some X.env.locals
 ex:X.ex=[]
def Outs.of{P:fV}{w:World}{K:Fg}{mg:Str->Option Value}{base:Heap}{N:List Str}{qual:Str}{scope:Scope}{f:Addr}{cd:Value}{A:Around}{outer:List Env}{s:Shared}{H:Hp}{E:XK}:Outs (cxOf (CXx P w) P w K mg base N qual scope f cd A outer s H E) E:=⟨λ_ _ h=>h,rfl,rfl,rfl⟩
section
variable{X:Cx}{E:XK}{pins:List (Addr×Obj)}{σ:St}{H:Hp}{s:Shared}
def Outs.frames(O:Outs X E)(I:Inv X pins σ H s):X.A.frames=some (X.env::X.outer):=by rw[<- O.stk];exact I.ok.frames
def Outs.sub(O:Outs X E)(I:Inv X pins σ H s):∀b∈frs (X.env::X.outer),b∈X.fs\/X.s₀.heap.get? b=none:=λb a=>by
 rw[<- O.stk]at a;rcases ax.mp (I.stkSub b a) with z |z
 ·rw[z];exact .inr (Heap.get?_none_of_le I.ok.above)
 ·exact .inl z
def Outs.funs(O:Outs X E)(I:Inv X pins σ H s):s.heap.FunFrames X.base (X.env::X.outer):=by rw[<- O.stk];exact I.stack
def Outs.free(O:Outs X E)(I:Inv X pins σ H s):∀b∈frs (X.env::X.outer),H b=none:=by rw[<- O.stk];exact I.stkFree
def Outs.base(O:Outs X E)(I:Inv X pins σ H s):Un X.fs [] X.H₀ H X.s₀.heap s.heap:=by have:=I.base;rw[O.ex]at this;exact this
def Outs.fin(O:Outs X E)(I:Inv X pins σ H s){e C T:Addr}{ex:Addr->Prop}{h':Heap}(k:Lk (frs (X.env::X.outer)) ex s.heap h')(f:FlyT e (.ref C) T .none h')(hx:∀b,ex b->X.s₀.heap.get? b=none/\H b=none)(he:ex e)(hT:ex T\/s.heap.objs.size<=T)(q:since X.H₀ E (.ref C) none H) :
  CXx X.prog X.w X.outer X.H₀ X.s₀ E (.ref e) { s with heap:=h' }:=
 ⟨e,C,H,rfl,I.os,I.bare,(O.base I).lk k (O.sub I) (λb hb=>.inr (hx b hb).1),I.hok.lk k (O.free I) λb hb=>(hx b hb).2,⟨⟨T,f,by
  rcases hT with z |z
  ·exact hx T z
  ·exact⟨Heap.get?_none_of_le (aD I.sz z),I.hok.fresh z⟩⟩,(hx e he).1,(hx e he).2⟩,q ⟨I.base.tups,I.base.frzs⟩⟩
end
def ExC(X:Cx)(E:XK)(C:Addr)(s:Shared)(H:Hp)(fp:List Addr)(ev:Value)(s':Shared):Prop:=
 ∃e Cl H',ev=.ref e/\s'.os=s.os/\gR s'.gens/\Un (frs X.stack) fp H H' s.heap s'.heap/\HOk X.prog X.w H' s'.heap/\Fly (λb=>b∈fp\/s.heap.get? b=none) H' .none e (.ref Cl) s'.heap/\(∃m,s'.heap.Ns C m)/\H' C=none/\C≠e/\E (.ref Cl) none H'
def a37(X:Cx)(EW:XK)(sc:Scope):Prop:=∀(pins:List (Addr×Obj))(σ:St)(H:Hp)(s:Shared)(C:Addr)(fp:List Addr)(use:Option (Value->Sem Unit))(Fin:Value->Shared->Prop)(acc:Value),Inv X pins σ H s->(∀b∈fp,FpOk X pins H b)->C=s.heap.objs.size ->
 ∀ev s',ExC X EW C s H fp ev s'->iX (model X.prog X.w) X.A (iB sc (f7 (C+1) sc.names (a0C X.env sc.names [])) C X.env) (λe s''=>jL (model X.prog X.w) X.A X.xe use Fin acc C (.error e) s'') ev s'
def a6s:a37 X (λ_ _ _=>False) sc:=by
 rintro a σ H s C g d c b _ _ _ e f ⟨_,_,_,_,_,_,_,_,_,_,_,_,q⟩;exact q.elim
noncomputable def cxC(X:Cx)(EW:XK)(N':List Str)(sc:Scope)(C:Addr)(s:Shared)(H:Hp)(fp:List Addr):Cx:=
 { X with N:=N',s₀:=s,H₀:=H,env:=iB sc (f7 (C+1) sc.names (a0C X.env sc.names [])) C X.env,outer:=X.stack,stack:=X.stack,ex:=fp,fn:=λx=>sc.names.lookup x==some .cell,pn:=[],xe:=ExC X EW C s H fp }
def PIfs(X:Cx)(ifs:List Expr)(t:TT):Prop:=
 ∀(pins:List (Addr×Obj))(s:Shared)(σ:St)(H:Hp)(Q:Bool->Hp->Prop),Inv X pins σ H s->t σ H Q ->
  wpAny (model X.prog X.w) X.A (forIn ifs true λc r=>if r=true then do let ok <- isTrue c X.env (eval c X.env);pure (ForInStep.yield ok) else pure (ForInStep.yield r)) (TP X pins σ Q) X.xe s
def tTT:TT:=λ_ H Q=>Q true H
def b0H:PIfs X [] tTT:=λ_ _ _ H _ I h=>wpAny_tests_nil ⟨H,I,h⟩
def b0I(h:PT X c t):PIfs X [c] t:=λa s σ H Q I q=>wpAny_tests_one (h a s σ H Q I q)
def LcB(J:It)(cap:List (Option Nat))(g:TG)(tt:TT)(te:TE)(σ:St)(Q:VK)(D:Addr)(H1:Hp):Prop:=
 ∃W:Nat->Nat->List V->Hp->Prop,(∃m,W 0 m [] (upd H1 D (.lst [])))/\∀i m ys H2,W i m ys H2 ->
  (J.stop i H2/\Q (.ref D) H2) \/
  (J.go i H2/\∃N:List V->Hp->Prop,(∀ys' H',N ys' H'->∃m',m'<m/\W (i+1) m' ys' H')/\∀x H',J.yld i H2 x H' ->
   g x (a15 cap σ) H' fun σ2 H3=>a1b (a15 cap σ) σ2/\tt σ2 H3 λb H4=>if b=true then te σ2 H4 λy H5=>∃zs,H5 D=some (.lst zs)/\zs.length<fR/\N (zs++[y]) (upd H5 D (.lst (zs++[y]))) else N ys H4)
def tLC(wi:TI)(cap:List (Option Nat))(g:TG)(tt:TT)(te:TE):TE:=fun σ H Q=>wi σ H λJ H1=>∀D,H1 D=none->LcB J cap g tt te σ Q D H1
structure CFree (X:Cx) (pins:List (Addr×Obj)) (H:Hp) (C:Addr):Prop where
 free:H C=none
 loc:C≠X.env.locals
 old:X.s₀.heap.objs.size<=C
 cell:∀x c,X.env.cells.lookup x=some c->c≠C
 pin:∀p∈X.pn++pins,p.1≠C
section
variable{X:Cx}{pins:List (Addr×Obj)}{σ:St}{H:Hp}{s:Shared}{N':List Str}{sc:Scope}{cap:List (Option Nat)}{C:Addr}{fp:List Addr}{EW:XK}
def a8y(I:Inv X pins σ H s)(ck:CapOk X.N X.env.scope sc N' cap):∀x∈sc.names,x.2=.free->∃c,X.env.cells.lookup x.1=some c:=λx a b=>
 I.ok.has x.1 (ck.fre x a b)
def a3D(I:Inv X pins σ H s)(ck:CapOk X.N X.env.scope sc N' cap)(h:(a0C X.env sc.names []).lookup x=some c):X.env.cells.lookup x=some c:=
 a35 sc.names [] (a8y I ck) (λy c h=>by simp at h) c h
def a8z(h:(f7 n sc.names acc).lookup x=some c):(f7 n sc.names []).lookup x=some c\/((f7 n sc.names []).lookup x=none/\acc.lookup x=some c):=by
 rw[a0O,dr]at h;cases e:(f7 n sc.names []).lookup x with
 |none=>rw[e]at h;exact .inr ⟨rfl,h⟩
 |some d=>rw[e]at h;exact .inl h
def a38(I:Inv X pins σ H s)(ck:CapOk X.N X.env.scope sc N' cap)(co:jl hjq n (f7 n sc.names []))(h:(f7 n sc.names (a0C X.env sc.names [])).lookup x=some c):(hjq.IsCell c none/\n<=c)\/X.env.cells.lookup x=some c:=by
 rcases a8z h with h |⟨_,h⟩
 ·exact .inl (co.empty _ _ (PySem.mem_of_lookup h))
 ·exact .inr (a3D I ck h)
def a8A(env:Env)(x:Str):(iB sc cl C env).kindOf x=(sc.names.lookup x).map λk=>if (k==f6.free&&env.scope.kind==.function&&env.kindOf x==some .cell)=true then f6.cell else k:=
 a3i sc.names
def a06{l:List (Str×f6)}(h:l.lookup x=some k):(x,k)∈l:=PySem.mem_of_lookup h
def b8c(I:Inv X pins σ H s)(ck:CapOk X.N X.env.scope sc N' cap)(hf:∀b∈fp,FpOk X pins H b)(hlt:∀b∈fp,b<s.heap.objs.size)(hC:C=s.heap.objs.size)(co:jl hjq (C+1) (f7 (C+1) sc.names [])):(cxC X EW N' sc C s H fp).Ok:=by
 have cl:∀{x:Str}{c:Addr},(f7 _ sc.names _).lookup x=some c->_\/X.env.cells.lookup x=some c:=λh=>a38 I ck co h;have j:∀{x:Str}{c:Addr},X.env.cells.lookup x=some c->c<C:=λe=>by
  obtain⟨v,q⟩:=I.cell _ _ e;rw[hC];exact q.lt
 refine⟨I.ok.mod,ck.kind,I.ok.glob,I.ok.blt,by rw[hC];exact av _,λx y c t g=>?_,λx m=>?_,λx c h g=>?_,I.ok.hd,I.ok.frames,.inl rfl,λb a=>⟨?_,λx c h=>?_⟩,I.bs,aD I.ok.bsz I.sz,λb o e a=>?_,λb a r=>?_,I.stack,I.stkFree⟩
 ·rcases a8z t with a1 |⟨_,a1⟩<;>rcases a8z g with a2 |⟨_,a2⟩
  ·exact name_of_addr co.apart (PySem.mem_of_lookup a1) (PySem.mem_of_lookup a2)
  ·exact absurd (aP (j (a3D I ck a2)) (cB (co.empty _ _ (PySem.mem_of_lookup a1)).2)) (bt _)
  ·exact absurd (aP (j (a3D I ck a1)) (cB (co.empty _ _ (PySem.mem_of_lookup a2)).2)) (bt _)
  ·exact I.ok.inj x y c (a3D I ck a1) (a3D I ck a2)
 ·have f:(sc.names.lookup x).map (λk=>if (k==f6.free&&X.env.scope.kind==.function&&X.env.kindOf x==some .cell)=true then f6.cell else k)=some .cell \/
    (sc.names.lookup x).map (λk=>if (k==f6.free&&X.env.scope.kind==.function&&X.env.kindOf x==some .cell)=true then f6.cell else k)=some .free:=by
   rw[<- a8A X.env x];exact m
  show ∃c,(f7 _ sc.names _).lookup x=some c
  cases e:sc.names.lookup x with
  |none=>rw[e]at f;rcases f with z |z<;>cases z
  |some k=>
   rw[a0O,dr];cases e2:(f7 _ sc.names []).lookup x with
   |some d=>exact⟨d,rfl⟩
   |none=>
    by_cases hk:k=.free
    ·subst hk;exact a3C sc.names [] (a06 e)
    ·rw[e]at f;have a:(k==f6.free)=false:=by simpa using hk
     simp only[cA,a,aN.injEq]at f;rcases f with z |z
     ·subst z;obtain⟨d,i⟩:=a2O e;rw[i]at e2;cases e2
     ·exact absurd z hk
 ·have e:sc.names.lookup x=some .cell:=by
   have h:(sc.names.lookup x==some .cell)=true:=h;simpa using h
  obtain⟨d,i⟩:=a2O e;have g:(f7 _ sc.names _).lookup x=some c:=g;rw[a0O,dr,i]at g;cases g;exact aD (cu hC.symm) (cB (co.empty _ _ (PySem.mem_of_lookup i)).2)
 ·show b≠C
  rw[hC];exact aE (hlt b a)
 ·rcases cl h with ⟨_,z⟩ |z
  ·exact λe=>absurd (aP (hlt b a) (aD (cu hC.symm) (e▸cB z))) (bt _)
  ·exact (hf b a).2.2.2.2.1 x c z
 ·obtain⟨_,_,_,z,_⟩:=hf b a;rcases z with z |z
  ·exact I.ok.noex b o e z
  ·exact absurd (aP (Heap.lt_size e) (aD I.ok.bsz z)) (bt _)
 ·rcases ax.mp (I.stkSub b r) with z |z
  ·exact (hf b a).2.1 z
  ·exact (hf b a).2.2.1 z
def b5H(I:Inv X pins σ H s)(ck:CapOk X.N X.env.scope sc N' cap)(hf:∀b∈fp,FpOk X pins H b)(hlt:∀b∈fp,b<s.heap.objs.size)(hC:C=s.heap.objs.size)
  (hn:hjq.Ns C m) (co:jl hjq (C+1) (f7 (C+1) sc.names [])) (hk:∀b o,s.heap.get? b=some o->hjq.get? b=some o):Inv (cxC X EW N' sc C s H fp) [] (a15 cap σ) H { s with heap:=hjq,toks:=t' }:=by
 refine⟨b8c I ck hf hlt hC co,rfl,I.bare,Un.kept hk,⟨m,hn,λi x v F a T=>?_⟩,λx c h=>?_,?_,λx c h=>?_,λp G=>absurd (show p∈([]) from G) (by simp),I.hok.kept hk,?_⟩
 ·have B:=F;unfold a15 at a;rw[aA]at a;cases ec:cap[i]? with
  |none=>rw[ec]at a;cases a
  |some o=>
   rw[ec]at a;cases o with
   |none=>simp at a
   |some j=>
    have e:(σ[j]?).join=some v:=by simpa using a
    have t:σ[j]?=some (some v):=by
     cases q:σ[j]? with
     |none=>rw[q]at e;cases e
     |some w=>rw[q]at e;rw[show w=some v from e]
    obtain⟨L,g⟩:=ck.cap i x j B ec;have n:=ck.fre _ (a06 g) rfl;obtain⟨S,_,M⟩:=I.loc;obtain⟨u,E,Q⟩:=M j x v L t (.inr n);refine⟨u,E,.inr ⟨?_,?_⟩⟩
    ·show (iB sc _ C X.env).kindOf x=some .cell\/(iB sc _ C X.env).kindOf x=some .free
     rw[a8A,g];simp only[cA,beq_self_eq_true,bM]
     by_cases hc:(X.env.scope.kind==ScopeKind.function&&X.env.kindOf x==some f6.cell)=true
     ·simp_all
     ·rw[if_neg hc];exact .inr rfl
    ·obtain⟨D,l⟩:=a3C sc.names [] (a06 g);have J:=a3D I ck l;rcases Q with ⟨k,_⟩ |⟨_,c,ec',z⟩
     ·have R:X.env.scope.names.lookup x=some .local:=k;have f:=n;rw[R]at f;rcases f with q |q<;>cases q
     ·rw[J]at ec';cases ec';obtain⟨y,A,r⟩:=z;refine⟨D,?_,y,hk _ _ A,r⟩
      show (f7 (C+1) sc.names _).lookup x=some D
      rw[a0O,dr,l];cases a:(f7 (C+1) sc.names []).lookup x with
      |none=>rfl
      |some d=>
       have:=ck.cms _ (a20 (PySem.mem_of_lookup a)) rfl
       rw[g]at this;cases this
 ·rcases a38 I ck co h with ⟨z,_⟩ |z
  ·grind
  ·obtain⟨v,y,A,r⟩:=I.cell x c z;exact⟨v,y,hk _ _ A,r⟩
 ·show H C=none
  rw[hC];exact I.hok.fresh (av _)
 ·rcases a38 I ck co h with ⟨_,z⟩ |z
  ·exact I.hok.fresh (aD (cu hC.symm) (cB z))
  ·exact I.freeC x c z
 ·show (a15 cap σ).length=N'.length
  unfold a15;rw[aq];exact ck.len
def b3e(I:Inv X pins σ H s)(hf:∀b∈fp,FpOk X pins H b)(J:Inv (cxC X EW N' sc C s H fp) pins' σ' H' s'):Inv X pins σ H' s':=
 I.call' J.os J.base J.hok J.bare λb a=>⟨(hf b a).2.2.2.1,(hf b a).2.1,(hf b a).2.2.2.2.1,(hf b a).2.2.2.2.2⟩
def b0J(I:Inv X pins σ H s)(hC:C=s.heap.objs.size)(J:Inv (cxC X EW N' sc C s H fp) pins' σ' H' s'):CFree X pins H' C:=by
 refine⟨J.free,by rw[hC];exact bH I.lt,by rw[hC];exact I.sz,λx c e z=>?_,λp a z=>(absurd (Heap.lt_size (I.pin p a).1) (by simp_all))⟩
 ·obtain⟨v,q⟩:=I.cell x c e;exact absurd q.lt (by simp_all)
def CFree.after(F:CFree X pins H C)(I:Inv X pins σ H s)(k:∀b o,b≠C->s.heap.get? b=some o->h'.get? b=some o):Inv X pins σ H { s with heap:=h',toks:=t' }:=
 I.turned k F.free F.loc (.inr F.old) F.cell F.pin
end
section
variable{X:Cx}{elt tg iter:Expr}{ifs:List Expr}{sc:Scope}{pos:Pos}{wi:TI}{g:TG}{tt:TT}{te:TE}{N':List Str}{cap:List (Option Nat)}{EW:XK}
def a8B(hc:X.calm=true)(hE:a37 X EW sc)(ck:CapOk X.N X.env.scope sc N' cap)(hi:PI X tg iter wi)
    (hg:∀C s H fp,PG (cxC X EW N' sc C s H fp) tg g) (ht:∀C s H fp,PIfs (cxC X EW N' sc C s H fp) ifs tt) (he:∀C s H fp,PE (cxC X EW N' sc C s H fp) elt te)
    (hs:∀x,hU iter X.env x=pure x) {Fin:Value->Shared->Prop}
 (I:Inv X pins σ H s) (h:tLC wi cap g tt te σ H Q)
    (fin:∀D s' C m H',Inv X pins σ H' s'->Q (.ref D) H'->s'.heap.Ns C m->CFree X pins H' C->jL (model X.prog X.w) X.A X.xe use Fin (.ref D) C (.ok .next) s') :
    wpAny (model X.prog X.w) X.A (comprehension (.ListComp elt [⟨tg,iter,ifs,0⟩] sc pos) sc X.env pos' (newList []) false (eval iter X.env) use) Fin X.xe s:=by
  refine wpAny_comprehension_free rfl hs (a34 (a8y I ck)) ck.kind ck.nms (thn (hi pins s σ H _ I h) λv s1 h1=>thn h1 λitv j h2=>?_);obtain⟨it,f,tn,J,H2,e,I2,T,st2,f2,h2⟩:=h2;subst e;have hD:=I2.hok.fresh (av _);obtain⟨W,⟨m0,w0⟩,turn⟩:=h2 j.heap.objs.size hD;refine g7 ?_;have t:=I2.lnew (t':=j.toks) .nil (aR _);generalize hs3:({ j with heap:=j.heap.push { cls:=.type "list",data:=.seq ([]:List Value).toArray } }:Shared)=s3 at t;generalize hH3:upd H2 j.heap.objs.size (.lst [])=H3 at t w0;have ac:∀b∈f,b<j.heap.objs.size:=λb a=>by
    obtain⟨o,e,_⟩:=T.obj _ _ st2 b a;exact Heap.lt_size e
  have sz3:s3.heap.objs.size=j.heap.objs.size+1:=hs3▸Heap.size_push _ _;have L:∀b∈f,b<s3.heap.objs.size:=λb a=>by rw[sz3];exact cD (ac b a)
  have B:∀b∈f,FpOk X pins H3 b:=λb a=>by
    refine⟨?_,(f2 b a).2⟩;rw[<- hH3,a0c (aE (ac b a))];exact (f2 b a).1
  have st3:tn 0 s3.heap:=T.keep _ _ _ st2 λb _ o e=>by rw[<- hs3];exact Heap.get?_push_of_some _ e
  refine a36 λhjq hjj hk co=>?_;have I4:=b5H (EW:=EW) (t':=s3.toks) t ck B L rfl hjj co hk;generalize hs4:({ s3 with heap:=hjq,toks:=s3.toks }:Shared)=s4 at I4 ⊢;have st4:tn 0 s4.heap:=T.keep _ _ _ st3 λb _ o e=>by rw[<- hs4];exact hk b o e
  have G:∀{k:Hp}{l:List (Addr×Obj)},(∀p∈l,p.1∉f)->(∀b∈f,k b=none)->∀b∈f,FpOk (cxC X EW N' sc s3.heap.objs.size s3 H3 f) l k b:=λ{k l} E hn b a=>
    ⟨hn b a,aE (L b a),λz=>by
      rcases ax.mp (t.stkSub b z) with z |z
      · exact (B b a).2.1 z
      · exact (B b a).2.2.1 z,.inl a,λx c e=>by
        rcases a38 t ck co e with ⟨_,z⟩ |z
        · exact λe=>absurd (aP (L b a) (e▸cB z)) (bt _)
        · exact (B b a).2.2.2.2.1 x c z,λp hp' z=>E p hp' (z▸a)⟩
  have hx:=hE pins σ H3 s3 s3.heap.objs.size f use Fin (.ref j.heap.objs.size) t B rfl;have ab:gF (model X.prog X.w) X.A (.compLoop (.ListComp elt [⟨tg,iter,ifs,0⟩] sc pos) 0 (.ref it) (.ref j.heap.objs.size) (iB sc (f7 (s3.heap.objs.size+1) sc.names (a0C X.env sc.names [])) s3.heap.objs.size X.env))
      (jL (model X.prog X.w) X.A X.xe use Fin (.ref j.heap.objs.size) s3.heap.objs.size) s4:=by
    refine a1z (λn s'=>∃i ys σ' k,Inv (cxC X EW N' sc s3.heap.objs.size s3 H3 f) [] σ' k s'/\a1b (a15 cap σ) σ'/\tn i s'.heap/\(∀b∈f,k b=none)/\W i n ys k) ?_ m0
      ⟨0,[],a15 cap σ,H3,I4,a1o _,st4,λb a=>(B b a).1,w0⟩
    rintro n s5 ⟨i,ys,σ5,H5,I5,k5,st5,fr5,w5⟩;have kk:=a16 k5;have I5:=I5.weak kk.1 kk.2;rcases turn i n ys H5 w5 with ⟨stop,q⟩ |⟨go,N,hN,step⟩
    · refine thn (T.done (cxC X EW N' sc s3.heap.objs.size s3 H3 f) rfl rfl rfl hc i [] s5 _ H5 _ I5 (G (by simp) fr5) st5 stop) λr s6 ⟨hr,I6⟩=>?_
      subst hr;obtain⟨m6,n6,_⟩:=I6.loc;exact fin _ s6 _ m6 H5 (b3e t B I6) q n6 (b0J t rfl I6)
    · refine thn (T.item (cxC X EW N' sc s3.heap.objs.size s3 H3 f) rfl rfl rfl hc i [] s5 _ H5 _ I5 (G (by simp) fr5) st5 go) λr s6 ⟨u,hr,h6⟩=>?_
      subst hr;refine thn h6 λ_ s7 ⟨x,H7,I7,r7,y7,aa,fr7⟩=>?_;have R:∀{σ9:St}{F:Hp}{U:Shared}{M:List V},Inv (cxC X EW N' sc s3.heap.objs.size s3 H3 f) ([]++a6o f s7.heap) σ9 F U->a1b (a15 cap σ) σ9->N M F ->
          ∃m,m<n/\∃i ys σ' k,Inv (cxC X EW N' sc s3.heap.objs.size s3 H3 f) [] σ' k U/\a1b (a15 cap σ) σ'/\tn i U.heap/\(∀b∈f,k b=none)/\W i m ys k:=λ{σ9 F U M} Y k9 n9=>by
        obtain⟨m',hm,w9⟩:=hN M F n9;refine⟨m',hm,i+1,M,σ9,F,Y.unpinned,k9,T.keep _ _ _ aa λb a o e=>(Y.pin (b,o) (aY _ (aY _ (a1r a e)))).1,λb a=>?_,w9⟩;obtain⟨o,e,d⟩:=T.obj _ _ aa b a;exact (Y.pin (b,o) (aY _ (aY _ (a1r a e)))).2.1
      refine f9 (hg _ _ _ _ _ s7 _ H7 x u _ (I7.pinned (G (by simp) fr7) (T.obj _ _ aa)) r7 (step x H7 y7)) (λ_ s8 ⟨σ8,H8,I8,k8,q8⟩=>?_) hx;refine f9 (ht _ _ _ _ _ s8 σ8 H8 _ I8 q8) (λb U ⟨F,Y,q9⟩=>?_) hx;cases b with
      |false=>
        rw[if_neg aZ]at q9 ⊢;exact R Y k8 q9
      |true=>
        rw[if_pos rfl]at q9 ⊢;refine f9 (he _ _ _ _ _ U σ8 F _ Y q9) (λy s10 ⟨vy,H10,I10,r10,zs,hacc,hsz,q10⟩=>?_) hx;refine f9 (a4U (X:=cxC X EW N' sc s3.heap.objs.size s3 H3 f) _ s10 σ8 H10 (.ref j.heap.objs.size) [vy] (.ref j.heap.objs.size) [y] (λ_ k=>N (zs++[vy]) k) I10 rfl (.cons r10 .nil) ⟨_,zs,vy,rfl,rfl,hacc,hsz,q10⟩) (λ_ s11 ⟨_,H11,I11,_,q11⟩=>?_) hx;exact R I11 k8 q11
  exact codeAny_compStart_list ab (T.self _ 0 _ _ _ st4 ab)
def b8d(hc:X.calm=true)(hE:a37 X EW sc)(hNN:X.N=Nj)(hso:X.env.scope=so)(ck:capB Nj so sc N' cap=true)(hi:PI X tg iter wi)
  (hg:∀C s H fp,PG (cxC X EW N' sc C s H fp) tg g) (ht:∀C s H fp,PIfs (cxC X EW N' sc C s H fp) ifs tt) (he:∀C s H fp,PE (cxC X EW N' sc C s H fp) elt te)
  (hs:∀x,hU iter X.env x=pure x:=by intro _;rfl):PE X (.ListComp elt [⟨tg,iter,ifs,0⟩] sc pos) (tLC wi cap g tt te):=by
 intro f s σ H Q I h;subst hNN hso;exact a8B hc hE (a8x ck) hi hg ht he hs I h λD d C m i c q k F=>⟨m,k,λl a=>⟨.ref D,i,F.after c (λb o j e=>a.extBut b o j e),rfl,q⟩⟩
def b0K(hN:X.N.Nodup)(hx:X.N[i]?=some x)(hl:X.env.scope.names.lookup x=some .local)(hc:X.calm=true)(hE:a37 X EW sc)(hNN:X.N=Nj)(hso:X.env.scope=so)(ck:capB Nj so sc N' cap=true)(hi:PI X tg iter wi)
  (hg:∀C s H fp,PG (cxC X EW N' sc C s H fp) tg g) (ht:∀C s H fp,PIfs (cxC X EW N' sc C s H fp) ifs tt) (he:∀C s H fp,PE (cxC X EW N' sc C s H fp) elt te)
  (hsw:gZ (.ListComp elt [⟨tg,iter,ifs,0⟩] sc pos) (some (.Name x pos')) spos.line X.env=pure true)
  (hs:∀x,hU iter X.env x=pure x):PS X (.Assign [.Name x pos'] (.ListComp elt [⟨tg,iter,ifs,0⟩] sc pos) spos) (tAsg (tLC wi cap g tt te) (a73 i)):=by
 subst hNN hso;intro f s σ H D I h;rw[exec_Assign_Name_used _ _ _ _ hsw];refine fO (jB (fO (fO (f9 (a8B hc hE (a8x ck) hi hg ht he hs I h λd c C m w t q E F=>?_) (λ_ c u=>fP (fP u)) λ_ _ e=>e))));refine wpAny_assign_Name (a4N t hN hx (.inl hl) (v:=.ref d) rfl (λj n y=>?_) (.inr hl));obtain⟨a,p,r⟩:=y;have l:C≠a:=by
  rcases r with z |z
  ·rw[z];exact F.loc
  ·exact Ne.symm (F.cell _ _ z)
 exact⟨m,E.sameBut p l,λG k=>⟨_,w,F.after n (λb o B e=>k.extBut b o B e),q⟩⟩
end
section
variable{X:Cx}{st:Stmt}{rest:List Stmt}{t u:TS}{e:Expr}{te:TE}{tt:TT}
end
mutual
def DV(H:Hp):PyData->V->Prop
 |.none,x=>x=.non
 |.bool b,x=>x=.bl b
 |.int i,x=>x=.int i
 |.str s,x=>x=.str s
 |.list ds,x=>∃a vs,x=.ref a/\H a=some (.lst vs)/\DVs H ds vs
 |.tuple ds,x=>∃a vs,x=.ref a/\H a=some (.tup vs)/\DVs H ds vs
 |.dict _,_=>False
def DVs(H:Hp):List PyData->List V->Prop
 |[],vs=>vs=[]
 |d::ds,vs=>∃v r,vs=v::r/\DV H d v/\DVs H ds r
end
mutual
theorem DV.reads{P:fV}{w:World}{H:Hp}{h:Heap}(ok:HOk P w H h):∀{d:PyData}{x:V}{u:Value},DV H d x->RelV x u->∃as,Reads h u d as
 |.none,x,u,q,r=>by
  unfold DV at q;subst q;cases (show u=Value.none from r);exact⟨_,.none⟩
 |.bool b,x,u,q,r=>by
  unfold DV at q;subst q;cases (show u=Value.bool b from r);exact⟨_,.bool b⟩
 |.int i,x,u,q,r=>by
  unfold DV at q;subst q;obtain⟨t,e⟩:=(show ∃t,u=Value.int i t from r);subst e;exact⟨_,.int i t⟩
 |.str s,x,u,q,r=>by
  unfold DV at q;subst q;obtain⟨t,e⟩:=(show ∃t,u=Value.str s t from r);subst e;exact⟨_,.str s t⟩
 |.list ds,x,u,q,r=>by
  unfold DV at q;obtain⟨a,vs,e,ha,q⟩:=q;subst e;cases (show u=Value.ref a from r);obtain⟨_,its,n,rv,e⟩:=ok a _ ha;obtain⟨as,rd⟩:=DVs.reads ok q rv;exact⟨_,.list e rfl rfl (by simpa using rd)⟩
 |.tuple ds,x,u,q,r=>by
  unfold DV at q;obtain⟨a,vs,e,ha,q⟩:=q;subst e;cases (show u=Value.ref a from r);obtain⟨_,its,rv,o,e,c,n,d⟩:=ok a _ ha;obtain⟨as,rd⟩:=DVs.reads ok q rv;exact⟨_,.tuple e c d (by simpa using rd)⟩
 |.dict _,x,u,q,r=>by unfold DV at q;exact q.elim
theorem DVs.reads{P:fV}{w:World}{H:Hp}{h:Heap}(ok:HOk P w H h):∀{ds:List PyData}{vs:List V}{us:List Value},DVs H ds vs->Vals vs us->∃as,ReadsAll h us ds as
 |[],vs,us,q,r=>by
  unfold DVs at q;subst q;cases r;exact⟨_,.nil⟩
 |d::ds,vs,us,q,r=>by
  unfold DVs at q;obtain⟨v,rr,e,q1,q2⟩:=q;subst e;cases r with
  |cons r1 r2=>
   obtain⟨as,h1⟩:=DV.reads ok q1 r1;obtain⟨bs,h2⟩:=DVs.reads ok q2 r2;exact⟨_,.cons h1 h2⟩
end
def rEqD:R2:=λx y H Q=>∃d e,DV H d x/\DV H e y/\SeqAt.shaped d=true/\SeqAt.shaped e=true/\Q (.bl (PyData.eqv d e)) H
def rNeD:R2:=λx y H Q=>∃d e,DV H d x/\DV H e y/\SeqAt.shaped d=true/\SeqAt.shaped e=true/\Q (.bl (!PyData.eqv d e)) H
section
variable{X:Cx}
def b5I(hu:X.A.units+66<cLine):OpR X (fZ .Eq) rEqD:=by
 intro i s σ H x y v u Q I g k h;obtain⟨d,e,b,f,l,a,q⟩:=h;obtain⟨m,j⟩:=b.reads I.hok g;obtain⟨n,c⟩:=f.reads I.hok k;exact eq_dataH j c l a (by lia) ⟨.bl _,H,I,rfl,q⟩
def b5J(hu:X.A.units+66<cLine):OpR X (fZ .NotEq) rNeD:=by
 intro b s σ H x y v u Q I j c h;obtain⟨d,e,a,g,l,i,q⟩:=h;obtain⟨n,f⟩:=a.reads I.hok j;obtain⟨m,k⟩:=g.reads I.hok c;exact ne_dataH f k l i (by lia) ⟨.bl _,H,I,rfl,q⟩
def rInD(neg:Bool):R2:=λx y H Q=>∃d p ds vs,DV H d x/\y=.ref p/\(H p=some (.lst vs)\/H p=some (.tup vs))/\DVs H ds vs/\SeqAt.shaped d=true/\SeqAt.shaped (.list ds)=true /\
 Q (.bl (if neg then !(ds.any λy=>PyData.eqv y d) else ds.any λy=>PyData.eqv y d)) H
def b5K(hu:X.A.units+66<cLine):OpR X (fZ .In) (rInD false):=by
 intro r s σ H x y v u Q I z m h;obtain⟨d,p,b,j,w,e,a,i,k,t,q⟩:=h;subst e;obtain⟨C,f⟩:=w.reads I.hok z;have n:PyData.canLayAll0 b=true:=by have:=SeqAt.canLay_of_shaped t;simpa[PyData.canLay0]using this
 have g:=SeqAt.canLay_of_shaped k;have o:=SeqAt.depth_of_shaped k;have l:X.A.units+1+min (PyData.depthAll b) d.depth<cLine:=by have:=eL (PyData.depthAll b) d.depth;lia
 rcases a with a |a
 ·obtain⟨B,c⟩:=(show DV H (.list b) _ by unfold DV;exact⟨p,j,rfl,a,i⟩).reads I.hok m;exact SeqAt.in_list_reads c f n g l ⟨.bl _,H,I,rfl,q⟩
 ·obtain⟨B,c⟩:=(show DV H (.tuple b) _ by unfold DV;exact⟨p,j,rfl,a,i⟩).reads I.hok m;exact SeqAt.in_tuple_reads c f n g l ⟨.bl _,H,I,rfl,q⟩
def b5L(_ j:Int):Prop:=0<j/\j<2 ^ 64
def b0L:OpR X (gb .FloorDiv) (rI b5L λi j=>.int (i / j)):=opI λi j _ _ _ _ _ a q=>by
 have c:(0:Int)<j:=a.1;have d:j<2 ^ 64:=a.2;refine floordiv_int (by lia) ?_ (.inl (PyProof.noPylong_of_log2 ?_))
 ·rw[Int.fdiv_eq_ediv_of_nonneg i (by lia)];exact q
 ·have b:j.natAbs<2 ^ 64:=by lia
  have e:=(Nat.log2_lt (by lia)).mpr b
  lia
def rIsT(K:Fg):List V->Hp->VK->Prop:=λxs H Q=>∃x T t b,xs=[x,.ty T]/\TyOf K H x t/\PySem.W.kitOne K t (.type T)=some b/\Q (.bl b) H
def b0M:CallR X (.builtin "isinstance") (rIsT X.K):=by
 intro c s σ H j k Q I r h;obtain⟨x,T,t,b,rfl,i,e,q⟩:=h;obtain⟨u,g,rfl,f,a⟩:=a8e r;cases (a);exact a8k I f i e λd=>⟨.bl b,H,I.tok d,rfl,q⟩
end
section
variable{X:Cx}{E:XK}
end
section
variable{X:Cx}{E:XK}
end
end L2
namespace L2
open PySem PySem.Spec PySem.Calls PyProof.Rows PySem.W
structure ExK (K:Frag) (D:Addr):Prop where
 cls:(clsIn K D).isSome=true
 ga:findIn K (.ref D) "__getattribute__"=some (some (.builtin "BaseException.__getattribute__"))
 hk:findIn K (.ref D) "__getattr__"=some none
 ha:findIn K (.ref D) "__class__"=some (some (.builtin "object.__class__"))
 hn:specialIn K (.builtin "object.__class__") "__get__"=some (some (.builtin "getset_descriptor.__get__"))
 tk:takesIn K (.builtin "object.__class__")=some true
 hm:mroIn K D (.type "object")=some true
 hb:mroIn K D (.type "BaseException")=some true
section
variable{prog:fV}{w:World}{A:Around}{E:Value->Shared->Prop}{s:Shared}{K:Frag}{x D:Addr}{ox:Obj}
def ExK.find(k:ExK K D):findObj K D none "__class__"=some (.bind (.builtin "getset_descriptor.__get__") (.builtin "object.__class__")):=by
 obtain⟨b,a⟩:=eK.mp k.cls;unfold findObj;rw[a,eN,k.ha,eN];simp[k.hn,k.tk]
end
end L2
namespace L2
open PySem PySem.Spec PyProof.Rows
section
variable{X:Cx}{pins:List (Addr×Obj)}{σ σ':St}{H:Hp}{s:Shared}
def Inv.lk(I:Inv X pins σ H s)(k:Lk (frs X.stack) ex s.heap h')(hx:∀b,ex b->X.s₀.heap.get? b=none/\H b=none/\(∀x c,X.env.cells.lookup x=some c->c≠b)/\∀p∈X.pn++pins,p.1≠b)
  (hl:∃m,h'.Ns X.env.locals m/\∀(i:Nat)(x:Str)(v:V),X.N[i]?=some x->σ'[i]?=some (some v)->Vis X.env.scope x->∃u,RelV v u/\Look X.env h' m x u) (hn:σ'.length=σ.length):Inv X pins σ' H { s with heap:=h',toks:=t' }:=by
 refine⟨I.ok,I.os,I.bare,I.base.lk k (λb a=>?_) (λb a=>.inr (hx b a).1),hl,λx c e=>?_,I.free,I.freeC,λp g=>?_,I.hok.lk k I.stkFree λb a=>(hx b a).2.1,hn.trans I.len⟩
 ·rcases ax.mp (I.stkSub b a) with z |z
  ·rw[z];exact .inr (Heap.get?_none_of_le I.ok.above)
  ·simp_all
 ·obtain⟨v,o,l,n⟩:=I.cell x c e;obtain⟨r,d⟩:=k.slot c o l λz=>(hx c z).2.2.1 x c e rfl;exact⟨v,_,d,n⟩
 ·obtain⟨d,q,f,h,j⟩:=I.pin p g;refine⟨k.keep _ _ d (λz=>?_) (λz=>(hx _ z).2.2.2 p g rfl),q,f,h,j⟩;rcases ax.mp (I.stkSub _ z) with z |z
  ·exact f z
  ·exact h z
abbrev Cx.hnd(X:Cx)(e:Addr)(oe:Obj):Cx:={ X with A:=X.A.mark (some (.ref e)),calm:=false,pn:=(e,oe)::X.pn,xe:=λ_ _=>False }
noncomputable def Inv.hnd(I:Inv X pins σ H s)(h1:s.heap.get? e=some oe)(h2:H e=none)(h3:e≠X.env.locals)(h4:e∉X.fs)(h5:∀v,oe.data≠.cell v):Inv (X.hnd e oe) pins σ H s:=
 ⟨⟨I.ok.mod,I.ok.kind,I.ok.glob,I.ok.blt,I.ok.above,I.ok.inj,I.ok.has,I.ok.cab,(λz=>nomatch z),I.ok.frames,I.ok.stk,I.ok.exf,I.ok.bs,I.ok.bsz,I.ok.noex,I.ok.exfs,I.ok.funs,I.ok.frf⟩,I.os,I.bare,I.base,I.loc,I.cell,I.free,I.freeC,(λp a=>by
  rcases ax.mp (a) with rfl |a
  ·exact⟨h1,h2,h3,h4,h5⟩
  ·exact I.pin p a),I.hok,I.len⟩
end
section
variable{X:Cx}{k:Nat}{f C D:Addr}{fd:gz}{ps:List Str}{sp:Sp}{x n:Str}{p pos np hpos tpos:Pos}{e ce:Expr}{es:List Expr}{t:TA}
end
abbrev a2C(c:Addr)(q:Str):HO:=.ext λh=>h.CodeRec (.ref c) q
def TabO(H:Hp)(p:Pos)(q:Str)(ps:Array Value):Prop:=ps=#[]\/∃c oc,ps=#[rawInt p.line,rawInt p.col,.ref c]/\H c=some (.frz oc (a2C c q))
def Tab(H:Hp)(P:Addr)(p:Pos)(q:Str):Prop:=∃ps,H P=some (.tbl ps)/\TabO H p q ps
def Tab.stay(f:∀b o c,H b=some (.frz o (a2C c q))->H' b=some (.frz o (a2C c q)))(e:H' P=H P)(h:Tab H P p q):Tab H' P p q:=by
 obtain⟨a,g,h⟩:=h;refine⟨a,e.trans g,?_⟩;rcases h with h |⟨c,oc,h,k⟩
 ·exact .inl h
 ·exact .inr ⟨c,oc,h,f _ _ _ k⟩
end L2
namespace L3
open PySem PySem.Spec PyProof.Rows L2
inductive Z where
 |non |bl (b:Bool) |int (i:Int) |str (x:Str) |ref (a:Addr) |ty (n:String) |scr (a:Addr) (ns:List Int)
 |tup (ws:List Z)
mutual
def eqZ:Z->Z->Bool
 |.non,.non=>true
 |.bl a,.bl b=>a==b
 |.int a,.int b=>decide (a=b)
 |.str a,.str b=>decide (a=b)
 |.ref a,.ref b=>decide (a=b)
 |.ty a,.ty b=>decide (a=b)
 |.scr a ns,.scr b ms=>decide (a=b)&&decide (ns=ms)
 |.tup a,.tup b=>eqZs a b
 |_,_=>false
def eqZs:List Z->List Z->Bool
 |[],[]=>true
 |a::as,b::bs=>eqZ a b&&eqZs as bs
 |_,_=>false
end
mutual
theorem a8C:∀x y:Z,eqZ x y=true↔x=y
 |.tup a,y=>by
  cases y with
  |tup b=>simp only[eqZ,Z.tup.injEq];exact a6t a b
  |_=>simp[eqZ]
 |.non,y=>by cases y<;>simp[eqZ]
 |.bl _,y=>by cases y<;>simp[eqZ]
 |.int _,y=>by cases y<;>simp[eqZ]
 |.str _,y=>by cases y<;>simp[eqZ]
 |.ref _,y=>by cases y<;>simp[eqZ]
 |.ty _,y=>by cases y<;>simp[eqZ]
 |.scr _ _,y=>by cases y<;>simp[eqZ]
theorem a6t:∀x y:List Z,eqZs x y=true↔x=y
 |[],y=>by cases y<;>simp[eqZs]
 |a::as,y=>by
  cases y with
  |nil=>simp[eqZs]
  |cons b bs=>simp only[eqZs,bn,bN.injEq,a8C a b,a6t as bs]
end
instance:DecidableEq Z:=λx y=>decidable_of_iff _ (a8C x y)
section
variable{K:Fg}{H H' H1 H2:Hp}{a p:Addr}{xs:List V}
def Fz(K:Fg)(H:Hp)(a:Addr)(xs:List V):Prop:=
 (∃o,H a=some (.frz o (.lst xs)))\/∃(o:Obj)(its:Array Value)(n:Nat),K.lookup a=some o/\o.cls=.type "list"/\o.dict=none/\o.data=.seq its n/\its.size<=fR/\Vals xs its.toList
def Fz.sq(h:Fz K H a xs):SqL K H a xs:=by
 rcases h with ⟨o,h⟩ |h
 ·exact .inl (.inr ⟨o,h⟩)
 ·exact .inr h
def Fz.of(hO:Only H)(h:SqL K H a xs):Fz K H a xs:=by
 rcases h with (h |h) |h
 ·rcases hO a with z |⟨o,ys,z⟩
  ·grind
  ·simp_all
 ·exact .inl h
 ·exact .inr h
structure TW (K:Fg) (H H':Hp):Prop where
 tup:∀a xs,H a=some (.tup xs)->H' a=some (.tup xs)
 frz:∀a xs,Fz K H a xs->Fz K H' a xs
structure TK (K:Fg) (H H':Hp):Prop where
 tup:∀a xs,H a=some (.tup xs)->H' a=some (.tup xs)
 frz:∀a xs,Fz K H a xs->Fz K H' a xs
 frd:∀a o u,H a=some (.frz o u)->H' a=some (.frz o u)
def TK.refl(K:Fg)(H:Hp):TK K H H:=⟨λ_ _ h=>h,λ_ _ h=>h,λ_ _ _ h=>h⟩
def TK.trans(a:TK K H H1)(b:TK K H1 H2):TK K H H2:=⟨λc d h=>b.tup c d (a.tup c d h),λc d h=>b.frz c d (a.frz c d h),λc o u h=>b.frd c o u (a.frd c o u h)⟩
noncomputable def TK.upd(h:∀xs,H p≠some (.tup xs))(h2:∀o u,H p≠some (.frz o u)):TK K H (L2.upd H p o):=by
 refine⟨λc b e=>?_,λc b e=>?_,λc a u e=>by rw[a0c (by rintro rfl;exact h2 _ _ e)];exact e⟩
 ·rw[a0c (by rintro rfl;exact h _ e)];exact e
 ·rcases e with ⟨a,e⟩ |e
  ·exact .inl ⟨a,by rw[a0c (by rintro rfl;exact h2 _ _ e)];exact e⟩
  ·exact .inr e
def TK.new(h:H p=none):TK K H (L2.upd H p o):=.upd (λa e=>by rw[h]at e;cases e) (λo u e=>by rw[h]at e;cases e)
def TK.lst{o:HO}(h:H p=some (.lst xs)):TK K H (L2.upd H p o):=by simp_all[upd]
def TK.dK{o:HO}{kvs:List (Key×V)}(h:H p=some (.dK kvs)):TK K H (L2.upd H p o):=by simp_all[upd]
def TK.ins{o:HO}{C dx:Addr}{fs:List (Str×V)}(h:H p=some (.ins C dx fs)):TK K H (L2.upd H p o):=by simp_all[upd]
end
mutual
def Rep(K:Fg)(H:Hp):Z->V->Prop
 |.non,v=>v=.non
 |.bl b,v=>v=.bl b
 |.int i,v=>v=.int i
 |.str x,v=>v=.str x
 |.ref a,v=>v=.ref a
 |.ty n,v=>v=.ty n
 |.scr a ns,v=>v=.ref a/\Fz K H a (ns.map V.int)
 |.tup ws,v=>∃a vs,v=.ref a/\H a=some (.tup vs)/\Reps K H ws vs
def Reps(K:Fg)(H:Hp):List Z->List V->Prop
 |[],vs=>vs=[]
 |w::ws,vs=>∃v r,vs=v::r/\Rep K H w v/\Reps K H ws r
end
section
variable{K:Fg}{H H':Hp}
def a0w:Rep K H .non v=(v=.non):=by unfold Rep;rfl
def a0u:Rep K H (.bl b) v=(v=.bl b):=by unfold Rep;rfl
def a0k:Rep K H (.int i) v=(v=.int i):=by unfold Rep;rfl
def a0t:Rep K H (.str x) v=(v=.str x):=by unfold Rep;rfl
def a0v:Rep K H (.ref a) v=(v=.ref a):=by unfold Rep;rfl
def a8D:Rep K H (.ty n) v=(v=.ty n):=by unfold Rep;rfl
def a17:Rep K H (.scr a ns) v=(v=.ref a/\Fz K H a (ns.map V.int)):=by unfold Rep;rfl
def a1c:Rep K H (.tup ws) v=(∃a vs,v=.ref a/\H a=some (.tup vs)/\Reps K H ws vs):=by conv=>lhs;unfold Rep
def a0p:Reps K H [] vs=(vs=[]):=by unfold Reps;rfl
def a0Y:Reps K H (w::ws) vs=(∃v r,vs=v::r/\Rep K H w v/\Reps K H ws r):=by conv=>lhs;unfold Reps
mutual
theorem Rep.monoW(t:TW K H H'):∀(w:Z)(v:V),Rep K H w v->Rep K H' w v
 |.tup ws,v,h=>by
  rw[a1c]at h ⊢;obtain⟨a,vs,e,h,r⟩:=h;exact⟨a,vs,e,t.tup _ _ h,Reps.monoW t ws vs r⟩
 |.scr a ns,v,h=>by
  rw[a17]at h ⊢;exact⟨h.1,t.frz _ _ h.2⟩
 |.non,v,h=>by rw[a0w]at h ⊢;exact h
 |.bl _,v,h=>by rw[a0u]at h ⊢;exact h
 |.int _,v,h=>by rw[a0k]at h ⊢;exact h
 |.str _,v,h=>by rw[a0t]at h ⊢;exact h
 |.ref _,v,h=>by rw[a0v]at h ⊢;exact h
 |.ty _,v,h=>by rw[a8D]at h ⊢;exact h
theorem Reps.monoW(t:TW K H H'):∀(ws:List Z)(vs:List V),Reps K H ws vs->Reps K H' ws vs
 |[],vs,h=>by rw[a0p]at h ⊢;exact h
 |w::ws,vs,h=>by
  rw[a0Y]at h ⊢;obtain⟨v,r,e,h1,h2⟩:=h;exact⟨v,r,e,Rep.monoW t w v h1,Reps.monoW t ws r h2⟩
end
def Rep.mono(t:TK K H H')(w:Z)(v:V)(h:Rep K H w v):Rep K H' w v:=Rep.monoW ⟨t.tup,t.frz⟩ w v h
def Reps.mono(t:TK K H H')(ws:List Z)(vs:List V)(h:Reps K H ws vs):Reps K H' ws vs:=Reps.monoW ⟨t.tup,t.frz⟩ ws vs h
def Reps.cons{w:Z}{v:V}{ws:List Z}{vs:List V}(a:Rep K H w v)(b:Reps K H ws vs):Reps K H (w::ws) (v::vs):=by rw[a0Y];exact⟨v,vs,rfl,a,b⟩
def Reps.nil:Reps K H [] []:=by rw[a0p]
def Reps.length:∀{ws:List Z}{vs:List V},Reps K H ws vs->ws.length=vs.length:=by intro z0;induction z0 with
 |nil=>intro vs h;rw[a0p]at h;rw[h];rfl
 |cons w ws I0=>
  intro vs h;obtain⟨v,r,e,_,a⟩:=h;rw[e,aI,aI,I0 a]
def Reps.get:∀{ws:List Z}{vs:List V}{i:Nat}{w:Z},Reps K H ws vs->ws[i]?=some w->∃v,vs[i]?=some v/\Rep K H w v:=by intro z0;induction z0 with
 |nil=>intro _ _ _ _ e;simp at e
 |cons w ws I0=>
  intro vs i x h e;obtain⟨v,r,rfl,b,a⟩:=h;cases i with
  |zero=>simp at e;subst e;exact⟨v,rfl,b⟩
  |succ i=>simpa using I0 a (by simp_all)
def Reps.tog{i:Nat}(h:Reps K H ws vs)(e:vs[i]?=some v):∃w,ws[i]?=some w/\Rep K H w v:=by
 have c:=h.length;have a:i<ws.length:=by grind
 obtain⟨d,b,r⟩:=h.get (aC a);rw[e]at b;cases b;exact⟨_,aC a,r⟩
def Reps.append:∀{ws ws':List Z}{vs vs':List V},Reps K H ws vs->Reps K H ws' vs'->Reps K H (ws++ws') (vs++vs'):=by intro z0;induction z0 with
 |nil=>intro _ vs _ h h';rw[a0p]at h;subst h;exact h'
 |cons w ws I0=>
  intro _ vs _ h h';obtain⟨v,r,rfl,a,b⟩:=h;exact .cons a (I0 b h')
theorem Reps.drop:∀{ws:List Z}{vs:List V}(n:Nat),Reps K H ws vs->Reps K H (ws.drop n) (vs.drop n)
 |[],vs,n,h=>by rw[a0p]at h;subst h;simpa using Reps.nil
 |w::ws,vs,0,h=>h
 |w::ws,vs,n+1,h=>by
  obtain⟨v,r,rfl,b,a⟩:=h;exact Reps.drop n a
theorem Reps.take:∀{ws:List Z}{vs:List V}(n:Nat),Reps K H ws vs->Reps K H (ws.take n) (vs.take n)
 |[],vs,n,h=>by rw[a0p]at h;subst h;simpa using Reps.nil
 |w::ws,vs,0,h=>by simpa using Reps.nil
 |w::ws,vs,n+1,h=>by
  obtain⟨v,r,rfl,a,b⟩:=h;exact .cons a (Reps.take n b)
def Reps.set(r:Rep K H w v):∀{ws:List Z}{vs:List V}(i:Nat),Reps K H ws vs->Reps K H (ws.set i w) (vs.set i v):=by intro z0;induction z0 with
 |nil=>intro vs i h;rw[a0p]at h;subst h;simpa using Reps.nil
 |cons x ws I0=>
  intro vs i h;obtain⟨y,s,rfl,b,a⟩:=h;cases i with
  |zero=>exact .cons r a
  |succ i=>exact .cons b (I0 i a)
def Reps.reverse:∀{ws:List Z}{vs:List V},Reps K H ws vs->Reps K H ws.reverse vs.reverse:=by intro z0;induction z0 with
 |nil=>intro vs h;rw[a0p]at h;subst h;exact Reps.nil
 |cons x ws I0=>
  intro vs h;obtain⟨y,s,rfl,b,a⟩:=h;rw[cM,cM];exact (I0 a).append (.cons b .nil)
def a8E:∀{ns:List Int}{vs:List V},Reps K H (ns.map Z.int) vs->vs=ns.map V.int:=by intro z0;induction z0 with
 |nil=>intro vs h;rw[bx,a0p]at h;subst h;rfl
 |cons n ns I0=>
  intro vs h;obtain⟨v,r,rfl,a,b⟩:=h;rw[a,I0 b];rfl
def a21:∀(ns:List Int),Reps K H (ns.map Z.int) (ns.map V.int):=by intro z0;induction z0 with
 |nil=>exact Reps.nil
 |cons n ns I0=>exact .cons (by rw[a0k]) (I0)
def Reps.one(h:Reps K H [w] vs):∃v,vs=[v]/\Rep K H w v:=by
 obtain⟨v,r,rfl,b,a⟩:=h;exact⟨v,by rw[a],b⟩
def Reps.two(h:Reps K H [w,w'] vs):∃v v',vs=[v,v']/\Rep K H w v/\Rep K H w' v':=by
 obtain⟨v,r,rfl,c,a⟩:=h;obtain⟨d,rfl,b⟩:=a.one;exact⟨v,d,rfl,c,b⟩
end
inductive O where
 |lst (ws:List Z)
 |dK (kvs:List (Key×Z))
 |ins (C dx:Addr) (fs:List (Str×Z))
 |dF (kvs:List (Key×Z))
 |dT (ks:List (List Key))
 |tab (p:Pos) (q:Str)
abbrev Hq:=Addr->Option O
noncomputable def put(G:Hq)(a:Addr)(o:O):Hq:=λb=>if b=a then some o else G b
def a0a:put G a o a=some o:=by unfold put;rw[if_pos rfl]
def a0f(h:b≠a):put G a o b=G b:=by unfold put;rw[if_neg h]
def a18:put (put G a o) a u=put G a u:=by
 funext b;unfold put;split<;>rfl
def a0h{G:Hq}(h:G a=some o)(h':G b=none):a≠b:=by
 intro e;subst e;rw[h]at h';cases h'
def a0b(h:G b=some u)(n:G a=none):put G a o b=some u:=(a0f (a0h h n))▸h
def ROb(K:Fg)(H:Hp)(a:Addr):O->Prop
 |.lst ws=>∃vs,H a=some (.lst vs)/\Reps K H ws vs
 |.dK kvs=>∃us,H a=some (.dK us)/\us.map (·.1)=kvs.map (·.1)/\Reps K H (kvs.map (·.2)) (us.map (·.2))
 |.ins C dx fs=>∃gs,H a=some (.ins C dx gs)/\gs.map (·.1)=fs.map (·.1)/\Reps K H (fs.map (·.2)) (gs.map (·.2))
 |.dF kvs=>∃o us,H a=some (.frz o (.dK us))/\us.map (·.1)=kvs.map (·.1)/\Reps K H (kvs.map (·.2)) (us.map (·.2))
 |.dT ks=>∃us,H a=some (.dT us)/\us.map (·.1)=ks
 |.tab p q=>Tab H a p q
def RH(K:Fg)(G:Hq)(H:Hp):Prop:=∀a o,G a=some o->ROb K H a o
section
variable{K:Fg}{H H':Hp}{G:Hq}{a p:Addr}{o:O}{u:HO}
def ROb.some(h:ROb K H a o):∃u,H a=some u:=by
 cases o with
 |lst ws=>obtain⟨b,e,_⟩:=h;exact⟨_,e⟩
 |dK kvs=>obtain⟨b,e,_⟩:=h;exact⟨_,e⟩
 |ins C dx fs=>obtain⟨b,e,_⟩:=h;exact⟨_,e⟩
 |dF kvs=>obtain⟨d,b,e,_⟩:=h;exact⟨_,e⟩
 |dT ks=>obtain⟨b,e,_⟩:=h;exact⟨_,e⟩
 |tab p q=>obtain⟨c,e,_⟩:=h;exact⟨_,e⟩
def ROb.stay(t:TK K H H')(e:H' a=H a)(h:ROb K H a o):ROb K H' a o:=by
 cases o with
 |lst ws=>obtain⟨d,q,r⟩:=h;exact⟨d,e.trans q,r.mono t⟩
 |dK kvs=>obtain⟨d,q,n,r⟩:=h;exact⟨d,e.trans q,n,r.mono t⟩
 |ins C dx fs=>obtain⟨d,q,n,r⟩:=h;exact⟨d,e.trans q,n,r.mono t⟩
 |dF kvs=>obtain⟨f,d,q,n,r⟩:=h;exact⟨f,d,e.trans q,n,r.mono t⟩
 |dT ks=>obtain⟨d,q,n⟩:=h;exact⟨d,e.trans q,n⟩
 |tab p q=>exact Tab.stay (λb o c k=>t.frd b o _ k) e h
def RH.out(h:RH K G H)(e:H a=none):G a=none:=by
 cases q:G a with
 |none=>rfl
 |some o=>obtain⟨u,z⟩:=(h a o q).some;rw[e]at z;cases z
def RH.hid(h:RH K G H)(e:H p=none):RH K G (upd H p u):=λb o q=>
 (h b o q).stay (.new e) (a0c (by rintro rfl;obtain⟨u,z⟩:=(h _ o q).some;rw[e]at z;cases z))
def RH.set(h:RH K G H)(t:TK K H (upd H p u))(n:ROb K (upd H p u) p o):RH K (put G p o) (upd H p u):=λb a q=>by
 by_cases hb:b=p
 ·subst hb;rw[a0a]at q;cases q;exact n
 ·rw[a0f hb]at q;exact (h b a q).stay t (a0c hb)
end
abbrev S3:=List (Option Z)
abbrev K3:=Z->Hq->Prop
abbrev C3:=S3->Hq->Prop
abbrev E3:=S3->Hq->K3->Prop
abbrev T3:=S3->Hq->(Bool->Hq->Prop)->Prop
abbrev A3:=S3->Hq->(List Z->Hq->Prop)->Prop
abbrev X3:=C3->K3->C3->C3->S3->Hq->Prop
def ROp(K:Fg)(H:Hp)(ow:Option Z)(ov:Option V):Prop:=∀w,ow=some w->∃v,ov=some v/\Rep K H w v
def RSt(K:Fg)(H:Hp):S3->L2.St->Prop:=Paired (ROp K H)
section
variable{K:Fg}{H H':Hp}
def RSt.mono(t:TK K H H'):∀{σ:S3}{τ:L2.St},RSt K H σ τ->RSt K H' σ τ:=by intro z0 y0 x0;induction x0 with
 |nil=>exact .nil
 |cons r s I0=>exact .cons (λw e=>by obtain⟨v,q,h⟩:=r w e;exact⟨v,q,h.mono t⟩) (I0)
theorem RSt.get:∀{σ:S3}{τ:L2.St}{i:Nat}{w:Z},RSt K H σ τ->σ[i]?=some (some w)->∃v,τ[i]?=some (some v)/\Rep K H w v
 |_,_,_,_,.nil,e=>by simp at e
 |_,_,0,w,.cons r _,e=>by
  obtain⟨v,q,h⟩:=r w (by simpa using e);exact⟨v,by rw[q];rfl,h⟩
 |_,_,i+1,w,.cons _ s,e=>by
  obtain⟨v,q,h⟩:=RSt.get s (by simpa using e);exact⟨v,by simpa using q,h⟩
theorem RSt.set(r:Rep K H w v):∀{σ:S3}{τ:L2.St}(i:Nat),RSt K H σ τ->RSt K H (σ.set i (some w)) (τ.set i (some v))
 |_,_,_,.nil=>.nil
 |_,_,0,.cons _ s=>.cons (λ_ e=>by cases e;exact⟨v,rfl,r⟩) s
 |_,_,i+1,.cons q s=>.cons q (RSt.set r i s)
def RSt.length(h:RSt K H σ τ):σ.length=τ.length:=Paired.length h
def RSt.nones:∀n:Nat,RSt K H (dj n none) (dj n none):=by intro z0;induction z0 with
 |zero=>exact .nil
 |succ n I0=>exact .cons (λ_ e=>nomatch e) (I0)
def RSt.app:∀{σ σ':S3}{τ τ':L2.St},RSt K H σ τ->RSt K H σ' τ'->RSt K H (σ++σ') (τ++τ'):=by intro z0 y0 x0 w0 v0;induction v0 with
 |nil=>intro h;exact h
 |cons r s I0=>intro h;exact .cons r (I0 h)
def RSt.ofVals:∀{ws:List Z}{vs:List V},Reps K H ws vs->RSt K H (ws.map some) (vs.map some):=by intro z0;induction z0 with
 |nil=>intro vs h;rw[a0p]at h;subst h;exact .nil
 |cons w ws I0=>
  intro vs h;obtain⟨v,r,rfl,b,a⟩:=h;exact .cons (λ_ e=>by cases e;exact⟨v,rfl,b⟩) (I0 a)
end
noncomputable def a08(N:List Str)(ws:List Z):S3:=ws.map some++dj (N.length-ws.length) none
noncomputable def RSt.start{K:Fg}(h:Reps K H ws vs):RSt K H (a08 N ws) (L2.start N vs):=by
 unfold a08 L2.start;rw[h.length];exact (RSt.ofVals h).app (RSt.nones _)
def UpV(K:Fg)(H:Hp)(R:K3)(Q:VK):Prop:=∀w G v H',R w G->Rep K H' w v->RH K G H'->TK K H H'->Q v H'
def UpB(K:Fg)(H:Hp)(R:Bool->Hq->Prop)(Q:Bool->Hp->Prop):Prop:=∀b G H',R b G->RH K G H'->TK K H H'->Q b H'
def UpA(K:Fg)(H:Hp)(R:List Z->Hq->Prop)(Q:List V->Hp->Prop):Prop:=∀ws G vs H',R ws G->Reps K H' ws vs->RH K G H'->TK K H H'->Q vs H'
def UpS(K:Fg)(H:Hp)(R:C3)(Q:L2.St->Hp->Prop):Prop:=∀σ G τ H',R σ G->RSt K H' σ τ->RH K G H'->TK K H H'->Q τ H'
section
variable{K:Fg}{H H':Hp}
def UpV.mono(h:UpV K H R Q)(t:TK K H H'):UpV K H' R Q:=λw G v b q r g a=>h w G v b q r g (t.trans a)
def UpB.mono(h:UpB K H R Q)(t:TK K H H'):UpB K H' R Q:=λw G b q g a=>h w G b q g (t.trans a)
def UpA.mono(h:UpA K H R Q)(t:TK K H H'):UpA K H' R Q:=λw G v b q r g a=>h w G v b q r g (t.trans a)
def UpS.mono(h:UpS K H R Q)(t:TK K H H'):UpS K H' R Q:=λw G v b q r g a=>h w G v b q r g (t.trans a)
end
def low(K:Fg)(t:E3):TE:=fun τ H Q=>∃σ G R,RSt K H σ τ/\RH K G H/\t σ G R/\UpV K H R Q
def low.un{K:Fg}{C:Prop}(z:low K t τ H Q)(f:∀σ G R,(RSt K H σ τ)->(RH K G H)->(t σ G R)->(UpV K H R Q)->C):C:=by obtain⟨σ,G,R,d,b,c,a⟩:=z;exact f _ _ _ d b c a
def lowT(K:Fg)(t:T3):TT:=fun τ H Q=>∃σ G R,RSt K H σ τ/\RH K G H/\t σ G R/\UpB K H R Q
def lowT.un{K:Fg}{C:Prop}(z:lowT K t τ H Q)(f:∀σ G R,(RSt K H σ τ)->(RH K G H)->(t σ G R)->(UpB K H R Q)->C):C:=by obtain⟨σ,G,R,b,a,d,c⟩:=z;exact f _ _ _ b a d c
def lowA(K:Fg)(t:A3):TA:=fun τ H Q=>∃σ G R,RSt K H σ τ/\RH K G H/\t σ G R/\UpA K H R Q
def lowA.un{K:Fg}{C:Prop}(z:lowA K t τ H Q)(f:∀σ G R,(RSt K H σ τ)->(RH K G H)->(t σ G R)->(UpA K H R Q)->C):C:=by obtain⟨σ,G,R,d,b,c,a⟩:=z;exact f _ _ _ d b c a
def lowS(K:Fg)(t:X3):TS:=λD τ H=>∃σ G nx rt bk ct,RSt K H σ τ/\RH K G H/\t nx rt bk ct σ G/\UpS K H nx D.nx/\UpV K H rt D.rt/\UpS K H bk D.bk/\UpS K H ct D.ct
def lowS.un{K:Fg}{C:Prop}(z:lowS K t D τ H)(f:∀σ G nx rt bk ct,(RSt K H σ τ)->(RH K G H)->(t nx rt bk ct σ G)->(UpS K H nx D.nx)->(UpV K H rt D.rt)->(UpS K H bk D.bk)->(UpS K H ct D.ct)->C):C:=by obtain⟨σ,G,k,j,l,i,h,a,g,b,c,d,e⟩:=z;exact f _ _ _ _ _ _ h a g b c d e
structure QE (X:Cx) (e:Expr) (t:E3):Prop where
 p:PE X e (low X.K t)
structure QT (X:Cx) (e:Expr) (t:T3):Prop where
 p:PT X e (lowT X.K t)
structure QW (X:Cx) (e:Expr) (t:T3):Prop where
 p:PW X e (lowT X.K t)
structure QA (X:Cx) (es:List Expr) (t:A3):Prop where
 p:PA X es (lowA X.K t)
structure QS (X:Cx) (st:Stmt) (t:X3):Prop where
 p:PS X st (lowS X.K t)
structure QSs (X:Cx) (st:List Stmt) (t:X3):Prop where
 p:PSs X st (lowS X.K t)
def QW.qt(h:QW X e t):QT X e t:=⟨PW.pt h.p⟩
section
variable{X:Cx}{e:Expr}{es:List Expr}{st:Stmt}{sts:List Stmt}
def a0P(h:PE X e t')(i:∀σ H Q,t σ H Q->t' σ H Q):PE X e t:=λa s σ H Q I q=>h a s σ H Q I (i σ H Q q)
def a8F(h:PT X e t')(i:∀σ H Q,t σ H Q->t' σ H Q):PT X e t:=λa s σ H Q I q=>h a s σ H Q I (i σ H Q q)
def b5M(h:PW X e t')(i:∀σ H Q,t σ H Q->t' σ H Q):PW X e t:=λw a s σ H Q I q=>h w a s σ H Q I (i σ H Q q)
def b5N(h:PA X es t')(i:∀σ H Q,t σ H Q->t' σ H Q):PA X es t:=λb a s σ H Q I q=>h b a s σ H Q I (i σ H Q q)
def a1w(h:PS X st t')(i:∀D σ H,t D σ H->t' D σ H):PS X st t:=λa s σ H D I q=>h a s σ H D I (i D σ H q)
def a8G(h:PSs X sts t')(i:∀D σ H,t D σ H->t' D σ H):PSs X sts t:=λa s σ H D I q=>h a s σ H D I (i D σ H q)
end
abbrev R3:=Z->Z->Hq->K3->Prop
def low2(K:Fg)(r:R3):R2:=λx y H Q=>∃a b G R,Rep K H a x/\Rep K H b y/\RH K G H/\r a b G R/\UpV K H R Q
def low2.un{K:Fg}{C:Prop}(z:low2 K r x y H Q)(f:∀a b G R,(Rep K H a x)->(Rep K H b y)->(RH K G H)->(r a b G R)->(UpV K H R Q)->C):C:=by obtain⟨a,b,G,R,e,h,g,c,d⟩:=z;exact f _ _ _ _ e h g c d
def low1(K:Fg)(r:Z->Hq->K3->Prop):V->Hp->VK->Prop:=λx H Q=>∃a G R,Rep K H a x/\RH K G H/\r a G R/\UpV K H R Q
def low1.un{K:Fg}{C:Prop}(z:low1 K r x H Q)(f:∀a G R,(Rep K H a x)->(RH K G H)->(r a G R)->(UpV K H R Q)->C):C:=by obtain⟨a,G,R,c,e,d,b⟩:=z;exact f _ _ _ c e d b
def lowC(K:Fg)(r:List Z->Hq->K3->Prop):List V->Hp->VK->Prop:=λxs H Q=>∃ws G R,Reps K H ws xs/\RH K G H/\r ws G R/\UpV K H R Q
def lowC.un{K:Fg}{C:Prop}(z:lowC K r xs H Q)(f:∀ws G R,(Reps K H ws xs)->(RH K G H)->(r ws G R)->(UpV K H R Q)->C):C:=by obtain⟨e,G,R,b,d,c,a⟩:=z;exact f _ _ _ b d c a
def lowM(K:Fg)(r:Z->List Z->Hq->K3->Prop):V->List V->Hp->VK->Prop:=λx xs H Q=>∃w ws G R,Rep K H w x/\Reps K H ws xs/\RH K G H/\r w ws G R/\UpV K H R Q
def lowM.un{K:Fg}{C:Prop}(z:lowM K r x xs H Q)(f:∀w ws G R,(Rep K H w x)->(Reps K H ws xs)->(RH K G H)->(r w ws G R)->(UpV K H R Q)->C):C:=by obtain⟨w,g,G,R,a,d,e,b,c⟩:=z;exact f _ _ _ _ a d e b c
def OpQ(X:Cx)(f:Value->Value->Sem Value)(r:R3):Prop:=OpR X f (low2 X.K r)
def UnQ(X:Cx)(f:Value->Sem Value)(r:Z->Hq->K3->Prop):Prop:=UnR X f (low1 X.K r)
def a2D(X:Cx)(f:Value)(r:List Z->Hq->K3->Prop):Prop:=CallR X f (lowC X.K r)
def IxQ(X:Cx)(r:R3):Prop:=IxR X (low2 X.K r)
def MtQ(X:Cx)(id:String)(r:Z->List Z->Hq->K3->Prop):Prop:=MtR X id (lowM X.K r)
def a3j(h:OpR X f r')(i:∀x y H Q,r x y H Q->r' x y H Q):OpR X f r:=λa s σ H x y v u Q I c b q=>h a s σ H x y v u Q I c b (i x y H Q q)
def b8e(h:UnR X f r')(i:∀x H Q,r x H Q->r' x H Q):UnR X f r:=λa s σ H x v Q I b q=>h a s σ H x v Q I b (i x H Q q)
def a19(h:CallR X f r')(i:∀xs H Q,r xs H Q->r' xs H Q):CallR X f r:=λa s σ H b d Q I c q=>h a s σ H b d Q I c (i b H Q q)
def b8f(h:IxR X r')(i:∀x y H Q,r x y H Q->r' x y H Q):IxR X r:=λa b c s σ H x y v u Q I e d q=>h a b c s σ H x y v u Q I e d (i x y H Q q)
def a7t{id:String}(h:MtR X id r')(i:∀x xs H Q,r x xs H Q->r' x xs H Q):MtR X id r:=λa s σ H x b v e Q I d c q=>h a s σ H x b v e Q I d c (i x b H Q q)
def uVar(i:Nat):E3:=fun σ G R=>∃w,σ[i]?=some (some w)/\R w G
def uC(w:Z):E3:=λ_ G R=>R w G
section
variable{X:Cx}{e a b c:Expr}{pos:Pos}{ta tb tc:E3}
def b5O(h:PE X e (tVar i)):QE X e (uVar i):=⟨a0P h fun τ H Q ⟨σ,G,R,c,b,⟨w,e,q⟩,d⟩=>by
 obtain⟨v,a,r⟩:=c.get e;exact⟨v,a,d w G v H q r b (.refl _ _)⟩⟩
def a7u(h:PE X e (tC v))(hr:∀H,Rep X.K H w v):QE X e (uC w):=⟨a0P h fun τ H Q b=>b.un fun σ G R d a q c=>c w G v H q (hr H) a (.refl _ _)⟩
def a8H:QE X (.Constant (.int i) j pos) (uC (.int i)):=a7u b4W λ_=>by rw[a0k]
def q_bl{b j pos}:QE X (.Constant (.bool b) j pos) (uC (.bl b)):=a7u b7P λ_=>by rw[a0u]
def b8g:QE X (.Constant .none j pos) (uC .non):=a7u b4X λ_=>by rw[a0w]
def b8h:QE X (.Constant (.str x) j pos) (uC (.str x)):=a7u b4Y λ_=>by rw[a0t]
def b2g(h:PE X e (tC (.int i))):QE X e (uC (.int i)):=a7u h λ_=>by rw[a0k]
def q_ty(h:PE X e (tC (.ty n))):QE X e (uC (.ty n)):=a7u h λ_=>by rw[a8D]
def uOp(r:R3)(ta tb:E3):E3:=fun σ G R=>ta σ G λx G1=>tb σ G1 λy G2=>r x y G2 R
def uUn(r:Z->Hq->K3->Prop)(ta:E3):E3:=fun σ G R=>ta σ G λx G1=>r x G1 R
def a6u{K:Fg}(h:low K (uOp r ta tb) τ H Q):tOp (low2 K r) (low K ta) (low K tb) τ H Q:=by
 obtain⟨σ,G,R,f,k,h,o⟩:=h;refine⟨σ,G,_,f,k,h,λw m v p l i b e=>?_⟩;refine⟨σ,m,_,f.mono e,b,l,λn g q s j d c a=>?_⟩;exact⟨w,n,g,R,i.mono a,d,c,j,o.mono (e.trans a)⟩
def b5P{K:Fg}(h:low K (uUn r ta) τ H Q):tUn (low1 K r) (low K ta) τ H Q:=by
 obtain⟨σ,G,R,d,f,h,c⟩:=h;exact⟨σ,G,_,d,f,h,λw e v j g b a i=>⟨w,e,R,b,a,g,c.mono i⟩⟩
def q_op(ho:OpQ X (gb op) r)(ha:QE X a ta)(hb:QE X b tb):QE X (.BinOp a op b pos) (uOp r ta tb):=⟨a0P (b5i ho ha.p hb.p) λ_ _ _=>a6u⟩
def q_un(ho:UnQ X (jh op) r)(ha:QE X a ta):QE X (.UnaryOp op a pos) (uUn r ta):=⟨a0P (b7Z ho ha.p) λ_ _ _=>b5P⟩
def b5Q(ho:OpQ X (fZ op) r)(ha:QE X a ta)(hb:QE X b tb)(hm:ie op b=false):QE X (.Compare a [op] [b] pos) (uOp r ta tb):=⟨a0P (b2Z ho ha.p hb.p hm) λ_ _ _=>a6u⟩
def a8I(t:E3):T3:=fun σ G R=>t σ G λx G1=>∃k,x=.bl k/\R k G1
def a39{K:Fg}(h:lowT K (a8I ta) τ H Q):low K ta τ H λx H'=>∃k,x=.bl k/\Q k H':=by
 obtain⟨σ,G,R,g,f,h,i⟩:=h;refine⟨σ,G,_,g,f,h,λw l v j ⟨k,e,c⟩ a b d=>?_⟩;subst e;exact⟨k,a,i _ _ _ c b d⟩
def b5R(ho:OpQ X (fZ op) r)(ha:QE X a ta)(hb:QE X b tb)(hm:ie op b=false):QT X (.Compare a [op] [b] pos) (a8I (uOp r ta tb)):=⟨a8F (b20 ho ha.p hb.p hm) λ_ _ _ h=>a6u (a39 h)⟩
def a6v(r r':R3)(ta tb tc:E3):E3:=fun σ G R=>ta σ G λx G1=>tb σ G1 λy G2=>r x y G2 λz G3=>∃k,z=.bl k/\(if k=true then tc σ G3 λw G4=>r' y w G4 R else R (.bl false) G3)
def a4V{K:Fg}(h:low K (a6v r r' ta tb tc) τ H Q):a8d (low2 K r) (low2 K r') (low K ta) (low K tb) (low K tc) τ H Q:=by
 obtain⟨σ,G,R,g,F,h,p⟩:=h;refine⟨σ,G,_,g,F,h,λw A v N q B l a=>?_⟩;refine⟨σ,A,_,g.mono a,l,q,λm y T L s e j b=>?_⟩;refine⟨w,m,y,_,B.mono b,e,j,s,λz x M S ⟨k,t,f⟩ o d c=>?_⟩;subst t;refine⟨k,o,?_⟩;cases k with
 |false=>exact p _ _ _ _ (by simpa using f) (by rw[a0u]) d ((a.trans b).trans c)
 |true=>
  refine⟨σ,x,_,g.mono ((a.trans b).trans c),d,f,λC E J I D u n i=>?_⟩;exact⟨m,C,E,R,e.mono (c.trans i),u,n,D,p.mono (((a.trans b).trans c).trans i)⟩
def b3f(ho:OpQ X (fZ op) r)(ho':OpQ X (fZ op') r')(ha:QE X a ta)(hb:QE X b tb)(hc:QE X c tc)
  (hm:ji [op,op'] [b,c]=false:=by with_unfolding_all rfl):QE X (.Compare a [op,op'] [b,c] pos) (a6v r r' ta tb tc):=⟨a0P (b0t ho ho' ha.p hb.p hc.p hm) λ_ _ _=>a4V⟩
def b0N(ho:OpQ X (fZ op) r)(ho':OpQ X (fZ op') r')(ha:QE X a ta)(hb:QE X b tb)(hc:QE X c tc)
  (hm:ji [op,op'] [b,c]=false:=by with_unfolding_all rfl):QT X (.Compare a [op,op'] [b,c] pos) (a8I (a6v r r' ta tb tc)):=⟨a8F (b0u ho ho' ha.p hb.p hc.p hm) λ_ _ _ h=>a4V (a39 h)⟩
def uAnd(t u:T3):T3:=fun σ G R=>t σ G λc G1=>if c=true then u σ G1 R else R false G1
def uOr(t u:T3):T3:=fun σ G R=>t σ G λc G1=>if c=true then R true G1 else u σ G1 R
def uNot(t:T3):T3:=fun σ G R=>t σ G λc G1=>R (!c) G1
variable{t u:T3}{rest:List Expr}
def b5S(ha:QT X a t):QW X (.BoolOp .And [a] pos) t:=⟨b2P ha.p⟩
def b8i(ha:QT X a t):QW X (.BoolOp .Or [a] pos) t:=⟨b40 ha.p⟩
def b8j(ha:QT X a t)(hb:QW X (.BoolOp .And (b::rest) pos) u):QW X (.BoolOp .And (a::b::rest) pos) (uAnd t u):=⟨b5M (b41 ha.p hb.p) fun τ H Q l=>l.un fun σ G R f j h g=>by
 refine⟨σ,G,_,f,j,h,λk i m d c e=>?_⟩;cases k with
 |false=>exact g _ _ _ (by simp_all) c e
 |true=>rw[if_pos rfl]at d ⊢;exact⟨σ,i,R,f.mono e,c,d,g.mono e⟩⟩
def q_or(ha:QT X a t)(hb:QW X (.BoolOp .Or (b::rest) pos) u):QW X (.BoolOp .Or (a::b::rest) pos) (uOr t u):=⟨b5M (b7Q ha.p hb.p) fun τ H Q l=>l.un fun σ G R f j h g=>by
 refine⟨σ,G,_,f,j,h,λk i m e c d=>?_⟩;cases k with
 |true=>exact g _ _ _ (by simp_all) c d
 |false=>rw[if_neg (by simp)]at e ⊢;exact⟨σ,i,R,f.mono d,c,e,g.mono d⟩⟩
def b5T(ha:QT X a t):QT X (.UnaryOp .Not a pos) (uNot t):=⟨a8F (b42 ha.p) fun τ H Q g=>g.un fun σ G R d f h i=>
 ⟨σ,G,_,d,f,h,λk j l e b c=>i _ _ _ e b c⟩⟩
def b5U(ta tb:E3):E3:=fun σ G R=>ta σ G λx G1=>∃c,x=.bl c/\if c=true then tb σ G1 R else R (.bl false) G1
def uOrV(ta tb:E3):E3:=fun σ G R=>ta σ G λx G1=>∃c,x=.bl c/\if c=true then R (.bl true) G1 else tb σ G1 R
def b8k(ta:E3):E3:=fun σ G R=>ta σ G λx G1=>∃c,x=.bl c/\R (.bl (!c)) G1
def b8l(h:QE X a ta):QE X (.BoolOp op [a] pos) ta:=⟨b43 h.p⟩
def b5V(ha:QE X a ta)(hb:QE X (.BoolOp .And (b::rest) pos) tb):QE X (.BoolOp .And (a::b::rest) pos) (b5U ta tb):=⟨a0P (b44 ha.p hb.p) fun τ H Q l=>l.un fun σ G R g j h i=>by
 refine⟨σ,G,_,g,j,h,λx n v o ⟨k,m,e⟩ f c d=>?_⟩;subst m;refine⟨k,f,?_⟩;cases k with
 |false=>exact i _ _ _ _ (by simpa using e) (by rw[a0u]) c d
 |true=>rw[if_pos rfl]at e ⊢;exact⟨σ,n,R,g.mono d,c,e,i.mono d⟩⟩
def b8m(ha:QE X a ta)(hb:QE X (.BoolOp .Or (b::rest) pos) tb):QE X (.BoolOp .Or (a::b::rest) pos) (uOrV ta tb):=⟨a0P (b7T ha.p hb.p) fun τ H Q m=>m.un fun σ G R g n h i=>by
 refine⟨σ,G,_,g,n,h,λx j v o ⟨k,l,d⟩ f c e=>?_⟩;subst l;refine⟨k,f,?_⟩;cases k with
 |true=>exact i _ _ _ _ (by simpa using d) (by rw[a0u]) c e
 |false=>rw[if_neg (by simp)]at d ⊢;exact⟨σ,j,R,g.mono e,c,d,i.mono e⟩⟩
def b8n(ha:QE X a ta):QE X (.UnaryOp .Not a pos) (b8k ta):=⟨a0P (b45 ha.p) fun τ H Q f=>f.un fun σ G R g d h j=>by
 refine⟨σ,G,_,g,d,h,λx m v n ⟨k,e,i⟩ b c l=>?_⟩;subst e;exact⟨k,b,j _ _ _ _ i (by rw[a0u]) c l⟩⟩
def uIf(t:T3)(ta tb:E3):E3:=fun σ G R=>t σ G λc G1=>if c=true then ta σ G1 R else tb σ G1 R
def q_if(hc:QT X c t)(ha:QE X a ta)(hb:QE X b tb):QE X (.IfExp c a b pos) (uIf t ta tb):=⟨a0P (b0o hc.p ha.p hb.p) fun τ H Q l=>l.un fun σ G R g m h j=>by
 refine⟨σ,G,_,g,m,h,λk i n e f d=>?_⟩;cases k with
 |true=>rw[if_pos rfl]at e ⊢;exact⟨σ,i,R,g.mono d,f,e,j.mono d⟩
 |false=>rw[if_neg (by simp)]at e ⊢;exact⟨σ,i,R,g.mono d,f,e,j.mono d⟩⟩
def tru:Z->Hq->(Bool->Hq->Prop)->Prop
 |.non,G,R=>R false G
 |.bl b,G,R=>R b G
 |.int i,G,R=>R (i != 0) G
 |.str y,G,R=>y.length<=fR/\R ((y.length:Int) != 0) G
 |.tup ws,G,R=>R (!ws.isEmpty) G
 |.scr _ ns,G,R=>R (!ns.isEmpty) G
 |.ref p,G,R=>(∃ws,G p=some (.lst ws)/\R (!ws.isEmpty) G)\/∃kvs,G p=some (.dK kvs)/\R (!kvs.isEmpty) G
 |.ty _,_,_=>False
def uTru(ta:E3):T3:=fun σ G R=>ta σ G λx G1=>tru x G1 R
def a1d{α β:Type}{a:List α}{b:List β}(h:a.length=b.length):a.isEmpty=b.isEmpty:=by
 cases a<;>cases b<;>simp_all
def b3g{K:Fg}(h:tru w G R)(r:Rep K H w v)(hg:RH K G H)(up:UpB K H R Q):∃k,TruV K v H k/\Q k H:=by
 cases w with
 |non=>rw[a0w]at r;subst r;exact⟨_,rfl,up _ _ _ h hg (.refl _ _)⟩
 |bl b=>rw[a0u]at r;subst r;exact⟨_,rfl,up _ _ _ h hg (.refl _ _)⟩
 |int i=>rw[a0k]at r;subst r;exact⟨_,rfl,up _ _ _ h hg (.refl _ _)⟩
 |str y=>rw[a0t]at r;subst r;exact⟨_,⟨h.1,rfl⟩,up _ _ _ h.2 hg (.refl _ _)⟩
 |ty n=>exact aB h
 |scr a ns=>rw[a17]at r;obtain⟨rfl,f⟩:=r;exact⟨!ns.isEmpty,.inl ⟨_,f.sq,by rw[a1d (aq ..).symm]⟩,up _ _ _ h hg (.refl _ _)⟩
 |tup ws=>
  obtain⟨a,d,rfl,e,c⟩:=r;exact⟨!ws.isEmpty,.inr (.inl ⟨d,SqT.of e,by rw[a1d c.length]⟩),up _ _ _ h hg (.refl _ _)⟩
 |ref p=>
  subst r;rcases h with ⟨ws,e,h⟩ |⟨kvs,e,h⟩
  ·obtain⟨d,g,c⟩:=hg p _ e;exact⟨_,.inl ⟨d,SqL.of g,by rw[<- a1d c.length]⟩,up _ _ _ h hg (.refl _ _)⟩
  ·obtain⟨j,g,l,c⟩:=hg p _ e;exact⟨_,.inr (.inr ⟨j,g,by rw[a1d (show kvs.length=j.length by rw[<- aq,c.length,aq])]⟩),up _ _ _ h hg (.refl _ _)⟩
def b3h(ha:QE X a ta)(he:∀whole,isTrue a X.env whole=(do let v <- whole;g8 a.pos;gr [v] (truthy v))):QT X a (uTru ta):=⟨a8F (b0v ha.p he) fun τ H Q i=>i.un fun σ G R d f h j=>
 ⟨σ,G,_,d,f,h,λw k v l e g b c=>b3g e g b (j.mono c)⟩⟩
def b8o(ha:QE X a ta)(he:∀whole,isTrue a X.env whole=(do let v <- whole;g8 a.pos;gr [v] (truthy v)):=by intro _;rfl):QT X a (a8I ta):=⟨a8F (b4Z ha.p he) λ_ _ _ h=>a39 h⟩
end
section
variable{env:Env}{es:List Expr}{pos:Pos}
def b5W:(backTo pos (fW [] env)).any (·.1)=false:=rfl
def b3i(h:fW (e::es) env=(false,eval e env)::fW es env)(r:(backTo pos (fW es env)).any (·.1)=false):(backTo pos (fW (e::es) env)).any (·.1)=false:=by
 rw[h]
 show (false||(backTo pos _).any _)=false
 rw[r];rfl
end
section
variable{X:Cx}{e a b:Expr}{es:List Expr}{pos p2:Pos}{te ta tb:E3}{t:A3}
def q_ix(hr:IxQ X r)(ha:QE X a ta)(hb:QE X b tb)(hs:a8p b):QE X (.Subscript a b pos) (uOp r ta tb):=⟨a0P (b78 hr ha.p hb.p hs) λ_ _ _=>a6u⟩
abbrev O3:=S3->Hq->(Option Int->Hq->Prop)->Prop
def a8J:O3:=λ_ G R=>R none G
def b5X(t:E3):O3:=fun σ G R=>t σ G λx G1=>∃i,x=.int i/\R (some i) G1
def lowO(K:Fg)(t:O3):TO:=fun τ H Q=>∃σ G R,RSt K H σ τ/\RH K G H/\t σ G R/\∀o G' H',R o G'->RH K G' H'->TK K H H'->Q o H'
def lowO.un{K:Fg}{t:O3}{C:Prop}(z:lowO K t τ H Q)(f:∀σ G R,(RSt K H σ τ)->(RH K G H)->(t σ G R)->(∀o G' H',R o G'->RH K G' H'->TK K H H'->Q o H')->C):C:=by obtain⟨σ,G,R,d,b,c,a⟩:=z;exact f _ _ _ d b c a
def QO(X:Cx)(e:Option Expr)(t:O3):Prop:=PO X e (lowO X.K t)
def b0O:QO X none a8J:=by rintro a s τ H Q I ⟨σ,G,R,d,c,h,b⟩;exact b28 a s τ H Q I (b _ _ _ h c (.refl _ _))
def b5Y(h:QE X e te):QO X (some e) (b5X te):=by rintro a s τ H Q I ⟨σ,G,R,f,k,q,l⟩;exact b29 h.p a s τ H Q I ⟨σ,G,_,f,k,q,by
 rintro w n v m ⟨i,g,d⟩ b c j;subst g;exact⟨i,b,l _ _ _ d c j⟩⟩
abbrev L3r:=Z->Option Int->Option Int->Hq->K3->Prop
def lowL(K:Fg)(r:L3r):V->Option Int->Option Int->Hp->VK->Prop:=λx lo hi H Q=>∃w G R,Rep K H w x/\RH K G H/\r w lo hi G R/\UpV K H R Q
def lowL.un{K:Fg}{lo hi:Option Int}{C:Prop}(z:lowL K r x lo hi H Q)(f:∀w G R,(Rep K H w x)->(RH K G H)->(r w lo hi G R)->(UpV K H R Q)->C):C:=by obtain⟨w,G,R,a,d,b,c⟩:=z;exact f _ _ _ a d b c
def SlQ(X:Cx)(r:L3r):Prop:=SlR X (lowL X.K r)
def b8p(h:SlR X r')(i:∀x lo hi H Q,r x lo hi H Q->r' x lo hi H Q):SlR X r:=λa s σ H x v l b j f d Q I c e g k q=>h a s σ H x v l b j f d Q I c e g k (i _ _ _ _ _ q)
def uSl(r:L3r)(te:E3)(tl th:O3):E3:=fun σ G R=>te σ G λx G1=>tl σ G1 λl G2=>th σ G2 λu G3=>r x l u G3 R
def b3j{lo hi:Option Expr}(hr:SlQ X r)(he:QE X e te)(hl:QO X lo tl)(hu:QO X hi th):QE X (.Subscript e (.Slice lo hi none p2) pos) (uSl r te tl th):=⟨a0P (b0C hr he.p hl hu) fun τ H Q q=>q.un fun σ G R c k h y=>
 ⟨σ,G,_,c,k,h,λw m v z j t f b=>⟨σ,m,_,c.mono b,f,j,λl o A s d a=>⟨σ,o,_,c.mono (b.trans a),d,s,λu x B n i g=>
  ⟨w,x,R,t.mono (a.trans g),i,n,y.mono ((b.trans a).trans g)⟩⟩⟩⟩⟩
def uNil:A3:=λ_ G R=>R [] G
def b3k(ta:E3)(tr:A3):A3:=fun σ G R=>ta σ G λx G1=>tr σ G1 λxs G2=>R (x::xs) G2
def a0Q:QA X [] uNil:=⟨b5N a6p fun τ H Q b=>b.un fun σ G R d a h c=>c _ _ _ _ h .nil a (.refl _ _)⟩
def b5Z(ha:QE X e te)(hr:QA X es t)(hs:fW (e::es) X.env=(false,eval e X.env)::fW es X.env):QA X (e::es) (b3k te t):=⟨b5N (a3Y ha.p hr.p hs) fun τ H Q i=>i.un fun σ G R hs l h o=>
 ⟨σ,G,_,hs,l,h,λw j v H1 g m f d=>⟨σ,j,_,hs.mono d,f,g,λws G2 vs H2 n k c b=>o _ _ _ _ n (.cons (m.mono b) k) c (d.trans b)⟩⟩⟩
def uTup(t:A3):E3:=fun σ G R=>t σ G λxs G1=>xs.length<=fR/\R (.tup xs) G1
def uLst(t:A3):E3:=fun σ G R=>t σ G λxs G1=>xs.length<=fR/\∀p,G1 p=none->R (.ref p) (put G1 p (.lst xs))
def b3l(h:QA X es t):QE X (.Tuple es x1 pos) (uTup t):=⟨a0P (b5s h.p) fun τ H Q k=>k.un fun σ G R f j h d=>
 ⟨σ,G,_,f,j,h,by rintro o m l n ⟨i,g⟩ b c e;exact⟨by rw[<- b.length];exact i,λp a=>d _ _ _ _ g (by rw[a1c];exact⟨p,l,rfl,a0d,b.mono (.new a)⟩) (c.hid a) (e.trans (.new a))⟩⟩⟩
def a07{K:Fg}(r:Reps K H ws vs)(t:TK K H (upd H p (.lst vs))):ROb K (upd H p (.lst vs)) p (.lst ws):=⟨vs,a0d,r.mono t⟩
def b8q(h:QA X es t):QE X (.List es pos) (uLst t):=⟨a0P (b5t h.p) fun τ H Q g=>g.un fun σ G R d k h i=>
 ⟨σ,G,_,d,k,h,by rintro m l o n ⟨f,e⟩ c b j;exact⟨by rw[<- c.length];exact f,λp a=>i _ _ _ _ (e p (b.out a)) (by rw[a0v]) (b.set (.new a) (a07 c (.new a))) (j.trans (.new a))⟩⟩⟩
def uCB(r:List Z->Hq->K3->Prop)(t:A3):E3:=fun σ G R=>t σ G λws G1=>r ws G1 R
def b2h{K:Fg}(h:low K (uCB r t) τ H Q):tCB (lowC K r) (lowA K t) τ H Q:=by
 obtain⟨σ,G,R,e,j,h,i⟩:=h;exact⟨σ,G,_,e,j,h,λc g k l f b a d=>⟨c,g,R,b,a,f,i.mono d⟩⟩
variable{x:Str}{p:Pos}{id T:String}{r:List Z->Hq->K3->Prop}
def b3m(hc:a2D X (.builtin id) r)(hg:Gl X x)(hm:X.mg x=none)(hv:gx x=some (.builtin id))(ha:QA X (e::es) t)(hn:x≠"__name__")(hdb:(x==("__debug__":Str))=false)
  (he:fW (e::es) X.env=(false,eval e X.env)::fW es X.env) (hpl:(backTo pos (fW es X.env)).any (·.1)=false):QE X (.Call (.Name x p) (e::es) [] pos) (uCB r t):=⟨a0P (a3Z hc hg hm hv ha.p hn hdb he hpl) λ_ _ _=>b2h⟩
def b0P(hc:a2D X (.type T) r)(hg:Gl X x)(hm:X.mg x=none)(hv:gx x=some (.type T))(ha:QA X (e::es) t)(hn:x≠"__name__")(hdb:(x==("__debug__":Str))=false)
  (he:fW (e::es) X.env=(false,eval e X.env)::fW es X.env) (hpl:(backTo pos (fW es X.env)).any (·.1)=false):QE X (.Call (.Name x p) (e::es) [] pos) (uCB r t):=⟨a0P (a1K hc hg hm hv ha.p hn hdb he hpl) λ_ _ _=>b2h⟩
def tyZ(T:String)(x:Z)(G:Hq):Prop:=match x with
 |.str _=>T="str"
 |.int _=>T="int"
 |.ref p=>(T="list"/\∃ws,G p=some (.lst ws))\/(T="dict"/\∃kvs,G p=some (.dK kvs)\/G p=some (.dF kvs))
 |.scr _ _=>T="list"
 |_=>False
def b3n{K:Fg}(h:tyZ T w G)(r:Rep K H w v)(hg:RH K G H):tyV K T v H:=by
 cases w with
 |str y=>rw[a0t]at r;subst r;exact h
 |int y=>rw[a0k]at r;subst r;exact h
 |ref q=>
  subst r;rcases h with ⟨e,ws,g⟩ |⟨e,kvs,g⟩
  ·obtain⟨b,a,_⟩:=hg q _ g;exact .inl ⟨e,b,SqL.of a⟩
  ·rcases g with g |g
   ·obtain⟨b,a,_⟩:=hg q _ g;exact .inr (.inr (.inl ⟨e,.inl ⟨b,a⟩⟩))
   ·obtain⟨c,b,a,_⟩:=hg q _ g;exact .inr (.inr (.inl ⟨e,.inr (.inr ⟨c,b,a⟩)⟩))
 |scr q ns=>rw[a17]at r;obtain⟨rfl,f⟩:=r;exact .inl ⟨h,_,f.sq⟩
 |_=>exact aB h
def uBM(T:String)(r:Z->List Z->Hq->K3->Prop)(to:E3)(t:A3):E3:=fun σ G R=>to σ G λx G1=>tyZ T x G1/\t σ G1 λxs G2=>r x xs G2 R
variable{o:Expr}{to:E3}{name:Str}{apos cpos:Pos}{rm:Z->List Z->Hq->K3->Prop}
def q_bm(pa:PlainAttrs T)(slot:Slot T name id)(hty:typeOf (.builtin id)=pure (.type "method_descriptor"))(hm:MtQ X id rm)(ho:QE X o to)(ha:QA X (e::es) t)
  (hbase:iu o name X.env (eval o X.env)=eval o X.env:=by rfl)
  (hfew:((backTo cpos (fW (e::es) X.env)).all (λx=>!x.1)&&(iz cpos (iA [] X.env)).all (λx=>x.1.isSome)
   && decide ((e::es).length+([]:List ig).length+(if ([]:List ig).isEmpty then 0 else 1)<30))=true:=by rfl)
  (hline:(apos.endLine==cpos.line)=true:=by rfl) (hs:fW (e::es) X.env=(false,eval e X.env)::fW es X.env:=by rfl) (hplain:(backTo cpos (fW es X.env)).any (·.1)=false:=by rfl) :
  QE X (.Call (.Attribute o name apos) (e::es) [] cpos) (uBM T rm to t):=⟨a0P (b8a pa slot hty hm ho.p ha.p hbase hfew hline hs hplain) fun τ H Q q=>q.un fun σ G R hs r h u=>
  ⟨σ,G,_,hs,r,h,by rintro w j v H1 ⟨m,n⟩ d a g;exact⟨b3n m d a,σ,j,_,hs.mono g,a,n,λs i vs H2 k l f c=>⟨w,s,i,R,d.mono c,l,f,k,u.mono (g.trans c)⟩⟩⟩⟩
abbrev P3:=List Z->Hq->K3->Prop
def lowP(K:Fg)(sp:P3):Sp:=λvs H Q _=>lowC K sp vs H Q
def b3o(sp:P3)(t:A3):E3:=fun σ G R=>t σ G λws G1=>sp ws G1 R
variable{k:Nat}{f:Addr}{fd:gz}{ps:List Str}{sp:P3}
def b50(F:FnOk X.prog X.w X.K X.mg X.base CX0 k f fd ps (lowP X.K sp))(hr:Room k X.A)(hg:Gl X x)(hm:X.mg x=some (.ref f))(hk:PySem.W.keepIn X.K (.ref f)=true)(hb:Binds X.K fd ps [])(ha:QA X (e::es) t)
  (hdb:(x==("__debug__":Str))=false) (he:fW (e::es) X.env=(false,eval e X.env)::fW es X.env) (hpl:(backTo pos (fW es X.env)).any (·.1)=false) :
  QE X (.Call (.Name x p) (e::es) [] pos) (b3o sp t):=⟨a0P (b25 F hr hg hm hk hb .nil b3c ha.p hdb he hpl) fun τ H Q d=>d.un fun σ G R i hg h m=>⟨σ,G,_,i,hg,h,λc j vs H1 l g b n=>⟨c,j,R,by rw[a9];exact g,b,l,m.mono n⟩⟩⟩
end
section
variable{X:Cx}{e c tg:Expr}{st:Stmt}{rest sa sb:List Stmt}{pos:Pos}{te:E3}{t u:X3}{tc:T3}
def b3p:X3:=λnx _ _ _ σ G=>nx σ G
def uSeq(t u:X3):X3:=λnx rt bk ct σ G=>t (u nx rt bk ct) rt bk ct σ G
def a4W:QSs X [] b3p:=⟨a8G b2Q λD τ H a=>a.un fun σ G g e k f d b h c i j l=>c _ _ _ _ h d b (.refl _ _)⟩
def a0e(h1:QS X st t)(h2:QSs X rest u):QSs X (st::rest) (uSeq t u):=⟨a8G (a6n h1.p h2.p) λD τ H q=>q.un fun σ G k j c e l o h n d b g=>
 ⟨σ,G,_,j,c,e,l,o,h,fun σ' r τ' s m f i a=>⟨σ',r,k,j,c,e,f,i,m,n.mono a,d.mono a,b.mono a,g.mono a⟩,d,b,g⟩⟩
def a0D(h1:QS X st t):QSs X [st] t:=⟨b2R h1.p⟩
def uCut(t u:X3):X3:=λnx rt bk ct σ G=>∃M:C3,t M rt bk ct σ G/\∀σ' G',M σ' G'->u nx rt bk ct σ' G'
def a5L(h1:QS X st t)(h2:QSs X rest u):QSs X (st::rest) (uCut t u):=⟨a8G (a6n h1.p h2.p) λD τ H v=>v.un fun σ G n d j b q m l s g e i=>by
 obtain⟨M,h,k⟩:=l;exact⟨σ,G,M,d,j,b,q,m,h,fun σ' o τ' w r f c a=>⟨σ',o,n,d,j,b,f,c,k _ _ r,s.mono a,g.mono a,e.mono a,i.mono a⟩,g,e,i⟩⟩
def b51:X3:=λ_ _ bk _ σ G=>bk σ G
def b8r:X3:=λ_ _ _ ct σ G=>ct σ G
def b52:QS X (.Pass pos) b3p:=⟨a1w b2S λD τ H d=>d.un fun σ G e g i l a b h c k j f=>c _ _ _ _ h a b (.refl _ _)⟩
def b3q:QS X (.Break pos) b51:=⟨a1w b0p λD τ H a=>a.un fun σ G f i e g b d h j l c k=>c _ _ _ _ h b d (.refl _ _)⟩
def b53:QS X (.Continue pos) b8r:=⟨a1w a5F λD τ H c=>c.un fun σ G e g i l a b h f k j d=>d _ _ _ _ h a b (.refl _ _)⟩
def b54:X3:=λ_ _ _ _ _ _=>False
def a4a:QS X st b54:=⟨by rintro _ _ _ _ _ _ ⟨_,_,_,_,_,_,_,_,h,_⟩;exact h.elim⟩
def b55(te:E3):X3:=λnx _ _ _ σ G=>te σ G λ_ G1=>nx σ G1
def a22(he:QE X e te)(hs:gZ e none pos.line X.env=pure false:=by rfl):QS X (.Expr e pos) (b55 te):=⟨a1w (b2T he.p hs) λD τ H i=>i.un fun σ G nx rt bk ct hs g h f u2 u3 u4=>
 ⟨σ,G,_,hs,g,h,λw G1 v H1 d rv c b=>f _ _ _ _ d (hs.mono b) c b⟩⟩
def uRet(te:E3):X3:=λ_ rt _ _ σ G=>te σ G rt
def a2a(he:QE X e te):QS X (.Return (some e) pos) (uRet te):=⟨a1w (b48 he.p) λD τ H c=>c.un fun σ G f j k m a b h g d l i=>⟨σ,G,_,a,b,h,d⟩⟩
def b8s:X3:=λ_ rt _ _ _ G=>rt .non G
def b56:QS X (.Return none pos) b8s:=⟨a1w b2U λD τ H b=>b.un fun σ G e j d l g a h k c f i=>c _ _ _ _ h (by rw[a0w]) a (.refl _ _)⟩
def uIfS(c:T3)(t u:X3):X3:=λnx rt bk ct σ G=>c σ G λb G1=>if b=true then t nx rt bk ct σ G1 else u nx rt bk ct σ G1
def z_if(hc:QT X c tc)(ha:QSs X sa t)(hb:QSs X sb u):QS X (.If c sa sb pos) (uIfS tc t u):=⟨a1w (b7X hc.p ha.p hb.p) λD τ H s=>s.un fun σ G l g k m f r h n q j i=>by
 refine⟨σ,G,_,f,r,h,λb o v d e a=>?_⟩;cases b with
 |true=>rw[if_pos rfl]at d ⊢;exact⟨σ,o,l,g,k,m,f.mono a,e,d,n.mono a,q.mono a,j.mono a,i.mono a⟩
 |false=>rw[if_neg (by simp)]at d ⊢;exact⟨σ,o,l,g,k,m,f.mono a,e,d,n.mono a,q.mono a,j.mono a,i.mono a⟩⟩
def b57(c:T3)(tb:X3):X3:=λnx rt _ _ σ G=>∃I:Nat->S3->Hq->Prop,(∃m,I m σ G)/\∀m σ G,I m σ G ->
 c σ G λb G1=>if b=true then tb (fun σ' G'=>∃m',m'<m/\I m' σ' G') rt nx (fun σ' G'=>∃m',m'<m/\I m' σ' G') σ G1 else nx σ G1
def a5M(hp:gi (model X.prog X.w) X.A X.env X.xe)(hc:QT X c tc)(hb:QSs X sb t):QS X (.While c sb [] pos) (b57 tc t):=⟨a1w (b0r hp hc.p hb.p) λD τ H L=>L.un fun σ G C R Y T F J B v Q W V=>by
 obtain⟨I,⟨y,E⟩,l⟩:=B;refine⟨λm τ' i=>∃σ' G',RSt X.K i σ' τ'/\RH X.K G' i/\TK X.K H i/\I m σ' G',⟨y,σ,G,F,J,.refl _ _,E⟩,?_⟩;rintro m τ' S ⟨σ1,u,g,x,f,M⟩;refine⟨σ1,u,_,g,x,l m σ1 u M,λb z U j k a=>?_⟩;cases b with
 |false=>rw[if_neg (by simp)]at j ⊢;exact v _ _ _ _ j (g.mono a) k (f.trans a)
 |true=>
  refine⟨_,fun σ' i h=>h,σ1,z,_,R,C,_,g.mono a,k,j,?_,Q.mono (f.trans a),v.mono (f.trans a),?_⟩
  ·rintro σ3 s τ3 N ⟨o,n,r⟩ d e q;exact⟨o,n,σ3,s,d,e,(f.trans a).trans q,r⟩
  ·rintro σ3 s τ3 N ⟨o,n,r⟩ d e q;exact⟨o,n,σ3,s,d,e,(f.trans a).trans q,r⟩⟩
inductive Pt where
 |nm (i:Nat)
 |tp (is:List Nat)
def gsOf:List Nat->TGs
 |[]=>gNil
 |i::is=>b49 (a73 i) (gsOf is)
def gP(K:Fg):Pt->TG
 |.nm i=>a73 i
 |.tp is=>gTup K is.length (gsOf is)
noncomputable def sets:List Nat->List Z->S3->S3
 |i::is,w::ws,σ=>sets is ws (σ.set i (some w))
 |_,_,σ=>σ
noncomputable def a3k:Pt->Z->S3->Option S3
 |.nm i,w,σ=>some (σ.set i (some w))
 |.tp is,.tup ws,σ=>if ws.length=is.length then some (sets is ws σ) else none
 |_,_,_=>none
noncomputable def Pt.slots:Pt->List Nat
 |.nm i=>[i]
 |.tp is=>is
noncomputable def a2E:List Nat->List V->L2.St->L2.St
 |i::is,w::ws,σ=>a2E is ws (σ.set i (some w))
 |_,_,σ=>σ
theorem a8K:∀{is:List Nat}{vs:List V}{τ:L2.St},vs.length=is.length->Q (a2E is vs τ) H->gsOf is vs τ H Q
 |[],[],_,_,q=>⟨rfl,q⟩
 |i::is,v::vs,τ,h,q=>⟨v,vs,rfl,a8K (by simpa using h) q⟩
 |[],_::_,_,h,_=>by simp at h
 |_::_,[],_,h,_=>by simp at h
theorem a4X{K:Fg}:∀{is:List Nat}{ws:List Z}{vs:List V}{σ:S3}{τ:L2.St},Reps K H ws vs->RSt K H σ τ->RSt K H (sets is ws σ) (a2E is vs τ)
 |[],ws,vs,σ,τ,_,h=>by unfold sets a2E;exact h
 |i::is,[],vs,σ,τ,r,h=>by rw[a0p]at r;subst r;exact h
 |i::is,w::ws,vs,σ,τ,r,h=>by
  obtain⟨v,c,rfl,a,b⟩:=r;exact a4X (is:=is) b (h.set a i)
theorem a3E:∀{is:List Nat}{vs:List V}{τ:L2.St}{j:Nat},j∉is->(a2E is vs τ)[j]?=τ[j]?
 |[],_,_,_,_=>by unfold a2E;rfl
 |i::is,[],_,_,_=>by unfold a2E;rfl
 |i::is,v::vs,τ,j,h=>by
  have b:j≠i:=λz=>h (z▸bu ..)
  show (a2E is vs _)[j]?=τ[j]?
  rw[a3E (λz=>h (bG _ z)),dg (Ne.symm b)]
theorem a2w:∀{is:List Nat}{vs:List V}{τ:L2.St},(a2E is vs τ).length=τ.length
 |[],_,_=>by unfold a2E;rfl
 |i::is,[],_=>by unfold a2E;rfl
 |i::is,v::vs,τ=>by
  show (a2E is vs _).length=τ.length
  rw[a2w,eO]
def b3r{K:Fg}(r:Rep K H w v)(hs:RSt K H σ τ)(hb:a3k pt w σ=some σ')
  (q:∀τ',RSt K H σ' τ'->τ'.length=τ.length->(∀j,j∉pt.slots->τ'[j]?=τ[j]?)->Q τ' H):gP K pt v τ H Q:=by
 cases pt with
 |nm i=>
  cases hb;exact q _ (hs.set r i) (by simp) λj d=>by rw[dg];intro z;exact d (z▸bu ..)
 |tp is=>
  cases w with
  |tup ws=>
   obtain⟨a,f,rfl,e,c⟩:=r;have b:(if ws.length=is.length then some _ else none)=some σ':=hb
   by_cases hl:ws.length=is.length
   ·rw[if_pos hl]at b;cases b;exact⟨a,f,rfl,SqT.of e,by rw[<- c.length];exact hl,a8K (c.length▸hl) (q _ (a4X c hs) a2w λj d=>a3E d)⟩
   ·simp_all
  |_=>cases hb
def QP(X:Cx)(tg:Expr)(pt:Pt):Prop:=PG X tg (gP X.K pt)
def uAsg(te:E3)(pt:Pt):X3:=λnx _ _ _ σ G=>te σ G λx G1=>∃σ',a3k pt x σ=some σ'/\nx σ' G1
def a5N{K:Fg}(h:lowS K (uAsg te pt) D τ H):tAsg (low K te) (gP K pt) D τ H:=by
 obtain⟨σ,G,p,s,k,l,b,e,h,j,r,m,n⟩:=h;exact⟨σ,G,_,b,e,h,by rintro w o v q ⟨σ',g,i⟩ f c d;exact b3r f (b.mono d) g fun τ' a _ _=>j _ _ _ _ i a c d⟩
def b8t(hN:X.N.Nodup)(hi:X.N[i]?=some x)(hx:Loc X.env.scope x)(he:QE X e te)(hs:gZ e (some (.Name x pos')) pos.line X.env=pure false)(hf:X.fn x=true\/X.env.scope.names.lookup x=some .local) :
  QS X (.Assign [.Name x pos'] e pos) (uAsg te (.nm i)):=⟨a1w (b5c hN hi hx he.p hs hf) λ_ _ _=>a5N⟩
def b58(he:QE X e te)(hg:QP X tg pt)(hs:jC [tg] e pos.line X.env=pure false:=by rfl)(hw:jD [tg] e X.env=pure none:=by rfl)
  (h1:(gU [tg] X.env).map (·.2)=[assign tg X.env]:=by rfl):QS X (.Assign [tg] e pos) (uAsg te pt):=⟨a1w (b2b he.p hg hs hw h1) λ_ _ _=>a5N⟩
abbrev Z3:=Z->Z->Z->Hq->(Hq->Prop)->Prop
def lowZ(K:Fg)(r:Z3):TSet:=λo i v H Q=>∃a b w G R,Rep K H a o/\Rep K H b i/\Rep K H w v/\RH K G H/\r a b w G R/\∀G' H',R G'->RH K G' H'->TK K H H'->Q H'
def lowZ.un{K:Fg}{C:Prop}(z:lowZ K r o i v H Q)(f:∀a b w G R,(Rep K H a o)->(Rep K H b i)->(Rep K H w v)->(RH K G H)->(r a b w G R)->(∀G' H',R G'->RH K G' H'->TK K H H'->Q H')->C):C:=by obtain⟨a,b,w,G,R,d,j,e,g,c,h⟩:=z;exact f _ _ _ _ _ d j e g c h
def SetQ(X:Cx)(r:Z3):Prop:=PSet X (lowZ X.K r)
def b2i(h:PSet X r')(i:∀o j v H Q,r o j v H Q->r' o j v H Q):PSet X r:=λa s σ H o j v c f u Q I b d e q=>h a s σ H o j v c f u Q I b d e (i _ _ _ _ _ q)
def uPut(te to ti:E3)(r:Z3):X3:=λnx _ _ _ σ G=>te σ G λw G1=>to σ G1 λo G2=>ti σ G2 λi G3=>r o i w G3 λG4=>nx σ G4
def b8u(h:PS X st (tAsg (low X.K te) (gSub (low X.K to) (low X.K ti) (lowZ X.K r)))):QS X st (uPut te to ti r):=⟨a1w h λD τ H z=>z.un fun σ G Q I J N a s h B T V C=>
 ⟨σ,G,_,a,s,h,λw m v U o t e d=>⟨σ,m,_,a.mono d,e,o,λx u R S n i l c=>⟨σ,u,_,a.mono (d.trans c),l,n,λy A M F q g k b=>
  ⟨x,y,w,A,_,i.mono b,g,t.mono (c.trans b),k,q,λE L p j f=>B _ _ _ _ p (a.mono (((d.trans c).trans b).trans f)) j (((d.trans c).trans b).trans f)⟩⟩⟩⟩⟩
def a6w(he:QE X e te)(ho:QE X o to)(hi:QE X i ti)(hr:SetQ X r)(hs:jC [.Subscript o i p'] e pos.line X.env=pure false:=by rfl)(hw:jD [.Subscript o i p'] e X.env=pure none:=by rfl)
  (h1:(gU [.Subscript o i p'] X.env).map (·.2)=[assign (.Subscript o i p') X.env]:=by rfl) (ha:∀v,assign (.Subscript o i p') X.env v=(do
   let ov <- gr [v] (eval o X.env)
   let iv <- gr [v,ov] (eval i X.env)
   g8 p'
   gr [v,ov,iv] (jg ov iv v)
   release [v,ov,iv] []):=by intro _;rfl):QS X (.Assign [.Subscript o i p'] e pos) (uPut te to ti r):=b8u (b2b he.p (b5b ho.p hi.p hr ha) hs hw h1)
def uAug(i:Nat)(te:E3)(r:R3):X3:=λnx _ _ _ σ G=>∃x,σ[i]?=some (some x)/\te σ G λy G1=>r x y G1 λz G2=>nx (σ.set i (some z)) G2
def b8v(h:PS X st (tAug i (low X.K te) (low2 X.K r))):QS X st (uAug i te r):=⟨a1w h λD τ H q=>q.un fun σ G y L C u a s k t A B M=>by
 obtain⟨x,p,h⟩:=k;obtain⟨v,n,o⟩:=a.get p;exact⟨v,n,σ,G,_,a,s,h,λw m N z j c g b=>⟨x,w,m,_,o.mono b,c,g,j,λF I J E l d e f=>t _ _ _ _ l ((a.mono (b.trans f)).set d i) e (b.trans f)⟩⟩⟩
def b59(hN:X.N.Nodup)(hi:X.N[i]?=some x)(hx:Loc X.env.scope x)(he:QE X e te)(ho:OpQ X (g9 op) r)(hf:X.fn x=true\/X.env.scope.names.lookup x=some .local) :
  QS X (.AugAssign (.Name x pos') op e pos) (uAug i te r):=b8v (b5d hN hi hx he.p ho hf)
end
abbrev I3:=S3->Hq->(List Z->(Hq->Prop)->Hq->Prop)->Prop
def a3l(K:Fg)(ws:List Z)(ok:Hq->Prop)(J:It)(H0:Hp):Prop:=∀i G H,RH K G H->TK K H0 H->ok G->i<=ws.length ->
 (i=ws.length->J.stop i H)/\∀w,ws[i]?=some w->J.go i H/\∀x H',J.yld i H x H'->Rep K H' w x/\RH K G H'/\TK K H H'
def lowI(K:Fg)(wi:I3):TI:=fun τ H R2=>∃σ G R,RSt K H σ τ/\RH K G H/\wi σ G R/\∀ws ok G' J H',R ws ok G'->a3l K ws ok J H'->RH K G' H'->TK K H H'->R2 J H'
def lowI.un{K:Fg}{R2:It->Hp->Prop}{C:Prop}(z:lowI K wi τ H R2)(f:∀σ G R,(RSt K H σ τ)->(RH K G H)->(wi σ G R)->(∀ws ok G' J H',R ws ok G'->a3l K ws ok J H'->RH K G' H'->TK K H H'->R2 J H')->C):C:=by obtain⟨σ,G,R,d,b,c,a⟩:=z;exact f _ _ _ d b c a
def QI(X:Cx)(tg iter:Expr)(wi:I3):Prop:=PI X tg iter (lowI X.K wi)
def a5O(h:PI X tg iter wi')(i:∀σ H R,wi σ H R->wi' σ H R):PI X tg iter wi:=λa s σ H R I q=>h a s σ H R I (i σ H R q)
def FORB(ws:List Z)(ok:Hq->Prop)(pt:Pt)(tb:X3)(nx:C3)(rt:K3)(σ:S3)(G1:Hq):Prop:=∃I:Nat->S3->Hq->Prop,I 0 σ G1/\(∀i σ G,i<=ws.length->I i σ G->ok G) /\
 (∀i x σ G,ws[i]?=some x->I i σ G->∃σ',a3k pt x σ=some σ'/\tb (I (i+1)) rt nx (I (i+1)) σ' G)/\∀σ G,I ws.length σ G->nx σ G
def uFor(wi:I3)(pt:Pt)(tb:X3):X3:=λnx rt _ _ σ G=>wi σ G λws ok G1=>FORB ws ok pt tb nx rt σ G1
def a0R(I:Nat->S3->Hq->Prop)(h0:I 0 σ G)(hok:∀i σ G,i<=ws.length->I i σ G->ok G)
  (step:∀i x σ G,ws[i]?=some x->I i σ G->∃σ',a3k pt x σ=some σ'/\tb (I (i+1)) rt nx (I (i+1)) σ' G) (fin:∀σ G,I ws.length σ G->nx σ G):FORB ws ok pt tb nx rt σ G:=⟨I,h0,hok,step,fin⟩
def a2F(hp:gi (model X.prog X.w) X.A X.env X.xe)(hc:X.calm=true)(hi:QI X tg iter wi)(hg:QP X tg pt)(hb:QSs X sb t)
  (hs:∀x,hU iter X.env x=pure x:=by intro _;rfl):QS X (.For tg iter sb [] pos) (uFor wi pt t):=⟨a1w (b5h hp hc hi hg hb.p hs) λD τ H U=>U.un fun σ G nx rt bk ct hs hg h R u2 u3 u4=>by
 refine⟨σ,G,_,hs,hg,h,?_⟩;rintro b ok G1 J L ⟨I,i0,S,u,E⟩ hJ M k;refine⟨λi m τ' a=>m=b.length-i/\i<=b.length/\∃σ' G',RSt X.K a σ' τ'/\RH X.K G' a/\TK X.K L a/\I i σ' G',⟨b.length,by simp,aR _,σ,G1,hs.mono k,M,.refl _ _,i0⟩,?_⟩;rintro i m τ2 H2 ⟨rfl,n,σ2,j,o,r,c,z⟩;have l:=hJ i j H2 r c (S i σ2 j n z) n
 by_cases hlt:i<b.length
 ·obtain⟨Y,T⟩:=l.2 _ (aC hlt);refine .inr ⟨Y,fun τ' a=>i+1<=b.length/\∃σ' G',RSt X.K a σ' τ'/\RH X.K G' a/\TK X.K L a/\I _ σ' G',fun σ' a q=>⟨b.length-_,by omega,rfl,q.1,q.2⟩,λx H3 V=>?_⟩;obtain⟨rx,N,g⟩:=T x H3 V;obtain⟨σ',F,h3⟩:=u i _ σ2 j (aC hlt) z;exact b3r rx (o.mono g) F fun τ' C _ _=>⟨σ',j,_,rt,nx,_,C,N,h3,(fun σ4 v τ4 W s d f y=>⟨hlt,σ4,v,d,f,(c.trans g).trans y,s⟩),u2.mono ((k.trans c).trans g),R.mono ((k.trans c).trans g),(fun σ4 v τ4 W s d f y=>⟨hlt,σ4,v,d,f,(c.trans g).trans y,s⟩)⟩
 ·have e:i=b.length:=by lia
  subst e;exact .inl ⟨l.1 rfl,R _ _ _ _ (E σ2 j z) o r (k.trans c)⟩⟩
section
variable{X:Cx}{tg l:Expr}{tl:E3}
def wkL(x:Z)(G:Hq)(R:List Z->(Hq->Prop)->Hq->Prop):Prop:=match x with
 |.ref a=>∃ws,G a=some (.lst ws)/\R ws (λG=>G a=some (.lst ws)) G
 |.scr _ ns=>R (ns.map Z.int) (λ_=>True) G
 |_=>False
def iL(tl:E3):I3:=fun σ G R=>tl σ G λx G1=>wkL x G1 R
def a7v{K:Fg}:a3l K ws (λG=>G a=some (.lst ws)) (Itl K a) H:=λi G H c t g m=>by
 obtain⟨b,e,f⟩:=c a _ g;refine⟨λh=>⟨b,SqL.of e,by rw[<- f.length,h];exact av _⟩,λw j=>?_⟩;obtain⟨v,d,k⟩:=f.get j;refine⟨⟨b,v,SqL.of e,d⟩,?_⟩;rintro x l ⟨rfl,y⟩
 have:=y b (SqL.of e)
 rw[d]at this;cases this;exact⟨k,c,.refl _ _⟩
def a8L{K:Fg}{ns:List Int}(f:Fz K H0 a (ns.map V.int)):a3l K (ns.map Z.int) (λ_=>True) (Itl K a) H0:=λi G H g t m l=>by
 have b:=(t.frz _ _ f).sq;have c:Reps K H _ _:=a21 ns;refine⟨λh=>⟨_,b,by rw[<- c.length,h];exact av _⟩,λw j=>?_⟩;obtain⟨v,d,e⟩:=c.get j;refine⟨⟨_,v,b,d⟩,?_⟩;rintro x k ⟨rfl,y⟩
 have:=y _ b
 rw[d]at this;cases this;exact⟨e,g,.refl _ _⟩
def a2b(hl:QE X l tl):QI X tg l (iL tl):=a5O (b2W hl.p) fun τ H s k=>k.un fun σ G R i j h f=>by
 refine⟨σ,G,_,i,j,h,λw q v o c b d g=>?_⟩;cases w with
 |ref a=>
  obtain⟨r,e,c⟩:=c;obtain⟨m,n,_⟩:=d a _ e;exact⟨a,b,⟨m,SqL.of n⟩,f _ _ _ _ _ c a7v d g⟩
 |scr a ns=>
  exact⟨a,b.1,⟨_,b.2.sq⟩,f _ _ _ _ _ c (a8L b.2) d g⟩
 |_=>exact aB c
def wkT(x:Z)(G:Hq)(R:List Z->(Hq->Prop)->Hq->Prop):Prop:=match x with
 |.tup ws=>R ws (λ_=>True) G
 |_=>False
def iT(tl:E3):I3:=fun σ G R=>tl σ G λx G1=>wkT x G1 R
def a8M{K:Fg}(e:H0 a=some (.tup vs))(rs:Reps K H0 ws vs):a3l K ws (λ_=>True) (Itt K a) H0:=λi G H f t ok hi=>by
 have e:=t.tup _ _ e;have rs:=rs.mono t;refine⟨λh=>⟨vs,SqT.of e,by rw[<- rs.length,h];exact av _⟩,λw g=>?_⟩;obtain⟨v,c,d⟩:=rs.get g;refine⟨⟨vs,v,SqT.of e,c⟩,?_⟩;rintro x H' ⟨rfl,y⟩
 have:=y vs (SqT.of e)
 rw[c]at this;cases this;exact⟨d,f,.refl _ _⟩
def b6a(hl:QE X l tl):QI X tg l (iT tl):=a5O (b5f hl.p) fun τ H o j=>j.un fun σ G R m i h n=>by
 refine⟨σ,G,_,m,i,h,λw r v q d c b k=>?_⟩;cases w with
 |tup ws=>
  obtain⟨a,g,rfl,e,f⟩:=c;exact⟨a,rfl,⟨g,SqT.of e⟩,n _ _ _ _ _ d (a8M e f) b k⟩
 |_=>exact aB d
noncomputable def rng(lo:Int):Nat->List Z
 |0=>[]
 |n+1=>.int lo::rng (lo+1) n
def a2c:∀(lo:Int)(n:Nat),(rng lo n).length=n:=by intro z0 y0;induction y0 generalizing z0 with
 |zero=>exact rfl
 |succ n I0=>rw[rng,aI,I0]
theorem a4b:∀{lo:Int}{n i:Nat}{w:Z},(rng lo n)[i]?=some w->i<n/\w=.int (lo+i)
 |_,0,_,_,h=>by simp[rng]at h
 |lo,n+1,0,w,h=>by simp[rng]at h;exact⟨by lia,by rw[<- h];simp⟩
 |lo,n+1,i+1,w,h=>by
  have:=a4b (by simpa[rng]using h)
  refine⟨by lia,?_⟩;rw[this.2]
  congr 1
  lia
def a8N{K:Fg}{lo:Int}:a3l K (rng lo n) (λ_=>True) (Itr lo n) H0:=λi G H b t e g=>by
 rw[a2c];refine⟨λh=>by rw[h];exact av _,λw d=>?_⟩;obtain⟨a,c⟩:=a4b d;refine⟨a,?_⟩;rintro x f ⟨rfl,rfl⟩;exact⟨by rw[c,a0k],b,.refl _ _⟩
variable{t:A3}
def iR1(t:A3):I3:=fun σ G R=>t σ G λws G1=>∃j:Int,ws=[.int j]/\-(2 ^ 62)<=j/\j<2 ^ 62/\R (rng 0 j.toNat) (λ_=>True) G1
def a8O(h:PI X tg wi (b5g (lowA X.K t))):QI X tg wi (iR1 t):=a5O h fun τ H p g=>g.un fun σ G R i d h l=>by
 refine⟨σ,G,_,i,d,h,λq o n s ⟨j,e,a,b,k⟩ f c m=>?_⟩;subst e;obtain⟨v,rfl,r⟩:=f.one;subst r;exact⟨j,rfl,a,b,l _ _ _ _ _ k a8N c m⟩
end
section
variable{X:Cx}{tg a b:Expr}{p pos:Pos}{t:A3}
def a7w(hg:Gl X "range")(hm:X.mg "range"=none)(ha:QA X [a] t)(hs:fW [a] X.env=[(false,eval a X.env)]:=by rfl):QI X tg (.Call (.Name "range" p) [a] [] pos) (iR1 t):=a8O (a76 hg hm ha.p hs)
end
noncomputable def cap3(cap:List (Option Nat))(σ:S3):S3:=cap.map λo=>o.bind λj=>(σ[j]?).join
theorem a5P{K:Fg}(h:RSt K H σ τ):∀cap:List (Option Nat),RSt K H (cap3 cap σ) (a15 cap τ)
 |[]=>.nil
 |none::cap=>.cons (λ_ e=>nomatch e) (a5P h cap)
 |some j::cap=>.cons (λw e=>by
   have a:(σ[j]?).join=some w:=e;have b:σ[j]?=some (some w):=by
    cases q:σ[j]? with
    |none=>rw[q]at a;cases a
    |some o=>rw[q]at a;cases o with
     |none=>cases a
     |some z=>cases a;rfl
   obtain⟨v,c,r⟩:=h.get b;exact⟨v,by show (τ[j]?).join=some v;rw[c];rfl,r⟩) (a5P h cap)
theorem a2d:∀{a b:L2.St},b.length=a.length->(∀(i:Nat) v,a[i]?=some (some v)->b[i]?=some (some v))->a1b a b
 |[],[],_,_=>True.intro
 |none::a,_::b,h,k=>a2d (b:=b) (by simpa using h) λi v e=>by simpa using k (i+1) v (by simpa using e)
 |some x::a,y::b,h,k=>⟨by simpa using k 0 x rfl,a2d (b:=b) (by simpa using h) λi v e=>by simpa using k (i+1) v (by simpa using e)⟩
 |[],_::_,h,_=>by simp at h
 |_::_,[],h,_=>by simp at h
def LCB(ws:List Z)(ok:Hq->Prop)(cap:List (Option Nat))(pt:Pt)(tt:T3)(te:E3)(σ:S3)(R:K3)(D:Addr)(G1:Hq):Prop:=∃I:Nat->List Z->Hq->Prop,I 0 [] (put G1 D (.lst []))/\(∀i ys G,i<=ws.length->I i ys G->ok G) /\
 (∀i x ys G,ws[i]?=some x->I i ys G->∃σ',a3k pt x (cap3 cap σ)=some σ'/\tt σ' G λb G4=>if b=true then te σ' G4 λy G5=>G5 D=some (.lst ys)/\ys.length<fR/\I (i+1) (ys++[y]) (put G5 D (.lst (ys++[y]))) else I (i+1) ys G4) /\
 ∀ys G,I ws.length ys G->R (.ref D) G
def uLC(wi:I3)(cap:List (Option Nat))(pt:Pt)(tt:T3)(te:E3):E3:=fun σ G R=>wi σ G λws ok G1=>∀D,G1 D=none->LCB ws ok cap pt tt te σ R D G1
def a8P(I:Nat->List Z->Hq->Prop)(h0:I 0 [] (put G1 D (.lst [])))(hok:∀i ys G,i<=ws.length->I i ys G->ok G)
  (step:∀i x ys G,ws[i]?=some x->I i ys G->∃σ',a3k pt x (cap3 cap σ)=some σ'/\tt σ' G λb G4=>if b=true then te σ' G4 λy G5=>G5 D=some (.lst ys)/\ys.length<fR/\I (i+1) (ys++[y]) (put G5 D (.lst (ys++[y]))) else I (i+1) ys G4)
  (fin:∀ys G,I ws.length ys G->R (.ref D) G):LCB ws ok cap pt tt te σ R D G1:=⟨I,h0,hok,step,fin⟩
def a00{α β:Type}{f:α->Option β}{ws:List α}{x:α}(h:ws[i]?=some x):(ws.take (i+1)).filterMap f=(ws.take i).filterMap f++(f x).toList:=by
 rw[bV,eP,h];cases e:f x<;>simp[e]
def b3s(f:Z->Option Z)(hok:∀ys,ok (put G1 D (.lst ys)))(hz:ws.length<=1000)
  (turn:∀x,x∈ws->∀(ys:List Z)(K1:K3)(K2:Hq->Prop),(∀y,f x=some y->K1 y (put G1 D (.lst ys)))->(f x=none->K2 (put G1 D (.lst ys)))->∃σ',a3k pt x (cap3 cap σ)=some σ'/\tt σ' (put G1 D (.lst ys)) λb G4=>if b=true then te σ' G4 K1 else K2 G4)
  (fin:R (.ref D) (put G1 D (.lst (ws.filterMap f)))):LCB ws ok cap pt tt te σ R D G1:=by
 refine⟨λi a G=>a=(ws.take i).filterMap f/\G=put G1 D (.lst a),⟨by simp,rfl⟩,?_,?_,?_⟩
 ·simp_all
 ·rintro i x a G c ⟨e,rfl⟩;refine turn x (aL c) a _ _ (λy g=>⟨a0a,?_,?_,?_⟩) λd=>⟨?_,rfl⟩
  ·rw[e];exact dq (aD (bW _ _) (by rw[aK];lia)) (a0g (av 1000))
  ·rw[a00 c,g,e];rfl
  ·rw[a18]
  ·rw[a00 c,d,e];simp
 ·simp_all
def QIfs(X:Cx)(ifs:List Expr)(t:T3):Prop:=PIfs X ifs (lowT X.K t)
def uTT:T3:=λ_ G R=>R true G
def b3t:QIfs X [] uTT:=by rintro a s τ H Q I ⟨σ,G,R,d,b,h,c⟩;exact b0H a s τ H Q I (c _ _ _ h b (.refl _ _))
def a8Q(h:QT X c t):QIfs X [c] t:=b0I h.p
def b3u{pt:Pt}(hc:(pt.slots.all λj=>decide (cap[j]?=some none))=true)(h:(a15 cap τ)[i]?=some (some v)):i∉pt.slots:=λa=>by
 have q:=of_decide_eq_true ((bA.mp hc) i a);unfold a15 at h;rw[aA,q]at h;cases h
def b2j{K:Fg}(hc:(pt.slots.all λj=>decide (cap[j]?=some none))=true)(h:low K (uLC wi cap pt tt te) τ H Q) :
  tLC (lowI K wi) cap (gP K pt) (lowT K tt) (low K te) τ H Q:=by
 obtain⟨σ,G,R,hs,hg,h,up⟩:=h;refine⟨σ,G,_,hs,hg,h,λc ok G1 J H1 h1 hJ t U D B=>?_⟩;obtain⟨I,i0,S,C,N⟩:=h1 D (t.out B);refine⟨λi m _ d=>m=c.length-i/\i<=c.length/\∃a G',RH K G' d/\TK K H1 d/\I i a G',⟨c.length,by simp,aR _,[],_,t.set (o:=.lst []) (.new B) ⟨[],a0d,.nil⟩,.new B,i0⟩,?_⟩;rintro i m vs H2 ⟨rfl,w,a,f,p,g,E⟩;have n:=hJ i f H2 p g (S i a f w E) w
 by_cases hlt:i<c.length
 ·obtain⟨go,yl⟩:=n.2 _ (aC hlt);refine .inr ⟨go,λ_ d=>i+1<=c.length/\∃a G',RH K G' d/\TK K H1 d/\I _ a G',λvs' d q=>⟨c.length-_,by lia,rfl,q.1,q.2⟩,λx H3 y3=>?_⟩;obtain⟨rx,aa,F⟩:=yl x H3 y3;obtain⟨σ',Y,h3⟩:=C i _ a f (aC hlt) E;refine b3r rx (a5P (hs.mono ((U.trans g).trans F)) cap) Y fun τ' z M hk'=>⟨a2d M λj v T=>by rw[hk' j (b3u hc T)];exact T,?_⟩;refine⟨σ',f,_,z,aa,h3,λb G4 H4 l u A=>?_⟩;cases b with
  |false=>
   exact⟨hlt,a,G4,u,(g.trans F).trans A,l⟩
  |true=>
   refine⟨σ',G4,_,z.mono A,u,l,λy G5 v5 H5 ⟨L,V,h5⟩ r5 r t5=>?_⟩;obtain⟨X,k,s⟩:=r D _ L;refine⟨X,k,by rw[<- s.length];exact V,hlt,_,_,r.set (.lst k) (a07 (s.append (.cons r5 .nil)) (.lst k)),?_,h5⟩;exact (((g.trans F).trans A).trans t5).trans (.lst k)
 ·have e:i=c.length:=by lia
  subst e;exact .inl ⟨n.1 rfl,up _ _ _ _ (N a f E) (by rw[a0v]) p (U.trans g)⟩
section
variable{X:Cx}{N':List Str}{sc:Scope}{cap:List (Option Nat)}{tg iter elt:Expr}{ifs:List Expr}{wi:I3}{pt:Pt}{tt:T3}{te:E3}{pos:Pos}
def q_lc(hc:X.calm=true)(hNN:X.N=Nj)(hso:X.env.scope=so)(ck:capB Nj so sc N' cap=true)(hp:(pt.slots.all λj=>decide (cap[j]?=some none))=true)(hi:QI X tg iter wi)
  (hg:∀C s H fp,QP (cxC X E0 N' sc C s H fp) tg pt) (ht:∀C s H fp,QIfs (cxC X E0 N' sc C s H fp) ifs tt) (he:∀C s H fp,QE (cxC X E0 N' sc C s H fp) elt te)
  (hs:∀x,hU iter X.env x=pure x:=by intro _;rfl):QE X (.ListComp elt [⟨tg,iter,ifs,0⟩] sc pos) (uLC wi cap pt tt te):=⟨a0P (b8d (g:=gP X.K pt) (tt:=lowT X.K tt) hc a6s hNN hso ck hi hg ht (λC s H a=>(he C s H a).p) hs) λ_ _ _=>b2j hp⟩
def b3v(hN:X.N.Nodup)(hx:X.N[i]?=some x)(hl:X.env.scope.names.lookup x=some .local)(hc:X.calm=true)(hNN:X.N=Nj)(hso:X.env.scope=so)(ck:capB Nj so sc N' cap=true)
  (hp:(pt.slots.all λj=>decide (cap[j]?=some none))=true) (hi:QI X tg iter wi)
  (hg:∀C s H fp,QP (cxC X E0 N' sc C s H fp) tg pt) (ht:∀C s H fp,QIfs (cxC X E0 N' sc C s H fp) ifs tt) (he:∀C s H fp,QE (cxC X E0 N' sc C s H fp) elt te)
  (hsw:gZ (.ListComp elt [⟨tg,iter,ifs,0⟩] sc pos) (some (.Name x pos')) spos.line X.env=pure true:=by rfl)
  (hs:∀x,hU iter X.env x=pure x:=by intro _;rfl):QS X (.Assign [.Name x pos'] (.ListComp elt [⟨tg,iter,ifs,0⟩] sc pos) spos) (uAsg (uLC wi cap pt tt te) (.nm i)):=⟨a1w (b0K (g:=gP X.K pt) (tt:=lowT X.K tt) hN hx hl hc a6s hNN hso ck hi hg ht (λC s H a=>(he C s H a).p) hsw hs) λD τ H h=>b2j hp (a5N h)⟩
end
section
variable{P:fV}{w:World}{K:Fg}{mg:Str->Option Value}{base:Heap}
def fn3{st:Stmt}(F:Fun K x qual st f fd)(S:FnScope N ps (a0l st))(len:∀ws G R,sp ws G R->ws.length=ps.length)
  (hbody:∀(cdv:Value)(A:Around)(outer:List Env)(s:Shared)(H:Hp)(E:XK)(ws:List Z)(G:Hq)(R:K3),Room k (A.deeper (envOfC qual (a0l st) s.heap.objs.size f cdv))->sp ws G R ->
   ∃t,QSs (cxOf CX0 P w K mg base N qual (a0l st) f cdv A outer s H E).nox (a0S st) t/\t (λ_ G'=>R .non G') R (λ_ _=>False) (λ_ _=>False) (a08 N ws) G):FnOk P w K mg base CX0 (k+1) f fd ps (lowP K sp):=by
 refine F.ok S (by rintro n H Q E ⟨d,G,R,c,e,h,b⟩;rw[<- c.length];exact len _ _ _ h) ?_;rintro g A a s H n Q E j ⟨d,G,R,c,e,h,b⟩;obtain⟨t,l,q⟩:=hbody g A a s H E d G R j h;exact⟨_,l.p,a08 N d,G,_,R,_,_,.start c,e,q,fun σ' v τ' u m r i o=>b _ _ _ _ m (by rw[a0w]) i o,b,λ_ _ _ _ h _ _ _=>h.elim,λ_ _ _ _ h _ _ _=>h.elim⟩
end
section
variable{X:Cx}
def zAdd:R3:=λx y G R=>match x,y with
 |.int i,.int j=>R (.int (i+j)) G
 |.str a,.str b=>a.length+b.length<=fR/\R (.str (a++b)) G
 |.tup xs,.tup ys=>xs≠[]/\xs.length+ys.length<=fR/\R (.tup (xs++ys)) G
 |.ref p,.ref q=>∃xs ys,G p=some (.lst xs)/\G q=some (.lst ys)/\xs.length+ys.length<=fR/\∀t,G t=none->R (.ref t) (put G t (.lst (xs++ys)))
 |_,_=>False
def b8w:OpQ X (gb .Add) zAdd:=a3j (op_add.or (op_add_str.or (op_catT.or b5z))) λx y H Q D=>D.un λa b G R c d f h m=>by
 cases a with
 |int i=>
  cases b with
  |int j=>rw[a0k]at c d;exact .inl ⟨_,_,c,d,m _ _ _ _ h (by rw[a0k]) f (.refl _ _)⟩
  |_=>exact aB h
 |str i=>
  cases b with
  |str j=>rw[a0t]at c d;exact .inr (.inl ⟨_,_,c,d,h.1,m _ _ _ _ h.2 (by rw[a0t]) f (.refl _ _)⟩)
  |_=>exact aB h
 |tup w=>
  cases b with
  |tup ws=>
   obtain⟨p,n,rfl,o,k⟩:=c;obtain⟨q,r,rfl,u,l⟩:=d;obtain⟨B,s,h⟩:=h;refine .inr (.inr (.inl ⟨p,q,n,r,rfl,rfl,SqT.of o,SqT.of u,λz=>?_,by rw[<- k.length,<- l.length];exact s,λz=>?_,λz t g=>?_⟩))
   ·subst z;exact B (b8.mp k.length)
   ·subst z;have e:=b8.mp l.length;subst e;rw[a9]at h;exact m _ _ _ _ h (by rw[a1c];exact⟨p,n,rfl,o,k⟩) f (.refl _ _)
   ·exact m _ _ _ _ h (by rw[a1c];exact⟨t,n++r,rfl,a0d,Reps.mono (.new g) _ _ (k.append l)⟩) (f.hid g) (.new g)
  |_=>exact aB h
 |ref p=>
  cases b with
  |ref q=>
   subst c d;obtain⟨n,r,o,u,s,h⟩:=h;obtain⟨C,A,k⟩:=f _ _ o;obtain⟨w,v,l⟩:=f _ _ u;exact .inr (.inr (.inr ⟨_,_,C,w,rfl,rfl,A,v,by rw[<- k.length,<- l.length];exact s,λt g=>m _ _ _ _ (h t (f.out g)) (by rw[a0v]) (f.set (.new g) (a07 (k.append l) (.new g))) (.new g)⟩))
  |_=>exact aB h
 |_=>exact aB h
def zI(C:Int->Int->Prop)(g:Int->Int->Z):R3:=λx y G R=>match x,y with
 |.int i,.int j=>C i j/\R (g i j) G
 |_,_=>False
def zI0(g:Int->Int->Z):R3:=λx y G R=>match x,y with
 |.int i,.int j=>R (g i j) G
 |_,_=>False
def oI{g:Int->Int->Int}(h:OpR X f (rI C λi j=>.int (g i j))):OpQ X f (zI C λi j=>.int (g i j)):=a3j h λx y H Q l=>l.un λa b G R d c k h e=>by
 cases a<;>cases b<;>first
  |exact aB h
  | (rw[a0k]at d c;exact⟨_,_,d,c,h.1,e _ _ _ _ h.2 (by rw[a0k]) k (.refl _ _)⟩)
def oI0{g:Int->Int->Int}(h:OpR X f (rI0 λi j=>.int (g i j))):OpQ X f (zI0 λi j=>.int (g i j)):=a3j h λx y H Q l=>l.un λa b G R d c k h e=>by
 cases a<;>cases b<;>first
  |exact aB h
  | (rw[a0k]at d c;exact⟨_,_,d,c,e _ _ _ _ h (by rw[a0k]) k (.refl _ _)⟩)
def b8x:OpQ X (gb .Sub) (zI0 λi j=>.int (i-j)):=oI0 b5j
def b8y:OpQ X (gb .Mult) (zI CMul λi j=>.int (i*j)):=oI b5k
def b6b:OpQ X (gb .FloorDiv) (zI b5L λi j=>.int (i / j)):=oI b0L
def b8z:OpQ X (gb .Mod) (zI (λ_ j=>0<j) λi j=>.int (i % j)):=oI b5l
def b8A:OpQ X (gb .Pow) (zI CPow λi j=>.int (i ^ j.toNat)):=oI b5m
def b2k:OpQ X (g9 .Add) (zI0 λi j=>.int (i+j)):=oI0 b2X
def zNeg:Z->Hq->K3->Prop:=λx G R=>match x with
 |.int i=>R (.int (-i)) G
 |_=>False
def b8B:UnQ X (jh .USub) zNeg:=b8e b5n λx H Q c=>c.un λa G R b d h e=>by
 cases a<;>first
  |exact aB h
  | (rw[a0k]at b;exact⟨_,b,e _ _ _ _ h (by rw[a0k]) d (.refl _ _)⟩)
def a8R:OpR X (fZ .LtE) (λx y H Q=>∃i j,x=.str i/\y=.str j/\Q (.bl (!decide (j.cps.toList<i.cps.toList))) H):=by
 intro b s σ H x y v u Q I a c h;obtain⟨i,j,rfl,rfl,q⟩:=h;obtain⟨t,rfl⟩:=a;obtain⟨d,rfl⟩:=c;exact PySem.P.le_str (a0m I q rfl)
def a8S:OpR X (fZ .Gt) (λx y H Q=>∃i j,x=.str i/\y=.str j/\Q (.bl (decide (j.cps.toList<i.cps.toList))) H):=by
 intro b s σ H x y v u Q I a c h;obtain⟨i,j,rfl,rfl,q⟩:=h;obtain⟨t,rfl⟩:=a;obtain⟨d,rfl⟩:=c;exact PySem.P.gt_str (a0m I q rfl)
def zC(f:Int->Int->Bool)(g:Str->Str->Bool):R3:=λx y G R=>match x,y with
 |.int i,.int j=>R (.bl (f i j)) G
 |.str i,.str j=>R (.bl (g i j)) G
 |_,_=>False
def oC(h:OpR X (fZ op) (rI0 λi j=>.bl (f i j)))(h':OpR X (fZ op) (λx y H Q=>∃i j,x=.str i/\y=.str j/\Q (.bl (g i j)) H)) :
  OpQ X (fZ op) (zC f g):=a3j (h.or h') λx y H Q l=>l.un λa b G R c d e h k=>by
 cases a<;>cases b<;>first
  |exact aB h
  | (rw[a0k]at c d;exact .inl ⟨_,_,c,d,k _ _ _ _ h (by rw[a0u]) e (.refl _ _)⟩)
  | (rw[a0t]at c d;exact .inr ⟨_,_,c,d,k _ _ _ _ h (by rw[a0u]) e (.refl _ _)⟩)
abbrev ltS(x y:Str):Bool:=decide (x.cps.toList<y.cps.toList)
def o_lt:OpQ X (fZ .Lt) (zC (λi j=>decide (i<j)) λx y=>ltS x y):=oC b70 a8c
def o_le:OpQ X (fZ .LtE) (zC (λi j=>decide (i<=j)) λx y=>!ltS y x):=oC b71 a8R
def o_gt:OpQ X (fZ .Gt) (zC (λi j=>decide (j<i)) λx y=>ltS y x):=oC b72 a8S
def zIs(neg:Bool):R3:=λx y G R=>match y with
 |.non=>R (.bl (if neg then !decide (x=.non) else decide (x=.non))) G
 |.bl b=>match x with
  |.bl a=>neg=false/\R (.bl (a==b)) G
  |_=>False
 |_=>False
def a3F{K:Fg}(r:Rep K H w v):decide (v=.non)=decide (w=.non):=by
 cases w with
 |non=>rw[a0w]at r;subst r;rfl
 |bl _=>rw[a0u]at r;subst r;simp
 |int _=>rw[a0k]at r;subst r;simp
 |str _=>rw[a0t]at r;subst r;simp
 |ref _=>rw[a0v]at r;subst r;simp
 |ty _=>rw[a8D]at r;subst r;simp
 |scr _ _=>rw[a17]at r;obtain⟨rfl,_⟩:=r;simp
 |tup _=>rw[a1c]at r;obtain⟨_,_,rfl,_⟩:=r;simp
end
mutual
def dZ:Z->PyData
 |.bl b=>.bool b
 |.int i=>.int i
 |.str x=>.str x
 |.tup ws=>.tuple (dZs ws)
 |_=>.none
def dZs:List Z->List PyData
 |[]=>[]
 |w::ws=>dZ w::dZs ws
end
noncomputable def flat:Nat->Z->Bool
 |_,.non=>true
 |_,.int _=>true
 |_,.str x=>PyData.strOk x
 |n+1,.tup ws=>ws.all (flat n)
 |_,_=>false
def b2l:∀(n:Nat)(d:Z),flat n d=true->(dZ d).canLay0=true/\(dZ d).depth<=n:=by
 have f:∀n,(∀d,flat n d=true->(dZ d).canLay0=true/\(dZ d).depth<=n)->∀a:List Z,(∀d∈a,flat n d=true)->PyData.canLayAll0 (dZs a)=true/\PyData.depthAll (dZs a)<=n:=by
  intro n b a
  induction a with
  |nil=>intro _;simp[dZs,PyData.canLayAll0,PyData.depthAll]
  |cons d a hi=>
   intro h;have g:=b d (h d (.head _));have c:=hi λe j=>h e (.tail _ j);simp only[dZs,PyData.canLayAll0,PyData.depthAll,g.1,c.1,dN,true_and]
   lia
 intro n
 induction n with
 |zero=>
  intro d h;cases d<;>simp_all[flat,dZ,PyData.canLay0,PyData.depth]
 |succ n b=>
  intro d h;cases d with
  |non=>simp[dZ,PyData.canLay0,PyData.depth]
  |int i=>simp[dZ,PyData.canLay0,PyData.depth]
  |str x=>simp[flat]at h;simp[dZ,PyData.canLay0,PyData.depth,h]
  |tup a=>
   have q:=f n b a (by simpa[flat]using h);simp only[dZ,PyData.canLay0,PyData.depth,q.1,true_and]
   lia
  |_=>simp[flat]at h
def b3w(n:Nat)(ds:List Z)(h:ds.all (flat n)=true):PyData.canLayAll0 (dZs ds)=true/\PyData.depthAll (dZs ds)<=n:=by
 have q:=b2l (n+1) (.tup ds) (by simpa[flat]using h);simp only[dZ,PyData.depth]at q;exact⟨q.1,by lia⟩
def a8T:∀(n:Nat)(d e:Z)(k:Nat),flat n d=true->flat k e=true->(PyData.eqv (dZ d) (dZ e)=true↔d=e):=by
 have all:∀(n:Nat),(∀d e k,flat n d=true->flat k e=true->(PyData.eqv (dZ d) (dZ e)=true↔d=e))->∀(k:Nat)(ds es:List Z),(∀d∈ds,flat n d=true)->(∀d∈es,flat k d=true) ->
   (PyData.eqvAll (dZs ds) (dZs es)=true↔ds=es):=by
  intro n ih k ds
  induction ds with
  |nil=>intro es _ _;cases es<;>simp[dZs,PyData.eqvAll]
  |cons d ds hi=>
   intro es h1 h2;cases es with
   |nil=>simp[dZs,PyData.eqvAll]
   |cons e es=>
    have q1:=ih d e k (h1 d (.head _)) (h2 e (.head _));have q2:=hi es (λx hx=>h1 x (.tail _ hx)) λx hx=>h2 x (.tail _ hx);simp only[dZs,PyData.eqvAll,bn,q1,q2,bN.injEq]
 intro n
 induction n with
 |zero=>
  intro d e k h1 h2;cases d<;>cases e<;>simp_all[flat,dZ,PyData.eqv]
 |succ n ih=>
  intro d e k h1 h2;cases d with
  |tup ds=>
   cases e with
   |tup es=>
    cases k with
    |zero=>simp[flat]at h2
    |succ k=>
     simp only[dZ,PyData.eqv,Z.tup.injEq];exact all n ih k ds es (by simpa[flat]using h1) (by simpa[flat]using h2)
   |_=>simp_all[flat,dZ,PyData.eqv]
  |_=>cases e<;>simp_all[flat,dZ,PyData.eqv]
def a8U(n k:Nat)(ds es:List Z)(h:ds.all (flat n)=true)(h':es.all (flat k)=true):PyData.eqvAll (dZs ds) (dZs es)=true↔ds=es:=by
 have q:=a8T (n+1) (.tup ds) (.tup es) (k+1) (by simpa[flat]using h) (by simpa[flat]using h');simpa only [dZ,PyData.eqv,Z.tup.injEq]using q
section
variable{K:Fg}{H:Hp}
def b0Q:∀(n:Nat)(w:Z)(v:V),flat n w=true->Rep K H w v->DV H (dZ w) v:=by
 have g:∀n,(∀w v,flat n w=true->Rep K H w v->DV H (dZ w) v)->∀b c,(∀d∈b,flat n d=true)->Reps K H b c->DVs H (dZs b) c:=by
  intro n f b
  induction b with
  |nil=>intro c _ r;exact r
  |cons w b hi=>
   intro c h r;obtain⟨v,j,e,o,l⟩:=r;exact⟨v,j,e,f w v (h w (.head _)) o,hi j (λd k=>h d (.tail _ k)) l⟩
 intro n
 induction n with
 |zero=>
  intro w v h r;cases w with
  |non=>rw[a0w]at r;exact r
  |int i=>rw[a0k]at r;exact r
  |str x=>rw[a0t]at r;exact r
  |_=>simp[flat]at h
 |succ n f=>
  intro w v h r;cases w with
  |non=>rw[a0w]at r;exact r
  |int i=>rw[a0k]at r;exact r
  |str x=>rw[a0t]at r;exact r
  |tup b=>
   obtain⟨a,c,e,p,m⟩:=r;exact⟨a,c,e,p,g n f b c (by simpa[flat]using h) m⟩
  |_=>simp[flat]at h
def a4Y(n:Nat):∀(ws:List Z)(vs:List V),ws.all (flat n)=true->Reps K H ws vs->DVs H (dZs ws) vs:=by intro z0;induction z0 with
 |nil=>intro vs _ r;rw[a0p]at r;simp only[dZs];unfold DVs;exact r
 |cons w ws I0=>
  intro vs h r;obtain⟨v,a,e,b,c⟩:=r;rw[aS,bn]at h;exact⟨v,a,e,b0Q n w v h.1 b,I0 a h.2 c⟩
end
def a1A(h:flat n w=true)(hn:n<=64):SeqAt.shaped (dZ w)=true:=by
 have q:=b2l n w h;unfold SeqAt.shaped;rw[q.1,bM];exact decide_eq_true (by omega)
def a1e(h:ws.all (flat n)=true)(hn:n<=63):SeqAt.shaped (.list (dZs ws))=true:=by
 have q:=b3w n ws h;unfold SeqAt.shaped;simp only[PyData.canLay0,PyData.depth,q.1];exact decide_eq_true (by lia)
def a5Q{p:Prop}[Decidable p](h:a=true↔p):a=decide p:=by
 cases a with
 |true=>exact (decide_eq_true (h.mp rfl)).symm
 |false=>exact (decide_eq_false λq=>by cases h.mpr q).symm
def a0s{p q:Prop}[Decidable p][Decidable q](h:p=q):decide p=decide q:=by grind
def zEq(f:Bool->Bool):R3:=λx y G R=>match x,y with
 |.bl a,.bl b=>R (.bl (f (a==b))) G
 |.int a,.int b=>R (.bl (f (decide (a=b)))) G
 |.str a,.str b=>R (.bl (f (decide (a=b)))) G
 |.ref p,.ref q=>∃xs ys,G p=some (.lst xs)/\G q=some (.lst ys)/\xs.all (flat 8)=true/\ys.all (flat 8)=true/\R (.bl (f (decide (xs=ys)))) G
 |x,y=>flat 8 x=true/\flat 8 y=true/\R (.bl (f (decide (x=y)))) G
section
variable{X:Cx}
def b2m{K:Fg}(h:low2 K (zEq f) x y H Q) :
    (scal x y=true/\Q (.bl (f (decide (x=y)))) H)\/∃d e,DV H d x/\DV H e y/\SeqAt.shaped d=true/\SeqAt.shaped e=true/\Q (.bl (f (PyData.eqv d e))) H:=by
  obtain⟨a,b,G,R,g,c,i,h,j⟩:=h;have p:flat 8 a=true/\flat 8 b=true/\R (.bl (f (decide (a=b)))) G->∃d e,DV H d x/\DV H e y/\SeqAt.shaped d=true/\SeqAt.shaped e=true/\Q (.bl (f (PyData.eqv d e))) H:=by
    rintro⟨n,m,w⟩;refine⟨dZ a,dZ b,b0Q 8 _ _ n g,b0Q 8 _ _ m c,a1A n (by simp),a1A m (by simp),?_⟩;rw[a5Q (a8T 8 a b 8 n m)];exact j _ _ _ _ w (by rw[a0u]) i (.refl _ _)
  cases a<;>cases b<;>first
    |exact .inr (p h)
    | (rw[a0u]at g c;subst g c;exact .inl ⟨rfl,by rw[a79];exact j _ _ _ _ h (by rw[a0u]) i (.refl _ _)⟩)
    | (rw[a0k]at g c;subst g c;exact .inl ⟨rfl,by rw[a0s (V.int.injEq _ _)];exact j _ _ _ _ h (by rw[a0u]) i (.refl _ _)⟩)
    | (rw[a0t]at g c;subst g c;exact .inl ⟨rfl,by rw[a0s (V.str.injEq _ _)];exact j _ _ _ _ h (by rw[a0u]) i (.refl _ _)⟩)
    | (rw[a0v]at g c
       subst g c;obtain⟨r,s,t,z,k,l,h⟩:=h;obtain⟨u,q,v⟩:=i _ _ t;obtain⟨B,o,A⟩:=i _ _ z;refine .inr ⟨.list _,.list _,?_,?_,a1e k (by simp),a1e l (by simp),?_⟩;exact⟨_,u,rfl,q,a4Y 8 _ _ k v⟩;exact⟨_,B,rfl,o,a4Y 8 _ _ l A⟩
       · simp only[PyData.eqv]
         rw[a5Q (a8U 8 8 r s k l)];exact j _ _ _ _ h (by rw[a0u]) i (.refl _ _))
def o_eq(hu:X.A.units+66<cLine):OpQ X (fZ .Eq) (zEq id):=a3j (op_eq.or (b5I hu)) λx y H Q h=>b2m h
def o_ne(hu:X.A.units+66<cLine):OpQ X (fZ .NotEq) (zEq not):=a3j (op_ne.or (b5J hu)) λx y H Q h=>b2m h
def zIn(f:Bool->Bool):R3:=λx y G R=>match x,y with
 |.str a,.str b=>R (.bl (f (!(fX.Str.occurrences b a 0 b.length 1).isEmpty))) G
 |x,.ref q=>∃ws,G q=some (.lst ws)/\flat 8 x=true/\ws.all (flat 8)=true/\R (.bl (f (decide (x∈ws)))) G
 |x,.tup ws=>flat 8 x=true/\ws.all (flat 8)=true/\R (.bl (f (decide (x∈ws)))) G
 |_,_=>False
def b3x(x:Z)(hx:flat 8 x=true):∀ws:List Z,ws.all (flat 8)=true->((dZs ws).any λy=>PyData.eqv y (dZ x))=decide (x∈ws):=by intro z0;induction z0 with
 |nil=>intro _;simp[dZs]
 |cons w ws I0=>
  intro h;rw[aS,bn]at h;simp only[dZs,ci];rw[I0 h.2,a5Q (a8T 8 w x 8 h.1 hx)]
  by_cases e:w=x
  ·simp_all
  ·have:¬ x=w:=λz=>e z.symm
   simp[e,this]
def b6c(hf:∀b,f b=if neg=true then !b else b){K:Fg}(h:low2 K (zIn f) x y H Q) :
  (∃i j,x=.str i/\y=.str j/\Q (.bl (f (!(fX.Str.occurrences j i 0 j.length 1).isEmpty))) H)\/rInD neg x y H Q:=by
 obtain⟨a,b,G,R,o,m,r,h,t⟩:=h;have s:∀p c d,y=.ref p->_->Reps K H c d->flat 8 a=true->c.all _=true->R _ G->rInD neg x y H Q:=λp c d e w n k g h=>by
  refine⟨dZ a,p,dZs c,d,b0Q 8 _ _ k o,e,w,a4Y 8 _ _ g n,a1A k (by simp),a1e g (by simp),?_⟩;rw[b3x a k c g,<- hf];exact t _ _ _ _ h (by rw[a0u]) r (.refl _ _)
 cases b with
 |str j=>
  cases a with
  |str i=>rw[a0t]at o m;exact .inl ⟨_,_,o,m,t _ _ _ _ h (by rw[a0u]) r (.refl _ _)⟩
  |_=>exact aB h
 |ref q=>
  have l:∃c,G q=some (.lst c)/\flat 8 a=true/\c.all (flat 8)=true/\R (.bl (f (decide (a∈c)))) G:=by cases a<;>exact h
  obtain⟨c,e,k,g,l⟩:=l;obtain⟨d,u,n⟩:=r q _ e;exact .inr (s q c d m (.inl u) n k g l)
 |tup c=>
  obtain⟨q,d,e,v,n⟩:=m;have l:flat 8 a=true/\c.all (flat 8)=true/\R (.bl (f (decide (a∈c)))) G:=by cases a<;>exact h
  obtain⟨k,g,l⟩:=l;exact .inr (s q c d e (.inr v) n k g l)
 |_=>cases a<;>exact aB h
def o_in(hu:X.A.units+66<cLine):OpQ X (fZ .In) (zIn id):=a3j (op_in_str.or (b5K hu)) λx y H Q h=>b6c (λb=>by simp) h
end
end L3
namespace L2
open PySem PySem.Spec PyProof.Rows
noncomputable def Its(x:Str):It:=⟨λi _=>i<x.cps.size,λi H v H'=>H'=H/\∃c,x.cps[i]?=some c/\v=.str ⟨#[c]⟩,λi _=>i=x.cps.size⟩
theorem a6x{P:fV}{w:World}{K:Fg}{tg:Expr}{it:Addr}{ty:String}{x:Str}{t:Tok}
  (hty:["enumerate","zip","dict_itemiterator","dict_reverseitemiterator","odict_iterator","itertools.zip_longest","itertools.pairwise"].contains ty=false)
  (W:∀A':Around,A'.handled=none->Walks P w A' it [it] [it] x.cps.size (SignAt x) (λi h=>h.IsStrIter it ty x t i))
  (hself:∀(A:Around)(i:Nat)(s:Shared)(Q:Value->Shared->Prop)(E:Value->Shared->Prop),s.heap.IsStrIter it ty x t i->Q (.ref it) s->wpAny (model P w) A (pyIter (.ref it)) Q E s) :
  Turn P w K tg (Its x) [it] it (λi h=>h.IsStrIter it ty x t i) where
 mem:=by simp
 obj:=λi h st b hb=>by
  have e:b=it:=by simpa using hb
  subst e;obtain⟨o,e,c,d⟩:=st;exact⟨o,e,λv z=>by rw[d]at z;cases z⟩
 keep:=λi h h' st k=>let ⟨o,e,r⟩:=st;⟨o,k it (by simp) o e,r⟩
 item:=by
  intro X hP hw hK hc i pins s σ H E I hf st hg;subst hP hw hK;obtain⟨f0,f1,f2,f3,f4,f5⟩:=hf it (by simp);refine (W X.A (I.ok.hd hc)).item i s _ _ hg st λv h' tk ⟨c,u,hx,e⟩ st' k=>?_;subst e;have I1:Inv X pins σ H { s with heap:=h',toks:=tk }:=I.turned (t':=tk) (λb o hb e=>k b o (by simpa using hb) e) f0 f1 f3 f4 f5;obtain⟨o,e,cl,d⟩:=id st';exact⟨_,rfl,a7h (s:={ s with heap:=h',toks:=tk }) e cl d hty ⟨.str ⟨#[c]⟩,H,I1,⟨_,rfl⟩,⟨rfl,c,hx,rfl⟩,st',λb hb=>(hf b hb).1⟩⟩
 done:=by
  intro X hP hw hK hc i pins s σ H E I hf st hg;subst hP hw hK;obtain⟨f0,f1,f2,f3,f4,f5⟩:=hf it (by simp);have hg':i=x.cps.size:=hg;subst hg';exact (W X.A (I.ok.hd hc)).done s _ _ st λh' tk k=>⟨rfl,I.turned (t':=tk) (λb o hb e=>k b o (by simpa using hb) e) f0 f1 f3 f4 f5⟩
 self:=hself
def iStr(tl:TE):TI:=fun σ H R=>tl σ H λv H1=>∃x,v=.str x/\R (Its x) H1
def b6d(hl:PE X l tl):PI X tg l (iStr tl):=by
 intro c s σ H R I h;refine thn (hl c s σ H _ I h) λv a ⟨x,f,d,p,m⟩=>?_;obtain⟨y,e,q⟩:=m;subst e;obtain⟨t,rfl⟩:=p;have j:∀(o:Obj),∀b∈[a.heap.objs.size],FpOk X c f b:=λo b k=>by
  have e:b=a.heap.objs.size:=by simpa using k
  subst e;exact d.fpOk (av _) (d.hok.fresh (av _))
 cases ha:y.cps.all _
 ·refine wpAny_pyIter_wide ha ?_;exact⟨a.heap.objs.size,[a.heap.objs.size],_,_,f,rfl,d.kept (λb o e=>Heap.get?_push_of_some _ e),a6x (by decide) (λn i=>Walks.strWide i _ y t) (λ_ _ _ _ _ g h=>wpAny_pyIter_striter_wide g h),
   ⟨_,Heap.get?_push_size _ rfl,rfl,rfl⟩,j default,q⟩
 ·refine wpAny_pyIter_ascii ha ?_;exact⟨a.heap.objs.size,[a.heap.objs.size],_,_,f,rfl,d.kept (λb o e=>Heap.get?_push_of_some _ e),a6x (by decide) (λn i=>Walks.strAscii i _ y t) (λ_ _ _ _ _ g h=>wpAny_pyIter_striter_ascii g h),
   ⟨_,Heap.get?_push_size _ rfl,rfl,rfl⟩,j default,q⟩
theorem Vals.tog:∀{xs:List V}{us:List Value}{i:Nat}{u:Value},Vals xs us->us[i]?=some u->∃x,xs[i]?=some x/\RelV x u
 |_,_,_,_,.nil,e=>by simp at e
 |_,_,0,_,.cons r _,e=>by simp at e;subst e;exact⟨_,rfl,r⟩
 |_,_,i+1,u,.cons _ t,e=>by
  obtain⟨x,a,b⟩:=Vals.tog t (by simpa using e);exact⟨x,by simpa using a,b⟩
def a8V(bs:List Bool):(aO bs.length).all (λi=>bs.getD i false)=bs.all id:=by
 rw[cr];simp only[bA,bR,id]
 constructor
 ·intro h b c;obtain⟨i,a,e⟩:=List.getElem_of_mem c
  have:=h i a
  rw[bX,aC a]at this;rw[<- e];exact this
 ·intro h i a;rw[bX,aC a];exact h _ (bz a)
section
variable{X:Cx}
def a8W(hc:X.calm=true):CallR X (.builtin "all") (λxs H Q=>∃(p:Addr)(bs:List Bool),xs=[.ref p]/\SqL X.K H p (bs.map V.bl)/\Q (.bl (bs.all id)) H):=by
 intro n s σ H M R Q I r h;obtain⟨p,a,rfl,E,q⟩:=h;obtain⟨u,rfl,y⟩:=a2A r;cases y;obtain⟨d,l,g,_⟩:=I.list E;have B:p<s.heap.objs.size:=by obtain⟨o,_,e,_⟩:=g;exact Heap.lt_size e
 refine call_all_walk (iO g.isList ?_);have D:X.A.in1.handled=none:=I.ok.hd hc;have t:(s.heap.push { cls:=.type "list_iterator",data:=.fields #[.ref p,rawInt 0] }).IsList p d.toArray:=by
  obtain⟨o,e,c⟩:=g.isList;exact⟨o,Heap.get?_push_of_some _ e,c⟩
 refine⟨_,_,_,_,_,_,λi=>a.getD i false,rfl,Walks.list D s.heap.objs.size p (aE B) d.toArray,⟨⟨_,Heap.get?_push_size _ rfl,rfl,rfl⟩,t⟩,?_,?_⟩
 ·intro i v N L J C j;obtain⟨x,f,w⟩:=Vals.tog l (by simpa using C);rw[aA]at f;cases hb:a[i]? with
  |none=>rw[hb]at f;cases f
  |some b=>
   rw[hb]at f;cases f;cases w;refine gY ?_
   have:a.getD i false=b:=by simp_all
   dsimp only at j;rw[this]at j;exact j
 ·intro G F k;have e:(aO d.toArray.size).all (λi=>a.getD i false)=a.all id:=by
   have z:d.toArray.size=a.length:=by rw[aU,<- l.length,aq]
   rw[z];exact a8V a
  rw[e];exact⟨.bl _,H,I.kept (λb o m=>k b o (by simpa using aE (Heap.lt_size m)) (Heap.get?_push_of_some _ m)),rfl,q⟩
def b6e:OpR X (fZ .Is) (λx y H Q=>∃a b,x=.bl a/\y=.bl b/\Q (.bl (a==b)) H):=by
 intro d s σ H x y v u Q I c e h;obtain⟨a,b,rfl,rfl,q⟩:=h;cases c;cases e;exact wpAny_is_plain rfl (a0m I q (by cases a<;>cases b<;>rfl))
def rSlS:V->Option Int->Option Int->Hp->VK->Prop:=λx lo hi H Q=>∃z,x=.str z/\z.length<=fR/\Q (.str (Txt.slice z lo hi)) H
def b6f:SlR X rSlS:=by
 intro g s σ H x v A B f b C Q I w p y m h;obtain⟨z,rfl,r,q⟩:=h;obtain⟨t,rfl⟩:=w;obtain⟨o,e,c,d⟩:=p;have a:∀f b,Q _ H->(Txt.slice z f b).length<=fR/\∀n k,EP X g σ Q (.str (Txt.slice z f b) n) { s with toks:=k }:=λf b q=>
  ⟨aD (Txt.slice_le z _ _) r,λn k=>⟨.str _,H,I.tok k,⟨_,rfl⟩,q⟩⟩
 cases y with
 |none=>
  cases m with
  |none=>exact⟨"str",_,F.slot_str_getitem.lookup,ii _ _ _,jm (l:=none) (u:=none) (st:=none) ⟨o,e,c,d⟩ rfl (jo (a _ _ q))⟩
  |int j u=>exact⟨"str",_,F.slot_str_getitem.lookup,ii _ _ _,jm (l:=none) (u:=some (j,u)) (st:=none) ⟨o,e,c,d⟩ rfl (jo (a _ _ q))⟩
 |int i v=>
  cases m with
  |none=>exact⟨"str",_,F.slot_str_getitem.lookup,ii _ _ _,jm (l:=some (i,v)) (u:=none) (st:=none) ⟨o,e,c,d⟩ rfl (jo (a _ _ q))⟩
  |int j u=>exact⟨"str",_,F.slot_str_getitem.lookup,ii _ _ _,jm (l:=some (i,v)) (u:=some (j,u)) (st:=none) ⟨o,e,c,d⟩ rfl (jo (a _ _ q))⟩
end
end L2
namespace L3
open PySem PySem.Spec PyProof.Rows L2
section
variable{X:Cx}
def o_is:OpQ X (fZ .Is) (zIs false):=a3j (op_isN.or b6e) λx y H Q g=>g.un λa b G R d c e h f=>by
 cases b with
 |non=>rw[a0w]at c;exact .inl ⟨c,by rw[a3F d];exact f _ _ _ _ h (by rw[a0u];rfl) e (.refl _ _)⟩
 |bl b=>
  cases a with
  |bl a=>rw[a0u]at d c;exact .inr ⟨_,_,d,c,f _ _ _ _ h.2 (by rw[a0u]) e (.refl _ _)⟩
  |_=>exact aB h
 |_=>exact aB h
def b3y:OpQ X (fZ .IsNot) (zIs true):=a3j b2Y λx y H Q d=>d.un λa b G R g c e h f=>by
 cases b with
 |non=>rw[a0w]at c;exact⟨c,by rw[a3F g];exact f _ _ _ _ h (by rw[a0u];rfl) e (.refl _ _)⟩
 |bl b=>
  cases a with
  |bl a=>exact nomatch h.1
  |_=>exact aB h
 |_=>exact aB h
def zIx:R3:=λx y G R=>match x,y with
 |.ref p,.int i=>∃ws w,G p=some (.lst ws)/\atI ws i=some w/\R w G
 |.scr _ ns,.int i=>∃n,atI ns i=some n/\R (.int n) G
 |.tup ws,.int i=>∃w,atI ws i=some w/\R w G
 |.str z,.int i=>∃c,z.length<=fR/\atI z.cps.toList i=some c/\R (.str ⟨#[c]⟩) G
 |_,_=>False
def a8X{K:Fg}(r:Reps K H ws vs)(h:atI ws i=some w):∃v,atI vs i=some v/\Rep K H w v:=by
 unfold atI at h ⊢;rw[<- r.length];cases e:ixN ws.length i with
 |none=>rw[e]at h;cases h
 |some j=>
  rw[e]at h;exact r.get h
def b3z{α β:Type}{f:α->β}{xs:List α}{x:α}(h:atI xs i=some x):atI (xs.map f) i=some (f x):=by
 unfold atI at h ⊢;rw[aq];cases e:ixN xs.length i with
 |none=>rw[e]at h;cases h
 |some j=>
  rw[e]at h;have a:xs[j]?=some x:=h
  show _[j]?=some _
  rw[aA,a];rfl
def x_ix:IxQ X zIx:=b8f b5x λx y H Q s=>s.un λa b G R d f g h i=>by
  cases a<;>cases b<;>first
    |exact aB h
    | (rw[a0v]at d
       obtain⟨z,w,e,m,h⟩:=h;obtain⟨q,k,j⟩:=g _ _ e;obtain⟨v,o,l⟩:=a8X j m;exact .inl ⟨_,_,_,v,d,f,SqL.of k,o,i _ _ _ _ h l g (.refl _ _)⟩)
    | (rw[a17]at d
       obtain⟨n,u,h⟩:=h;exact .inl ⟨_,_,_,_,d.1,f,d.2.sq,b3z u,i _ _ _ _ h (by rw[a0k]) g (.refl _ _)⟩)
    | (rw[a1c]at d
       obtain⟨p,q,e,k,j⟩:=d;obtain⟨w,m,h⟩:=h;obtain⟨v,o,l⟩:=a8X j m;exact .inr (.inl ⟨p,q,_,v,e,f,SqT.of k,o,i _ _ _ _ h l g (.refl _ _)⟩))
    | (rw[a0t]at d
       obtain⟨c,r,t,h⟩:=h;exact .inr (.inr ⟨_,_,c,d,f,r,t,i _ _ _ _ h (by rw[a0t]) g (.refl _ _)⟩))
noncomputable def cutZ{α:Type}(xs:List α)(lo hi:Option Int):List α:=(xs.drop (HT.sIx xs.length 0 lo)).take (HT.sIx xs.length xs.length hi-HT.sIx xs.length 0 lo)
def b3A(xs:List V)(lo hi:Option Int):cutV xs lo hi=cutZ xs lo hi:=rfl
def Reps.cut{K:Fg}(r:Reps K H ws vs)(lo hi:Option Int):Reps K H (cutZ ws lo hi) (cutV vs lo hi):=by
 unfold cutZ cutV;rw[<- r.length];exact (r.drop _).take _
def b0R{α β:Type}(f:α->β)(xs:List α)(lo hi:Option Int):cutZ (xs.map f) lo hi=(cutZ xs lo hi).map f:=by
 unfold cutZ;rw[aq,eQ,List.map_drop]
def zSl:L3r:=λx lo hi G R=>match x with
 |.ref p=>∃ws,G p=some (.lst ws)/\∀t,G t=none->R (.ref t) (put G t (.lst (cutZ ws lo hi)))
 |.scr _ ns=>∀t,G t=none->R (.ref t) (put G t (.lst ((cutZ ns lo hi).map Z.int)))
 |.tup ws=>¬ (HT.sIx ws.length 0 lo=0/\HT.sIx ws.length ws.length hi=ws.length)/\R (.tup (cutZ ws lo hi)) G
 |.str z=>z.length<=fR/\R (.str (Txt.slice z lo hi)) G
 |_=>False
def x_sl:SlQ X zSl:=b8p (sl_list.or (sl_tup.or b6f)) λx l k H Q m=>m.un λa G R c d h g=>by
 cases a with
 |ref p=>
  obtain⟨n,e,h⟩:=h;obtain⟨j,i,f⟩:=d _ _ e;exact .inl ⟨p,j,c,SqL.of i,λt b=>g _ _ _ _ (h t (d.out b)) (by rw[a0v]) (d.set (.new b) (a07 (f.cut l k) (.new b))) (.new b)⟩
 |scr p ns=>
  refine .inl ⟨p,_,c.1,c.2.sq,λt b=>?_⟩;rw[b3A,b0R];exact g _ _ _ _ (h t (d.out b)) (by rw[a0v]) (d.set (.new b) (a07 (a21 _) (.new b))) (.new b)
 |tup n=>
  obtain⟨p,j,e,i,f⟩:=c;exact .inr (.inl ⟨p,j,e,SqT.of i,by rw[<- f.length];exact h.1,λt b=>g _ _ _ _ h.2 (by rw[a1c];exact⟨t,_,rfl,a0d,(f.cut l k).mono (.new b)⟩) (d.hid b) (.new b)⟩)
 |str z=>
  exact .inr (.inr ⟨z,c,h.1,g _ _ _ _ h.2 (by rw[a0t]) d (.refl _ _)⟩)
 |_=>exact aB h
def zSet:Z3:=λo i v G R=>match o,i with
 |.ref p,.int k=>∃ws j,G p=some (.lst ws)/\ixN ws.length k=some j/\R (put G p (.lst (ws.set j v)))
 |_,_=>False
def b3B:SetQ X zSet:=b2i b0D λo i v H Q p=>p.un λa b w G R f g l k h q=>by
  cases a<;>cases b<;>first
    |exact aB h
    | (rw[a0v]at f
       obtain⟨r,j,e,m,h⟩:=h;obtain⟨n,c,d⟩:=k _ _ e;exact⟨_,n,_,j,f,g,c,by rw[<- d.length];exact m,q _ _ h (k.set (.lst c) (a07 (d.set l j) (.lst c))) (.lst c)⟩)
def zLen:List Z->Hq->K3->Prop:=λxs G R=>match xs with
 |[.str z]=>z.length<=fR/\R (.int z.length) G
 |[.ref p]=>∃ws,G p=some (.lst ws)/\R (.int ws.length) G
 |[.tup ws]=>R (.int ws.length) G
 |[.scr _ ns]=>R (.int ns.length) G
 |_=>False
def b8C:a2D X (.builtin "len") zLen:=a19 b0w λl H Q k=>k.un λj G R c a h d=>by
 match j,h with
 |[.str z],h=>
  obtain⟨v,rfl,r⟩:=c.one;exact⟨v,z.length,rfl,by rw[r];exact⟨h.1,rfl⟩,d _ _ _ _ h.2 (by rw[a0k]) a (.refl _ _)⟩
 |[.ref p],h=>
  obtain⟨v,rfl,r⟩:=c.one;obtain⟨i,e,h⟩:=h;obtain⟨g,f,b⟩:=a _ _ e;exact⟨v,i.length,rfl,by rw[r];exact .inl ⟨g,SqL.of f,b.length⟩,d _ _ _ _ h (by rw[a0k]) a (.refl _ _)⟩
 |[.tup i],h=>
  obtain⟨v,rfl,r⟩:=c.one;obtain⟨p,g,e,f,b⟩:=r;exact⟨v,i.length,rfl,by rw[e];exact .inr ⟨g,SqT.of f,b.length⟩,d _ _ _ _ h (by rw[a0k]) a (.refl _ _)⟩
 |[.scr p ns],h=>
  obtain⟨v,rfl,r⟩:=c.one;exact⟨v,ns.length,rfl,by rw[r.1];exact .inl ⟨_,r.2.sq,(aq ..).symm⟩,d _ _ _ _ h (by rw[a0k]) a (.refl _ _)⟩
def zMM(f:Int->Int->Int):List Z->Hq->K3->Prop:=λxs G R=>match xs with
 |[.int i,.int j]=>R (.int (f i j)) G
 |_=>False
def bMM{id:String}(hf:CallR X (.builtin id) (λxs H Q=>∃i j,xs=[.int i,.int j]/\Q (.int (f i j)) H)):a2D X (.builtin id) (zMM f):=a19 hf λl H Q d=>d.un λc G R e b h g=>by
 match c,h with
 |[.int i,.int j],h=>
  obtain⟨v,k,rfl,r,a⟩:=e.two;exact⟨i,j,by rw[r,a],g _ _ _ _ h (by rw[a0k]) b (.refl _ _)⟩
def b8D(hc:X.calm=true):a2D X (.builtin "max") (zMM λi j=>if j > i then j else i):=bMM (a8f hc)
def b8E(hc:X.calm=true):a2D X (.builtin "min") (zMM λi j=>if j<i then j else i):=bMM (a8g hc)
def zAll:List Z->Hq->K3->Prop:=λxs G R=>match xs with
 |[.ref p]=>∃bs:List Bool,G p=some (.lst (bs.map Z.bl))/\R (.bl (bs.all id)) G
 |_=>False
def b0S{K:Fg}:∀{bs:List Bool}{vs:List V},Reps K H (bs.map Z.bl) vs->vs=bs.map V.bl:=by intro z0;induction z0 with
 |nil=>intro vs h;rw[bx,a0p]at h;subst h;rfl
 |cons n ns I0=>
  intro vs h;obtain⟨v,r,rfl,a,b⟩:=h;rw[a,I0 b];rfl
def b6g(hc:X.calm=true):a2D X (.builtin "all") zAll:=a19 (a8W hc) λl H Q f=>f.un λd G R c a h j=>by
 match d,h with
 |[.ref p],h=>
  obtain⟨v,rfl,r⟩:=c.one;obtain⟨g,e,h⟩:=h;obtain⟨k,i,b⟩:=a _ _ e
  have:=b0S b
  subst this;exact⟨p,g,by rw[r],SqL.of i,j _ _ _ _ h (by rw[a0u]) a (.refl _ _)⟩
noncomputable def kit0(n T:String):Option Bool:=if (Value.type n==Value.type T)=true then some true else if PySem.W.kitMeta T=true then (PySem.fastBuiltinMro n).map (·.contains (.type T)) else none
def b6h{K:Fg}:PySem.W.kitOne K (.type n) (.type T)=kit0 n T:=rfl
noncomputable def tyN(G:Hq):Z->Option String
 |.non=>some "NoneType"
 |.bl _=>some "bool"
 |.int _=>some "int"
 |.str _=>some "str"
 |.tup _=>some "tuple"
 |.ref p=>match G p with
  |some (.lst _)=>some "list"
  |some (.dK _)=>some "dict"
  |_=>none
 |_=>none
def zIsT:List Z->Hq->K3->Prop:=λxs G R=>match xs with
 |[x,.ty T]=>∃n b,tyN G x=some n/\kit0 n T=some b/\R (.bl b) G
 |_=>False
def b0T{K:Fg}(h:tyN G x=some n)(r:Rep K H x v)(hg:RH K G H):TyOf K H v (.type n):=by
 cases x with
 |non=>rw[a0w]at r;subst r;cases h;exact .non
 |bl _=>rw[a0u]at r;subst r;cases h;exact .bl _
 |int _=>rw[a0k]at r;subst r;cases h;exact .int _
 |str _=>rw[a0t]at r;subst r;cases h;exact .str _
 |tup ws=>rw[a1c]at r;obtain⟨a,c,rfl,e,_⟩:=r;cases h;exact .tup e
 |ref p=>
  subst r;cases e:G p with
  |none=>simp[tyN,e]at h
  |some o=>
   cases o with
   |lst ws=>simp[tyN,e]at h;subst h;obtain⟨c,b,_⟩:=hg _ _ e;exact .lst b
   |dK kvs=>simp[tyN,e]at h;subst h;obtain⟨c,b,_⟩:=hg _ _ e;exact .dK b
   |ins C dx fs=>simp[tyN,e]at h
   |dF kvs=>simp[tyN,e]at h
   |dT ks=>simp[tyN,e]at h
   |tab _ _=>simp[tyN,e]at h
 |ty _=>cases h
 |scr _ _=>cases h
def b8F:a2D X (.builtin "isinstance") zIsT:=a19 b0M λl H Q g=>g.un λf G R d a h i=>by
 match f,h with
 |[x,.ty T],h=>
  obtain⟨v,j,rfl,r,c⟩:=d.two;obtain⟨n,b,e,k,h⟩:=h;exact⟨v,T,.type n,b,by rw[c],b0T e r a,by rw[b6h];exact k,i _ _ _ _ h (by rw[a0u]) a (.refl _ _)⟩
def a2e:Z->List Z->Hq->K3->Prop:=λx xs G R=>match x,xs with
 |.ref p,[y]=>∃ws,G p=some (.lst ws)/\ws.length<fR/\R .non (put G p (.lst (ws++[y])))
 |_,_=>False
def a6y:MtQ X "list.append" a2e:=a7t a4U λx n H Q j=>j.un λw k G R c f d h l=>by
 match w,k,h with
 |.ref p,[y],h=>
  obtain⟨v,rfl,r⟩:=f.one;obtain⟨m,e,g,h⟩:=h;obtain⟨i,a,b⟩:=d _ _ e;exact⟨p,i,v,c,rfl,a,by rw[<- b.length];exact g,l _ _ _ _ h (by rw[a0w]) (d.set (.lst a) (a07 (b.append (.cons r .nil)) (.lst a))) (.lst a)⟩
def a8Y:Z->List Z->Hq->K3->Prop:=λx xs G R=>match x,xs with
 |.ref p,[.ref q]=>∃ws ys,G p=some (.lst ws)/\G q=some (.lst ys)/\ws.length+ys.length<=fR/\R .non (put G p (.lst (ws++ys)))
 |_,_=>False
def b0U:MtQ X "list.extend" a8Y:=a7t a8q λx u H Q m=>m.un λw n G R d i f h s=>by
 match w,n,h with
 |.ref p,[.ref q],h=>
  obtain⟨v,rfl,r⟩:=i.one;obtain⟨t,y,e,k,j,h⟩:=h;obtain⟨l,a,c⟩:=f _ _ e;obtain⟨o,g,b⟩:=f _ _ k;exact⟨p,q,l,o,d,by rw[r],a,g,by rw[<- c.length,<- b.length];exact j,s _ _ _ _ h (by rw[a0w]) (f.set (.lst a) (a07 (c.append b) (.lst a))) (.lst a)⟩
def b6i:E3:=λ_ G R=>∀p,G p=none->R (.ref p) (put G p (.dK []))
def a8Z:QE X (.Dict [] [] pos) b6i:=⟨a0P b0G fun τ H Q ⟨σ,G,R,d,b,h,c⟩ p a=>c _ _ _ _ (h p (b.out a)) (by rw[a0v]) (b.set (.new a) ⟨[],a0d,rfl,.nil⟩) (.new a)⟩
noncomputable def a2G(x:Str):List Z:=x.cps.toList.map λc=>.str ⟨#[c]⟩
def wkS(x:Z)(G:Hq)(R:List Z->(Hq->Prop)->Hq->Prop):Prop:=match x with
 |.str z=>R (a2G z) (λ_=>True) G
 |_=>False
def iS(tl:E3):I3:=fun σ G R=>tl σ G λx G1=>wkS x G1 R
def a80{K:Fg}:a3l K (a2G x) (λ_=>True) (Its x) H0:=λi G H f t j k=>by
 have e:(a2G x).length=x.cps.size:=by unfold a2G;rw[aq,aQ]
 refine⟨λh=>by rw[h,e];rfl,λw a=>?_⟩;unfold a2G at a;rw[aA]at a;cases hc:x.cps.toList[i]? with
 |none=>rw[hc]at a;cases a
 |some c=>
  rw[hc]at a;cases a;have b:x.cps[i]?=some c:=by simp_all
  refine⟨(Array.getElem?_eq_some_iff.mp b).1,?_⟩;rintro v l ⟨rfl,g,d,rfl⟩;rw[b]at d;cases d;exact⟨by rw[a0t],f,.refl _ _⟩
def b6j(hl:QE X l tl):QI X tg l (iS tl):=a5O (b6d hl.p) fun τ H j g=>g.un fun σ G R f e h i=>by
 refine⟨σ,G,_,f,e,h,λw m v k a c b d=>?_⟩;cases w with
 |str x=>
  exact⟨x,c,i _ _ _ _ _ a a80 b d⟩
 |_=>exact aB a
end
section
variable{σ:S3}{G:Hq}{R:K3}{Rb:Bool->Hq->Prop}{Ra:List Z->Hq->Prop}{nx bk ct:C3}{rt:K3}{t u:X3}{te ta tb tc to ti:E3}{c d:T3}{al:A3}{r r':R3}{w x y:Z}{i:Nat}
def b8G(e:σ[i]?=some (some w))(h:R w G):uVar i σ G R:=⟨w,e,h⟩
def i_c(h:R w G):uC w σ G R:=h
def i_op(h:ta σ G λx G1=>tb σ G1 λy G2=>r x y G2 R):uOp r ta tb σ G R:=h
def i_un{r:Z->Hq->K3->Prop}(h:ta σ G λx G1=>r x G1 R):uUn r ta σ G R:=h
def b6k(h:ta σ G λx G1=>∃k,x=.bl k/\Rb k G1):a8I ta σ G Rb:=h
def b3C(h:ta σ G λx G1=>tb σ G1 λy G2=>r x y G2 λz G3=>∃k,z=.bl k/\(if k=true then tc σ G3 λw G4=>r' y w G4 R else R (.bl false) G3)):a6v r r' ta tb tc σ G R:=h
def b8H(h:c σ G λk G1=>if k=true then d σ G1 Rb else Rb false G1):uAnd c d σ G Rb:=h
def i_or(h:c σ G λk G1=>if k=true then Rb true G1 else d σ G1 Rb):uOr c d σ G Rb:=h
def b8I(h:c σ G λk G1=>Rb (!k) G1):uNot c σ G Rb:=h
def b6l(h:ta σ G λx G1=>∃c,x=.bl c/\if c=true then tb σ G1 R else R (.bl false) G1):b5U ta tb σ G R:=h
def i_if(h:c σ G λk G1=>if k=true then ta σ G1 R else tb σ G1 R):uIf c ta tb σ G R:=h
def b8J(h:ta σ G λx G1=>tru x G1 Rb):uTru ta σ G Rb:=h
def a81(e:G p=some (.lst ws))(h:Rb (!ws.isEmpty) G):tru (.ref p) G Rb:=.inl ⟨ws,e,h⟩
def i_sl{r:L3r}(h:te σ G λx G1=>tl σ G1 λl G2=>th σ G2 λu G3=>r x l u G3 R):uSl r te tl th σ G R:=h
def b0V(h:Ro none G):a8J σ G Ro:=h
def b6m(h:te σ G λx G1=>∃i,x=.int i/\Ro (some i) G1):b5X te σ G Ro:=h
def b8K(h:Ra [] G):uNil σ G Ra:=h
def b6n(h:ta σ G λx G1=>al σ G1 λxs G2=>Ra (x::xs) G2):b3k ta al σ G Ra:=h
def b8L(h:al σ G λxs G1=>xs.length<=fR/\R (.tup xs) G1):uTup al σ G R:=h
def b8M(h:al σ G λxs G1=>xs.length<=fR/\∀p,G1 p=none->R (.ref p) (put G1 p (.lst xs))):uLst al σ G R:=h
def i_cb{r:List Z->Hq->K3->Prop}(h:al σ G λws G1=>r ws G1 R):uCB r al σ G R:=h
def i_bm{r:Z->List Z->Hq->K3->Prop}(h:to σ G λx G1=>tyZ T x G1/\al σ G1 λxs G2=>r x xs G2 R):uBM T r to al σ G R:=h
def b6o(h:al σ G λws G1=>sp ws G1 R):b3o sp al σ G R:=h
def b6p(h:nx σ G):b3p nx rt bk ct σ G:=h
def b8N(h:t (u nx rt bk ct) rt bk ct σ G):uSeq t u nx rt bk ct σ G:=h
def b6q(h:te σ G λ_ G1=>nx σ G1):b55 te nx rt bk ct σ G:=h
def b8O(h:te σ G rt):uRet te nx rt bk ct σ G:=h
def b8P(h:c σ G λb G1=>if b=true then t nx rt bk ct σ G1 else u nx rt bk ct σ G1):uIfS c t u nx rt bk ct σ G:=h
def b8Q(h:te σ G λx G1=>∃σ',a3k pt x σ=some σ'/\nx σ' G1):uAsg te pt nx rt bk ct σ G:=h
def b8R{r:Z3}(h:te σ G λw G1=>to σ G1 λo G2=>ti σ G2 λi G3=>r o i w G3 λG4=>nx σ G4):uPut te to ti r nx rt bk ct σ G:=h
def b8S(e:σ[i]?=some (some x))(h:te σ G λy G1=>r x y G1 λz G2=>nx (σ.set i (some z)) G2):uAug i te r nx rt bk ct σ G:=⟨x,e,h⟩
def a5R(M:C3)(h:t M rt bk ct σ G)(h':∀σ' G',M σ' G'->u nx rt bk ct σ' G'):uCut t u nx rt bk ct σ G:=⟨M,h,h'⟩
def b6r(h:R (.int (a+b)) G):zAdd (.int a) (.int b) G R:=h
def a82(z:a.length+b.length<=fR)(h:R (.str (a++b)) G):zAdd (.str a) (.str b) G R:=⟨z,h⟩
def b6s(e:xs≠[])(z:xs.length+ys.length<=fR)(h:R (.tup (xs++ys)) G):zAdd (.tup xs) (.tup ys) G R:=⟨e,z,h⟩
def a6z(e:G p=some (.lst xs))(e':G q=some (.lst ys))(z:xs.length+ys.length<=fR)(h:∀t,G t=none->R (.ref t) (put G t (.lst (xs++ys)))):zAdd (.ref p) (.ref q) G R:=⟨xs,ys,e,e',z,h⟩
def i_I(k:C a b)(h:R (g a b) G):zI C g (.int a) (.int b) G R:=⟨k,h⟩
def i_I0(h:R (g a b) G):zI0 g (.int a) (.int b) G R:=h
def b8T(h:R (.int (-a)) G):zNeg (.int a) G R:=h
def i_CI(h:R (.bl (f a b)) G):zC f g (.int a) (.int b) G R:=h
def i_CS(h:R (.bl (g a b)) G):zC f g (.str a) (.str b) G R:=h
def b8U(h:R (.bl (decide (x=.non))) G):zIs false x .non G R:=h
def b6t(h:R (.bl (!decide (x=.non))) G):zIs true x .non G R:=h
def b6u(h:R (.bl (f (decide (a=b)))) G):zEq f (.int a) (.int b) G R:=h
def b8V(h:R (.bl (f (decide (a=b)))) G):zEq f (.str a) (.str b) G R:=h
def b3D(e:G p=some (.lst xs))(e':G q=some (.lst ys))(f1:xs.all (flat 8)=true)(f2:ys.all (flat 8)=true)(h:R (.bl (f (decide (xs=ys)))) G):zEq f (.ref p) (.ref q) G R:=⟨xs,ys,e,e',f1,f2,h⟩
def a0E(e:G p=some (.lst ws))(a:atI ws k=some w)(h:R w G):zIx (.ref p) (.int k) G R:=⟨ws,w,e,a,h⟩
def b8W(a:atI ns k=some n)(h:R (.int n) G):zIx (.scr p ns) (.int k) G R:=⟨n,a,h⟩
def a1B(a:atI ws k=some w)(h:R w G):zIx (.tup ws) (.int k) G R:=⟨w,a,h⟩
def b3E(l:z.length<=fR)(a:atI z.cps.toList k=some ch)(h:R (.str ⟨#[ch]⟩) G):zIx (.str z) (.int k) G R:=⟨ch,l,a,h⟩
def b6v{lo hi:Option Int}(l:z.length<=fR)(h:R (.str (Txt.slice z lo hi)) G):zSl (.str z) lo hi G R:=⟨l,h⟩
def b6w{lo hi:Option Int}(e:G p=some (.lst ws))(h:∀t,G t=none->R (.ref t) (put G t (.lst (cutZ ws lo hi)))):zSl (.ref p) lo hi G R:=⟨ws,e,h⟩
def b8X{lo hi:Option Int}(h:∀t,G t=none->R (.ref t) (put G t (.lst ((cutZ ns lo hi).map Z.int)))):zSl (.scr p ns) lo hi G R:=h
def b3F{lo hi:Option Int}(n:¬ (HT.sIx ws.length 0 lo=0/\HT.sIx ws.length ws.length hi=ws.length))(h:R (.tup (cutZ ws lo hi)) G):zSl (.tup ws) lo hi G R:=⟨n,h⟩
def b3G(e:G p=some (.lst ws))(a:ixN ws.length k=some j)(h:Rg (put G p (.lst (ws.set j w)))):zSet (.ref p) (.int k) w G Rg:=⟨ws,j,e,a,h⟩
def b6x(h:∀p,G p=none->R (.ref p) (put G p (.dK []))):b6i σ G R:=h
def a83(l:z.length<=fR)(h:R (.int z.length) G):zLen [.str z] G R:=⟨l,h⟩
def a3G(e:G p=some (.lst ws))(h:R (.int ws.length) G):zLen [.ref p] G R:=⟨ws,e,h⟩
def b6y(h:R (.int ns.length) G):zLen [.scr p ns] G R:=h
def i_mm(h:R (.int (f a b)) G):zMM f [.int a,.int b] G R:=h
def b8Y{bs:List Bool}(e:G p=some (.lst (bs.map Z.bl)))(h:R (.bl (bs.all id)) G):zAll [.ref p] G R:=⟨bs,e,h⟩
def a0x(e:G p=some (.lst ws))(z:ws.length<fR)(h:R .non (put G p (.lst (ws++[y])))):a2e (.ref p) [y] G R:=⟨ws,e,z,h⟩
def a4c(e:G p=some (.lst ws))(e':G q=some (.lst ys))(z:ws.length+ys.length<=fR)(h:R .non (put G p (.lst (ws++ys)))):a8Y (.ref p) [.ref q] G R:=⟨ws,ys,e,e',z,h⟩
def b8Z{P:Prop}(h:P):tyZ "str" (.str z) G/\P:=⟨rfl,h⟩
def a0V{P:Prop}(e:G p=some (.lst ws))(h:P):tyZ "list" (.ref p) G/\P:=⟨.inl ⟨rfl,ws,e⟩,h⟩
def i_nm(h:nx (σ.set j (some w)) G):∃σ',a3k (.nm j) w σ=some σ'/\nx σ' G:=⟨_,rfl,h⟩
def b80(e:G q=some (.lst ws))(f1:flat 8 x=true)(f2:ws.all (flat 8)=true)(h:R (.bl (f (decide (x∈ws)))) G):zIn f x (.ref q) G R:=by cases x<;>exact⟨ws,e,f1,f2,h⟩
def b6z{tb:X3}(h:wi σ G λws ok G1=>FORB ws ok pt tb nx rt σ G1):uFor wi pt tb nx rt bk ct σ G:=h
def b81(h:wi σ G λws ok G1=>∀D,G1 D=none->LCB ws ok cap pt tt te σ R D G1):uLC wi cap pt tt te σ G R:=h
variable{Ri:List Z->(Hq->Prop)->Hq->Prop}
def i_iL(h:te σ G λx G1=>wkL x G1 Ri):iL te σ G Ri:=h
def i_iT(h:te σ G λx G1=>wkT x G1 Ri):iT te σ G Ri:=h
def i_iS(h:te σ G λx G1=>wkS x G1 Ri):iS te σ G Ri:=h
def b82(h:al σ G λws G1=>∃j:Int,ws=[.int j]/\-(2 ^ 62)<=j/\j<2 ^ 62/\Ri (rng 0 j.toNat) (λ_=>True) G1):iR1 al σ G Ri:=h
def a09(e:G p=some (.lst ws))(h:Ri ws (λG=>G p=some (.lst ws)) G):wkL (.ref p) G Ri:=⟨ws,e,h⟩
def b83(h:Ri ws (λ_=>True) G):wkT (.tup ws) G Ri:=h
def b84(h:Ri (a2G z) (λ_=>True) G):wkS (.str z) G Ri:=h
def i_tt(h:Rb true G):uTT σ G Rb:=h
end
def ifD{p A B:Prop}[Decidable p](h1:p->A)(h2:¬ p->B):if decide p=true then A else B:=by simp_all
def ifN{p A B:Prop}[Decidable p](h1:¬ p->A)(h2:p->B):if (!decide p)=true then A else B:=by simp_all
def ifB{A B:Prop}(h1:b=true->A)(h2:b=false->B):if b=true then A else B:=by simp_all
def ifNB{A B:Prop}(h1:b=false->A)(h2:b=true->B):if (!b)=true then A else B:=by grind
def ifT{A B:Prop}(h:A):if true=true then A else B:=by rw[if_pos rfl];exact h
def ifF{A B:Prop}(h:B):if false=true then A else B:=by rw[if_neg (by decide)];exact h
def ifNN{A B:Prop}(h:A):if decide (Z.non=Z.non)=true then A else B:=by simp_all
def ifNI{A B:Prop}(h:B):if decide (Z.int i=Z.non)=true then A else B:=by rw[if_neg (by simp)];exact h
def ifNU{A B:Prop}(h:B):if decide (Z.tup i=Z.non)=true then A else B:=by rw[if_neg (by simp)];exact h
def ifMN{A B:Prop}(h:B):if (!decide (Z.non=Z.non))=true then A else B:=by rw[if_neg (by simp)];exact h
def ifMI{A B:Prop}(h:A):if (!decide (Z.int i=Z.non))=true then A else B:=by rw[if_pos (by simp)];exact h
def ifMU{A B:Prop}(h:A):if (!decide (Z.tup i=Z.non))=true then A else B:=by rw[if_pos (by simp)];exact h
def at0{α:Type}{a:α}{r:List α}:atI (a::r) 0=some a:=a05 (j:=0) rfl
def at1{α:Type}{a b:α}{r:List α}:atI (a::b::r) 1=some b:=a05 (j:=1) rfl
def at2{α:Type}{a b c:α}{r:List α}:atI (a::b::c::r) 2=some c:=a05 (j:=2) rfl
def Sm(G G':Hq):Prop:=∀b o,G b=some o->G' b=some o
def Sm.refl(G:Hq):Sm G G:=λ_ _ h=>h
def Sm.trans(a:Sm G G1)(b:Sm G1 G2):Sm G G2:=λc o h=>b c o (a c o h)
def Sm.get(s:Sm G G')(h:G b=some o):G' b=some o:=s b o h
def Sm.new(h:G p=none):Sm G (put G p o):=λ_ _ e=>a0b e h
def Sm.free(s:Sm G G')(h:G' p=none):G p=none:=by
 cases e:G p with
 |none=>rfl
 |some o=>rw[s p o e]at h;cases h
def Kq(r:Addr)(G G':Hq):Prop:=∀b o,G b=some o->b≠r->G' b=some o
def Kq.refl(r:Addr)(G:Hq):Kq r G G:=λ_ _ h _=>h
def Kq.trans(a:Kq r G G1)(b:Kq r G1 G2):Kq r G G2:=λc o h n=>b c o (a c o h n) n
def Kq.new(h:G p=none):Kq r G (put G p o):=λ_ _ e _=>a0b e h
def Kq.at:Kq r G (put G r o):=λ_ _ e n=>by rw[a0f n];exact e
def Sm.kq(s:Sm G G'):Kq r G G':=λb o e _=>s b o e
noncomputable def Sm.put(s:Sm G G')(h:G p=none):Sm G (put G' p o):=λb u e=>by rw[a0f (a0h e h)];exact s b u e
end L3
set_option maxHeartbeats 4000000
namespace Tim
open PySem PyProof.Rows
abbrev KF:=Keyed->Int
noncomputable def Kk(κ:KF)(xs:Array Keyed)(i:Nat):Int:=match xs[i]? with
 |some p=>κ p
 |none=>0
section
variable{κ:KF}{xs ys:Array Keyed}{i j:Nat}{p:Keyed}
def a5S(h:xs[i]?=some p):Kk κ xs i=κ p:=by unfold Kk;rw[h]
def a23(h:xs[i]?=ys[j]?):Kk κ xs i=Kk κ ys j:=by unfold Kk;rw[h]
end
def LtOk(M:Model)(A:Around)(E:Value->Shared->Prop)(s:Shared)(κ:KF)(k0:gI)(ajj:Array Keyed):Prop:=
 ∀x y,x∈ajj.toList->y∈ajj.toList->∀(st:SortSt)(Q:Option Bool->SortSt->Prop),kindOf st=k0->Q (some (decide (κ x<κ y))) st->wpS M A E s (lt' x y) Q st
structure TB (k0:gI) (ajj:Array Keyed) (st:SortSt):Prop where
 pm:(arrOf st).Perm ajj
 kd:kindOf st=k0
 fl:gA st=none
def TB.sz{st:SortSt}(h:TB k0 ajj st):(arrOf st).size=ajj.size:=h.pm.size_eq
def TB.mem{st:SortSt}(h:TB k0 ajj st){i:Nat}(e:(arrOf st)[i]?=some p):p∈ajj.toList:=by
 have a:p∈(arrOf st).toList:=by rw[eJ];exact Array.mem_of_getElem? e
 exact (cP.mp h.pm).mem_iff.mp a
def TB.arr{st:SortSt}(h:TB k0 ajj st)(hp:xs.Perm (arrOf st)):TB k0 ajj (setArr st xs):=⟨hp.trans h.pm,h.kd,h.fl⟩
section
variable{M:Model}{A:Around}{E:Value->Shared->Prop}{s:Shared}{κ:KF}{k0:gI}{ajj:Array Keyed}{st:SortSt}
def a0y(e:arr[i]?=some p)(h:Q p st):wpS M A E s (elem' arr i) Q st:=by
 rw[elem'_eq,e];exact fU h
def a4Z(L:LtOk M A E s κ k0 ajj)(B:TB k0 ajj st)(hi:i<ajj.size)(hj:j<ajj.size)
  (h:Q (some (decide (Kk κ (arrOf st) i<Kk κ (arrOf st) j))) st):wpS M A E s (ltAt' i j) Q st:=by
 have b:_[i]?=some ((arrOf st)[i]'(B.sz▸hi)):=getElem?_pos ..;have a:(arrOf st)[j]?=some ((arrOf st)[j]'(B.sz▸hj)):=getElem?_pos ..;refine fS (gN (fS (a0y b (fS (a0y a (L _ _ (B.mem b) (B.mem a) st Q B.kd ?_))))));rw[a5S b,a5S a]at h;exact h
end
noncomputable def a1p:Bool->Keyed->Array Keyed->Nat->Nat->Nat->StateT SortSt Sem (Option Nat):=sortPriv% PySem.Builtin.gallop
noncomputable def bey(lft:Bool)(ky:Keyed)(ar:Array Keyed)(bs:Nat)(q:Nat):StateT SortSt Sem (Option Bool):=do
  let z <- elem' ar (bs+q)
  if lft then lt' z ky else return (<- lt' ky z).map (!·)
def a7x(lft:Bool)(ky:Keyed)(ar:Array Keyed)(bs n hnt:Nat):a1p lft ky ar bs n hnt=(do
 let mut lst:=0
 let mut oo:=1
 let mut l:=0
 let mut h:=0
 let some rgt <- bey lft ky ar bs hnt |return none
 if rgt then
  let mx:=n-hnt
  for _ in [0:n] do
   if oo>=mx then break
   let some mo <- bey lft ky ar bs (hnt+oo) |return none
   if !mo then break
   lst:=oo
   oo:=2*oo+1
  l:=hnt+lst+1
  h:=hnt+min oo mx
 else
  let mx:=hnt+1
  for _ in [0:n] do
   if oo>=mx then break
   let some fo <- bey lft ky ar bs (hnt-oo) |return none
   if fo then break
   lst:=oo
   oo:=2*oo+1
  l:=hnt+1-min oo mx
  h:=hnt-lst
 for _ in [0:n] do
  if l>=h then break
  let m:=l+(h-l) / 2
  let some mo <- bey lft ky ar bs m |return none
  if mo then l:=m+1 else h:=m
 return some h):=rfl
noncomputable def bq(lft:Bool)(k x:Int):Bool:=if lft then decide (x<k) else !decide (k<x)
section
variable{M:Model}{A:Around}{E:Value->Shared->Prop}{s:Shared}{κ:KF}{k0:gI}{ajj:Array Keyed}{st:SortSt}
def a84(L:LtOk M A E s κ k0 ajj)(hk:kindOf st=k0)(hm:ky∈ajj.toList)(ha:∀p∈ar.toList,p∈ajj.toList)(hq:bs+q<ar.size)
  (h:Q (some (bq lft (κ ky) (Kk κ ar (bs+q)))) st):wpS M A E s (bey lft ky ar bs q) Q st:=by
 have b:ar[bs+q]?=some (ar[bs+q]'hq):=getElem?_pos ..;have a:ar[bs+q]∈ajj.toList:=ha _ (by simp);refine fS (a0y b ?_);rw[a5S b]at h;cases lft with
 |true=>
  exact L _ _ a hm st Q hk h
 |false=>
  exact fS (L _ _ hm a st _ hk (fU h))
def a1s(L:LtOk M A E s κ k0 ajj)(hk:kindOf st=k0)(hm:ky∈ajj.toList)(ha:∀p∈ar.toList,p∈ajj.toList)
  (hn:bs+n<=ar.size) (hh:hnt<n) (mono:∀i j,i<=j->j<n->Kk κ ar (bs+i)<=Kk κ ar (bs+j))
  (h:∀h,h<=n->(∀i,i<h->bq lft (κ ky) (Kk κ ar (bs+i))=true)->(∀i,h<=i->i<n->bq lft (κ ky) (Kk κ ar (bs+i))=false)->Q (some h) st):wpS M A E s (a1p lft ky ar bs n hnt) Q st:=by
 have t:∀i j,i<=j->j<n->bq lft (κ ky) (Kk κ ar (bs+j))=true->bq lft (κ ky) (Kk κ ar (bs+i))=true:=λi j C F H=>by
  have:=mono i j C F
  unfold bq at *;cases lft<;>simp at *<;>lia
 have D:∀i j,i<=j->j<n->bq lft (κ ky) (Kk κ ar (bs+i))=false->bq lft (κ ky) (Kk κ ar (bs+j))=false:=λi j C F H=>by grind
 rw[a7x];refine fS (a84 L hk hm ha (by lia) ?_);dsimp only;cases e0:bq lft (κ ky) (Kk κ ar (bs+hnt)) with
 |true=>
  rw[if_pos rfl];refine fS (gC (gk (I:=λx c d=>d=st/\∃a b,c=(none,a,b)/\a<b/\x+1<=b/\hnt+a<n/\bq lft (κ ky) (Kk κ ar (bs+(hnt+a)))=true)
   (Q:=λc d=>d=st/\∃a b,c=(none,a,b)/\a<b/\hnt+a<n/\bq lft (κ ky) (Kk κ ar (bs+(hnt+a)))=true/\(n-hnt<=b\/(hnt+b<n/\bq lft (κ ky) (Kk κ ar (bs+(hnt+b)))=false))) ?step ?fin ?init) ?post)
  case init=>exact⟨rfl,0,1,rfl,by lia,by lia,by lia,e0⟩
  case fin=>
   rintro c d ⟨rfl,a,b,rfl,m,k,o,f⟩;exact⟨rfl,a,b,rfl,m,o,f,.inl (by lia)⟩
  case step=>
   rintro x c d _ G ⟨rfl,a,b,rfl,m,k,o,f⟩;dsimp only
   by_cases hge:b>=n-hnt
   ·rw[if_pos hge];exact fU ⟨rfl,a,b,rfl,m,o,f,.inl hge⟩
   ·rw[if_neg hge];refine fS (a84 L hk hm ha (by lia) ?_);cases e:bq lft (κ ky) (Kk κ ar (bs+(hnt+b))) with
    |true=>
     dsimp only;rw[if_neg (by decide)];exact fU ⟨rfl,b,2*b+1,rfl,by lia,by lia,by lia,e⟩
    |false=>
     dsimp only;rw[if_pos (show (!false)=true from rfl)];exact fU ⟨rfl,a,b,rfl,m,o,f,.inr ⟨by lia,e⟩⟩
  case post=>
   rintro c d ⟨y,a,b,rfl,m,o,f,g⟩;have y:=y.symm;subst y;dsimp only;have q:hnt+a+1<=hnt+min b (n-hnt):=by lia
   have w:hnt+min b (n-hnt)<=n:=by lia
   have v:∀i,i<hnt+a+1->bq lft (κ ky) (Kk κ ar (bs+i))=true:=λi J=>t i _ (by lia) (by lia) f;have u:∀i,hnt+min b (n-hnt)<=i->i<n->bq lft (κ ky) (Kk κ ar (bs+i))=false:=λi B z=>by grind
   generalize hnt+a+1=l0 at q v ⊢;generalize hnt+min b (n-hnt)=h0 at q w u ⊢;refine fS (gC (gk (I:=λx c d=>d=st/\∃l r,c=(none,l,r)/\l<=r/\r<=n/\r-l<=n-x/\(∀i,i<l->bq lft (κ ky) (Kk κ ar (bs+i))=true)/\(∀i,r<=i->i<n->bq lft (κ ky) (Kk κ ar (bs+i))=false))
    (Q:=λc d=>d=st/\∃l,c=(none,l,l)/\l<=n/\(∀i,i<l->bq lft (κ ky) (Kk κ ar (bs+i))=true)/\(∀i,l<=i->i<n->bq lft (κ ky) (Kk κ ar (bs+i))=false)) ?st2 ?fi2 ?in2) ?po2)
   case in2=>exact⟨rfl,l0,h0,rfl,q,w,by lia,v,u⟩
   case fi2=>
    rintro c d ⟨rfl,l,r,rfl,m,k,o,f,g⟩
    have:l=r:=by lia
    subst this;exact⟨rfl,l,rfl,k,f,g⟩
   case st2=>
    rintro x c d _ G ⟨rfl,l,r,rfl,m,k,o,f,g⟩;dsimp only
    by_cases hge:l>=r
    ·rw[if_pos hge]
     have:l=r:=by lia
     subst this;exact fU ⟨rfl,l,rfl,k,f,g⟩
    ·rw[if_neg hge];refine fS (a84 L hk hm ha (by lia) ?_);cases e:bq lft (κ ky) (Kk κ ar (bs+(l+(r-l) / 2))) with
     |true=>
      dsimp only;rw[if_pos rfl];exact fU ⟨rfl,_,r,rfl,by lia,k,by lia,λi J=>t i _ (by lia) (by lia) e,g⟩
     |false=>
      dsimp only;rw[if_neg (by decide)];exact fU ⟨rfl,l,_,rfl,by lia,by lia,by lia,f,λi B z=>D _ i B z e⟩
   case po2=>
    rintro c d ⟨rfl,l,rfl,k,f,g⟩;exact fU (h l k f g)
 |false=>
  rw[if_neg (by decide)];refine fS (gC (gk (I:=λx c d=>d=st/\∃a b,c=(none,a,b)/\a<b/\x+1<=b/\a<=hnt/\bq lft (κ ky) (Kk κ ar (bs+(hnt-a)))=false)
   (Q:=λc d=>d=st/\∃a b,c=(none,a,b)/\a<b/\a<=hnt/\bq lft (κ ky) (Kk κ ar (bs+(hnt-a)))=false/\(hnt+1<=b\/(b<=hnt/\bq lft (κ ky) (Kk κ ar (bs+(hnt-b)))=true))) ?step ?fin ?init) ?post)
  case init=>exact⟨rfl,0,1,rfl,by lia,by lia,by lia,e0⟩
  case fin=>
   rintro c d ⟨rfl,a,b,rfl,m,k,o,f⟩;exact⟨rfl,a,b,rfl,m,o,f,.inl (by lia)⟩
  case step=>
   rintro x c d _ G ⟨rfl,a,b,rfl,m,k,o,f⟩;dsimp only
   by_cases hge:b>=hnt+1
   ·rw[if_pos hge];exact fU ⟨rfl,a,b,rfl,m,o,f,.inl hge⟩
   ·rw[if_neg hge];refine fS (a84 L hk hm ha (by lia) ?_);cases e:bq lft (κ ky) (Kk κ ar (bs+(hnt-b))) with
    |true=>
     dsimp only;rw[if_pos rfl];exact fU ⟨rfl,a,b,rfl,m,o,f,.inr ⟨by lia,e⟩⟩
    |false=>
     dsimp only;rw[if_neg (by decide)];exact fU ⟨rfl,b,2*b+1,rfl,by lia,by lia,by lia,e⟩
  case post=>
   rintro c d ⟨y,a,b,rfl,m,o,f,g⟩;have y:=y.symm;subst y;dsimp only;have q:hnt+1-min b (hnt+1)<=hnt-a:=by lia
   have w:hnt-a<=n:=by lia
   have v:∀i,i<hnt+1-min b (hnt+1)->bq lft (κ ky) (Kk κ ar (bs+i))=true:=λi J=>by grind
   have u:=λi B z=>D _ i B z f;generalize hnt+1-min b (hnt+1)=l0 at q v ⊢;generalize hnt-a=h0 at q w u ⊢;refine fS (gC (gk (I:=λx c d=>d=st/\∃l r,c=(none,l,r)/\l<=r/\r<=n/\r-l<=n-x/\(∀i,i<l->bq lft (κ ky) (Kk κ ar (bs+i))=true)/\(∀i,r<=i->i<n->bq lft (κ ky) (Kk κ ar (bs+i))=false))
    (Q:=λc d=>d=st/\∃l,c=(none,l,l)/\l<=n/\(∀i,i<l->bq lft (κ ky) (Kk κ ar (bs+i))=true)/\(∀i,l<=i->i<n->bq lft (κ ky) (Kk κ ar (bs+i))=false)) ?st2 ?fi2 ?in2) ?po2)
   case in2=>exact⟨rfl,l0,h0,rfl,q,w,by lia,v,u⟩
   case fi2=>
    rintro c d ⟨rfl,l,r,rfl,m,k,o,f,g⟩
    have:l=r:=by lia
    subst this;exact⟨rfl,l,rfl,k,f,g⟩
   case st2=>
    rintro x c d _ G ⟨rfl,l,r,rfl,m,k,o,f,g⟩;dsimp only
    by_cases hge:l>=r
    ·rw[if_pos hge]
     have:l=r:=by lia
     subst this;exact fU ⟨rfl,l,rfl,k,f,g⟩
    ·rw[if_neg hge];refine fS (a84 L hk hm ha (by lia) ?_);cases e:bq lft (κ ky) (Kk κ ar (bs+(l+(r-l) / 2))) with
     |true=>
      dsimp only;rw[if_pos rfl];exact fU ⟨rfl,_,r,rfl,by lia,k,by lia,λi J=>t i _ (by lia) (by lia) e,g⟩
     |false=>
      dsimp only;rw[if_neg (by decide)];exact fU ⟨rfl,l,_,rfl,by lia,by lia,by lia,f,λi B z=>D _ i B z e⟩
   case po2=>
    rintro c d ⟨rfl,l,rfl,k,f,g⟩;exact fU (h l k f g)
end
noncomputable def a85:Nat->StateT SortSt Sem Unit:=sortPriv% PySem.Builtin.setMinGallop
def a4d(g:Nat):a85 g=modify λs=>SortSt.mk' (kindOf s) (arrOf s) (fY s) g (gA s):=rfl
noncomputable def a4e:Array Keyed->Array Keyed->StateT SortSt Sem (Array Keyed):=sortPriv% PySem.Builtin.mergeLo
abbrev dnA(a b o:Array Keyed)(i j:Nat):Array Keyed:=o++a.extract i a.size++b.extract j b.size
abbrev dnB(a b o:Array Keyed)(i j:Nat):Array Keyed:=o++b.extract j b.size++a.extract i a.size
section
variable{κ:KF}{A B o:List Keyed}{i j:Nat}{p:Keyed}
abbrev Srt(κ:KF)(l:List Keyed):Prop:=l.Pairwise λx y=>κ x<=κ y
structure MW (κ:KF) (A B o:List Keyed) (i j:Nat):Prop where
 ia:i<=A.length
 jb:j<=B.length
 pm:(o++(A.drop i++B.drop j)).Perm (A++B)
 so:Srt κ o
 ba:∀x∈o,∀y∈A.drop i,κ x<=κ y
 bb:∀x∈o,∀y∈B.drop j,κ x<=κ y
theorem MW.size(W:MW κ A B o i j):o.length=i+j:=by
 have:=W.pm.length_eq
 have b:=W.ia;have a:=W.jb;simp at this
 lia
def drop_get{l:List Keyed}(h:l[n]?=some p):l.drop n=p::l.drop (n+1):=by
 obtain⟨a,e⟩:=az.mp h;rw[cQ a,e]
def a6A(h:Srt κ l)(hb:∀x∈l,κ x<=κ p):Srt κ (l++[p]):=by
 refine aT.mpr ⟨h,dO _ _,λx b y a=>?_⟩;rw[ay.mp a];exact hb x b
def a0W(h:Srt κ l)(n:Nat):Srt κ (l.drop n):=b6.sublist (dP n l) h
def MW.pushA(W:MW κ A B o i j)(sa:Srt κ A)(hp:A[i]?=some p)(hb:∀y∈B.drop j,κ p<=κ y):MW κ A B (o++[p]) (i+1) j:=by
 have c:=drop_get hp;refine⟨((az.mp hp).1),W.jb,?_,a6A W.so λx b=>W.ba x b p (by simp_all),λx b y a=>?_,λx b y a=>?_⟩
 ·have:=W.pm
  rw[c]at this;simpa using this
 ·rcases au.mp b with h |h
  ·exact W.ba x h y (by simp_all)
  ·rw[ay.mp h];exact (aH.mp (c▸a0W sa i)).1 y a
 ·rcases au.mp b with h |h
  ·exact W.bb x h y a
  ·rw[ay.mp h];exact hb y a
def MW.pushB(W:MW κ A B o i j)(sb:Srt κ B)(hp:B[j]?=some p)(hb:∀y∈A.drop i,κ p<=κ y):MW κ A B (o++[p]) i (j+1):=by
 have c:=drop_get hp;refine⟨W.ia,((az.mp hp).1),?_,a6A W.so λx b=>W.bb x b p (by simp_all),λx b y a=>?_,λx b y a=>?_⟩
 ·have:=W.pm
  rw[c]at this;refine aV.trans ?_ this;rw[aW];exact aV.append_left o (show (p::(A.drop i++B.drop _)).Perm _ from eR.symm)
 ·rcases au.mp b with h |h
  ·exact W.ba x h y a
  ·rw[ay.mp h];exact hb y a
 ·rcases au.mp b with h |h
  ·exact W.bb x h y (by simp_all)
  ·rw[ay.mp h];exact (aH.mp (c▸a0W sb j)).1 y a
def take_snoc{l:List Keyed}(h:l[n+k]?=some p):(l.drop n).take (k+1)=(l.drop n).take k++[p]:=by
 rw[bV,cE,h];rfl
def MW.runA(W:MW κ A B o i j)(sa:Srt κ A):∀k,i+k<=A.length->(∀q z,i<=q->q<i+k->A[q]?=some z->∀y∈B.drop j,κ z<=κ y)->MW κ A B (o++(A.drop i).take k) (i+k) j:=by intro z0;induction z0 with
 |zero=>intro _ _;simpa using W
 |succ k I0=>
  intro hk hz;have e:A[i+k]?=some A[i+k]:=aC (by lia);rw[take_snoc e,<- aW];exact (I0 (by lia) λq z a c=>hz q z a (by lia)).pushA sa e (hz _ _ (by lia) (by lia) e)
def MW.runB(W:MW κ A B o i j)(sb:Srt κ B):∀k,j+k<=B.length->(∀q z,j<=q->q<j+k->B[q]?=some z->∀y∈A.drop i,κ z<=κ y)->MW κ A B (o++(B.drop j).take k) i (j+k):=by intro z0;induction z0 with
 |zero=>intro _ _;simpa using W
 |succ k I0=>
  intro hk hz;have e:B[j+k]?=some B[j+k]:=aC (by lia);rw[take_snoc e,<- aW];exact (I0 (by lia) λq z a c=>hz q z a (by lia)).pushB sb e (hz _ _ (by lia) (by lia) e)
def Mgd(κ:KF)(A B r:List Keyed):Prop:=r.Perm (A++B)/\Srt κ r
def MW.doneA(W:MW κ A B o i j)(sa:Srt κ A)(sb:Srt κ B)(h:i=A.length\/j=B.length):Mgd κ A B (o++A.drop i++B.drop j):=by
 refine⟨by rw[aW];exact W.pm,?_⟩;rw[aW];refine aT.mpr ⟨W.so,aT.mpr ⟨a0W sa i,a0W sb j,λx a y b=>?_⟩,λx a y b=>?_⟩
 ·rcases h with rfl |rfl
  ·simp_all
  ·simp_all
 ·rcases au.mp b with h |h
  ·exact W.ba x a y h
  ·exact W.bb x a y h
def MW.doneB(W:MW κ A B o i j)(sa:Srt κ A)(sb:Srt κ B)(h:i+1=A.length)(hl:∀z,A[A.length-1]?=some z->∀y∈B,κ y<=κ z):Mgd κ A B (o++B.drop j++A.drop i):=by
 refine⟨?_,?_⟩
 ·rw[aW];exact aV.trans (aV.append_left o dQ) W.pm
 ·rw[aW];have e:A[i]?=some A[i]:=aC (by omega);have c:A.drop i=[A[i]]:=by rw[drop_get e,cR (by omega)]
  refine aT.mpr ⟨W.so,aT.mpr ⟨a0W sb j,a0W sa i,λx b y a=>?_⟩,λx b y a=>?_⟩
  ·rw[c]at a;rw[ay.mp a];exact hl _ (by rw[show A.length-1=i by omega];exact e) x (dR b)
  ·rcases au.mp a with h |h
   ·exact W.bb x b y h
   ·exact W.ba x b y h
def a1f(h:Srt κ l)(hp:l[n]?=some p):∀y∈l.drop n,κ p<=κ y:=λy a=>by
 have b:=a0W h n;rw[drop_get hp]at b a;rcases ax.mp a with rfl |a
 ·exact bS _
 ·exact (aH.mp b).1 y a
end
abbrev SM:=StateT SortSt Sem
abbrev T1:=Option (Array Keyed)×Array Keyed×Nat×Nat×Nat×Nat
abbrev T2:=Option (Array Keyed)×Array Keyed×Nat×Nat×Nat×Nat×Nat
noncomputable def lo1(a b:Array Keyed)(g:Nat)(o:Array Keyed)(i j ac bc:Nat):SM (ForInStep T1):=do
 let y <- elem' b j
 let x <- elem' a i
 let r <- lt' y x
 match r with
 |some bw=>
  if bw=true then do
   let y <- elem' b j
   if (j+1==b.size)=true then pure (.done (some (dnA a b (o.push y) i (j+1)),o.push y,i,j+1,0,bc+1))
   else if bc+1>=g then pure (.done (none,o.push y,i,j+1,0,bc+1)) else pure (.yield (none,o.push y,i,j+1,0,bc+1))
  else do
   let x <- elem' a i
   if (i+1+1==a.size)=true then pure (.done (some (dnB a b (o.push x) (i+1) j),o.push x,i+1,j,ac+1,0))
   else if ac+1>=g then pure (.done (none,o.push x,i+1,j,ac+1,0)) else pure (.yield (none,o.push x,i+1,j,ac+1,0))
 |_=>pure (.done (some (dnA a b o i j),o,i,j,ac,bc))
noncomputable def lo5(a b:Array Keyed)(o:Array Keyed)(i j g ac bc:Nat):SM (ForInStep T2):=do
 let x <- elem' a i
 if (i+1+1==a.size)=true then pure (.done (some (dnB a b (o.push x) (i+1) j),o.push x,i+1,j,g,ac,bc))
 else if (decide (ac<7)&&decide (bc<7))=true then pure (.done (none,o.push x,i+1,j,g,ac,bc)) else pure (.yield (none,o.push x,i+1,j,g,ac,bc))
noncomputable def lo4(a b:Array Keyed)(o:Array Keyed)(i j g ac bc:Nat):SM (ForInStep T2):=do
 let y <- elem' b j
 if (j+1==b.size)=true then pure (.done (some (dnA a b (o.push y) i (j+1)),o.push y,i,j+1,g,ac,bc))
 else do
  let x <- elem' a i
  let r <- a1p true x b (j+1) (b.size-(j+1)) 0
  match r with
  |some k=>
   if k > 0 then
    if (j+1+k==b.size)=true then pure (.done (some (dnA a b (o.push y++b.extract (j+1) (j+1+k)) i (j+1+k)),o.push y++b.extract (j+1) (j+1+k),i,j+1+k,g,ac,k))
    else lo5 a b (o.push y++b.extract (j+1) (j+1+k)) i (j+1+k) g ac k
   else lo5 a b (o.push y) i (j+1) g ac k
  |_=>pure (.done (some (dnA a b (o.push y) i (j+1)),o.push y,i,j+1,g,ac,bc))
noncomputable def lo3(a b:Array Keyed)(o:Array Keyed)(i j g ac bc:Nat):SM (ForInStep T2):=do
 a85 g
 let y <- elem' b j
 let r <- a1p false y a i (a.size-i) 0
 match r with
 |some k=>
  if k > 0 then
   if (i+k+1==a.size)=true then pure (.done (some (dnB a b (o++a.extract i (i+k)) (i+k) j),o++a.extract i (i+k),i+k,j,g,k,bc))
   else if (i+k==a.size)=true then pure (.done (some (dnA a b (o++a.extract i (i+k)) (i+k) j),o++a.extract i (i+k),i+k,j,g,k,bc))
   else lo4 a b (o++a.extract i (i+k)) (i+k) j g k bc
  else lo4 a b o i j g k bc
 |_=>pure (.done (some (dnA a b o i j),o,i,j,g,ac,bc))
noncomputable def lo2(a b:Array Keyed)(o:Array Keyed)(i j g ac bc:Nat):SM (ForInStep T2):=
 if g > 1 then lo3 a b o i j (g-1) ac bc else lo3 a b o i j g ac bc
def a40(a b:Array Keyed):a4e a b=(do
  liftM (rule "list.sort.merge-lo")
  let y <- elem' b 0
  if (1==b.size)=true then pure (dnA a b #[y] 0 1)
  else if (0+1==a.size)=true then pure (dnB a b #[y] 0 1)
  else do
   let st <- get
   let c <- forIn [0:a.size+b.size] ((none,#[y],0,1,gallopOf st):Option (Array Keyed)×Array Keyed×Nat×Nat×Nat) λ_ c=>do
    let c1 <- forIn [0:a.size+b.size] ((none,c.2.1,c.2.2.1,c.2.2.2.1,0,0):T1) λ_ c1=>lo1 a b c.2.2.2.2 c1.2.1 c1.2.2.1 c1.2.2.2.1 c1.2.2.2.2.1 c1.2.2.2.2.2
    match c1.1 with
    |some r=>pure (ForInStep.done (some r,c1.2.1,c1.2.2.1,c1.2.2.2.1,c.2.2.2.2))
    |none=>do
     liftM (rule "list.sort.gallop")
     let c2 <- forIn [0:a.size+b.size] ((none,c1.2.1,c1.2.2.1,c1.2.2.2.1,c.2.2.2.2+1,c1.2.2.2.2.1,c1.2.2.2.2.2):T2) λ_ c2=>lo2 a b c2.2.1 c2.2.2.1 c2.2.2.2.1 c2.2.2.2.2.1 c2.2.2.2.2.2.1 c2.2.2.2.2.2.2
     match c2.1 with
     |some r=>pure (ForInStep.done (some r,c2.2.1,c2.2.2.1,c2.2.2.2.1,c2.2.2.2.2.1))
     |none=>do
      a85 (c2.2.2.2.2.1+1)
      pure (ForInStep.yield (none,c2.2.1,c2.2.2.1,c2.2.2.2.1,c2.2.2.2.2.1+1))
   match c.1 with
   |some r=>pure r
   |none=>hV "internal:list.sort.merge-bound"):=by
 kernel_rfl
structure SG (st st':SortSt):Prop where
 kd:kindOf st'=kindOf st
 ar:arrOf st'=arrOf st
 pe:fY st'=fY st
 fl:gA st'=gA st
def SG.refl(st:SortSt):SG st st:=⟨rfl,rfl,rfl,rfl⟩
def SG.trans(p:SG x y)(q:SG y z):SG x z:=⟨q.kd.trans p.kd,q.ar.trans p.ar,q.pe.trans p.pe,q.fl.trans p.fl⟩
section
variable{κ:KF}{a b o:Array Keyed}{i j:Nat}
def a1L:(dnA a b o i j).toList=o.toList++a.toList.drop i++b.toList.drop j:=by
 simp[bY]
def a2P:(dnB a b o i j).toList=o.toList++b.toList.drop j++a.toList.drop i:=by
 simp[bY]
def a6B:(o++a.extract i (i+k)).toList=o.toList++(a.toList.drop i).take k:=by
 simp[du]
def a0F(h:i<a.size):a.toList[i]?=some a[i]:=by simp[h]
def a0J(h:i<a.size):Kk κ a i=κ a[i]:=a5S (getElem?_pos ..)
def a1M(h:Srt κ a.toList)(hn:i+n<=a.size):∀p q,p<=q->q<n->Kk κ a (i+p)<=Kk κ a (i+q):=λp q b c=>by
 rw[a0J (show i+p<a.size by lia),a0J (show i+q<a.size by lia)]
 by_cases e:p=q
 ·simp_all
 ·have:=bZ.mp h (i+p) (i+q) (by simp;lia) (by simp;lia) (by lia)
  simpa using this
end
structure MC (M:Model) (A:Around) (E:Value->Shared->Prop) (s:Shared) (κ:KF) (k0:gI) (ajj a b:Array Keyed):Prop where
 L:LtOk M A E s κ k0 ajj
 ha:∀p∈a.toList,p∈ajj.toList
 hb:∀p∈b.toList,p∈ajj.toList
 sa:Srt κ a.toList
 sb:Srt κ b.toList
 h0:0<a.size
 h1:0<b.size
 hf:∀y∈a.toList,Kk κ b 0<=κ y
 hl:∀z,a.toList[a.toList.length-1]?=some z->∀y∈b.toList,κ y<=κ z
structure Rdy (κ:KF) (a b o:Array Keyed) (i j:Nat):Prop where
 w:MW κ a.toList b.toList o.toList i j
 hi:i+1<a.size
 hj:j<b.size
section
variable{M:Model}{A:Around}{E:Value->Shared->Prop}{s:Shared}{κ:KF}{k0:gI}{ajj a b o:Array Keyed}{st:SortSt}{i j g ac bc:Nat}
def a3H{α:Type}{f:Unit->SM α}{Q:α->SortSt->Prop}(h:wpS M A E s (f ()) Q st):wpS M A E s ((liftM (rule w):SM Unit) >>= f) Q st:=
 fS (wpS_lift (gQ ⟨rfl,h⟩))
def a0T(a:Array Keyed):a.toList.length=a.size:=by simp
def b85(C:MC M A E s κ k0 ajj a b)(hk:kindOf st=k0)(R:Rdy κ a b o i j)
  (dn:∀r c,Mgd κ a.toList b.toList r.toList->Q (.done (some r,c)) st)
  (br:∀o' i' j' x y,Rdy κ a b o' i' j'->i'+j'=i+j+1->Q (.done (none,o',i',j',x,y)) st)
  (go:∀o' i' j' x y,Rdy κ a b o' i' j'->i'+j'=i+j+1->Q (.yield (none,o',i',j',x,y)) st):wpS M A E s (lo1 a b g o i j ac bc) Q st:=by
 have q:=R.hi;have n:=R.hj;have p:b[j]?=some b[j]:=getElem?_pos ..;have m:a[i]?=some a[i]:=getElem?_pos ..;have h:=a0F n;have l:=a0F (a:=a) (i:=i) (by lia);unfold lo1;refine fS (a0y p (fS (a0y m (fS (C.L _ _ (C.hb _ (aL h)) (C.ha _ (aL l)) st _ hk ?_)))));dsimp only
 by_cases c:κ b[j]<κ a[i]
 ·rw[if_pos (decide_eq_true c)];refine fS (a0y p ?_);have d:=R.w.pushB C.sb h λy k=>be (bO c) (a1f C.sa l y k);rw[<- bo]at d
  by_cases e:j+1=b.size
  ·rw[if_pos (by simpa using e)];exact fU (dn _ _ (by rw[a1L];exact d.doneA C.sa C.sb (.inr (by rw[a0T];exact e))))
  ·rw[if_neg (by simpa using e)];have f:Rdy κ a b (o.push b[j]) i (j+1):=⟨d,q,by lia⟩
   split
   ·exact fU (br _ _ _ _ _ f (by lia))
   ·exact fU (go _ _ _ _ _ f (by lia))
 ·rw[if_neg (by simpa using c)];refine fS (a0y m ?_);have d:=R.w.pushA C.sa l λy k=>be (dv.mp c) (a1f C.sb h y k);rw[<- bo]at d
  by_cases e:i+1+1=a.size
  ·rw[if_pos (by simpa using e)];exact fU (dn _ _ (by rw[a2P];exact d.doneB C.sa C.sb (by rw[a0T];exact e) C.hl))
  ·rw[if_neg (by simpa using e)];have f:Rdy κ a b (o.push a[i]) (i+1) j:=⟨d,by lia,n⟩
   split
   ·exact fU (br _ _ _ _ _ f (by lia))
   ·exact fU (go _ _ _ _ _ f (by lia))
structure G2 (st:SortSt) (κ:KF) (a b:Array Keyed) (n:Nat) (Q:ForInStep T2->SortSt->Prop):Prop where
 dn:∀r c st',SG st st'->Mgd κ a.toList b.toList r.toList->Q (.done (some r,c)) st'
 br:∀o' i' j' x y z st',SG st st'->Rdy κ a b o' i' j'->n<i'+j'->Q (.done (none,o',i',j',x,y,z)) st'
 go:∀o' i' j' x y z st',SG st st'->Rdy κ a b o' i' j'->n<i'+j'->Q (.yield (none,o',i',j',x,y,z)) st'
def b6A(C:MC M A E s κ k0 ajj a b)(R:Rdy κ a b o i j)(hle:∀y∈b.toList.drop j,Kk κ a i<=κ y)(H:G2 st κ a b n Q)(hn:n<=i+j):wpS M A E s (lo5 a b o i j g ac bc) Q st:=by
 have l:=R.hi;have h:a[i]?=some a[i]:=getElem?_pos ..;rw[a0J (show i<a.size by lia)]at hle;unfold lo5;refine fS (a0y h ?_);have c:=R.w.pushA C.sa (a0F (a:=a) (i:=i) (by lia)) hle;rw[<- bo]at c
 by_cases e:i+1+1=a.size
 ·rw[if_pos (by simpa using e)];exact fU (H.dn _ _ _ (SG.refl _) (a2P▸c.doneB C.sa C.sb (by rw[a0T];exact e) C.hl))
 ·rw[if_neg (by simpa using e)];have d:Rdy κ a b (o.push a[i]) (i+1) j:=⟨c,by lia,R.hj⟩
  split
  ·exact fU (H.br _ _ _ _ _ _ _ (SG.refl _) d (by lia))
  ·exact fU (H.go _ _ _ _ _ _ _ (SG.refl _) d (by lia))
def a1C{l:List Keyed}(h:y∈l.drop n):∃q,n<=q/\q<l.length/\l[q]?=some y:=by
 obtain⟨m,a⟩:=bB h;rw[cE]at a;exact⟨n+m,by lia,(az.mp a).1,a⟩
def a24(h:a.toList[q]?=some z):Kk κ a q=κ z:=a5S (by simp_all)
def b6B(C:MC M A E s κ k0 ajj a b)(hk:kindOf st=k0)(R:Rdy κ a b o i j)(hle:∀y∈a.toList.drop i,Kk κ b j<=κ y)(H:G2 st κ a b n Q)(hn:n<=i+j):wpS M A E s (lo4 a b o i j g ac bc) Q st:=by
 have m:=R.hi;have t:=R.hj;have x:b[j]?=some b[j]:=getElem?_pos ..;have F:a[i]?=some a[i]:=getElem?_pos ..;have p:=a0F (a:=a) (i:=i) (by lia);rw[a0J t]at hle;unfold lo4;refine fS (a0y x ?_);have d:=R.w.pushB C.sb (a0F t) hle;rw[<- bo]at d
 by_cases e:j+1=b.size
 ·rw[if_pos (by simpa using e)];exact fU (H.dn _ _ _ (SG.refl _) (a1L▸d.doneA C.sa C.sb (.inr (by rw[a0T];exact e))))
 ·rw[if_neg (by simpa using e)];refine fS (a0y F (fS (a1s C.L hk (C.ha _ (aL p)) C.hb (by lia) (by lia) (a1M C.sb (by lia)) λk G v r=>?_)));dsimp only;have c:∀y∈b.toList.drop (j+1+k),Kk κ a i<=κ y:=λy h=>by
   obtain⟨q,B,u,l⟩:=a1C h;rw[a0T]at u
   have:=r (q-(j+1)) (by lia) (by lia)
   rw[show j+1+(q-(j+1))=q by lia,a24 l]at this;simp[bq]at this;rw[a0J (show i<a.size by lia)]
   lia
  split
  ·have f:=d.runB C.sb k (by rw[a0T];lia) λq z B u l y h=>by
    have:=v (q-(j+1)) (by lia)
    rw[show j+1+(q-(j+1))=q by lia,a24 l]at this;simp[bq]at this;exact be (bO this) (a1f C.sa p y h)
   rw[<- a6B]at f
   by_cases e2:j+1+k=b.size
   ·rw[if_pos (by simpa using e2)];exact fU (H.dn _ _ _ (SG.refl _) (a1L▸f.doneA C.sa C.sb (.inr (by rw[a0T];exact e2))))
   ·rw[if_neg (by simpa using e2)];exact b6A C ⟨f,m,by lia⟩ c H (by lia)
  ·have:k=0:=by lia
   subst this;exact b6A C ⟨d,m,by lia⟩ c H (by lia)
def b86(C:MC M A E s κ k0 ajj a b)(hk:kindOf st=k0)(R:Rdy κ a b o i j)(H:G2 st κ a b n Q)(hn:n<=i+j):wpS M A E s (lo3 a b o i j g ac bc) Q st:=by
 have I:=R.hi;have h:=R.hj;have G:b[j]?=some b[j]:=getElem?_pos ..;have B:=a0F h;unfold lo3;rw[a4d];refine fS (gJ ?_);have m:SG st (SortSt.mk' _ (arrOf st) _ g _):=⟨rfl,rfl,rfl,rfl⟩;have e:kindOf (SortSt.mk' _ (arrOf st) (fY st) g (gA st))=k0:=hk;generalize SortSt.mk' (kindOf st) (arrOf st) (fY st) g (gA st)=st1 at m e;have l:G2 st1 κ a b n Q:=⟨λr c d g=>H.dn r c d (m.trans g),λ_ _ _ _ _ _ d g=>H.br _ _ _ _ _ _ d (m.trans g),λ_ _ _ _ _ _ d g=>H.go _ _ _ _ _ _ d (m.trans g)⟩;refine fS (a0y G (fS (a1s C.L e (C.hb _ (aL B)) C.ha (by lia) (by lia) (a1M C.sa (by lia)) λk J D x=>?_)));dsimp only;have f:∀y∈a.toList.drop (i+k),Kk κ b j<=κ y:=λy t=>by
  obtain⟨q,F,v,u⟩:=a1C t;rw[a0T]at v
  have:=x (q-i) (by lia) (by lia)
  rw[show i+(q-i)=q by lia,a24 u]at this;simp[bq]at this;rw[a0J h]
  lia
 split
 ·have p:=R.w.runA C.sa k (by rw[a0T];lia) λq z F v u y t=>by
   have:=D (q-i) (by lia)
   rw[show i+(q-i)=q by lia,a24 u]at this;simp[bq]at this;exact be this (a1f C.sb B y t)
  rw[<- a6B]at p
  by_cases e1:i+k+1=a.size
  ·rw[if_pos (by simpa using e1)];exact fU (l.dn _ _ _ (SG.refl _) (a2P▸p.doneB C.sa C.sb (by rw[a0T];exact e1) C.hl))
  ·rw[if_neg (by simpa using e1)]
   by_cases e2:i+k=a.size
   ·rw[if_pos (by simpa using e2)];exact fU (l.dn _ _ _ (SG.refl _) (a1L▸p.doneA C.sa C.sb (.inl (by rw[a0T];exact e2))))
   ·rw[if_neg (by simpa using e2)];exact b6B C e ⟨p,by lia,h⟩ f l (by lia)
 ·have:k=0:=by lia
  subst this;exact b6B C e ⟨R.w,I,h⟩ f l (by lia)
def b87(C:MC M A E s κ k0 ajj a b)(hk:kindOf st=k0)(R:Rdy κ a b o i j)(H:G2 st κ a b n Q)(hn:n<=i+j):wpS M A E s (lo2 a b o i j g ac bc) Q st:=by
 unfold lo2
 split<;>exact b86 C hk R H hn
def b0W(C:MC M A E s κ k0 ajj a b):MW κ a.toList b.toList [b[0]'C.h1] 0 1:=by
 have e:MW κ a.toList b.toList [] 0 0:=⟨aR _,aR _,by simp,.nil,λx h=>by simp at h,λx h=>by simp at h⟩;exact e.pushB C.sb (a0F C.h1) λy d=>by rw[<- a0J (κ:=κ) C.h1];exact C.hf y (by simp_all)
def a86(C:MC M A E s κ k0 ajj a b)(hk:kindOf st=k0)
  (h:∀r st',SG st st'->Mgd κ a.toList b.toList r.toList->Q r st'):wpS M A E s (a4e a b) Q st:=by
 have h0:=C.h0;have h1:=C.h1;rw[a40];refine a3H (fS (a0y (getElem?_pos b 0 C.h1) ?_));have w0:=b0W C
 by_cases e1:1=b.size
 ·rw[if_pos (by simpa using e1)];exact fU (h _ _ (SG.refl _) (a1L▸w0.doneA C.sa C.sb (.inr (by grind))))
 rw[if_neg (by simpa using e1)]
 by_cases e2:0+1=a.size
 ·rw[if_pos (by simpa using e2)];exact fU (h _ _ (SG.refl _) (a2P▸w0.doneB C.sa C.sb (by rw[a0T];exact e2) C.hl))
 rw[if_neg (by simpa using e2)];refine fS (gN ?_);have R0:Rdy κ a b #[b[0]] 0 1:=⟨w0,by lia,by lia⟩;refine fS (gC (gk (I:=λx c e=>∃o i j g,c=(none,o,i,j,g)/\SG st e/\Rdy κ a b o i j/\x<i+j)
  (Q:=λc e=>∃r F,c=(some r,F)/\SG st e/\Mgd κ a.toList b.toList r.toList) ?step ?fin ⟨_,_,_,_,rfl,SG.refl _,R0,by lia⟩) ?post)
 case post=>
  rintro c e ⟨r,F,rfl,H,m⟩;exact fU (h r e H m)
 case fin=>
  rintro c e ⟨o,i,j,g,rfl,H,R,hx⟩
  have:=R.hi
  have:=R.hj
  lia
 case step=>
  rintro x c e _ hx ⟨o,i,j,g,rfl,H,R,hxi⟩;dsimp only;refine fS (gC (gk (I:=λy c f=>∃D l k J T,c=(none,D,l,k,J,T)/\f=e/\Rdy κ a b D l k/\i+j+y<=l+k)
   (Q:=λc f=>f=e/\((∃r F,c=(some r,F)/\Mgd κ a.toList b.toList r.toList)\/∃D l k J T,c=(none,D,l,k,J,T)/\Rdy κ a b D l k/\i+j<=l+k)) ?st1 ?fi1 ⟨_,_,_,_,_,rfl,rfl,R,by lia⟩) ?po1)
  case fi1=>
   rintro c f ⟨D,l,k,J,T,rfl,rfl,L,hy⟩
   have:=L.hi
   have:=L.hj
   lia
  case st1=>
   rintro y c f _ hy ⟨D,l,k,J,T,rfl,rfl,L,hyi⟩;dsimp only;refine b85 C (H.kd.trans hk) L (λr c m=>⟨rfl,.inl ⟨r,c,rfl,m⟩⟩) (λo2 i2 j2 u v X V=>⟨rfl,.inr ⟨_,_,_,_,_,rfl,X,by lia⟩⟩) λo2 i2 j2 u v X V=>⟨_,_,_,_,_,rfl,rfl,X,by lia⟩
  case po1=>
   rintro c f ⟨rfl,⟨r,F,rfl,m⟩ |⟨D,l,k,J,T,rfl,L,hij⟩⟩
   ·exact fU ⟨r,_,rfl,H,m⟩
   ·dsimp only;refine a3H ?_;refine fS (gC (gk (I:=λy c B=>∃G q p S z t,c=(none,G,q,p,S,z,t)/\SG st B/\Rdy κ a b G q p/\l+k+y<=q+p)
     (Q:=λc B=>SG st B/\((∃r F,c=(some r,F)/\Mgd κ a.toList b.toList r.toList)\/∃G q p S z t,c=(none,G,q,p,S,z,t)/\Rdy κ a b G q p/\l+k<q+p)) ?f ?fi2 ⟨_,_,_,_,_,_,rfl,H,L,by lia⟩) ?po2)
    case fi2=>
     rintro c B ⟨G,q,p,S,z,t,rfl,d,N,hy⟩
     have:=N.hi
     have:=N.hj
     lia
    case f=>
     rintro y c B _ hy ⟨G,q,p,S,z,t,rfl,d,N,hyi⟩;dsimp only;refine b87 C (d.kd.trans hk) N ⟨λr c W U m=>⟨d.trans U,.inl ⟨r,c,rfl,m⟩⟩,λo4 i4 j4 u v w W U Y V=>⟨d.trans U,.inr ⟨_,_,_,_,_,_,rfl,Y,by lia⟩⟩,λo4 i4 j4 u v w W U Y V=>⟨_,_,_,_,_,_,rfl,d.trans U,Y,by lia⟩⟩ (av _)
    case po2=>
     rintro c B ⟨d,⟨r,F,rfl,m⟩ |⟨G,q,p,S,z,t,rfl,N,V⟩⟩
     ·exact fU ⟨r,_,rfl,d,m⟩
     ·dsimp only;exact fS (gJ (fU ⟨_,_,_,_,rfl,⟨d.kd,d.ar,d.pe,d.fl⟩,N,by lia⟩))
end
noncomputable def a4f:Array Keyed->Array Keyed->SM (Array Keyed):=sortPriv% PySem.Builtin.mergeHi
abbrev hnA(a b o:Array Keyed)(u v:Nat):Array Keyed:=a.extract 0 u++b.extract 0 v++o.reverse
abbrev hnB(a b o:Array Keyed)(u v:Nat):Array Keyed:=b.extract 0 v++a.extract 0 u++o.reverse
abbrev H1:=Option (Array Keyed)×Nat×Nat×Array Keyed×Nat×Nat
abbrev H2:=Option (Array Keyed)×Nat×Nat×Array Keyed×Nat×Nat×Nat
noncomputable def hi1(a b:Array Keyed)(g u v:Nat)(o:Array Keyed)(ac bc:Nat):SM (ForInStep H1):=do
 let y <- elem' b (v-1)
 let x <- elem' a (u-1)
 let r <- lt' y x
 match r with
 |some aw=>
  if aw=true then do
   let x <- elem' a (u-1)
   if (u-1==0)=true then pure (.done (some (hnA a b (o.push x) (u-1) v),u-1,v,o.push x,ac+1,0))
   else if ac+1>=g then pure (.done (none,u-1,v,o.push x,ac+1,0)) else pure (.yield (none,u-1,v,o.push x,ac+1,0))
  else do
   let y <- elem' b (v-1)
   if (v-1==1)=true then pure (.done (some (hnB a b (o.push y) u (v-1)),u,v-1,o.push y,0,bc+1))
   else if bc+1>=g then pure (.done (none,u,v-1,o.push y,0,bc+1)) else pure (.yield (none,u,v-1,o.push y,0,bc+1))
 |_=>pure (.done (some (hnA a b o u v),u,v,o,ac,bc))
noncomputable def hi5(a b:Array Keyed)(u v:Nat)(o:Array Keyed)(g ac bc:Nat):SM (ForInStep H2):=do
 let x <- elem' a (u-1)
 if (u-1==0)=true then pure (.done (some (hnA a b (o.push x) (u-1) v),u-1,v,o.push x,g,ac,bc))
 else if (decide (ac<7)&&decide (bc<7))=true then pure (.done (none,u-1,v,o.push x,g,ac,bc)) else pure (.yield (none,u-1,v,o.push x,g,ac,bc))
noncomputable def hi4(a b:Array Keyed)(u v:Nat)(o:Array Keyed)(g ac bc:Nat):SM (ForInStep H2):=do
 let y <- elem' b (v-1)
 if (v-1==1)=true then pure (.done (some (hnB a b (o.push y) u (v-1)),u,v-1,o.push y,g,ac,bc))
 else do
  let x <- elem' a (u-1)
  let r <- a1p true x b 0 (v-1) (v-1-1)
  match r with
  |some p=>
   if v-1-p > 0 then
    if (p==1)=true then pure (.done (some (hnB a b (o.push y++(b.extract p (v-1)).reverse) u p),u,p,o.push y++(b.extract p (v-1)).reverse,g,ac,v-1-p))
    else if (p==0)=true then pure (.done (some (hnA a b (o.push y++(b.extract p (v-1)).reverse) u p),u,p,o.push y++(b.extract p (v-1)).reverse,g,ac,v-1-p))
    else hi5 a b u p (o.push y++(b.extract p (v-1)).reverse) g ac (v-1-p)
   else hi5 a b u (v-1) (o.push y) g ac (v-1-p)
  |_=>pure (.done (some (hnA a b (o.push y) u (v-1)),u,v-1,o.push y,g,ac,bc))
noncomputable def hi3(a b:Array Keyed)(u v:Nat)(o:Array Keyed)(g ac bc:Nat):SM (ForInStep H2):=do
 a85 g
 let y <- elem' b (v-1)
 let r <- a1p false y a 0 u (u-1)
 match r with
 |some p=>
  if u-p > 0 then
   if (p==0)=true then pure (.done (some (hnA a b (o++(a.extract p u).reverse) p v),p,v,o++(a.extract p u).reverse,g,u-p,bc))
   else hi4 a b p v (o++(a.extract p u).reverse) g (u-p) bc
  else hi4 a b u v o g (u-p) bc
 |_=>pure (.done (some (hnA a b o u v),u,v,o,g,ac,bc))
noncomputable def hi2(a b:Array Keyed)(u v:Nat)(o:Array Keyed)(g ac bc:Nat):SM (ForInStep H2):=
 if g > 1 then hi3 a b u v o (g-1) ac bc else hi3 a b u v o g ac bc
def a41(a b:Array Keyed):a4f a b=(do
  liftM (rule "list.sort.merge-hi")
  let x <- elem' a (a.size-1)
  if (a.size-1==0)=true then pure (hnA a b #[x] (a.size-1) b.size)
  else if (b.size==1)=true then pure (hnB a b #[x] (a.size-1) b.size)
  else do
   let st <- get
   let c <- forIn [0:a.size+b.size] ((none,a.size-1,b.size,#[x],gallopOf st):Option (Array Keyed)×Nat×Nat×Array Keyed×Nat) λ_ c=>do
    let c1 <- forIn [0:a.size+b.size] ((none,c.2.1,c.2.2.1,c.2.2.2.1,0,0):H1) λ_ c1=>hi1 a b c.2.2.2.2 c1.2.1 c1.2.2.1 c1.2.2.2.1 c1.2.2.2.2.1 c1.2.2.2.2.2
    match c1.1 with
    |some r=>pure (ForInStep.done (some r,c1.2.1,c1.2.2.1,c1.2.2.2.1,c.2.2.2.2))
    |none=>do
     liftM (rule "list.sort.gallop")
     let c2 <- forIn [0:a.size+b.size] ((none,c1.2.1,c1.2.2.1,c1.2.2.2.1,c.2.2.2.2+1,c1.2.2.2.2.1,c1.2.2.2.2.2):H2) λ_ c2=>hi2 a b c2.2.1 c2.2.2.1 c2.2.2.2.1 c2.2.2.2.2.1 c2.2.2.2.2.2.1 c2.2.2.2.2.2.2
     match c2.1 with
     |some r=>pure (ForInStep.done (some r,c2.2.1,c2.2.2.1,c2.2.2.2.1,c2.2.2.2.2.1))
     |none=>do
      a85 (c2.2.2.2.2.1+1)
      pure (ForInStep.yield (none,c2.2.1,c2.2.2.1,c2.2.2.2.1,c2.2.2.2.2.1+1))
   match c.1 with
   |some r=>pure r
   |none=>hV "internal:list.sort.merge-bound"):=by
 kernel_rfl
section
variable{κ:KF}{A B o:List Keyed}{u v:Nat}{p:Keyed}
structure MH (κ:KF) (A B o:List Keyed) (u v:Nat):Prop where
 ia:u<=A.length
 jb:v<=B.length
 pm:(A.take u++B.take v++o.reverse).Perm (A++B)
 so:Srt κ o.reverse
 ba:∀x∈o,∀y∈A.take u,κ y<=κ x
 bb:∀x∈o,∀y∈B.take v,κ y<=κ x
def a5T{l:List Keyed}(h:l[n]?=some p):l.take (n+1)=l.take n++[p]:=by
 rw[bV,h];rfl
def a1g(h:Srt κ l)(n:Nat):Srt κ (l.take n):=b6.sublist (dk n l) h
def a1t(h:Srt κ l)(e:l[n]?=some p):∀y∈l.take (n+1),κ y<=κ p:=λy a=>by
 have b:=a1g h (n+1);rw[a5T e]at b a;rcases au.mp a with a |a
 ·exact (aT.mp b).2.2 y a p (by simp)
 ·simp_all
def MH.pushA(W:MH κ A B o (u+1) v)(sa:Srt κ A)(hp:A[u]?=some p)(hb:∀y∈B.take v,κ y<=κ p):MH κ A B (o++[p]) u v:=by
 have c:=a5T hp;have d:=(az.mp hp).1;refine⟨by lia,W.jb,?_,?_,λx b y a=>?_,λx b y a=>?_⟩
 ·have:=W.pm
  rw[c]at this;refine aV.trans ?_ this;rw[cj,cF];simp;exact aV.append_left _ eR
 ·rw[cj,cF,dS];refine aH.mpr ⟨λx b=>?_,W.so⟩;exact W.ba x (by simpa using b) p (by rw[c];simp)
 ·rcases au.mp b with h |h
  ·exact W.ba x h y (by simp_all)
  ·rw[ay.mp h];exact a1t sa hp y (by simp_all)
 ·rcases au.mp b with h |h
  ·exact W.bb x h y a
  ·simp_all
def MH.pushB(W:MH κ A B o u (v+1))(sb:Srt κ B)(hp:B[v]?=some p)(hb:∀y∈A.take u,κ y<=κ p):MH κ A B (o++[p]) u v:=by
 have c:=a5T hp;have d:=(az.mp hp).1;refine⟨W.ia,by omega,?_,?_,λx b y a=>?_,λx b y a=>?_⟩
 ·have:=W.pm
  rw[c]at this;refine aV.trans ?_ this;rw[cj,cF];simp only[aW];exact aV.refl _
 ·rw[cj,cF,dS];refine aH.mpr ⟨λx b=>?_,W.so⟩;exact W.bb x (by simp_all) p (by simp_all)
 ·rcases au.mp b with h |h
  ·exact W.ba x h y a
  ·rw[ay.mp h];exact hb y a
 ·rcases au.mp b with h |h
  ·exact W.bb x h y (by simp_all)
  ·rw[ay.mp h];exact a1t sb hp y (by simp_all)
def MH.runA(sa:Srt κ A):∀(k:Nat){o:List Keyed},MH κ A B o (u+k) v->(∀q z,u<=q->q<u+k->A[q]?=some z->∀y∈B.take v,κ y<=κ z)->MH κ A B (o++((A.drop u).take k).reverse) u v:=by intro z0;induction z0 with
 |zero=>intro o W _;simpa using W
 |succ k I0=>
  intro o W hz;have a:u+k<A.length:=by have:=W.ia;lia
  have e:=aC a;rw[take_snoc e,cj,cF,<- aW];exact (I0 (MH.pushA W sa e (hz _ _ (by simp) (by simp) e)) λq z c f=>hz q z c (by lia))
def MH.runB(sb:Srt κ B):∀(k:Nat){o:List Keyed},MH κ A B o u (v+k)->(∀q z,v<=q->q<v+k->B[q]?=some z->∀y∈A.take u,κ y<=κ z)->MH κ A B (o++((B.drop v).take k).reverse) u v:=by intro z0;induction z0 with
 |zero=>intro o W _;simpa using W
 |succ k I0=>
  intro o W hz;have a:v+k<B.length:=by have:=W.jb;lia
  have e:=aC a;rw[take_snoc e,cj,cF,<- aW];exact (I0 (MH.pushB W sb e (hz _ _ (by simp) (by simp) e)) λq z c f=>hz q z c (by lia))
def MH.doneA(W:MH κ A B o u v)(sa:Srt κ A)(sb:Srt κ B)(h:u=0\/v=0):Mgd κ A B (A.take u++B.take v++o.reverse):=by
 refine⟨W.pm,?_⟩;refine aT.mpr ⟨aT.mpr ⟨a1g sa u,a1g sb v,λx b y c=>?_⟩,W.so,λx b y c=>?_⟩
 ·rcases h with rfl |rfl
  ·simp_all
  ·simp_all
 ·have a:y∈o:=by simpa using c
  rcases au.mp b with h |h
  ·exact W.ba y a x h
  ·exact W.bb y a x h
def MH.doneB(W:MH κ A B o u 1)(sa:Srt κ A)(sb:Srt κ B)(hf:∀z,B[0]?=some z->∀y∈A,κ z<=κ y):Mgd κ A B (B.take 1++A.take u++o.reverse):=by
 refine⟨?_,?_⟩
 ·refine aV.trans ?_ W.pm;exact aV.append_right _ dQ
 ·refine aT.mpr ⟨aT.mpr ⟨a1g sb 1,a1g sa u,λx a y c=>?_⟩,W.so,λx a y c=>?_⟩
  ·cases B with
   |nil=>simp at a
   |cons z B=>
    have:x=z:=by simpa using a
    subst this;exact hf x rfl y (bf c)
  ·have b:y∈o:=by simpa using c
   rcases au.mp a with h |h
   ·exact W.bb y b x h
   ·exact W.ba y b x h
end
section
variable{κ:KF}{a b o:Array Keyed}{u v:Nat}
def a1N:(hnA a b o u v).toList=a.toList.take u++b.toList.take v++o.toList.reverse:=by
 simp
def a2Q:(hnB a b o u v).toList=b.toList.take v++a.toList.take u++o.toList.reverse:=by
 simp
def a6C:(o++(a.extract p u).reverse).toList=o.toList++((a.toList.drop p).take (u-p)).reverse:=by
 simp[du]
end
structure RdH (κ:KF) (a b o:Array Keyed) (u v:Nat):Prop where
 w:MH κ a.toList b.toList o.toList u v
 hu:1<=u
 hv:2<=v
section
variable{M:Model}{A:Around}{E:Value->Shared->Prop}{s:Shared}{κ:KF}{k0:gI}{ajj a b o:Array Keyed}{st:SortSt}{u v g ac bc:Nat}
def RdH.ua(R:RdH κ a b o u v):u<=a.size:=by have:=R.w.ia;rwa [a0T]at this
def RdH.vb(R:RdH κ a b o u v):v<=b.size:=by have:=R.w.jb;rwa [a0T]at this
def MC.first(C:MC M A E s κ k0 ajj a b):∀z,b.toList[0]?=some z->∀y∈a.toList,κ z<=κ y:=λz c y d=>by
 have:=C.hf y d
 rwa [a24 c]at this
def b88(C:MC M A E s κ k0 ajj a b)(hk:kindOf st=k0)(R:RdH κ a b o (u+1) (v+1))
  (dn:∀r c,Mgd κ a.toList b.toList r.toList->Q (.done (some r,c)) st)
  (br:∀o' u' v' x y,RdH κ a b o' u' v'->u'+v'=u+v+1->Q (.done (none,u',v',o',x,y)) st)
  (go:∀o' u' v' x y,RdH κ a b o' u' v'->u'+v'=u+v+1->Q (.yield (none,u',v',o',x,y)) st):wpS M A E s (hi1 a b g (u+1) (v+1) o ac bc) Q st:=by
 have q:=R.ua;have t:=R.vb;have p:=R.hv;have l:b[v]?=some b[v]:=getElem?_pos ..;have n:a[u]?=some a[u]:=getElem?_pos ..;have j:=a0F (a:=b) (i:=v) (by lia);have k:=a0F (a:=a) (i:=u) (by lia);unfold hi1;simp only[dU];refine fS (a0y l (fS (a0y n (fS (C.L _ _ (C.hb _ (aL j)) (C.ha _ (aL k)) st _ hk ?_)))));dsimp only
 by_cases c:κ b[v]<κ a[u]
 ·rw[if_pos (decide_eq_true c)];refine fS (a0y n ?_);have d:=R.w.pushA C.sa k λy h=>be (a1t C.sb j y h) (bO c);rw[<- bo]at d
  by_cases e:u=0
  ·rw[if_pos (by simpa using e)];exact fU (dn _ _ (a1N▸d.doneA C.sa C.sb (.inl e)))
  ·rw[if_neg (by simpa using e)];have f:RdH κ a b (o.push a[u]) u (v+1):=⟨d,by lia,p⟩
   split
   ·exact fU (br _ _ _ _ _ f (by lia))
   ·exact fU (go _ _ _ _ _ f (by lia))
 ·rw[if_neg (by simpa using c)];refine fS (a0y l ?_);have d:=R.w.pushB C.sb j λy h=>be (a1t C.sa k y h) (dv.mp c);rw[<- bo]at d
  by_cases e:v=1
  ·rw[if_pos (by simpa using e)];subst e;exact fU (dn _ _ (a2Q▸d.doneB C.sa C.sb C.first))
  ·rw[if_neg (by simpa using e)];have f:RdH κ a b (o.push b[v]) (u+1) v:=⟨d,R.hu,by lia⟩
   split
   ·exact fU (br _ _ _ _ _ f (by lia))
   ·exact fU (go _ _ _ _ _ f (by lia))
structure HG (st:SortSt) (κ:KF) (a b:Array Keyed) (n:Nat) (Q:ForInStep H2->SortSt->Prop):Prop where
 dn:∀r c st',SG st st'->Mgd κ a.toList b.toList r.toList->Q (.done (some r,c)) st'
 br:∀o' u' v' x y z st',SG st st'->RdH κ a b o' u' v'->u'+v'<n->Q (.done (none,u',v',o',x,y,z)) st'
 go:∀o' u' v' x y z st',SG st st'->RdH κ a b o' u' v'->u'+v'<n->Q (.yield (none,u',v',o',x,y,z)) st'
def b6C(C:MC M A E s κ k0 ajj a b)(R:RdH κ a b o (u+1) v)(hle:∀y∈b.toList.take v,κ y<=Kk κ a u)(H:HG st κ a b n Q)(hn:u+v<n):wpS M A E s (hi5 a b (u+1) v o g ac bc) Q st:=by
 have k:=R.ua;have j:a[u]?=some a[u]:=getElem?_pos ..;rw[a0J (show u<a.size by lia)]at hle;unfold hi5;simp only[dU];refine fS (a0y j ?_);have c:=R.w.pushA C.sa (a0F (a:=a) (i:=u) (by lia)) hle;rw[<- bo]at c
 by_cases e:u=0
 ·rw[if_pos (by simpa using e)];exact fU (H.dn _ _ _ (SG.refl _) (a1N▸c.doneA C.sa C.sb (.inl e)))
 ·rw[if_neg (by simpa using e)];have d:RdH κ a b _ u v:=⟨c,by lia,R.hv⟩
  split
  ·exact fU (H.br _ _ _ _ _ _ _ (SG.refl _) d (by lia))
  ·exact fU (H.go _ _ _ _ _ _ _ (SG.refl _) d (by lia))
def a1D{l:List Keyed}(h:y∈l.take n):∃q,q<n/\l[q]?=some y:=by
 obtain⟨m,a⟩:=bB h;have b:=(az.mp a).1;rw[dw]at a
 split at a
 ·exact⟨m,by omega,a⟩
 ·grind
def b6D(C:MC M A E s κ k0 ajj a b)(hk:kindOf st=k0)(R:RdH κ a b o (u+1) (v+1))(hle:∀y∈a.toList.take (u+1),κ y<=Kk κ b v)(H:HG st κ a b n Q)(hn:u+v<n):wpS M A E s (hi4 a b (u+1) (v+1) o g ac bc) Q st:=by
 have I:=R.ua;have G:=R.vb;have F:=R.hv;have B:b[v]?=some b[v]:=getElem?_pos ..;have t:a[u]?=some a[u]:=getElem?_pos ..;have r:=a0F (a:=a) (i:=u) (by lia);rw[a0J (show v<b.size by lia)]at hle;unfold hi4;simp only[dU];refine fS (a0y B ?_);have d:=R.w.pushB C.sb (a0F (a:=b) (i:=v) (by lia)) hle;rw[<- bo]at d
 by_cases e:v=1
 ·rw[if_pos (by simpa using e)];subst e;exact fU (H.dn _ _ _ (SG.refl _) (a2Q▸d.doneB C.sa C.sb C.first))
 ·rw[if_neg (by simpa using e)];refine fS (a0y t (fS (a1s C.L hk (C.ha _ (aL r)) C.hb (by lia) (by lia) (a1M C.sb (by lia)) λp D j h=>?_)));dsimp only;simp only[cm]at j h;have c:∀y∈b.toList.take p,κ y<=Kk κ a u:=λy k=>by
   obtain⟨q,m,l⟩:=a1D k
   have:=j q m
   rw[a24 l]at this;simp[bq]at this;rw[a0J (show u<a.size by lia)]
   lia
  split
  ·have f:=MH.runB C.sb (v-p) (by rw[show p+(v-p)=v by lia];exact d) λq z m J l y k=>by
    have:=h q m (by lia)
    rw[a24 l]at this;simp[bq]at this;exact be (a1t C.sa r y k) this
   rw[<- a6C]at f
   by_cases e1:p=1
   ·rw[if_pos (by simpa using e1)];subst e1;exact fU (H.dn _ _ _ (SG.refl _) (a2Q▸f.doneB C.sa C.sb C.first))
   ·rw[if_neg (by simpa using e1)]
    by_cases e2:p=0
    ·rw[if_pos (by simpa using e2)];exact fU (H.dn _ _ _ (SG.refl _) (a1N▸f.doneA C.sa C.sb (.inr e2)))
    ·rw[if_neg (by simpa using e2)];exact b6C C ⟨f,by lia,by lia⟩ c H (by lia)
  ·have:p=v:=by lia
   subst this;exact b6C C ⟨d,by lia,by lia⟩ c H (by lia)
def b89(C:MC M A E s κ k0 ajj a b)(hk:kindOf st=k0)(R:RdH κ a b o (u+1) (v+1))(H:HG st κ a b n Q)(hn:u+v<n):wpS M A E s (hi3 a b (u+1) (v+1) o g ac bc) Q st:=by
 have S:=R.ua;have N:=R.vb;have I:b[v]?=some b[v]:=getElem?_pos ..;have D:=a0F (a:=b) (i:=v) (by lia);unfold hi3;rw[a4d];refine fS (gJ ?_);have h:SG st (SortSt.mk' _ _ _ g _):=⟨rfl,rfl,rfl,rfl⟩;have e:kindOf (SortSt.mk' _ (arrOf st) (fY st) g (gA st))=k0:=hk;generalize SortSt.mk' _ (arrOf st) (fY st) g (gA st)=st1 at h e;have l:HG st1 κ a b n Q:=⟨λr c d g=>H.dn r c d (h.trans g),λ_ _ _ _ _ _ d g=>H.br _ _ _ _ _ _ d (h.trans g),λ_ _ _ _ _ _ d g=>H.go _ _ _ _ _ _ d (h.trans g)⟩;refine fS (a0y I (fS (a1s C.L e (C.hb _ (aL D)) C.ha (by lia) (by lia) (a1M C.sa (by lia)) λp J k j=>?_)));dsimp only;simp at k j;have f:∀y∈a.toList.take p,κ y<=Kk κ b v:=λy m=>by
  obtain⟨q,B,x⟩:=a1D m
  have:=k q B
  rw[a24 x]at this;simp[bq]at this;rw[a0J _];omega
 split
 ·have t:=MH.runA C.sa _ (show p+(u+1-p)=u+1 by lia▸R.w) λq z B T x y m=>by
   have:=j q B (by lia)
   rw[a24 x]at this;simp[bq]at this;exact be (a1t C.sb D y m) (bO this)
  rw[<- a6C]at t
  by_cases e1:p=0
  ·rw[if_pos (by simpa using e1)];exact fU (l.dn _ _ _ (SG.refl _) (a1N▸t.doneA C.sa C.sb (.inl e1)))
  ·rw[if_neg (by simpa using e1)];obtain⟨G,rfl⟩:∃G,p=G+1:=⟨p-1,by lia⟩;exact b6D C e ⟨t,by lia,R.hv⟩ f l (by lia)
 ·have:p=u+1:=by lia
  subst this;exact b6D C e R f l (by lia)
def b9a(C:MC M A E s κ k0 ajj a b)(hk:kindOf st=k0)(R:RdH κ a b o (u+1) (v+1))(H:HG st κ a b n Q)(hn:u+v<n):wpS M A E s (hi2 a b (u+1) (v+1) o g ac bc) Q st:=by
 unfold hi2
 split<;>exact b89 C hk R H hn
def b0X(C:MC M A E s κ k0 ajj a b):MH κ a.toList b.toList [a[a.size-1]'(by have:=C.h0;omega)] (a.size-1) b.size:=by
 have f:=C.h0;have d:MH κ a.toList b.toList [] (a.size-1+1) b.size:=⟨by rw[a0T];lia,by rw[a0T];lia,by rw[bY (by rw[a0T];lia),bY (by rw[a0T];lia)];simp,.nil,λx h=>by simp at h,λx h=>by simp at h⟩;exact d.pushA C.sa (a0F (a:=a) (i:=a.size-1) (by lia)) λy e=>C.hl _ (by simp) y (bf e)
def a87(C:MC M A E s κ k0 ajj a b)(hk:kindOf st=k0)
  (h:∀r st',SG st st'->Mgd κ a.toList b.toList r.toList->Q r st'):wpS M A E s (a4f a b) Q st:=by
 have h0:=C.h0;have h1:=C.h1;rw[a41];refine a3H (fS (a0y (getElem?_pos a (a.size-1) (by lia)) ?_));have V:=b0X C
 by_cases e1:a.size-1=0
 ·rw[if_pos (by simpa using e1)];exact fU (h _ _ (SG.refl _) (a1N▸V.doneA C.sa C.sb (.inl e1)))
 rw[if_neg (by simpa using e1)]
 by_cases e2:b.size=1
 ·rw[if_pos (by simpa using e2)];refine fU (h _ _ (SG.refl _) ?_);rw[e2]at V;rw[a2Q,e2];exact V.doneB C.sa C.sb C.first
 rw[if_neg (by simpa using e2)];refine fS (gN ?_);have R0:RdH κ a b #[a[a.size-1]] (a.size-1) b.size:=⟨V,by lia,by lia⟩;refine fS (gC (gk (I:=λx c e=>∃o u v g,c=(none,u,v,o,g)/\SG st e/\RdH κ a b o u v/\x+(u+v)<a.size+b.size)
  (Q:=λc e=>∃r G,c=(some r,G)/\SG st e/\Mgd κ a.toList b.toList r.toList) ?step ?fin ⟨_,_,_,_,rfl,SG.refl _,R0,by lia⟩) ?post)
 case post=>
  rintro c e ⟨r,G,rfl,L,m⟩;exact fU (h r e L m)
 case fin=>
  rintro c e ⟨o,u,v,g,rfl,L,R,hx⟩
  lia
 case step=>
  rintro x c e _ hx ⟨o,u,v,g,rfl,L,R,hxi⟩;dsimp only;have hk1:kindOf e=k0:=L.kd.trans hk;refine fS (gC (gk (I:=λy c l=>∃D f i S J,c=(none,f,i,D,S,J)/\l=e/\RdH κ a b D f i/\f+i+y<=u+v)
   (Q:=λc l=>l=e/\((∃r G,c=(some r,G)/\Mgd κ a.toList b.toList r.toList)\/∃D f i S J,c=(none,f,i,D,S,J)/\RdH κ a b D f i/\f+i<=u+v)) ?st1 ?fi1 ⟨_,_,_,_,_,rfl,rfl,R,by lia⟩) ?po1)
  case fi1=>
   rintro c l ⟨D,f,i,S,J,rfl,rfl,H,Y⟩;exact⟨rfl,.inr ⟨_,_,_,_,_,rfl,H,by lia⟩⟩
  case st1=>
   rintro y c l _ Y ⟨D,f,i,S,J,rfl,rfl,H,hyi⟩;dsimp only;have hu1:=H.hu;have hv1:=H.hv;obtain⟨f,rfl⟩:∃z,f=z+1:=⟨f-1,by lia⟩;obtain⟨i,rfl⟩:∃z,i=z+1:=⟨i-1,by lia⟩;refine b88 C hk1 H (λr c m=>⟨rfl,.inl ⟨r,c,rfl,m⟩⟩) (λo2 i2 j2 u v R2 U=>⟨rfl,.inr ⟨_,_,_,_,_,rfl,R2,by lia⟩⟩) λo2 i2 j2 u v R2 U=>⟨_,_,_,_,_,rfl,rfl,R2,by lia⟩
  case po1=>
   rintro c l ⟨rfl,⟨r,G,rfl,m⟩ |⟨D,f,i,S,J,rfl,H,hij⟩⟩
   ·exact fU ⟨r,_,rfl,L,m⟩
   ·dsimp only;refine a3H ?_;refine fS (gC (gk (I:=λy c p=>∃B k j N q t,c=(none,k,j,B,N,q,t)/\SG st p/\RdH κ a b B k j/\k+j+y<=f+i)
     (Q:=λc p=>SG st p/\((∃r G,c=(some r,G)/\Mgd κ a.toList b.toList r.toList)\/∃B k j N q t,c=(none,k,j,B,N,q,t)/\RdH κ a b B k j/\k+j<f+i)) ?l ?fi2 ⟨_,_,_,_,_,_,rfl,L,H,by lia⟩) ?po2)
    case fi2=>
     rintro c p ⟨B,k,j,N,q,t,rfl,d,F,Y⟩;exact⟨d,.inr ⟨_,_,_,_,_,_,rfl,F,by have:=F.hu;lia⟩⟩
    case l=>
     rintro y c p _ Y ⟨B,k,j,N,q,t,rfl,d,F,hyi⟩;dsimp only;have hu1:=F.hu;have hv1:=F.hv;obtain⟨k,rfl⟩:∃z,k=z+1:=⟨k-1,by lia⟩;obtain⟨j,rfl⟩:∃z,j=z+1:=⟨j-1,by lia⟩;refine b9a (n:=k+1+(j+1)) C (d.kd.trans hk) F ⟨λr c W T m=>⟨d.trans T,.inl ⟨r,c,rfl,m⟩⟩,λo4 i4 j4 u v w W T X U=>⟨d.trans T,.inr ⟨_,_,_,_,_,_,rfl,X,by lia⟩⟩,λo4 i4 j4 u v w W T X U=>⟨_,_,_,_,_,_,rfl,d.trans T,X,by lia⟩⟩ (by lia)
    case po2=>
     rintro c p ⟨d,⟨r,G,rfl,m⟩ |⟨B,k,j,N,q,t,rfl,F,U⟩⟩
     ·exact fU ⟨r,_,rfl,d,m⟩
     ·dsimp only;rw[a4d];exact fS (gJ (fU ⟨_,_,_,_,rfl,⟨d.kd,d.ar,d.pe,d.fl⟩,F,by lia⟩))
end
def SR(κ:KF)(xs:Array Keyed)(lo n:Nat):Prop:=∀i j,i<=j->j<n->Kk κ xs (lo+i)<=Kk κ xs (lo+j)
def NR(κ:KF)(xs:Array Keyed)(lo n:Nat):Prop:=∀i j,i<=j->j<n->Kk κ xs (lo+j)<=Kk κ xs (lo+i)
structure Ar (st st':SortSt) (lo:Nat):Prop where
 pm:(arrOf st').Perm (arrOf st)
 pre:∀i,i<lo->(arrOf st')[i]?=(arrOf st)[i]?
 kd:kindOf st'=kindOf st
 pe:fY st'=fY st
 fl:gA st'=gA st
section
variable{M:Model}{A:Around}{E:Value->Shared->Prop}{s:Shared}{κ:KF}{k0:gI}{ajj:Array Keyed}{st st':SortSt}{lo:Nat}
def Ar.refl(st:SortSt)(lo:Nat):Ar st st lo:=⟨cS.refl _,λ_ _=>rfl,rfl,rfl,rfl⟩
def Ar.trans(p:Ar x y lo)(q:Ar y z lo):Ar x z lo:=⟨q.pm.trans p.pm,λi h=>(q.pre i h).trans (p.pre i h),q.kd.trans p.kd,q.pe.trans p.pe,q.fl.trans p.fl⟩
def Ar.tb(q:Ar st st' lo)(B:TB k0 ajj st):TB k0 ajj st':=⟨q.pm.trans B.pm,q.kd.trans B.kd,q.fl.trans B.fl⟩
def b2n(hs:src<xs.size)(hd:d<=src)(k:Nat) :
  Kk κ (bubble xs src d) k=if k=src-d then Kk κ xs src else if src-d<k/\k<=src then Kk κ xs (k-1) else Kk κ xs k:=by
 have q:=getElem?_bubble hs d hd k
 by_cases h1:k=src-d
 ·rw[if_pos h1]at q ⊢;exact a23 q
 ·rw[if_neg h1]at q ⊢
  by_cases h2:src-d<k/\k<=src
  ·rw[if_pos h2]at q ⊢;exact a23 q
  ·rw[if_neg h2]at q ⊢;exact a23 q
def Ar.bub(hs:src<(arrOf st).size)(hd:d<=src)(h:lo<=src-d):Ar st (setArr st (bubble (arrOf st) src d)) lo:=
 ⟨bubble_perm _ _ _,λi a=>by
  rw[getElem?_bubble hs d hd,if_neg (by lia),if_neg (by lia)],rfl,rfl,rfl⟩
def a88(hj:j<=xs.size)(k:Nat):Kk κ (mirror xs i j ((j-i) / 2)) k=if i<=k/\k<j then Kk κ xs (i+j-1-k) else Kk κ xs k:=by
 have q:=getElem?_mirror_all (i:=i) hj k
 by_cases h1:i<=k/\k<j
 ·rw[if_pos h1]at q ⊢;exact a23 q
 ·rw[if_neg h1]at q ⊢;exact a23 q
def a25(hj:j<=xs.size)(hq:∀k,i<=k->k<j->Kk κ xs k=Kk κ xs (j-1))(k:Nat):Kk κ (mirror xs i j ((j-i) / 2)) k=Kk κ xs k:=by
 rw[a88 hj]
 split
 ·grind
 ·rfl
def Ar.mir(hj:j<=(arrOf st).size)(h:lo<=i):Ar st (setArr st (mirror (arrOf st) i j ((j-i) / 2))) lo:=
 ⟨mirror_perm _ _ _ _,λk a=>by
  rw[getElem?_mirror_all hj,if_neg (by lia)],rfl,rfl,rfl⟩
def b0Y(L:LtOk M A E s κ k0 ajj)(B:TB k0 ajj st)(hn:lo+n<=ajj.size)(hok:ok<=n)(hs:SR κ (arrOf st) lo ok)
  (h:∀st',Ar st st' lo->SR κ (arrOf st') lo n->Q true st'):wpS M A E s (binarySort' lo n ok) Q st:=by
 rw[binarySort'_eq];refine fS (gC (gk (I:=λk c z=>c=(none,())/\Ar st z lo/\SR κ (arrOf z) lo (min k n)) (Q:=λc z=>c=(none,())/\Ar st z lo/\SR κ (arrOf z) lo n) ?step ?fin ?init) ?post)
 case post=>
  rintro c z ⟨rfl,r1,r2⟩;exact fU (h z r1 r2)
 case init=>
  refine⟨rfl,Ar.refl _ _,λi j hij hj=>?_⟩
  by_cases h1:ok=0
  ·have:i=j:=by lia
   rw[this];exact bS _
  ·exact hs i j hij (by lia)
 case fin=>
  rintro c z ⟨hc,r1,r2⟩;refine⟨hc,r1,?_⟩
  rwa [show min (max (max ok 1) n) n=n by lia]at r2
 case step=>
  rintro k c z hak hkn ⟨rfl,r1,r2⟩;rw[show min k n=k by lia]at r2;have B1:=r1.tb B;refine fS (gC (gk (I:=λx c y=>y=z/\∃p q,c=(none,p,q)/\p<=q/\q<=k/\q-p<=k-x/\(∀i,i<p->Kk κ (arrOf z) (lo+i)<=Kk κ (arrOf z) (lo+k))/\(∀i,q<=i->i<k->Kk κ (arrOf z) (lo+k)<Kk κ (arrOf z) (lo+i)))
   (Q:=λc y=>y=z/\∃p q,c=(none,p,q)/\p<=k/\(∀i,i<p->Kk κ (arrOf z) (lo+i)<=Kk κ (arrOf z) (lo+k))/\(∀i,p<=i->i<k->Kk κ (arrOf z) (lo+k)<Kk κ (arrOf z) (lo+i))) ?istep ?ifin ?iinit) ?ipost)
  case iinit=>exact⟨rfl,0,k,rfl,by lia,by lia,by lia,λi hi=>by lia,λi h1 h2=>by lia⟩
  case ifin=>
   rintro c y ⟨rfl,p,q,rfl,u1,u2,u3,u4,u5⟩
   have:p=q:=by lia
   subst this;exact⟨rfl,p,p,rfl,u2,u4,u5⟩
  case istep=>
   rintro x c y _ hxk ⟨rfl,p,q,rfl,u1,u2,u3,u4,u5⟩;dsimp only
   by_cases hge:p>=q
   ·rw[if_pos hge]
    have:p=q:=by lia
    subst this;exact fU ⟨rfl,p,p,rfl,u2,u4,u5⟩
   ·rw[if_neg hge];refine fS (a4Z L B1 (by lia) (by lia) ?_)
    by_cases hless:Kk κ (arrOf y) (lo+k)<Kk κ (arrOf y) (lo+(p+q) / 2)
    ·simp only[hless,decide_true,if_true];refine fU ⟨rfl,p,(p+q) / 2,rfl,by lia,by lia,by lia,u4,λi h1 h2=>?_⟩;exact Int.lt_of_lt_of_le hless (r2 _ _ h1 h2)
    ·simp only[hless,decide_false,cG,if_false];refine fU ⟨rfl,(p+q) / 2+1,q,rfl,by lia,by lia,by lia,λi h1=>?_,u5⟩;exact be (r2 i ((p+q) / 2) (by lia) (by lia)) (dv.mp hless)
  case ipost=>
   rintro c y ⟨rfl,p,q,rfl,u2,u4,u5⟩
   show wpS _ _ _ _ (do moveDown' (lo+k) (lo+p);pure (ForInStep.yield (none,()))) _ _
   rw[moveDown'_eq];have hks:lo+k<(arrOf y).size:=by rw[B1.sz];lia
   refine fS (gJ (fU ⟨rfl,r1.trans (Ar.bub hks (by lia) (by lia)),?_⟩));rw[show min (k+1) n=k+1 by lia];intro i j hij hj
   show Kk κ (bubble (arrOf y) (lo+k) (lo+k-(lo+p))) (lo+i)<=Kk κ (bubble (arrOf y) (lo+k) (lo+k-(lo+p))) (lo+j)
   rw[b2n hks (by lia),b2n hks (by lia),show lo+k-(lo+k-(lo+p))=lo+p by lia];have ek:∀t,1<=t->lo+t-1=lo+(t-1):=λt ht=>by lia
   repeat' split
   all_goals first
    | (exfalso;lia)
    |exact bS _
    |exact u4 _ (by lia)
    | (rw[ek _ (by lia)];exact u4 _ (by lia))
    |exact bO (u5 _ (by lia) (by lia))
    | (rw[ek _ (by lia)];exact bO (u5 _ (by lia) (by lia)))
    |exact r2 _ _ (by lia) (by lia)
    | (rw[ek j (by lia)];exact r2 _ _ (by lia) (by lia))
    | (rw[ek i (by lia)];exact r2 _ _ (by lia) (by lia))
    | (rw[ek i (by lia),ek j (by lia)];exact r2 _ _ (by lia) (by lia))
end
abbrev U1:=Option (Option Nat)×Nat
abbrev U2:=Option (Option Nat)×Nat×Nat
noncomputable def rise(lo p nr:Nat):SM U1:=forIn [p:nr] ((none,p):U1) λ_ c=>do
 let x <- ltAt' (lo+c.2) (lo+c.2-1)
 match x with
 |some sm=>if sm=true then pure (.done (none,c.2)) else pure (.yield (none,c.2+1))
 |_=>pure (.done (some none,c.2))
noncomputable def fin3(lo n nr:Nat):SM (Option Nat):=do
 iY lo (lo+n)
 let c <- rise lo n nr
 match c.1 with
 |some r=>pure r
 |none=>pure (some c.2)
noncomputable def fall(lo n nr:Nat):SM U2:=forIn [n:nr] ((none,n,0):U2) λ_ c=>do
 let x <- ltAt' (lo+c.2.1) (lo+c.2.1-1)
 match x with
 |some sm=>
  if sm=true then
   if c.2.2 > 0 then do
    iY (lo+c.2.1-(c.2.2+1)) (lo+c.2.1)
    pure (.yield (none,c.2.1+1,0))
   else pure (.yield (none,c.2.1+1,0))
  else do
   let x <- ltAt' (lo+c.2.1-1) (lo+c.2.1)
   match x with
   |some lg=>if lg=true then pure (.done (none,c.2.1,c.2.2)) else pure (.yield (none,c.2.1+1,c.2.2+1))
   |_=>pure (.done (some none,c.2.1,c.2.2))
 |_=>pure (.done (some none,c.2.1,c.2.2))
noncomputable def part(lo n nr:Nat):SM (Option Nat):=do
 liftM (rule "list.sort.descending-run")
 let c <- fall lo (n+1) nr
 match c.1 with
 |some r=>pure r
 |none=>
  if c.2.2 > 0 then do
   iY (lo+c.2.1-(c.2.2+1)) (lo+c.2.1)
   fin3 lo c.2.1 nr
  else fin3 lo c.2.1 nr
def a4g(lo nr:Nat):countRun' lo nr=(do
  let c <- rise lo 1 nr
  match c.1 with
  |some r=>pure r
  |none=>
   if (c.2==nr)=true then pure (some c.2)
   else if c.2 > 1 then do
    let x <- ltAt' lo (lo+c.2-1)
    match x with
    |some up=>if up=true then pure (some c.2) else do
      iY lo (lo+c.2)
      part lo c.2 nr
    |_=>pure none
   else part lo c.2 nr):=by
 kernel_rfl
section
variable{M:Model}{A:Around}{E:Value->Shared->Prop}{s:Shared}{κ:KF}{k0:gI}{ajj:Array Keyed}{st:SortSt}{lo nr:Nat}
def b0Z{α:Type}{f:Unit->SM α}{Q:α->SortSt->Prop}(h:wpS M A E s (f ()) Q (setArr st (mirror (arrOf st) i j ((j-i) / 2)))):wpS M A E s (iY i j >>= f) Q st:=fS (gJ h)
def SR.one:SR κ xs lo 1:=by grind [SR]
def SR.snoc(h:SR κ xs lo n)(h1:1<=n)(c:Kk κ xs (lo+n-1)<=Kk κ xs (lo+n)):SR κ xs lo (n+1):=λi j a b=>by
 by_cases hjn:j<n
 ·exact h i j a hjn
 ·have e:j=n:=by lia
  subst e
  by_cases e2:i=j
  ·rw[e2];exact bS _
  ·refine be (h i (j-1) (by lia) (by lia)) ?_;rw[show lo+(j-1)=lo+j-1 by lia];exact c
def NR.snoc(h:NR κ xs lo n)(h1:1<=n)(c:Kk κ xs (lo+n)<=Kk κ xs (lo+n-1)):NR κ xs lo (n+1):=λi j a b=>by
 by_cases hjn:j<n
 ·exact h i j a hjn
 ·have e:j=n:=by lia
  subst e
  by_cases e2:i=j
  ·simp_all
  ·refine be ?_ (h i (j-1) (by lia) (by lia));rw[show lo+(j-1)=lo+j-1 by lia];exact c
def NR.congr(h:NR κ xs lo n)(e:∀k,Kk κ ys k=Kk κ xs k):NR κ ys lo n:=λi j b a=>by rw[e,e];exact h i j b a
def b2o(L:LtOk M A E s κ k0 ajj)(B:TB k0 ajj st)(hn:lo+nr<=ajj.size)(hp:1<=p)(hpn:p<=nr)(hs:SR κ (arrOf st) lo p)
  (h:∀n,p<=n->n<=nr->SR κ (arrOf st) lo n->(n=nr\/Kk κ (arrOf st) (lo+n)<Kk κ (arrOf st) (lo+n-1))->Q (none,n) st):wpS M A E s (rise lo p nr) Q st:=by
 refine gk (I:=λx c z=>z=st/\c=(none,x)/\SR κ _ lo x) ?step ?fin ⟨rfl,rfl,hs⟩
 case fin=>
  rintro c z ⟨rfl,rfl,a⟩;rw[show max p nr=nr by lia]at a ⊢;exact h nr hpn (av _) a (.inl rfl)
 case step=>
  rintro x c z b d ⟨rfl,rfl,a⟩;refine fS (a4Z L B (by lia) (by lia) ?_)
  by_cases q:Kk κ (arrOf z) (lo+x)<Kk κ (arrOf z) (lo+x-1)
  ·simp only[q];exact fU (h x b (by lia) a (.inr q))
  ·simp only[q];exact fU ⟨rfl,rfl,a.snoc (by lia) (dv.mp q)⟩
def b2p(L:LtOk M A E s κ k0 ajj)(B:TB k0 ajj st)(hn:lo+nr<=ajj.size)(h1:1<=n)(hnn:n<=nr)(hs:NR κ (arrOf st) lo n)
  (h:∀m z,Ar st z lo->1<=m->m<=nr->SR κ (arrOf z) lo m->Q (some m) z):wpS M A E s (fin3 lo n nr) Q st:=by
 have a:lo+n<=(arrOf st).size:=by rw[B.sz];lia
 refine b0Z ?_;have b:Ar st _ lo:=Ar.mir a (av _);refine fS (b2o L (b.tb B) hn h1 hnn ?_ λm g d c _=>fU (h m _ b (by lia) d c));intro i j e f;rw[a88 a,a88 a,if_pos (by lia),if_pos (by lia),show lo+_-1-_=lo+(n-1-i) by lia,show lo+_-1-_=lo+(n-1-j) by lia];exact hs _ _ (by lia) (by lia)
def b6E(L:LtOk M A E s κ k0 ajj)(B:TB k0 ajj st)(hn:lo+nr<=ajj.size)(h1:1<=n)(hnn:n<=nr)(hs:NR κ (arrOf st) lo n)
  (h:∀m e z,Ar st z lo->n<=m->m<=nr->NR κ (arrOf z) lo m->e+1<=m->(∀i,lo+m-(e+1)<=i->i<lo+m->Kk κ (arrOf z) i=Kk κ (arrOf z) (lo+m-1))->Q (none,m,e) z):wpS M A E s (fall lo n nr) Q st:=by
 unfold fall;refine gk (I:=λx c z=>∃e,c=(none,x,e)/\Ar st z lo/\NR κ (arrOf z) lo x/\e+1<=x/\(∀i,lo+x-(e+1)<=i->i<lo+x->Kk κ (arrOf z) i=Kk κ (arrOf z) (lo+x-1))) ?step ?fin ⟨0,rfl,Ar.refl _ _,hs,by lia,λi l a=>by congr 1;lia⟩
 case fin=>
  rintro c z ⟨e,rfl,b,a,f,d⟩;rw[show max n nr=nr by lia]at a f d ⊢;exact h nr e z b hnn (av _) a f d
 case step=>
  rintro x c z p r ⟨e,rfl,b,a,f,d⟩;dsimp only;have k:=b.tb B;have j:lo+x<=(arrOf z).size:=by rw[k.sz];lia
  refine fS (a4Z L k (by lia) (by lia) ?_)
  by_cases q:Kk κ (arrOf z) (lo+x)<Kk κ (arrOf z) (lo+x-1)
  ·simp only[q,decide_true,if_true];have o:=a.snoc (by lia) (bO q)
   by_cases g:e > 0
   ·rw[if_pos g];exact b0Z (fU ⟨0,rfl,b.trans (Ar.mir j (by lia)),o.congr (a25 j d),by lia,λi l a=>by congr 1;lia⟩)
   ·rw[if_neg g];exact fU ⟨0,rfl,b,o,by lia,λi l a=>by congr 1;lia⟩
  ·simp only[q,decide_false,if_false];refine fS (a4Z L k (by lia) (by lia) ?_)
   by_cases q2:Kk κ (arrOf z) (lo+x-1)<Kk κ (arrOf z) (lo+x)
   ·simp only[q2,decide_true,if_true];exact fU (h x e z b p (by lia) a f d)
   ·simp only[q2,decide_false,if_false];have g:Kk κ (arrOf z) (lo+x)=Kk κ (arrOf z) (lo+x-1):=by lia
    refine fU ⟨e+1,rfl,b,a.snoc (by lia) (by lia),by lia,λi l a=>?_⟩;rw[show lo+(x+1)-1=lo+x by lia]
    by_cases hix:i=lo+x
    ·rw[hix]
    ·grind
def b2q(L:LtOk M A E s κ k0 ajj)(B:TB k0 ajj st)(hn:lo+nr<=ajj.size)(hnn:n+1<=nr)(hs:NR κ (arrOf st) lo (n+1))
  (h:∀m z,Ar st z lo->1<=m->m<=nr->SR κ (arrOf z) lo m->Q (some m) z):wpS M A E s (part lo n nr) Q st:=by
 refine a3H (fS (b6E L B hn (by simp) hnn hs λm e z c l i g o j=>?_));dsimp only;have f:=c.tb B;have a:lo+m<=(arrOf z).size:=by rw[f.sz];lia
 by_cases he:e > 0
 ·rw[if_pos he];have d:Ar st (setArr z (mirror (arrOf z) (lo+m-(e+1)) _ _)) lo:=c.trans (Ar.mir a (by lia));exact b0Z (b2p L (d.tb B) hn (by lia) i (g.congr (a25 a j)) λk w b=>h k w (d.trans b))
 ·rw[if_neg he];exact b2p L f hn (by lia) i g λk w b=>h k w (c.trans b)
def b3H(L:LtOk M A E s κ k0 ajj)(B:TB k0 ajj st)(hn:lo+nr<=ajj.size)(h1:1<=nr)
  (h:∀m z,Ar st z lo->1<=m->m<=nr->SR κ (arrOf z) lo m->Q (some m) z):wpS M A E s (countRun' lo nr) Q st:=by
 rw[a4g];refine fS (b2o L B hn (av 1) h1 SR.one λn e l b t=>?_);dsimp only
 by_cases hnn:n=nr
 ·rw[if_pos (by simpa using hnn)];exact fU (h n st (Ar.refl _ _) e l b)
 ·rw[if_neg (by simpa using hnn)];have d:=t.resolve_left hnn;have c:lo+n<=(arrOf st).size:=by rw[B.sz];lia
  by_cases hgt:n > 1
  ·rw[if_pos hgt];refine fS (a4Z L B (by lia) (by lia) ?_)
   by_cases q:Kk κ (arrOf st) lo<Kk κ (arrOf st) (lo+n-1)
   ·simp only[q,decide_true,if_true];exact fU (h n st (Ar.refl _ _) e l b)
   ·simp only[q,if_false];have a:∀k,lo<=k->k<lo+n->Kk κ (arrOf st) k=Kk κ (arrOf st) (lo+n-1):=λk y x=>by
     have g:=b 0 (k-lo) (by lia) (by lia);have f:=b (k-lo) (n-1) (by lia) (by lia);rw[show lo+(k-lo)=k by lia]at g f;rw[show lo+(n-1)=lo+n-1 by lia]at f;rw[dy]at g
     lia
    have o:Ar st _ lo:=Ar.mir c (av _);have u:NR κ (arrOf st) lo (n+1):=by
     refine NR.snoc (λi j p r=>?_) (by lia) (bO d);rw[a (lo+i) (by lia) (by lia),a (lo+j) (by lia) (by lia)];exact bS _
    exact b0Z (b2q L (o.tb B) hn (by lia) (u.congr (a25 c a)) λk w v=>h k w (o.trans v))
  ·rw[if_neg hgt]
   have:n=1:=by lia
   subst this;refine b2q L B hn (by lia) ?_ h;refine NR.snoc (λi j p r=>?_) (by lia) (bO d)
   have:i=j:=by lia
   rw[this];exact bS _
end
def a5U(i:Nat):jM i=(do
 let z <- get
 let (some (p,n,w),some (q,m,_)):=((fY z)[i]?,(fY z)[i+1]?) |hV "internal:list.sort.pending"
 set (iZ z (((fY z).setIfInBounds i (p,n+m,w)).eraseIdxIfInBounds (i+1)))
 let some k <- a1p false (<- elem' (arrOf z) q) (arrOf z) p n 0 |return false
 let (p,n):=(p+k,n-k)
 if n==0 then return true
 let some m <- a1p true (<- elem' (arrOf z) (p+n-1)) (arrOf z) q m (m-1) |return false
 if m==0 then return true
 let x:=(arrOf z).extract p q
 let y:=(arrOf z).extract q (q+m)
 let mg <- if n<=m then a4e x y else a4f x y
 modify λz=>setArr z (mg.toList.zipIdx.foldl (λa (v,j)=>a.setIfInBounds (p+j) v) (arrOf z))
 return (gA (<- get)).isNone):=rfl
def b00(bs:Nat):∀(l:List Keyed)(k:Nat)(xs:Array Keyed),bs+k+l.length<=xs.size ->
  ((l.zipIdx k).foldl (λa (pj:Keyed×Nat)=>a.setIfInBounds (bs+pj.2) pj.1) xs).toList=xs.toList.take (bs+k)++(l++xs.toList.drop (bs+k+l.length)):=by intro z0;induction z0 with
 |nil=>intro k xs _;simp
 |cons x l I0=>
  intro k xs h;rw[aI]at h;rw[eS,eT,I0 _ _ (by grind)];have e:(xs.setIfInBounds (bs+k) x).toList=xs.toList.set (bs+k) x:=by simp
  rw[e,show bs+_=bs+k+1 by lia,eU (by lia),aI,show bs+k+1+l.length=bs+k+(l.length+1) by lia]
  have:(xs.toList.set (bs+k) x).take (bs+k+1)=xs.toList.take (bs+k)++[x]:=by
   rw[bV,eV (av _),de (by grind)]
   rfl
  rw[this];simp
section
variable{M:Model}{A:Around}{E:Value->Shared->Prop}{s:Shared}{κ:KF}{k0:gI}{ajj:Array Keyed}{st:SortSt}
def b9b(h:Q ⟨⟩ z):wpS M A E s (set z:SM PUnit) Q st:=fP ⟨rfl,h⟩
def b2r(e:xs.toList=P++(X++R))(hi:i<X.length):Kk κ xs (P.length+i)=κ X[i]:=by
 refine a24 ?_;rw[e,cx (by simp),cy (by lia),show P.length+i-P.length=i by lia];exact aC hi
def a1O(h:Srt κ X)(hij:i<=j)(hj:j<X.length):κ (X[i]'(by omega))<=κ X[j]:=by
 by_cases e:i=j
 ·subst e;exact bS _
 ·exact bZ.mp h i j (by lia) hj (by lia)
def a6D{X:List Keyed}(h:x∈X):∃i,∃(hi:i<X.length),X[i]=x:=cH.mp h
def a42{X:List Keyed}(h:x∈X.take k):∃i,∃(hi:i<X.length),i<k/\X[i]=x:=by
 obtain⟨q,a,d⟩:=a1D h;obtain⟨b,c⟩:=az.mp d;exact⟨q,b,a,c⟩
def a6E{X:List Keyed}(h:x∈X.drop k):∃i,∃(hi:i<X.length),k<=i/\X[i]=x:=by
 obtain⟨q,b,e,d⟩:=a1C h;obtain⟨c,a⟩:=az.mp d;exact⟨q,c,b,a⟩
def a89(L:LtOk M A E s κ k0 ajj)(B:TB k0 ajj st)(e1:(fY st)[i]?=some (sa,na,pw))(e2:(fY st)[i+1]?=some (sb,nb,pw2))
  (ea:(arrOf st).toList=P++(X++(Y++S))) (hP:P.length=sa) (hX:X.length=na) (hsb:sb=sa+na) (hY:Y.length=nb) (sX:Srt κ X) (sY:Srt κ Y) (h1:0<na) (h2:0<nb)
  (h:∀st' Z,TB k0 ajj st'->(arrOf st').toList=P++(Z++S)->Z.length=na+nb->Srt κ Z->fY st'=((fY st).setIfInBounds i (sa,na+nb,pw)).eraseIdxIfInBounds (i+1)->Q true st'):wpS M A E s (jM i) Q st:=by
 have hsz:(arrOf st).size=sa+na+nb+S.length:=by
  rw[<- a0T,ea];simp;omega
 have hmem:∀p∈(arrOf st).toList,p∈ajj.toList:=λp hp=>(cP.mp B.pm).mem_iff.mp hp;have eb:(arrOf st).toList=(P++X)++(Y++S):=by rw[ea,aW]
 have kX:∀i,(hi:i<X.length)->Kk κ (arrOf st) (sa+i)=κ X[i]:=λi hi=>by rw[<- hP];exact b2r ea hi
 have kY:∀i,(hi:i<Y.length)->Kk κ (arrOf st) (sb+i)=κ Y[i]:=λi hi=>by
  rw[hsb,<- hP,<- hX,<- aJ];exact b2r eb hi
 rw[a5U];refine fS (gN ?_);rw[e1,e2];dsimp only;refine fS (b9b ?_);have B1:TB k0 ajj (iZ st (((fY st).setIfInBounds i (sa,na+nb,pw)).eraseIdxIfInBounds (i+1))):=⟨B.pm,B.kd,B.fl⟩;have hs1:arrOf (iZ st (((fY st).setIfInBounds i (sa,na+nb,pw)).eraseIdxIfInBounds (i+1)))=arrOf st:=rfl;have hp1:fY (iZ st (((fY st).setIfInBounds i (sa,na+nb,pw)).eraseIdxIfInBounds (i+1)))=((fY st).setIfInBounds i (sa,na+nb,pw)).eraseIdxIfInBounds (i+1):=rfl;generalize iZ st (((fY st).setIfInBounds i (sa,na+nb,pw)).eraseIdxIfInBounds (i+1))=st1 at B1 hs1 hp1;have hy0:sb<(arrOf st).size:=by omega
 have ey:(arrOf st)[sb]?=some (arrOf st)[sb]:=getElem?_pos ..;have hky:κ (arrOf st)[sb]=κ Y[0]:=by
  have:=kY 0 (by omega)
  rw[dy,a5S ey]at this;exact this
 have hmy:(arrOf st)[sb]∈ajj.toList:=hmem _ (by simp);refine fS (a0y ey (fS ?_));refine a1s L B1.kd hmy hmem (by omega) (by omega) (λp q hp hq=>by rw[kX p (by omega),kX q (by omega)];exact a1O sX hp (by omega)) λk hkn hlt hge=>?_;dsimp only;have lo:∀q,(hq:q<X.length)->q<k->κ X[q]<=κ Y[0]:=λq hq hqk=>by
  have:=hlt q hqk
  rw[kX q hq,hky]at this;simpa[bq]using this
 have up:∀q,(hq:q<X.length)->k<=q->κ Y[0]<κ X[q]:=λq hq hqk=>by
  have:=hge q hqk (by omega)
  rw[kX q hq,hky]at this;simpa[bq]using this
 have whole:(∀x∈X,∀y∈Y,κ x<=κ y)->Q true st1:=λhxy=>by
  refine h st1 (X++Y) B1 (by rw[hs1,ea,aW]) (by rw[aJ,hX,hY]) ?_ hp1;exact aT.mpr ⟨sX,sY,hxy⟩
 by_cases c1:na-k=0
 ·rw[if_pos (by simpa using c1)];refine fU (whole λx hx y hy=>?_);obtain⟨q,hq,rfl⟩:=a6D hx;obtain⟨r,hr,rfl⟩:=a6D hy;exact be (lo q hq (by omega)) (a1O sY (aR _) hr)
 rw[if_neg (by simpa using c1)];have hl:sa+k+(na-k)-1<(arrOf st).size:=by omega
 have ex:(arrOf st)[sa+k+(na-k)-1]?=some (arrOf st)[sa+k+(na-k)-1]:=getElem?_pos ..;have hkx:κ (arrOf st)[sa+k+(na-k)-1]=κ X[na-1]:=by
  have:=kX (na-1) (by omega)
  rw[show sa+(na-1)=sa+k+(na-k)-1 by omega,a5S ex]at this;exact this
 have hmx:(arrOf st)[sa+k+(na-k)-1]∈ajj.toList:=hmem _ (by simp);refine fS (a0y ex (fS ?_));refine a1s L B1.kd hmx hmem (by omega) (by omega) (λp q hp hq=>by rw[kY p (by omega),kY q (by omega)];exact a1O sY hp (by omega)) λm hmn hlt2 hge2=>?_;dsimp only;have lo2:∀q,(hq:q<Y.length)->q<m->κ Y[q]<κ X[na-1]:=λq hq hqk=>by
  have:=hlt2 q hqk
  rw[kY q hq,hkx]at this;simpa[bq]using this
 have up2:∀q,(hq:q<Y.length)->m<=q->κ X[na-1]<=κ Y[q]:=λq hq hqk=>by
  have:=hge2 q hqk (by omega)
  rw[kY q hq,hkx]at this;simpa[bq]using this
 by_cases c2:m=0
 ·rw[if_pos (by simpa using c2)];refine fU (whole λx hx y hy=>?_);obtain⟨q,hq,rfl⟩:=a6D hx;obtain⟨r,hr,rfl⟩:=a6D hy;exact be (a1O sX (by omega) (by omega)) (up2 r hr (by omega))
 rw[if_neg (by simpa using c2)];have lx:((arrOf st).extract (sa+k) sb).toList=X.drop k:=by
  rw[eW,du,ea,dW,<- hP,cR (by omega),cT,show P.length+k-P.length=k by omega,eX (by omega),dz (by rw[bj];omega),bY (by rw[bj];omega)]
 have ly:((arrOf st).extract sb (sb+m)).toList=Y.take m:=by
  rw[eW,du,eb,dW,cR (by rw[aJ];omega),cT,show sb-(P++X).length=0 by rw[aJ];omega,List.drop_zero,dz (by omega),show sb+m-sb=m by omega]
 have C:MC M A E s κ k0 ajj ((arrOf st).extract (sa+k) sb) ((arrOf st).extract sb (sb+m)):=by
  refine⟨L,λp hp=>?_,λp hp=>?_,?_,?_,?_,?_,λy hy=>?_,λz hz y hy=>?_⟩
  ·rw[lx]at hp;exact hmem p (by rw[ea];simp[dR hp])
  ·rw[ly]at hp;exact hmem p (by rw[ea];simp[bf hp])
  ·rw[lx];exact a0W sX k
  ·rw[ly];exact a1g sY m
  ·rw[<- a0T,lx,bj];omega
  ·rw[<- a0T,ly,aK];omega
  ·rw[lx]at hy;obtain⟨q,hq,hk,rfl⟩:=a6E hy;rw[a24 (z:=Y[0]) (by rw[ly,dw,if_pos (by omega)];exact aC _)];exact bO (up q hq hk)
  ·rw[ly]at hy;rw[lx,bj,cE,show k+(X.length-k-1)=na-1 by omega,aC (show na-1<X.length by omega)]at hz;cases hz;obtain⟨q,hq,hk,rfl⟩:=a42 hy;exact bO (lo2 q hq hk)
 have fin:∀(r:Array Keyed)(st2:SortSt),SG st1 st2->Mgd κ ((arrOf st).extract (sa+k) sb).toList ((arrOf st).extract sb (sb+m)).toList r.toList ->
   wpS M A E s (do
    modify λz=>setArr z (r.toList.zipIdx.foldl (λa (pj:Keyed×Nat)=>a.setIfInBounds (sa+k+pj.2) pj.1) (arrOf z))
    return (gA (<- get)).isNone) Q st2:=by
  intro r st2 g2 mg;rw[lx,ly]at mg;have hrl:r.toList.length=na-k+m:=by rw[mg.1.length_eq,aJ,bj,aK];omega
  refine fS (gJ (fS (gN (fU ?_))));have ha2:arrOf st2=arrOf st:=g2.ar.trans hs1;have ef:=b00 (sa+k) r.toList 0 (arrOf st2) (by rw[ha2];omega);have el:(r.toList.zipIdx.foldl (λa (pj:Keyed×Nat)=>a.setIfInBounds (sa+k+pj.2) pj.1) (arrOf st2)).toList=P++((X.take k++r.toList++Y.drop m)++S):=by
   rw[ef,ha2,dy,hrl];have t1:(arrOf st).toList.take (sa+k)=P++X.take k:=by
    rw[ea,List.take_append,bY (by omega),<- hP,show P.length+k-P.length=k by omega,dz (by omega)]
   have t2:(arrOf st).toList.drop (sa+k+(na-k+m))=Y.drop m++S:=by
    rw[eb,dW,cR (by rw[aJ];omega),cT,show sa+k+(na-k+m)-(P++X).length=m by rw[aJ];omega,eX (by omega)]
   rw[t1,t2];simp
  generalize hgz:r.toList.zipIdx.foldl (λa (pj:Keyed×Nat)=>a.setIfInBounds (sa+k+pj.2) pj.1) (arrOf st2)=ar at el;have hperm:(X.take k++r.toList++Y.drop m).Perm (X++Y):=by
   have:(X.take k++r.toList++Y.drop m).Perm (X.take k++(X.drop k++Y.take m)++Y.drop m):=(aV.append_left _ mg.1).append_right _
   refine this.trans ?_;have e:X.take k++(X.drop k++Y.take m)++Y.drop m=X++Y:=by
    rw[<- aW,cU,aW,cU]
   rw[e]
  have pm:ar.Perm (arrOf st):=by
   rw[cP,el,ea];refine aV.append_left _ ?_;rw[<- aW (as:=X)];exact hperm.append_right _
  have hfl:gA (setArr st2 ar)=none:=g2.fl.trans B1.fl;have B2:TB k0 ajj (setArr st2 ar):=⟨pm.trans B.pm,g2.kd.trans B1.kd,hfl⟩;rw[hfl];refine h _ _ B2 el (by rw[hperm.length_eq,aJ,hX,hY]) ?_ (g2.pe.trans hp1);have hr:∀w∈r.toList,w∈X.drop k\/w∈Y.take m:=λw hw=>au.mp (mg.1.mem_iff.mp hw);refine aT.mpr ⟨aT.mpr ⟨a1g sX k,mg.2,λx hx w hw=>?_⟩,a0W sY m,λx hx y hy=>?_⟩
  ·obtain⟨q,hq,hk,rfl⟩:=a42 hx;rcases hr w hw with hw |hw
   ·obtain⟨p,hp,hk2,rfl⟩:=a6E hw;exact a1O sX (by omega) hp
   ·obtain⟨p,hp,hk2,rfl⟩:=a42 hw;exact be (lo q hq hk) (a1O sY (aR _) hp)
  ·obtain⟨p,hp,hk2,rfl⟩:=a6E hy;rcases au.mp hx with hx |hx
   ·obtain⟨q,hq,hk,rfl⟩:=a42 hx;exact be (lo q hq hk) (a1O sY (aR _) hp)
   ·rcases hr x hx with hx |hx
    ·obtain⟨q,hq,hk,rfl⟩:=a6E hx;exact be (a1O sX (by omega) (by omega)) (up2 p hp hk2)
    ·obtain⟨q,hq,hk,rfl⟩:=a42 hx;exact a1O sY (by omega) hp
 split
 ·exact fS (a86 C B1.kd λr st2 g2 mg=>fin r st2 g2 mg)
 ·exact fS (a87 C B1.kd λr st2 g2 mg=>fin r st2 g2 mg)
end
noncomputable def pr(p:Nat×Nat×Nat):Nat×Nat:=(p.1,p.2.1)
noncomputable def offs:Nat->List (List Keyed)->List (Nat×Nat)
 |_,[]=>[]
 |o,R::Rs=>(o,R.length)::offs (o+R.length) Rs
def a1E:∀(o:Nat)(U V:List (List Keyed)),offs o (U++V)=offs o U++offs (o+U.flatten.length) V:=by intro z0 y0;induction y0 generalizing z0 with
 |nil=>intro V;simp[offs]
 |cons R U I0=>
  intro V;rw[cV,offs,offs,I0,cV,eY,aJ,cI]
def a1h:∀(o:Nat)(U:List (List Keyed)),(offs o U).length=U.length:=by intro z0 y0;induction y0 generalizing z0 with
 |nil=>exact rfl
 |cons R U I0=>rw[offs,aI,aI,I0]
def a9a{α:Type}{q p1 p2:α}{pv:List α}:∀pu:List α,((pu++p1::p2::pv).set pu.length q).eraseIdx (pu.length+1)=pu++q::pv:=by intro z0;induction z0 with
 |nil=>exact rfl
 |cons x pu I0=>rw[cV,aI,List.set_cons_succ,dX,I0,cV]
theorem a43{α β:Type}{f:α->β}:∀(l:List α)(k:Nat),(l.map f).eraseIdx k=(l.eraseIdx k).map f
 |[],_=>by simp
 |x::l,0=>by simp
 |x::l,k+1=>by rw[aF,dX,dX,aF,a43 l k]
def b01:∀{Rs:List (List Keyed)},(∀R∈Rs,R≠[])->Rs.length<=Rs.flatten.length:=by intro z0;induction z0 with
 |nil=>intro _;simp
 |cons R Rs I0=>
  intro h
  have:=I0 λR a=>h R (.tail _ a)
  have b:=cJ.mpr (h R (.head _));rw[eY,aJ,aI]
  lia
def Runs(κ:KF)(st:SortSt)(lo:Nat)(rest:List Keyed):Prop:=∃Rs:List (List Keyed),(arrOf st).toList=Rs.flatten++rest/\(∀R∈Rs,Srt κ R/\R≠[])/\Rs.flatten.length=lo/\(fY st).toList.map pr=offs 0 Rs
section
variable{M:Model}{A:Around}{E:Value->Shared->Prop}{s:Shared}{κ:KF}{k0:gI}{ajj:Array Keyed}{st:SortSt}
def a1F{i lo:Nat}(L:LtOk M A E s κ k0 ajj)(B:TB k0 ajj st)(R:Runs κ st lo rest)(hi:i+1<(fY st).size)
  (h:∀st',TB k0 ajj st'->Runs κ st' lo rest->(fY st').size+1=(fY st).size->Q true st'):wpS M A E s (jM i) Q st:=by
 obtain⟨Rs,t,f,r,b⟩:=R;have m:(fY st).size=Rs.length:=by
  have:=congrArg aX b
  rw[aq,a1h]at this;simpa using this
 obtain⟨U,X,Y,V,rfl,D⟩:∃U X Y V,Rs=U++X::Y::V/\U.length=i:=by
  refine⟨Rs.take i,Rs[i]'(by lia),Rs[i+1]'(by lia),Rs.drop (i+2),?_,by rw[aK];lia⟩;rw[<- cQ,<- cQ,cU]
 have n:=f X (by simp);have q:=f Y (by simp);rw[a1E]at b;simp only[offs,cm]at b;have k:∀(j:Nat)(x:Nat×Nat),(offs 0 U++_::_::offs _ V)[j]?=some x->∃w,(fY st)[j]?=some (x.1,x.2,w):=λj x d=>by
  rw[<- b,aA]at d;rw[<- bP];cases e:(fY st).toList[j]? with
  |none=>rw[e]at d;cases d
  |some p=>
   rw[e]at d;cases d;exact⟨p.2.2,rfl⟩
 have c:(offs 0 U).length=i:=by rw[a1h,D]
 obtain⟨J,G⟩:=k i _ (by rw[cx (by lia),c,Nat.sub_self];rfl);obtain⟨I,y⟩:=k (i+1) (U.flatten.length+X.length,Y.length) (by simp_all);have C:(arrOf st).toList=U.flatten++(X++(Y++(V.flatten++rest))):=by rw[t];simp
 refine a89 L B G y C rfl rfl rfl rfl n.1 q.1 (cJ.mpr n.2) (cJ.mpr q.2) λl Z H F o v u=>?_;have g:(fY l).toList.map pr=offs 0 (U++Z::V):=by
  rw[u,Array.toList_eraseIdxIfInBounds,eZ,<- a43,List.map_set,b,<- c,a9a,a1E];simp only[offs,cm,pr];rw[o,cI]
 refine h l H ⟨U++Z::V,by rw[F];simp,λR a=>?_,?_,g⟩ ?_
 ·rcases au.mp a with a |a
  ·exact f R (by simp[a])
  ·rcases ax.mp a with rfl |a
   ·exact⟨v,λz=>by rw[z]at o;have:=cJ.mpr n.2;simp at o;lia⟩
   ·exact f R (by simp[a])
 ·rw[<- r];simp
  lia
 ·grind
def Runs.ar{lo n:Nat}(R:Runs κ st lo rest)(q:Ar st st' lo)(hs:SR κ (arrOf st') lo n)(hn:lo+n<=(arrOf st').size)(h1:1<=n):∃X rest',Srt κ X/\X.length=n/\Runs κ st' lo (X++rest'):=by
 obtain⟨Rs,g,f,c,e⟩:=R;have b:(arrOf st').toList.take lo=Rs.flatten:=by
  refine dY λi=>?_
  by_cases a:i<lo
  ·rw[dw,if_pos a,bP,q.pre i a,<- bP,g,cy (by lia)]
  ·grind
 refine⟨((arrOf st').toList.drop lo).take n,((arrOf st').toList.drop lo).drop n,?_,by rw[aK,bj,a0T];lia,Rs,?_,f,c,by rw[q.pe];exact e⟩
 ·refine bZ.mpr λi j a d k=>?_;rw[aK,bj,a0T]at a d
  have:=hs i j (by lia) (by lia)
  rw[a0J _,a0J _]at this;simpa using this
 ·rw[cU,<- b,cU]
def Runs.push{lo n:Nat}(R:Runs κ st lo (X++rest))(sX:Srt κ X)(hX:X.length=n)(h1:1<=n)(ha:arrOf st'=arrOf st)(hp:(fY st').toList.map pr=(fY st).toList.map pr++[(lo,n)]):Runs κ st' (lo+n) rest:=by
 obtain⟨Rs,e,d,b,c⟩:=R;refine⟨Rs++[X],by rw[ha,e];simp,λR a=>?_,by simp[b,hX],?_⟩
 ·rcases au.mp a with a |a
  ·exact d R a
  ·rw[ay.mp a];exact⟨sX,λz=>by rw[z]at hX;simp at hX;lia⟩
 ·rw[hp,c,a1E,cm,b];simp[offs,hX]
def t_sortRuns(L:LtOk M A E s κ k0 ajj)(B:TB k0 ajj st)(hp:fY st=#[])
  (h:∀st',TB k0 ajj st'->Srt κ (arrOf st').toList->Q () st'):wpS M A E s sortRuns' Q st:=by
 rw[sortRuns'_eq];refine fS (gN ?_);dsimp only;rw[B.sz];generalize minRun' ajj.size ajj.size 0=mr;refine fS (gC (gk (I:=λx c z=>∃d e,c=(none,d)/\TB k0 ajj z/\Runs κ z d e/\x<=d)
  (Q:=λc z=>∃d e,c=(none,d)/\TB k0 ajj z/\Runs κ z d e/\ajj.size<=d) ?step ?fin ⟨0,(arrOf st).toList,rfl,B,⟨[],by simp,λR h=>by simp at h,rfl,by rw[hp];rfl⟩,av _⟩) ?post)
 case fin=>
  rintro c z ⟨d,e,rfl,t,u,hx⟩;exact⟨d,e,rfl,t,u,by lia⟩
 case step=>
  rintro x c z _ hx ⟨d,e,rfl,t,u,hxl⟩;dsimp only
  by_cases c1:d>=ajj.size
  ·rw[if_pos c1];exact fU ⟨d,e,rfl,t,u,c1⟩
  rw[if_neg c1];refine fS (b3H L t (by lia) (by lia) λm z2 Y m1 m2 m3=>?_);dsimp only
  by_cases c2:m<mr
  ·rw[if_pos c2];refine a3H (fS (b0Y L (Y.tb t) (by lia) (by lia) m3 λS C D=>?_));rw[if_neg (by decide)];have C:=Y.trans C;have v:1<=min (ajj.size-d) mr:=by lia
   have V:d+min (ajj.size-d) mr<=ajj.size:=by lia
   generalize min (ajj.size-d) mr=n at v V D ⊢;have r:=C.tb t;obtain⟨X,f,J,G,R3⟩:=u.ar C D (by rw[r.sz];lia) v;refine fS (gN ?_);cases hb:(fY S).back? with
   |none=>
    dsimp only;exact fS (gJ (fU ⟨d+n,f,rfl,⟨r.pm,r.kd,r.fl⟩,R3.push J G v rfl (by show (((fY S).push (d,n,0)).toList).map pr=_;rw[bo,aG];rfl),by lia⟩))
   |some p=>
    obtain⟨w,o,w1⟩:=p;dsimp only;generalize power' ajj.size (2*w+o) (2*w+o+o+n) ajj.size=pw;refine fS (gC (gk (I:=λ_ c y=>c=(none,())/\TB k0 ajj y/\Runs κ y d (X++f)) ?w (λ_ _ hh=>hh) ⟨rfl,r,R3⟩) ?p1)
    case w=>
     rintro x c y _ _ ⟨rfl,g,j⟩;refine fS (gN ?_)
     by_cases hgt:(fY y).size > 1
     ·rw[if_pos hgt];have eo:(fY y)[(fY y).size-2]?=some (fY y)[(fY y).size-2]:=getElem?_pos ..;rw[eo];dsimp only
      split
      ·exact fU ⟨rfl,g,j⟩
      ·refine fS (a1F L g j (by lia) λy2 N H _=>?_);rw[if_neg (by decide)];exact fU ⟨rfl,N,H⟩
     ·rw[if_neg hgt];exact fU ⟨rfl,g,j⟩
    case p1=>
     rintro c y ⟨rfl,g,j⟩;dsimp only;refine fS (gJ (fS (gJ (fU ⟨d+n,f,rfl,⟨g.pm,g.kd,g.fl⟩,j.push J G v rfl ?_,by lia⟩))));have em:∀(q:Array (Nat×Nat×Nat))(k:Nat),(q.modify k λ(a,b,_)=>(a,b,pw)).toList.map pr=q.toList.map pr:=λq k=>by
      refine dY λi=>?_;rw[aA,aA,bP,bP,e7]
      split
      ·cases q[i]? with
       |none=>rfl
       |some p=>rfl
      ·rfl
     rw[bo,aG,em]
     rfl
  ·rw[if_neg c2];have V:d+m<=ajj.size:=by lia
   have v:=m1;have D:=m3;have C:=Y;generalize m=n at v V D ⊢;generalize z2=S at C D ⊢;have r:=C.tb t;obtain⟨X,f,J,G,R3⟩:=u.ar C D (by rw[r.sz];lia) v;refine fS (gN ?_);cases hb:(fY S).back? with
   |none=>
    dsimp only;exact fS (gJ (fU ⟨d+n,f,rfl,⟨r.pm,r.kd,r.fl⟩,R3.push J G v rfl (by show (((fY S).push (d,n,0)).toList).map pr=_;rw[bo,aG];rfl),by lia⟩))
   |some p=>
    obtain⟨w,o,w1⟩:=p;dsimp only;generalize power' ajj.size (2*w+o) (2*w+o+o+n) ajj.size=pw;refine fS (gC (gk (I:=λ_ c y=>c=(none,())/\TB k0 ajj y/\Runs κ y d (X++f)) ?w (λ_ _ hh=>hh) ⟨rfl,r,R3⟩) ?p1)
    case w=>
     rintro x c y _ _ ⟨rfl,g,j⟩;refine fS (gN ?_)
     by_cases hgt:(fY y).size > 1
     ·rw[if_pos hgt];have eo:(fY y)[(fY y).size-2]?=some (fY y)[(fY y).size-2]:=getElem?_pos ..;rw[eo];dsimp only
      split
      ·exact fU ⟨rfl,g,j⟩
      ·refine fS (a1F L g j (by lia) λy2 N H _=>?_);rw[if_neg (by decide)];exact fU ⟨rfl,N,H⟩
     ·rw[if_neg hgt];exact fU ⟨rfl,g,j⟩
    case p1=>
     rintro c y ⟨rfl,g,j⟩;dsimp only;refine fS (gJ (fS (gJ (fU ⟨d+n,f,rfl,⟨g.pm,g.kd,g.fl⟩,j.push J G v rfl ?_,by lia⟩))));have em:∀(q:Array (Nat×Nat×Nat))(k:Nat),(q.modify k λ(a,b,_)=>(a,b,pw)).toList.map pr=q.toList.map pr:=λq k=>by
      refine dY λi=>?_;rw[aA,aA,bP,bP,e7]
      split
      ·cases q[i]? with
       |none=>rfl
       |some p=>rfl
      ·rfl
     rw[bo,aG,em]
     rfl
 case post=>
  rintro c z ⟨d,e,rfl,t,u,hlo⟩;dsimp only;have hsz:∀y,Runs κ y d e->(fY y).size<=d:=by
   rintro y ⟨Rs,T,F,e3,U⟩;have l:=congrArg aX U;rw[aq,a1h]at l;have h2:=b01 λR hR=>(F R hR).2;simp at l
   lia
  have W:d=ajj.size:=by
   obtain⟨Rs,T,F,e3,U⟩:=u
   have:=congrArg aX T
   rw[a0T,t.sz,aJ]at this
   lia
  subst W;refine fS (gC (gk (I:=λx c y=>c=(none,())/\TB k0 ajj y/\Runs κ y ajj.size e/\((fY y).size<=1\/(fY y).size+x<=ajj.size)) (Q:=λc y=>c=(none,())/\TB k0 ajj y/\Runs κ y ajj.size e/\(fY y).size<=1) ?s2 ?f2 ⟨rfl,t,u,.inr (hsz z u)⟩) ?p2)
  case f2=>
   rintro c y ⟨rfl,g,j,hc⟩;exact⟨rfl,g,j,by lia⟩
  case s2=>
   rintro x c y _ hx ⟨rfl,g,j,hc⟩;refine fS (gN ?_)
   by_cases l:(fY y).size<=1
   ·rw[if_pos l];exact fU ⟨rfl,g,j,l⟩
   ·rw[if_neg l];refine fS (a1F L g j ?_ λy2 N H hy2=>?_)
    ·repeat' split
     all_goals lia
    ·rw[if_neg (by decide)];exact fU ⟨rfl,N,H,.inr (by lia)⟩
  case p2=>
   rintro c y ⟨rfl,g,j,hc⟩;obtain⟨Rs,T,F,e3,U⟩:=j;have l:=congrArg aX U;rw[aq,a1h]at l;have h2:=congrArg aX T;rw[a0T,g.sz,aJ,e3]at h2;have hr:e=[]:=b8.mp (by lia);refine fU (h y g ?_);rw[T,hr,a9]
   match Rs,F,l with
   |[],_,_=>exact .nil
   |[R],F,_=>simpa using (F R (by simp)).1
   |_::_::_,_,l=>simp at l;lia
end
abbrev kN:KF:=λp=>numOf p.1
def b6F(xs:Array Keyed)(i:Nat):K xs i=Kk kN xs i:=rfl
def srt_to(h:Srt kN xs.toList)(hn:n=xs.size):SortedTo xs n:=λi j a b=>by
 rw[b6F,b6F]
 have:=a1M (i:=0) h (n:=xs.size) (by simp) i j a (by lia)
 simpa using this
section
variable{prog:fV}{w:World}{A:Around}{E:Value->Shared->Prop}{s:Shared}{ajj:Array Keyed}
def lt_ints(h0:IntKeys ajj):LtOk (model prog w) A E s kN oneType' ajj:=λx y c d g Q e h=>by
 obtain⟨n,t,b⟩:=h0 x c;obtain⟨m,u,a⟩:=h0 y d;have f:Q (some (decide (n<m))) g:=by
  have:kN x<kN y↔n<m:=by show numOf x.1<numOf y.1↔n<m;rw[b,a];rfl
  rw[decide_eq_decide.mpr this]at h;exact h
 rw[lt'_eq];refine fS (gN ?_);rw[e,keyLt'_oneType,b,a];exact fS (wpS_lift (h9 (oneLt_int ⟨rfl,fU f⟩)))
end
section
variable{prog:fV}{w:World}{A:Around}{E:Value->Shared->Prop}{s:Shared}{κ:KF}{k0:gI}
noncomputable def a5V(h:Heap)(a:Addr)(vs:List Value):Heap:=((h.update a (Obj.mapSeq λ_=>#[])).push (seqObj "tuple" vs.toArray 0)).push (seqObj "list" #[] 0)
def b3I(ho:s.heap.get? a=some (seqObj "list" vs.toArray n))(hz:vs.length<=100000)
  (hK:2<=vs.length->∀Q:gI->Shared->Prop,Q k0 { s with heap:=a5V s.heap a vs }->wpAny (model prog w) A (keyKind' vs.toArray) Q E { s with heap:=a5V s.heap a vs })
  (hL:2<=vs.length->LtOk (model prog w) A E { s with heap:=a5V s.heap a vs } κ k0 (iC vs))
  (h:∀ps:List Keyed,ps.Perm (iC vs).toList->Srt κ ps->P (.done (.ret .none)) { s with heap:=sortedHeap s.heap a vs (ps.map (·.2)).toArray }):wpAny (model prog w) A (fX.«list.sort» ⟨[.ref a],[]⟩) P E s:=by
 have i:vs.length<=sizeLine:=by rw[f8];lia
 have o:vs.toArray.size<=sizeLine:=by simpa using i
 have t:=Heap.lt_size ho;rw[list_sort_plain];refine fO (jN ho rfl (fO (ip ho rfl ?_ o (by simp))));obtain⟨u,m⟩:∃u,(s.heap.update a (Obj.mapSeq λ_=>#[])).get? a=some (seqObj "list" #[] u):=⟨_,get?_update_seq ho λ_=>#[]⟩;refine fO (i5 m rfl (fO (iE ?_ (by simpa using i))));refine fO (i6 (gh ?_));have g:(((s.heap.update a (Obj.mapSeq λ_=>#[])).push (seqObj "tuple" vs.toArray 0)).push (seqObj "list" #[] 0)).get? a=some (seqObj "list" #[] u):=by
  rw[Heap.get?_push_ne,Heap.get?_push_ne]
  ·exact m
  ·rw[Heap.size_update];exact aE t
  ·rw[jp,Heap.size_update];exact aE (cD t)
 dsimp only;have f:=λy p q=>by
  have:=h (arrOf y).toList (cP.mp p) q
  rw[<- Array.toList_map,e8]at this;exact this
 have b:∀y:SortSt,(arrOf y).Perm (iC vs)->((arrOf y).map (·.2)).size<=fR+1:=λy p=>by
  rw[dA,p.size_eq,pairsOf_size];lia
 by_cases c:vs.toArray.size<2
 ·rw[if_pos c,if_pos c];refine fO (fP ?_);rw[StateT.run_pure];refine fO (fP ?_);dsimp only;have x:(arrOf (SortSt.mk' general' _ #[] 7 none)).Perm (iC vs):=cS.refl _;refine fO (i5 g rfl (fO (ip g rfl ?_ (by simp) (b _ x))));simp only[bne_self_eq_false,cG,if_false];refine fP (f _ x ?_)
  show Srt κ (iC vs).toList
  rw[pairsOf_toList]
  have:vs.length<2:=by simpa using c
  match vs,this with
  |[],_=>exact .nil
  |[v],_=>exact dO _ _
 ·rw[if_neg c,if_neg c];have r:2<=vs.length:=by simpa using c
  refine fO (hK r _ ?_);refine fO (f9 (t_sortRuns
   (Q:=λ_ y=>(arrOf y).Perm (iC vs)/\gA y=none/\Srt κ (arrOf y).toList) (hL r) ⟨cS.refl _,rfl,rfl⟩ rfl λy d j=>⟨d.pm,d.fl,j⟩) ?_ λ_ _ e=>e)
  rintro⟨⟨⟩,y⟩ l ⟨rfl,d,j,q3⟩;dsimp only;refine fO (i5 g rfl (fO (ip g rfl ?_ (by simp) (b y d))));rw[j];simp only[bne_self_eq_false,cG,if_false];exact fP (f y d q3)
def sort_any(ho:s.heap.get? a=some (seqObj "list" vs.toArray n))(hI:gj vs ns)(hz:vs.length<=1000)
  (h:∀(out:Array Value)(ms:List Int),gj out.toList ms->ms.Perm ns->ms.Pairwise (·<=·)->P (.done (.ret .none)) { s with heap:=sortedHeap s.heap a vs out }):wpAny (model prog w) A (fX.«list.sort» ⟨[.ref a],[]⟩) P E s:=by
 refine b3I ho (by omega) (λc Q g=>?_) (λ_=>lt_ints hI.intKeys) λj p q=>?_
 ·match vs,c with
  |v1::v2::vr,_=>rw[keyKind_ints hI];exact fP g
 ·have b:=cP.mpr p;obtain⟨e,i,d,f⟩:=sorted_out hI b (srt_to q b.size_eq.symm)
  have:=h _ e i d f
  simpa using this
end
end Tim
namespace Tim
open PySem PyProof.Rows PySem.W
abbrev Pz:=Sum (Option Int) Str
def PtIs:Pz->Value->Prop
 |.inl none,v=>v=.none
 |.inl (some i),v=>∃t,v=.int i t
 |.inr s,v=>∃t,v=.str s t
def PtsAre:List Pz->List Value->Prop
 |[],[]=>True
 |x::xs,v::vs=>PtIs x v/\PtsAre xs vs
 |_,_=>False
noncomputable def lt1:Pz->Pz->Bool
 |.inl (some i),.inl (some j)=>decide (i<j)
 |.inr a,.inr b=>decide (a.cps.toList<b.cps.toList)
 |_,_=>false
noncomputable def ltT:List Pz->List Pz->Bool
 |x::xs,y::ys=>if x=y then ltT xs ys else lt1 x y
 |_,_=>false
noncomputable def rk(rows:List (List Pz))(x:List Pz):Nat:=rows.countP λq=>ltT q x
def RowIn(h:Heap)(v:Value)(xs:List Pz):Prop:=∃a o its n,v=.ref a/\h.get? a=some o/\o.cls=.type "tuple"/\o.data=.seq its n/\PtsAre xs its.toList
def PtIs.uniq:∀{x y:Pz}{v:Value},PtIs x v->PtIs y v->x=y:=by
 intro x y v h k;rcases x with (_ |i) |a
 ·rw[h]at k;rcases y with (_ |j) |b
  ·rfl
  ·obtain⟨_,k⟩:=k;cases k
  ·obtain⟨_,k⟩:=k;cases k
 ·obtain⟨t,rfl⟩:=h;rcases y with (_ |j) |b
  ·cases k
  ·obtain⟨_,k⟩:=k;cases k;rfl
  ·obtain⟨_,k⟩:=k;cases k
 ·obtain⟨t,rfl⟩:=h;rcases y with (_ |j) |b
  ·cases k
  ·obtain⟨_,k⟩:=k;cases k
  ·obtain⟨_,k⟩:=k;cases k;rfl
theorem PtsAre.uniq:∀{xs ys:List Pz}{vs:List Value},PtsAre xs vs->PtsAre ys vs->xs=ys
 |[],[],[],_,_=>rfl
 |x::xs,y::ys,v::vs,⟨a,b⟩,⟨c,d⟩=>by rw[a.uniq c,PtsAre.uniq b d]
 |[],_::_,[],_,h=>h.elim
 |[],_,_::_,h,_=>h.elim
 |_::_,_,[],h,_=>h.elim
 |_::_,[],_::_,_,h=>h.elim
def RowIn.uniq(r:RowIn h v xs)(q:RowIn h v ys):xs=ys:=by
 obtain⟨a,o,k,n,rfl,j,_,g,d⟩:=r;obtain⟨p,m,f,l,e,b,_,c,i⟩:=q;cases e;rw[j]at b;cases b;rw[g]at c;cases c;exact d.uniq i
open Classical in
noncomputable def b02(h:Heap)(v:Value):List Pz:=if e:∃xs,RowIn h v xs then e.choose else []
def b03(r:RowIn h v xs):b02 h v=xs:=by
 unfold b02;have e:∃xs,RowIn h v xs:=⟨xs,r⟩;rw[dif_pos e];exact e.choose_spec.uniq r
noncomputable def kT(h:Heap)(rows:List (List Pz)):KF:=λp=>(rk rows (b02 h p.1):Int)
section
variable{prog:fV}{w:World}{A:Around}{E:Value->Shared->Prop}{s:Shared}{ajj:Array Keyed}{b:Bool}{Q:Bool->Shared->Prop}
end
def RowsIn(h:Heap):List Value->List (List Pz)->Prop
 |[],[]=>True
 |v::vs,x::xs=>RowIn h v x/\RowsIn h vs xs
 |_,_=>False
theorem RowsIn.len:∀{vs:List Value}{rows:List (List Pz)},RowsIn h vs rows->vs.length=rows.length
 |[],[],_=>rfl
 |_::_,_::_,⟨_,r⟩=>by rw[aI,aI,RowsIn.len r]
 |[],_::_,r=>r.elim
 |_::_,[],r=>r.elim
theorem RowsIn.mem:∀{vs:List Value}{rows:List (List Pz)},RowsIn h vs rows->∀v∈vs,∃x∈rows,RowIn h v x
 |v::vs,x::xs,⟨r,q⟩,u,hu=>by
  rcases ax.mp hu with rfl |hu
  ·exact⟨x,.head _,r⟩
  ·obtain⟨y,b,a⟩:=q.mem u hu;exact⟨y,.tail _ b,a⟩
 |[],[],_,u,hu=>by simp at hu
 |[],_::_,r,_,_=>r.elim
 |_::_,[],r,_,_=>r.elim
theorem RowsIn.map:∀{vs:List Value}{rows:List (List Pz)},RowsIn h vs rows->vs.map (b02 h)=rows
 |[],[],_=>rfl
 |v::vs,x::xs,⟨r,q⟩=>by rw[aF,b03 r,q.map]
 |[],_::_,r=>r.elim
 |_::_,[],r=>r.elim
section
variable{prog:fV}{w:World}{A:Around}{E:Value->Shared->Prop}{s:Shared}
end
end Tim
namespace SetW
open PySem
def Up(xs:Array Nat):Prop:=xs.toList.Pairwise (·<·)
structure TOk (led:Bool) (t:fQ):Prop where
 up:Up t.place
 dm:t.dummies=#[]
 ld:t.led=led
def b04(h:Up xs)(hij:i<j)(hj:j<xs.size):xs[i]'(by omega)<xs[j]:=by
 have:=bZ.mp h i j (by simp;omega) (by omega) hij
 simpa using this
def b05(h:Up xs)(j:Nat):∀(fuel lo hi:Nat),hi-lo<=fuel->lo<=hi->hi<=xs.size->(∀i,(hi':i<xs.size)->i<lo->xs[i]<j)->(∀i,(hi':i<xs.size)->hi<=i->j<=xs[i]) ->
  fQ.below.go xs j fuel lo hi<=xs.size/\(∀i,(hi':i<xs.size)->i<fQ.below.go xs j fuel lo hi->xs[i]<j)/\(∀i,(hi':i<xs.size)->fQ.below.go xs j fuel lo hi<=i->j<=xs[i]):=by intro z0;induction z0 with
 |zero=>
  intro lo hi hf h1 h2 h3 h4
  have:lo=hi:=by lia
  subst this;unfold fQ.below.go;exact⟨h2,h3,h4⟩
 |succ fuel I0=>
  intro lo hi hf h1 h2 h3 h4;unfold fQ.below.go
  split
  ·next hlt=>
   have b:(lo+hi) / 2<xs.size:=by lia
   have f:xs.getD ((lo+hi) / 2) j=xs[(lo+hi) / 2]:=by simp[Array.getD,b]
   dsimp only;rw[f]
   split
   ·next c=>
    refine I0 _ _ (by lia) (by lia) h2 (λi a d=>?_) h4
    by_cases e:i=(lo+hi) / 2
    ·subst e;exact c
    ·exact cO (b04 h (by lia) b) c
   ·next c=>
    refine I0 _ _ (by lia) (by lia) (by lia) h3 λi a d=>?_
    by_cases e:i=(lo+hi) / 2
    ·subst e;lia
    ·have:=b04 h (show (lo+hi) / 2<i by lia) a;lia
  ·next hlt=>
   have:lo=hi:=by lia
   subst this;exact⟨h2,h3,h4⟩
def a6F(h:Up xs)(j:Nat):fQ.below xs j<=xs.size/\(∀i,(hi':i<xs.size)->i<fQ.below xs j->xs[i]<j)/\(∀i,(hi':i<xs.size)->fQ.below xs j<=i->j<=xs[i]):=
 b05 h j xs.size 0 xs.size (by simp) (by simp) (av _) nofun λi b a=>by lia
def a5W{α:Type}{xs:Array α}{x:α}:(fQ.insertAt xs p x).toList=xs.toList.take p++x::xs.toList.drop p:=by
 unfold fQ.insertAt;simp[bY]
def b6G(h:Up xs)(hn:xs[fQ.below xs j]?≠some j):Up (fQ.insertAt xs (fQ.below xs j) j):=by
 obtain⟨w,s,i⟩:=a6F h j;unfold Up at h ⊢;rw[a5W];refine aT.mpr ⟨b6.sublist (dk _ _) h,aH.mpr ⟨λy d=>?_,b6.sublist (dP _ _) h⟩,λx r y d=>?_⟩
 ·obtain⟨m,a⟩:=bB d;rw[cE]at a;obtain⟨l,e⟩:=az.mp a;have b:fQ.below xs j+m<xs.size:=by simpa using l
  have f:=i _ b (by lia);have o:xs[fQ.below xs j+m]=y:=by simpa using e
  by_cases c:y=j
  ·subst c;exfalso
   by_cases hm0:m=0
   ·simp_all
   ·have t:=b04 h (show fQ.below xs y<fQ.below xs y+m by lia) b;have z:=i _ (by lia) (av _)
    lia
  ·lia
 ·obtain⟨m,a⟩:=bB r;have g:=(az.mp a).1;rw[aK]at g;rw[dw,if_pos (by lia)]at a;obtain⟨l,e⟩:=az.mp a;have b:m<xs.size:=by simpa using l
  have f:=s m b (by lia);have o:xs[m]=x:=by simpa using e
  rw[o]at f;rcases ax.mp d with rfl |d
  ·exact f
  ·obtain⟨k,q⟩:=bB d;rw[cE]at q;obtain⟨p,u⟩:=az.mp q;have n:fQ.below xs j+k<xs.size:=by simpa using p
   have t:=i _ n (by lia);have v:xs[fQ.below xs j+k]=y:=by simpa using u
   lia
def a9b(j:Nat):fQ.has #[] j=false:=by unfold fQ.has;simp
def b06(hd:t.dummies=#[]):∀(fuel:Nat)(p:fQ.Probe)(j:Nat)(d:Option Nat),p.dummy=none->fQ.probe.go t ha h fuel p=some (.empty j d)->d=none/\t.slot j=.empty:=by intro z0;induction z0 with
 |zero=>intro p j d _ e;unfold fQ.probe.go at e;cases e
 |succ fuel I0=>
  intro p j d a e;have b:∀p:fQ.Probe,p.dummy=none->(t.advance p).dummy=none:=λp a=>by
   unfold fQ.advance
   split
   ·omega
   ·omega
  unfold fQ.probe.go at e;cases hs:t.slot p.j with
  |empty=>
   rw[hs]at e;simp at e;obtain⟨rfl,rfl⟩:=e;exact⟨a,hs⟩
  |dummy=>
   unfold fQ.slot at hs;dsimp only at hs;rw[hd,a9b]at hs
   split at hs
   ·cases hs
   ·simp_all
  |live i=>
   rw[hs]at e;dsimp only at e
   split at e
   ·grind
   ·exact I0 _ j d (b p a) e
def a7y{t:fQ}(h:t.slot j=.empty):t.place[fQ.below t.place j]?≠some j:=λe=>by
 unfold fQ.slot at h;dsimp only at h;rw[e]at h;simp at h
set_option tactic.hygienic true in
def b3J{t:fQ}(hd:t.dummies=#[])(e:t.freeSlot h=some (j,b)):b=false/\t.place[fQ.below t.place j]?≠some j:=by
 unfold fQ.freeSlot at e
 split at e
 ·next j' d hp=>
  obtain⟨rfl,a⟩:=b06 hd _ _ j' d rfl hp;simp at e;obtain⟨rfl,rfl⟩:=e;exact⟨rfl,a7y a⟩
 ·cases e
def TOk.standIn(h:TOk led t)(n:Nat):TOk led (t.standIn n):=by
 refine⟨?_,rfl,h.ld⟩
 show Up (Array.range n)
 unfold Up;rw[Array.toList_range];exact d7
def TOk.orStandIn(h:TOk led t)(n:Nat):TOk led (t.orStandIn n):=by
 unfold fQ.orStandIn
 split
 ·omega
 ·exact h.standIn n
def TOk.layNew(h:TOk led t)(es:Array (Int×Value))(hh:Int)(x:Value):TOk led (layNew t es hh x).2.1:=by
 unfold PySem.layNew;cases e:t.freeSlot hh with
 |none=>exact h.standIn _
 |some p=>
  obtain⟨j,b⟩:=p;obtain⟨_,a⟩:=b3J h.dm e
  have:TOk led (t.put j).1:=by
   unfold fQ.put;refine⟨b6G h.up a,?_,h.ld⟩;rw[h.dm,a9b];rfl
  exact this.orStandIn _
def b3K(f:Nat->Option Nat):(((aO n).filterMap λj=>(f j).map (j,·)).map (·.1)).Pairwise (·<·):=by
 have e:∀l:List Nat,l.Pairwise (·<·)->((l.filterMap λj=>(f j).map (j,·)).map (·.1)).Pairwise (·<·)/\∀x∈(l.filterMap λj=>(f j).map (j,·)).map (·.1),x∈l:=by
  intro l
  induction l with
  |nil=>intro _;exact⟨.nil,λx c=>by simp at c⟩
  |cons a l ih=>
   intro m;obtain⟨i,h⟩:=aH.mp m;obtain⟨g,d⟩:=ih h;rw[bE];cases f a with
   |none=>exact⟨g,λx c=>.tail _ (d x c)⟩
   |some b=>
    exact⟨aH.mpr ⟨λy k=>i y (d y k),g⟩,λx c=>by
     rcases ax.mp c with rfl |c
     ·exact .head _
     ·exact .tail _ (d x c)⟩
 exact (e _ d7).1
def TOk.relay(h:TOk led t)(es:Array (Int×Value))(n:Nat):TOk led (iF t es n).2.1:=by
 unfold iF;cases e:t.relaid _ n with
 |none=>exact h.standIn _
 |some p=>
  dsimp only
  split
  ·unfold fQ.relaid fQ.laid at e;cases ho:fQ.layClean _ _ with
   |none=>rw[ho]at e;cases e
   |some owner=>
    rw[ho]at e;obtain⟨rfl,_⟩:=e;refine⟨?_,rfl,h.ld⟩;exact b3K _
  ·exact h.standIn _
end SetW
namespace SetW
open PySem PyProof.Rows
noncomputable def byT(w:World):Bool:=w.params.followText "set-order"
inductive KsAre {prog:fV}{w:World}{K:Type}[DecidableEq K] (kd:KeyKind prog w K):List Value->List K->Prop
 |nil:KsAre kd [] []
 |cons {v:Value} {k:K} {vs:List Value} {ks:List K} (h:kd.is k v=true) (t:KsAre kd vs ks):KsAre kd (v::vs) (k::ks)
structure SO {prog:fV}{w:World}{K:Type}[DecidableEq K] (kd:KeyKind prog w K) (h:Heap) (a:Addr) (es:Array (Int×Value)) (ep:Nat) (t:fQ) (ms:List K):Prop where
 at_:∃o,h.get? a=some o/\o.ExactSet/\o.data=.set es ep t
 el:jq kd es.toList
 nums:KsAre kd (es.toList.map (·.2)) ms
 sc:es.size<gK
 fit:t.fits es.size=true
 ok:TOk (!byT w) t
def SI{prog:fV}{w:World}{K:Type}[DecidableEq K](kd:KeyKind prog w K)(h:Heap)(a:Addr)(ms:List K):Prop:=∃es ep t,SO kd h a es ep t ms
section
variable{prog:fV}{w:World}{K:Type}[DecidableEq K]{kd:KeyKind prog w K}
def a9c(h:KsAre kd vs ns):vs.length=ns.length:=by
 induction h with
 |nil=>rfl
 |cons _ _ ih=>rw[aI,aI,ih]
def a0K(h:KsAre kd vs ns)(p:vs'.Perm vs):∃ns',KsAre kd vs' ns'/\ns'.Perm ns:=by
 induction p generalizing ns with
 |nil=>exact⟨ns,h,.refl _⟩
 |cons x _ ih=>
  cases h with
  |cons h1 h2=>
   obtain⟨i,a,b⟩:=ih h2;exact⟨_,.cons h1 a,b.cons _⟩
 |swap x y l=>
  cases h with
  |cons h1 h2=>
   cases h2 with
   |cons h3 h4=>exact⟨_,.cons h3 (.cons h1 h4),.swap ..⟩
 |trans _ _ ih1 ih2=>
  obtain⟨j,c,d⟩:=ih2 h;obtain⟨g,e,f⟩:=ih1 c;exact⟨g,e,f.trans d⟩
def b3L(h:KsAre kd vs ns)(hk:kd.is k v=true):KsAre kd (vs++[v]) (ns++[k]):=by
 induction h with
 |nil=>exact .cons hk .nil
 |cons h1 _ ih=>exact .cons h1 ih
def b6H(h:KsAre kd vs ns):(∃v∈vs,kd.is k v=true)↔k∈ns:=by
 induction h with
 |nil=>simp
 | @cons v n vs ns h1 _ ih=>
  rw[ax,<- ih]
  constructor
  ·rintro⟨u,a,b⟩;rcases ax.mp a with rfl |a
   ·exact .inl (kd.inj _ _ _ b h1)
   ·exact .inr ⟨u,a,b⟩
  ·rintro (rfl |⟨u,a,b⟩)
   ·exact⟨v,.head _,h1⟩
   ·exact⟨u,.tail _ a,b⟩
def b9c(h:KsAre kd vs ns):∀{i:Nat}{v:Value},vs[i]?=some v->∃k,ns[i]?=some k/\kd.is k v=true:=by
 induction h with
 |nil=>intro i v e;simp at e
 |cons h1 _ ih=>
  intro i v e;cases i with
  |zero=>cases e;exact⟨_,rfl,h1⟩
  |succ i=>exact ih (by simpa using e)
end
section
variable{prog:fV}{w:World}{A:Around}{E:Value->Shared->Prop}{s:Shared}{a:Addr}{es:Array (Int×Value)}{ep:Nat}{t:fQ}{K:Type}[DecidableEq K]{kd:KeyKind prog w K}{ms:List K}{k:K}{v:Value}
def SO.mem(S:SO kd s.heap a es ep t ms):(∃e∈es.toList,kd.is k e.2=true)↔k∈ms:=by
 rw[<- b6H S.nums]
 constructor
 ·rintro⟨e,c,b⟩;exact⟨e.2,bg c,b⟩
 ·rintro⟨u,d,b⟩;obtain⟨e,c,rfl⟩:=aM.mp d;exact⟨e,c,b⟩
def SO.stored{h:Heap}(ho:h.get? a=some o)(hx:o.ExactSet)(hd:o.data=.set es ep t)(hel:jq kd es'.toList)(hi:KsAre kd (es'.toList.map (·.2)) ms')(hs:es'.size<gK)(hf:t'.fits es'.size=true)(hk:TOk (!byT w) t') :
  (h.update a (Obj.putSet es' t')).get? a=some { o with data:=.set es' (ep+1) t' }/\SO kd (h.update a (Obj.putSet es' t')) a es' (ep+1) t' ms':=by
 have b:(h.update a (Obj.putSet es' t')).get? a=some { o with data:=.set es' (ep+1) t' }:=by
  have q:=Heap.get?_update_self (Obj.putSet es' t') ho (by rw[putSet_of es' t' hd];rfl);rw[putSet_of es' t' hd]at q;exact q
 exact⟨b,⟨⟨_,b,hx,rfl⟩,hel,hi,hs,hf,hk⟩⟩
def a7z(h:t.fits n=true):({ t with plain:=b }:fQ).fits n=true:=by cases t;exact h
def TOk.plain(h:TOk led t):TOk led ({ t with plain:=b }:fQ):=⟨h.up,h.dm,h.ld⟩
def a5X(hkey:kd.is k v=true)(hsv:v.scannable=true)(S:SO kd s.heap a es ep t ms)(hr:ms.length+1<gK)
  (h:∀h' ms' b,Heap.SameBut a s.heap h'->SI kd h' a ms'->ms'.Perm (if k∈ms then ms else ms++[k])->Q b { s with heap:=h' }) :
  wpAny (model prog w) A (jr a v (kd.hash k)) Q E s:=by
 obtain⟨⟨o,C,hx,D⟩,n,l,V,x,hok⟩:=id S;have M:es.size=ms.length:=by
  simpa using (a9c l)
 unfold jr jO;refine gh (fO (gG C D x ?_));dsimp only;rw[byScan_of hsv V n];simp only[↓reduceIte];unfold setAddByScan;refine fO (fO (gQ (fO (wpAny_setScan_of hkey C D x n ?_))));cases hf:e9 (λe=>kd.is k e.2) es.toList with
 |some j=>
  dsimp only;obtain⟨hj,T,_⟩:=List.findIdx?_eq_some_iff_getElem.mp hf;have g:k∈ms:=S.mem.mp ⟨_,bz hj,T⟩;exact fP (fP (h s.heap ms false (Heap.SameBut.refl a s.heap) ⟨es,ep,t,S⟩ (by rw[if_pos g])))
 |none=>
  dsimp only;have g:k∉ms:=λz=>by
   obtain⟨e,he,T⟩:=S.mem.mpr z;have q:=List.findIdx?_eq_none_iff.mp hf e he;rw[T]at q;cases q
  have i:=layNew_perm t es (kd.hash k) v;have p:=layNew_fits t es (kd.hash k) v;have y:=hok.layNew es (kd.hash k) v;generalize layNew t es (kd.hash k) v=L at i p y ⊢;obtain⟨c,t1,wd,gv⟩:=L;dsimp only at i p y ⊢;rw[bo]at i;have F:=(n.push hkey hsv).perm i;have sz1:c.size=ms.length+1:=by rw[<- aQ,i.length_eq,aJ,aQ,M];rfl
  obtain⟨X,I,J⟩:=a0K (vs':=c.toList.map (·.2)) (b3L l hkey) (by
   have q:=i.map (·.2);rw[aG]at q;exact q)
  have G:c.size<scanBound:=by lia
  have H:∀(d:fQ),d.fits c.size=true->TOk (!byT w) d->wpAny (model prog w) A (do
    js a c d
    if (!wd&&d.tooFull)=true then do
     (match (iF d c (fQ.grown c.size)).2.2 with |true=>rule "set.scan.the-table-gave-way" |false=>pure ())
     js a (iF d c (fQ.grown c.size)).1 (iF d c (fQ.grown c.size)).2.1
     pure (some true)
    else pure (some true)) (λr U=>wpAny (model prog w) A (match r with |some added=>pure added |none=>jO a v (kd.hash k) 99999) Q E U) E s:=by
   intro d f2 k2;refine fO (i7 C D ?_ (i8 G));obtain⟨Y,S1⟩:=SO.stored C hx D F I G f2 k2;have b1:=Heap.SameBut.update s.heap a (Obj.putSet c d)
   split
   ·have B:=relayAll_perm d c (fQ.grown c.size);have N:=relayAll_fits d c (fQ.grown c.size);have R:=k2.relay c (fQ.grown c.size);generalize iF d c (fQ.grown c.size)=W at B N R ⊢;obtain⟨m,t3,g3⟩:=W;dsimp only at B N R ⊢;have sz2:m.size=c.size:=by rw[<- aQ,B.length_eq,aQ]
    obtain⟨ms2,im2,pm2⟩:=a0K I (B.map (·.2));refine fO ?_;have u:wpAny (model prog w) A (js a m t3 >>= λ_=>pure (some true)) (λr U=>wpAny (model prog w) A (match r with |some added=>pure added |none=>jO a v (kd.hash k) 99999) Q E U) E { s with heap:=s.heap.update a (Obj.putSet c d) }:=by
     refine fO (i7 Y rfl ?_ (i8 (by lia)));obtain⟨_,S2⟩:=SO.stored (t:=d) Y hx rfl (F.perm B) im2 (by lia) N R;exact fP (fP (h _ ms2 true (b1.trans (Heap.SameBut.update _ a _)) ⟨m,_,t3,S2⟩ (if_neg g▸pm2.trans J)))
    cases g3 with
    |true=>exact gQ u
    |false=>exact fP u
   ·exact fP (fP (h _ X true b1 ⟨c,_,d,S1⟩ (if_neg g▸J)))
  have gw:∀{β:Type}{f:Unit->Sem β}{Q':β->Shared->Prop},wpAny (model prog w) A (f ()) Q' E s->wpAny (model prog w) A ((match gv with |true=>rule "set.scan.the-table-gave-way" |false=>pure ()) >>= f) Q' E s:=λhq=>by
   cases gv with
   |true=>exact fO (gQ hq)
   |false=>exact fO (fP hq)
  refine gw ?_
  split
  ·refine fO ?_;rw[hashByValue_scannable 8 hsv];refine fP ?_;refine H _ ?_ ?_<;>cases plainKind v<;>first |exact p |exact a7z p |exact y |exact y.plain
  ·refine fO (fP ?_);simp only[↓reduceIte];exact H t1 p y
end
def SI.at{K:Type}[DecidableEq K]{kd:KeyKind prog w K}{ms:List K}(S:SI kd h a ms)(k:∀o,h.get? a=some o->h'.get? a=some o):SI kd h' a ms:=by
 obtain⟨l,i,t,⟨o,g,x,d⟩,f,j,e,c,b⟩:=S;exact⟨l,i,t,⟨o,k o g,x,d⟩,f,j,e,c,b⟩
def Met{K:Type}(val:Nat->K)(i:Nat)(ms:List K):Prop:=ms.Nodup/\ms.length<=i/\∀x,x∈ms↔∃j,j<i/\val j=x
def Met.step{K:Type}[DecidableEq K]{val:Nat->K}{ms ms':List K}(h:Met val i ms)(p:ms'.Perm (if val i∈ms then ms else ms++[val i])):Met val (i+1) ms':=by
 obtain⟨d,k,b⟩:=h;have a:∀x,(∃j,j<i+1/\val j=x)↔(∃j,j<i/\val j=x)\/x=val i:=λx=>by grind
 by_cases c:val i∈ms
 ·rw[if_pos c]at p;refine⟨p.nodup_iff.mpr d,by rw[p.length_eq];lia,λx=>?_⟩;rw[p.mem_iff,a,b];exact⟨.inl,λz=>z.elim id λe=>(b x).mp (e▸c)⟩
 ·rw[if_neg c]at p;refine⟨p.nodup_iff.mpr ?_,by rw[p.length_eq];simp;exact k,λx=>?_⟩
  ·rw[b5];exact⟨d,by simp,λx g y f=>by rw[ay.mp f];rintro rfl;exact c g⟩
  ·rw[p.mem_iff,a,au,b,ay]
section
variable{prog:fV}{w:World}{A:Around}{R:Result->Shared->Prop}{I:Addr}{fp wr:List Addr}{G:Array jt->Array jt->Prop}{n:Nat}{P:Nat->Value->Prop}{St:Nat->Shared->Prop}{K:Type}[DecidableEq K]{kd:KeyKind prog w K}
def b07(W:WalksS prog w A.in1 I fp wr G n P St)(S:Addr)(hSf:S∉fp)(val:Nat->K)(hv:∀i v,P i v->kd.is (val i) v=true/\v.scannable=true)(hb:n+1<gK) :
  ∀(k i:Nat)(s:Shared)(ms:List K),n-i=k->i<=n->St i s->SI kd s.heap S ms->Met val i ms ->
   (∀s' ms',Moved (S::wr) G s s'->SI kd s'.heap S ms'->Met val n ms'->R (.ok (.ret .none)) s') ->
   gF (model prog w) A (.builtin "set.update.loop" ⟨[.ref S,.ref I],[]⟩) R s:=by
 have C:=λz=>hSf (W.sub _ z);have E:∀b∈wr,b∈S::wr:=λb z=>bG _ z;intro k
 induction k with
 |zero=>
  intro i s p Q U l r f m;have e:i=n:=by lia
  subst e;refine hZ PyProof.Rows.F.entry_set_update_loop ?_;rw[Around.under_plainId PyProof.Rows.F.plain_set_update_loop _];exact fO (W.done s _ _ l λa d=>(fP (m a p (d.mono E) (r.at λo g=>d.heap S o C g) f)))
 |succ k ih=>
  intro i s p Q U l r f m;refine hZ PyProof.Rows.F.entry_set_update_loop ?_;rw[Around.under_plainId PyProof.Rows.F.plain_set_update_loop _];refine fO (W.item i s _ _ (by lia) l λv a M H d=>?_);obtain⟨j,x⟩:=hv i v M;obtain⟨Y,V,t,S1⟩:=r.at λo g=>d.heap S o C g;refine fO (gh (gh (fO (kd.pyHash j (a5X j x S1 (by have:=f.2.1;lia) λh' J b h y N=>(fP ⟨iq PyProof.Rows.F.plain_set_update_loop _,ih (i+1) _ J (by lia) (by lia) (W.frame _ a _ _ H (cg _) λc q o g=>?_) y (f.step N) λT X B u D=>?_⟩))))))
  ·rw[h.2 c λz=>hSf (z▸q)];exact g
  ·refine m T X (Moved.trans W.gtrans ((d.mono E).then_heap (cg _) λc o q g=>?_) B) u D;rw[h.2 c λz=>q (by grind)];exact g
end
section
variable{prog:fV}{w:World}{A:Around}{E:Value->Shared->Prop}{s:Shared}{K:Type}[DecidableEq K]{kd:KeyKind prog w K}
abbrev a0o(w:World):Obj:={ cls:=.type "set",dict:=none,data:=.set #[] 0 (.fresh 0 0 (!byT w)) }
def SI.fresh(g:h.get? a=some (a0o w)):SI kd h a []:=
 ⟨#[],0,.fresh 0 0 _,⟨_,g,⟨rfl,rfl,rfl⟩,rfl⟩,λe b=>by simp at b,.nil,by decide,rfl,⟨.nil,rfl,rfl⟩⟩
def a9d(a:Value)(h:Q (.ref s.heap.objs.size) { s with heap:=s.heap.push (a0o w) }) :
  gF (model prog w) A (.call (.builtin "set.__new__") ⟨[.type "set",a],[]⟩) (wants Q E) s:=by
 refine jP ?_
 show wpAny _ A.in1 (do jQ "set.__new__" ⟨[.type "set",a],[]⟩;again (.builtin "set.__new__" ⟨[.type "set",a],[]⟩)) _ _ s
 refine fO (ju (PySem.F.newCall_set_1 a) (fP ⟨iq PySem.F.plain_set_new _,hZ PySem.F.entry_set_new ?_⟩));rw[Around.under_plainId PySem.F.plain_set_new _];unfold fX.«set.__new__» fX.Frozenset.newClass;have sub:=sub_set_self;obtain⟨hp,g,d,tk,os⟩:=s;dsimp only
 wp_walk
 refine i9 (fP ?_);dsimp only;simp only[newObj];exact fO (jK (fP (fP h)))
set_option maxHeartbeats 3200000 in
def call_set(hh:A.handled=none)(hl:s.heap.IsList l items)(hi:KsAre kd items.toList ns)(hsv:∀v∈items.toList,v.scannable=true)(hb:items.size+1<gK)
  (h:∀(h':Heap)(tk:Nat)(ms:List K),SI kd h' s.heap.objs.size ms->Met (λi=>ns.getD i k0) items.size ms->(∀b o,b<s.heap.objs.size->s.heap.get? b=some o->h'.get? b=some o)->Q (.ref s.heap.objs.size) { s with heap:=h',toks:=tk }) :
  wpAny (model prog w) A (call (.type "set") [.ref l]) Q E s:=by
 obtain⟨mc,mt,mro⟩:=PySem.F.called_set.mro;have md:=PySem.F.called_set.made;have sb:=PySem.F.called_set.sub;refine iQ (jP ?_)
 show wpAny _ _ (callAny (.type "set") _) _ _ _
 refine fP ⟨Code.quiet_builtin _ (by decide +kernel),hZ PySem.F.entry_type_call ?_⟩;rw[Around.under_plain (weight_type_call_type "set" [.ref l] []) rfl];have nt:=PySem.F.called_set.notType;have cc:=PySem.F.called_set.canCreate;have tc:=PySem.F.typeCall_set_1 (.ref l)
 repeat (any_goals (first |assumption |wp_step))
 refine g5 (a9d (w:=w) (.ref l) (E:=E) (Q:=λobj s1=>obj=.ref s.heap.objs.size/\s1={ s with heap:=s.heap.push (a0o w) }) ⟨rfl,rfl⟩) λr s1 hr=>?_;cases r with
 |error e=>exact hr
 |ok fl=>
  cases fl with
  |ret obj=>
   obtain⟨rfl,rfl⟩:=hr;have gS:(s.heap.push (a0o w)).get? s.heap.objs.size=some (a0o w):=Heap.get?_push_size _ rfl;have tS:Shared.TypeIs { s with heap:=s.heap.push (a0o w) } (.ref s.heap.objs.size) "set":=⟨_,gS,rfl⟩;have li:=PySem.F.called_set.init.lookup;have bi:=PySem.F.called_set.init.bind (.ref s.heap.objs.size)
   repeat (any_goals (first |assumption |wp_step))
   refine g5 (codeAny_call_builtin (R:=wants (λr s2=>r=.none/\∃h' tk ms,s2={ s with heap:=h',toks:=tk }/\SI kd h' s.heap.objs.size ms/\Met (λi=>ns.getD i k0) items.size ms /\
     (∀b o,b<s.heap.objs.size->s.heap.get? b=some o->h'.get? b=some o)) E) PySem.F.called_set.init.plain PySem.F.entry_set_init (check_set_init_1 tS ?_)) λr2 s2 hr2=>?_
   ·obtain⟨ol,gl,cl,nl,dl⟩:=hl;obtain⟨oc,od,ob,osl⟩:=ol;simp only at cl dl;subst cl dl;have gl':(s.heap.push (a0o w)).get? l=some { cls:=.type "list",dict:=od,data:=.seq items nl,slots:=osl }:=Heap.get?_push_of_some _ gl;have s1:=PySem.F.sub_list_set;have s2:=PySem.F.sub_list_frozenset;have ne:(Value.type "list"==Value.type "dict")=false:=by decide
    have il:(s.heap.push (a0o w)).IsList l items:=⟨_,gl',rfl,nl,rfl⟩;unfold fX.«set.__init__» noKeywords fX.Frozenset.updateFrom;generalize hPI:pyIter=PI
    wp_walk
    subst hPI;refine iO il (fO (wpAny_runValue ?_));have ll:l<s.heap.objs.size:=Heap.lt_size gl;have h3:A.in1.in1.in1.handled=none:=by simp[hh]
    have nI:l≠(s.heap.push (a0o w)).objs.size:=by rw[Heap.size_push];exact aE (cD ll)
    have nf:s.heap.objs.size∉[(s.heap.push (a0o w)).objs.size,l]:=by
     rw[Heap.size_push];simp only[ax,ay,dB,or_false,not_or];exact⟨aE (di _),bH ll⟩
    refine b07 ((Walks.list h3 _ l nI items).toS) s.heap.objs.size nf (λi=>ns.getD i k0) (λi v e=>by
     have e':items.toList[i]?=some v:=by rw[bP];exact e
     obtain⟨k,h1,h2⟩:=b9c hi e';exact⟨by rw[bX,h1];exact h2,hsv v (aL e')⟩) hb (items.size-0) 0 _ [] (by omega) (aR _)
     ⟨⟨_,Heap.get?_push_size _ rfl,rfl,rfl⟩,(il.push _)⟩ (SI.fresh (Heap.get?_push_of_some _ gS)) ⟨.nil,av _,λx=>by simp⟩ λs' ms mv hS hM=>?_
    obtain⟨h',g',d',tk',os'⟩:=s';have eg:g'=s.gens:=mv.gens;have ed:d'=s.drawn:=mv.drawn;have eo:os'=s.os:=mv.os;subst eg ed eo
    show wpAny _ _ _ _ _ _
    refine fP ?_
    show wpAny _ _ (ret Value.none) _ _ _
    refine fP ⟨rfl,h',tk',ms,rfl,hS,hM,λb o hb e=>?_⟩;refine mv.heap b o ?_ (Heap.get?_push_of_some _ (Heap.get?_push_of_some _ e));simp only[ax,ay,dB,or_false,not_or];exact⟨aE hb,by rw[Heap.size_push];exact aE (cD hb)⟩
   ·cases r2 with
    |error e=>exact hr2
    |ok f2=>
     cases f2 with
     |ret r=>
      obtain⟨rfl,h',tk,ms,rfl,hS,hM,hk⟩:=hr2
      repeat (any_goals (first |assumption |wp_step))
      exact h _ _ _ hS hM hk
     |_=>exact hr2.elim
  |_=>exact hr.elim
end
def sit_next:Slot "set_iterator" "__next__" "set_iterator.__next__":=.of (owner:="set_iterator") (n:="__next__") (by rw[typeLookup_type,builtinLookup_eq_fast];kernel_rfl) (by decide +kernel) (by decide +kernel) (by decide +kernel) (by first |exact .inl (by decide +kernel) |exact .inr (by decide +kernel)) (by rw[ja];kernel_rfl)
def a0M:jc table "set_iterator.__next__"=some fX.«set_iterator.__next__»:=entryFor_of_tree (by kernel_rfl)
def a6G:Slot "set_iterator" "__iter__" "set_iterator.__iter__":=.of (owner:="set_iterator") (n:="__iter__") (by rw[typeLookup_type,builtinLookup_eq_fast];kernel_rfl) (by decide +kernel) (by decide +kernel) (by decide +kernel) (by first |exact .inl (by decide +kernel) |exact .inr (by decide +kernel)) (by rw[ja];kernel_rfl)
def a3m:jc table "set_iterator.__iter__"=some fX.«dict_keyiterator.__iter__»:=jR (id':="dict_keyiterator.__iter__") (by kernel_rfl) rfl (by decide +kernel) (by kernel_rfl)
def a3n:jc table "set.__iter__"=some fX.«frozenset.__iter__»:=jR (id':="frozenset.__iter__") (by kernel_rfl) rfl (by decide +kernel) (by kernel_rfl)
def a44:Manifest.owners.lookup (String.ofList ['r','o','t','a','r','e','t','i','_','t','e','s'].reverse)=some Manifest.sig_set_iterator:=by kernel_rfl
def a0X(a:Value):argsOk "set_iterator.__next__" ⟨[a],[]⟩:=by unfold argsOk;rw[signature?_of (n:=['_','_','t','x','e','n','_','_']) (by kernel_rfl) a44];kernel_rfl
def a4h(a:Value):argsOk "set_iterator.__iter__" ⟨[a],[]⟩:=by unfold argsOk;rw[signature?_of (n:=['_','_','r','e','t','i','_','_']) (by kernel_rfl) a44];kernel_rfl
def SetIt(h:Heap)(it a:Addr)(first:Value)(i n ep:Nat):Prop:=∃o,h.get? it=some o/\o.cls=.type "set_iterator"/\o.data=.fields #[first,.int i 0,.ref a,.int n 0,.int ep 0]
def SetIt.ty{s:Shared}(x:SetIt s.heap it a f i n ep):s.TypeIs (.ref it) "set_iterator":=let ⟨o,g,c,_⟩:=x;⟨o,g,c⟩
def SetIt.at(x:SetIt h it a f i n ep)(e:∀o,h.get? it=some o->h'.get? it=some o):SetIt h' it a f i n ep:=let ⟨o,g,r⟩:=x;⟨o,e _ g,r⟩
section
variable{prog:fV}{w:World}{A:Around}{E:Value->Shared->Prop}{s:Shared}{it a:Addr}{f:Value}{i n ep:Nat}{o:Obj}{es:Array (Int×Value)}{t:fQ}
def a4i(x:SetIt s.heap it a f i n ep)(h:Q (.ref it) s):wpAny (model prog w) A (pyIter (.ref it)) Q E s:=by
 refine wpAny_pyIter_slot x.ty a6G (gE a6G x.ty a3m ?_ (a4h _));exact fP ⟨_,rfl,"set_iterator",_,x.ty,sit_next.lookup,h⟩
def a6H(hh:A.handled=none)(hQ:∀h':Heap,(∀b o,s.heap.get? b=some o->h'.get? b=some o)->Q none { s with heap:=h' }) :
  wpAny (model prog w) A.in1 (newExc (.type "StopIteration") [] >>= λe=>(raiseNew e:Sem Final)) (λ_ _=>False) (λe s'=>wpAny (model prog w) A (do if <- isInstance e (.type "StopIteration") then pure (none:Option Value) else throw e) Q E s') s:=by
 refine fO (fO (g7 ?_ (by size_fits)));refine fO (ju (by first |rfl | (simp;rfl)) (g7 ?_ (by size_fits)))
 refine fO (wpAny_handled ?_);rw[hh];refine fO (fP (wpAny_throw ?_));refine fO (iG ⟨_,Heap.get?_push_size _ rfl,rfl⟩ isSubtype_stop ?_);exact fP (hQ _ λb o e=>Heap.get?_push_of_some _ (Heap.get?_push_of_some _ e))
end
section
variable{prog:fV}{w:World}{A:Around}{E:Value->Shared->Prop}{s:Shared}{it a:Addr}{f:Value}{i n ep k:Nat}{o:Obj}{es:Array (Int×Value)}{t:fQ}{K:Type}[DecidableEq K]{kd:KeyKind prog w K}{ms:List K}
def a45(S:SO kd s.heap a es ep t ms)(hT:byT w=true)(h:Q (((gX (w.params.setOrder a ep) es)[i]?).map λe=>(e.2,k)) s) :
  wpAny (model prog w) A (jv a k i ep) Q E s:=by
 obtain⟨⟨o,f,n,d⟩,l,g,j,b,m⟩:=id S;refine fO (gG f d b (gO (λ_=>?_) λc=>absurd hT c));simp;refine fO (fO (gG f d b (gO (λ_=>?_) λc=>absurd hT c)));exact fO (i9 (fP (fP h)))
def a3I(S:SO kd s.heap a es ep t ms)(hT:byT w=false)(hp:(!t.plain&&decide (es.size > 1))=false)
  (h:Q (match es[fQ.below t.place k]?,t.place[fQ.below t.place k]? with |some (_,x),some j=>some (x,j+1) |_,_=>none) s) :
  wpAny (model prog w) A (jv a k i ep) Q E s:=by
 obtain⟨⟨o,g,n,f⟩,m,e,l,b,d⟩:=id S;refine fO (gG g f b (gO (λc=>by rw[show (model prog w).w.params.followText "set-order"=byT w from rfl,hT]at c;cases c) λ_=>?_))
 show wpAny _ _ (if (!t.plain&&decide _)=true then _ else _) _ _ _
 rw[hp]
 show wpAny _ _ ((if _=true then _ else _) >>= _) _ _ _
 rw[d.ld,hT];exact fO (fP (fP h))
def a46(x:SetIt s.heap it a (.int k 0) i es.size ep)(S:SO kd s.heap a es ep t ms)
  (hnx:∀(B:Around)(F:Value->Shared->Prop)(R:Option (Value×Nat)->Shared->Prop),R (some (v,nx)) s->wpAny (model prog w) B (jv a k i ep) R F s)
  (hQ:∀h',SetIt h' it a (.int nx 0) (i+1) es.size ep->Heap.SameBut it s.heap h'->Q (some v) { s with heap:=h' }):wpAny (model prog w) A (pyNext (.ref it)) Q E s:=by
 obtain⟨u,e,n,b⟩:=id x;obtain⟨⟨o,l,C,j⟩,r,h,y,c,z⟩:=id S;refine fO (h9 (wpAny_callSpecial?_slot x.ty sit_next (gE sit_next x.ty a0M ?_ (a0X _))));refine fO (fP (fO (jw e b (fO (ir l j c ?_)))));simp;refine fO (hnx _ _ _ (fO (ib e b (by simp) ?_)));have f:=Heap.get?_update_self (Obj.mapFields (·.setIfInBounds 0 (rawInt nx))) e (Obj.isFreed_of_fields (Obj.data_mapFields b _));have d:=Obj.data_mapFields b (·.setIfInBounds 0 (rawInt nx));refine fO (ib f d (by simp) ?_);have q:=Obj.data_mapFields d (·.setIfInBounds 1 (rawInt (i+1)));have p:SetIt _ it a (.int nx 0) (i+1) es.size ep:=
  ⟨_,(Heap.get?_update_self (Obj.mapFields (·.setIfInBounds 1 (rawInt (i+1)))) f (Obj.isFreed_of_fields (Obj.data_mapFields d _))),(Obj.cls_mapFields ..).trans ((Obj.cls_mapFields ..).trans n),by rw[q];simp[rawInt]⟩
 refine fP ⟨_,rfl,?_⟩;exact fP (hQ _ p ((Heap.SameBut.update ..).trans (Heap.SameBut.update ..)))
def a6I(hh:A.handled=none)(x:SetIt s.heap it a (.int k 0) i es.size ep)(S:SO kd s.heap a es ep t ms)
  (hnx:∀(B:Around)(F:Value->Shared->Prop)(R:Option (Value×Nat)->Shared->Prop),R none s->wpAny (model prog w) B (jv a k i ep) R F s)
  (hQ:∀h',(∀b o,b≠it->s.heap.get? b=some o->h'.get? b=some o)->Q none { s with heap:=h' }):wpAny (model prog w) A (pyNext (.ref it)) Q E s:=by
 obtain⟨u,d,G,f⟩:=id x;obtain⟨⟨o,g,C,p⟩,v,h,r,c,y⟩:=id S;refine fO (h9 (wpAny_callSpecial?_slot x.ty sit_next (gE sit_next x.ty a0M ?_ (a0X _))));refine fO (fP (fO (jw d f (fO (ir g p c ?_)))));simp;refine fO (hnx _ _ _ (fO (ib d f (by simp) (f9 (a6H hh λj n=>?_) (λ_ _ z=>z.elim) λe D z=>z))));exact (hQ j λb o l e=>n b o ((Heap.SameBut.update s.heap it _).extBut b o l e))
end
theorem a2f{α:Type}:∀(l:List α){i:Nat}(h:i<l.length),l.Perm (l[i]::l.eraseIdx i)
 |x::l,0,_=>by simp
 |x::l,i+1,h=>by
  exact (aV.cons x (a2f l (by simpa using h))).trans (aV.swap _ _ _)
def b3M{α:Type}(next:Nat->Nat):∀(fuel k:Nat)(left:List α)(out:Array α),fuel=left.length->(gX.go next fuel k left out).toList.Perm (out.toList++left):=by intro z0;induction z0 with
 |zero=>
  intro k left out h
  have:=b8.mp h.symm
  subst this;unfold gX.go;simp
 |succ fuel I0=>
  intro k left out h;unfold gX.go;have a:next k % left.length<left.length:=dC _ (by lia);rw[aC a];refine (I0 _ _ _ (by grind)).trans ?_;rw[bo,aW];exact aV.append_left _ (a2f left a).symm
def a26{α:Type}(next:Nat->Nat)(xs:Array α):(gX next xs).toList.Perm xs.toList:=by
 have:=b3M next xs.size 0 xs.toList #[] (by simp)
 simpa[gX]using this
noncomputable def a1P(t:fQ):Nat->Nat
 |0=>0
 |j+1=>t.place.getD j 0+1
def a3J(h:TOk led t)(hi:i<=t.place.size):fQ.below t.place (a1P t i)=i:=by
 obtain⟨f,a,d⟩:=a6F h.up (a1P t i);cases i with
 |zero=>
  by_cases c:fQ.below t.place (a1P t 0)=0
  ·grind
  ·have:=a 0 (by lia) (by lia)
   have z:a1P t 0=0:=rfl
   lia
 |succ j=>
  have b:j<t.place.size:=by lia
  have e:a1P t (j+1)=t.place[j]+1:=by show t.place.getD j 0+1=_;rw[fe,bh b];rfl
  rcases Nat.lt_trichotomy (fQ.below t.place (a1P t (j+1))) (j+1) with c |c |c
  ·grind
  ·lia
  ·have q:=a (j+1) (by lia) c;have r:=b04 h.up (show j<j+1 by lia) (by lia)
   lia
def SO.at{K:Type}[DecidableEq K]{kd:KeyKind prog w K}{ms:List K}(S:SO kd h a es ep t ms)(k:∀o,h.get? a=some o->h'.get? a=some o):SO kd h' a es ep t ms:=by
 obtain⟨⟨o,g,x,d⟩,i,f,e,b,c⟩:=S;exact⟨⟨o,k o g,x,d⟩,i,f,e,b,c⟩
section
variable{prog:fV}{w:World}{A:Around}{E:Value->Shared->Prop}{s:Shared}{it a T:Addr}{f:Value}{i n ep k:Nat}{o:Obj}{es:Array (Int×Value)}{t:fQ}{K:Type}[DecidableEq K]{kd:KeyKind prog w K}{ms:List K}{ps:List Nat}
noncomputable def b08(w:World)(a:Addr)(ep:Nat)(es:Array (Int×Value)):List Value:=(gX (w.params.setOrder a ep) es).toList.map (·.2)
def a9e(hh:A.handled=none)(hne:a≠it)(hT:byT w=true):Walks prog w A it [it,a] [it] es.size (λi v=>(b08 w a ep es)[i]?=some v) (λi h=>SetIt h it a (.int (0:Nat) 0) i es.size ep/\SO kd h a es ep t ms):=by
 have p:(gX (w.params.setOrder a ep) es).size=es.size:=by rw[<- aQ,(a26 _ es).length_eq,aQ]
 refine⟨λb d=>by simp at d;simp[d],λ_ _ _ c m=>⟨c.1.at λo e=>m it (by simp) o e,c.2.at λo e=>m a (by simp) o e⟩,λi s Q E q c f=>?_,λs Q E c f=>?_,λ_ _ _ _ c f=>a4i c.1 f⟩
 ·have l:(gX (w.params.setOrder a ep) es)[i]?=some ((gX (w.params.setOrder a ep) es)[i]'(by lia)):=bh _;refine a46 (v:=((gX (w.params.setOrder a ep) es)[i]'(by lia)).2) (nx:=0) c.1 c.2 (λB F R g=>a45 c.2 hT ?_) λj x k=>?_
  ·simp_all
  ·refine f _ j s.toks ?_ ⟨x,c.2.at λo e=>k.extBut a o hne e⟩ λb o d e=>k.extBut b o (λz=>d (by simp[z])) e;unfold b08;rw[aA,bP,l]
   rfl
 ·refine a6I hh c.1 c.2 (λB F R g=>a45 c.2 hT ?_) λj n=>f j s.toks λb o d e=>n b o (λz=>d (by simp[z])) e;rw[fi (by lia)];exact g
def a7A(hh:A.handled=none)(hne:a≠it)(hT:byT w=false)(hp:(!t.plain&&decide (es.size > 1))=false)(hf:t.fits es.size=true)(ok:TOk (!byT w) t) :
  Walks prog w A it [it,a] [it] es.size (λi v=>(es.toList.map (·.2))[i]?=some v) (λi h=>SetIt h it a (.int (a1P t i) 0) i es.size ep/\SO kd h a es ep t ms):=by
 have q:t.place.size=es.size:=by
  simp only[fQ.fits,bn,beq_iff_eq]at hf;exact hf.1
 refine⟨λb d=>by simp at d;simp[d],λ_ _ _ c m=>⟨c.1.at λo e=>m it (by simp) o e,c.2.at λo e=>m a (by simp) o e⟩,λi s Q E n c f=>?_,λs Q E c f=>?_,λ_ _ _ _ c f=>a4i c.1 f⟩
 ·have j:i<t.place.size:=by lia
  refine a46 (v:=es[i].2) (nx:=a1P t (i+1)) c.1 c.2 (λB F R g=>a3I c.2 hT hp ?_) λk x l=>?_
  ·rw[a3J ok (by lia),bh n,bh j];have e:a1P t (i+1)=t.place[i]+1:=by show t.place.getD i 0+1=_;rw[fe,bh j];rfl
   rw[e]at g;exact g
  ·refine f _ k s.toks ?_ ⟨x,c.2.at λo e=>l.extBut a o hne e⟩ λb o d e=>l.extBut b o (λz=>d (by simp[z])) e;rw[aA,bP,bh n]
   rfl
 ·refine a6I hh c.1 c.2 (λB F R g=>a3I c.2 hT hp ?_) λk p=>f k s.toks λb o d e=>p b o (λz=>d (by simp[z])) e;rw[a3J ok (by lia),fi (by lia)];exact g
end
section
variable{prog:fV}{w:World}{A:Around}{E:Value->Shared->Prop}{s:Shared}{it a T:Addr}{f:Value}{i n ep k:Nat}{o:Obj}{es:Array (Int×Value)}{t:fQ}{K:Type}[DecidableEq K]{kd:KeyKind prog w K}{ms:List K}{ps:List Nat}
def b3N(hn:n≠0)(h:∀i d',i<n->Q i { s with drawn:=d' }):wpAny (model prog w) A (choose src n) Q E s:=
 λ_ _ _=>⟨hn,h _ _ (dC _ (Nat.pos_of_ne_zero hn))⟩
theorem a4j{α:Type}:∀(n:Nat)(xs:List α)(s:Shared)(Q:List α->Shared->Prop),xs.length=n->(∀ys d',ys.Perm xs->Q ys { s with drawn:=d' })->wpAny (model prog w) A (drawOrder n xs) Q E s
 |0,xs,s,Q,hl,h=>by
  have:=b8.mp hl
  subst this;exact fP (h [] s.drawn .nil)
 |n+1,[],s,Q,hl,h=>by cases hl
 |n+1,x::xs,s,Q,hl,h=>by
  refine fO (b3N (by simp) λi e a=>?_);rw[aC a];exact fO (a4j n _ _ _ (by grind) λd c b=>(fP (h _ c ((aV.cons _ b).trans (a2f _ a).symm))))
def PlacesAt(h:Heap)(T:Addr)(ps:List Nat):Prop:=∃o c,h.get? T=some o/\o.data=.seq (ps.map λ(i:Nat)=>rawInt i).toArray c
def PlacesAt.at(x:PlacesAt h T ps)(k:∀o,h.get? T=some o->h'.get? T=some o):PlacesAt h' T ps:=by obtain⟨o,c,g,d⟩:=x;exact⟨o,c,k _ g,d⟩
def a7B(x:SetIt s.heap it a (.ref T) i es.size ep)(S:SO kd s.heap a es ep t ms)(y:PlacesAt s.heap T ps)(hp:ps[i]?=some p)(he:es[p]?=some e)
  (hQ:∀h',SetIt h' it a (.ref T) (i+1) es.size ep->Heap.SameBut it s.heap h'->Q (some e.2) { s with heap:=h' }):wpAny (model prog w) A (pyNext (.ref it)) Q E s:=by
 obtain⟨u,f,k,d⟩:=id x;obtain⟨⟨o,h,G,g⟩,D,n,B,b,C⟩:=id S;obtain⟨F,c,q,v⟩:=y;refine fO (h9 (wpAny_callSpecial?_slot x.ty sit_next (gE sit_next x.ty a0M ?_ (a0X _))));refine fO (fP (fO (jw f d (fO (ir h g b ?_)))));rw[if_neg (by simp)];refine fO (fO (iN q ?_));rw[v];refine fP ?_;dsimp only;have r:(ps.map λ(i:Nat)=>rawInt i).toArray[(i:Int).toNat]?=some (rawInt p):=by simp_all
 rw[r]
 show wpAny _ _ (setNextDrawn a (p:Int).toNat (ep:Int).toNat >>= _) _ _ _
 refine fO (fO (gG h g b ?_));simp;rw[he];refine fP (fO (ib f d (by simp) ?_));have j:=Obj.data_mapFields d (·.setIfInBounds 1 (rawInt ((i:Int)+1)));have z:SetIt _ it a (.ref T) (i+1) es.size ep:=
  ⟨_,(Heap.get?_update_self (Obj.mapFields (·.setIfInBounds 1 (rawInt ((i:Int)+1)))) f (Obj.isFreed_of_fields (Obj.data_mapFields d _))),(Obj.cls_mapFields ..).trans k,by rw[j];simp[rawInt]⟩
 refine fP ⟨_,rfl,?_⟩;exact fP (hQ _ z (Heap.SameBut.update ..))
def a9f(hh:A.handled=none)(x:SetIt s.heap it a (.ref T) i es.size ep)(S:SO kd s.heap a es ep t ms)(y:PlacesAt s.heap T ps)(hp:ps[i]?=none)
  (hQ:∀h',(∀b o,b≠it->s.heap.get? b=some o->h'.get? b=some o)->Q none { s with heap:=h' }):wpAny (model prog w) A (pyNext (.ref it)) Q E s:=by
 obtain⟨u,f,I,d⟩:=id x;obtain⟨⟨o,k,J,C⟩,G,p,H,g,F⟩:=id S;obtain⟨L,c,j,l⟩:=y;refine fO (h9 (wpAny_callSpecial?_slot x.ty sit_next (gE sit_next x.ty a0M ?_ (a0X _))));refine fO (fP (fO (jw f d (fO (ir k C g ?_)))));rw[if_neg (by simp)];refine fO (fO (iN j ?_));rw[l];refine fP ?_;dsimp only;have v:(ps.map λ(i:Nat)=>rawInt i).toArray[(i:Int).toNat]?=none:=by simp_all
 rw[v];dsimp only;refine fO (ib f d (by simp) ?_);have r:=Obj.data_mapFields d (·.setIfInBounds 0 (rawInt 0));refine fO (ib (Heap.get?_update_self (Obj.mapFields (·.setIfInBounds 0 (rawInt 0))) f (Obj.isFreed_of_fields (Obj.data_mapFields d _))) r (by simp) ?_);refine f9 (a6H hh λB h=>?_) (λ_ _ z=>z.elim) λe M z=>z;exact (hQ B λb o n e=>h b o (((Heap.SameBut.update s.heap it _).trans (Heap.SameBut.update _ it _)).extBut b o n e))
noncomputable def a47(es:Array (Int×Value))(ps:List Nat):List Value:=ps.map λp=>((es[p]?).getD (0,.none)).2
def a7C(hh:A.handled=none)(hne:a≠it)(hnT:T≠it)(hps:ps.Perm (aO es.size)) :
  Walks prog w A it [it,a,T] [it] es.size (λi v=>(a47 es ps)[i]?=some v) (λi h=>SetIt h it a (.ref T) i es.size ep/\SO kd h a es ep t ms/\PlacesAt h T ps):=by
 have q:ps.length=es.size:=by rw[hps.length_eq,cW]
 refine⟨λb d=>by simp at d;simp[d],λ_ _ _ c l=>⟨c.1.at λo e=>l it (by simp) o e,c.2.1.at λo e=>l a (by simp) o e,c.2.2.at λo e=>l T (by simp) o e⟩,λi s Q E r c f=>?_,λs Q E c f=>?_,λ_ _ _ _ c f=>a4i c.1 f⟩
 ·have g:i<ps.length:=by lia
  have m:=bR.mp (hps.mem_iff.mp (bz g));refine a7B c.1 c.2.1 c.2.2 (aC g) (bh m) λj x k=>?_;refine f _ j s.toks ?_ ⟨x,c.2.1.at λo e=>k.extBut a o hne e,c.2.2.at λo e=>k.extBut T o hnT e⟩ λb o d e=>k.extBut b o (λz=>d (by simp[z])) e;unfold a47;rw[aA,aC g,cA,bh m]
  rfl
 ·exact a9f hh c.1 c.2.1 c.2.2 (d8 (by lia)) λj n=>f j s.toks λb o d e=>n b o (λz=>d (by simp[z])) e
end
section
variable{prog:fV}{w:World}{A:Around}{E:Value->Shared->Prop}{s:Shared}{it a T:Addr}{f:Value}{i n ep k:Nat}{o:Obj}{es:Array (Int×Value)}{t:fQ}{K:Type}[DecidableEq K]{kd:KeyKind prog w K}{ms:List K}{ps:List Nat}
def a9g{α:Type}(d:α)(l:Array α):(aO l.size).map (λp=>(l[p]?).getD d)=l.toList:=by
 refine fj (by simp) λi b a=>?_
 have:i<l.size:=by omega
 simp[this]
def a7D(hps:ps.Perm (aO es.size)):(a47 es ps).Perm (es.toList.map (·.2)):=by
 have q:=hps.map λp=>((es[p]?).getD (0,Value.none)).2;refine q.trans (aV.of_eq ?_);rw[<- a9g (0,Value.none) es,bQ]
 rfl
def SO.ty(S:SO kd s.heap a es ep t ms):s.TypeIs (.ref a) "set":=by obtain⟨o,g,x,_⟩:=S.at_;exact⟨o,g,x.1⟩
def SO.len(S:SO kd s.heap a es ep t ms):es.size=ms.length:=by
 have q:=a9c S.nums;simpa using q
abbrev b6I(f:Value)(a:Addr)(n ep:Nat):Obj:={ cls:=.type "set_iterator",data:=.fields #[f,.int (0:Nat) 0,.ref a,.int n 0,.int ep 0] }
def a27{h:Heap}:SetIt (h.push (b6I f a n ep)) h.objs.size a f 0 n ep:=⟨_,Heap.get?_push_size _ rfl,rfl,rfl⟩
def b09(hh:A.handled=none)(S:SI kd s.heap a ms)
  (h:∀(I:Addr)(fp:List Addr)(g:Heap)(d':Drawn)(vs:List Value)(ns:List K)(St:Nat->Heap->Prop),(∀b o,s.heap.get? b=some o->g.get? b=some o)->s.heap.objs.size<=I->(∀b∈fp,b=a\/s.heap.objs.size<=b) ->
   KsAre kd vs ns->ns.Perm ms->Walks prog w A I fp [I] vs.length (λi v=>vs[i]?=some v) St->St 0 g->Q (.ref I) { s with heap:=g,drawn:=d' }) :
  wpAny (model prog w) A (pyIter (.ref a)) Q E s:=by
 obtain⟨es,ep,t,S⟩:=S;obtain⟨⟨o,p,hx,y⟩,hel,n,N,f,L⟩:=id S;have G:a<s.heap.objs.size:=Heap.lt_size p;refine wpAny_pyIter_slot S.ty PySem.F.slot_set_iter (gE PySem.F.slot_set_iter S.ty a3n ?_ (PySem.F.args_set_iter_1 _));unfold fX.«frozenset.__iter__» fX.Frozenset.slot0 fX.Frozenset.sizeOf;refine fO (fO (fP (fP (fO (fO (ir p y f (fP ?_)))))));unfold setDrawn setsByText;refine fO (fO (gG p y f (fO (fO (i9 (fP ?_))))));dsimp only;refine fP ?_
 show wpAny _ _ (if (!byT w&&(!t.plain&&decide (es.size > 1)))=true then _ else _) _ _ _
 have B:(es.toList.map (·.2)).length=es.size:=by simp
 by_cases c:(!byT w&&(!t.plain&&decide (es.size > 1)))=true
 ·rw[if_pos c];refine fO (a4j es.size (aO es.size) _ _ (by simp) λx d' q=>?_);have r:x.length=es.size:=by rw[q.length_eq,cW]
  have sb:gK<=16777216:=by decide
  refine fO (iE ?_ (by rw[aq,r,f8];lia));refine fO (jx (Heap.get?_push_of_some _ p) y f ?_);unfold newFields;refine fO (g7 (fP ⟨_,rfl,"set_iterator",_,⟨_,Heap.get?_push_size _ rfl,rfl⟩,sit_next.lookup,?_⟩));obtain⟨D,C,H⟩:=a0K n (a7D (es:=es) q);have k:s.heap.objs.size<(s.heap.push { cls:=.type "tuple",data:=.seq (x.map λ(i:Nat)=>rawInt i).toArray }).objs.size:=by rw[Heap.size_push];exact di _
  have j:=a7C (kd:=kd) (A:=A) (t:=t) (ms:=ms) (ep:=ep) (a:=a) hh (aE (cO G k)) (aE k) q;have e:(a47 es x).length=es.size:=by unfold a47;rw[aq,r]
  rw[<- e]at j;refine h _ _ _ _ _ D _ (λb o g=>Heap.get?_push_of_some _ (Heap.get?_push_of_some _ g)) (bD k) (λb u=>?_) C H j ⟨?_,S.at λo g=>Heap.get?_push_of_some _ (Heap.get?_push_of_some _ g),⟨_,_,Heap.get?_push_of_some _ (Heap.get?_push_size _ rfl),rfl⟩⟩
  ·simp only[ax,dB,or_false]at u;rcases u with rfl |rfl |rfl
   ·exact .inr (bD k)
   ·exact .inl rfl
   ·exact .inr (av _)
  ·rw[e];exact a27
 ·rw[if_neg c];refine fO (fP (fO (jx p y f ?_)));unfold newFields;refine fO (g7 (fP ⟨_,rfl,"set_iterator",_,⟨_,Heap.get?_push_size _ rfl,rfl⟩,sit_next.lookup,?_⟩));have z:∀b∈[s.heap.objs.size,a],b=a\/s.heap.objs.size<=b:=λb u=>by grind
  cases k:byT w with
  |true=>
   have J:(b08 w a ep es).Perm (es.toList.map (·.2)):=(a26 _ es).map _;obtain⟨D,C,H⟩:=a0K n J;have j:=a9e (kd:=kd) (A:=A) (t:=t) (ms:=ms) (ep:=ep) (es:=es) (a:=a) hh (aE G) k;have e:(b08 w a ep es).length=es.size:=by rw[J.length_eq,B]
   rw[<- e]at j;refine h _ _ _ _ _ D _ (λb o g=>Heap.get?_push_of_some _ g) (av _) z C H j ⟨?_,S.at λo g=>Heap.get?_push_of_some _ g⟩;rw[e];exact a27
  |false=>
   have M:(!t.plain&&decide (es.size > 1))=false:=by
    rw[k]at c;simpa using c
   have j:=a7A (kd:=kd) (A:=A) (t:=t) (ms:=ms) (ep:=ep) (es:=es) (a:=a) hh (aE G) k M f L;rw[<- B]at j;refine h _ _ _ _ _ ms _ (λb o g=>Heap.get?_push_of_some _ g) (av _) z n (aV.refl _) j ⟨?_,S.at λo g=>Heap.get?_push_of_some _ g⟩;rw[B];exact a27
end
section
variable{prog:fV}{w:World}{A:Around}{E:Value->Shared->Prop}{s:Shared}{a:Addr}{K:Type}[DecidableEq K]{kd:KeyKind prog w K}{ms:List K}
def b1a(y:s.TypeIs (.ref a) "set")(h:Q false s):wpAny (model prog w) A (fX.List.listLengthHint (.ref a)) Q E s:=by
 refine fO (wpAny_specialOf y PySem.F.slot_set_len.lookup ?_);generalize e0:_=z;exact fO (iG (b:=true) y (by rw[ja];kernel_rfl) (fO (jk y (fP h))))
def b1b(h:ItemsOf (λi v=>vs[i]?=some v) acc vs.length):acc.toList=vs:=by
 obtain⟨a,b⟩:=h;refine fj (by omega) λi d c=>?_;have e:i<acc.size:=by omega
 have:vs[i]?=some acc[i]:=b i acc[i] (bh e)
 rw[aC c]at this;simpa using this.symm
def a7E(hh:A.handled=none)(S:SI kd s.heap a ms)(L:Addr)(hL:L≠a)(res:Value)(c0:Nat)(gL:s.heap.get? L=some { cls:=.type "list",data:=.seq #[] c0 })
  (hR:∀g tk d' acc c' ns,(∀b o,b≠L->s.heap.get? b=some o->g.get? b=some o)->g.get? L=some { cls:=.type "list",dict:=none,data:=.seq acc c',slots:=#[] }->KsAre kd acc.toList ns->ns.Perm ms->R (.ok (.ret res)) { s with heap:=g,drawn:=d',toks:=tk }) :
  wpAny (model prog w) A.in1 (fX.List.listExtendWith (.ref L) (.ref a) res)
   (λfin s'=>match fin with |.done f=>R (.ok f) s' |.again c'=>c'.quiet=true/\gF (model prog w) A c' R s') (λe s'=>R (.error e) s') s:=by
 have ty:s.TypeIs (.ref a) "set":=by obtain⟨_,_,_,S'⟩:=S;exact S'.ty
 have small:ms.length<=sizeLine:=by
  obtain⟨es,ep,t,S'⟩:=S;have q1:=S'.len;have q2:=S'.sc;have sb:gK<=16777216:=by decide
  rw[f8];lia
 have lL:=Heap.lt_size gL;unfold fX.List.listExtendWith;refine fO (jk ty ?_);have n1:fX.List.listSameRef (.ref L) (.ref a)=false:=by simp[fX.List.listSameRef,hL]
 have n2:(Value.type "set"==Value.type "list")=false:=by decide
 have n3:(Value.type "set"==Value.type "tuple")=false:=by decide
 simp only[n1,n2,n3,Bool.or_false,cG,if_false];refine fO (b09 hh S λI fp g d' vs ns St kp hI hfp i1 i2 wk st=>?_);have nf:L∉fp:=λz=>(hfp L z).elim hL λq=>bt _ (aP lL q);have hz:vs.length<=sizeLine:=by
  have q:=a9c i1;rw[i2.length_eq]at q
  lia
 have key:∀(d:Heap)(c1:Nat),St 0 d->(∀b o,b≠L->g.get? b=some o->d.get? b=some o)->d.get? L=some { cls:=.type "list",data:=.seq #[] c1 } ->
   gF (model prog w) A (.builtin "list.extend.loop" ⟨[.ref L,.ref I,res],[]⟩) R { s with heap:=d,drawn:=d' }:=by
  intro d c1 st2 k2 gL2;refine codeAny_extend_loopS wk.toS hz L nf res vs.length 0 _ #[] c1 rfl (aR _) st2 gL2 (ItemsOf.nil _) λs3 acc c3 mv g3 hacc=>?_;rw[Moved.eq_with mv];refine hR s3.heap s3.toks d' acc c3 ns (λb o i e=>mv.heap b o (λhm=>?_) (k2 b o i (kp b o e))) g3 (b1b hacc▸i1) i2;rcases ax.mp hm with q |q
  ·exact i q
  ·rw[ay.mp q]at e;exact bt _ (aP (Heap.lt_size e) hI)
 have h:=kp L _ gL;refine fO (gh (b1a (by obtain⟨o,e,c⟩:=ty;exact⟨o,kp _ _ e,c⟩) (gO (λ_=>?_) λ_=>fP ⟨iq PySem.F.plain_extend_loop _,key _ c0 st (λb o _ e=>e) h⟩)));refine fO (gQ (fO ?_))
 show wpAny _ _ (updateSeq L (·.push .none) >>= λ_=>updateSeq L (·.pop)) _ _ _
 refine fO (jS h rfl ?_);have d:=Heap.get?_update_self (Obj.mapSeq (·.push Value.none)) h rfl;refine jS d rfl ?_;have j:∀b o,b≠L->g.get? b=some o->((g.update L (Obj.mapSeq (·.push Value.none))).update L (Obj.mapSeq (·.pop))).get? b=some o:=λb o i e=>
  (Heap.get?_update_other _ _ (Ne.symm i)).trans ((Heap.get?_update_other _ _ (Ne.symm i)).trans e)
 exact fP ⟨iq PySem.F.plain_extend_loop _,key _ _ (wk.frame 0 _ _ st λb hb o e=>j b o (λq=>nf (q▸hb)) e) j (Heap.get?_update_self (Obj.mapSeq (·.pop)) d rfl)⟩
def collect_set(hh:A.handled=none)(S:SI kd s.heap a ms)
  (h:∀(g:Heap)(tk:Nat)(d':Drawn)(vs:List Value)(ns:List K),(∀b o,s.heap.get? b=some o->g.get? b=some o)->KsAre kd vs ns->ns.Perm ms->R vs { s with heap:=g,drawn:=d',toks:=tk }) :
  wpAny (model prog w) A (collect (.ref a)) R E s:=by
 have C:=let ⟨_,_,_,S'⟩:=S;let ⟨_,g,_⟩:=S'.at_;Heap.lt_size g
 refine fO (wpAny_runValue (hZ PySem.F.entry_proto_collect ?_));rw[Around.under_plainId PySem.F.plain_proto_collect _];refine fO (g7 (fP ⟨iq PySem.F.plain_list_iadd _,hZ PySem.F.entry_list_iadd ?_⟩));rw[Around.under_plainId PySem.F.plain_list_iadd _];have z:(s.heap.push { cls:=.type "list",data:=.seq ([]).toArray }).get? s.heap.objs.size=some { cls:=.type "list",data:=.seq #[] }:=Heap.get?_push_size _ rfl;have u:=a7E (s:={ s with heap:=s.heap.push { cls:=.type "list",data:=.seq ([]).toArray } })
  (R:=λq t=>∃(g:Heap)(j:Nat)(i:Drawn)(c:Array Value)(n:Nat)(d:List K),q=.ok _/\t={ s with heap:=g,drawn:=i,toks:=j } /\
   (∀b o,s.heap.get? b=some o->g.get? b=some o)/\g.get? s.heap.objs.size=some { cls:=.type "list",dict:=none,data:=.seq c n,slots:=#[] }/\KsAre kd c.toList d/\d.Perm ms)
  hh (S.at λo e=>Heap.get?_push_of_some _ e) s.heap.objs.size (bH C) (.ref s.heap.objs.size) 0 z
  λg j i c n d m r p k=>⟨g,j,i,c,n,d,rfl,rfl,λb o e=>m b o (aE (Heap.lt_size e)) (Heap.get?_push_of_some _ e),r,p,k⟩
 refine f9 u (λv t x=>?_) λe t x=>?_
 ·cases v with
  |done f=>
   obtain⟨g,j,i,c,n,d,e,rfl,m,r,p,k⟩:=x;cases e;exact fO (iN r (fP (h g j i _ d m p k)))
  |again c1=>
   refine⟨x.1,g5 x.2 λq D y=>?_⟩;obtain⟨g,j,i,c,n,d,rfl,rfl,m,r,p,k⟩:=y;exact fO (iN r (fP (h g j i _ d m p k)))
 ·obtain⟨_,_,_,_,_,_,B,_⟩:=x;cases B
end
end SetW
namespace L2
open PySem PySem.Spec PyProof.Rows
def a6J:∀{vs:List Value}{ns:List Int},gj vs ns->vs.length=ns.length:=by intro z0 y0 x0;induction x0 with
 |nil=>exact rfl
 |cons n t h I0=>rw[aI,aI,I0]
def a9h:∀{vs:List Value}{ns:List Int},gj vs ns->Vals (ns.map V.int) vs:=by intro z0 y0 x0;induction x0 with
 |nil=>exact .nil
 |cons n t h I0=>exact .cons ⟨t,rfl⟩ (I0)
section
variable{P:fV}{w:World}{A:Around}{E:Value->Shared->Prop}{s:Shared}
def a9i(hmx:ns.length<=1000)
  (hcol:∀R:List Value->Shared->Prop,(∀(g:Heap)(tk:Nat)(d:Drawn)(vs:List Value)(ks:List Int),(∀b o,s.heap.get? b=some o->g.get? b=some o)->gj vs ks->ks.Perm ns->R vs { s with heap:=g,drawn:=d,toks:=tk })->wpAny (model P w) A.in1 (collect (.ref r)) R E s)
  (h:∀(g g':Heap)(tk:Nat)(d:Drawn)(out:List Value)(n:Nat)(ms:List Int),(∀b o,s.heap.get? b=some o->g.get? b=some o)->(∀b o,g.get? b=some o->g'.get? b=some o)->g'.get? g.objs.size=some { cls:=.type "list",data:=.seq out.toArray n } ->
   gj out ms->ms.Perm ns->ms.Pairwise (·<=·)->Q (.ref g.objs.size) { s with heap:=g',drawn:=d,toks:=tk }):wpAny (model P w) A (call (.builtin "sorted") [.ref r]) Q E s:=by
 refine Calls.call_function_entry jT jU jV (args_sorted1 _) (fO (fP (fO (hcol _ λg t d f ks p l k=>?_))));have hl:=(a6J l).trans k.length_eq;have v:f.length<=sizeLine:=by rw[f8];lia
 refine fO (i6 ?_ v);have j:(g.push _).get? g.objs.size=some (seqObj "list" f.toArray 0):=Heap.get?_push_size _ rfl;refine fO (gh (gE jW ⟨_,j,rfl⟩ jX (Tim.sort_any j l (by lia) λout u y x q=>⟨_,rfl,?_⟩) (args_list_sort _)));have c:=sortedHeap_at (out:=out) j;obtain⟨n,c⟩:=c;refine fP ⟨_,rfl,h g _ t d out.toList n u p (λb o e=>?_) (by omega) y (x.trans k) q⟩;have i:=Heap.lt_size e;rw[sortedHeap_old (aE i) (by rw[Heap.size_push];exact cD i)];exact Heap.get?_push_of_some _ e
end
section
variable{X:Cx}
def Inv.drew(I:Inv X pins σ H s)(d:Drawn):Inv X pins σ H { s with drawn:=d }:=
 I.step (ch:=[]) (λb a=>nomatch a) (λb o _ _ _ e _=>e) (λb o _ _ _ e _=>⟨o.slots,e⟩) (λ_ _ _ _ n=>n) (λb o _ e=>⟨o,e⟩) (λ_ _ e=>e) (λ_ _ _ e=>e) (λb f e=>⟨#[],by rw[e];simp⟩) (λm c=>c) I.hok I.bare
end
structure Zs where
 it:Addr
 tp:Bool
 l:Addr
def Zs.At(z:Zs)(k:Nat)(h:Heap):Prop:=if z.tp=true then h.IsTupleIter z.it z.l k else h.IsListIter z.it z.l k
def Zs.Has(z:Zs)(h:Heap)(xs:Array Value):Prop:=if z.tp=true then h.IsTuple z.l xs else h.IsList z.l xs
def Zs.At.keep{z:Zs}(a:z.At k h)(q:∀o,h.get? z.it=some o->h'.get? z.it=some o):z.At k h':=by
 unfold Zs.At at a ⊢
 split
 ·next e=>rw[if_pos e]at a;exact a.at q
 ·next e=>rw[if_neg e]at a;exact a.at q
def Zs.Has.keep{z:Zs}(a:z.Has h xs)(q:∀o,h.get? z.l=some o->h'.get? z.l=some o):z.Has h' xs:=by
 unfold Zs.Has at a ⊢
 split
 ·next e=>rw[if_pos e]at a;exact let ⟨o,ho,r⟩:=a;⟨o,q o ho,r⟩
 ·next e=>rw[if_neg e]at a;exact let ⟨o,ho,r⟩:=a;⟨o,q o ho,r⟩
def Zs.At.obj{z:Zs}(a:z.At k h):∃o,h.get? z.it=some o/\∀v,o.data≠.cell v:=by
 unfold Zs.At at a
 split at a<;>(obtain⟨o,e,_,d⟩:=a;exact⟨o,e,λv q=>by rw[d]at q;cases q⟩)
section
variable{P:fV}{w:World}{A:Around}{E:Value->Shared->Prop}{s:Shared}
def b6J(ti:s.heap.IsTupleIter it t i)(th:s.heap.IsTuple t xs)(hx:xs[i]?=some x)
  (q:∀g,g.IsTupleIter it t (i+1)->Heap.SameBut it s.heap g->Q x { s with heap:=g }):wpAny (model P w) A (fX.SmallTypes.nextOf (.ref it)) Q E s:=by
 obtain⟨o,b,c,a⟩:=id ti;obtain⟨u,e,_,n,d⟩:=th;refine fO (wpAny_callSpecial?_slot ti.typeIs PySem.F.slot_tuple_iterator_next
  (gE PySem.F.slot_tuple_iterator_next ti.typeIs PySem.F.entry_tuple_iterator_next ?_ (PySem.F.args_tuple_iterator_next_1 _)))
 show wpAny _ _ (field _ 0 >>= _) _ _ s
 refine fO (gH b a rfl ?_);refine fO (gH b a rfl ?_);refine fO (jd e d ?_);simp only[fm,hx];refine fO (ib b a (by simp) (fP ⟨x,rfl,fP (q _ ?_ (Heap.SameBut.update ..))⟩));exact⟨_,Heap.get?_update_self _ b (Obj.isFreed_of_fields (Obj.data_mapFields a _)),(Obj.cls_mapFields ..).trans c,by rw[Obj.data_mapFields a];simp[rawInt]⟩
def a9j(hh:A.handled=none)(ti:s.heap.IsTupleIter it t i)(th:s.heap.IsTuple t xs)(hx:xs[i]?=none)
  (q:∀g e,Heap.ExtBut it s.heap g->(∃o,g.get? e=some o/\o.cls=.type "StopIteration")->E (.ref e) { s with heap:=g }):wpAny (model P w) A (fX.SmallTypes.nextOf (.ref it)) Q E s:=by
 obtain⟨o,b,h,c⟩:=id ti;obtain⟨u,f,_,n,d⟩:=th;refine fO (wpAny_callSpecial?_slot ti.typeIs PySem.F.slot_tuple_iterator_next
  (gE PySem.F.slot_tuple_iterator_next ti.typeIs PySem.F.entry_tuple_iterator_next ?_ (PySem.F.args_tuple_iterator_next_1 _)))
 show wpAny _ _ (field _ 0 >>= _) _ _ s
 refine fO (gH b c rfl ?_);refine fO (gH b c rfl ?_);refine fO (jd f d ?_);simp only[fm,hx];refine fO (gQ (fO (ib b c (by simp) ?_)));refine fO ?_;refine fO (g7 ?_ (by size_fits));refine fO (ju (by first |rfl | (simp;rfl)) ?_)
 refine g7 ?_ (by size_fits);refine fO (wpAny_handled ?_)
 first |rw[hh] |rw[hh]
 refine fO (fP (wpAny_throw ?_));exact q _ _ (((Heap.SameBut.update ..).extBut.push _).push _) ⟨_,Heap.get?_push_size _ rfl,rfl⟩
def b3O{z:Zs}(a:z.At i s.heap)(b:z.Has s.heap xs)(hx:xs[i]?=some x)
  (q:∀g,z.At (i+1) g->Heap.SameBut z.it s.heap g->Q x { s with heap:=g }):wpAny (model P w) A (fX.SmallTypes.nextOf (.ref z.it)) Q E s:=by
 obtain⟨d,c,l⟩:=z;cases c with
 |true=>exact b6J a b hx q
 |false=>exact wpAny_nextOf_list_item a b hx q
def b6K{z:Zs}(hh:A.handled=none)(a:z.At i s.heap)(b:z.Has s.heap xs)(hx:xs[i]?=none)
  (q:∀g e,Heap.ExtBut z.it s.heap g->(∃o,g.get? e=some o/\o.cls=.type "StopIteration")->E (.ref e) { s with heap:=g }):wpAny (model P w) A (fX.SmallTypes.nextOf (.ref z.it)) Q E s:=by
 obtain⟨d,c,l⟩:=z;cases c with
 |true=>exact a9j hh a b hx q
 |false=>exact wpAny_nextOf_list_end hh a b hx q
end
abbrev IsTu(h:Heap)(T:Addr)(xs:Array Value):Prop:=h.get? T=some { cls:=.type "tuple",data:=.seq xs }
structure ZAp (z TI TO:Addr) (zs:List Zs):Prop where
 nd:(zs.map (·.it)).Nodup
 a1:TI≠z
 a2:TO≠z
 a3:TI≠TO
 its:∀y∈zs,y.it≠z/\y.it≠TI/\y.it≠TO
 ls:∀y∈zs,y.l≠z/\y.l≠TO/\∀x∈zs,y.l≠x.it
section
variable{P:fV}{w:World}{A:Around}{E:Value->Shared->Prop}{s:Shared}
def b2s{z TI TO:Addr}{olds:List Value}{arr:Zs->Array Value}{Q:Value->Shared->Prop}(hh:A.handled=none)(D:ZAp z TI TO zs)(hne:zs≠[])(hsm:zs.length<=1000)
  (hz:IsZip s.heap z TI TO .none) (hI:IsTu s.heap TI (zs.map λy=>Value.ref y.it).toArray) (hO:IsTu s.heap TO olds.toArray) (hol:olds.length=zs.length)
  (hat:∀y∈zs,y.At k s.heap) (hhas:∀y∈zs,y.Has s.heap (arr y))
  (hQ:∀(g:Heap)(T:Addr)(vs:List Value),vs.length=zs.length->(∀(i:Nat) y,zs[i]?=some y->∃v,vs[i]?=some v/\(arr y)[k]?=some v)->T=s.heap.objs.size->IsZip g z TI TO (rawInt T)->IsTu g TI (zs.map λy=>Value.ref y.it).toArray->IsTu g TO vs.toArray->IsTu g T vs.toArray ->
   (∀y∈zs,y.At (k+1) g)->(∀c o,c≠z->c≠TO->(∀y∈zs,c≠y.it)->s.heap.get? c=some o->g.get? c=some o)->Q (.ref T) { s with heap:=g })
  (hE:(∃y∈zs,(arr y)[k]?=none)->∀g e,(∀c o,c≠z->c≠TO->(∀y∈zs,c≠y.it)->s.heap.get? c=some o->g.get? c=some o)->(∃o,g.get? e=some o/\o.cls=.type "StopIteration")->E (.ref e) { s with heap:=g }) :
  wpAny (model P w) A (fX.«zip.__next__» ⟨[.ref z],[]⟩) (λfin s'=>∃v,fin=.done (.ret v)/\Q v s') E s:=by
 show wpAny (model P w) _ (field (.ref z) 2 >>= _) _ _ _
 refine fO (gH hz rfl (x:=.bool false) rfl ?_)
 show wpAny (model P w) _ (field (.ref z) 3 >>= _) _ _ _
 refine fO (gH hz rfl (x:=.ref TI) rfl (fO (jd hI rfl ?_)));have he:(zs.map λy=>Value.ref y.it).toArray.isEmpty=false:=by
  cases zs with
  |nil=>exact absurd rfl hne
  |cons _ _=>rfl
 dsimp only;rw[he]
 show wpAny (model P w) _ (fX.SmallTypes.ownedTupleIsFree (.ref z) >>= _) _ _ _
 refine fO ?_;unfold fX.SmallTypes.ownedTupleIsFree;refine fO (gH hz rfl (x:=.none) rfl (fP ?_));simp only[if_true];refine fO (gQ (fO (gH hz rfl (x:=.ref TO) rfl (fO (jy hz (by simp) λg1 z1 N=>?_)))))
 replace z1:IsZip g1 z TI TO .ellipsis:=z1
 refine fO ?_;refine jY _ (λL b s'=>b.1=none/\∃(j n:List Zs)(d h:List Value)(g:Heap),zs=j++n/\L=(n.map λy=>Value.ref y.it).zipIdx j.length/\d.length=j.length/\h.length=n.length/\s'={ s with heap:=g } /\
  (∀(i:Nat) y,j[i]?=some y->∃v,d[i]?=some v/\(arr y)[k]?=some v)/\IsZip g z TI TO .ellipsis/\IsTu g TO (d++h).toArray/\(∀y∈j,y.At (k+1) g)/\(∀y∈n,y.At k g)/\g.objs.size=s.heap.objs.size /\
  (∀c o,c≠z->c≠TO->(∀y∈zs,c≠y.it)->s.heap.get? c=some o->g.get? c=some o)) _ ?_ ?_ _ _ ?_
 ·rintro x L b s' ⟨hb,j,n,d,h,g,r,R,I,U,rfl,ev,S,X,ad,F,sg,J⟩;cases n with
  |nil=>simp at R
  |cons y n=>
   cases h with
   |nil=>simp at U
   |cons o h=>
   rw[aF,eS]at R;cases R;have a:y∈zs:=by rw[r];simp
   have hyl:=λo q=>J _ o (D.ls y a).1 (D.ls y a).2.1 (D.ls y a).2.2 q;dsimp only;refine fO (wpAny_onRaise ?_)
   show wpAny (model P w) _ (fX.SmallTypes.nextOf (.ref y.it) >>= _) _ _ _
   cases hx:(arr y)[k]? with
   |none=>
    refine fO (b6K (z:=y) hh (F y (.head _)) ((hhas y a).keep hyl) hx λH e x2 he=>?_);obtain⟨oe,V,he2⟩:=he;have Y:IsZip H z TI TO .ellipsis:=x2 _ _ (D.its y a).1.symm S;have hez:e≠z:=λq=>by subst q;rw[Y]at V;cases V;simp at he2
    exact jy Y (by simp) λg3 _ p=>hE ⟨y,a,hx⟩ g3 e (λc u m G t q=>p.extBut _ _ m (x2 _ _ (t y a) (J c u m G t q))) ⟨oe,p.extBut _ _ hez V,he2⟩
   |some v=>
    refine fO (b3O (z:=y) (F y (.head _)) ((hhas y a).keep hyl) hx λH a2 C=>fP ?_);have o2:IsTu H TO (d++o::h).toArray:=C.extBut _ _ (D.its y a).2.2.symm X;refine fO (jd o2 rfl ?_);have W:(d++o::h).length=zs.length:=by rw[r];simp[I];simpa using U
    refine fO (jS o2 rfl ?_ (by rw[aU,W,f8];lia) (by rw[fq,aU,W,f8];lia));refine fO (wpAny_letGo (fP ?_));have nd:(j.map (·.it)++y.it::n.map (·.it)).Nodup:=by have:=D.nd;rw[r]at this;simpa using this
    have p:Heap.SameBut TO H (H.update TO (Obj.mapSeq (·.setIfInBounds j.length v))):=Heap.SameBut.update ..;have o3:IsTu (H.update TO (Obj.mapSeq (·.setIfInBounds j.length v))) TO ((d++[v])++h).toArray:=by
     show Heap.get? _ _=_
     rw[Heap.get?_update_self _ o2 rfl]
     have:(d++o::h).set d.length v=(d++[v])++h:=by simp
     simp[Obj.mapSeq,<- I]
    refine⟨rfl,j++[y],n,d++[v],h,_,by rw[r];simp,by simp,by simp[I],by simpa using U,rfl,?_,p.extBut _ _ D.a2.symm (C.extBut _ _ (D.its y a).1.symm S),o3,?_,?_,by rw[p.1,C.1,sg],?_⟩
    ·intro i x B
     by_cases hlt:i<j.length
     ·rw[cy hlt]at B;obtain⟨v',q1,q2⟩:=ev i x B;exact⟨v',by rw[cy (by lia)];exact q1,q2⟩
     ·rw[cx (by lia)]at B;have h0:i-j.length=0:=by
       have:=(az.mp B).1
       simp at this;lia
      rw[h0]at B;simp at B;subst B;exact⟨v,by rw[cx (by lia),show i-d.length=0 by lia];rfl,hx⟩
    ·intro x f;rcases au.mp f with f |f
     ·have M:x∈zs:=by rw[r];simp[f]
      refine (ad x f).keep λu q=>p.extBut _ _ (D.its x M).2.2 (C.extBut _ _ (λz=>?_) q);rw[b5]at nd;exact nd.2.2 x.it (bg f) y.it (by simp) z
     ·rw[ay.mp f];exact a2.keep λu q=>p.extBut _ _ (D.its y a).2.2 q
    ·intro x f;have M:x∈zs:=by rw[r];simp[f]
     refine (F x (.tail _ f)).keep λu q=>p.extBut _ _ (D.its x M).2.2 (C.extBut _ _ (λz=>?_) q);rw[b5]at nd;exact (bv.mp nd.2.1).1 (z▸bg f)
    ·intro c u m G t q;exact p.extBut _ _ G (C.extBut _ _ (t y a) (J c u m G t q))
 ·rintro b s' ⟨hb,j,n,d,h,g,r,R,I,U,rfl,ev,S,X,ad,F,sg,J⟩;have htd:n=[]:=by
   cases n with
   |nil=>rfl
   |cons _ _=>simp at R
  subst htd;have hos:h=[]:=by simpa using U
  subst hos;rw[a9]at r X;subst r;obtain⟨N,C⟩:=b;subst hb;dsimp only;refine fO (jd X rfl (fO (iE ?_ (by show d.toArray.toList.length<=fR;simp only[I,f8];lia))))
  show wpAny (model P w) _ (fX.SmallTypes.ownedTupleHandOut (.ref z) (.ref g.objs.size) >>= _) _ _ _
  refine fO ?_;unfold fX.SmallTypes.ownedTupleHandOut;have hzl:=Heap.lt_size S;have Y:IsZip (g.push { cls:=.type "tuple",data:=.seq d.toArray.toList.toArray }) z TI TO .ellipsis:=Heap.get?_push_of_some _ S;refine fO (jy Y (by simp) λg3 z3 p=>?_)
  replace z3:IsZip g3 z TI TO (rawInt g.objs.size):=z3
  refine jy z3 (by simp) λg4 z4 b4=>?_
  replace z4:IsZip g4 z TI TO (rawInt g.objs.size):=z4
  have up:∀c o,c≠z->g.get? c=some o->g4.get? c=some o:=λc o m q=>b4.extBut _ _ m (p.extBut _ _ m (Heap.get?_push_of_some _ q));have t4:IsTu g4 g.objs.size d.toArray:=b4.extBut _ _ (bH hzl) (p.extBut _ _ (bH hzl) (by simpa using Heap.get?_push_size _ rfl));refine fP ⟨_,rfl,?_⟩;refine hQ g4 g.objs.size d I ev sg z4 (up _ _ D.a1 (J _ _ D.a1 D.a3 (λy a=>(D.its y a).2.1.symm) hI)) (up _ _ D.a2 X) t4 (λy a=>(ad y a).keep λo q=>up _ o (D.its y a).1 q) λc o m G t q=>up c o m (J c o m G t q)
 ·refine⟨rfl,[],zs,[],olds,g1,rfl,by simp,rfl,hol,rfl,λi y q=>by simp at q,z1,by simpa using N.extBut _ _ D.a2 hO,λy q=>by simp at q,λy a=>(hat y a).keep λo q=>N.extBut _ _ (D.its y a).1 q,N.1,λc o m _ _ q=>N.extBut _ _ m q⟩
end
section
variable{X:Cx}{pins:List (Addr×Obj)}{σ:St}{H:Hp}{s:Shared}{h':Heap}
def Inv.turnedN{ch:List Addr}(I:Inv X pins σ H s)(hf:∀b∈ch,FpOk X pins H b)(k:∀b o,b∉ch->s.heap.get? b=some o->h'.get? b=some o):Inv X pins σ H { s with heap:=h',toks:=t' }:=by
 have d:∀b u,H b=some u->b∉ch:=λb u e z=>by rw[(hf b z).1]at e;cases e
 refine I.step (λb i=>?_) (λb o _ _ a e _=>k b o a e) (λb o _ _ a e _=>⟨o.slots,k b o a e⟩) (λ_ _ _ _ n=>n)
  (λb o a e=>⟨o,k b o a e⟩) (λ_ _ e=>e) (λ_ _ _ e=>e) (λb x e=>⟨#[],by rw[e];simp⟩) (λm j=>?_) (λb u e=>?_) I.bare
 ·obtain⟨_,t,_,g,w,l⟩:=hf b i;exact⟨g,t,w,l⟩
 ·obtain⟨o,h,f,p,r⟩:=j;exact⟨o,h,f,k _ o (λz=>(hf _ z).2.1 rfl) p,r⟩
 ·refine (I.hok b u e).stay (λc v a q=>k c v ?_ q) (λ_ q=>q) λ_ _ q=>q;rcases a with z |z
  ·simp_all
  ·simp_all
def Inv.turnedT{ch:List Addr}(I:Inv X pins σ H s)(hf:∀b∈ch,FpOk X pins H b)(k:∀b o,b∉ch->s.heap.get? b=some o->h'.get? b=some o)
  (hT:s.heap.objs.size<=T) (r:Vals vs us) (hz:vs.length<=fR) (ht:IsTup h' T us.toArray):Inv X pins σ (upd H T (.tup vs)) { s with heap:=h',toks:=t' }:=by
 have g:∀b u,H b=some u->b∉ch:=λb u e z=>by rw[(hf b z).1]at e;cases e
 have d:=I.hok.fresh hT;have y:∀b o,s.heap.get? b=some o->b≠T:=λb o e=>aE (aP (Heap.lt_size e) hT);refine I.step (λb f=>?_) (λb o _ _ a e _=>k b o a e) (λb o _ _ a e _=>⟨o.slots,k b o a e⟩) (λb o _ e n=>by rw[a0c (y b o e)];exact n)
  (λb o a e=>⟨o,k b o a e⟩) (λb l e=>by rw[a0c (a0r e d)];exact e) (λb _ _ e=>by rw[a0c (a0r e d)];exact e) (λb B e=>⟨#[],by rw[a0c (a0r e d),e];simp⟩) (λm x=>?_) (λb u e=>?_) I.bare
 ·obtain⟨_,j,_,p,A,t⟩:=hf b f;exact⟨p,j,A,t⟩
 ·obtain⟨o,i,w,h,r⟩:=x;exact⟨o,i,w,k _ o (λz=>(hf _ z).2.1 rfl) h,r⟩
 ·by_cases f:b=T
  ·subst f;rw[a0d]at e;cases e;exact⟨hz,us,r,ht⟩
  ·rw[a0c f]at e;refine (I.hok b u e).stay (λc v a q=>k c v ?_ q) (λc q=>by rw[a0c (a0r q d)];exact q) λc l q=>by rw[a0c (a0r q d)];exact q
   rcases a with z |z
   ·simp_all
   ·simp_all
end
def SrcV(K:Fg)(H:Hp)(y:Zs)(xs:List V):Prop:=if y.tp=true then SqT K H y.l xs else SqL K H y.l xs
noncomputable def SrcV.has(I:Inv X pins σ H s)(h:SrcV X.K H y xs):∃its:List Value,Vals xs its/\y.Has s.heap its.toArray:=by
 unfold SrcV at h;unfold Zs.Has
 split at h
 ·next e=>obtain⟨a,r,p,_⟩:=I.tuple h;exact⟨a,r,by rw[if_pos e];exact p⟩
 ·next e=>obtain⟨a,r,p,_⟩:=I.list h;exact⟨a,r,by rw[if_neg e];exact p.isList⟩
def SrcV.inj(I:Inv X pins σ H s)(h:SrcV X.K H y xs)(h':SrcV X.K H y xs'):xs=xs':=by
 unfold SrcV at h h'
 split at h
 ·next e=>rw[if_pos e]at h';exact I.tuple_inj h h'
 ·next e=>rw[if_neg e]at h';exact I.list_inj h h'
noncomputable def Itz(K:Fg)(zs:List Zs):It:=
  ⟨λi H=>∀y∈zs,∃xs x,SrcV K H y xs/\xs[i]?=some x,
   λi H x H'=>∃T vs,H T=none/\x=.ref T/\H'=upd H T (.tup vs)/\vs.length=zs.length/\∀(j:Nat) y xs,zs[j]?=some y->SrcV K H y xs->∃v,vs[j]?=some v/\xs[i]?=some v,
   λi H=>(∀y∈zs,∃xs,SrcV K H y xs)/\∃y∈zs,∃xs,SrcV K H y xs/\xs.length<=i⟩
def TnZ(z TI TO:Addr)(zs:List Zs)(i:Nat)(h:Heap):Prop:=IsZip h z TI TO .none/\IsTu h TI (zs.map λy=>Value.ref y.it).toArray/\(∃olds:List Value,olds.length=zs.length/\IsTu h TO olds.toArray)/\∀y∈zs,y.At i h
theorem Vals.of_get:∀{vs:List V}{us:List Value},vs.length=us.length->(∀(i:Nat) v u,vs[i]?=some v->us[i]?=some u->RelV v u)->Vals vs us
 |[],[],_,_=>.nil
 |[],_::_,h,_=>by simp at h
 |_::_,[],h,_=>by simp at h
 |v::vs,u::us,h,q=>.cons (q 0 v u rfl rfl) (Vals.of_get (by simpa using h) λi v u a b=>q (i+1) v u (by simpa using a) (by simpa using b))
theorem b1c{P:fV}{w:World}{K:Fg}{elts:List Expr}{x1}{pos:Pos}{z TI TO:Addr}{zs:List Zs}(D:∀(X:Cx) pins σ H s,X.K=K->Inv X pins σ H s->(∀b∈z::TI::TO::zs.map (·.it),H b=none)->(∀y∈zs,∃xs,SrcV K H y xs)->ZAp z TI TO zs)(hne:zs≠[])(hsm:zs.length<=1000) :
  Turn P w K (.Tuple elts x1 pos) (Itz K zs) (z::TI::TO::zs.map (·.it)) z (TnZ z TI TO zs) where
 mem:=by simp
 obj:=λi h ⟨t1,t2,⟨olds,_,t3⟩,t4⟩ b hb=>by
  rcases ax.mp hb with rfl |hb
  ·exact⟨_,t1,λv q=>by have q':Data.fields _=Data.cell v:=q;cases q'⟩
  rcases ax.mp hb with rfl |hb
  ·exact⟨_,t2,λv q=>by have q':Data.seq _ _=Data.cell v:=q;cases q'⟩
  rcases ax.mp hb with rfl |hb
  ·exact⟨_,t3,λv q=>by have q':Data.seq _ _=Data.cell v:=q;cases q'⟩
  obtain⟨y,hy,rfl⟩:=aM.mp hb;exact (t4 y hy).obj
 keep:=λi h h' ⟨t1,t2,⟨olds,t0,t3⟩,t4⟩ k=>⟨k z (by simp) _ t1,k TI (by simp) _ t2,⟨olds,t0,k TO (by simp) _ t3⟩,λy hy=>(t4 y hy).keep λo q=>k y.it (by simp;exact .inr (.inr (.inr ⟨y,hy,rfl⟩))) o q⟩
 item:=by
  intro X hP hw hK hc i pins s σ H E I hf st hg;subst hP hw hK;obtain⟨t1,t2,⟨olds,t0,t3⟩,t4⟩:=st;have Da:=D X pins σ H s rfl I (λb hb=>(hf b hb).1) λy hy=>let ⟨xs,_,q,_⟩:=hg y hy;⟨xs,q⟩
  have ex:∀y:Zs,∃its:List Value,y∈zs->∃xs,SrcV X.K H y xs/\Vals xs its/\y.Has s.heap its.toArray/\∃x,xs[i]?=some x:=λy=>by
   by_cases hy:y∈zs
   ·obtain⟨xs,x,q1,q2⟩:=hg y hy;obtain⟨its,r,p⟩:=q1.has I;exact⟨its,λ_=>⟨xs,q1,r,p,x,q2⟩⟩
   ·exact⟨[],λq=>absurd q hy⟩
  obtain⟨arr,harr⟩:=Classical.axiomOfChoice ex;have hT:s.TypeIs (.ref z) "zip":=⟨_,t1,rfl⟩;unfold pyNext;refine fO (h9 (wpAny_callSpecial?_slot (name:=Str.ofString "__next__") hT PySem.F.slot_zip_next (gE PySem.F.slot_zip_next hT PySem.F.entry_zip_next ?_ (PySem.F.args_zip_next_1 _))));refine b2s (arr:=λy=>(arr y).toArray) (k:=i) (I.ok.hd hc) Da hne hsm t1 t2 t3 t0 t4 (λy hy=>let ⟨_,_,_,p,_⟩:=harr y hy;p) ?_ ?_
  ·intro g T us hl hv hT' z2 ti2 to2 tt2 at2 kp;refine fP ⟨_,rfl,?_⟩;refine wpAny_letOwnedTupleGo_zip (s:={ s with heap:=g }) z2 λg3 z3 b3=>?_;have zl:=Heap.lt_size t1;have hTz:T≠z:=by rw[hT'];exact bH zl
   have k3:∀b o,b∉z::TI::TO::zs.map (·.it)->s.heap.get? b=some o->g3.get? b=some o:=λb o hb q=>by
    simp only[ax,not_or]at hb;exact b3.extBut _ _ hb.1 (kp b o hb.1 hb.2.2.1 (λy hy e=>hb.2.2.2 (by rw[e];exact bg hy)) q)
   have exv:∀j:Nat,∃v:V,∀y xs,zs[j]?=some y->SrcV X.K H y xs->xs[i]?=some v:=λj=>by
    cases hj:zs[j]? with
    |none=>exact⟨.non,λy xs e=>nomatch e⟩
    |some y=>
     obtain⟨xs,q1,_,_,x,q2⟩:=harr y (aL hj);exact⟨x,λy' xs' e q=>by cases e;rw[q.inj I q1];exact q2⟩
   obtain⟨val,hval⟩:=Classical.axiomOfChoice exv;have hlv:((aO zs.length).map val).length=zs.length:=by rw[aq,cW]
   have gv:∀(j:Nat) y,zs[j]?=some y->((aO zs.length).map val)[j]?=some (val j):=λj y e=>by
    rw[aA,List.getElem?_range (az.mp e).1];rfl
   have rv:Vals ((aO zs.length).map val) us:=Vals.of_get (by rw[hlv,hl]) λj v u e1 e2=>by
    have hj:j<zs.length:=by rw[<- hl];exact (az.mp e2).1
    have hz':=aC hj;rw[gv j _ hz']at e1;cases e1;obtain⟨xs,q1,q2,_,_⟩:=harr _ (bz hj);have q3:=hval j _ xs hz' q1;obtain⟨u',e3,e4⟩:=hv j _ hz';rw[e2]at e3;cases e3;obtain⟨u2,e5,e6⟩:=q2.get q3;have e4':(arr zs[j])[i]?=some u:=by simpa using e4
    rw[e5]at e4';cases e4';exact e6
   have tt3:IsTup g3 T us.toArray:=⟨_,b3.extBut _ _ hTz tt2,rfl,_,rfl⟩;refine⟨.ref T,_,I.turnedT (t':=s.toks) hf k3 (by rw[hT'];exact av _) rv (by rw[hlv];exact bD (a0g hsm)) tt3,rfl,⟨T,_,I.hok.fresh (by rw[hT'];exact av _),rfl,rfl,hlv,λj y xs e q=>⟨_,gv j y e,hval j y xs e q⟩⟩,⟨z3,b3.extBut _ _ Da.a1 ti2,⟨us,hl,b3.extBut _ _ Da.a2 to2⟩,λy hy=>(at2 y hy).keep λo q=>b3.extBut _ _ (Da.its y hy).1 q⟩,λb hb=>?_⟩;have hbo:∃o,s.heap.get? b=some o:=by
    rcases ax.mp hb with rfl |hb
    ·exact⟨_,t1⟩
    rcases ax.mp hb with rfl |hb
    ·exact⟨_,t2⟩
    rcases ax.mp hb with rfl |hb
    ·exact⟨_,t3⟩
    obtain⟨y,hy,rfl⟩:=aM.mp hb;obtain⟨o,q,_⟩:=(t4 y hy).obj;exact⟨o,q⟩
   obtain⟨o,q⟩:=hbo;rw[a0c (by rw[hT'];exact aE (Heap.lt_size q))];exact (hf b hb).1
  ·rintro⟨y,hy,q⟩;obtain⟨xs,_,r,_,x,q2⟩:=harr y hy;obtain⟨u,e,_⟩:=r.get q2;have q':(arr y)[i]?=none:=by simpa using q
   rw[e]at q';cases q'
 done:=by
  intro X hP hw hK hc i pins s σ H E I hf st hg;subst hP hw hK;obtain⟨t1,t2,⟨olds,t0,t3⟩,t4⟩:=st;obtain⟨hall,y0,hy0,xs0,hx0,hl0⟩:=hg;have Da:=D X pins σ H s rfl I (λb hb=>(hf b hb).1) hall;have ex:∀y:Zs,∃its:List Value,y∈zs->∃xs,SrcV X.K H y xs/\Vals xs its/\y.Has s.heap its.toArray:=λy=>by
   by_cases hy:y∈zs
   ·obtain⟨xs,q1⟩:=hall y hy;obtain⟨its,r,p⟩:=q1.has I;exact⟨its,λ_=>⟨xs,q1,r,p⟩⟩
   ·exact⟨[],λq=>absurd q hy⟩
  obtain⟨arr,harr⟩:=Classical.axiomOfChoice ex;have hT:s.TypeIs (.ref z) "zip":=⟨_,t1,rfl⟩;unfold pyNext;refine fO (h9 (wpAny_callSpecial?_slot (name:=Str.ofString "__next__") hT PySem.F.slot_zip_next (gE PySem.F.slot_zip_next hT PySem.F.entry_zip_next ?_ (PySem.F.args_zip_next_1 _))));refine b2s (arr:=λy=>(arr y).toArray) (k:=i) (I.ok.hd hc) Da hne hsm t1 t2 t3 t0 t4 (λy hy=>let ⟨_,_,_,p⟩:=harr y hy;p) ?_ ?_
  ·intro g T us hl hv _ _ _ _ _ _ _;exfalso;obtain⟨j,hj⟩:=bB hy0;obtain⟨v,_,e⟩:=hv j y0 hj;obtain⟨xs,q1,r,_⟩:=harr y0 hy0;have e':(arr y0)[i]?=some v:=by simpa using e
   have:=(az.mp e').1
   rw[<- r.length,q1.inj I hx0]at this;omega
  ·rintro _ g e kp ⟨o,ho,hcl⟩;refine fO (iG (T:="StopIteration") (b:=true) (s:={ s with heap:=g }) ⟨o,ho,hcl⟩ isSubtype_stop ?_);refine fP ⟨rfl,I.turnedN (t':=s.toks) hf λb o hb q=>?_⟩;simp only[ax,not_or]at hb;exact kp b o hb.1 hb.2.2.1 (λy hy e=>hb.2.2.2 (by rw[e];exact bg hy)) q
 self:=λ_ _ _ _ _ st h=>wpAny_pyIter_zip st.1 h
noncomputable def mkZs(b:Nat):List (Bool×Addr)->List Zs
 |[]=>[]
 |p::r=>⟨b,p.1,p.2⟩::mkZs (b+1) r
theorem a0L:∀(b:Nat)(l:List (Bool×Addr)),(mkZs b l).length=l.length
 |_,[]=>rfl
 |b,_::r=>by simp[mkZs,a0L _ r]
theorem a1G:∀(b:Nat)(l r:List (Bool×Addr)),mkZs b (l++r)=mkZs b l++mkZs (b+l.length) r
 |_,[],_=>by simp[mkZs]
 |b,p::l,r=>by
  have:=a1G (b+1) l r
  simp[mkZs,this]
  congr 1
  omega
theorem a01:∀{b:Nat}{l:List (Bool×Addr)}{y:Zs},y∈mkZs b l->@LE.le Nat _ b y.it/\@LT.lt Nat _ y.it (b+l.length)/\(y.tp,y.l)∈l
 |_,[],_,h=>by simp[mkZs]at h
 |b,p::l,y,h=>by
  rcases ax.mp h with rfl |h
  ·simp
  ·obtain⟨d,c,a⟩:=a01 h;exact⟨by omega,by rw[aI,<- cI,ft];exact c,.tail _ a⟩
theorem a3K:∀(b:Nat)(l:List (Bool×Addr)),((mkZs b l).map (·.it)).Nodup
 |_,[]=>by simp[mkZs]
 |b,p::l=>by
  show (b::(mkZs _ l).map _).Nodup
  refine bv.mpr ⟨λh=>?_,a3K _ l⟩;obtain⟨y,a,e⟩:=aM.mp h
  have:=(a01 a).1
  omega
def HasS(p:Bool×Addr)(h:Heap):Prop:=∃xs,Zs.Has ⟨0,p.1,p.2⟩ h xs
def a7F(srcs:List (Bool×Addr))(hsm:srcs.length<=1000) :
  Meets (fX.«zip.__new__» ⟨.type "zip"::srcs.map (λp=>Value.ref p.2),[]⟩) (λ_ R s=>(∀p∈srcs,HasS p s.heap)/\∀(g:Heap),(∀b o,s.heap.get? b=some o->g.get? b=some o) ->
   g.objs.size=s.heap.objs.size+srcs.length+3->TnZ (s.heap.objs.size+srcs.length+2) (s.heap.objs.size+srcs.length) (s.heap.objs.size+srcs.length+1) (mkZs s.heap.objs.size srcs) 0 g->R (.ok (.ret (.ref (s.heap.objs.size+srcs.length+2)))) { s with heap:=g }):=
 .of_wp λX w A R s h=>by
  obtain⟨Y,h⟩:=h;unfold fX.«zip.__new__»;have S:fX.SmallTypes.newClass "zip" ⟨.type "zip"::srcs.map (λp=>Value.ref p.2),[]⟩=pure (.type "zip",srcs.map (λp=>Value.ref p.2)):=by
   unfold fX.SmallTypes.newClass;simp only[isType,sub_zip,pure_bind,Bool.not_true,cG,if_false]
  refine fO (ju S ?_);dsimp only;rw[if_neg (by simp)];refine fO ?_;unfold fX.SmallTypes.iterAll;refine fO ?_;refine jY _ (λk t G=>∃(f e:List (Bool×Addr))(g:Heap),srcs=f++e/\k=e.map (λp=>Value.ref p.2)/\t=((mkZs s.heap.objs.size f).map λy=>Value.ref y.it).toArray/\G={ s with heap:=g }/\g.objs.size=s.heap.objs.size+f.length /\
   (∀b o,s.heap.get? b=some o->g.get? b=some o)/\∀y∈mkZs s.heap.objs.size f,y.At 0 g) _ ?_ ?_ _ _ ?_
  ·rintro x k t G ⟨f,e,g,n,z,rfl,rfl,j,m,u⟩;cases e with
   |nil=>simp at z
   |cons p e=>
    rw[aF]at z;cases z;obtain⟨B,l⟩:=p;obtain⟨D,L⟩:=Y (B,l) (by rw[n];simp);refine fO (gh ?_);have F:∀E:Obj,Zs.At ⟨g.objs.size,B,l⟩ 0 (g.push E)->∃(dn' td':List (Bool×Addr))(g':Heap),srcs=dn'++td'/\e.map (λp=>Value.ref p.2)=td'.map (λp=>Value.ref p.2)/\(((mkZs s.heap.objs.size f).map λy=>Value.ref y.it).toArray.push (.ref g.objs.size))=((mkZs s.heap.objs.size dn').map λy=>Value.ref y.it).toArray /\
      ({ s with heap:=g.push E }:Shared)={ s with heap:=g' }/\g'.objs.size=s.heap.objs.size+dn'.length/\(∀b o,s.heap.get? b=some o->g'.get? b=some o)/\∀y∈mkZs s.heap.objs.size dn',y.At 0 g':=λE ha=>by
     refine⟨f++[(B,l)],e,g.push E,by rw[n];simp,rfl,?_,rfl,by rw[Heap.size_push,j];simp;omega,λb o q=>Heap.get?_push_of_some _ (m b o q),λy c=>?_⟩
     ·rw[a1G];simp[mkZs,j]
     ·rw[a1G]at c;rcases au.mp c with c |c
      ·exact (u y c).keep λo q=>Heap.get?_push_of_some _ q
      ·simp[mkZs]at c;subst c;rw[<- j];exact ha
    cases B with
    |true=>
     have v:g.IsTuple l D:=let ⟨o,ho,r⟩:=(show s.heap.IsTuple l D from L);⟨o,m _ _ ho,r⟩
     exact wpAny_pyIter_tuple v (fP (F _ ⟨_,Heap.get?_push_size _ rfl,rfl,rfl⟩))
    |false=>
     have v:g.IsList l D:=let ⟨o,ho,r⟩:=(show s.heap.IsList l D from L);⟨o,m _ _ ho,r⟩
     exact iO v (fP (F _ ⟨_,Heap.get?_push_size _ rfl,rfl,rfl⟩))
  ·rintro t G ⟨f,e,g,n,z,rfl,rfl,j,m,u⟩;have M:e=[]:=by
    cases e with
    |nil=>rfl
    |cons _ _=>simp at z
   subst M;rw[a9]at n;subst n;refine fP ?_;refine fO (iE ?_ (by show ((mkZs s.heap.objs.size srcs).map λy=>Value.ref y.it).toArray.toList.length<=fR;simp[a0L];exact bD (a0g hsm)));refine fO (iE ?_ (by rw[aq];show ((mkZs s.heap.objs.size srcs).map λy=>Value.ref y.it).toArray.toList.length<=fR;simp[a0L];exact bD (a0g hsm)));refine fO ?_;unfold fX.SmallTypes.newRecord;refine g7 ?_ (by simp[sizeOk,fX.SmallTypes.ownedTupleFields,f8]);have T:∀(a d i:Obj),a={ cls:=.type "tuple",data:=.seq ((mkZs s.heap.objs.size srcs).map λy=>Value.ref y.it).toArray }->d={ cls:=.type "tuple",data:=.seq (((mkZs s.heap.objs.size srcs).map λ_=>Value.none)).toArray } ->
     i={ cls:=.type "zip",data:=.fields #[.none,.bool false,.bool false,.ref g.objs.size,.ref (g.push a).objs.size] }->R (.ok (.ret (.ref ((g.push a).push d).objs.size))) { s with heap:=((g.push a).push d).push i }:=λa d i I J C=>by
    have U:(g.push a).objs.size=s.heap.objs.size+srcs.length+1:=by rw[Heap.size_push,j]
    have V:((g.push a).push d).objs.size=s.heap.objs.size+srcs.length+2:=by rw[Heap.size_push,U]
    have N:(((g.push a).push d).push i).get? g.objs.size=some a:=Heap.get?_push_of_some _ (Heap.get?_push_of_some _ (Heap.get?_push_size _ (by rw[I];rfl)));have Q:(((g.push a).push d).push i).get? (g.push a).objs.size=some d:=Heap.get?_push_of_some _ (Heap.get?_push_size _ (by rw[J];rfl));have H:(((g.push a).push d).push i).get? ((g.push a).push d).objs.size=some i:=Heap.get?_push_size _ (by rw[C];rfl);have W:∀b o,g.get? b=some o->(((g.push a).push d).push i).get? b=some o:=λb o q=>Heap.get?_push_of_some _ (Heap.get?_push_of_some _ (Heap.get?_push_of_some _ q));rw[U]at Q C;rw[V]at H ⊢;rw[j]at N C;refine h _ (λb o q=>W b o (m b o q)) (by rw[Heap.size_push,V]) ⟨H.trans (congrArg some C),N.trans (congrArg some I),⟨(mkZs s.heap.objs.size srcs).map λ_=>Value.none,by rw[aq],Q.trans (congrArg some J)⟩,λy c=>(u y c).keep λo q=>W _ o q⟩
   exact fP ⟨_,rfl,T _ _ _ (by simp) (by simp) rfl⟩
  ·exact⟨[],srcs,s.heap,rfl,rfl,by simp[mkZs],rfl,rfl,λ_ _ q=>q,λy c=>by simp[mkZs]at c⟩
def b3P(a b c d:Value):checkTypeCall "zip" ⟨[a,b,c,d],[]⟩=pure ():=by kernel_rfl
def b3Q(a b c d:Value):jQ "zip.__new__" ⟨[.type "zip",a,b,c,d],[]⟩=pure ():=by kernel_rfl
def b1d(o a b c d:Value):argsOk "object.__init__" ⟨[o,a,b,c,d],[]⟩:=by
 unfold argsOk;rw[signature?_of (n:=['_','_','t','i','n','i','_','_']) (by kernel_rfl) PySem.F.owner_object]
 kernel_rfl
def a48(us:List Value):Prop:=checkTypeCall "zip" ⟨us,[]⟩=pure ()/\jQ "zip.__new__" ⟨.type "zip"::us,[]⟩=pure ()/\∀o,argsOk "object.__init__" ⟨o::us,[]⟩
def b6L(a b c d:Value):a48 [a,b,c,d]:=⟨b3P a b c d,b3Q a b c d,λo=>b1d o a b c d⟩
def a9k(hk:a48 (srcs.map λp=>Value.ref p.2))(hsm:srcs.length<=1000)(hs:∀p∈srcs,HasS p s.heap)
  (h:∀g:Heap,(∀b o,s.heap.get? b=some o->g.get? b=some o)->TnZ (s.heap.objs.size+srcs.length+2) (s.heap.objs.size+srcs.length) (s.heap.objs.size+srcs.length+1) (mkZs s.heap.objs.size srcs) 0 g->Q (.ref (s.heap.objs.size+srcs.length+2)) { s with heap:=g }) :
  wpAny (model P w) A (call (.type "zip") (srcs.map λp=>Value.ref p.2)) Q E s:=
 callType_new PySem.F.called_zip (by decide) hk.1 hk.2.1 hk.2.2 PySem.F.entry_zip_new (a7F srcs hsm) ⟨hs,λg c _ a=>⟨⟨_,a.1,rfl⟩,h g c a⟩⟩
def SrcP(K:Fg)(H:Hp)(p:Bool×Addr)(xs:List V):Prop:=if p.1=true then SqT K H p.2 xs else SqL K H p.2 xs
noncomputable def ItzP(K:Fg)(ps:List (Bool×Addr)):It:=
  ⟨λi H=>∀y∈ps,∃xs x,SrcP K H y xs/\xs[i]?=some x,
   λi H x H'=>∃T vs,H T=none/\x=.ref T/\H'=upd H T (.tup vs)/\vs.length=ps.length/\∀(j:Nat) y xs,ps[j]?=some y->SrcP K H y xs->∃v,vs[j]?=some v/\xs[i]?=some v,
   λi H=>(∀y∈ps,∃xs,SrcP K H y xs)/\∃y∈ps,∃xs,SrcP K H y xs/\xs.length<=i⟩
theorem a6K:∀(b:Nat)(l:List (Bool×Addr)),(mkZs b l).map (λy=>(y.tp,y.l))=l
 |_,[]=>rfl
 |b,p::r=>by simp[mkZs,a6K _ r]
def a6L{j:Nat}(h:l[j]?=some p):∃y,(mkZs b l)[j]?=some y/\(y.tp,y.l)=p:=by
 have:=congrArg (·[j]?) (a6K b l)
 simp only[aA,h]at this;cases e:(mkZs b l)[j]? with
 |none=>rw[e]at this;cases this
 |some y=>rw[e]at this;exact⟨y,rfl,by simpa using this⟩
theorem Turn.imp{P:fV}{w:World}{K:Fg}{tg:Expr}{J J':It}{fp:List Addr}{it:Addr}{tn:Nat->Heap->Prop}(t:Turn P w K tg J fp it tn)(g:∀i H,J'.go i H->J.go i H)(y:∀i H x H',J'.go i H->J.yld i H x H'->J'.yld i H x H')(s:∀i H,J'.stop i H->J.stop i H):Turn P w K tg J' fp it tn where
 mem:=t.mem
 obj:=t.obj
 keep:=t.keep
 item:=λX h1 h2 h3 h4 i pins s σ H E I hf st hg=>f9 (t.item X h1 h2 h3 h4 i pins s σ H E I hf st (g i H hg)) (λr s1 ⟨u,e,q⟩=>⟨u,e,f9 q (λ_ s2 ⟨x,H',a,b,c,d,e⟩=>⟨x,H',a,b,y i H x H' hg c,d,e⟩) λ_ _ z=>z⟩) λ_ _ z=>z
 done:=λX h1 h2 h3 h4 i pins s' σ H E I hf st hg=>t.done X h1 h2 h3 h4 i pins s' σ H E I hf st (s i H hg)
 self:=t.self
def a1Q(h:@Ne Nat a b):a≠b:=h
def b9d(K:Fg)(n:Nat)(ta:TA):TI:=fun σ H R=>ta σ H λvs H1=>∃ps:List (Bool×Addr),vs=ps.map (λp=>V.ref p.2)/\ps≠[]/\ps.length=n/\(∀p∈ps,∃xs,SrcP K H1 p xs)/\R (ItzP K ps) H1
theorem a9l:∀{ps:List (Bool×Addr)}{us:List Value},Vals (ps.map λp=>V.ref p.2) us->us=ps.map λp=>Value.ref p.2
 |[],us,r=>by rw[bx]at r;cases r;rfl
 |p::ps,us,r=>by
  cases r with
  |cons r1 r2=>rw[a9l r2,r1];rfl
def b6M(hg:Gl X "zip")(hm:X.mg "zip"=none)(hok:∀us:List Value,us.length=n->a48 us)(hn:n<=1000)(ha:PA X (e::es) ta)
  (he:fW (e::es) X.env=(false,eval e X.env)::fW es X.env) (hpl:(backTo pos (fW es X.env)).any (·.1)=false):PI X (.Tuple elts x1 tpos) (.Call (.Name "zip" p) (e::es) [] pos) (b9d X.K n ta):=by
 intro pins s σ H R I h;refine Call_ (a2X I hg hm (show gx "zip"=some (.type "zip") by decide +kernel) (PyProof.Rows.callWith_type1 (thn (ha pos pins s σ H _ I h) λus c ⟨vs,H1,r,r1,q1⟩=>?_) he hpl));obtain⟨f,rfl,hne,hl,hsrc,q⟩:=q1;have hsm:f.length<=1000:=by omega
 have e:=a9l r1;subst e;have hnz:mkZs c.heap.objs.size f≠[]:=λz=>hne (b8.mp (by rw[<- a0L c.heap.objs.size f,z];rfl));refine a9k (hok _ (by rw[aq,hl])) hsm (λp hp=>?_) λg kp tn=>?_
 ·obtain⟨t,d⟩:=hsrc p hp;obtain⟨its,_,h⟩:=SrcV.has (y:=⟨0,p.1,p.2⟩) r d;exact⟨_,h⟩
 ·refine wpAny_pyIter_zip (s:={ c with heap:=g }) tn.1 ?_;have I2:Inv X pins σ H1 { c with heap:=g }:=r.kept (t':=c.toks) kp;refine⟨_,_,_,_,H1,rfl,I2,(b1c (K:=X.K) (zs:=mkZs c.heap.objs.size f) ?_ hnz (by rw[a0L];exact hsm)).imp ?_ ?_ ?_,tn,λb k=>?_,q⟩
  ·intro X' pins' σ' H' s' hK I' hfp hall;have hl':∀y∈mkZs c.heap.objs.size f,∀b,H' b=none->b∈(c.heap.objs.size+f.length+2)::(c.heap.objs.size+f.length+1)::(mkZs c.heap.objs.size f).map (·.it)->y.l≠b:=by
    intro y a b k hm z;obtain⟨hb1,hb2,hb3⟩:=a01 a;obtain⟨t,d⟩:=hsrc _ hb3;obtain⟨its,_,hh⟩:=SrcV.has (y:=y) r d
    have:@LT.lt Nat _ y.l c.heap.objs.size:=by
     unfold Zs.Has at hh
     split at hh<;>(obtain⟨o,ho,_⟩:=hh;exact Heap.lt_size ho)
    rcases ax.mp hm with e |hm
    ·exact absurd (z.trans e) (a1Q (by omega))
    rcases ax.mp hm with e |hm
    ·exact absurd (z.trans e) (a1Q (by omega))
    obtain⟨x,d,e⟩:=aM.mp hm
    have:=(a01 d).1
    exact absurd (z.trans e.symm) (a1Q (by omega))
   refine⟨a3K _ _,a1Q (by omega),a1Q (by omega),a1Q (by omega),λy a=>?_,λy a=>?_⟩
   ·have:=a01 a
    exact⟨a1Q (by omega),a1Q (by omega),a1Q (by omega)⟩
   ·exact⟨hl' y a _ (hfp _ (by simp)) (by simp),hl' y a _ (hfp _ (by simp)) (by simp),λx d=>hl' y a _ (hfp _ (by simp;exact .inr (.inr (.inr ⟨x,d,rfl⟩)))) (by simp;exact .inr (.inr ⟨x,d,rfl⟩))⟩
  ·intro i H' hgo y a;exact hgo (y.tp,y.l) (a01 a).2.2
  ·rintro i H' x H2 _ ⟨T,vs,a1,a2,a3,a4,a5⟩;refine⟨T,vs,a1,a2,a3,by rw[a4,a0L],λj p t hp d=>?_⟩;obtain⟨y,a,e⟩:=a6L (b:=c.heap.objs.size) hp;subst e;exact a5 j y t a d
  ·rintro i H' ⟨a1,p,hp,t,d,hl⟩;obtain⟨j,hj⟩:=bB hp;obtain⟨y,a,e⟩:=a6L (b:=c.heap.objs.size) hj;subst e;exact⟨λy a=>a1 (y.tp,y.l) (a01 a).2.2,y,aL a,t,d,hl⟩
  ·have hb':@LE.le Nat _ c.heap.objs.size b:=by
    rcases ax.mp k with rfl |k
    ·omega
    rcases ax.mp k with rfl |k
    ·omega
    rcases ax.mp k with rfl |k
    ·omega
    obtain⟨x,d,rfl⟩:=aM.mp k;exact (a01 d).1
   exact r.fpOk hb' (r.hok.fresh hb')
noncomputable def Itv(K:Fg)(a:Addr)(n:Nat):It:=
 ⟨λi H=>i<n/\∃xs,SqL K H a xs/\xs.length=n,λi H x H'=>H'=H/\∀xs,SqL K H a xs->xs[n-1-i]?=some x,λi _=>i=n⟩
theorem b1e{P:fV}{w:World}{K:Fg}{tg:Expr}(a it:Addr)(n:Nat):Turn P w K tg (Itv K a n) [it] it (λi h=>i<=n/\h.IsRevIter it a ((n:Int)-1-(i:Nat))) where
 mem:=by simp
 obj:=λi h st b hb=>by
  have e:b=it:=by simpa using hb
  subst e;obtain⟨o,e,c,d⟩:=st.2;exact⟨o,e,λv z=>by rw[d]at z;cases z⟩
 keep:=λi h h' st k=>⟨st.1,st.2.at λo e=>k it (by simp) o e⟩
 item:=by
  intro X hP hw hK hc i pins s σ H E I hf st hg;subst hP hw hK;obtain⟨hi,xs,hq,hx⟩:=hg;obtain⟨its,rv,p,hz⟩:=I.list hq;have hx':=aC (show n-1-i<xs.length by omega);obtain⟨u,hu,ru⟩:=rv.get hx';obtain⟨f0,f1,f2,f3,f4,f5⟩:=hf it (by simp);have st':=st.2;have e1:(n:Int)-1-(i:Nat)=((n-1-i:Nat):Int):=by omega
  rw[e1]at st';refine wpAny_pyNext_rev_item st' p.isList (x:=u) (by simpa using hu) λh' s2 sb=>?_;have I1:Inv X pins σ H { s with heap:=h' }:=I.turned (t':=s.toks) (λb o hb e=>(sb.2 b hb).trans e) f0 f1 f3 f4 f5;obtain⟨o,e,c,d⟩:=id s2;refine⟨u,rfl,a7h (s:={ s with heap:=h' }) e c d (by decide) ⟨xs[n-1-i],H,I1,ru,⟨rfl,λys hy=>by rw[I.list_inj hy hq];exact hx'⟩,⟨by omega,?_⟩,λb hb=>(hf b hb).1⟩⟩;have e2:(n:Int)-1-((i+1:Nat):Int)=((n-1-i:Nat):Int)-1:=by omega
  rw[e2];exact s2
 done:=by
  intro X hP hw hK hc i pins s σ H E I hf st hg;subst hP hw hK;obtain⟨f0,f1,f2,f3,f4,f5⟩:=hf it (by simp);have hi:i=n:=hg;have st':=st.2;have e1:(n:Int)-1-(i:Nat)=-1:=by omega
  rw[e1]at st';exact wpAny_pyNext_rev_end (I.ok.hd hc) st' λh' eb=>⟨rfl,I.turned (t':=s.toks) (λb o hb e=>eb b o hb e) f0 f1 f3 f4 f5⟩
 self:=λ_ _ _ _ _ st h=>wpAny_pyIter_revIter st.2 h
def b9e(K:Fg)(ta:TA):TI:=fun σ H R=>ta σ H λvs H1=>∃a xs,vs=[.ref a]/\SqL K H1 a xs/\R (Itv K a xs.length) H1
def b6N(hg:Gl X "reversed")(hm:X.mg "reversed"=none)(ha:PA X [e] ta)
  (he:fW [e] X.env=(false,eval e X.env)::fW [] X.env):PI X tg (.Call (.Name "reversed" p) [e] [] pos) (b9e X.K ta):=by
 intro i s σ H R I h;refine Call_ (a2X I hg hm boot_reversed (PyProof.Rows.callWith_type1 (thn (ha pos i s σ H _ I h) λy c ⟨A,v,f,k,l⟩=>?_) he rfl));obtain⟨a,d,rfl,n,q⟩:=l;obtain⟨u,rfl,r⟩:=a2A k;cases r;obtain⟨j,m,w,z⟩:=f.list n;have x:j.toArray.size=d.length:=by rw[aU,m.length]
 refine call_reversed_list w.isList ?_;rw[x];have g:(c.heap.push (revObj a ((d.length)-1))).IsRevIter c.heap.objs.size a ((d.length)-1-0):=⟨_,Heap.get?_push_size _ rfl,rfl,by simp[revObj]⟩;refine wpAny_pyIter_revIter g ⟨c.heap.objs.size,[c.heap.objs.size],_,_,v,rfl,f.kept λb o e=>Heap.get?_push_of_some _ e,b1e a _ d.length,⟨aR _,g⟩,λb t=>?_,q⟩;have e:b=c.heap.objs.size:=by simp_all
 subst e;exact f.fpOk (av _) (f.hok.fresh (av _))
section
variable{X:Cx}
noncomputable def a9m(x y:Str):Int:=match fX.Str.occurrences x y 0 x.length 1 with
 |i::_=>(i:Int)
 |[]=>-1
def b3R:MtR X "str.find" (λx vs H Q=>∃(z y:Str),x=.str z/\vs=[.str y]/\Q (.int (a9m z y)) H):=by
 intro c s σ H x f v g Q I b d h;obtain⟨z,y,rfl,rfl,q⟩:=h;obtain⟨t,rfl⟩:=b;obtain⟨u,rfl,e⟩:=a2A d;obtain⟨a,rfl⟩:=e;exact call_gives PySem.F.slot_str_find (ii _ _ _) PySem.F.entry_str_find (PySem.F.args_str_find_2 _ _) (gives_str_find z y t a) ⟨.int _,H,I.tok _,⟨_,rfl⟩,q⟩
end
end L2
namespace L3
open PySem PySem.Spec PyProof.Rows L2
section
variable{X:Cx}
def b6O:Z->List Z->Hq->K3->Prop:=λx xs G R=>match x,xs with
 |.str z,[.str y]=>R (.int (a9m z y)) G
 |_,_=>False
def b6P:MtQ X "str.find" b6O:=a7t b3R λx g H Q e=>e.un λw c G R a b d h f=>by
 match w,c,h with
 |.str z,[.str y],h=>
  obtain⟨v,rfl,r⟩:=b.one;exact⟨z,y,a,by rw[r],f _ _ _ _ h (by rw[a0k]) d (.refl _ _)⟩
def b6Q(h:R (.int (a9m z y)) G):b6O (.str z) [.str y] G R:=h
noncomputable def putZ(kvs:List (Key×Z))(k:Key)(v:Z):List (Key×Z):=
 if (kvs.any λkv=>decide (kv.1=k))=true then kvs.map (λkv=>if kv.1=k then (kv.1,v) else kv) else kvs++[(k,v)]
theorem a9n{α β:Type}:∀{kvs:List (Key×α)}{us:List (Key×β)},us.map (·.1)=kvs.map (·.1)->(us.any λkv=>decide (kv.1=k))=kvs.any λkv=>decide (kv.1=k)
 |[],[],_=>rfl
 |[],_::_,h=>by simp at h
 |_::_,[],h=>by simp at h
 |p::ps,q::qs,h=>by
  rw[aF,aF]at h;injection h with h1 h2
  rw[ci,ci,a9n h2,h1]
def a4k{K:Fg}(rv:Rep K H w v)(hk:us.map (·.1)=kvs.map (·.1))(hr:Reps K H (kvs.map (·.2)) (us.map (·.2))) :
  (putK us k v).map (·.1)=(putZ kvs k w).map (·.1)/\Reps K H ((putZ kvs k w).map (·.2)) ((putK us k v).map (·.2)):=by
 unfold putK putZ;rw[a9n hk]
 split
 ·have l:∀{d:List _}{f:List _},f.map (·.1)=d.map (·.1)->Reps K H (d.map (·.2)) (f.map (·.2))->((f.map λc=>if c.1=k then (c.1,v) else c).map (·.1)=(d.map λc=>if c.1=k then (c.1,w) else c).map (·.1)/\Reps K H ((d.map λc=>if c.1=k then (c.1,w) else c).map (·.2)) ((f.map λc=>if c.1=k then (c.1,v) else c).map (·.2))):=by
   intro d
   induction d with
   |nil=>intro f g h;cases f with
    |nil=>exact⟨rfl,.nil⟩
    |cons _ _=>simp at g
   |cons p ps ih=>
    intro f g h;cases f with
    |nil=>simp at g
    |cons q qs=>
     rw[aF,aF]at g h;injection g with h3 h4
     obtain⟨a,b,e,j,m⟩:=h;injection e with e1 e2
     subst e1 e2;have i:=ih h4 m;simp only[aF]
     by_cases e:p.1=k
     ·rw[if_pos e,if_pos (h3.trans e)];exact⟨by rw[i.1,h3],.cons rv i.2⟩
     ·rw[if_neg e,if_neg (λz=>e (h3.symm.trans z))];exact⟨by rw[i.1,h3],.cons j i.2⟩
  exact l hk hr
 ·rw[aG,aG,hk,aG,aG];exact⟨rfl,hr.append (.cons rv .nil)⟩
noncomputable def keyZ:Z->Option Key
 |.non=>some (.inl none)
 |.int i=>some (.inl (some i))
 |.str x=>some (.inr x)
 |_=>none
def b6R:Z3:=λo i v G R=>match o with
 |.ref p=>∃kvs k,G p=some (.dK kvs)/\keyZ i=some k/\kvs.length<fR/\R (put G p (.dK (putZ kvs k v)))
 |_=>False
def a2R{K:Fg}(h:keyZ i=some k)(r:Rep K H i v):v=kV k:=by
 cases i with
 |non=>rw[a0w]at r;cases h;exact r
 |int j=>rw[a0k]at r;cases h;exact r
 |str j=>rw[a0t]at r;cases h;exact r
 |_=>cases h
def b1f(hu:X.A.units+66<cLine):PSet X (λo i v H Q=>∃a H',o=.ref a/\DPut H a i v H'/\Q H'):=by
 intro e s σ H o i v j l u Q I d f b h;obtain⟨a,H',rfl,g,q⟩:=h;cases (d);exact a8w (by lia) I g f b λk c=>⟨H',c,q⟩
def a9o{α β:Type}{kvs:List (Key×α)}{us:List (Key×β)}(h:us.map (·.1)=kvs.map (·.1)):us.length=kvs.length:=by
 rw[<- aq,h,aq]
def b6S(hu:X.A.units+66<cLine):SetQ X b6R:=b2i (b1f hu) λo i v H Q r=>r.un λa b w G R g q f d h u=>by
 cases a with
 |ref p=>
  obtain⟨j,k,e,n,t,h⟩:=h;obtain⟨x,c,m,s⟩:=d _ _ e;have l:=a4k (k:=k) f m s;refine⟨p,_,g,?_,u _ _ h (d.set (.dK c) ⟨_,a0d,l.1,l.2.mono (.dK c)⟩) (.dK c)⟩;rw[a2R n q];exact DPut.k c (a9o m▸t)
 |_=>exact aB h
def b6T(e:G p=some (.dK kvs))(a:keyZ i=some k)(z:kvs.length<fR)(h:Rg (put G p (.dK (putZ kvs k w)))):b6R (.ref p) i w G Rg:=⟨kvs,k,e,a,z,h⟩
variable{tg:Expr}{t:A3}
def iRev(t:A3):I3:=fun σ G R=>t σ G λws G1=>∃a xs,ws=[.ref a]/\G1 a=some (.lst xs)/\R xs.reverse (λG=>G a=some (.lst xs)) G1
def a9p{K:Fg}:a3l K ws.reverse (λG=>G a=some (.lst ws)) (Itv K a ws.length) H0:=λi G H g t l m=>by
 obtain⟨f,e,d⟩:=g a _ l;rw[fu]at m ⊢;refine⟨λh=>h,λw c=>?_⟩;have b:i<ws.length:=by
  have:=(az.mp c).1
  rwa [fu]at this
 rw[List.getElem?_reverse b]at c;obtain⟨v,j,k⟩:=d.get c;refine⟨⟨b,f,SqL.of e,d.length.symm⟩,?_⟩;rintro x n ⟨rfl,y⟩
 have:=y f (SqL.of e)
 rw[j]at this;cases this;exact⟨k,g,.refl _ _⟩
def a5Y(hg:Gl X "reversed")(hm:X.mg "reversed"=none)(ha:QA X [e] t)
  (he:fW [e] X.env=(false,eval e X.env)::fW [] X.env:=by rfl):QI X tg (.Call (.Name "reversed" p) [e] [] pos) (iRev t):=a5O (b6N hg hm ha.p he) fun τ H R2 i=>i.un fun σ G R k hg h o=>by
 refine⟨σ,G,_,k,hg,h,λws G1 vs H1 ⟨a,xs,e,f,l⟩ g b j=>?_⟩;subst e;obtain⟨v,rfl,r⟩:=g.one;subst r;obtain⟨m,n,d⟩:=b a _ f;exact⟨a,m,rfl,SqL.of n,by rw[<- d.length];exact o _ _ _ _ _ l a9p b j⟩
def Reps.three{K:Fg}(h:Reps K H [w,w',w2] vs):∃v v' v2,vs=[v,v',v2]/\Rep K H w v/\Rep K H w' v'/\Rep K H w2 v2:=by
 obtain⟨v,r,rfl,d,f⟩:=h;obtain⟨c,e,rfl,a,b⟩:=f.two;exact⟨v,c,e,rfl,d,a,b⟩
noncomputable def srcZ(G:Hq):Z->Option (List Z)
 |.ref a=>match G a with
  |some (.lst ws)=>some ws
  |_=>none
 |.tup ws=>some ws
 |_=>none
noncomputable def zipZ:List (List Z)->List Z
 |[]=>[]
 |[xs]=>xs.map λx=>.tup [x]
 |xs::rest=>List.zipWith (λx r=>match r with |.tup ws=>.tup (x::ws) |r=>r) xs (zipZ rest)
def iZip(n:Nat)(t:A3):I3:=fun σ G R=>t σ G λws G1=>∃xss:List (List Z),ws.map (srcZ G1)=xss.map some/\xss≠[]/\ws.length=n/\R (zipZ xss) (λG=>ws.map (srcZ G)=xss.map some) G1
theorem a1u:∀(xss:List (List Z)),xss≠[]->∀(i:Nat)(w:Z),(zipZ xss)[i]?=some w↔∃vs:List Z,w=.tup vs/\xss.map (·[i]?)=vs.map some
 |[],h,_,_=>absurd rfl h
 |[xs],_,i,w=>by
  simp only[zipZ,aA,aF,bx]
  constructor
  ·intro h;cases e:xs[i]? with
   |none=>rw[e]at h;cases h
   |some x=>rw[e]at h;cases h;exact⟨[x],rfl,rfl⟩
  ·rintro⟨a,rfl,h⟩
   match a,h with
   |[v],h=>rw[aF,bx]at h;injection h with h _;rw[h];rfl
   |[],h=>cases h
   |_::_::_,h=>simp at h
 |xs::ys::rest,_,i,w=>by
  have b:=a1u (ys::rest) (by simp)
  show (List.zipWith _ xs _)[i]?=some w↔_
  rw[List.getElem?_zipWith]
  constructor
  ·intro h;cases e1:xs[i]? with
   |none=>rw[e1]at h;cases h
   |some x=>
    cases e2:(zipZ (ys::rest))[i]? with
    |none=>rw[e1,e2]at h;cases h
    |some r=>
     rw[e1,e2]at h;obtain⟨a,rfl,c⟩:=(b i r).mp e2;cases h;exact⟨x::a,rfl,by rw[aF,c,e1];rfl⟩
  ·rintro⟨a,rfl,h⟩
   match a,h with
   |[],h=>simp at h
   |v::a,h=>
    rw[aF,aF]at h;injection h with h1 h2
    have:=(b i _).mpr ⟨a,rfl,h2⟩
    rw[h1,this]
def a6M{K:Fg}(h:srcZ G w=some ws)(r:Rep K H w v)(hg:RH K G H):∃p:Bool×Addr,v=.ref p.2/\(p.1=true↔∃us,w=.tup us)/\∃vs,SrcP K H p vs/\Reps K H ws vs:=by
 cases w with
 |ref a=>
  cases q:G a with
  |none=>simp[srcZ,q]at h
  |some o=>
   cases o with
   |lst us=>
    simp[srcZ,q]at h;subst h;obtain⟨c,d,b⟩:=hg _ _ q;exact⟨(false,a),r,by simp,c,by unfold SrcP;rw[if_neg (by simp)];exact SqL.of d,b⟩
   |_=>simp[srcZ,q]at h
 |tup us=>
  obtain⟨a,c,rfl,e,b⟩:=r;cases h;exact⟨(true,a),rfl,by simp,c,by unfold SrcP;rw[if_pos rfl];exact SqT.of e,b⟩
 |_=>cases h
theorem a6N{K:Fg}(hg:RH K G H):∀{ws:List Z}{vs:List V}{xss:List (List Z)},ws.map (srcZ G)=xss.map some->Reps K H ws vs->∃ps:List (Bool×Addr),vs=ps.map (λp=>V.ref p.2)/\ps.length=ws.length /\
  (∀(j:Nat)(p:Bool×Addr)(w:Z),ps[j]?=some p->ws[j]?=some w->(p.1=true↔∃us,w=.tup us))/\∀p∈ps,∃us,SrcP K H p us
 |[],vs,xss,_,r=>by rw[a0p]at r;subst r;exact⟨[],rfl,rfl,λj p w e=>by simp at e,λp h=>by simp at h⟩
 |w::ws,vs,[],h,_=>by simp at h
 |w::ws,vs,xs::xss,h,r=>by
  injection h with h1 h2
  obtain⟨v,s,rfl,d,o⟩:=r;obtain⟨p,rfl,i,f,l,_⟩:=a6M h1 d hg;obtain⟨q,rfl,m,k,n⟩:=a6N hg h2 o;refine⟨p::q,rfl,by simp[m],λj a g c b=>?_,λa h=>?_⟩
  ·cases j with
   |zero=>simp at c b;subst c b;exact i
   |succ j=>exact k j a g (by simpa using c) (by simpa using b)
  ·rcases ax.mp h with rfl |h
   ·grind
   ·exact n a h
def SrcP.uniq{K:Fg}(h:SrcP K H p xs)(g:(if p.1=true then H p.2=some (.tup ys) else H p.2=some (.lst ys))):SrcP K H p ys:=by
 unfold SrcP
 split
 ·next e=>rw[if_pos e]at g;exact SqT.of g
 ·next e=>rw[if_neg e]at g;exact SqL.of g
def a9q{K:Fg}(h:srcZ G w=some ws)(r:Rep K H0 w (.ref p.2))(hp:p.1=true↔∃us,w=.tup us)(t:TK K H0 H)(hg:RH K G H):∃vs,SrcP K H p vs/\Reps K H ws vs:=by
 obtain⟨q,e,j,i,f,g⟩:=a6M h (r.mono t) hg;have k:p=q:=by
  obtain⟨a,b⟩:=p;obtain⟨c,d⟩:=q;cases e
  have:a=c:=by rw[cr];exact hp.trans j.symm
  rw[this]
 subst k;exact⟨i,f,g⟩
theorem a1q{α:Type}{β:Type}{f:α->Option β}:∀{l:List α}{m:List β}{j:Nat}{x:α},l.map f=m.map some->l[j]?=some x->∃y,m[j]?=some y/\f x=some y
 |[],_,_,_,_,e=>by simp at e
 |a::l,[],_,_,h,_=>by simp at h
 |a::l,b::m,j,x,h,e=>by
  injection h with h1 h2
  cases j with
  |zero=>simp at e;subst e;exact⟨b,rfl,h1⟩
  |succ j=>simpa using a1q h2 (by simp_all)
def a9r{K:Fg}(hne:xss≠[])(hv:vs=ps.map λp=>V.ref p.2)(hl:ps.length=ws.length)(rs:Reps K H0 ws vs)(hk:∀(j:Nat)(p:Bool×Addr)(w:Z),ps[j]?=some p->ws[j]?=some w->(p.1=true↔∃us,w=.tup us)) :
  a3l K (zipZ xss) (λG=>ws.map (srcZ G)=xss.map some) (ItzP K ps) H0:=λi G H S t Q hi=>by
 have A:xss.length=ws.length:=by rw[<- aq (as:=ws),Q,aq]
 have o:∀(j:Nat) p,ps[j]?=some p->∃b a,xss[j]?=some b/\SrcP K H p a/\Reps K H b a:=λj p e=>by
  have d:j<ws.length:=by rw[<- hl];exact (az.mp e).1
  have I:=aC d;obtain⟨b,k,n⟩:=a1q Q I;obtain⟨v,m,r⟩:=rs.get I;rw[hv,aA,e]at m;cases m;obtain⟨a,s,L⟩:=a9q n r (hk j p _ e I) t S;exact⟨b,a,k,s,L⟩
 refine⟨λh=>⟨λp F=>?_,?_⟩,λw hw=>?_⟩
 ·obtain⟨j,d⟩:=bB F;obtain⟨b,a,_,k,_⟩:=o j p d;exact⟨a,k⟩
 ·refine Classical.byContradiction λno=>?_;have all:∀b∈xss,i<b.length:=λb E=>by
   obtain⟨j,d⟩:=bB E;have D:j<ps.length:=by rw[hl,<- A];exact (az.mp d).1
   obtain⟨xs',a,k,n,m⟩:=o j _ (aC D);rw[d]at k;cases k;refine Classical.byContradiction λc=>no ⟨_,bz D,a,n,?_⟩;rw[<- m.length];omega
  have:(zipZ xss)[i]?=some (.tup (xss.map λb=>b.getD i .non)):=(a1u xss hne i _).mpr ⟨_,rfl,by
   rw[bQ];refine fv λb E=>?_
   have:=all b E
   simp[aC this]⟩
  have:=(az.mp this).1
  omega
 ·obtain⟨g,rfl,U⟩:=(a1u xss hne i w).mp hw;have aa:g.length=ps.length:=by rw[<- aq,<- U,aq,A,hl]
  have B:∀(j:Nat)(b:List Z),xss[j]?=some b->∃z,g[j]?=some z/\b[i]?=some z:=λj b d=>a1q (f:=λl:List Z=>l[i]?) U d;refine⟨λp F=>?_,?_⟩
  ·obtain⟨j,d⟩:=bB F;obtain⟨b,a,M,k,n⟩:=o j p d;obtain⟨z,m,r⟩:=B j b M;obtain⟨v,s,_⟩:=n.get r;exact⟨a,v,k,s⟩
  ·rintro x H' ⟨T,a,R,rfl,rfl,C,N⟩;have tT:TK K H (upd H T (.tup a)):=.new R;refine⟨?_,S.hid R,tT⟩;rw[a1c];refine⟨T,a,rfl,a0d,?_⟩;have go:∀{g:List Z}{a:List V},g.length=a.length->(∀(j:Nat) z u,g[j]?=some z->a[j]?=some u->Rep K H z u)->Reps K H g a:=by
    intro g
    induction g with
    |nil=>intro a h _;cases a with
     |nil=>exact .nil
     |cons _ _=>simp at h
    |cons z g ih=>intro a h q;cases a with
     |nil=>simp at h
     |cons u a=>exact .cons (q 0 z u rfl rfl) (ih (by simpa using h) λj z u J y=>q (j+1) z u (by simpa using J) (by simpa using y))
   refine (go (by rw[aa,C]) λj z u J y=>?_).mono tT;have d:j<ps.length:=by rw[<- C];exact (az.mp y).1
   obtain⟨b,Y,M,k,n⟩:=o j _ (aC d);obtain⟨z',m,r⟩:=B j b M;rw[J]at m;cases m;obtain⟨v,s,L⟩:=n.get r;obtain⟨u',h7,X⟩:=N j _ Y (aC d) k;rw[y]at h7;cases h7;rw[s]at X;cases X;exact L
def b3S(hok:∀us:List Value,us.length=n->a48 us)(hn:n<=1000)(hg:Gl X "zip")(hm:X.mg "zip"=none)(ha:QA X (e::es) t)
  (he:fW (e::es) X.env=(false,eval e X.env)::fW es X.env:=by rfl) (hpl:(backTo pos (fW es X.env)).any (·.1)=false:=by rfl):QI X (.Tuple elts x1 tpos) (.Call (.Name "zip" p) (e::es) [] pos) (iZip n t):=a5O (b6M hg hm hok hn ha.p he hpl) fun τ H R2 a=>a.un fun σ G R s hg h u=>by
 refine⟨σ,G,_,s,hg,h,λws G1 vs H1 ⟨b,a,c,k,m⟩ l d q=>?_⟩;obtain⟨r,e,g,o,ha⟩:=a6N d a l;refine⟨r,e,?_,by rw[g,k],ha,u _ _ _ _ _ m (a9r c e g l o) d q⟩;rintro rfl
 have:b.length=0:=by rw[<- aq,<- a,aq,<- g];rfl
 exact c (b8.mp this)
def zok4(us:List Value)(h:us.length=4):a48 us:=by
 cases us with
 |nil=>cases h
 |cons a us=>cases us with
  |nil=>cases h
  |cons b us=>cases us with
   |nil=>cases h
   |cons c us=>cases us with
    |nil=>cases h
    |cons d us=>cases us with
     |nil=>exact b6L a b c d
     |cons e us=>cases h
def b6U(h:t σ G λws G1=>∃a xs,ws=[.ref a]/\G1 a=some (.lst xs)/\Ri xs.reverse (λG=>G a=some (.lst xs)) G1):iRev t σ G Ri:=h
def b6V(h:t σ G λws G1=>∃xss:List (List Z),ws.map (srcZ G1)=xss.map some/\xss≠[]/\ws.length=n/\Ri (zipZ xss) (λG=>ws.map (srcZ G)=xss.map some) G1):iZip n t σ G Ri:=h
end
noncomputable def putQ(f:Str)(y:Z):List (Str×Z)->List (Str×Z)
 |[]=>[(f,y)]
 | (g,x)::r=>if g=f then (g,y)::r else (g,x)::putQ f y r
section
variable{K:Fg}{H:Hp}
theorem a2S:∀{fs:List (Str×Z)}{gs:List (Str×V)},gs.map (·.1)=fs.map (·.1)->Reps K H (fs.map (·.2)) (gs.map (·.2))->(fs.lookup f=none->gs.lookup f=none)/\∀z,fs.lookup f=some z->∃v,gs.lookup f=some v/\Rep K H z v
 |[],[],_,_=>⟨λ_=>rfl,λ_ h=>by cases h⟩
 |[],_::_,h,_=>by simp at h
 |_::_,[],h,_=>by simp at h
 | (k,x)::fs,(k',v)::gs,h,r=>by
  simp at h;obtain⟨rfl,h⟩:=h;obtain⟨i,g,e,d,b⟩:=r;obtain⟨rfl,rfl⟩:=bN.inj e;rw[bL,bL];cases c:f==k' with
  |true=>
   refine⟨λe=>?_,λz e=>?_⟩
   ·cases e
   ·simp_all
  |false=>exact (a2S (f:=f) h b)
theorem a5Z(ry:Rep K H y u):∀{fs:List (Str×Z)}{gs:List (Str×V)},gs.map (·.1)=fs.map (·.1)->Reps K H (fs.map (·.2)) (gs.map (·.2))->(putF f u gs).map (·.1)=(putQ f y fs).map (·.1)/\Reps K H ((putQ f y fs).map (·.2)) ((putF f u gs).map (·.2))
 |[],[],_,_=>⟨rfl,by show Reps K H [y] [u];rw[a0Y];exact⟨u,[],rfl,ry,by rw[a0p]⟩⟩
 |[],_::_,h,_=>by simp at h
 |_::_,[],h,_=>by simp at h
 | (k,x)::fs,(k',v)::gs,h,r=>by
  simp at h;obtain⟨rfl,h⟩:=h;obtain⟨i,g,e,d,b⟩:=r;obtain⟨rfl,rfl⟩:=bN.inj e;have a:=a5Z (f:=f) ry h b;unfold putQ putF
  by_cases c:k'=f
  ·rw[if_pos c,if_pos c];exact⟨by simp[h],by show Reps K H (y::fs.map _) _;rw[a0Y];exact⟨u,_,rfl,ry,b⟩⟩
  ·rw[if_neg c,if_neg c];exact⟨by simp[a.1],by show Reps K H (x::(putQ f y fs).map _) _;rw[a0Y];exact⟨v,_,rfl,d,a.2⟩⟩
end
section
variable{X:Cx}{C f:Addr}{fd:gz}{ps:List Str}{sp:P3}{k:Nat}{a m x:Str}{p pos pos' tpos apos:Pos}{e o value:Expr}{es:List Expr}{te to:E3}{t:A3}
def uFld(C:Addr)(te:E3)(a:Str):E3:=fun σ G R=>te σ G λx G1=>∃q dx fs v,x=.ref q/\G1 q=some (.ins C dx fs)/\fs.lookup a=some v/\R v G1
def a50(hc:Cls X.K C)(hn:NoAttr X.K C a)(he:QE X e te)(hb:iu e a X.env (eval e X.env)=eval e X.env:=by rfl):QE X (.Attribute e a pos) (uFld C te a):=⟨a0P (b5q he.p hb) fun τ H Q x=>x.un fun σ G R s t h k=>
 ⟨σ,G,_,s,t,h,by
  rintro w D v B ⟨q,r,E,z,i,A,j,d⟩ c b l;subst i;obtain⟨u,m,g,y⟩:=b _ _ A;obtain⟨o,f,n⟩:=(a2S g y).2 _ j;exact⟨q,C,r,u,o,c,m,hc,hn,f,k _ _ _ _ d n b l⟩⟩⟩
def a9s(C:Addr)(to te:E3)(a:Str):X3:=λnx _ _ _ σ G=>te σ G λy G1=>to σ G1 λx G2=>∃q dx fs,x=.ref q/\G2 q=some (.ins C dx fs)/\fs.length<1000/\nx σ (put G2 q (.ins C dx (putQ a y fs)))
def b6W(hc:Cls X.K C)(hn:NoAttr X.K C a)(ho:QE X o to)(hv:QE X value te)(hs:gZ value (some (.Attribute o a pos')) pos.line X.env=pure false:=by rfl):QS X (.Assign [.Attribute o a pos'] value pos) (a9s C to te a):=⟨a1w (b5r ho.p hv.p hs) λD τ H J=>J.un fun σ G nx rt bk ct hs x h F u2 u3 u4=>
 ⟨σ,G,_,hs,x,h,λy A u H1 E t r e=>⟨σ,A,_,hs.mono e,r,E,by
  rintro w G2 v i ⟨q,j,fs,z,ea,hl,B⟩ k d g;subst z;obtain⟨n,l,m,I⟩:=d _ _ ea;have b:TK X.K i (L2.upd i q (.ins C j (putF a u n))):=.ins l;have s:=a5Z (f:=a) (t.mono g) m I;exact⟨q,C,j,n,k,l,hc,hn,by have:=congrArg aX m;simp at this;lia,F _ _ _ _ B (hs.mono ((e.trans g).trans b)) (d.set b ⟨_,a0d,s.1,s.2.mono b⟩) ((e.trans g).trans b)⟩⟩⟩⟩
def a9t(C:Addr)(to te:E3)(r:R3)(a:Str):X3:=λnx _ _ _ σ G=>to σ G λx G1=>∃q dx fs v,x=.ref q/\G1 q=some (.ins C dx fs)/\fs.lookup a=some v/\te σ G1 λy G2=>r v y G2 λz G3=>∃dx' fs',G3 q=some (.ins C dx' fs')/\fs'.length<1000/\nx σ (put G3 q (.ins C dx' (putQ a z fs')))
def b1g(hc:Cls X.K C)(hn:NoAttr X.K C a)(ho:QE X o to)(hv:QE X value te)(hop:OpQ X (g9 op) r):QS X (.AugAssign (.Attribute o a tpos) op value pos) (a9t C to te r a):=⟨a1w (a8j ho.p hv.p hop) λD τ H hx=>hx.un fun σ G nx rt bk ct j Q h u1 u2 u3 u4=>
 ⟨σ,G,_,j,Q,h,by
  rintro w R v H1 ⟨q,I,fs,z,ew,J,S,hq⟩ l e s;subst ew;obtain⟨Y,e1,e2,M⟩:=e _ _ J;obtain⟨v',L,r'⟩:=(a2S e2 M).2 _ S;refine⟨q,C,I,Y,v',l,e1,hc,hn,L,σ,R,_,j.mono s,e,hq,λy T u H2 U V t F=>⟨z,y,T,_,r'.mono F,V,t,U,λz2 G3 v3 n ⟨g,fs',x,hl,B⟩ N b W=>?_⟩⟩;obtain⟨c,d,i,m⟩:=b _ _ x;have k:TK X.K n (L2.upd n q (.ins C g (putF a v3 c))):=.ins d;have A:=a5Z (f:=a) N i m;have E:=((s.trans F).trans W).trans k;exact⟨g,c,d,by have:=congrArg aX i;simp at this;lia,u1 _ _ _ _ B (j.mono E) (b.set k ⟨_,a0d,A.1,A.2.mono k⟩) E⟩⟩⟩
def b1h(C:Addr)(m:Str)(sp:P3)(to:E3)(t:A3):E3:=fun σ G R=>to σ G λx G1=>∃q dx fs,x=.ref q/\G1 q=some (.ins C dx fs)/\fs.lookup m=none/\t σ G1 λws G2=>sp (.ref q::ws) G2 R
def b1i(h:low X.K (b1h C m sp to t) τ H Q)(h1:o'=low X.K to)(h2:t'=lowA X.K t):b5u C m (lowP X.K sp) [] E o' t' τ H Q:=by
 subst h1 h2;obtain⟨σ,G,R,f,s,h,D⟩:=h;refine⟨σ,G,_,f,s,h,λw B v H1 ⟨q,r,fs,y,n,A,x⟩ b a e=>?_⟩;subst y;obtain⟨u,g,z,p⟩:=a _ _ n;refine⟨q,r,u,b,g,(a2S z p).1 A,σ,B,_,f.mono e,a,x,λj o k H2 h2 i c l=>?_⟩;exact⟨.ref q::j,o,R,by rw[a9,a0Y];exact⟨v,k,rfl,by rw[a0v];exact b,i⟩,c,h2,D.mono (e.trans l)⟩
def b6X(ho:QE X o to)(c:Cls X.K C)(hm:Meth X.K C m f)(F:FnOk X.prog X.w X.K X.mg X.base CX0 k f fd ps (lowP X.K sp))(hr:Room k X.A)(hb:Binds X.K fd ps [])(ha:QA X (e::es) t)
  (hst:fW (e::es) X.env=(false,eval e X.env)::fW es X.env) (hpl:(backTo pos (fW es X.env)).any (·.1)=false)
  (ht:eval (.Call (.Attribute o m apos) (e::es) [] pos) X.env=(do
   let ov <- eval o X.env
   g8 apos.atName
   let (f,first) <- gr [ov] (iP ov m pl)
   jF pos f first (backTo pos (fW (e::es) X.env)) (iz pos (iA [] X.env)))):QE X (.Call (.Attribute o m apos) (e::es) [] pos) (b1h C m sp to t):=
 ⟨a0P (b26 ho.p c hm F hr hb .nil b3c ha.p hst hpl ht) λ_ _ _ h=>b1i h rfl rfl⟩
def b3T(C:Addr)(sp:P3)(t:A3):E3:=fun σ G R=>t σ G λws G1=>∀q dx,G1 q=none->sp (.ref q::ws) (put G1 q (.ins C dx [])) λv G2=>v=.non/\R (.ref q) G2
def made(h1:∀q dx,G1 q=none->sp (.ref q::ws) (put G1 q (.ins C dx [])) λv G2=>v=.non/\R (.ref q) G2)(rs:Reps X.K H1 ws vs)(hg1:RH X.K G1 H1)(up:UpV X.K H1 R Q)(q dx:Addr)(n1:H1 q=none)(n2:H1 dx=none)(ne:dx≠q) :
  lowP X.K sp (.ref q::(vs++[])) (L2.upd (L2.upd H1 dx (.own q)) q (.ins C dx [])) (λv H2=>v=.non/\Q (.ref q) H2) E:=by
 have a:L2.upd H1 dx (.own q) q=none:=(a0c (Ne.symm ne))▸n1;have d:TK X.K H1 (L2.upd _ q (.ins C dx [])):=(TK.new n2).trans (TK.new a);refine⟨.ref q::ws,put G1 q (.ins C dx []),_,?_,?_,h1 q dx (hg1.out n1),?_⟩
 ·rw[a9,a0Y];exact⟨_,vs,rfl,by rw[a0v],rs.mono d⟩
 ·exact (hg1.hid n2).set (TK.new a) ⟨[],a0d,rfl,by rw[bx,a0p];rfl⟩
 ·rintro w h v i ⟨f,g⟩ b c e;subst f;exact⟨b,up _ _ _ _ g (by rw[a0v]) c (d.trans e)⟩
def b3U(M:Mk X.K C f)(F:FnOk X.prog X.w X.K X.mg X.base CX0 k f fd ps (lowP X.K sp))(hr:Room (k+1) X.A)(hg:Gl X x)(hm:X.mg x=some (.ref C))(hb:Binds X.K fd ps [])
  (hdb:(x==("__debug__":Str))=false):QE X (.Call (.Name x p) [] [] pos) (b3T C sp uNil):=
 ⟨a0P (b0A M F hr hg hm hb .nil b3c hdb) fun τ H Q ⟨σ,G,R,hs,hg,h,g⟩ q c d e b=>made h (by rw[a0p]) hg g q c d e b⟩
variable{σ:S3}{G:Hq}{R:K3}{nx bk ct:C3}{rt:K3}{q dx:Addr}{fs:List (Str×Z)}{v:Z}{Ra:List Z->Hq->Prop}
def b6Y(h:te σ G λx G1=>∃q dx fs v,x=.ref q/\G1 q=some (.ins C dx fs)/\fs.lookup a=some v/\R v G1):uFld C te a σ G R:=h
def b6Z(h:te σ G λy G1=>to σ G1 λx G2=>∃q dx fs,x=.ref q/\G2 q=some (.ins C dx fs)/\fs.length<1000/\nx σ (put G2 q (.ins C dx (putQ a y fs)))):a9s C to te a nx rt bk ct σ G:=h
def b3V(h:to σ G λx G1=>∃q dx fs,x=.ref q/\G1 q=some (.ins C dx fs)/\fs.lookup m=none/\t σ G1 λws G2=>sp (.ref q::ws) G2 R):b1h C m sp to t σ G R:=h
def b3W(h:t σ G λws G1=>∀q dx,G1 q=none->sp (.ref q::ws) (put G1 q (.ins C dx [])) λv G2=>v=.non/\R (.ref q) G2):b3T C sp t σ G R:=h
def b60(h:to σ G λx G1=>∃q dx fs v,x=.ref q/\G1 q=some (.ins C dx fs)/\fs.lookup a=some v/\te σ G1 λy G2=>r v y G2 λz G3=>∃dx' fs',G3 q=some (.ins C dx' fs')/\fs'.length<1000/\nx σ (put G3 q (.ins C dx' (putQ a z fs')))):a9t C to te r a nx rt bk ct σ G:=h
end
end L3
namespace L2
open PySem PySem.Spec PyProof.Rows
section
variable{X:Cx}{pins:List (Addr×Obj)}{σ:St}{H:Hp}{s:Shared}{a:Addr}{kvs:List (Key×V)}{k:Key}{d:V}{u r:Value}{A:Around}{E:Value->Shared->Prop}
def b61(I:Inv X pins σ H s)(e:H a=some (.dK kvs))(ry:RelV (kV k) u)(rd:RelV d r)(hz:kvs.length<fR)
  (h1:∀v w' s',valV kvs k=some v->Inv X pins σ H s'->RelV v w'->Q w' s') (h2:valV kvs k=none->∀s',Inv X pins σ (upd H a (.dK (putK kvs k d))) s'->Q r s') :
  wpAny (model X.prog X.w) A (call (.builtin "dict.setdefault") [.ref a,u,r]) Q E s:=by
 obtain⟨z,f,n,b,h⟩:=b5C I.hok e;have l:(putK kvs k d).length<=sizeLine:=by have:=a1a kvs k d;lia
 refine iV PySem.F.slot_dict_setdefault h.typeIs PySem.F.entry_dict_setdefault (PySem.F.args_dict_setdefault_3 _ _ _) (kt_meets_setdefault _ a (a7s ry) f r) ⟨n,h,by rw[<- b.length];exact z,λm i=>?_,λx p c o=>?_⟩
 ·cases hv:valV kvs k with
  |none=>
   have:=(b.val k).isSome_eq
   rw[hv,i]at this;cases this
  |some v=>
   have g:=b.val k;rw[hv,i]at g;exact h1 v m _ hv (I.tok _) g
 ·have j:valV kvs k=none:=by
   have:=(b.val k).isSome_eq
   rw[x]at this;cases hv:valV kvs k with
   |none=>rfl
   |some v=>rw[hv]at this;cases this
  have t:∃q,p.get? a=some q:=by obtain⟨q,_,_,hq,_⟩:=c;exact⟨q,hq⟩
  exact h2 j _ (a5J I (e▸True.intro) o t (b2f l f (b.put k rd) c))
end
section
variable{X:Cx}
def b3X(hu:X.A.units+66<cLine):MtR X "dict.get" (λx vs H Q=>∃a y d o,x=.ref a/\vs=[y,d]/\DGet H a y o/\Q (o.getD d) H):=by
 intro f s σ H x m v t Q I c k ⟨a,y,d,o,h,e,g,q⟩;subst h e;cases c;obtain⟨u,r,rfl,j,l⟩:=a8e k;exact b5G (by lia) I g j l λn p i b=>⟨_,H,i,b,q⟩
def b1j(hu:X.A.units+66<cLine):MtR X "dict.get" (λx vs H Q=>∃a y o,x=.ref a/\vs=[y]/\DGet H a y o/\Q (o.getD .non) H):=by
 intro i s σ H x m v n Q I f e ⟨a,y,o,c,d,g,q⟩;subst c d;cases f;obtain⟨u,rfl,h⟩:=a2A e;exact b5F (by lia) I g h λl k j b=>⟨_,H,j,b,q⟩
def b3Y:MtR X "dict.setdefault" (λx vs H Q=>∃a kvs k d,x=.ref a/\vs=[kV k,d]/\H a=some (.dK kvs)/\kvs.length<fR/\(∀v,valV kvs k=some v->Q v H)/\(valV kvs k=none->Q d (upd H a (.dK (putK kvs k d))))):=by
 intro m s σ H x z v B Q I i p ⟨a,y,k,d,n,j,e,q,g,t⟩;subst n j;cases i;obtain⟨u,r,rfl,o,f⟩:=a8e p;exact b61 I e o f q (λv A w l b c=>⟨v,H,b,c,g v l⟩) λh w b=>⟨d,_,b,f,t h⟩
end
end L2
namespace L3
open PySem PySem.Spec PyProof.Rows L2
noncomputable def valZ(kvs:List (Key×Z))(k:Key):Option Z:=(kvs.find? λkv=>decide (kv.1=k)).map (·.2)
theorem a02{K:Fg}:∀{kvs:List (Key×Z)}{us:List (Key×V)},us.map (·.1)=kvs.map (·.1)->Reps K H (kvs.map (·.2)) (us.map (·.2))->(valZ kvs k=none->valV us k=none)/\∀z,valZ kvs k=some z->∃v,valV us k=some v/\Rep K H z v
 |[],[],_,_=>⟨λ_=>rfl,λ_ h=>by cases h⟩
 |[],_::_,h,_=>by simp at h
 |_::_,[],h,_=>by simp at h
 | (c,x)::fs,(c',v)::gs,h,r=>by
  simp at h;obtain⟨rfl,h⟩:=h;obtain⟨g,f,e,d,a⟩:=r;obtain⟨rfl,rfl⟩:=bN.inj e;unfold valZ valV;rw[bJ,bJ];cases q:decide (c'=k) with
  |true=>
   refine⟨λe=>?_,λz e=>?_⟩
   ·cases e
   ·cases e;exact⟨v,rfl,d⟩
  |false=>exact (a02 (k:=k) h a)
section
variable{X:Cx}
def b3Z:Z->List Z->Hq->K3->Prop:=λx xs G R=>match x,xs with
 |.ref p,[y,d]=>∃kvs k,(G p=some (.dK kvs)\/G p=some (.dF kvs))/\keyZ y=some k/\R ((valZ kvs k).getD d) G
 |_,_=>False
def b2t(hu:X.A.units+66<cLine):MtQ X "dict.get" b3Z:=a7t (b3X hu) λx E H Q m=>m.un λw B G R j s i h l=>by
 match w,B,h with
 |.ref p,[y,d],h=>
  obtain⟨v,q,rfl,t,o⟩:=s.two;obtain⟨g,k,e,D,h⟩:=h;obtain⟨a,f,c,b⟩:∃a,Rd H p (.dK a)/\a.map _=g.map _/\Reps X.K H _ (a.map _):=by
   rcases e with e |e
   ·obtain⟨a,f,c,b⟩:=i _ _ e;exact⟨a,.inl f,c,b⟩
   ·obtain⟨C,a,f,c,b⟩:=i _ _ e;exact⟨a,.inr ⟨C,f⟩,c,b⟩
  refine⟨p,v,q,valV a k,j,rfl,by rw[a2R D t];exact .inl ⟨a,k,f,rfl,rfl⟩,?_⟩;cases hz:valZ g k with
  |none=>
   rw[hz]at h;rw[(a02 c b).1 hz];exact l _ _ _ _ h o i (.refl _ _)
  |some z=>
   rw[hz]at h;obtain⟨u,r,n⟩:=(a02 c b).2 z hz;rw[r];exact l _ _ _ _ h n i (.refl _ _)
def b62:Z->List Z->Hq->K3->Prop:=λx xs G R=>match x,xs with
 |.ref p,[y]=>∃kvs k,G p=some (.dK kvs)/\keyZ y=some k/\R ((valZ kvs k).getD .non) G
 |_,_=>False
def b30(hu:X.A.units+66<cLine):MtQ X "dict.get" b62:=a7t (b1j hu) λx t H Q n=>n.un λw l G R a j b h g=>by
 match w,l,h with
 |.ref p,[y],h=>
  obtain⟨v,rfl,m⟩:=j.one;obtain⟨c,k,e,q,h⟩:=h;obtain⟨r,s,d,f⟩:=b _ _ e;refine⟨p,v,valV r k,a,rfl,by rw[a2R q m];exact DGet.k s,?_⟩;cases hz:valZ c k with
  |none=>
   rw[hz]at h;rw[(a02 d f).1 hz];exact g _ _ _ _ h (by rw[dL,a0w];rfl) b (.refl _ _)
  |some z=>
   rw[hz]at h;obtain⟨u,i,o⟩:=(a02 d f).2 z hz;rw[i];exact g _ _ _ _ h o b (.refl _ _)
def b63:Z->List Z->Hq->K3->Prop:=λx xs G R=>match x,xs with
 |.ref p,[y,d]=>∃kvs k,G p=some (.dK kvs)/\keyZ y=some k/\kvs.length<fR/\(∀z,valZ kvs k=some z->R z G)/\(valZ kvs k=none->R d (put G p (.dK (putZ kvs k d))))
 |_,_=>False
def a2x:MtQ X "dict.setdefault" b63:=a7t b3Y λx M H Q C=>C.un λw t G R i F l h r=>by
 match w,t,h with
 |.ref p,[y,d],h=>
  obtain⟨v,E,rfl,B,q⟩:=F.two;obtain⟨b,k,e,L,A,s,J⟩:=h;obtain⟨D,c,f,g⟩:=l _ _ e;refine⟨p,D,k,E,i,by rw[a2R L B],c,by rw[a9o f];exact A,λu a=>?_,λa=>?_⟩
  ·cases hq:valZ b k with
   |none=>rw[(a02 f g).1 hq]at a;cases a
   |some z=>
    obtain⟨I,j,m⟩:=(a02 f g).2 z hq;rw[j]at a;cases a;exact r _ _ _ _ (s z hq) m l (.refl _ _)
  ·cases hq:valZ b k with
   |some z=>
    obtain⟨I,j,m⟩:=(a02 f g).2 z hq;rw[j]at a;cases a
   |none=>
    have n:=a4k (k:=k) q f g;exact r _ _ _ _ (J hq) (q.mono (.dK c)) (l.set (.dK c) ⟨_,a0d,n.1,n.2.mono (.dK c)⟩) (.dK c)
def a3L(e:G p=some (.dK kvs))(a:keyZ y=some k)(h:R ((valZ kvs k).getD d) G):b3Z (.ref p) [y,d] G R:=⟨kvs,k,.inl e,a,h⟩
def b31(e:G p=some (.dK kvs)\/G p=some (.dF kvs))(a:keyZ y=some k)(h:R ((valZ kvs k).getD d) G):b3Z (.ref p) [y,d] G R:=⟨kvs,k,e,a,h⟩
def b2u(e:G p=some (.dK kvs))(a:keyZ y=some k)(z:kvs.length<fR)(h1:∀z,valZ kvs k=some z->R z G)(h2:valZ kvs k=none->R d (put G p (.dK (putZ kvs k d)))):b63 (.ref p) [y,d] G R:=⟨kvs,k,e,a,z,h1,h2⟩
def a49{P:Prop}(e:G p=some (.dK kvs))(h:P):tyZ "dict" (.ref p) G/\P:=⟨.inr ⟨rfl,kvs,.inl e⟩,h⟩
def b9f{P:Prop}(e:G p=some (.dK kvs)\/G p=some (.dF kvs))(h:P):tyZ "dict" (.ref p) G/\P:=⟨.inr ⟨rfl,kvs,e⟩,h⟩
end
noncomputable def keysOf:List (Z×Z)->Option (List (Key×Z))
 |[]=>some []
 | (x,y)::r=>match keyZ x,keysOf r with
  |some k,some kvs=>some ((k,y)::kvs)
  |_,_=>none
noncomputable def a2y(kvs more:List (Key×Z)):List (Key×Z):=more.foldl (λacc kv=>putZ acc kv.1 kv.2) kvs
def PReps(K:Fg)(H:Hp):List (Z×Z)->List (V×V)->Prop:=Paired λp q=>Rep K H p.1 q.1/\Rep K H p.2 q.2
def PReps.mono{K:Fg}(t:TK K H H'):∀{ps:List (Z×Z)}{vs:List (V×V)},PReps K H ps vs->PReps K H' ps vs:=by intro z0 y0 x0;induction x0 with
 |nil=>exact .nil
 |cons r s I0=>exact .cons ⟨r.1.mono t,r.2.mono t⟩ (I0)
section
variable{X:Cx}
end
end L3
namespace L3
theorem ln0{α:Type}{C:List α->Prop}(h:C []):∀us:List α,us.length=0->C us
 |[],_=>h
theorem lnS{α:Type}{C:List α->Prop}(h:∀a,∀us:List α,us.length=n->C (a::us)):∀us:List α,us.length=n+1->C us
 |a::us,e=>h a us (Nat.succ.inj e)
end L3
namespace L2
open PySem PySem.Spec PyProof.Rows
section
variable{X:Cx}
def b32:∀{vs:List Value}{ns:List Int},gj vs ns->SetW.KsAre (iK P w) vs ns:=by intro z0 y0 x0;induction x0 with
 |nil=>exact .nil
 |cons n t h I0=>exact .cons (intKind_is _ _ _ _) (I0)
def b33(h:SetW.KsAre (iK P w) vs ns):gj vs ns:=by
 induction h with
 |nil=>exact .nil
 | @cons v k vs ks h _ ih=>
  cases v<;>simp[iK,Value.isInt]at h
  subst h;exact .cons _ _ ih
def a9u:∀{vs:List Value}{ns:List Int},gj vs ns->∀v∈vs,v.scannable=true:=by
 intro c b h
 induction h with
 |nil=>intro v a;cases a
 |cons n t h ih=>
  intro v a;rcases ax.mp a with rfl |a
  ·rfl
  ·exact ih v a
noncomputable def setO(X:Cx)(t:Addr)(ms:List Int):HO:=.ext λh=>SetW.SI (iK X.prog X.w) h t ms
def b64(X:Cx):List V->Hp->VK->Prop:=λxs H Q=>∃(p:Addr)(ns:List Int),xs=[.ref p]/\SqL X.K H p (ns.map V.int)/\ns.length<=1000 /\
 ∀(t:Addr)(ms:List Int),H t=none->SetW.Met (λi=>ns.getD i 0) ns.length ms->Q (.ref t) (upd H t (setO X t ms))
def a7G(hc:X.calm=true):CallR X (.type "set") (b64 X):=by
 intro c s σ H xs us Q I r h;obtain⟨p,ns,rfl,n,hz,q⟩:=h;obtain⟨u,rfl,v⟩:=a2A r;cases v;obtain⟨j,m,z,_⟩:=I.list n;have f:=a7q m;have A:=a6J f;have sb:1001<scanBound:=by decide
 have i:j.toArray.size=ns.length:=by grind
 refine SetW.call_set (ns:=ns) (k0:=0) (I.ok.hd hc) z.isList (by simpa using b32 f) (by simpa using a9u f) (by grind) λg l d S M k=>?_;rw[i]at M;have t:=
  I.laid (t':=l) (λb o e=>k b o (Heap.lt_size e) e) (av _) (show ObjOk X.prog X.w _ g _ (setO X s.heap.objs.size d) from ⟨S,by obtain⟨_,_,_,S'⟩:=S;exact by obtain⟨o,e,_⟩:=S'.at_;exact⟨o,e⟩,λ_ _ x y=>x.at y⟩)
 exact⟨.ref s.heap.objs.size,_,t,rfl,q _ d (I.hok.fresh (av _)) M⟩
def b1k(X:Cx):List V->Hp->VK->Prop:=λxs H Q=>∃(p:Addr)(ms:List Int),xs=[.ref p]/\H p=some (setO X p ms)/\ms.length<=1000 /\
 ∀(t:Addr)(ks:List Int),H t=none->ks.Perm ms->ks.Pairwise (·<=·)->Q (.ref t) (upd H t (.lst (ks.map V.int)))
def a5a(hc:X.calm=true):CallR X (.builtin "sorted") (b1k X):=by
 intro c s σ H xs us Q I r h;obtain⟨p,ns,rfl,y,B,q⟩:=h;obtain⟨u,rfl,t⟩:=a2A r;cases t;refine a9i B (λR E=>SetW.collect_set (I.ok.hd hc) ((I.hok p _ y).1) λg a d m F J l C=>E g a d m F J (b33 l) C) λg v a d j n i x D e z k o=>?_;have f:Inv X c σ H { s with heap:=g,drawn:=d,toks:=a }:=(I.drew d).kept x;exact⟨.ref g.objs.size,_,f.laid D (av _) (show ObjOk X.prog X.w _ v _ (.lst _) from ⟨by rw[aq,k.length_eq,f8];lia,j,n,a9h z,e⟩),rfl,q _ i (f.hok.fresh (av _)) k o⟩
end
end L2
namespace L3
open PySem PySem.Spec PyProof.Rows L2
def b34{ns ms:List Int}(h:SetW.Met (λi=>ns.getD i 0) ns.length ms):∀x,x∈ms↔x∈ns:=λx=>by
 rw[h.2.2 x]
 constructor
 ·rintro⟨j,a,e⟩;have e:ns.getD j 0=x:=e;rw[bX,aC a]at e;exact e▸bz a
 ·intro b;obtain⟨j,a,e⟩:=cH.mp b;exact⟨j,a,by show ns.getD j 0=x;rw[bX,aC a];exact e⟩
def a9v:∀{ks:List Int},ks.Nodup->ks.Pairwise (·<=·)->ks.Pairwise (·<·):=by intro z0;induction z0 with
 |nil=>intro _ _;exact .nil
 |cons k ks I0=>
  intro h1 h2;obtain⟨b,c⟩:=bv.mp h1;obtain⟨f,d⟩:=aH.mp h2;refine aH.mpr ⟨λx a=>?_,I0 c d⟩;have h:=f x a;have g:k≠x:=λe=>b (e▸a)
  lia
section
variable{X:Cx}{e:Expr}{es:List Expr}{t:A3}{x y:Str}{p p2 pos pos2:Pos}
def uSS(t:A3):E3:=fun σ G R=>t σ G λws G1=>∃(p:Addr)(ns:List Int),ws=[.ref p]/\G1 p=some (.lst (ns.map Z.int))/\ns.length<=1000 /\
 ∀(t:Addr)(ks:List Int),G1 t=none->ks.Pairwise (·<·)->(∀x,x∈ks↔x∈ns)->ks.length<=ns.length->R (.ref t) (put G1 t (.lst (ks.map Z.int)))
def i_ss{p:Addr}{ns:List Int}{R:K3}(e:G p=some (.lst (ns.map Z.int)))(z:ns.length<=1000)
  (h:∀(t:Addr)(ks:List Int),G t=none->ks.Pairwise (·<·)->(∀x,x∈ks↔x∈ns)->ks.length<=ns.length->R (.ref t) (put G t (.lst (ks.map Z.int)))) :
  ∃(q:Addr)(ns':List Int),[Z.ref p]=[.ref q]/\G q=some (.lst (ns'.map Z.int))/\ns'.length<=1000 /\
   ∀(t:Addr)(ks:List Int),G t=none->ks.Pairwise (·<·)->(∀x,x∈ks↔x∈ns')->ks.length<=ns'.length->R (.ref t) (put G t (.lst (ks.map Z.int))):=⟨p,ns,rfl,e,z,h⟩
def q_ss(hc:X.calm=true)(hg:Gl X x)(hm:X.mg x=none)(hv:gx x=some (.builtin "sorted"))(hg2:Gl X y)(hm2:X.mg y=none)(hv2:gx y=some (.type "set"))(ha:QA X (e::es) t)
  (he:fW (e::es) X.env=(false,eval e X.env)::fW es X.env) (hpl:(backTo pos2 (fW es X.env)).any (·.1)=false)
  (hn:x≠"__name__":=by decide) (hdb:(x==("__debug__":Str))=false:=by decide) (hn2:y≠"__name__":=by decide) (hdb2:(y==("__debug__":Str))=false:=by decide) :
  QE X (.Call (.Name x p) [.Call (.Name y p2) (e::es) [] pos2] [] pos) (uSS t):=⟨a0P (a3Z (a5a hc) hg hm hv (a3Y (a1K (a7G hc) hg2 hm2 hv2 ha.p hn2 hdb2 he hpl) a6p rfl) hn hdb rfl rfl) fun τ H Q n=>n.un fun σ G R hs hg h s=>
 ⟨σ,G,_,hs,hg,h,λws G1 vs H1 f rs c w=>by
  obtain⟨p,B,rfl,A,z,f⟩:=f;obtain⟨v,rfl,r⟩:=rs.one;obtain⟨vs',o,k⟩:=c _ _ A
  have:=a8E k
  subst this;refine⟨p,B,by rw[r],SqL.of o,z,λa j ha M=>⟨a,j,rfl,a0d,aD M.2.1 z,λu q b g m=>?_⟩⟩;have l:=c.hid (u:=setO X a j) ha;exact s _ _ _ _ (f u q (l.out b) (a9v (g.nodup_iff.mpr M.1) m) (λx=>by rw[g.mem_iff];exact b34 M x) (g.length_eq▸M.2.1)) (by rw[a0v]) (l.set (.new b) (a07 (a21 _) (.new b))) (w.trans ((TK.new ha).trans (.new b)))⟩⟩
end
section
variable{X:Cx}
end
end L3
namespace L2
open PySem PySem.Spec PyProof.Rows
section
variable{X:Cx}
def KD(X:Cx)(a:Addr)(kvs:List (Key×V)):Prop:=kvs.length<=fR/\(a==gm)=false/\∃vs,KV kvs vs/\∀h:Heap,X.K.In h->h.DictOf (a0j X.prog X.w) a vs
end
end L2
namespace L3
open PySem PySem.Spec PyProof.Rows L2
section
variable{X:Cx}
noncomputable def zV:Z->V
 |.str x=>.str x
 |.ref a=>.ref a
 |.int i=>.int i
 |_=>.non
noncomputable def b65:Z->Bool
 |.str _=>true
 |.ref _=>true
 |.int _=>true
 |_=>false
def KDZ(X:Cx)(a:Addr)(kvs:List (Key×Z)):Prop:=(∀kv∈kvs,b65 kv.2=true)/\KD X a (kvs.map λkv=>(kv.1,zV kv.2))
def KTup(K:Fg)(a:Addr)(ss:List Str):Prop:=∃(o:Obj)(its:Array Value)(n:Nat),K.lookup a=some o/\o.cls=.type "tuple"/\o.data=.seq its n/\its.size<=fR/\Vals (ss.map V.str) its.toList
def KTup.sq{K:Fg}(h:KTup K a ss):SqT K H a (ss.map V.str):=.inr h
variable{t:A3}
end
def KDk(w:World)(K:Fg)(a:Addr)(kvs:List (Key×Z)):Prop:=(∀kv∈kvs,b65 kv.2=true)/\kvs.length<=fR/\(a==gm)=false/\∃vs:List (Key×Value),KV (kvs.map λkv=>(kv.1,zV kv.2)) vs/\∀(P:fV)(h:Heap),K.In h->h.DictOf (a0j P w) a vs
def KDk.at(h:KDk X.w X.K a kvs):KDZ X a kvs:=⟨h.1,by rw[aq];exact h.2.1,h.2.2.1,by obtain⟨vs,r,q⟩:=h.2.2.2;exact⟨vs,r,q X.prog⟩⟩
end L3
namespace L2
open PySem PySem.W
end L2
namespace L2
open PySem PySem.Spec PyProof.Rows
section
variable{X:Cx}{e:Addr}{oe:Obj}{C:Addr}
end
end L2
namespace L3
open PySem PySem.Spec PyProof.Rows L2
abbrev PX3:=List Z->Hq->K3->(Addr->Hq->Prop)->Prop
def UpX(K:Fg)(H:Hp)(EE:Addr->Hq->Prop)(E:XK):Prop:=∀C G H',EE C G->RH K G H'->TK K H H'->E (.ref C) none H'
def b9g{K:Fg}(t:TKs H H'):TK K H H':=⟨t.tup,λa b h=>by
 rcases h with ⟨o,h⟩ |h
 ·exact .inl ⟨o,t.frz _ _ _ h⟩
 ·exact .inr h,t.frz⟩
def UpN(K:Fg)(EE:Addr->Hq->Prop)(E:XK):Prop:=∀C G H',EE C G->RH K G H'->E (.ref C) none H'
def UpX.since{K:Fg}(h:UpX K H EE E):UpN K EE (since H E):=λC G a q r t=>h C G a q r (b9g t)
section
variable{X:Cx}{E:XK}{EE:Addr->Hq->Prop}{e e0:Expr}{es:List Expr}{x n:Str}{p pos np cpos hpos tpos:Pos}{t:A3}{te:E3}{k:Nat}{f C D:Addr}{fd:gz}{ps:List Str}{sp:PX3}
variable{o:Expr}{m:Str}{apos:Pos}{to:E3}{PC:Addr->Prop}
end
section
variable{X:Cx}{EW:XK}{N':List Str}{sc:Scope}{cap:List (Option Nat)}{tg iter elt:Expr}{ifs:List Expr}{wi:I3}{pt:Pt}{tt:T3}{te:E3}{pos:Pos}
end
section
variable{P:fV}{w:World}{K:Fg}{mg:Str->Option Value}{base:Heap}
end
mutual
def DZ(G:Hq):PyData->Z->Prop
 |.none,x=>x=.non
 |.bool b,x=>x=.bl b
 |.int i,x=>x=.int i
 |.str s,x=>x=.str s
 |.list ds,x=>∃p ws,x=.ref p/\G p=some (.lst ws)/\DZs G ds ws
 |.tuple ds,x=>∃ws,x=.tup ws/\DZs G ds ws
 |.dict _,_=>False
def DZs(G:Hq):List PyData->List Z->Prop
 |[],ws=>ws=[]
 |d::ds,ws=>∃w r,ws=w::r/\DZ G d w/\DZs G ds r
end
mutual
theorem DZ.sm{G G':Hq}(s:Sm G G'):∀{d:PyData}{w:Z},DZ G d w->DZ G' d w
 |.none,w,q=>by unfold DZ at q ⊢;exact q
 |.bool b,w,q=>by unfold DZ at q ⊢;exact q
 |.int i,w,q=>by unfold DZ at q ⊢;exact q
 |.str _,w,q=>by unfold DZ at q ⊢;exact q
 |.list ds,w,q=>by
  unfold DZ at q ⊢;obtain⟨p,ws,e,hp,q⟩:=q;exact⟨p,ws,e,s _ _ hp,DZs.sm s q⟩
 |.tuple ds,w,q=>by
  unfold DZ at q ⊢;obtain⟨ws,e,q⟩:=q;exact⟨ws,e,DZs.sm s q⟩
 |.dict _,w,q=>by unfold DZ at q;exact q.elim
theorem DZs.sm{G G':Hq}(s:Sm G G'):∀{ds:List PyData}{ws:List Z},DZs G ds ws->DZs G' ds ws
 |[],ws,q=>by unfold DZs at q ⊢;exact q
 |d::ds,ws,q=>by
  unfold DZs at q ⊢;obtain⟨w,r,e,q1,q2⟩:=q;exact⟨w,r,e,DZ.sm s q1,DZs.sm s q2⟩
end
section
variable{X:Cx}
end
end L3
namespace L2
open PySem PySem.Spec PyProof.Rows
end L2
namespace L3
open PySem PySem.Spec PyProof.Rows L2
section
variable{X:Cx}{E:XK}{e:Expr}{es:List Expr}{x n:Str}{p pos np hpos tpos:Pos}{t:A3}{k:Nat}{f D:Addr}{fd:gz}{ps:List Str}{sp:PX3}
end
end L3
namespace L2
open PySem PySem.Spec PyProof.Rows
noncomputable def ItD(o:Obj)(a:Addr)(kvs:List (Key×V)):It:=
 ⟨λi H=>H a=some (.frz o (.dK kvs))/\i<kvs.length,λi H x H'=>H'=H/\∃p,kvs[i]?=some p/\x=kV p.1,λi H=>H a=some (.frz o (.dK kvs))/\kvs.length<=i⟩
def b9h(h:(a0j P w).is k u=true):RelV (kV k) u:=by
 rcases a0n h with ⟨i,t,rfl,rfl⟩ |⟨x,t,rfl,rfl⟩ |⟨rfl,rfl⟩
 ·exact⟨t,rfl⟩
 ·exact⟨t,rfl⟩
 ·rfl
def a3M:∀{kvs:List (Key×V)}{vs:List (Key×Value)},KV kvs vs->vs.length=kvs.length:=by intro z0;induction z0 with
 |nil=>intro vs h;cases h;rfl
 |cons p kvs I0=>
  intro vs h;cases h with
  |cons h1 h2=>rw[aI,aI,I0 h2]
theorem b2v:∀{kvs:List (Key×V)}{vs:List (Key×Value)}{i:Nat}{p:Key×V},KV kvs vs->kvs[i]?=some p->∃q,vs[i]?=some q/\p.1=q.1
 |[],vs,i,p,h,e=>by simp at e
 |p0::kvs,vs,i,p,h,e=>by
  cases h with
  |cons h1 h2=>
   cases i with
   |zero=>cases e;exact⟨_,rfl,h1.1⟩
   |succ i=>exact b2v (i:=i) h2 (by simpa using e)
theorem a9w{P:fV}{w:World}{K:Fg}{tg:Expr}(a it:Addr){o:Obj}(kvs:List (Key×V)){es:Array jj}{ep:Nat}(hd:o.data=.dict es ep):Turn P w K tg (ItD o a kvs) [it] it (λi h=>h.IsKeyIter it a i kvs.length ep) where
 mem:=by simp
 obj:=λi h st b hb=>by
  have e:b=it:=by simpa using hb
  subst e;obtain⟨o,e,c,d⟩:=st;exact⟨o,e,λv z=>by rw[d]at z;cases z⟩
 keep:=λi h h' st k=>st.at λo e=>k it (by simp) o e
 item:=by
  intro X hP hw hK hc i pins s σ H E I hf st hg;subst hP hw hK;obtain⟨ha,hi⟩:=hg;obtain⟨g,hz,hsm,vs,kv,dof⟩:=(show ObjOk X.prog X.w H s.heap a (.frz o (.dK kvs)) from I.hok a _ ha);obtain⟨f0,f1,f2,f3,f4,f5⟩:=hf it (by simp);have hl:=a3M kv;have dat:s.heap.DictAt (a0j X.prog X.w) a vs ep:=by
   obtain⟨o',es',ep',h1,h2,h3,h4⟩:=dof;rw[g]at h1;cases h1;rw[hd]at h3;cases h3;exact⟨o,es,g,h2,hd,h4⟩
  obtain⟨p,hp⟩:∃p,kvs[i]?=some p:=⟨kvs[i],aC hi⟩;obtain⟨⟨k,v⟩,hq,e1⟩:=b2v kv hp;refine wpAny_pyNext_dict_item (by rw[hl];exact st) dat hq λkey h' hk st' sb=>?_;have I1:Inv X pins σ H { s with heap:=h' }:=I.turned (t':=s.toks) (λb o hb e=>(sb.2 b hb).trans e) f0 f1 f3 f4 f5;rw[hl]at st';obtain⟨oi,e,c,d⟩:=id st';exact⟨key,rfl,a7h (s:={ s with heap:=h' }) e c d (by decide) ⟨kV p.1,H,I1,by rw[e1];exact b9h hk,⟨rfl,p,hp,rfl⟩,st',λb hb=>(hf b hb).1⟩⟩
 done:=by
  intro X hP hw hK hc i pins s σ H E I hf st hg;subst hP hw hK;obtain⟨ha,hi⟩:=hg;obtain⟨g,hz,hsm,vs,kv,dof⟩:=(show ObjOk X.prog X.w H s.heap a (.frz o (.dK kvs)) from I.hok a _ ha);obtain⟨f0,f1,f2,f3,f4,f5⟩:=hf it (by simp);have hl:=a3M kv;have dat:s.heap.DictAt (a0j X.prog X.w) a vs ep:=by
   obtain⟨o',es',ep',h1,h2,h3,h4⟩:=dof;rw[g]at h1;cases h1;rw[hd]at h3;cases h3;exact⟨o,es,g,h2,hd,h4⟩
  exact wpAny_pyNext_dict_end (I.ok.hd hc) (by rw[hl];exact st) dat (d8 (by omega)) λh' eb=>⟨rfl,I.turned (t':=s.toks) (λb o hb e=>eb b o hb e) f0 f1 f3 f4 f5⟩
 self:=λ_ _ _ _ _ st h=>wpAny_pyIter_keyiter st h
section
variable{X:Cx}{pins:List (Addr×Obj)}{σ:St}{H:Hp}{s:Shared}{a:Addr}{kvs:List (Key×V)}{tg:Expr}
def Inv.freeze(I:Inv X pins σ H s)(e:H a=some (.dK kvs)):∃o,Inv X pins σ (upd H a (.frz o (.dK kvs))) s:=by
 obtain⟨p,k,t,x,h⟩:=(I.hok a _ e);have i:=h;obtain⟨o,C,B,g,r⟩:=i;refine⟨o,?_⟩;have l:∀b,H b=none->b≠a:=λb q z=>by rw[z,e]at q;cases q
 have j:∀b d,H b=some (.tup d)->b≠a:=λb d q z=>by rw[z,e]at q;cases q
 have A:∀b o u,H b=some (.frz o u)->b≠a:=λb o u q z=>by rw[z,e]at q;cases q
 have y:∀b f,H b=some (.tbl f)->b≠a:=λb f q z=>by rw[z,e]at q;cases q
 have m:∀b c,H b=some (.own c)->b≠a:=λb c q z=>by rw[z,e]at q;cases q
 refine I.un ⟨λb o q _ _ _=>q,λb o q _ _ _=>⟨o.slots,q⟩,λb o q n _=>by rw[a0c (l b n)];exact n,λb o q _=>⟨o,q⟩,λb d q=>by rw[a0c (j b d q)];exact q,λb o u q=>by rw[a0c (A b o u q)];exact q,λb f q=>⟨#[],by rw[a0c (y b f q),d9];exact q⟩⟩ λb u q=>?_
 by_cases hb:b=a
 ·subst hb;rw[a0d]at q;cases q;exact⟨g,p,k,t,x,h⟩
 ·rw[a0c hb]at q;exact (I.hok b u q).stay (λc v _ r=>r) (λc r=>by rw[a0c (m c b r)];exact r) λc d r=>by rw[a0c (j c d r)];exact r
def iDct(tl:TE):TI:=fun σ H R=>tl σ H λx H1=>∃a kvs,x=.ref a/\((H1 a=some (.dK kvs)/\∀o,R (ItD o a kvs) (upd H1 a (.frz o (.dK kvs))))\/∃o,H1 a=some (.frz o (.dK kvs))/\R (ItD o a kvs) H1)
def b35(hl:PE X l tl):PI X tg l (iDct tl):=by
 intro c s σ H R I h;refine thn (hl c s σ H _ I h) λv d ⟨x,B,r,C,E⟩=>?_;obtain⟨a,f,e,q⟩:=E;subst e;cases C;have k:∀o i,Inv X c σ i d->i a=some (.frz o (.dK f))->R _ i->wpAny _ X.A _ (PIE X c σ tg R) X.xe d:=λo i j m q=>by
  obtain⟨g,M,t,L,D,y⟩:=(j.hok a _ m);obtain⟨N,n⟩:=y.dictAt;have p:=n;obtain⟨J,G,u,_,F,_⟩:=p;rw[g]at u;cases u;refine wpAny_pyIter_dict t n ⟨d.heap.objs.size,[d.heap.objs.size],_,_,i,rfl,j.kept λb o e=>Heap.get?_push_of_some _ e,a9w a _ f F,⟨_,Heap.get?_push_size _ rfl,rfl,by rw[a3M D];rfl⟩,λb z=>?_,q⟩;have e:b=d.heap.objs.size:=by grind
  subst e;exact j.fpOk (av _) (j.hok.fresh (av _))
 rcases q with ⟨m,q⟩ |⟨o,m,q⟩
 ·obtain⟨o,j⟩:=r.freeze m;exact k o _ j a0d (q o)
 ·exact k o B r m q
end
end L2
namespace L3
open PySem PySem.Spec PyProof.Rows L2
noncomputable def keyW:Key->Z
 |.inl (some i)=>.int i
 |.inl none=>.non
 |.inr s=>.str s
theorem b1l{K:Fg}:∀k:Key,Rep K H (keyW k) (kV k)
 |.inl (some i)=>by show Rep K H (.int i) (.int i);rw[a0k]
 |.inl none=>by show Rep K H .non .non;rw[a0w]
 |.inr s=>by show Rep K H (.str s) (.str s);rw[a0t]
def wkD(x:Z)(G:Hq)(R:List Z->(Hq->Prop)->Hq->Prop):Prop:=match x with
 |.ref a=>∃kvs,(G a=some (.dK kvs)\/G a=some (.dF kvs))/\R (kvs.map λp=>keyW p.1) (λ_=>True) (put G a (.dF kvs))
 |_=>False
def iD(tl:E3):I3:=fun σ G R=>tl σ G λx G1=>wkD x G1 R
def a3N{K:Fg}{kvs:List (Key×Z)}(e:H0 a=some (.frz o (.dK us)))(hn:us.map (·.1)=kvs.map (·.1)):a3l K (kvs.map λp=>keyW p.1) (λ_=>True) (ItD o a us) H0:=λi G H g t n j=>by
 have d:=t.frd _ _ _ e;have l:us.length=kvs.length:=by have:=congrArg aX hn;simpa using this
 rw[aq]at j;refine⟨λh=>⟨d,by rw[aq]at h;lia⟩,λw b=>?_⟩;rw[aA]at b;cases hk:kvs[i]? with
 |none=>rw[hk]at b;cases b
 |some p=>
  rw[hk]at b;cases b;have k:=(az.mp hk).1;refine⟨⟨d,by lia⟩,?_⟩;rintro x m ⟨rfl,q,f,rfl⟩
  have:q.1=p.1:=by
   have c:(us.map (·.1))[i]?=some q.1:=by rw[aA,f];rfl
   rw[hn,aA,hk]at c;exact (aN.inj c).symm
  rw[this];exact⟨b1l _,g,.refl _ _⟩
section
variable{X:Cx}{tg l:Expr}{tl:E3}
def b36(hl:QE X l tl):QI X tg l (iD tl):=a5O (b35 hl.p) fun τ H B u=>u.un fun σ G R z A h t=>by
 refine⟨σ,G,_,z,A,h,λw r v q d k c s=>?_⟩;cases w with
 |ref a=>
  obtain⟨j,e,d⟩:=d;rcases e with e |e
  ·obtain⟨g,f,i,n⟩:=c _ _ e;refine⟨a,g,k,.inl ⟨f,λo=>?_⟩⟩;have m:TK X.K q (L2.upd q a (.frz o (.dK g))):=.dK f;exact t _ _ _ _ _ d (a3N a0d i) (c.set m ⟨o,g,a0d,i,n.mono m⟩) (s.trans m)
  ·have x:=e;obtain⟨o,g,f,i,n⟩:=c _ _ e;refine⟨a,g,k,.inr ⟨o,f,?_⟩⟩;have y:put r a (.dF j)=r:=by
    funext b
    unfold put
    split
    ·simp_all
    ·rfl
   rw[y]at d;exact t _ _ _ _ _ d (a3N f i) c s
 |_=>exact aB d
def i_iD(h:tl σ G λx G1=>wkD x G1 R):iD tl σ G R:=h
def b9i(e:G p=some (.dK kvs)\/G p=some (.dF kvs))(h:R (kvs.map λp=>keyW p.1) (λ_=>True) (put G p (.dF kvs))):wkD (.ref p) G R:=⟨kvs,e,h⟩
end
end L3
namespace L2
open PySem PySem.Spec PyProof.Rows
def b37:∀{ss:List Str}{us:List Value},Vals (ss.map V.str) us->je us ss:=by intro z0;induction z0 with
 |nil=>intro us r;rw[bx]at r;cases r;exact .nil
 |cons s ss I0=>
  intro us r;cases r with
  |cons r1 r2=>obtain⟨t,rfl⟩:=r1;exact .cons s t (I0 r2)
def a5b:∀{vs:List Value}{ss:List Str},je vs ss->Vals (ss.map V.str) vs:=by intro z0 y0 x0;induction x0 with
 |nil=>exact .nil
 |cons s t h I0=>exact .cons ⟨t,rfl⟩ (I0)
def b1m(K:Fg):List V->Hp->VK->Prop:=λxs H Q=>∃(p:Addr)(ss:List Str),xs=[.ref p]/\SqL K H p (ss.map V.str)/\ss.length<64 /\
 ∀(t:Addr)(ts:List Str),H t=none->ts.Perm ss->iH ts=true->Q (.ref t) (upd H t (.lst (ts.map V.str)))
def a5c:CallR X (.builtin "sorted") (b1m X.K):=by
 intro k s σ H y z Q I r h;obtain⟨p,x,rfl,g,t,q⟩:=h;obtain⟨u,rfl,i⟩:=a2A r;cases i;obtain⟨c,n,m,_⟩:=I.list g;have f:=b37 n;have v:=f.length;refine sorted_strs m.isList f (by lia) λa b o d l=>?_;obtain⟨e,j⟩:=sortedAll_at s.heap c a;exact⟨.ref _,_,I.laid (λ_ _=>sortedAll_old) (cg _) (show ObjOk X.prog X.w _ _ _ (.lst _) from ⟨by rw[aq,d.length_eq,f8];lia,a.toList,e,a5b o,by simpa using j⟩),rfl,q _ b (I.hok.fresh (cg _)) d l⟩
end L2
namespace L3
open PySem PySem.Spec PyProof.Rows L2
def a3O{K:Fg}:∀ss:List Str,Reps K H (ss.map Z.str) (ss.map V.str):=by intro z0;induction z0 with
 |nil=>rw[bx,bx,a0p]
 |cons s ss I0=>
  exact⟨_,_,rfl,by rw[a0t],I0⟩
def a7H{K:Fg}:∀{ss:List Str}{vs:List V},Reps K H (ss.map Z.str) vs->vs=ss.map V.str:=by intro z0;induction z0 with
 |nil=>intro vs h;rw[bx,a0p]at h;subst h;rfl
 |cons s ss I0=>
  intro vs h;obtain⟨v,r,rfl,a,b⟩:=h;rw[a,I0 b];rfl
def a6O:List Z->Hq->K3->Prop:=λxs G R=>match xs with
 |[.ref p]=>∃ss:List Str,G p=some (.lst (ss.map Z.str))/\ss.length<64/\∀(t:Addr)(ts:List Str),G t=none->ts.Perm ss->iH ts=true->R (.ref t) (put G t (.lst (ts.map Z.str)))
 |_=>False
def a9x:a2D X (.builtin "sorted") a6O:=a19 a5c λu H Q n=>n.un λg G R j b h q=>by
 match g,h with
 |[.ref p],h=>
  obtain⟨v,rfl,r⟩:=j.one;obtain⟨i,e,d,h⟩:=h;obtain⟨s,k,l⟩:=b _ _ e
  have:=a7H l
  subst this;exact⟨p,i,by rw[r],SqL.of k,d,λt a c f m=>q _ _ _ _ (h t a (b.out c) f m) (by rw[a0v]) (b.set (.new c) ⟨_,a0d,a3O a⟩) (.new c)⟩
def a9y(e:G p=some (.lst (ss.map Z.str)))(z:ss.length<64)(h:∀(t:Addr)(ts:List Str),G t=none->ts.Perm ss->iH ts=true->R (.ref t) (put G t (.lst (ts.map Z.str)))):a6O [.ref p] G R:=⟨ss,e,z,h⟩
end L3
namespace L2
open PySem PySem.Spec PyProof.Rows
structure Cl where
 x:Str
 np:Pos
 b₀:Stmt
 suite:List Stmt
 hp:Pos
noncomputable def Cl.h(n:Str)(c:Cl):ExceptHandler:=.ExceptHandler (some (.Name c.x c.np)) (some n) (c.b₀::c.suite) c.hp
inductive Picks (X:Cx) (C:Addr) (th:Addr->TS):List Cl->Prop
 |here {c:Cl} {cs:List Cl} {D:Addr} (hg:Gl X c.x) (hm:X.mg c.x=some (.ref D)) (hd:(c.x==("__debug__":Str))=false) (hD:PySem.W.exmOne X.K (.ref C) (.ref D)=some true)
   (hh:∀e oe,oe.cls=.ref C->oe.dict=none->PySem.W.notCls oe=true->PSs (X.hnd e oe) (c.b₀::c.suite) (th e)):Picks X C th (c::cs)
 |next {c:Cl} {cs:List Cl} {D:Addr} (hg:Gl X c.x) (hm:X.mg c.x=some (.ref D)) (hd:(c.x==("__debug__":Str))=false) (hD:PySem.W.exmOne X.K (.ref C) (.ref D)=some false) (hp:Picks X C th cs):Picks X C th (c::cs)
section
variable{X:Cx}{n:Str}{pos tpos:Pos}{ce:Expr}
end
end L2
namespace L3
open PySem PySem.Spec PyProof.Rows L2
inductive Alt (X:Cx) (cs:List Cl):List (Addr×(Addr->X3))->Prop
 |nil:Alt X cs []
 |cons {C:Addr} {th:Addr->X3} {l:List (Addr×(Addr->X3))} (h:Picks X C (λe=>lowS X.K (th e)) cs) (hs:Alt X cs l):Alt X cs ((C,th)::l)
theorem Alt.get:∀{l:List (Addr×(Addr->X3))},Alt X cs l->∀p∈l,Picks X p.1 (λe=>lowS X.K (p.2 e)) cs
 |_,.nil,p,h=>by simp at h
 |_,.cons h hs,p,hp=>by
  rcases ax.mp hp with rfl |hp
  ·omega
  ·exact hs.get p hp
section
variable{X:Cx}{e:Expr}{es:List Expr}{n:Str}{p pos tpos:Pos}{t:A3}{k:Nat}{f:Addr}{fd:gz}{ps:List Str}{sp:PX3}
end
end L3
namespace L2
open PySem PySem.W
end L2
namespace L2
open PySem PySem.Spec PyProof.Rows
def Inv.melt(I:Inv X pins σ H s)(e:H a=some (.frz o (.dK kvs)))(n:∀o u,X.H₀ a≠some (.frz o u)):Inv X pins σ (upd H a (.dK kvs)) s:=by
 obtain⟨g,E,j,A,B,t⟩:=(I.hok a _ e);have i:∀b,H b=none->b≠a:=λb q z=>by rw[z,e]at q;cases q
 have k:∀b d,H b=some (.tup d)->b≠a:=λb d q z=>by rw[z,e]at q;cases q
 have D:∀b f,H b=some (.tbl f)->b≠a:=λb f q z=>by rw[z,e]at q;cases q
 have L:∀b c,H b=some (.own c)->b≠a:=λb c q z=>by rw[z,e]at q;cases q
 refine⟨I.ok,I.os,I.bare,⟨I.base.keep,I.base.slot,λb o F C y=>?_,I.base.there,λb d q=>?_,λb o u q=>?_,λb f q=>?_⟩,I.loc,I.cell,?_,λx c q=>?_,λp M=>?_,λb u q=>?_,I.len⟩
 ·have h:=I.base.free b o F C y;rw[a0c (i b h)];exact h
 ·have h:=I.base.tups b d q;rw[a0c (k b d h)];exact h
 ·rw[a0c (λz=>n o u (by simp_all))];exact I.base.frzs b o u q
 ·obtain⟨m,h⟩:=I.base.tbls b f q;exact⟨m,by rw[a0c (D b _ h)];exact h⟩
 ·rw[a0c (i _ I.free)];exact I.free
 ·have h:=I.freeC x c q;rw[a0c (i _ h)];exact h
 ·obtain⟨G,l,J⟩:=I.pin p M;exact⟨G,by rw[a0c (i _ l)];exact l,J⟩
 ·by_cases hb:b=a
  ·subst hb;rw[a0d]at q;cases q;exact⟨E,j,A,B,t⟩
  ·rw[a0c hb]at q;exact (I.hok b u q).stay (λc v _ r=>r) (λc r=>by rw[a0c (L c b r)];exact r) λc d r=>by rw[a0c (k c d r)];exact r
end L2
namespace L3
open PySem PySem.Spec PyProof.Rows L2
section
variable{X:Cx}{K:Fg}{H H1:Hp}{a:Addr}{us us1:List (Key×V)}{o:Obj}{e:Expr}{t:E3}{G:Hq}{kvs:List (Key×Z)}
def a28(h:H1 a=some (.frz o (.dK us1))):TW K H1 (upd H1 a (.dK us1)):=
 ⟨λc b q=>by rw[a0c (λz=>by rw[z,h]at q;cases q)];exact q,λc b q=>by
  rcases q with ⟨o',q⟩ |q
  ·exact .inl ⟨o',by rw[a0c (λz=>by rw[z,h]at q;cases q)];exact q⟩
  ·exact .inr q⟩
def b38(h0:H a=some (.dK us))(t:TK K H H1)(h:H1 a=some (.frz o (.dK us1))):TK K H (upd H1 a (.dK us1)):=
 ⟨λc b q=>(a28 (K:=K) h).tup c b (t.tup c b q),λc b q=>(a28 (K:=K) h).frz c b (t.frz c b q),λc d u q=>by
  rw[a0c (λz=>by rw[z,h0]at q;cases q)];exact t.frd c d u q⟩
def b9j(t:TW K H H1)(fc:∀b o c q,H b=some (.frz o (a2C c q))->H1 b=some (.frz o (a2C c q)))(e:H1 b=H b)(h:ROb K H b o'):ROb K H1 b o':=by
 cases o' with
 |lst ws=>obtain⟨a,q,r⟩:=h;exact⟨a,e.trans q,r.monoW t⟩
 |dK kvs=>obtain⟨a,q,n,r⟩:=h;exact⟨a,e.trans q,n,r.monoW t⟩
 |ins C dx fs=>obtain⟨a,q,n,r⟩:=h;exact⟨a,e.trans q,n,r.monoW t⟩
 |dF kvs=>obtain⟨d,a,q,n,r⟩:=h;exact⟨d,a,e.trans q,n,r.monoW t⟩
 |dT ks=>obtain⟨a,q,n⟩:=h;exact⟨a,e.trans q,n⟩
 |tab p q=>exact Tab.stay (λb o c k=>fc b o c _ k) e h
def b39(g:RH K G H1)(e1:G a=some (.dF kvs)):∃o us1,H1 a=some (.frz o (.dK us1))/\RH K (put G a (.dK kvs)) (upd H1 a (.dK us1)):=by
 obtain⟨o,d,h,f,i⟩:=g _ _ e1;refine⟨o,d,h,λb e q=>?_⟩
 by_cases hb:b=a
 ·subst hb;rw[a0a]at q;cases q;exact⟨d,a0d,f,i.monoW (a28 h)⟩
 ·rw[a0f hb]at q;exact b9j (a28 h) (λc o x y z=>by rw[a0c (λw=>by rw[w,h]at z;cases z)];exact z) (a0c hb) (g b e q)
def uUnf(t:E3):E3:=fun σ G R=>∃a kvs,G a=some (.dK kvs)/\t σ G λv G'=>G' a=some (.dF kvs)/\R v (put G' a (.dK kvs))
def b9k(h:QE X e t):QE X e (uUnf t):=⟨λf s τ H Q I z=>by
 obtain⟨σ,G,R,y,j,⟨a,d,x,A⟩,C⟩:=z;obtain⟨F,k,L,J⟩:=j _ _ x;refine thn (h.p f s τ H (λv c=>∃w b,Rep X.K c w v/\RH X.K b c/\TK X.K H c/\b a=some _/\R w _) I ⟨σ,G,_,y,j,A,λw b v c q r g t=>⟨w,b,r,g,t,q.1,q.2⟩⟩) λu E ⟨v,c,l,m,w,b,r,g,t,n,q⟩=>?_;obtain⟨o,D,i,B⟩:=b39 g n;exact⟨v,_,l.melt i (λo u z=>by have:=I.base.frzs a o u z;rw[k]at this;cases this),m,C w _ v _ q (r.monoW (a28 i)) B (b38 k t i)⟩⟩
def b9l(e:G a=some (.dK kvs))(h:t σ G λv G'=>G' a=some (.dF kvs)/\R v (put G' a (.dK kvs))):uUnf t σ G R:=⟨a,kvs,e,h⟩
end
end L3
namespace DictP
open PySem PyProof.Rows
def a3P:jc table "dict.update.loop"=some fX.«dict.update.loop»:=entryFor_of_tree (by kernel_rfl)
def a2g:plainId "dict.update.loop"=true:=by decide +kernel
def b4a:typeLookup (.type "list") "keys"=pure none:=am_miss_of_fast (by decide +kernel)
section
variable{prog:fV}{w:World}{A:Around}{E:Value->Shared->Prop}{s:Shared}{a:Addr}{xs:Array Value}{k:Nat}{sl:Array (Option Value)}
def a9z(hx:s.heap.get? a=some { cls:=.type "list",dict:=none,data:=.seq xs k,slots:=sl })(hA:A.handled=none)
  (h:∀h' tk,(∀b ob,s.heap.get? b=some ob->h'.get? b=some ob)->Q none { s with heap:=h',toks:=tk }):wpAny (model prog w) A (getAttr? (.ref a) "keys") Q E s:=by
 obtain⟨hp,g,d,tk,os⟩:=s;have hT:∀tk',(⟨hp,g,d,tk',os⟩:Shared).TypeIs (.ref a) "list":=λ_=>⟨_,hx,rfl⟩;have f1:=sub_AttributeError;have f3:=F.slot_list_getattribute.lookup;have f4:=F.slot_list_getattribute.bind (.ref a);have f5:=am_list_getattr_none;unfold getAttr? getAttrBy? getAttrBy
 repeat (any_goals (first |assumption |exact hT _ | ((with_reducible show wpAny _ _ (call (Value.builtin "list.__getattribute__") _ _) _ _ _);refine jI F.slot_list_getattribute (hT _) am_entry_list_getattribute (F.args_list_getattribute_2 _ _) (meets_getattribute_miss_list a xs k sl "keys" _ b4a (by decide +kernel)) ⟨hx,hA,λh' tk' e hx'=>?_⟩) |wp_step))
 obtain⟨t',u',he⟩:=hx'.there
 show wpAny _ _ (getattributeRaised _ _ _ _ _ _ _) _ _ _
 unfold getattributeRaised
 repeat (any_goals (first |assumption |wp_step))
 exact h _ _ hx'.keeps
def a7I(g:s.heap.get? t=some o)(hc:o.cls=.type "tuple")(hd:o.data=.seq #[x,y] n)(h:Q [x,y] s):wpAny (model prog w) A (fX.Dict.pairItems (.ref t)) Q E s:=by
 obtain⟨c,a,b,e⟩:=o;simp only at hc hd;subst hc hd
 repeat (any_goals (first |assumption |wp_step))
end
abbrev Sv(h h':Heap):Prop:=∀b o,h.get? b=some o->h'.get? b=some o
section
variable{prog:fV}{w:World}{A:Around}{R:Result->Shared->Prop}{I:Addr}{fp wr:List Addr}{G:Array jt->Array jt->Prop}{n:Nat}{P:Nat->Value->Prop}{St:Nat->Shared->Prop}
def b2w(prog:fV)(w:World)(A:Around)(h0:Heap)(D:Nat->Heap->Prop)(d:Addr)(i:Nat)(v:Value):Prop:=∃t o x y m,v=.ref t/\h0.get? t=some o/\o.cls=.type "tuple"/\o.data=.seq #[x,y] m /\
 ∀(E:Value->Shared->Prop)(s:Shared)(Q:Unit->Shared->Prop),Sv h0 s.heap->D i s.heap->(∀h' tk,s.toks<=tk->D (i+1) h'->Heap.SameBut d s.heap h'->Q () { s with heap:=h',toks:=tk })->wpAny (model prog w) A (dictSet d x y) Q E s
def b9m(W:WalksS prog w A.in1 I fp wr G n P St)(d:Addr)(hdf:d∉fp)(dm:∀i h h',D i h->Sv h0 h->Sv h0 h'->(∀o,h.get? d=some o->h'.get? d=some o)->D i h')
  (nw:∀b o,h0.get? b=some o->b≠d/\b∉wr) (hP:∀j v,P j v->b2w prog w A.in1 h0 D d j v) :
  ∀(k i:Nat)(s:Shared),n-i=k->i<=n->St i s->Sv h0 s.heap->D i s.heap->(∀s',Moved (d::wr) G s s'->D n s'.heap->R (.ok (.ret .none)) s') ->
   gF (model prog w) A (.builtin "dict.update.loop" ⟨[.ref d,.ref I,rawInt i,.none],[]⟩) R s:=by
 have r:=λh=>hdf (W.sub _ h);have V:∀b∈wr,b∈d::wr:=λb q=>bG _ q;intro k
 induction k with
 |zero=>
  intro i s hk hi p l F E;have L:i=n:=by lia
  subst L;exact hZ a3P (fO (W.done s _ _ p λa c=>(fO (fP (fP (E a (c.mono V) (dm _ _ _ F l (λb o e=>c.heap b o (nw b o e).2 (l b o e)) λo e=>c.heap d o r e)))))))
 |succ k ih=>
  intro i s hk hi p l F E;refine hZ a3P ?_;rw[Around.under_plainId a2g _];refine fO (W.item i s _ _ (by lia) p λv a M B c=>?_);obtain⟨t,o,x,y,m,rfl,g,hc,X,N⟩:=hP i v M;have f:=λb o e=>c.heap b o (nw b o e).2 (l b o e);refine fO (gh (fO (wpAny_tryCatch (a7I (f t o g) hc X (gh (N _ _ _ f (dm _ _ _ F l f λo e=>c.heap d o r e) λS tk J T Q=>?_))))));have u:∀b o,b≠d->a.heap.get? b=some o->S.get? b=some o:=λb o Y e=>by rw[Q.2 b Y];exact e
  refine fP ⟨iq a2g _,?_⟩;exact ih (i+1) { a with heap:=S,toks:=tk } (by lia) (by lia) (W.frame _ a _ _ B J λb q o e=>u b o (λz=>hdf (z▸q)) e) (λb o e=>u b o (nw b o e).1 (f b o e)) T
   λU H C=>E U (Moved.trans W.gtrans ((c.mono V).then_heap J λb o q e=>u b o (λz=>q (z▸bu)) e) H) C
def b4b(hh:A.handled=none)
  (hl:s.heap.get? l=some { cls:=.type "list",dict:=none,data:=.seq items c,slots:=sl }) (dm:∀i h h',D i h->Sv s.heap h->Sv s.heap h'->(∀o,h.get? s.heap.objs.size=some o->h'.get? s.heap.objs.size=some o)->D i h')
  (d0:D 0 (s.heap.push { cls:=.type "dict",data:=.dict #[] })) (hi:∀(j:Nat) v,items[j]?=some v->b2w prog w A.in1.in1 s.heap D s.heap.objs.size j v)
  (h:∀(h':Heap)(tk:Nat),D items.size h'->Sv s.heap h'->Q (.ref s.heap.objs.size) { s with heap:=h',toks:=tk }) :
  wpAny (model prog w) A (call (.type "dict") [.ref l]) Q E s:=by
 refine callType_codes (Q₁:=λm u=>m=.ref s.heap.objs.size/\u={ s with heap:=s.heap.push { cls:=.type "dict",data:=.dict #[] } }) F.kt_called_dict (F.kt_typeCall_dict_1 _) F.entry_dict_init (kt_code_dict_new _ ⟨rfl,rfl⟩) ?_;rintro m u ⟨rfl,rfl⟩;have f:(s.heap.push { cls:=.type "dict",data:=.dict #[] }).get? l=some { cls:=.type "list",dict:=none,data:=.seq items c,slots:=sl }:=Heap.get?_push_of_some _ hl;have L:Shared.TypeIs { s with heap:=s.heap.push { cls:=.type "dict",data:=.dict #[] } } (.ref l) "list":=⟨_,f,rfl⟩;have H:Shared.TypeIs { s with heap:=s.heap.push { cls:=.type "dict",data:=.dict #[] } } (.ref s.heap.objs.size) "dict":=⟨_,Heap.get?_push_size _ rfl,rfl⟩;refine⟨H,F.args_dict_init_2 _ _,?_⟩;refine fO (fO (wpAny_notOrdered_dict H (fP ?_)))
 show wpAny _ _ (fX.Dict.updateFrom "dict.__init__" s.heap.objs.size (.ref l) [] .none) _ _ _
 refine fO (jk L (fO (a9z f (by lia) λa t1 k=>?_)));have C:a.IsList l items:=⟨_,k l _ f,rfl,c,rfl⟩;refine fO (gQ (fO (iO C (fP ⟨iq a2g _,?_⟩))));have t:=Heap.lt_size hl;have p:=Heap.lt_size (k _ _ (Heap.get?_push_size _ rfl));have Y:A.in1.in1.handled=none:=by lia
 have W:s.heap.objs.size∉[a.objs.size,l]:=by grind
 have q:∀b o,s.heap.get? b=some o->b≠s.heap.objs.size/\b∉[a.objs.size]:=λb o e=>by
  have r:=Heap.lt_size e;exact⟨aE r,λn=>by rw[ay.mp n]at r;exact bt _ (cO r p)⟩
 have d:∀x,Sv s.heap (a.push x):=λx b o e=>Heap.get?_push_of_some _ ((λb o e=>k b o (Heap.get?_push_of_some _ e)) b o e);refine b9m ((Walks.list Y _ l (aE (cO t p)) items).toS) s.heap.objs.size W dm q hi (items.size-0) 0 _ (by lia) (aR _)
  ⟨⟨_,Heap.get?_push_size _ rfl,rfl,rfl⟩,C.push _⟩ (d _) (dm 0 _ _ d0 (λb o e=>Heap.get?_push_of_some _ e) (d _) λo e=>Heap.get?_push_of_some _ (k _ o e)) λR g V=>?_
 obtain⟨S,T,J,y,B⟩:=R;have U:T=s.gens:=g.gens;have X:J=s.drawn:=g.drawn;have I:B=s.os:=g.os;subst U X I;refine⟨rfl,h S y V λb o e=>g.heap b o (λn=>?_) (d _ b o e)⟩;rcases ax.mp n with z |z
 ·exact (q b o e).1 z
 ·simp_all
end
section
variable{prog:fV}{w:World}{A:Around}{K:Type}[DecidableEq K]{knd:KeyKind prog w K}
def PairAt(knd:KeyKind prog w K)(h:Heap)(v:Value)(r:K×Value):Prop:=∃t o key m,v=.ref t/\h.get? t=some o/\o.cls=.type "tuple"/\o.data=.seq #[key,r.2] m/\knd.is r.1 key=true
def call_pairs(hh:A.handled=none)
  (hl:s.heap.get? l=some { cls:=.type "list",dict:=none,data:=.seq items c,slots:=sl }) (hi:∀(j:Nat) v,items[j]?=some v->∃r,rows[j]?=some r/\PairAt knd s.heap v r) (hn:items.size=rows.length) (hz:rows.length<=fR)
  (h:∀(h':Heap)(tk:Nat),h'.DictOf knd s.heap.objs.size (merged [] rows)->(∀b o,s.heap.get? b=some o->h'.get? b=some o)->Q (.ref s.heap.objs.size) { s with heap:=h',toks:=tk }) :
  wpAny (model prog w) A (call (.type "dict") [.ref l]) Q E s:=by
 refine b4b (D:=λi h=>h.DictOf knd s.heap.objs.size (merged [] (rows.take i))) hh hl (by rintro i h d ⟨o,G,C,z,n⟩ _ _ q;exact⟨o,G,C,q _ z,n⟩) (Heap.DictOf.new s.heap) (λj v e=>?_) λd H a F=>h d H (by simp_all) F;obtain⟨r,B,t,o,p,m,rfl,g,y,x,k⟩:=hi j v e;refine⟨t,o,p,r.2,m,rfl,g,y,x,λE J Q I a q=>wpAny_dictSet_pairs k a (λd f u=>q d _ (cg _) (by rw[<- merged_take_succ _ _ _ _ B]at f;exact f) u) ?_⟩
 have:=merged_length_le [] (rows.take j)
 simp at this
 lia
end
end DictP
namespace L2
open PySem PySem.Spec PyProof.Rows
section
variable{X:Cx}
noncomputable def a7J(rows:List (Addr×Key×V))(acc:List (Key×V)):List (Key×V):=rows.foldl (λacc r=>putK acc r.2.1 r.2.2) acc
def b66(X:Cx):List V->Hp->VK->Prop:=λxs H Q=>∃(p:Addr)(rows:List (Addr×Key×V)),xs=[.ref p]/\SqL X.K H p (rows.map λr=>V.ref r.1)/\(∀r∈rows,H r.1=some (.tup [kV r.2.1,r.2.2]))/\rows.length<=1000 /\
 ∀t,H t=none->Q (.ref t) (upd H t (.dK (a7J rows [])))
def b1n(ok:HOk P w H h):∀{rows:List (Addr×Key×V)},(∀r∈rows,H r.1=some (.tup [kV r.2.1,r.2.2]))->∃vs:List (Key×Value),vs.length=rows.length /\
  (∀(j:Nat) r,rows[j]?=some r->∃q,vs[j]?=some q/\DictP.PairAt (a0j P w) h (.ref r.1) q)/\∀acc bcc,KV acc bcc->KV (a7J rows acc) (merged bcc vs):=by intro z0;induction z0 with
 |nil=>intro _;exact⟨[],rfl,λj r e=>by simp at e,λ_ _ k=>k⟩
 |cons r rows I0=>
  intro hr;obtain⟨m,p,d,l⟩:=I0 λr a=>hr r (.tail _ a);obtain⟨_,y,s,o,i,f,n,t⟩:=(ok _ _ (hr r (.head _)));obtain⟨b,u,rfl,g,c⟩:=Vals.two s;refine⟨(r.2.1,u)::m,by rw[aI,aI,p],λj q e=>?_,λx v k=>l _ _ (k.put r.2.1 c)⟩;cases j with
  |zero=>
   cases e;exact⟨_,rfl,r.1,o,b,n,rfl,i,f,t,a7s g⟩
  |succ j=>exact d j q (by simp_all)
def a9A:∀(rows:List (Addr×Key×V))(acc:List (Key×V)),(a7J rows acc).length<=acc.length+rows.length:=by intro z0;induction z0 with
 |nil=>intro _;exact av _
 |cons r rows I0=>
  intro acc
  have:=I0 (putK acc r.2.1 r.2.2)
  have:=a1a acc r.2.1 r.2.2
  show (a7J rows (putK acc r.2.1 r.2.2)).length<=_
  rw[aI];omega
def a7K(hc:X.calm=true):CallR X (.type "dict") (b66 X):=by
 intro f s σ H xs us Q I r h;obtain⟨p,rows,rfl,T,ht,hz,q⟩:=h;obtain⟨u,rfl,V⟩:=a2A r;cases V;obtain⟨d,z,⟨o,n,F,C,E,B⟩,_⟩:=I.list T;obtain⟨c,dd,dt,sl⟩:=o;subst C E B;obtain⟨A,k,h2,W⟩:=b1n I.hok ht;have G:d.length=rows.length:=by have:=z.length;rw[aq]at this;lia
 have b:A.length<=sizeLine:=by grind
 refine DictP.call_pairs (knd:=a0j X.prog X.w) (I.ok.hd hc) F (λj v e=>?_) (by grind) b λg t M U=>?_
 ·have l:d[j]?=some v:=by simpa using e
  obtain⟨r,D⟩:∃r,rows[j]?=some r:=⟨rows[j]'(by grind),aC _⟩;obtain⟨q,m,pa⟩:=h2 j r D;obtain⟨u,y,N⟩:=z.get (by rw[aA,D];rfl);rw[l]at y;cases y;rw[N];exact⟨q,m,pa⟩
 ·have L:=W [] [] .nil;have Y:=(a6r (P:=X.prog) (w:=X.w) (H:=λ_=>none) s.heap I.big).2.1;have R:=a9A rows [];have J:=
   I.laid (t':=t) U (av _) (show ObjOk X.prog X.w _ g _ (.dK _) from ⟨by rw[f8];simp at R;lia,Y,_,L,M⟩)
  exact⟨.ref s.heap.objs.size,_,J,rfl,q _ (I.hok.fresh (av s.heap.objs.size))⟩
end
section
variable{P:fV}{w:World}{A:Around}{E:Value->Shared->Prop}{s:Shared}
def a7L(h64:ss.length<64)
  (hcol:∀R:List Value->Shared->Prop,(∀(g:Heap)(tk:Nat)(d:Drawn)(vs:List Value)(ks:List Str),(∀b o,s.heap.get? b=some o->g.get? b=some o)->je vs ks->ks.Perm ss->R vs { s with heap:=g,drawn:=d,toks:=tk })->wpAny (model P w) A.in1 (collect (.ref r)) R E s)
  (h:∀(g g':Heap)(tk:Nat)(d:Drawn)(out:List Value)(n:Nat)(ts:List Str),(∀b o,s.heap.get? b=some o->g.get? b=some o)->(∀b o,g.get? b=some o->g'.get? b=some o)->g'.get? g.objs.size=some { cls:=.type "list",data:=.seq out.toArray n } ->
   je out ts->ts.Perm ss->iH ts=true->Q (.ref g.objs.size) { s with heap:=g',drawn:=d,toks:=tk }):wpAny (model P w) A (call (.builtin "sorted") [.ref r]) Q E s:=by
 refine Calls.call_function_entry jT jU jV (args_sorted1 _) (fO (fP (fO (hcol _ λg t d f D x c l=>?_))));have F:=c.length.trans l.length_eq;have z:f.length<=sizeLine:=by rw[f8];lia
 refine fO (i6 ?_ z);have k:(g.push _).get? g.objs.size=some (seqObj "list" f.toArray 0):=Heap.get?_push_size _ rfl;refine fO (gh (gE jW ⟨_,k,rfl⟩ jX (list_sort_treeK strKind_oneLt k c.keysOf (λH G B e=>keyKind_strs (e▸c)) (by lia) λi p v=>⟨_,rfl,?_⟩) (args_list_sort _)));obtain⟨y,u,C,q⟩:=sorted_out_str c p v;have a:=sortedHeap_at (out:=(arrOf i).map (·.2)) k;obtain⟨n,a⟩:=a;refine fP ⟨_,rfl,h g _ t d ((arrOf i).map (·.2)).toList n y x (λb o e=>?_) (by omega) u (C.trans l) q⟩;have j:=Heap.lt_size e;rw[sortedHeap_old (aE j) (by rw[Heap.size_push];exact cD j)];exact Heap.get?_push_of_some _ e
end
section
variable{X:Cx}
end
end L2
namespace L3
open PySem PySem.Spec PyProof.Rows L2
section
variable{X:Cx}{K:Fg}{H:Hp}
def b1o(h:Rep K H (keyW k) v):v=kV k:=by
 match k,h with
 |.inl (some i),h=>rw[show keyW _=.int i from rfl,a0k]at h;exact h
 |.inl none,h=>rw[show keyW _=.non from rfl,a0w]at h;exact h
 |.inr x,h=>rw[show keyW _=.str x from rfl,a0t]at h;exact h
noncomputable def prZ(r:Key×Z):Z:=.tup [keyW r.1,r.2]
def b4c:∀{rows:List (Key×Z)}{vs:List V},Reps K H (rows.map prZ) vs->∃rs:List (Addr×Key×V),vs=rs.map (λr=>V.ref r.1)/\(∀r∈rs,H r.1=some (.tup [kV r.2.1,r.2.2]))/\rs.length=rows.length /\
  ∀acc bcc,bcc.map (·.1)=acc.map (·.1)->Reps K H (acc.map (·.2)) (bcc.map (·.2))->(a7J rs bcc).map (·.1)=(a2y acc rows).map (·.1)/\Reps K H ((a2y acc rows).map (·.2)) ((a7J rs bcc).map (·.2)):=by intro z0;induction z0 with
 |nil=>
  intro vs h;exact⟨[],h,λr e=>by simp at e,rfl,λf g b c=>⟨b,c⟩⟩
 |cons r rows I0=>
  intro vs h;obtain⟨v,x,rfl,b,c⟩:=h;obtain⟨t,rfl,l,n,u⟩:=I0 c;obtain⟨a,y,rfl,p,e⟩:=b;obtain⟨z,w,rfl,j,i⟩:=e.two
  have:=b1o j
  subst this;refine⟨(a,r.1,w)::t,rfl,λq d=>?_,by rw[aI,aI,n],λf g b s=>?_⟩
  ·rcases ax.mp d with rfl |d
   ·grind
   ·exact l q d
  ·obtain⟨m,o⟩:=a4k i b s;exact u _ _ m o
def b2x:List Z->Hq->K3->Prop:=λxs G R=>match xs with
 |[.ref p]=>∃rows:List (Key×Z),G p=some (.lst (rows.map prZ))/\rows.length<=1000/\∀t,G t=none->R (.ref t) (put G t (.dK (a2y [] rows)))
 |_=>False
def b4d(hc:X.calm=true):a2D X (.type "dict") b2x:=a19 (a7K hc) λx H Q n=>n.un λg G R d b h q=>by
 match g,h with
 |[.ref p],h=>
  obtain⟨v,rfl,r⟩:=d.one;obtain⟨c,e,w,h⟩:=h;obtain⟨s,j,l⟩:=b _ _ e;obtain⟨d,rfl,f,u,k⟩:=b4c l;obtain⟨m,i⟩:=k [] [] rfl .nil;exact⟨p,d,by rw[r],SqL.of j,f,by lia,λt a=>q _ _ _ _ (h t (b.out a)) (by rw[a0v]) (b.set (.new a) ⟨_,a0d,m,i.mono (.new a)⟩) (.new a)⟩
def b4e(e:G p=some (.lst (rows.map prZ)))(z:rows.length<=1000)(h:∀t,G t=none->R (.ref t) (put G t (.dK (a2y [] rows)))):b2x [.ref p] G R:=⟨rows,e,z,h⟩
theorem Reps.dropLast:∀{ws:List Z}{vs:List V},Reps K H ws vs->Reps K H ws.dropLast vs.dropLast
 |[],vs,h=>by rw[a0p]at h;subst h;exact .nil
 |[w],vs,h=>by
  obtain⟨v,rfl,_⟩:=h.one;exact .nil
 |w::w'::ws,vs,h=>by
  obtain⟨v,r,rfl,c,b⟩:=h;have a:=b;obtain⟨e,d,rfl,_,_⟩:=a;exact .cons c (Reps.dropLast b)
end
end L3
namespace L2
open PySem PySem.Spec PyProof.Rows Tim
end L2
namespace L3
open PySem PySem.Spec PyProof.Rows L2 Tim
end L3
namespace L2
open PySem PySem.Spec PyProof.Rows
end L2
namespace L3
open PySem PySem.Spec PyProof.Rows L2
end L3
namespace L2
open PySem PySem.Spec PyProof.Rows
def b4f(h:SetW.KsAre (PySem.strKind P w) vs ss):je vs ss:=by
 induction h with
 |nil=>exact .nil
 | @cons v k vs ks h _ ih=>
  cases v<;>simp[PySem.strKind,Value.isStrOf]at h
  subst h;exact .cons _ _ ih
def metK{K:Type}{k0:K}{ns ms:List K}(h:SetW.Met (λi=>ns.getD i k0) ns.length ms):∀x,x∈ms↔x∈ns:=λx=>by
 rw[h.2.2 x]
 constructor
 ·rintro⟨j,a,e⟩;have e:ns.getD j k0=x:=e;rw[bX,aC a]at e;exact e▸bz a
 ·intro b;obtain⟨j,a,e⟩:=cH.mp b;exact⟨j,a,by show ns.getD j k0=x;rw[bX,aC a];exact e⟩
section
variable{X:Cx}
noncomputable def setS(X:Cx)(t:Addr)(ms:List Str):HO:=.ext λh=>SetW.SI (PySem.strKind X.prog X.w) h t ms
def a9B(X:Cx):List V->Hp->VK->Prop:=λxs H Q=>∃(p:Addr)(ms:List Str),xs=[.ref p]/\H p=some (setS X p ms)/\ms.length<64 /\
 ∀(t:Addr)(ks:List Str),H t=none->ks.Perm ms->iH ks=true->Q (.ref t) (upd H t (.lst (ks.map V.str)))
def a4l(hc:X.calm=true):CallR X (.builtin "sorted") (a9B X):=by
 intro b s σ H M L Q I r h;obtain⟨p,c,rfl,v,x,q⟩:=h;obtain⟨u,rfl,J⟩:=a2A r;cases J;have D:=I.ok.hd hc;have S:=(I.hok p _ v).1;refine a7L x (λR E=>SetW.collect_set D S λg a d y B t C G=>E g a d y B t (b4f C) G) λg z a d k n j o m e l f F=>?_;have i:Inv X b σ H { s with heap:=g,drawn:=d,toks:=a }:=(I.drew d).kept o;exact⟨.ref g.objs.size,_,i.laid m (av _) (show ObjOk X.prog X.w _ z _ (.lst _) from ⟨by rw[aq,f.length_eq,f8];omega,k,n,a5b l,e⟩),rfl,q _ j (i.hok.fresh (av _)) f F⟩
end
end L2
namespace L3
open PySem PySem.Spec PyProof.Rows L2
section
variable{X:Cx}{e:Expr}{es:List Expr}{t:A3}{x y:Str}{p p2 pos pos2:Pos}
end
end L3
namespace DictP
open PySem PyProof.Rows
section
variable{prog:fV}{w:World}{K:Type}[DecidableEq K]{knd:KeyKind prog w K}
end
section
variable{prog:fV}{w:World}{A:Around}{K:Type}[DecidableEq K]{knd:KeyKind prog w K}
end
end DictP
namespace L2
open PySem PySem.Spec PyProof.Rows
section
variable{X:Cx}
end
end L2
namespace L3
open PySem PySem.Spec PyProof.Rows L2
section
variable{X:Cx}{K:Fg}{H:Hp}
end
end L3
namespace L2
open PySem PySem.Spec PyProof.Rows
end L2
namespace L3
open PySem PySem.Spec PyProof.Rows L2
end L3
namespace Tim
open PySem PyProof.Rows PySem.W
def RowQ(h:Heap)(v:Value)(xs:List Pz):Prop:=∃a o its n ps b,v=.ref a/\h.get? a=some o/\o.cls=.type "tuple"/\o.data=.seq its n/\its.toList=ps++[Value.ref b]/\PtsAre xs ps
def RowQ.uniq(r:RowQ h v xs)(q:RowQ h v ys):xs=ys:=by
 obtain⟨a,o,s,n,x,b,rfl,j,_,m,l,g⟩:=r;obtain⟨z,y,k,u,t,w,i,f,_,d,c,p⟩:=q;cases i;rw[j]at f;cases f;rw[m]at d;cases d;rw[l]at c;have e:=(List.append_inj' c rfl).1;subst e;exact g.uniq p
def RowsQ(h:Heap):List Value->List (List Pz)->Prop
 |[],[]=>True
 |v::vs,x::xs=>RowQ h v x/\RowsQ h vs xs
 |_,_=>False
theorem RowsQ.mem:∀{vs:List Value}{rows:List (List Pz)},RowsQ h vs rows->∀v∈vs,∃x∈rows,RowQ h v x
 |v::vs,x::xs,⟨r,q⟩,u,hu=>by
  rcases ax.mp hu with rfl |hu
  ·exact⟨x,.head _,r⟩
  ·obtain⟨y,a,b⟩:=q.mem u hu;exact⟨y,.tail _ a,b⟩
 |[],[],_,u,hu=>by simp at hu
 |[],_::_,r,_,_=>r.elim
 |_::_,[],r,_,_=>r.elim
theorem RowsQ.inj:∀{vs:List Value}{rows:List (List Pz)},RowsQ h vs rows->rows.Nodup->∀{v u x},v∈vs->u∈vs->RowQ h v x->RowQ h u x->v=u
 |w::vs,y::ys,⟨r,q⟩,nd,v,u,x,hv,hu,e1,e2=>by
  obtain⟨e,g⟩:=bv.mp nd;have c:∀{z},z∈vs->RowQ h z x->RowQ h w x->False:=λf a b=>by
   obtain⟨j,d,i⟩:=q.mem _ f;rw[i.uniq a]at d;rw[b.uniq r]at d;exact e d
  rcases ax.mp hv with c1 |c1
  ·rcases ax.mp hu with c2 |c2
   ·simp_all
   ·rw[c1]at e1;exact (c c2 e2 e1).elim
  ·rcases ax.mp hu with c2 |c2
   ·rw[c2]at e2;exact (c c1 e1 e2).elim
   ·exact q.inj g c1 c2 e1 e2
 |[],[],_,_,_,_,_,hv,_,_,_=>by simp at hv
 |[],_::_,r,_,_,_,_,_,_,_,_=>r.elim
 |_::_,[],r,_,_,_,_,_,_,_,_=>r.elim
section
variable{prog:fV}{w:World}{A:Around}{E:Value->Shared->Prop}{s:Shared}{ajj:Array Keyed}{b:Bool}{Q:Bool->Shared->Prop}
end
def perm_lift{α β:Type}{f:α->β}:∀{l:List α}{m:List β},m.Perm (l.map f)->∃l':List α,l'.Perm l/\l'.map f=m:=by
 intro l m h;generalize hk:l.map f=k at h
 induction h generalizing l with
 |nil=>exact⟨l,.refl _,hk⟩
 |cons x _ ih=>
  cases l with
  |nil=>simp at hk
  |cons y l=>
   injection hk with h1 h2
   obtain⟨e,c,d⟩:=ih h2;exact⟨y::e,c.cons y,by rw[aF,h1,d]⟩
 |swap x y t=>
  match l,hk with
  |a::b::l,hk=>
   injection hk with h1 hk
   injection hk with h2 h3
   exact⟨b::a::l,.swap ..,by rw[aF,aF,h1,h2,h3]⟩
 |trans _ _ ih1 ih2=>
  obtain⟨n,c,d⟩:=ih2 hk;obtain⟨g,j,i⟩:=ih1 d;exact⟨g,j.trans c,i⟩
end Tim
namespace L2
open PySem PySem.Spec PyProof.Rows Tim
end L2
namespace L3
open PySem PySem.Spec PyProof.Rows L2 Tim
end L3
namespace Tim
open PySem PyProof.Rows PySem.W
section
variable{prog:fV}{w:World}{A:Around}{E:Value->Shared->Prop}{s:Shared}
end
end Tim
namespace L2
open PySem PySem.Spec PyProof.Rows Tim
end L2
namespace L3
open PySem PySem.Spec PyProof.Rows L2 Tim
variable{X:Cx}
end L3
namespace L2
open PySem PySem.Spec PyProof.Rows
section
variable{P:fV}{w:World}{K:Fg}{mg:Str->Option Value}{base:Heap}
def b4g(S:FnScope N ps scope)
    (hbind:∀us:List Value,us.length=ps.length->iy (PySem.W.kla_fn name qual params body scope [] pm (.ref c') ctv) ⟨us,[]⟩=pure (ps.zip us))
 (hr:Room k A) (e0:Env0 P w K mg base A outer s H) (r:Vals vs us) (hl:vs.length=ps.length)
    (ho:s.heap.get? f=some (PySem.W.kla_obj name qual params body scope [] pm c' ctv)) (hcd:s.heap.CodeRec (.ref c') qual)
 (ht:PE (cxOf CX0 P w K mg base N qual scope f (.ref c') A outer s H E0).nox body t) (hq:t (start N vs) H Q) :
    gF (model P w) A (.call (.ref f) ⟨us,[]⟩) (CR CX0 outer P w H s Q E0) s:=by
  have c:=e0.mod.nolimit.keeps λb o e=>(e0.bs b o e).1;have a:∀y∈ps.zip us,scope.names.lookup y.1=some .local\/(scope.names.lookup y.1=some .cell/\((f7 (s.heap.objs.size+1) scope.names []).lookup y.1).isSome=true):=λ⟨n,v⟩ h=>by
    rcases S.par n (cw h).1 with q |q
    · exact .inl q
    · exact .inr ⟨q,PySem.W.cellsFrom_some _ _ _ (.inl q)⟩
  refine PySem.W.kla_callFunE hr.depth ho rfl S.co S.gen rfl hcd ?_;rw[hbind us (by rw[<- r.length];exact hl)];refine fP ?_;refine wpAny_newFunctionEnv_cells S.kind a λp j d x=>?_;subst j;refine⟨c.keeps x.toInCall.keep,PySem.W.kla_codeExpr ?_⟩;have I:Inv (cxOf CX0 P w K mg base N qual scope f _ A outer s H E0) [] _ H d:=a4S S hr.hd e0 hl r x;exact f9 (ht [] d _ H Q (I.wish _) hq) (λu g ⟨v,l,J,i,q⟩=>⟨v,l,J.os,J.bare,J.base,J.hok,i,q⟩) λe g m=>m.elim
end
def b1p(r:h.CodeRec (.ref c) q):∃oc,h.get? c=some oc/\ObjOk Pr w H h c (a2C c q):=by
 obtain⟨s,o,b,t,e,g,d,x⟩:=r;cases e;exact⟨o,g,⟨c,o,b,t,rfl,g,d,x⟩,⟨o,g⟩,λu v ⟨p,f,a,m,l,i,n,j⟩ k=>by cases l;exact⟨c,f,a,m,rfl,k _ i,n,j⟩⟩
def b1q(I:Inv X pins σ H s)(hT:Tab H P lpos q)(hq:q=X.env.qual++"<lambda>")
  (hdef:jZ params X.env=([],[])) (hcl:iW scope X.env=pure []) (hcode:X.env.code=.ref c) (hhd:PySem.W.codeHdIn X.K c P=true) (hgP:gg≠P) (hb:X.base.BuiltinsAt X.mg P)
  (h:∀(f c':Addr)(H':Hp)(pm ctv:Value)(s1:Shared)(oc:Obj),Inv X (pins++[(f,PySem.W.kla_obj "<lambda>" q params body scope [] pm c' ctv)]) σ H' s1->H' c'=some (.frz oc (a2C c' q))->Tab H' P lpos q->(∀b u,H b=some u->b≠P->H' b=some u)->Q (.ref f) s1) :
  wpAny (model X.prog X.w) X.A (eval (.Lambda params body scope lpos) X.env) Q E s:=by
 refine PySem.W.kla_eval hdef ?_;rw[<- hq];obtain⟨ps,k,ht⟩:=hT;have oP:=I.hok P _ k;have hg:=I.ok.mod.glob.keeps I.bk;have S:∀(N:Hp) L (f:Addr) (o:Obj),Inv X pins σ N L->L.heap.get? f=some o->N f=none->s.heap.objs.size<=f->_->Inv X (pins++[(f,o)]) σ N L:=λN L f o J e n l d=>by
  refine J.pins_of λp F=>?_;rcases au.mp F with F |F
  ·exact J.pin p (aY _ F)
  ·rw[ay.mp F];exact⟨e,n,bH (aP I.lt l),I.nofs l,d⟩
 rcases ht with rfl |⟨c0,g,rfl,hc⟩
 ·refine PySem.W.kla_makeFunction hcl I.ok.glob hg hcode (PySem.W.codeHd_of_K I.kIn hhd) oP trivial rfl hgP (hb.keeps I.bk) λa t j V hx x R Y T=>?_;generalize hfo:PySem.W.kla_obj "<lambda>" q params body scope [] _ a t=fo;have hfd:∀v,fo.data≠.cell v:=λv z=>by rw[<- hfo]at z;cases z
  have hn:=I.hok.fresh x;have hcP:=a0r k hn |>.symm;have G:∀b o,b≠P->s.heap.get? b=some o->(j.push fo).get? b=some o:=λb o hb e=>Heap.get?_push_of_some _ (hx b o hb e);have M:∀b,H b=none->b≠P:=λb e z=>by rw[z,k]at e;cases e
  have nc:∀b o,s.heap.get? b=some o->b≠a:=λb o e=>aE (aP (Heap.lt_size e) x);obtain⟨g,D,B⟩:=b1p (Pr:=X.prog) (w:=X.w) (H:=upd (upd H P (.tbl (#[]++#[rawInt lpos.line,rawInt lpos.col,.ref a]))) a (.frz default (a2C a q))) (Y.push fo);have m:∀b u,H b=some u->b≠P->upd (upd H P (.tbl (#[]++#[rawInt lpos.line,rawInt lpos.col,.ref a]))) a (.frz g (a2C a q)) b=some u:=λb u e hb=>by
   rw[a0c (a0r e hn),a0c hb];exact e
  have U:upd (upd H P (.tbl (#[]++#[rawInt lpos.line,rawInt lpos.col,.ref a]))) a (.frz g (a2C a q)) P=some (.tbl (#[]++#[rawInt lpos.line,rawInt lpos.col,.ref a])):=by rw[a0c hcP.symm,a0d]
  have J:Inv X pins σ (upd (upd H P (.tbl (#[]++#[rawInt lpos.line,rawInt lpos.col,.ref a]))) a (.frz g (a2C a q))) { s with heap:=j.push fo,toks:=V }:=by
   refine I.un ⟨λb o e n _ _=>G b o (M b n) e,λb o e n _ _=>⟨o.slots,G b o (M b n) e⟩,λb o e n _=>by rw[a0c (nc b o e),a0c (M b n)];exact n,λb o e _=>?_,λb xs e=>m b _ e λz=>(by rw[z,k]at e;cases e),λb o u e=>m b _ e λz=>(by rw[z,k]at e;cases e),λb ps e=>?_⟩ λb u e=>?_
   ·by_cases hb:b=P
    ·rw[hb];exact⟨_,Heap.get?_push_of_some _ T⟩
    ·exact⟨o,G b o hb e⟩
   ·by_cases hb:b=P
    ·grind
    ·exact⟨#[],by rw[d9];exact m b _ e hb⟩
   ·by_cases hb:b=a
    ·subst hb;rw[a0d]at e;cases e;exact⟨D,B⟩
    ·by_cases hb2:b=P
     ·subst hb2;rw[U]at e;cases e;exact Heap.get?_push_of_some _ T
     ·rw[a0c hb,a0c hb2]at e;refine (I.hok b u e).stay (λd v hd q=>G d v ?_ q) (λd r=>m d _ r λz=>by rw[z,k]at r;cases r) λd xs r=>m d _ r λz=>by rw[z,k]at r;cases r
      rcases hd with z |z
      ·rw[z];exact hb2
      ·grind
  have gf:(j.push fo).get? j.objs.size=some fo:=Heap.get?_push_size _ (by rw[<- hfo];rfl);have C:=bD (dq x R);have nf:upd (upd H P (.tbl (#[]++#[rawInt lpos.line,rawInt lpos.col,.ref a]))) a (.frz g (a2C a q)) j.objs.size=none:=by
   rw[a0c (bH R),a0c (M _ (I.hok.fresh C))];exact I.hok.fresh C
  have J2:=S _ _ _ fo J gf nf C hfd;rw[<- hfo]at J2;rw[<- hfo];exact h _ a _ _ t _ g J2 a0d ⟨_,U,.inr ⟨a,g,by simp,a0d⟩⟩ m
 ·refine PySem.W.kla_makeFunctionHit hcl I.ok.glob hg hcode (PySem.W.codeHd_of_K I.kIn hhd) oP trivial (cv:=.ref c0) (by simp[codeAmong,rawInt]) (hb.keeps I.bk) λt j V kp sz=>?_;have J:Inv X pins σ H { s with heap:=j.push (PySem.W.kla_obj "<lambda>" q params body scope [] ((X.mg "__name__").getD .none) c0 t),toks:=V }:=I.kept λb o e=>Heap.get?_push_of_some _ (kp b o e);exact h _ c0 H _ t _ g (S _ _ _ _ J (Heap.get?_push_size _ rfl) (I.hok.fresh sz) sz λv z=>by cases z) hc ⟨_,k,.inr ⟨c0,g,rfl,hc⟩⟩ λb u e _=>e
section
variable{X:Cx}{pins pl:List (Addr×Obj)}{σ:St}{H:Hp}{s:Shared}{h':Heap}{b:Addr}
def Inv.repin(I:Inv X (pl++[(b,o)]) σ H s)(fb:FpOk X pl H b)(k:∀c u,c≠b->s.heap.get? c=some u->h'.get? c=some u)(g:h'.get? b=some o')(d:∀v,o'.data≠.cell v):Inv X (pl++[(b,o')]) σ H { s with heap:=h',toks:=t' }:=by
 obtain⟨f,e,j,l,h,i⟩:=fb;have J:Inv X pl σ H { s with heap:=h',toks:=t' }:=I.unpinned.turned k f e l h i;refine J.pins_of λp a=>?_;rcases au.mp a with a |a
 ·exact J.pin p (aY _ a)
 ·rw[ay.mp a];exact⟨g,f,e,j,d⟩
def Inv.adopt(I:Inv X pl σ H s)(fb:FpOk X pl H b)(k:∀c u,c≠b->s.heap.get? c=some u->h'.get? c=some u)(new:ObjOk X.prog X.w (upd H b o) h' b o)(th:∃u,h'.get? b=some u):Inv X pl σ (upd H b o) { s with heap:=h',toks:=t' }:=by
 obtain⟨A,g,D,B,j,h⟩:=fb;have f:∀c u,H c=some u->c≠b:=λc u e z=>by rw[z,A]at e;cases e
 refine I.step (ch:=[b]) (λc a=>?_) (λc u _ _ a e _=>k c u (by simpa using a) e) (λc u _ _ a e _=>⟨u.slots,k c u (by simpa using a) e⟩) (λc u a _ n=>by rw[a0c (by simpa using a)];exact n) (λc u a e=>⟨u,k c u (by simpa using a) e⟩)
  (λc x e=>by rw[a0c (f c _ e)];exact e) (λc _ _ e=>by rw[a0c (f c _ e)];exact e) (λc C e=>⟨#[],by rw[a0c (f c _ e),d9];exact e⟩) (λm t=>?_) (λc u e=>?_) I.bare
 ·rw[ay.mp a];exact⟨B,g,j,h⟩
 ·obtain⟨u,l,i,p,r⟩:=t;exact⟨u,l,i,k _ u (λz=>g z.symm) p,r⟩
 ·by_cases hb:c=b
  ·subst hb;rw[a0d]at e;cases e;exact new
  ·rw[a0c hb]at e;refine (I.hok c u e).stay (λd v y q=>k d v ?_ q) (λd q=>by rw[a0c (f d _ q)];exact q) λd x q=>by rw[a0c (f d _ q)];exact q
   rcases y with z |z
   ·rw[z];exact hb
   ·exact f d _ z
end
section
variable{X:Cx}{pf:List (Addr×Obj)}{σ:St}{H:Hp}{s:Shared}{a kS f:Addr}{vs:List Value}{kz:List Int}{e1:Nat}{P:Fin->Shared->Prop}{E:Value->Shared->Prop}
abbrev lObj(xs:Array Value)(n:Nat):Obj:=seqObj "list" xs n
def a4m(xs:Array Value)(n:Nat):∀v,(lObj xs n).data≠.cell v:=λv z=>by cases z
def FpOk.re(f:FpOk X pl H b)(h:H' b=none):FpOk X pl H' b:=⟨h,f.2⟩
def b4h(I:Inv X (pf++[(a,lObj #[] e1),(kS,lObj keys e)]) σ H s)(fa:FpOk X pf H a)(fk:FpOk X (pf++[(a,lObj #[] e1)]) H kS)(hk:gj keys.toList kz)(hlen:kz.length=vs.length)(hz:vs.length<=100000)
  (h:∀(s':Shared)(out:List Value)(n:Nat),KskOut false kz vs out->Inv X pf σ H s'->FpOk X pf H a->s'.heap.get? a=some (lObj #[] e1)->P (.done (.ret .none)) { s' with heap:=s'.heap.update a (Obj.mapSeq λ_=>out.toArray) }) :
  wpAny (model X.prog X.w) X.A.in1.in1 (ksk_end a false vs.toArray e1 (.ref kS) keys) P E s:=by
 have k:keys.size=vs.length:=by
  have R:=hk.length;rw[aQ]at R;omega
 have m:(keys.zip vs.toArray).size=vs.length:=by rw[Array.size_zip,k,aU,Nat.min_self]
 have v:=(I.pin (kS,lObj keys e) (by simp)).1;have L:=(I.pin (a,lObj #[] e1) (by simp)).1;have D:a≠kS:=fk.2.2.2.2.2 (a,lObj #[] e1) (by simp);have g:∀st:SortSt,(arrOf st).Perm (keys.zip vs.toArray)->SortedTo (arrOf st) (arrOf st).size->gA st=none->wpAny (model X.prog X.w) X.A.in1.in1 (ksk_tail a false e1 (.ref kS) st) P E s:=λst B N M=>by
  have r:(arrOf st).size=vs.length:=by rw[B.size_eq,m]
  unfold ksk_tail;dsimp only;refine fO (ip v rfl ?_ (by rw[k,f8];omega) (aR _));refine fO (wpAny_letGo ?_);have x:=Heap.SameBut.update s.heap kS (Obj.mapSeq λ_=>(#[]:Array Value));have J:Inv X (pf++[(a,lObj #[] e1)]) σ H { s with heap:=s.heap.update kS (Obj.mapSeq λ_=>(#[]:Array Value)) }:=by
   obtain⟨t,z⟩:∃t,(s.heap.update kS (Obj.mapSeq λ_=>(#[]:Array Value))).get? kS=some (lObj #[] t):=⟨_,get?_update_seq v λ_=>#[]⟩;exact (Inv.repin (by simpa using I) fk (λc u G q=>(x.2 c G).trans q) z (a4m _ _)).unpinned
  have f:=(x.2 a D).trans L;refine fO (i5 f rfl ?_);refine fO (ip f rfl ?_ (aR _) (by simp;rw[r,f8];omega));rw[M];simp;have p:=ksk_out (b:=false) hk B N
  have:=h { s with heap:=s.heap.update kS (Obj.mapSeq λ_=>(#[]:Array Value)) } _ 0 p J.unpinned fa f
  simp only[e8]at this;exact fP this
 unfold ksk_end;dsimp only;simp only[cG,if_false]
 by_cases h2:vs.toArray.size<2
 ·rw[if_pos h2,if_pos h2];refine fO (fP ?_);rw[StateT.run_pure];refine fO (fP ?_);dsimp only;refine g _ (cS.refl _) ?_ rfl;intro i j S F;have C:=F;rw[m]at C;rw[aU]at h2
  have:i=j:=by omega
  subst this;exact bS _
 ·rw[if_neg h2,if_neg h2];rw[aU]at h2;rw[ksk_kind hk (by rw[k];omega)];refine fO (fP ?_);refine fO (f9 (Tim.t_sortRuns
   (Q:=λ_ y=>(arrOf y).Perm (keys.zip vs.toArray)/\gA y=none/\Tim.Srt Tim.kN (arrOf y).toList) (Tim.lt_ints (ksk_intKeys hk)) ⟨cS.refl _,rfl,rfl⟩ rfl λy l o=>⟨l.pm,l.fl,o⟩) ?_ λ_ _ e=>e)
  rintro⟨⟨⟩,y⟩ s' ⟨rfl,l,o,q3⟩;dsimp only;exact g y l (Tim.srt_to q3 rfl) o
def b1r{Θ:Hp->Prop}(hΘ:Θ H)(I:Inv X (pf++[(a,lObj #[] e1),(kS,lObj #[] 0)]) σ H s)(fa:FpOk X pf H a)(fk:FpOk X (pf++[(a,lObj #[] e1)]) H kS)(hlen:kz.length=vs.length)(hz:vs.length<=100000)
  (turn:∀(i:Nat)(v:Value)(k:Int),vs[i]?=some v->kz[i]?=some k->∀(H1:Hp)(s':Shared)(pl:List (Addr×Obj)),Θ H1->Inv X (pf++pl) σ H1 s'->wpAny (model X.prog X.w) X.A.in1.in1 (call (.ref f) [v]) (EP X (pf++pl) σ λy H'=>y=.int k/\Θ H') (λ_ _=>False) s')
  (h:∀(H1:Hp)(s':Shared)(out:List Value)(n:Nat),Θ H1->KskOut false kz vs out->Inv X pf σ H1 s'->FpOk X pf H1 a->s'.heap.get? a=some (lObj #[] e1)->P (.done (.ret .none)) { s' with heap:=s'.heap.update a (Obj.mapSeq λ_=>out.toArray) }) :
  wpAny (model X.prog X.w) X.A.in1.in1 (ksk_rest a (.ref f) false vs.toArray e1 (.ref kS)) P E s:=by
 refine fO (gQ ?_)
 first
  |rw[List.forIn_toArray]
  | (rw[<- dD];simp)
  |rw[<- dD]
 refine fO (ksk_fold (λi g=>∃m b e,Θ m/\Inv X (pf++[_,(kS,lObj b e)]) σ m g/\gj b.toList (kz.take i)) vs 0 s ⟨H,#[],0,hΘ,I,by simpa using gj.nil⟩ ?step ?done)
 case step=>
  rintro j x g D ⟨m,b,e,θ1,J,o⟩;simp only[cm]at o ⊢;have V:=(az.mp D).1;obtain⟨k,r⟩:∃k,kz[j]?=some k:=⟨_,aC (by omega)⟩;have U:b.size<=vs.length:=by
   have T:=o.length;rw[aQ,aK]at T;omega
  refine fO (h9 (f9 (turn j x k D r m g _ θ1 J) (λv l L=>?_) λ_ _ N=>N.elim));obtain⟨y,H',J2,G,rfl,θ2⟩:=L;obtain⟨d,rfl⟩:=G;have p:=(J2.pin (kS,lObj b e) (by simp)).1;have Q:=Heap.SameBut.update l.heap kS (Obj.mapSeq (·.push (.int k d)));obtain⟨t,B⟩:∃t,(l.heap.update kS (Obj.mapSeq (·.push (.int k d)))).get? kS=some _:=⟨_,get?_update_seq p (·.push (.int k d))⟩;have F:kz.take (j+1)=kz.take j++[k]:=by rw[bV,r];simp
  have R:(b.push (Value.int k d)).toList=b.toList++[Value.int k d]:=by simp
  refine fO (ip p rfl ?_ (by rw[f8];omega) (aD (cu (Array.size_push ..)) (by rw[f8];omega)));refine fP ⟨rfl,H',b.push (.int k d),t,θ2,?_,by rw[R,F];exact ksk_snoc o⟩
  have:=Inv.repin (t':=l.toks) (by simpa using J2) (fk.re (J2.pin (kS,lObj b e) (by simp)).2.1) (λc u M q=>(Q.2 c M).trans q) B (a4m _ _)
  simpa using this
 case done=>
  rintro g ⟨m,b,e,θ1,J,o⟩;have C:gj b.toList kz:=by grind
  have p:=(J.pin (kS,lObj b e) (by simp)).1;refine fO (jN p rfl ?_);exact b4h J (fa.re (J.pin (a,lObj #[] e1) (by simp)).2.1) (fk.re (J.pin (kS,lObj b e) (by simp)).2.1) C hlen hz λg z n=>h m g z n θ1
end
def perm_lift{α β:Type}{g:α->β}:∀{l:List β}{m:List β},l.Perm m->∀{T:List α},m=T.map g->∃T':List α,T'.Perm T/\l=T'.map g:=by
 intro l m h
 induction h with
 |nil=>intro T e;exact⟨T,.refl _,e⟩
 |cons x h ih=>
  intro T e;cases T with
  |nil=>cases e
  |cons a T=>
   injection e with e1 e2
   obtain⟨T',p,q⟩:=ih e2;exact⟨a::T',p.cons a,by rw[aF,<- q,e1]⟩
 |swap x y l=>
  intro T e
  match T,e with
  |a::b::T,e=>
   injection e with e1 e2
   injection e2 with e2 e3
   exact⟨b::a::T,.swap a b T,by rw[aF,aF,<- e1,<- e2,<- e3]⟩
 |trans h1 h2 ih1 ih2=>
  intro T e;obtain⟨T2,d,c⟩:=ih2 e;obtain⟨T1,i,f⟩:=ih1 c;exact⟨T1,i.trans d,f⟩
def SOut{α:Type}(kz:List Int)(xs os:List α):Prop:=∃ps:List (Int×α),ps.Perm (kz.zip xs)/\os=ps.map (·.2)/\ps.Pairwise λp q=>p.1<=q.1
theorem a4n{α β:Type}:∀{kz:List Int}{xs:List α}{us:List β},xs.length=us.length->kz.zip us=(kz.zip (xs.zip us)).map λt=>(t.1,t.2.2)
 |[],_,_,_=>rfl
 |_::_,[],[],_=>rfl
 |_::kz,_::xs,_::us,h=>by simp[a4n (by simpa using h)]
theorem a4o{α β:Type}:∀{kz:List Int}{xs:List α}{us:List β},xs.length=us.length->kz.zip xs=(kz.zip (xs.zip us)).map λt=>(t.1,t.2.1)
 |[],_,_,_=>rfl
 |_::_,[],[],_=>rfl
 |_::kz,_::xs,_::us,h=>by simp[a4o (by simpa using h)]
theorem a6P:∀{T:List (Int×V×Value)},(∀t∈T,RelV t.2.1 t.2.2)->Vals (T.map λt=>t.2.1) (T.map λt=>t.2.2)
 |[],_=>.nil
 |t::T,h=>.cons (h t (.head _)) (a6P λu a=>h u (.tail _ a))
theorem a6Q:∀{xs:List V}{us:List Value},Vals xs us->∀p∈xs.zip us,RelV p.1 p.2
 |_,_,.nil,p,h=>by simp at h
 |_,_,.cons r t,p,h=>by
  rcases ax.mp h with rfl |h
  ·omega
  ·exact a6Q t p h
def b4i(rv:Vals xs us)(k:KskOut false kz us out):∃os,SOut kz xs os/\Vals os out:=by
 obtain⟨j,i,g,c⟩:=k;obtain⟨T,e,d⟩:=perm_lift i (a4n rv.length);refine⟨T.map λt=>t.2.1,⟨T.map λt=>(t.1,t.2.1),?_,by rw[bQ];rfl,?_⟩,?_⟩
 ·rw[a4o rv.length];exact e.map _
 ·rw[d]at c;rw[bT]at c ⊢;exact c.imp λ{a b} h=>by simpa using h
 ·rw[g,d,bQ];exact a6P λt f=>a6Q rv t.2 (cw (e.mem_iff.mp f)).2
section
variable{X:Cx}{pf:List (Addr×Obj)}{σ:St}{H:Hp}{s:Shared}{l f:Addr}{xs:List V}{kz:List Int}{Q:Value->Shared->Prop}{E:Value->Shared->Prop}
def a7M{Θ:Hp->Prop}(hΘ:Θ H)(I:Inv X pf σ H s)(hl:SqL X.K H l xs)(hlen:kz.length=xs.length)(hz:xs.length<=100000)
  (turn:∀(i:Nat)(x:V)(v:Value)(k:Int),xs[i]?=some x->RelV x v->kz[i]?=some k->∀(H1:Hp)(s':Shared)(pl:List (Addr×Obj)),Θ H1->Inv X (pf++pl) σ H1 s'->wpAny (model X.prog X.w) X.A.in1.in1 (call (.ref f) [v]) (EP X (pf++pl) σ λy H'=>y=.int k/\Θ H') (λ_ _=>False) s')
  (h:∀(H1:Hp)(s':Shared)(t:Addr)(os:List V),Θ H1->Inv X pf σ (upd H1 t (.lst os)) s'->H1 t=none->SOut kz xs os->Q (.ref t) s'):wpAny (model X.prog X.w) X.A (call (.builtin "sorted") [.ref l] [(Str.ofString "key",.ref f)]) Q E s:=by
 obtain⟨its,rv,pl,_⟩:=I.list hl;have hle:its.length=xs.length:=rv.length.symm;refine call_function_entry_kw jT jU jV (ksk_s1 _ _) ?_;unfold fX.«sorted»;refine fO (m:=checkCount "sorted" 1 1 _) (fP ?_);refine fO (collect_list pl.isList ?_ (by rw[f8];omega));refine fO (i6 ?_ (by rw[f8];omega));have hsz:((s.heap.push (seqObj "list" #[] 0)).update s.heap.objs.size (Obj.mapSeq (·++its.toArray))).objs.size=s.heap.objs.size+1:=by
  rw[Heap.size_update,jp]
 have k1:∀b o,s.heap.get? b=some o->((s.heap.push (seqObj "list" #[] 0)).update s.heap.objs.size (Obj.mapSeq (·++its.toArray))).get? b=some o:=λb o e=>by
  have hlt:=Heap.lt_size e;rw[Heap.get?_update_ne _ _ _ _ (aE hlt)];exact Heap.get?_push_of_some _ e
 generalize (s.heap.push (seqObj "list" #[] 0)).update s.heap.objs.size (Obj.mapSeq (·++its.toArray))=g at k1 hsz ⊢;have ho:(g.push (seqObj "list" its.toArray 0)).get? g.objs.size=some (seqObj "list" its.toArray 0):=Heap.get?_push_size _ rfl;refine fO (gh (wpAny_call_entry_kw jW ⟨_,ho,rfl⟩ jX ?body (ksk_l1 _ _)))
 show wpAny (model X.prog X.w) X.A.in1.in1 (fX.«list.sort» ⟨[.ref g.objs.size],[(Str.ofString "key",.ref f)]⟩) _ _ _
 rw[ksk_t1];unfold ksk_tree;refine fO (jN ho rfl ?_);refine fO (ip ho rfl ?_ (by rw[aU,f8];omega) (aR _));obtain⟨e1,ho1⟩:∃e1,((g.push (seqObj "list" its.toArray 0)).update g.objs.size (Obj.mapSeq λ_=>(#[]:Array Value))).get? g.objs.size=some (seqObj "list" #[] e1):=⟨_,get?_update_seq ho λ_=>#[]⟩;refine fO (i5 ho1 rfl ?_);have k2:∀b o,s.heap.get? b=some o->((g.push (seqObj "list" its.toArray 0)).update g.objs.size (Obj.mapSeq λ_=>(#[]:Array Value))).get? b=some o:=λb o e=>by
  have hlt:=Heap.lt_size (k1 b o e);rw[Heap.get?_update_ne _ _ _ _ (aE hlt)];exact Heap.get?_push_of_some _ (k1 b o e)
 have hs2:((g.push (seqObj "list" its.toArray 0)).update g.objs.size (Obj.mapSeq λ_=>(#[]:Array Value))).objs.size=g.objs.size+1:=by rw[Heap.size_update,jp]
 generalize (g.push (seqObj "list" its.toArray 0)).update g.objs.size (Obj.mapSeq λ_=>(#[]:Array Value))=g2 at ho1 k2 hs2 ⊢;refine fO (iE ?_ (by show its.length<=_;rw[f8];omega));refine fO (i6 ?_ (aR _));refine gh ?_;have hn:∀b,@LE.le Nat _ s.heap.objs.size b->FpOk X pf H b:=λb hb=>I.fpOk hb (I.hok.fresh hb);have hga:s.heap.objs.size<=g.objs.size:=by rw[hsz];exact cg _
 have fa:FpOk X pf H g.objs.size:=hn _ hga;have hkS:(g2.push (seqObj "tuple" its.toArray 0)).objs.size=g.objs.size+2:=by rw[jp,hs2]
 have fk0:FpOk X pf H (g2.push (seqObj "tuple" its.toArray 0)).objs.size:=hn _ (by rw[hkS];exact aD hga (fw _ _));have hne:g.objs.size≠(g2.push (seqObj "tuple" its.toArray 0)).objs.size:=by rw[hkS];exact aE (Nat.lt_add_of_pos_right (by decide))
 have fk:FpOk X (pf++[(g.objs.size,lObj #[] e1)]) H (g2.push (seqObj "tuple" its.toArray 0)).objs.size:=by
  obtain⟨f0,f1,f2,f3,f4,f5⟩:=fk0;refine⟨f0,f1,f2,f3,f4,λp hp=>?_⟩;rw[<- aW]at hp;rcases au.mp hp with hp |hp
  ·exact f5 p hp
  ·rw[ay.mp hp];exact hne
 have I3:Inv X (pf++[(g.objs.size,lObj #[] e1),((g2.push (seqObj "tuple" its.toArray 0)).objs.size,lObj #[] 0)]) σ H { s with heap:=(g2.push (seqObj "tuple" its.toArray 0)).push (seqObj "list" #[] 0) }:=by
  have J:Inv X pf σ H { s with heap:=(g2.push (seqObj "tuple" its.toArray 0)).push (seqObj "list" #[] 0) }:=I.kept (t':=s.toks) λb o e=>Heap.get?_push_of_some _ (Heap.get?_push_of_some _ (k2 b o e));refine J.pins_of λp hp=>?_;rcases au.mp hp with hp |hp
  ·exact J.pin p (aY _ hp)
  ·rcases ax.mp hp with rfl |hp
   ·exact⟨Heap.get?_push_of_some _ (Heap.get?_push_of_some _ ho1),fa.1,fa.2.1,fa.2.2.1,a4m _ _⟩
   ·rw[ay.mp hp];exact⟨Heap.get?_push_size _ rfl,fk0.1,fk0.2.1,fk0.2.2.1,a4m _ _⟩
 refine b1r (vs:=its) hΘ I3 fa fk (by rw[hlen,hle]) (by omega) (λi v k hv hk H1 s' pl' θ J=>?_) λH1 s' out n θ ko J fa' ga=>⟨_,rfl,?_⟩
 ·obtain⟨x,hx,rx⟩:=rv.tog hv;exact turn i x v k hx rx hk H1 s' pl' θ J
 ·obtain⟨os,so,ro⟩:=b4i rv ko;refine fP ⟨_,rfl,h H1 _ _ os θ ?_ fa'.1 so⟩;have s1:=Heap.SameBut.update s'.heap g.objs.size (Obj.mapSeq λ_=>out.toArray);obtain⟨c2,hc2⟩:∃c2,(s'.heap.update g.objs.size (Obj.mapSeq λ_=>out.toArray)).get? g.objs.size=some (seqObj "list" out.toArray c2):=⟨_,get?_update_seq ga λ_=>out.toArray⟩;have hol:os.length<=sizeLine:=by
   obtain⟨ps,p1,p2,_⟩:=so;rw[p2,aq,p1.length_eq,List.length_zip,f8];omega
  exact J.adopt (t':=s'.toks) fa' (λc u hc q=>(s1.2 c hc).trans q) ⟨hol,out,c2,ro,hc2⟩ ⟨_,hc2⟩
end
def b67(P:Addr)(H H':Hp):Prop:=∀b u,H b=some u->b≠P->H' b=some u
def b68(ha:PE X a ta)(he:fW [a] X.env=(false,eval a X.env)::fW [] X.env:=by rfl):PA X [a] (fun σ H Q=>ta σ H λv H1=>Q [v] H1):=by
 intro c b s σ H Q I h;exact a3Y ha a6p he c b s σ H Q I h
structure LamAt (X:Cx) (params:Arguments) (body:Expr) (scope:Scope) (P:Addr) (q x:Str) (N:List Str):Prop where
 sc:FnScope N [x] scope
 qn:q=X.env.qual++"<lambda>"
 df:jZ params X.env=([],[])
 cl:iW scope X.env=pure []
 cd:∃c,X.env.code=.ref c/\PySem.W.codeHdIn X.K c P=true
 gP:gg≠P
 bi:X.base.BuiltinsAt X.mg P
 bd:∀(pm ctv:Value)(c':Addr)(us:List Value),us.length=1->iy (PySem.W.kla_fn "<lambda>" q params body scope [] pm (.ref c') ctv) ⟨us,[]⟩=pure ([x].zip us)
def b69(K:Fg)(P:Addr)(lp:Pos)(q:Str)(N:List Str)(t:TE)(Q:VK):VK:=λv H1=>∃p xs kz,∃Θ:Hp->Hp->Prop,v=.ref p/\SqL K H1 p xs/\xs.length<=100000/\Tab H1 P lp q/\kz.length=xs.length /\
 (∀H2,b67 P H1 H2->Tab H2 P lp q->Θ H2 H2)/\(∀H2 H',Θ H2 H'->∀b o u,H2 b=some (.frz o u)->H' b=some (.frz o u)) /\
 (∀(i:Nat) x k,xs[i]?=some x->kz[i]?=some k->∀H2 H',Θ H2 H'->t (start N [x]) H' λy H3=>y=.int k/\Θ H2 H3) /\
 ∀H2 H' tA os,Θ H2 H'->H' tA=none->SOut kz xs os->Q (.ref tA) (upd H' tA (.lst os))
def b7a(K:Fg)(P:Addr)(lp:Pos)(q:Str)(N:List Str)(ta t:TE):TE:=fun σ H Q=>ta σ H (b69 K P lp q N t Q)
def one1(Q:VK):List V->Hp->Prop:=λvs H=>match vs with |[v]=>Q v H |_=>False
def b4j(h:one1 Q vs H):∃v,vs=[v]/\Q v H:=by
 match vs,h with
 |[v],h=>exact⟨v,rfl,h⟩
def b1s(hg:Gl X "sorted")(hm:X.mg "sorted"=none)(hr:Room (k+3) X.A)(L:LamAt X params body scope P q x N)(ha:PE X a ta)
  (ht:∀(f c':Addr)(A:Around)(outer:List Env)(s:Shared)(H:Hp),Room k (A.deeper (envOfC q scope s.heap.objs.size f (.ref c')))->PE (cxOf CX0 X.prog X.w X.K X.mg X.base N q scope f (.ref c') A outer s H E0).nox body t)
  (he:fW [a] X.env=(false,eval a X.env)::fW [] X.env:=by rfl) :
  PE X (.Call (.Name "sorted" pN) [a] [⟨some "key",.Lambda params body scope lpos,kp⟩] pos) (b7a X.K P lpos q N ta t):=by
 intro B s σ H Q I h;refine iR (a2X I hg hm (show gx "sorted"=some (.builtin "sorted") by decide +kernel) ?_);refine callWith_kw (thn (b68 ha he pos B s σ H (one1 (b69 X.K P lpos q N t Q)) I h) λus s1 ⟨vs,H1,W,r,q0⟩=>?_) (by rw[he];rfl) (by rw[he];rfl);obtain⟨v,rfl,q1⟩:=b4j q0;obtain⟨u,rfl,ru⟩:=a2A r;obtain⟨p,xs,kz,Θ,rfl,b,Y,y,C,θ0,θf,hk,hQ⟩:=q1;cases ru;obtain⟨c,E,M⟩:=L.cd;refine kws_cons (b1q W y L.qn L.df L.cl E M L.gP L.bi λf d g pm S s2 oc I2 R T D=>?_);refine kws_nil ?_;have G:SqL X.K g p xs:=by
  rcases b with (b |⟨o,b⟩) |b
  ·exact .inl (.inl (D _ _ b λz=>by obtain⟨ps,e,_⟩:=y;rw[z,e]at b;cases b))
  ·exact .inl (.inr ⟨o,D _ _ b λz=>by obtain⟨ps,e,_⟩:=y;rw[z,e]at b;cases b⟩)
  ·exact .inr b
 refine a7M (θ0 g D T) I2 G C Y (λi x' v k' hx rx F j m pl θ J=>?_) λj m U os θ J hn so=>⟨.ref U,_,J.unpinned,rfl,hQ g j U os θ hn so⟩;have V:=(J.hok d _ (θf _ _ θ _ _ _ R)).2.1;have n:=Room.in1 (Room.in1 hr);refine iQ (g5 (b4g L.sc (L.bd pm S d) n J.env0.in1.in1 (.cons rx .nil) rfl (J.pin (f,_) (by simp)).1 V (ht f d X.A.in1.in1 X.stack m j (n.deeper _)) (hk i x' k' hx F g j θ)) λr s'' l=>?_);cases r with
 |error e=>exact l.elim
 |ok fl=>
  cases fl with
  |ret u=>exact J.after l
  |next=>exact l.elim
  |brk=>exact l.elim
  |cont=>exact l.elim
end L2
namespace L3
open PySem PySem.Spec PyProof.Rows L2
def a9C(P:Addr)(lp:Pos)(q:Str)(N:List Str)(te t:E3):E3:=fun σ G R=>te σ G λx G1=>∃p ws kz,x=.ref p/\G1 p=some (.lst ws)/\ws.length<=100000/\G1 P=some (.tab lp q)/\kz.length=ws.length /\
 (∀(i:Nat) w k,ws[i]?=some w->kz[i]?=some k->t (a08 N [w]) G1 λy G2=>y=.int k/\G2=G1)/\∀tA os,G1 tA=none->SOut kz ws os->R (.ref tA) (put G1 tA (.lst os))
theorem a6R{K:Fg}:∀{T:List (Int×Z×V)},(∀t∈T,Rep K H t.2.1 t.2.2)->Reps K H (T.map λt=>t.2.1) (T.map λt=>t.2.2)
 |[],_=>.nil
 |t::T,h=>.cons (h t (.head _)) (a6R λu a=>h u (.tail _ a))
theorem a6S{K:Fg}:∀{ws:List Z}{vs:List V},Reps K H ws vs->∀p∈ws.zip vs,Rep K H p.1 p.2
 |[],vs,_,p,h=>by simp at h
 |w::ws,vs,r,p,h=>by
  obtain⟨v,c,rfl,a,b⟩:=r;rcases ax.mp h with rfl |h
  ·omega
  ·exact a6S b p h
def b1t{K:Fg}{vs os:List V}(rs:Reps K H ws vs)(so:SOut kz vs os):∃zs,SOut kz ws zs/\Reps K H zs os:=by
 obtain⟨g,d,f,a⟩:=so;obtain⟨T,c,b⟩:=perm_lift d (a4n rs.length);refine⟨T.map λt=>t.2.1,⟨T.map λt=>(t.1,t.2.1),?_,by rw[bQ];rfl,?_⟩,?_⟩
 ·rw[a4o rs.length];exact c.map _
 ·rw[b]at a;rw[bT]at a ⊢;exact a
 ·rw[f,b,bQ];exact a6R λt e=>a6S rs t.2 (cw (c.mem_iff.mp e)).2
def b4k{K:Fg}(hP:H P=some (.tbl ps))(k:b67 P H H2):TK K H H2:=
 ⟨λb a e=>k _ _ e λz=>(by simp_all),λb a e=>by
  rcases e with ⟨o,e⟩ |e
  ·exact .inl ⟨o,k _ _ e λz=>by rw[z,hP]at e;cases e⟩
  ·exact .inr e,λb o u e=>k _ _ e λz=>by rw[z,hP]at e;cases e⟩
def b4l(hg:Gl X "sorted")(hm:X.mg "sorted"=none)(hr:Room (k+3) X.A)(L:LamAt X params body scope P q x N)(ha:QE X a te)
  (ht:∀(f c':Addr)(A:Around)(outer:List Env)(s:Shared)(H:Hp),Room k (A.deeper (envOfC q scope s.heap.objs.size f (.ref c')))->QE (cxOf CX0 X.prog X.w X.K X.mg X.base N q scope f (.ref c') A outer s H E0).nox body t)
  (he:fW [a] X.env=(false,eval a X.env)::fW [] X.env:=by rfl) :
  QE X (.Call (.Name "sorted" pN) [a] [⟨some "key",.Lambda params body scope lpos,kp⟩] pos) (a9C P lpos q N te t):=
 ⟨a0P (b1s (t:=low X.K t) hg hm hr L ha.p (λf c' A n s H r=>(ht f c' A n s H r).p) he) fun τ H Q hx=>hx.un fun σ G R hs hg h up=>⟨σ,G,_,hs,hg,h,λw M v S hw D c t1=>by
  obtain⟨p,ws,kz,rfl,ew,hz,T,hl,hk,hR⟩:=hw;obtain⟨vs,ev,l⟩:=c p _ ew;obtain⟨ps,I,hO⟩:=(c P _ T);refine⟨p,vs,kz,λj d=>RH X.K M d/\TK X.K S d/\∀b o u,j b=some _->d b=some _,D,SqL.of ev,by rw[<- l.length];exact hz,⟨ps,I,hO⟩,by rw[hl,l.length],λj Y T2=>?_,λj d θ=>θ.2.2,λi x' k' E F j d θ=>?_,λj d tA os θ m so=>?_⟩
  ·have W:=b4k (K:=X.K) I Y;refine⟨λb o e=>?_,W,λ_ _ _ z=>z⟩
   by_cases hb:b=P
   ·subst hb;rw[T]at e;cases e;exact T2
   ·obtain⟨u,z⟩:=(c b o e).some;exact (c b o e).stay W ((Y _ _ z hb).trans z.symm)
  ·obtain⟨U,J,B⟩:=l.tog E;exact⟨a08 N [U],M,_,.start (.cons (B.mono θ.2.1) .nil),θ.1,hk i U k' J F,λz G' v' H3 ⟨e1,e2⟩ r g V=>by
    subst e1 e2;exact⟨r,g,θ.2.1.trans V,λb o u q=>V.frd _ _ _ (θ.2.2 _ _ _ q)⟩⟩
  ·obtain⟨zs,C,rz⟩:=b1t (l.mono θ.2.1) so;exact up _ _ _ _ (hR tA zs (θ.1.out m) C) (by rw[a0v]) (θ.1.set (.new m) (a07 rz (.new m))) (t1.trans (θ.2.1.trans (.new m)))⟩⟩
def b4m (h:te σ G λx G1=>∃p ws kz,x=.ref p/\G1 p=some (.lst ws)/\ws.length<=100000/\G1 P=some (.tab lp q)/\kz.length=ws.length /\
 (∀(i:Nat) w k,ws[i]?=some w->kz[i]?=some k->t (a08 N [w]) G1 λy G2=>y=.int k/\G2=G1)/\∀tA os,G1 tA=none->SOut kz ws os->R (.ref tA) (put G1 tA (.lst os))):a9C P lp q N te t σ G R:=h
end L3
namespace L2
open PySem PySem.Spec PyProof.Rows
def a9D:∀{kvs:List (Key×V)}{vs:List (Key×Value)}{i:Nat}{p:Key×V},KV kvs vs->kvs[i]?=some p->∃q,vs[i]?=some q/\p.1=q.1/\RelV p.2 q.2:=by
 intro a
 induction a with
 |nil=>intro b i p h e;simp at e
 |cons p0 a ih=>
  intro b i p h e;cases h with
  |cons h1 h2=>
   cases i with
   |zero=>cases e;exact⟨_,rfl,h1⟩
   |succ i=>exact ih (i:=i) h2 (by simpa using e)
section
variable{X:Cx}{o:Expr}{to:TE}{apos pos tpos:Pos}{elts:List Expr}{x1:_}
end
end L2
namespace L3
open PySem PySem.Spec PyProof.Rows L2
def a29{us:List (Key×V)}{kvs:List (Key×Z)}{K:Fg}(hn:us.map (·.1)=kvs.map (·.1))(rr:Reps K H (kvs.map (·.2)) (us.map (·.2))){i:Nat}(e:kvs[i]?=some p):∃u,us[i]?=some u/\u.1=p.1/\Rep K H p.2 u.2:=by
 obtain⟨v,a,c⟩:=rr.get (by rw[aA,e];rfl);rw[aA]at a;cases hu:us[i]? with
 |none=>rw[hu]at a;cases a
 |some u=>
  rw[hu]at a;cases a;have b:(us.map (·.1))[i]?=some u.1:=by rw[aA,hu];rfl
  rw[hn,aA,e]at b;exact⟨u,rfl,(aN.inj b).symm,c⟩
section
variable{X:Cx}{tg l:Expr}{tl:E3}
end
end L3
namespace Tim
open PySem PyProof.Rows PySem.W
section
variable{prog:fV}{w:World}{A:Around}{E:Value->Shared->Prop}{s:Shared}
end
section
variable{prog:fV}{w:World}{A:Around}{E:Value->Shared->Prop}{s:Shared}{l I S:Addr}{vs:List Value}{rows:List (List Pz)}{m:Nat}{R:Result->Shared->Prop}{Q:Value->Shared->Prop}
def RowIn.up(r:RowIn h v x)(k:∀b o,h.get? b=some o->h'.get? b=some o):RowIn h' v x:=by
 obtain⟨a,o,c,n,e,d,r⟩:=r;exact⟨a,o,c,n,e,k _ _ d,r⟩
end
end Tim
namespace L2
open PySem PySem.Spec PyProof.Rows Tim
end L2
namespace L3
open PySem PySem.Spec PyProof.Rows L2 Tim
end L3
namespace L2
open PySem PySem.Spec PyProof.Rows
def EqW(P:fV)(w:World)(A:Around)(s:Shared)(v y:Value):Prop:=∀(E:Value->Shared->Prop)(Q:Bool->Shared->Prop),Q true s->wpAny (model P w) A (eqBool v y) Q E s
section
variable{P:fV}{w:World}{A:Around}{E:Value->Shared->Prop}{s:Shared}
def a9E(na:(a==gm)=false)(nb:(b==gm)=false)(da:s.heap.DictOf (a0j P w) a ka)(db:s.heap.DictOf (a0j P w) b kb)(hl:ka.length=kb.length)
  (hv:∀(i:Nat) k v,ka[i]?=some (k,v)->∃y,gM kb k=some y/\EqW P w A s v y) (q:Q true s):wpAny (model P w) A (fX.Dict.samePairs nm a b) Q E s:=by
 obtain⟨Y,c,p1,x,x1,m,S,N,z1⟩:=da;obtain⟨o2,h,p2,r,X,l,I,B,z2⟩:=db;have V:c.size=ka.length:=by rw[<- N.length,aQ]
 have C:h.size=kb.length:=by rw[<- B.length,aQ]
 have L:∀k,findBy (a0j P w).is h k=gM kb k:=λk=>by
  rw[<- B.find k];simp[findBy]
 unfold fX.Dict.samePairs fX.Dict.showsAll;simp only[na,nb];refine fO (fP (fO (fP (fO (iI x m ?_)))));refine fO (iI r l ?_);rw[if_neg (by grind)];refine fO (j3 x m (fO ?_));rw[Std.Legacy.Range.forIn_eq_forIn_range'];refine jY _ (λg u t=>t=s/\u=_/\∃i,i<=c.size/\g=List.range' i (c.size-i)) _ ?_ ?_ _ _ ⟨rfl,rfl,0,aR _,by simp⟩
 ·rintro n g u t ⟨rfl,rfl,i,H,f⟩;have o:i<c.size:=by
   refine Nat.lt_of_le_of_ne H λz=>?_;rw[z,Nat.sub_self]at f;cases f
  rw[show c.size-i=(c.size-(i+1))+1 by omega,fz]at f;cases f;refine fO (iI x m ?_);rw[bh o];have U:n<ka.length:=by omega
  obtain⟨⟨k,v⟩,D⟩:∃p,ka[n]?=some p:=⟨_,aC U⟩;obtain⟨R,T⟩:=N.get? (by rw[bP];exact bh o) D;obtain⟨k',F,W⟩:=S c[n] (Array.getElem_mem o);cases (a0j P w).inj _ _ _ F R;obtain⟨y,d,G⟩:=hv n k v D
  show wpAny _ _ (gr [c[n].key,c[n].val] _ >>= _) _ _ _
  rw[W];refine fO (gh (fO (wpAny_dictFind_of R r l I ?_)));rw[<- L k,findBy_of_findIdx?]at d;cases hj:h.findIdx? λe=>(a0j P w).is k e.key with
  |none=>rw[hj]at d;cases d
  |some j=>
   have M:=(Array.findIdx?_eq_some_iff_getElem.mp hj).1;rw[hj]at d;have J:h[j].val=y:=by simpa[bh M]using d
   refine fO (iI r l ?_);rw[bh M];rw[<- J,<- T]at G;refine gh (G _ _ ?_);refine fO (j3 x m ?_);rw[if_neg (by simp)];exact fP ⟨rfl,rfl,n+1,o,rfl⟩
 ·rintro u t ⟨rfl,rfl,i,H,f⟩;exact fP q
end
section
variable{X:Cx}
def DEq1(H:Hp)(x y:V):Prop:=∃d,DV H d x/\DV H d y/\SeqAt.shaped d=true/\PyData.eqv d d=true
def b7b(R:V->V->Prop)(H:Hp)(x y:V):Prop:=∃a b ua ub,x=.ref a/\y=.ref b/\a≠b/\Rd H a (.dK ua)/\Rd H b (.dK ub)/\ua.map (·.1)=ub.map (·.1)/\∀(i:Nat) p q,ua[i]?=some p->ub[i]?=some q->R p.2 q.2
def a51:∀{kb:List (Key×Value)},(kb.map (·.1)).Nodup->∀{i:Nat}{k:Key}{y:Value},kb[i]?=some (k,y)->gM kb k=some y:=by
 intro d
 induction d with
 |nil=>intro _ i k y e;simp at e
 |cons p r ih=>
  intro a i k y e;rw[aF,bv]at a;unfold gM;cases i with
  |zero=>cases e;simp
  |succ i=>
   have b:r[i]?=some (k,y):=by simpa using e
   have c:p.1≠k:=λz=>a.1 (by rw[z];exact bg (aL b));rw[List.find?_cons_of_neg (by simpa using c)];exact ih a.2 b
def a9F{H:Hp}{s:Shared}{pins:List (Addr×Obj)}{σ:St}{ua ub:List (Key×V)}{ka kb:List (Key×Value)}{a b:Addr}{R:V->V->Prop}{A:Around}(va:KV ua ka)(vb:KV ub kb)(db:s.heap.DictOf (a0j X.prog X.w) b kb)(hk:ua.map (·.1)=ub.map (·.1))(hr:∀(i:Nat) p q,ua[i]?=some p->ub[i]?=some q->R p.2 q.2)
  (he:∀x y u v,R x y->RelV x u->RelV y v->EqW X.prog X.w A s u v):ka.length=kb.length/\∀(i:Nat) k v,ka[i]?=some (k,v)->∃y,gM kb k=some y/\EqW X.prog X.w A s v y:=by
 have t:ua.length=ub.length:=by have:=congrArg aX hk;simpa using this
 refine⟨by rw[a3M va,a3M vb,t],λi k v e=>?_⟩;have m:i<ua.length:=by have:=(az.mp e).1;rw[a3M va]at this;exact this
 obtain⟨p,d⟩:∃p,ua[i]?=some p:=⟨_,aC m⟩;obtain⟨q,c⟩:∃q,ub[i]?=some q:=⟨_,aC (by omega)⟩;obtain⟨C,f,o,B⟩:=a9D va d;obtain⟨j,g,r,z⟩:=a9D vb c;rw[e]at f;cases f;have n:p.1=q.1:=by
  have:(ua.map (·.1))[i]?=some q.1:=by rw[hk,aA,c];rfl
  rw[aA,d]at this;exact aN.inj this
 obtain⟨l,y⟩:=j
 have:=(r.symm.trans n.symm).trans o
 subst this;obtain⟨_,_,_,_,_,_,_,_,h⟩:=db;exact⟨y,a51 h g,he _ _ _ _ (hr i p q d c) B z⟩
end
end L2
namespace L3
open PySem PySem.Spec PyProof.Rows L2
section
variable{X:Cx}
def b2y{K:Fg}(hg:RH K G H)(e:G p=some (.dK kvs)\/G p=some (.dF kvs)):∃us,Rd H p (.dK us)/\us.map (·.1)=kvs.map (·.1)/\Reps K H (kvs.map (·.2)) (us.map (·.2)):=by
 rcases e with e |e
 ·obtain⟨a,d,b,c⟩:=hg _ _ e;exact⟨a,.inl d,b,c⟩
 ·obtain⟨f,a,d,b,c⟩:=hg _ _ e;exact⟨a,.inr ⟨f,d⟩,b,c⟩
def LEq(G:Hq)(x y:Z):Prop:=∃p q ws,x=.ref p/\y=.ref q/\G p=some (.lst ws)/\G q=some (.lst ws)/\ws.all (flat 8)=true
def b4n(R:Z->Z->Prop)(G:Hq)(x y:Z):Prop:=∃a b ka kb,x=.ref a/\y=.ref b/\a≠b/\(G a=some (.dK ka)\/G a=some (.dF ka))/\(G b=some (.dK kb)\/G b=some (.dF kb))/\ka.map (·.1)=kb.map (·.1)/\∀(i:Nat) p q,ka[i]?=some p->kb[i]?=some q->R p.2 q.2
def a9G{K:Fg}(hg:RH K G H)(hRS:∀x y u v,R x y->Rep K H x u->Rep K H y v->S u v)(h:b4n R G x y)(ru:Rep K H x u)(rv:Rep K H y v):b7b S H u v:=by
 obtain⟨a,b,r,l,rfl,rfl,z,C,A,B,J⟩:=h;obtain⟨o,w,g,L⟩:=b2y hg C;obtain⟨t,E,e,F⟩:=b2y hg A;refine⟨a,b,o,t,ru,rv,z,w,E,by rw[g,e,B],λi p q m k=>?_⟩;have T:o.length=r.length:=by have:=congrArg aX g;simpa using this
 have N:t.length=l.length:=by have:=congrArg aX e;simpa using this
 obtain⟨j,d⟩:∃j,r[i]?=some j:=⟨_,aC (by grind)⟩;obtain⟨f,c⟩:∃f,l[i]?=some f:=⟨_,aC (by grind)⟩;obtain⟨M,s,_,I⟩:=a29 g L d;obtain⟨Q,n,_,D⟩:=a29 e F c;rw[m]at s;cases s;rw[k]at n;cases n;exact hRS _ _ _ _ (J i j f d c) I D
end
abbrev NsG(K:Fg)(x:Str)(v:Option Value):Prop:=PySem.W.nsIn K gg x=some v
def Br(K:Fg)(mg:Str->Option Value):Prop:=∀x v,NsG K x v->mg x=v
def b9n{K:Fg}(X:K.In h)(G:h.Ns gg mg):Br K mg:=λ_ v e=>match v,e with
 |some _,e=>PySem.W.mg_of X G e
 |none,e=>PySem.W.mg_none_of X G e
def FX(K:Fg)(x:Str)(st:Stmt):Prop:=∃f d,NsG K x (some (.ref f))/\Fun K x x st f d
def MX(K:Fg)(C:Addr)(m q:Str)(st:Stmt):Prop:=∃f d,Meth K C m f/\Fun K m q st f d
def AllF(K:Fg)(tp:Nat->Stmt)(l:List (Str×Nat)):Prop:=∀(i:Nat)(r:Str×Nat),l[i]?=some r->FX K r.1 (tp r.2)
def AllM(K:Fg)(tp:Nat->Stmt)(C:Addr)(l:List (Str×Str×Nat×Nat)):Prop:=∀(i:Nat)(r:Str×Str×Nat×Nat),l[i]?=some r->MX K C r.1 r.2.1 (a31 (tp r.2.2.1) r.2.2.2)
def AllB(K:Fg)(l:List Str):Prop:=∀(i:Nat) x,l[i]?=some x->NsG K x none
def AllN(K:Fg)(C:Addr)(l:List Str):Prop:=∀(i:Nat) x,l[i]?=some x->NoAttr K C x
section
variable{K:Fg}{tp:Nat->Stmt}{x m q:Str}{n j:Nat}{f C:Addr}{oc:Value}{od an:Option Addr}{osl:Array (Option Value)}{kV doc pm cdv ct:Value}
def af0:AllF K tp []:=λ_ _ h=>nomatch h
def af1(a:PySem.W.nsIn K gg x=some (some (.ref f)))(e:K.lookup f=some ⟨oc,od,.func (PySem.W.fnOf x x (a1y (tp n)) (a0S (tp n)) (a0l (tp n)) .none kV doc pm an cdv ct),osl⟩)
  (c:PySem.W.codeIn K cdv x=true) (k:PySem.W.keepIn K (.ref f)=true) (t:AllF K tp l):AllF K tp ((x,n)::l):=λi r h=>by
 cases i with
 |zero=>cases h;exact⟨f,_,a,b2e e c k⟩
 |succ i=>exact t i r h
def ab0:AllB K []:=λ_ _ h=>nomatch h
def ab1(a:PySem.W.nsIn K gg x=some none)(t:AllB K l):AllB K (x::l):=λi y h=>by
 cases i with
 |zero=>cases h;exact a
 |succ i=>exact t i y h
def an0:AllN K C []:=λ_ _ h=>nomatch h
def an1(a:PySem.W.findIn K (.ref C) x=some none)(t:AllN K C l):AllN K C (x::l):=λi y h=>by
 cases i with
 |zero=>cases h;exact a
 |succ i=>exact t i y h
def am0:AllM K tp C []:=λ_ _ h=>nomatch h
def am1(a:PySem.W.findIn K (.ref C) m=some (some (.ref f)))(g:PySem.W.isFn K (.ref f)=true)
  (e:K.lookup f=some ⟨oc,od,.func (PySem.W.fnOf m q (a1y (a31 (tp n) j)) (a0S (a31 (tp n) j)) (a0l (a31 (tp n) j)) .none kV doc pm an cdv ct),osl⟩)
  (c:PySem.W.codeIn K cdv q=true) (k:PySem.W.keepIn K (.ref f)=true) (t:AllM K tp C l):AllM K tp C ((m,q,n,j)::l):=λi r h=>by
 cases i with
 |zero=>cases h;exact⟨f,_,⟨a,g,k⟩,b2e e c k⟩
 |succ i=>exact t i r h
end
section
variable{P:fV}{w:World}{K:Fg}{mg:Str->Option Value}{base:Heap}{x q:Str}{st:Stmt}{f C:Addr}{d:gz}{N:List Str}{k n:Nat}
def Fd(P:fV)(w:World)(K:Fg)(mg:Str->Option Value)(base:Heap)(CX:CXT)(k:Nat)(f:Addr)(s:Sp):Prop:=∃d ps,FnOk P w K mg base CX k f d ps s/\Binds K d ps []
structure Cal (P:fV) (w:World) (K:Fg) (mg:Str->Option Value) (base:Heap) (CX:CXT) (k:Nat) (x:Str) (s:Sp):Prop where
 ex:∃f,Fd P w K mg base CX k f s/\mg x=some (.ref f)/\PySem.W.keepIn K (.ref f)=true
def Mal(P:fV)(w:World)(K:Fg)(mg:Str->Option Value)(base:Heap)(CX:CXT)(k:Nat)(C:Addr)(x:Str)(s:Sp):Prop:=∃f,Fd P w K mg base CX k f s/\Meth K C x f
abbrev Bd0(P:fV)(w:World)(K:Fg)(mg:Str->Option Value)(base:Heap)(N:List Str)(q:Str)(st:Stmt)(k:Nat)(sp:P3):Prop:=∀(f:Addr)(cdv:Value)(A:Around)(outer:List Env)(s:Shared)(H:Hp)(E:XK)(ws:List Z)(G:Hq)(R:K3),Room k (A.deeper (envOfC q (a0l st) s.heap.objs.size f cdv))->N.Nodup->sp ws G R ->
 ∃t,QSs (cxOf CX0 P w K mg base N q (a0l st) f cdv A outer s H E).nox (a0S st) t/\t (λ_ G'=>R .non G') R (λ_ _=>False) (λ_ _=>False) (a08 N ws) G
abbrev Pl(x q:Str)(st:Stmt)(ps:List Str):Prop:=∀(kV doc pm:Value)(an:Option Addr)(cdv ct:Value)(us:List Value),us.length=ps.length->iy (PySem.W.fnOf x q (a1y st) (a0S st) (a0l st) .none kV doc pm an cdv ct) ⟨us,[]⟩=pure (ps.zip us)
def fnd(F:Fun K x q st f d)(b:Bd0 P w K mg base N q st k sp)(S:FnScope N (N.take n) (a0l st))(len:∀ws G R,sp ws G R->ws.length=(N.take n).length):FnOk P w K mg base CX0 (k+1) f d (N.take n) (lowP K sp):=
 fn3 F S len λc A a s H E e G R g h=>b f c A a s H E e G R g S.nd h
def fnc(n:Nat)(B:Br K mg)(F:FX K x st)(b:Bd0 P w K mg base N x st k sp)(len:∀ws G R,sp ws G R->ws.length=(N.take n).length:=by intro ws G R h;repeat' first | (obtain⟨rfl,_⟩:=h;rfl) | (cases h<;>rename_i h))(S:FnScope N (N.take n) (a0l st):=by exact⟨rfl,rfl,rfl,by decide +kernel,rfl,by decide +kernel,by decide +kernel⟩)(pl:Pl x x st (N.take n):=by intro _ _ _ _ _ _;(repeat refine lnS λ_=>?_);exact ln0 rfl):Cal P w K mg base CX0 (k+1) x (lowP K sp):=by
 obtain⟨f,d,e,F⟩:=F;exact⟨⟨f,⟨d,_,fnd F b S len,F.binds pl⟩,B _ _ e,F.kp⟩⟩
def fnm(n:Nat)(F:MX K C x q st)(b:Bd0 P w K mg base N q st k sp)(len:∀ws G R,sp ws G R->ws.length=(N.take n).length:=by intro ws G R h;repeat' first | (obtain⟨rfl,_⟩:=h;rfl) | (cases h<;>rename_i h))(S:FnScope N (N.take n) (a0l st):=by exact⟨rfl,rfl,rfl,by decide +kernel,rfl,by decide +kernel,by decide +kernel⟩)(pl:Pl x q st (N.take n):=by intro _ _ _ _ _ _;(repeat refine lnS λ_=>?_);exact ln0 rfl):Mal P w K mg base CX0 (k+1) C x (lowP K sp):=by
 obtain⟨f,d,e,F⟩:=F;exact⟨f,⟨d,_,fnd F b S len,F.binds pl⟩,e⟩
end
noncomputable def nst:Expr->Bool
 |.Starred _ _=>false
 |_=>true
def se_(h:nst e=true):fW (e::es) env=(false,eval e env)::fW es env:=by cases e<;>first |rfl |cases h
def hp_:∀{es:List Expr},es.all nst=true->(backTo pos (fW es env)).any (·.1)=false:=by intro z0;induction z0 with
 |nil=>intro _;exact b5W
 |cons e es I0=>
  intro h;rw[aS,bn]at h;exact b3i (se_ h.1) (I0 h.2)
def s1_(h:(e::es).all nst=true):fW (e::es) env=(false,eval e env)::fW es env:=se_ (by simp_all)
def h1_(h:(e::es).all nst=true):(backTo pos (fW es env)).any (·.1)=false:=hp_ (by rw[aS,bn]at h;exact h.2)
section
variable{X:Cx}{e o:Expr}{es:List Expr}{t:A3}{te to:E3}{x m:Str}{k j:Nat}{C:Addr}{p pos apos:Pos}{sp:P3}{sq:PX3}{E:XK}{EE:Addr->Hq->Prop}{pl:Sem Bool}
def q_c(c:Cal X.prog X.w X.K X.mg X.base CX0 k x (lowP X.K sp))(hr:Room j X.A)(ha:QA X (e::es) t)(hn:(e::es).all nst=true:=by rfl)(hk:k<=j:=by decide)(hg:Gl X x:=by rfl)
  (hdb:(x==("__debug__":Str))=false:=by decide):QE X (.Call (.Name x p) (e::es) [] pos) (b3o sp t):=by
 obtain⟨f,⟨d,h,F,b⟩,g,a⟩:=c.ex;exact b50 F (hr.mono hk) hg g a b ha hdb (s1_ hn) (h1_ hn)
def q_m(ho:QE X o to)(c:Cls X.K C)(M:Mal X.prog X.w X.K X.mg X.base CX0 k C m (lowP X.K sp))(hr:Room j X.A)(ha:QA X (e::es) t)(hn:(e::es).all nst=true:=by rfl)(hk:k<=j:=by decide)
  (ht:eval (.Call (.Attribute o m apos) (e::es) [] pos) X.env=(do
   let ov <- eval o X.env
   g8 apos.atName
   let (f,first) <- gr [ov] (iP ov m pl)
   jF pos f first (backTo pos (fW (e::es) X.env)) (iz pos (iA [] X.env))):=by rfl):QE X (.Call (.Attribute o m apos) (e::es) [] pos) (b1h C m sp to t):=by
 obtain⟨f,⟨d,g,F,a⟩,b⟩:=M;exact b6X ho c b F (hr.mono hk) a ha (s1_ hn) (h1_ hn) ht
def b9o(mk:PySem.W.makesIn X.K C=true/\PySem.W.keepIn X.K (.ref C)=true)(M:Mal X.prog X.w X.K X.mg X.base CX0 k C "__init__" (lowP X.K sp))(hr:Room j X.A)(hm:X.mg x=some (.ref C))(hk:k+1<=j:=by decide)(hg:Gl X x:=by rfl)
  (hdb:(x==("__debug__":Str))=false:=by decide):QE X (.Call (.Name x p) [] [] pos) (b3T C sp uNil):=by
 obtain⟨f,⟨d,b,F,a⟩,h⟩:=M;exact b3U ⟨mk.1,h.at_,h.fn,mk.2⟩ F (hr.mono hk) hg hm a hdb
def q_k(ha:QE X e te)(hr:QA X es t)(h:nst e=true:=by rfl):QA X (e::es) (b3k te t):=b5Z ha hr (se_ h)
def q_B{id:String}(hc:a2D X (.builtin id) r)(hm:X.mg x=none)(ha:QA X (e::es) t)(hv:gx x=some (.builtin id):=by rfl)(hn:(e::es).all nst=true:=by rfl)(hg:Gl X x:=by rfl)(h1:x≠"__name__":=by decide)(h2:(x==("__debug__":Str))=false:=by decide) :
  QE X (.Call (.Name x p) (e::es) [] pos) (uCB r t):=b3m hc hg hm hv ha h1 h2 (s1_ hn) (h1_ hn)
def q_Y{id:String}(hc:a2D X (.type id) r)(hm:X.mg x=none)(ha:QA X (e::es) t)(hv:gx x=some (.type id):=by rfl)(hn:(e::es).all nst=true:=by rfl)(hg:Gl X x:=by rfl)(h1:x≠"__name__":=by decide)(h2:(x==("__debug__":Str))=false:=by decide) :
  QE X (.Call (.Name x p) (e::es) [] pos) (uCB r t):=b0P hc hg hm hv ha h1 h2 (s1_ hn) (h1_ hn)
structure Nm (X:Cx) (x:Str) (i:Nat):Prop where
 nd:X.N.Nodup
 ix:X.N[i]?=some x
 lc:Loc X.env.scope x
 fn:X.fn x=true\/X.env.scope.names.lookup x=some .local
def nmI(i:Nat)(nd:X.N.Nodup)(ix:X.N[i]?=some x:=by rfl)(lc:Loc X.env.scope x:=by first |exact b7 rfl |exact bI rfl)(fn:X.fn x=true\/X.env.scope.names.lookup x=some .local:=by first |exact .inl rfl |exact .inr rfl |assumption):Nm X x i:=⟨nd,ix,lc,fn⟩
def z_st(h:Nm X x i)(he:QE X e te)(hs:gZ e (some (.Name x pos')) pos.line X.env=pure false:=by rfl):QS X (.Assign [.Name x pos'] e pos) (uAsg te (.nm i)):=b8t h.nd h.ix h.lc he hs h.fn
def z_au(h:Nm X x i)(he:QE X e te)(ho:OpQ X (g9 op) r):QS X (.AugAssign (.Name x pos') op e pos) (uAug i te r):=b59 h.nd h.ix h.lc he ho h.fn
def p_nm(h:Nm X x i):QP X (.Name x pos) (.nm i):=a74 h.nd h.ix h.lc h.fn
def QPg(X:Cx)(es:List Expr)(is:List Nat):Prop:=PGs X es (gsOf is)/\(gU es X.env).length=is.length/\(gU es X.env).findIdx? (·.1)=none
def b9p:QPg X [] []:=⟨b2V,rfl,rfl⟩
def b7c(h:Nm X x i)(t:QPg X es is):QPg X (.Name x pos::es) (i::is):=⟨b0q (a74 h.nd h.ix h.lc h.fn) t.1,congrArg Nat.succ t.2.1,by
 show e9 _ (_::gU es X.env)=none
 rw[List.findIdx?_cons,if_neg nofun,t.2.2];rfl⟩
def p_tp(hc:X.calm=true)(h:QPg X es is):QP X (.Tuple es c pos) (.tp is):=b5a hc h.1 h.2.1 h.2.2
section
variable{CX:CXT}{P:fV}{w:World}{K:Fg}{mg:Str->Option Value}{base:Heap}{N:List Str}{q:Str}{so:Scope}{f:Addr}{cd:Value}{A:Around}{outer:List Env}{s:Shared}{H:Hp}{E:XK}
def cxN:(cxOf CX P w K mg base N q so f cd A outer s H E).nox.N=N:=rfl
def cxS:(cxOf CX P w K mg base N q so f cd A outer s H E).nox.env.scope=so:=rfl
def cxN':(cxOf CX P w K mg base N q so f cd A outer s H E).N=N:=rfl
def cxS':(cxOf CX P w K mg base N q so f cd A outer s H E).env.scope=so:=rfl
end
def cxcN:(cxC X EW N' sc D s H fp).N=N':=rfl
section
variable{Nj:List Str}{so sc:Scope}{wi:I3}{tg iter elt:Expr}{ifs:List Expr}{tt:T3}{i:Nat}
def q_l(N':List Str)(cap:List (Option Nat))(pt:Pt)(hi:QI X tg iter wi:=by ac_rfl)(ht:∀C s H fp,QIfs (cxC X E0 N' sc C s H fp) ifs tt:=by walk_at "r4")(he:∀C s H fp,QE (cxC X E0 N' sc C s H fp) elt te:=by walk_at "r4")(hg:∀C s H fp,N'.Nodup->QP (cxC X E0 N' sc C s H fp) tg pt:=by walk_at "r5")
  (hNN:X.N=Nj:=by first |exact cxN |exact cxN' |exact cxcN) (hso:X.env.scope=so:=by first |exact cxS |exact cxS' |rfl) (ck:capB Nj so sc N' cap=true:=by first |decide +kernel |rfl) (hp:(pt.slots.all λj=>decide (cap[j]?=some none))=true:=by rfl)
  (nd:N'.Nodup:=by decide +kernel) (hc:X.calm=true:=by rfl) (hs:∀x,hU iter X.env x=pure x:=by intro _;rfl):QE X (.ListComp elt [⟨tg,iter,ifs,0⟩] sc pos) (uLC wi cap pt tt te):=q_lc hc hNN hso ck hp hi (λC s H a=>hg C s H a nd) ht he hs
def z_l(h:Nm X x i)(N':List Str)(cap:List (Option Nat))(pt:Pt)(hi:QI X tg iter wi:=by ac_rfl)(ht:∀C s H fp,QIfs (cxC X E0 N' sc C s H fp) ifs tt:=by walk_at "r4")(he:∀C s H fp,QE (cxC X E0 N' sc C s H fp) elt te:=by walk_at "r4")(hg:∀C s H fp,N'.Nodup->QP (cxC X E0 N' sc C s H fp) tg pt:=by walk_at "r5")
  (hNN:X.N=Nj:=by first |exact cxN |exact cxN' |exact cxcN) (hso:X.env.scope=so:=by first |exact cxS |exact cxS' |rfl) (ck:capB Nj so sc N' cap=true:=by first |decide +kernel |rfl) (hp:(pt.slots.all λj=>decide (cap[j]?=some none))=true:=by rfl)
  (nd:N'.Nodup:=by decide +kernel) (hl:X.env.scope.names.lookup x=some .local:=by rfl) (hsw:gZ (.ListComp elt [⟨tg,iter,ifs,0⟩] sc pos) (some (.Name x pos')) spos.line X.env=pure true:=by rfl) (hc:X.calm=true:=by rfl) (hs:∀x,hU iter X.env x=pure x:=by intro _;rfl) :
  QS X (.Assign [.Name x pos'] (.ListComp elt [⟨tg,iter,ifs,0⟩] sc pos) spos) (uAsg (uLC wi cap pt tt te) (.nm i)):=b3v h.nd h.ix hl hc hNN hso ck hp hi (λC s H a=>hg C s H a nd) ht he hsw hs
end
end
def At(N:List Str)(i:Nat)(x:Str):Prop:=N[i]?=some x
def at_0:At (x::l) 0 x:=rfl
def at_1:At (c0::x::l) 1 x:=rfl
def at_2:At (c0::c1::x::l) 2 x:=rfl
def at_3:At (c0::c1::c2::x::l) 3 x:=rfl
def at_4:At (c0::c1::c2::c3::x::l) 4 x:=rfl
def at_5:At (c0::c1::c2::c3::c4::x::l) 5 x:=rfl
def at_6:At (c0::c1::c2::c3::c4::c5::x::l) 6 x:=rfl
def at_7:At (c0::c1::c2::c3::c4::c5::c6::x::l) 7 x:=rfl
def at_8:At (c0::c1::c2::c3::c4::c5::c6::c7::x::l) 8 x:=rfl
def at_9:At (c0::c1::c2::c3::c4::c5::c6::c7::c8::x::l) 9 x:=rfl
def b7d:At (c0::c1::c2::c3::c4::c5::c6::c7::c8::c9::x::l) 10 x:=rfl
def b7e:At (c0::c1::c2::c3::c4::c5::c6::c7::c8::c9::c10::x::l) 11 x:=rfl
def b7f:At (c0::c1::c2::c3::c4::c5::c6::c7::c8::c9::c10::c11::x::l) 12 x:=rfl
def b7g:At (c0::c1::c2::c3::c4::c5::c6::c7::c8::c9::c10::c11::c12::x::l) 13 x:=rfl
section
variable{X:Cx}{x:Str}{pos:Pos}
def qv(i:Nat)(hN:X.N[i]?=some x:=by rfl)(hv:Vis X.env.scope x:=by first |exact b7 rfl |exact bI (b7 rfl) |exact bI (bI rfl))(hd:(x==("__debug__":Str))=false:=by decide)
  (hcd:(x==("__classdict__":Str))=false:=by decide):QE X (.Name x pos) (uVar i):=b5O (a72 hN hv hd hcd)
def qw(h:X.N=N)(a:At N i x)(hv:Vis X.env.scope x:=by first |exact b7 rfl |exact bI (b7 rfl) |exact bI (bI rfl))(hd:(x==("__debug__":Str))=false:=by decide)
  (hcd:(x==("__classdict__":Str))=false:=by decide):QE X (.Name x pos) (uVar i):=b5O (a72 (h▸a) hv hd hcd)
def nwI(h:X.N=N)(a:At N i x)(nd:X.N.Nodup)(lc:Loc X.env.scope x:=by first |exact b7 rfl |exact bI rfl)(fn:X.fn x=true\/X.env.scope.names.lookup x=some .local:=by first |exact .inl rfl |exact .inr rfl |assumption):Nm X x i:=⟨nd,by rw[h];exact a,lc,fn⟩
end
end L3
namespace L3
def newK(e:put G a o=G')(h:G a=none):G' a=some o/\Sm G G':=by subst e;exact⟨a0a,Sm.new h⟩
end L3
namespace L2
open PySem PySem.Spec PyProof.Rows
end L2
namespace L3
open PySem PySem.Spec PyProof.Rows L2
end L3
namespace L2
open PySem PySem.Spec PyProof.Rows
def b1u(P0:Addr)(H:Hp):Prop:=H P0=some (.tbl #[])/\∀b,b≠P0->H b=none\/∃o xs,H b=some (.frz o (.lst xs))
def a9H{K:Fg}
  (KX:K.In sj.heap) (hns:sj.heap.Ns gg mg) (hb:sj.heap.Ns iM mb) (hbb:∀x:Str,x≠"__name__"->mb x=gx x) (hlim:sj.heap.NoLimit) (hg:sj.gens=#[])
  (hT:sj.heap.get? P0=some (PySem.W.tabObj #[])) (hK0:K.lookup P0=none) (hC:PySem.W.codeHdIn K c0 P0=true)
  (hB:∃bm ob,mg "__builtins__"=some (.ref bm)/\bm≠iM/\sj.heap.get? bm=some ob/\ob.cls=.type "module"/\ob.dict=some iM/\ob.data=.plain)
  (ha:sj.heap.get? a=some { cls:=.type "list",data:=.seq vs.toArray }) (hi:gj vs ns) (hl:ns.length<=fR) (hr:Room k io)
  (F:∀base:Heap,K.In base->base.Ns gg mg->base.BuiltinsAt mg P0->FnOk P w K mg base CX k fa fd [x] sp) (hbind:∀(s:Shared)(u:Value),iw s fd ⟨[u],[]⟩ [(x,u)])
  (hsp:∀H:Hp,b1u P0 H->SqL K H a (ns.map V.int)->sp [.ref a] H (λv _=>v=.bl true) λ_ _ _=>False)
  (hCX:∀H e s',CX [] H sj (λ_ _ _=>False) e s'->False) :
  gF (model P w) io (.call (.ref fa) ⟨[.ref a],[]⟩) (λr s'=>r=.ok (.ret (.bool true))/\OldK sj.heap s'.heap/\s'.os=sj.os/\gR s'.gens) sj:=by
 have N:=a8t hi;have M:=hi.length;have Y:a≠P0:=λz=>by rw[z,hT]at ha;cases ha
 have p:∀H:Hp,b1u P0 H->SqL K H a (ns.map V.int)->HOk P w H sj.heap->(∀b,H b≠none->b=a\/b=P0)->(H a≠none->K.lookup a=none) ->
   gF (model P w) io (.call (.ref fa) ⟨[.ref a],[]⟩) (λr i=>r=.ok (.ret (.bool true))/\OldK sj.heap i.heap/\i.os=sj.os/\gR i.gens) sj:=by
  intro H y hS B T hK;have j:∀{b:Addr}{o:Obj},sj.heap.get? b=some o->o≠PySem.W.tabObj #[]->o≠{ cls:=.type "list",data:=.seq vs.toArray }->H b=none:=λ{b o} e n1 n2=>by
   cases q:H b with
   |none=>rfl
   |some u=>
    rcases T b (by rw[q];simp) with z |z
    ·grind
    ·simp_all
  have l:∀{b:Addr}{m:Str->Option Value},sj.heap.Ns b m->(hidT sj.heap H).Ns b m:=λ{b m} ⟨o,es,U,e,d,r⟩=>⟨o,es,U,a3U e (j e (λz=>by rw[z]at d;cases d) λz=>by rw[z]at d;cases d),d,r⟩;have A:K.In (hidT sj.heap H):=λb o e=>a3U (KX b o e) (by
   cases q:H b with
   |none=>rfl
   |some u=>
    rcases T b (by rw[q];simp) with z |z
    ·grind
    ·subst z;rw[hK0]at e;cases e)
  have hM:Mod K mg (hidT sj.heap H):=⟨A,l hns,⟨mb,l hb,hbb⟩,let ⟨mc,C,f⟩:=hlim;⟨mc,l C,f⟩⟩;have hBb:(hidT sj.heap H).BuiltinsAt mg P0:=by
   obtain⟨S,I,C,f,G,t,h5,R⟩:=hB;have E:=j G (λz=>by rw[z]at t;cases t) λz=>by rw[z]at t;simp at t
   refine⟨S,I,C,f,λz=>?_,λz=>?_,a3U G E,t,h5,R⟩
   ·subst z;obtain⟨o,es,U,e,d,_⟩:=hns;rw[G]at e;cases e;rw[R]at d;cases d
   ·subst z;rw[y.1]at E;cases E
  have e0:Env0 P w K mg (hidT sj.heap H) io [] sj H:=⟨rfl,hM,λb o e=>b2M e,cu (a71 _ _),trivial,λb hb=>absurd (show b∈([]:List Addr) from hb) (by simp),B,.of_eq hg⟩;refine g5 ((F _ A (l hns) hBb).run io [] sj H ⟨[.ref a],[]⟩ [.ref a] [.ref a] _ _ hr e0 (hbind sj (.ref a)) (.cons rfl .nil) (hsp H y hS)) λr i h=>?_;cases r with
  |error e=>exact (hCX H e i h).elim
  |ok fl=>
   cases fl with
   |next=>exact aB h
   |brk=>exact aB h
   |cont=>exact aB h
   |ret u=>
    obtain⟨v,H',os,L,J,n,r',q⟩:=h;have q':=q;subst q';obtain rfl:u=Value.bool true:=r';have D:∃g,i.heap.get? P0=some (PySem.W.tabObj (#[]++g)):=by
     obtain⟨g,e⟩:=J.tbls P0 _ y.1;exact⟨g,n P0 _ e⟩
    have kp:∀b o,b≠P0->sj.heap.get? b=some o->i.heap.get? b=some o:=λb o hb e=>by
     rcases y.2 b hb with z |⟨I,xs,z⟩
     ·exact J.keep b o e z (by intro z;exact absurd (show b∈([]:List Addr) from z) (by simp)) (by simp)
     ·obtain⟨Q,_⟩:=B b _ z;obtain⟨e2,_⟩:=n b _ (J.frzs b I _ z);rw[e]at Q;cases Q;exact e2
    obtain⟨g,X⟩:=D;refine⟨rfl,⟨λb o e=>?_,λb o e=>?_⟩,os,L⟩
    ·by_cases hb:b=P0
     ·subst hb;rw[hT]at e;cases e;exact .inr (.inl ⟨((PySem.W.codeHd_of_K KX hC).tab hT).isCodeTable,rfl,#[],g,rfl,X⟩)
     ·exact .inl (kp b o hb e)
    ·by_cases hb:b=P0
     ·subst hb;exact⟨_,X⟩
     ·exact⟨o,kp b o hb e⟩
 cases hk:K.lookup a with
 |some o=>
  have e:=KX a o hk;rw[ha]at e;cases e;refine p _ ⟨a0d,λb hb=>.inl (a0c hb)⟩ (.inr ⟨_,vs.toArray,_,hk,rfl,rfl,rfl,by rw[aU,M];exact hl,by simpa using N⟩) (λb u z=>?_) (λb z=>?_) λz=>absurd (a0c Y) z
  ·by_cases hb:b=P0
   ·subst hb;rw[a0d]at z;cases z;exact hT
   ·rw[a0c hb]at z;cases z
  ·by_cases hb:b=P0
   ·exact .inr hb
   ·exact absurd (a0c hb) z
 |none=>
  refine p (upd (upd (λ_=>none) a _) P0 (.tbl #[])) ⟨a0d,λb hb=>?_⟩ (.inl (.inr ⟨{ cls:=.type "list",data:=.seq vs.toArray },by rw[a0c Y,a0d]⟩)) (λb u z=>?_) (λb z=>?_) λ_=>hk
  ·by_cases f:b=a
   ·subst f;exact .inr ⟨_,_,by rw[a0c hb,a0d]⟩
   ·exact .inl (by rw[a0c hb,a0c f])
  ·by_cases hb:b=P0
   ·subst hb;rw[a0d]at z;cases z;exact hT
   ·rw[a0c hb]at z
    by_cases f:b=a
    ·subst f;rw[a0d]at z;cases z;exact⟨ha,by rw[aq];exact hl,vs,_,N,ha⟩
    ·rw[a0c f]at z;cases z
  ·by_cases hb:b=P0
   ·exact .inr hb
   ·by_cases f:b=a
    ·exact .inl f
    ·exact absurd (by rw[a0c hb,a0c f]) z
def walk_ofT{l:PySem.W.OpenLaw}{K:Params->Fg}{CX:World->CXT}{sp:World->Sp}
  (hn:l.most=some n) (hn2:n<=fR) (hdf:d.params.defaults=[]) (hr:Room k io)
  (hY:∀(w:World)(h:Heap),YP w h->(K w.params).In h/\h.get? P0=some (PySem.W.tabObj #[])) (hK0:∀w:World,(K w.params).lookup P0=none)
  (F:∀(w:World)(mg:Str->Option Value)(fa:Addr)(h:Heap),(K w.params).In h->h.Ns gg mg->mg d.name=some (.ref fa) ->
   ∃(fd:gz)(c0:Addr),PySem.W.codeHdIn (K w.params) c0 P0=true/\(∀(s:Shared)(u:Value),iw s fd ⟨[u],[]⟩ [(x,u)]) /\
    ∀base:Heap,(K w.params).In base->base.Ns gg mg->base.BuiltinsAt mg P0->FnOk l.prog w (K w.params) mg base (CX w) k fa fd [x] (sp w))
  (hsp:∀(w:World)(H:Hp)(a:Addr)(ns:List Int),ns.length<=n->b1u P0 H->SqL (K w.params) H a (ns.map V.int)->sp w [.ref a] H (λv _=>v=.bl true) λ_ _ _=>False)
  (hCX:∀(w:World)(H:Hp)(s:Shared)(e:Value)(s':Shared),CX w [] H s (λ_ _ _=>False) e s'->False) :
  PySem.W.WalkO q loose XP YP l.row.toRowW d [] (λf vs=>PySem.call f vs):=by
 refine Att.attach_call hn hdf λw s₀ B C R D o Q X L a N r G Y S hd M m j i c p=>?_;obtain⟨KX,I⟩:=hY w _ Y;obtain⟨fd,U,z,y,E⟩:=F w C D _ KX G.T.g m;exact a9H KX G.T.g G.T.b G.T.builtins G.T.nolimit p I (hK0 w) z G.T.bmain j i (aD c hn2) hr E y (λH t A=>hsp w H a r c t A) λH e J=>hCX w H B e J
end L2
namespace SetW
open PySem
theorem hole:∀{l:List (Option Nat)},(l.filterMap id).length<l.length->∃j:Nat,l[j]?=some none
 |none::l,_=>⟨0,rfl⟩
 |some k::l,h=>by
  obtain⟨j,e⟩:=hole (by simpa using h);exact⟨j+1,by simpa using e⟩
theorem a4p:∀{l:List (Option Nat)}{j k:Nat},l[j]?=some none->((l.set j (some k)).filterMap id).Perm (k::l.filterMap id)
 |none::l,0,k,_=>by simp
 |none::l,j+1,k,h=>by simpa using a4p (by simp_all)
 |some a::l,j+1,k,h=>by
  have q:=a4p (k:=k) (by simpa using h);exact (q.cons a).trans (.swap ..)
noncomputable def lp(m:Nat):Nat->Nat×Nat->Nat×Nat
 |0,q=>q
 |n+1,q=>lp m n (fQ.leap m q.1 q.2)
set_option tactic.hygienic true in
theorem a9I:∀(fuel i p:Nat){j:Nat},fQ.layClean.free m ow fuel i p=some j->ow[j]?=some none
 |0,i,p,j,h=>by simp[fQ.layClean.free]at h
 |fuel+1,i,p,j,h=>by
  unfold fQ.layClean.free at h
  split at h
  ·next k e=>
   cases h;have q:=eh e;cases c:ow[i+k]? with
   |none=>simp[c]at q
   |some v=>
    simp[c]at q;rw[q]
  ·exact a9I fuel _ _ h
theorem a9J:∀(fuel i p n:Nat),fQ.layClean.free m ow fuel i p=none->n<fuel->ow[(lp m n (i,p)).1]?≠some none
 |fuel+1,i,p,n,h,hn=>by
  unfold fQ.layClean.free at h
  split at h
  ·cases h
  ·next e=>
   cases n with
   |succ n=>exact a9J fuel _ _ n h (by omega)
   |zero=>
    have q:=cX.mp e 0 (bR.mpr (by unfold fQ.runEnd;split<;>omega))
    intro z;have z:ow[i]?=some none:=z;simp[z]at q
theorem b2z(m:Nat):∀(a b:Nat)(q:Nat×Nat),lp m (a+b) q=lp m b (lp m a q)
 |0,b,q=>by rw[cm];rfl
 |a+1,b,q=>by rw[ft];exact b2z m a b _
theorem b2A(m:Nat):∀(n i p:Nat),(lp m n (i,p)).2=p / 32 ^ n
 |0,i,p=>by simp[lp]
 |n+1,i,p=>by
  show (lp m n (fQ.leap m i p)).2=_
  unfold fQ.leap;rw[b2A,Nat.div_div_eq_div_mul,Nat.pow_succ,Nat.mul_comm 32]
theorem b7h(m:Nat):∀(n i p:Nat),i<=m->(lp m n (i,p)).1<=m
 |0,i,p,h=>h
 |n+1,i,p,h=>b7h m n _ _ (fA (dC _ (Nat.succ_pos m)))
noncomputable def rnd(m:Nat):Bool:=(aO (m+1)).all λi=>(aO (m+1)).all λj=>(aO (m+1)).any λn=>(lp m n (i,0)).1==j
def rnd7:rnd 7=true:=by decide +kernel
def b7i(h:rnd m=true)(hi:i<=m)(hj:j<=m):∃n,n<=m/\(lp m n (i,0)).1=j:=by
 have q:=bA.mp (bA.mp h i (bR.mpr (by omega))) j (bR.mpr (by omega));obtain⟨n,a,e⟩:=b9.mp q;exact⟨n,by have:=bR.mp a;omega,by simpa using e⟩
def b4o(h:Int):fQ.bits h<2 ^ 64:=by unfold fQ.bits;omega
def a9K(hr:rnd m=true)(hs:ow.size=m+1){j:Nat}(hj:ow[j]?=some none)(hi:i<=m)(hp:p<2 ^ 64):∃j,fQ.layClean.free m ow (fQ.turns m) i p=some j/\ow[j]?=some none:=by
 cases e:fQ.layClean.free m ow _ i p with
 |some j=>exact⟨j,rfl,a9I _ _ _ e⟩
 |none=>
  exfalso;have a:j<=m:=by grind
  have z:(lp m 13 (i,p)).2=0:=by rw[b2A];exact Nat.div_eq_of_lt (by omega)
  obtain⟨n,c,q⟩:=b7i hr (b7h m 13 i p hi) a;have b:(lp m (13+n) (i,p)).1=j:=by rw[b2z,show lp m 13 (i,p)=((lp m 13 (i,p)).1,0) from by rw[<- z]];exact q
  exact a9J _ i p (13+n) e (by unfold fQ.turns;omega) (by grind)
structure Own (m k:Nat) (ow:Array (Option Nat)):Prop where
 sz:ow.size=m+1
 pm:(ow.toList.filterMap id).Perm (aO k)
theorem b2B(hr:rnd m=true):∀(hs:List Int)(ow:Array (Option Nat))(k:Nat),Own m k ow->k+hs.length<=m+1 ->
  ∃ow',hs.foldl (λacc h=>do
   let (owner,k) <- acc
   let j <- fQ.layClean.free m owner (fQ.turns m) (fQ.bits h % (m+1)) (fQ.bits h)
   pure (owner.setIfInBounds j (some k),k+1)) (some (ow,k))=some (ow',k+hs.length)/\Own m (k+hs.length) ow'
 |[],ow,k,h,_=>⟨ow,rfl,h⟩
 |x::hs,ow,k,h,hl=>by
  obtain⟨g,a⟩:=hole (by rw[h.pm.length_eq,cW,aQ,h.sz];simp at hl;omega);obtain⟨j,e,d⟩:=a9K hr h.sz (by simpa using a) (i:=fQ.bits x % _) (fA (dC _ (Nat.succ_pos m))) (b4o x);obtain⟨b,f,c⟩:=b2B hr hs (ow.setIfInBounds j (some k)) _ ⟨by rw[fq];exact h.sz,by
   rw[eZ];refine (a4p (by simp_all)).trans ?_;rw[List.range_succ];exact (h.pm.cons k).trans (dQ (l₁:=[k]))⟩ (by simp at hl;omega)
  refine⟨b,?_,by rw[aI,er hs.length,<- cI];exact c⟩;rw[eT,aI,er hs.length,<- cI,<- f];simp[e]
def b1v(l:List (Option Nat)):((aO l.length).filterMap λj=>(l[j]?.getD none).map (j,·)).map (·.2)=l.filterMap id:=by
 rw[fB]
 induction l with
 |nil=>rfl
 |cons x l ih=>
  rw[aI,List.range_succ_eq_map,bE,dJ,bE];cases x<;>simp at ih ⊢<;>exact ih
def laid_ok(hr:rnd m=true)(hl:hs.size<=m) :
  ∃t od,fQ.laid m f mv led pl hs=some (t,od)/\od.toList.Perm (aO hs.size)/\t.fits hs.size=true/\TOk led t:=by
 obtain⟨c,e,o⟩:=b2B hr hs.toList (Array.replicate (m+1) none) 0 ⟨by simp,by
  rw[Array.toList_replicate,List.range_zero];generalize m+1=n
  induction n with
  |zero=>exact .nil
  |succ n ih=>rw[List.replicate_succ];exact ih⟩ (by grind)
 rw[cm,aQ]at o;have l:fQ.layClean m hs=some c:=by
  unfold fQ.layClean;rw[<- Array.foldl_toList,e]
  rfl
 have g:=b1v c.toList;rw[aQ,o.sz]at g;have d:((aO (m+1)).filterMap λj=>(c.getD j none).map (j,·)).map (·.2)=c.toList.filterMap id:=by simp_all
 have p:((aO (m+1)).filterMap λj=>(c.getD j none).map (j,·)).length=hs.size:=by
  rw[<- aq,d,o.pm.length_eq,cW]
 refine⟨_,_,by unfold fQ.laid;rw[l];rfl,?_,?_,?_,rfl,rfl⟩
 ·rw[List.toList_toArray,d];exact o.pm
 ·unfold fQ.fits fQ.fill;simp only[aU,aq,p];simpa using hl
 ·unfold Up;rw[fB]
  have:(aO (m+1)).Pairwise _:=d7
  refine List.pairwise_filterMap.mpr (this.imp λ{a b} h x k y i=>?_);simp at k i;obtain⟨_,_,rfl⟩:=k;obtain⟨_,_,rfl⟩:=i;exact h
end SetW
namespace SetW
open PySem PyProof.Rows
def b1w(h:n<=16):fQ.sizeAbove n<=32/\rnd (fQ.sizeAbove n-1)=true/\7<=fQ.sizeAbove n-1:=by
 have q:(aO 17).all (λn=>decide (fQ.sizeAbove n<=32)&&rnd (fQ.sizeAbove n-1)&&decide (7<=fQ.sizeAbove n-1))=true:=by decide +kernel
 have:=bA.mp q n (bR.mpr (by omega))
 simp only[bn,decide_eq_true_eq]at this;exact⟨this.1.1,this.1.2,this.2⟩
section
variable{prog:fV}{w:World}{A:Around}{E:Value->Shared->Prop}{s:Shared}{a b:Addr}{es eo:Array (Int×Value)}{ep epo:Nat}{t to:fQ}{K:Type}[DecidableEq K]{kd:KeyKind prog w K}{ms mo:List K}{k:K}{v:Value}
def b4p{od:Array Nat}(h:od.toList.Perm (aO es.size)):(od.filterMap (es[·]?)).toList.Perm es.toList:=by
 rw[Array.toList_filterMap];refine (h.filterMap _).trans (.of_eq ?_);exact filterMap_getElem?_range es
def a6T{od:Array Nat}(hp:od.toList.Perm (aO es.size))(h:Q (od.filterMap (es[·]?),t) s) :
  wpAny (model prog w) A (do
   let some (t,order):=some (t,od) |hV "internal:set-table-without-room"
   let es':=order.filterMap (es[·]?)
   if es'.size != es.size then hV "internal:set-table-lost-an-element"
   pure (es',t)) Q E s:=by
 have q:((od.filterMap (es[·]?)).size != es.size)=false:=by
  rw[<- aQ,(b4p hp).length_eq,aQ];simp
 dsimp only;rw[q];exact fP h
def a9L(S:SO kd s.heap a es ep t ms)(hw:wanted<=16)(hn:ms.length<=7)
  (h:∀h' es' ep' t' ms',Heap.SameBut a s.heap h'->SO kd h' a es' ep' t' ms'->ms'.Perm ms->rnd t'.mask=true->7<=t'.mask->Q () { s with heap:=h' }) :
  wpAny (model prog w) A (setRelay a wanted) Q E s:=by
 obtain⟨⟨o,j,H,i⟩,u,d,I,k,x⟩:=id S;obtain⟨J,y,B⟩:=b1w hw;have z:=S.len;refine fO (gG j i k ?_);dsimp only;rw[if_neg (by rw[f8];omega)];obtain⟨p,v,e,g,l,m⟩:=laid_ok (hs:=es.map _) y (by grind);rw[dA]at g l;have G:t.relaid _ wanted=some _:=e;have n:p.mask=fQ.sizeAbove wanted-1:=by
  unfold fQ.laid at e;cases c:fQ.layClean _ _ with
  |none=>rw[c]at e;cases e
  |some q=>rw[c]at e;cases e;rfl
 rw[G];refine fO (a6T g ?_);have b:=b4p g;have F:(v.filterMap (es[·]?)).size=es.size:=by rw[<- aQ,b.length_eq,aQ]
 obtain⟨r,C,D⟩:=a0K d (b.map _);dsimp only;refine i7 j i ?_ (i8 (by omega));rw[x.ld]at m;obtain⟨_,S1⟩:=SO.stored j H i (u.perm b) C (by omega) (by grind) m;exact h _ _ _ _ r (Heap.SameBut.update ..) S1 D (by grind) (by grind)
def b1x(S:SO kd s.heap a es ep t ms)(hn:ms.length<=4)(hm:more<=4)
  (h:∀h' es' ep' t' ms',Heap.SameBut a s.heap h'->SO kd h' a es' ep' t' ms'->ms'.Perm ms->(rnd t'.mask=true/\7<=t'.mask\/t'=t)->Q () { s with heap:=h' }) :
  wpAny (model prog w) A (setRoomFor a more) Q E s:=by
 obtain⟨⟨o,m,z,n⟩,x,j,y,b,v⟩:=id S;have r:=S.len;refine fO (gG m n b ?_);dsimp only;unfold fQ.roomFor
 split
 ·next wanted e=>
  split at e
  ·cases e
   have:t.place.size=es.size:=by simp only[fQ.fits,bn,beq_iff_eq]at b;exact b.1
   exact a9L S (by omega) (by omega) λg d c k f p i q u l=>h g d c k f p i q (.inl ⟨u,l⟩)
  ·cases e
 ·exact fP (h s.heap es ep t ms (Heap.SameBut.refl ..) S (.refl _) (.inr rfl))
def b1y(S:SO kd s.heap b eo epo to mo)(h:∀l d',l.toList.Perm eo.toList->Q l { s with drawn:=d' }):wpAny (model prog w) A (setWalk b) Q E s:=by
 obtain⟨⟨o,g,m,i⟩,j,e,k,a,d⟩:=id S;refine fO (gG g i a ?_);refine gO (λ_=>?_) λc=>?_
 ·refine fO (i9 (fP ?_));exact h _ s.drawn (a26 _ _)
 ·have c:byT w=false:=by simpa using (show ¬ byT w=true from c)
  refine gO (λ_=>?_) λ_=>?_
  ·refine fO (a4j _ _ _ _ (by simp) λn f p=>fP (h _ f ?_));simpa using p
  ·have q:(!to.led&&decide (eo.size > 1))=false:=by rw[d.ld,c];rfl
   refine fO (?_:wpAny _ _ (if (!to.led&&decide (eo.size > 1))=true then hV "set:maker-not-led" else pure ()) _ _ _);rw[q];exact fP (fP (h _ s.drawn (.refl _)))
def a6U(hel:jq kd es.toList){Q:Option Bool×Unit->Shared->Prop}(hf:∀e r,e.2.scannable=true->f e r=pure (.yield (none,())))(h:Q (none,()) s):wpAny (model prog w) A (forIn es (none,()) f) Q E s:=by
 rw[<- dD];generalize es.toList=l at hel
 induction l with
 |nil=>exact fP h
 |cons e l ih=>
  rw[cz,hf e _ hel.head.2,pure_bind];exact ih hel.tail
def a7N(So:SO kd s.heap b eo epo to mo)(S:SO kd s.heap a es ep t ms)(h:Q true s):wpAny (model prog w) A (setsQuiet [b,a]) Q E s:=by
 obtain⟨⟨o,u,D,m⟩,j,l,B,d,z⟩:=So;obtain⟨⟨C,g,v,i⟩,f,k,n,c,p⟩:=S;unfold setsQuiet;rw[cz];refine fO (fO (fO (ir u m d (fO (a6U j (λe r q=>?_) (fP ?_))))))
 ·obtain⟨x,y⟩:=e;cases y<;>first |rfl |cases q
 dsimp only;rw[cz];refine fO (fO (ir g i c (fO (a6U f (λe r q=>?_) (fP ?_)))))
 ·obtain⟨x,y⟩:=e;cases y<;>first |rfl |cases q
 exact fP (fP h)
def a52(So:SO kd s.heap b eo epo to mo)(S:SO kd s.heap a es ep t ms)
  (h:∀l h' ep' t' d',l.toList.Perm eo.toList->Heap.SameBut a s.heap h'->SO kd h' a es ep' t' ms->Q l { s with heap:=h',drawn:=d' }):wpAny (model prog w) A (setWalkUnseen b [a] (some a)) Q E s:=by
 obtain⟨⟨o,u,B,v⟩,z,r,y,k,m⟩:=id So;have q:wpAny _ A _ Q E s:=b1y So λl x p=>h l s.heap ep t x p (Heap.SameBut.refl ..) S;refine fO (gG u v k ?_);refine gO (λ_=>q) λ_=>?_;refine fO (a7N So S ?_);refine gO (λ_=>q) λ_=>?_;refine fO (gQ ?_);obtain⟨⟨C,e,n,g⟩,j,i,f,d,c⟩:=id S;refine fO (gG e g d ?_);refine gO (λ_=>?_) λ_=>fP (h eo s.heap ep t s.drawn (.refl _) (Heap.SameBut.refl ..) S);refine fO (i7 e g ?_ (i8 f));obtain⟨_,S1⟩:=SO.stored (t':={ t with led:=t.led&&to.led,plain:=t.plain&&to.plain }) e n g j i f (by cases t;exact d) ⟨c.up,c.dm,by show _=_;rw[c.ld,m.ld,dN]⟩;exact fP (h eo _ _ _ s.drawn (.refl _) (Heap.SameBut.update ..) S1)
end
section
variable{prog:fV}{w:World}{A:Around}{E:Value->Shared->Prop}{s:Shared}{a b:Addr}{es eo:Array (Int×Value)}{ep epo:Nat}{t to:fQ}{K:Type}[DecidableEq K]{kd:KeyKind prog w K}{ms mo:List K}{k:K}{v:Value}
theorem a6V(hab:b≠a)(he:∀{s':Shared}{Q:Unit->Shared->Prop},SO kd s'.heap b eo epo to mo->Q () s'->wpAny (model prog w) A each Q E s')
 (hf:∀h x r,f (h,x) r=(do
      let _ <- gr [x] (jr a x h)
      each
      let q <- setState b
      if (q.2.1 != epo)=true then do
        hV "set.changed-during-merge"
        pure (ForInStep.yield PUnit.unit)
      else pure (ForInStep.yield PUnit.unit))) :
    ∀(l:List (Int×Value))(ks:List K)(s:Shared)(ms:List K)(Q:PUnit->Shared->Prop),jq kd l->KsAre kd (l.map (·.2)) ks->SI kd s.heap a ms->ms.Nodup->ms.length+l.length+1<gK->SO kd s.heap b eo epo to mo ->
      (∀h' ms',Heap.SameBut a s.heap h'->SI kd h' a ms'->ms'.Nodup->(∀x,x∈ms'↔x∈ms\/x∈ks)->ms'.length<=ms.length+l.length->Q ⟨⟩ { s with heap:=h' }) ->
      wpAny (model prog w) A (forIn l PUnit.unit f) Q E s
  |[],_,s,ms,Q,_,.nil,S,nd,_,_,h=>fP (h s.heap ms (Heap.SameBut.refl ..) S nd (λx=>by simp) (av _))
  | (z,v)::l,_,s,ms,Q,hel,.cons (k:=k) (ks:=ks) hk ht,S,nd,hb,So,h=>by
    obtain⟨⟨W,n,i⟩,m⟩:=hel.head
    have:=kd.inj _ _ _ hk n
    subst this;subst i;rw[cz,hf];obtain⟨Y,ep,t,S'⟩:=S;refine fO (fO (gh (a5X hk m S' (by simp at hb;omega) λR g V u C p=>?_)));have d:=So.at λo e=>u.extBut b o hab e;obtain⟨o,T,B,D⟩:=d.at_;refine fO (he d (fO (gG T D d.fit ?_)));rw[if_neg (by simp)];refine fP ?_;have G:g.Nodup:=by
      refine p.nodup_iff.mpr ?_
      split
      · exact nd
      · next c=>exact b5.mpr ⟨nd,by simp,λx B y H=>by rw[ay.mp H];rintro rfl;exact c B⟩
    have U:g.length<=ms.length+1:=by rw[p.length_eq];split<;>simp
    have J:∀x,x∈g↔x∈ms\/x=k:=λx=>by
      rw[p.mem_iff]
      split
      · simp_all
      · simp
    exact a6V hab he hf l ks _ g Q hel.tail ht C G (by simp at hb;omega) d λN M j I L F X=>h N M (u.trans j) I L (λx=>by rw[F,J,ax,or_assoc]) (by simp;omega)
def a5d(hab:a≠b)(he:∀{s':Shared}{Q:Unit->Shared->Prop},SO kd s'.heap b eo epo to mo->Q () s'->wpAny (model prog w) A each Q E s')
  (S:SO kd s.heap a es ep t ms) (So:SO kd s.heap b eo epo to mo) (hn:ms.length<=4) (hm:mo.length<=4) (nd:ms.Nodup) (ndo:mo.Nodup) (hz:ms=[]->t.mask=7)
  (h:∀h' es' ep' t' ms' d',Heap.SameBut a s.heap h'->SO kd h' a es' ep' t' ms'->(ms'=[]->t'.mask=7)->ms'.Nodup->(∀x,x∈ms'↔x∈ms\/x∈mo)->ms'.length<=ms.length+mo.length->Q () { s with heap:=h',drawn:=d' }) :
  wpAny (model prog w) A (j5 a b each) Q E s:=by
 obtain⟨⟨o,ho,hx,hd⟩,G,v,hsc,B,u⟩:=id So;have M:=So.len;unfold j5;rw[if_neg (by simpa using hab)];refine fO (gG ho hd B ?_);dsimp only;refine gO (λc=>?_) λc=>?_
 ·have:mo=[]:=by
   rw[fC,M]at c;exact b8.mp c
  subst this;exact fP (h s.heap es ep t ms s.drawn (Heap.SameBut.refl ..) S hz nd (λx=>by simp) (fw ..))
 have H:mo≠[]:=λz=>c (by rw[fC,M,z];rfl);refine fO (b1x S hn (by omega) λT es1 ep1 i C L U p r=>?_);have F:=So.at λo e=>L.extBut b o (Ne.symm hab) e;obtain⟨⟨o1,y,hx1,D⟩,hel1,hnum1,hsc1,g,n⟩:=id U;refine fO (gG y D g ?_);dsimp only;have fl:i.fill=C.length:=by
  simp only[fQ.fits,bn,beq_iff_eq]at g;rw[fQ.fill,n.dm,g.1,U.len (s:={ s with heap:=T })];rfl
 have J:∀(k:Array (Int×Value))(m:fQ),C=[]->k.toList.Perm eo.toList->m.fits eo.size=true->TOk (!byT w) m->wpAny (model prog w) A (js a k m) Q E { s with heap:=T }:=λk m z j f1 k1=>by
  have sz:k.size=eo.size:=by rw[<- aQ,j.length_eq,aQ]
  obtain⟨m2,i2,d⟩:=a0K v (j.map (·.2));refine i7 y D ?_ (i8 (by omega));obtain⟨_,N⟩:=SO.stored y hx1 D (G.perm j) i2 (by omega) (by rw[sz];exact f1) k1;have mz:ms=[]:=by rw[z]at p;exact p.symm.eq_nil
  exact h _ _ _ _ m2 s.drawn (L.trans (Heap.SameBut.update ..)) N (λq=>absurd (by rw[q]at d;exact d.symm.eq_nil) H) (d.nodup_iff.mpr ndo) (λx=>by rw[d.mem_iff,mz];simp) (by rw[d.length_eq];omega)
 unfold fQ.road
 by_cases z:C=[]
 ·rw[if_neg (by rw[fl,z];simp)];have X:(i.led&&to.led)=!byT w:=by rw[n.ld,u.ld,dN]
  have mr:=r.elim id λe=>by
   rw[e,hz (by rw[z]at p;exact p.symm.eq_nil)];exact⟨rnd7,av _⟩
  by_cases c2:(i.mask==to.mask&&to.dummies.isEmpty)=true
  ·rw[if_pos c2];exact J eo _ z (.refl _) (by cases to;exact B) ⟨u.up,u.dm,X⟩
  ·rw[if_neg c2];obtain⟨m,od,e,j,d,V⟩:=laid_ok (hs:=eo.map (·.1)) mr.1 (by rw[dA];omega);rw[dA]at j d;dsimp only;rw[e];refine fO (a6T j ?_);exact J _ m z (b4p j) d (X▸V)
 ·rw[if_pos (by rw[fl];simpa using z)];dsimp only;have aa:C.Nodup:=p.nodup_iff.mpr nd;have pl:=p.length_eq;have sb4:4096=scanBound:=rfl;refine fO (a52 F U λl h2 ep2 t2 d2 d I N=>?_);have ab:=F.at λo e=>I.extBut b o (Ne.symm hab) e;obtain⟨ks,i3,V⟩:=a0K v (d.map (·.2));have ll:l.toList.length=mo.length:=by rw[d.length_eq,aQ,M]
  rw[<- dD];refine fO (a6V (Ne.symm hab) he (λ_ _ _=>rfl) l.toList ks _ C _ (G.perm d) i3 ⟨_,_,_,N⟩ aa (by omega) ab λh3 m3 Y R n3 e3 l3=>?_);obtain⟨W,ep3,t3,R⟩:=R;have mm:∀x,x∈m3↔x∈ms\/x∈mo:=λx=>by rw[e3,p.mem_iff,V.mem_iff]
  refine fP (h h3 W ep3 t3 m3 d2 (L.trans (I.trans Y)) R (λq=>?_) n3 mm (by omega));obtain⟨x,hx⟩:=List.exists_mem_of_ne_nil mo H
  have:=(mm x).mpr (.inr hx)
  rw[q]at this;cases this
def SO.fresh(g:h.get? a=some (a0o w)):SO kd h a #[] 0 (.fresh 0 0 (!byT w)) []:=⟨⟨_,g,⟨rfl,rfl,rfl⟩,rfl⟩,λe b=>by simp at b,.nil,by decide,rfl,⟨.nil,rfl,rfl⟩⟩
def b1z(So:SO kd s.heap b eo epo to mo)(hm:mo.length<=4)(ndo:mo.Nodup)
  (h:∀h' es' ep' t' ms' d',(∀c o,s.heap.get? c=some o->h'.get? c=some o)->SO kd h' s.heap.objs.size es' ep' t' ms'->(ms'=[]->t'.mask=7)->ms'.Nodup->(∀x,x∈ms'↔x∈mo)->ms'.length<=mo.length->Q (.ref s.heap.objs.size) { s with heap:=h',drawn:=d' }) :
  wpAny (model prog w) A (fX.Frozenset.copyOf b) Q E s:=by
 unfold fX.Frozenset.copyOf fX.Frozenset.baseOf newSet;refine fO (fO (iG (b:=true) So.ty (by rw[ja];kernel_rfl) (fP ?_)));refine fO (fO (fO (i9 (fP ?_))));refine fO (jK (fP ?_));obtain⟨o,p,_⟩:=So.at_;have v:=Heap.lt_size p;have n:(s.heap.push _).get? s.heap.objs.size=some (a0o w):=Heap.get?_push_size _ rfl;have g:SO kd (s.heap.push (a0o w)) b eo epo to mo:=So.at λo e=>Heap.get?_push_of_some _ e
 show wpAny _ _ (j5 s.heap.objs.size b _ >>= _) _ _ _
 refine fO (a5d (bH v) (λ_ q=>fP q) (SO.fresh n) g (by simp) hm .nil ndo (λ_=>rfl) λu a d j f t r k z m i l=>fP ?_);exact h u a d j f t (λc o e=>r.extBut c o (aE (Heap.lt_size e)) (Heap.get?_push_of_some _ e)) k z m (λx=>by rw[i];simp) (by simp_all)
def a53(So:SO kd s.heap b eo epo to mo)(h:Q true s):wpAny (model prog w) A (fX.Frozenset.isAnySet (.ref b)) Q E s:=by
 refine fO (iG (b:=true) So.ty (by rw[ja];kernel_rfl) ?_);exact fP h
def b1A:jc table "set.__or__"=some fX.«frozenset.__or__»:=jR (id':="frozenset.__or__") (by kernel_rfl) rfl (by decide +kernel) (by kernel_rfl)
def or_set(hab:a≠b)(S:SO kd s.heap a es ep t ms)(So:SO kd s.heap b eo epo to mo)(hn:ms.length<=4)(hm:mo.length<=4)(nd:ms.Nodup)(ndo:mo.Nodup)
  (h:∀h' ms' d',(∀c o,s.heap.get? c=some o->h'.get? c=some o)->SI kd h' s.heap.objs.size ms'->ms'.Nodup->(∀x,x∈ms'↔x∈ms\/x∈mo)->ms'.length<=ms.length+mo.length->Q (.ref s.heap.objs.size) { s with heap:=h',drawn:=d' }) :
  wpAny (model prog w) A (gb .BitOr (.ref a) (.ref b)) Q E s:=by
 refine wpAny_binaryOp_same S.ty So.ty PySem.F.fills_set_or PySem.F.slot_set_or (gE PySem.F.slot_set_or S.ty b1A ?_ (PySem.F.args_set_or_2 _ _));refine fO (fP ?_);dsimp only;refine fO (fO (a53 S ?_));refine a53 So ?_
 show wpAny _ _ (fX.Frozenset.copyOf a >>= _ >>= _) _ _ _
 obtain⟨oa,p,_⟩:=S.at_;obtain⟨ob,f,N,i⟩:=So.at_;have n:=Heap.lt_size f;refine fO (fO (b1z S hn nd λG R U t1 m1 d1 g z C J u l1=>?_));have d:=So.at λo e=>g b o e;rw[if_pos (by simpa using Ne.symm hab)]
 show wpAny _ _ (gr [Value.ref s.heap.objs.size] _ >>= _) _ _ _
 refine fO (gh ?_);refine fO (a53 d ?_);rw[if_pos rfl]
 show wpAny _ _ (fX.Frozenset.merge _ s.heap.objs.size b) _ _ _
 refine fO (jx (g b _ f) i So.fit ?_);refine a5d (bH n) (λ{s' Q'} l q=>?_) z d (by omega) hm J ndo C λI T M t2 H y D r W v B Y=>fP (fP ⟨_,rfl,nofun,?_⟩)
 ·unfold fX.Frozenset.unchanged;obtain⟨V,k,L,j⟩:=l.at_;refine fO (jx k j l.fit ?_);rw[if_neg (by simp)];exact fP q
 ·exact h I H y (λc o e=>D.extBut c o (aE (Heap.lt_size e)) (g c o e)) ⟨_,_,_,r⟩ v (λx=>by rw[B,u]) (by omega)
end
section
variable{prog:fV}{w:World}{A:Around}{E:Value->Shared->Prop}{s:Shared}{a d:Addr}{K:Type}[DecidableEq K]{kd:KeyKind prog w K}{es0:Array jj}{epd:Nat}{od:Obj}{ks:List K}{k0:K}
theorem a9M(hda:d≠a)(dd:od.data=.dict es0 epd)(hl:es0.size=ks.length)(hb:ks.length+1<gK)
    (he:∀(i:Nat) e,es0[i]?=some e->∃k,ks[i]?=some k/\kd.is k e.key=true/\e.hash=kd.hash k/\e.key.scannable=true)
 (hf:∀i r,f i r=(do
      let es <- dictEntries d
      match es[i]? with
      |some e=>do
        let _ <- gr [e.key] (jr a e.key e.hash)
        let q <- dictEpoch d
        if (q != epd)=true then do
          hV m
          pure (ForInStep.yield PUnit.unit)
        else pure (ForInStep.yield PUnit.unit)
      |none=>do
        hV m2
        pure (ForInStep.yield PUnit.unit))) :
    ∀(n i:Nat)(s:Shared)(ms:List K)(Q:PUnit->Shared->Prop),i+n=ks.length->s.heap.get? d=some od->SI kd s.heap a ms->Met (λi=>ks.getD i k0) i ms ->
      (∀h' ms',Heap.SameBut a s.heap h'->SI kd h' a ms'->Met (λi=>ks.getD i k0) ks.length ms'->Q ⟨⟩ { s with heap:=h' })->wpAny (model prog w) A (forIn (List.range' i n) PUnit.unit f) Q E s
  |0,i,s,ms,Q,hi,_,S,M,h=>by
    have:=hi
    subst this;exact fP (h s.heap ms (Heap.SameBut.refl ..) S M)
  |n+1,i,s,ms,Q,hi,g,S,M,h=>by
    have b:i<es0.size:=by omega
    obtain⟨k,x,G,o,D⟩:=he i _ (bh b);rw[fz,cz,hf];refine fO (fO (iI g dd ?_));rw[bh b];obtain⟨J,L,t,S'⟩:=S;refine fO (gh ?_);rw[o];refine a5X G D S' (by have:=M.2.1;omega) λH F I l v p=>?_;have j:=l.extBut d od hda g;refine fO (j3 j dd ?_);rw[if_neg (by simp)];have y:ks.getD i k0=k:=by rw[bX,x];rfl
    exact fP (a9M hda dd hl hb he hf n _ _ F Q (by omega) j v (M.step (by rw[y];exact p)) λC B c z u=>h C B (l.trans c) z u)
set_option maxHeartbeats 3200000 in
def a54{T:Shared->Prop}
  (hi:wpAny (model prog w) A.in1.in1 (fX.«set.__init__» ⟨[.ref s.heap.objs.size,u],[]⟩) (λfin s2=>fin=.done (.ret .none)/\T s2) E { s with heap:=s.heap.push (a0o w) }) (h:∀s2,T s2->Q (.ref s.heap.objs.size) s2) :
  wpAny (model prog w) A (call (.type "set") [u]) Q E s:=by
 obtain⟨mc,mt,mro⟩:=PySem.F.called_set.mro;have md:=PySem.F.called_set.made;have sb:=PySem.F.called_set.sub;refine iQ (jP ?_)
 show wpAny _ _ (callAny (.type "set") _) _ _ _
 refine fP ⟨Code.quiet_builtin _ (by decide +kernel),hZ PySem.F.entry_type_call ?_⟩;rw[Around.under_plain (weight_type_call_type "set" [u] []) rfl];have nt:=PySem.F.called_set.notType;have cc:=PySem.F.called_set.canCreate;have tc:=PySem.F.typeCall_set_1 u
 repeat (any_goals (first |assumption |wp_step))
 refine g5 (a9d (w:=w) u (E:=E) (Q:=λobj s1=>obj=.ref s.heap.objs.size/\s1={ s with heap:=s.heap.push (a0o w) }) ⟨rfl,rfl⟩) λr s1 hr=>?_;cases r with
 |error e=>exact hr
 |ok fl=>
  cases fl with
  |ret obj=>
   obtain⟨rfl,rfl⟩:=hr;have gS:(s.heap.push (a0o w)).get? s.heap.objs.size=some (a0o w):=Heap.get?_push_size _ rfl;have tS:Shared.TypeIs { s with heap:=s.heap.push (a0o w) } (.ref s.heap.objs.size) "set":=⟨_,gS,rfl⟩;have li:=PySem.F.called_set.init.lookup;have bi:=PySem.F.called_set.init.bind (.ref s.heap.objs.size)
   repeat (any_goals (first |assumption |wp_step))
   refine g5 (codeAny_call_builtin (R:=wants (λr s2=>r=.none/\T s2) E) PySem.F.called_set.init.plain PySem.F.entry_set_init (check_set_init_1 tS (f9 hi (λfin s2 q=>?_) λ_ _ q=>q))) λr2 s2 hr2=>?_
   ·obtain⟨rfl,q⟩:=q;exact⟨rfl,q⟩
   ·cases r2 with
    |error e=>exact hr2
    |ok f2=>
     cases f2 with
     |ret r=>
      obtain⟨rfl,q⟩:=hr2
      repeat (any_goals (first |assumption |wp_step))
      exact h _ q
     |_=>exact hr2.elim
  |_=>exact hr.elim
def call_setD(g:s.heap.get? d=some od)(hx:od.ExactDict)(dd:od.data=.dict es0 epd)(hsm:d≠gm)(hl:es0.size=ks.length)(hb:ks.length<=4)
  (he:∀(i:Nat) e,es0[i]?=some e->∃k,ks[i]?=some k/\kd.is k e.key=true/\e.hash=kd.hash k/\e.key.scannable=true)
  (h:∀(h':Heap)(ms:List K),SI kd h' s.heap.objs.size ms->Met (λi=>ks.getD i k0) ks.length ms->(∀b o,s.heap.get? b=some o->h'.get? b=some o)->Q (.ref s.heap.objs.size) { s with heap:=h' }) :
  wpAny (model prog w) A (call (.type "set") [.ref d]) Q E s:=by
 have gS:(s.heap.push (a0o w)).get? s.heap.objs.size=some (a0o w):=Heap.get?_push_size _ rfl;have g':(s.heap.push (a0o w)).get? d=some od:=Heap.get?_push_of_some _ g;have ld:=Heap.lt_size g;refine a54 (T:=λs2=>∃h' ms,s2={ s with heap:=h' }/\SI kd h' s.heap.objs.size ms/\Met (λi=>ks.getD i k0) ks.length ms/\∀b o,s.heap.get? b=some o->h'.get? b=some o) ?_ λs2 q=>by
  obtain⟨h',ms,rfl,S,M,k⟩:=q;exact h h' ms S M k
 obtain⟨oc,ox,ob,osl⟩:=od;obtain⟨x1,x2,x3⟩:=hx;simp only at dd x1 x2 x3;subst dd x1;have s1:=PySem.F.sub_dict_set;have s2:=PySem.F.sub_dict_frozenset;have ne:(Value.type "dict"==Value.type "dict")=true:=by decide
 have nm:(d==gm)=false:=by simpa using hsm
 unfold fX.«set.__init__» noKeywords fX.Frozenset.updateFrom
 wp_walk
 have rf:(fQ.fresh 0 0 (!byT w)).roomFor es0.size=none:=by
  unfold fQ.roomFor;exact if_neg (by simp[fQ.fresh,fQ.fill];omega)
 dsimp only;rw[rf];refine fP (fO (iI g' rfl ?_));have sb4:4096=scanBound:=rfl;rw[Std.Legacy.Range.forIn_eq_forIn_range'];refine fO ?_;refine a9M (kd:=kd) (ks:=ks) (k0:=k0) (a:=s.heap.objs.size) (d:=d) (epd:=epd) (m:=toString "set.__init__"++toString ":changed-during-callback") (m2:="internal:set-from-dict") (aE ld) rfl hl (by omega) he ?_ _ 0 _ [] _ ?_ g' (SI.fresh gS) ⟨.nil,av _,λx=>by simp⟩ λh' ms sb S M=>?_
 ·intro i r;refine congrArg _ (funext λes=>?_);cases es[i]?<;>rfl
 ·simp[Std.Legacy.Range.size,hl]
 ·refine fP (fP ⟨rfl,h',ms,rfl,S,M,λb o e=>?_⟩);exact sb.extBut b o (aE (Heap.lt_size e)) (Heap.get?_push_of_some _ e)
end
end SetW
namespace L2
open PySem PySem.Spec PyProof.Rows
section
variable{X:Cx}
theorem b7j:∀{es:List jj}{vs:List (Key×Value)}{ns:List Str},Pairs (a0j P w) es vs->(∀e∈es,∃k,(a0j P w).is k e.key=true/\e.hash=(a0j P w).hash k)->vs.map (·.1)=ns.map .inr ->
  ∀(i:Nat) e,es[i]?=some e->∃k,ns[i]?=some k/\(PySem.strKind P w).is k e.key=true/\e.hash=(PySem.strKind P w).hash k/\e.key.scannable=true
 |_,_,ns,.nil,_,_,i,e,h=>by simp at h
 |_,_,[],.cons ..,_,a,i,e,h=>by cases a
 |e0::es,kv::vs,n::ns,.cons h1 h2 h3,hk,a,i,e,h=>by
  cases i with
  |succ i=>exact b7j h3 (λe c=>hk e (.tail _ c)) (by simpa using (bN.inj a).2) i e (by simpa using h)
  |zero=>
   cases h;have a:kv.1=.inr n:=(bN.inj a).1;rw[a]at h1;obtain⟨k,b,d⟩:=hk e0 (.head _)
   have:=(a0j P w).inj _ _ _ b h1
   subst this;rcases a0n (k:=.inr n) h1 with ⟨_,_,z,_⟩ |⟨x,t,z,q⟩ |⟨z,_⟩
   ·cases z
   ·cases z;exact⟨n,rfl,by rw[q];exact strKind_is ..,d,by rw[q];rfl⟩
   ·cases z
def b4q(X:Cx):List V->Hp->VK->Prop:=λxs H Q=>∃(p:Addr)(kvs:List (Key×V))(ns:List Str),xs=[.ref p]/\(H p=some (.dK kvs)\/∃o,H p=some (.frz o (.dK kvs)))/\kvs.map (·.1)=ns.map .inr/\ns.length<=4 /\
 ∀(t:Addr)(ms:List Str)(o:Obj),H t=none->ms.Nodup->(∀x,x∈ms↔x∈ns)->ms.length<=ns.length->Q (.ref t) (upd H t (.frz o (setS X t ms)))
def a3a:CallR X (.type "set") (b4q X):=by
 intro f s σ H xs us Q I r h;obtain⟨p,a,j,rfl,J,L,B,q⟩:=h;obtain⟨u,rfl,N⟩:=a2A r;cases N;obtain⟨_,m,b,G,od,D,ep,g,T,R,ks,t,_⟩:a.length<=fR/\_=false/\∃b,KV a b/\s.heap.DictOf (a0j X.prog X.w) p b:=by
  rcases J with e |⟨o,e⟩
  ·exact I.hok p _ e
  ·exact (I.hok p _ e).2
 have z:∀{a:List (Key×V)}{b:List _},KV a b->b.map _=a.map (·.1):=λ{a}=>by
  induction a with
  |nil=>intro b h;cases h;rfl
  |cons p a ih=>intro b h;cases h with |cons h1 h2=>rw[aF,aF,ih h2,h1.1]
 have n:=(z G).trans L;have C:D.size=j.length:=by
  have v:=t.length;have A:=congrArg aX n;simp at v A;omega
 refine SetW.call_setD (k0:=Str.ofString "") g T R (by grind) C B (λi e h=>b7j t (λe E=>ks e (by simp_all)) n i e (by simp_all)) λc d S M k=>?_;obtain⟨o,e⟩:∃o,c.get? s.heap.objs.size=some o:=let ⟨_,_,_,S'⟩:=S;let ⟨o,e,_⟩:=S'.at_;⟨o,e⟩
 have F:=
  I.laid (t':=s.toks) k (av _) (show ObjOk X.prog X.w _ c _ (.frz o (setS X s.heap.objs.size d)) from ⟨e,S,⟨o,e⟩,λ_ _ x y=>x.at y⟩)
 exact⟨.ref s.heap.objs.size,_,F,rfl,q _ d o (I.hok.fresh (av _)) M.1 (metK M) M.2.1⟩
def rOrS(X:Cx):R2:=λx y H Q=>∃(p q:Addr)(o o':Obj)(ms mo:List Str),x=.ref p/\y=.ref q/\p≠q/\H p=some (.frz o (setS X p ms))/\H q=some (.frz o' (setS X q mo))/\ms.length<=4/\mo.length<=4/\ms.Nodup/\mo.Nodup /\
 ∀(t:Addr)(ks:List Str),H t=none->ks.Nodup->(∀x,x∈ks↔x∈ms\/x∈mo)->ks.length<=ms.length+mo.length->Q (.ref t) (upd H t (setS X t ks))
def b7k:OpR X (gb .BitOr) (rOrS X):=by
 intro b s σ H x y v u Q I D G h;obtain⟨p,r,o,N,f,E,rfl,rfl,j,F,z,m,i,C,B,q⟩:=h;cases D;cases G;obtain⟨L,T,t,S⟩:=(I.hok p _ F).2.1;obtain⟨M,J,R,So⟩:=(I.hok r _ z).2.1;refine SetW.or_set j S So m i C B λg a d k c n e l=>?_;have A:=
  (I.drew d).laid (t':=s.toks) k (av _) (show ObjOk X.prog X.w _ g _ (setS X s.heap.objs.size a) from ⟨c,let ⟨_,_,_,S'⟩:=c;let ⟨o,e,_⟩:=S'.at_;⟨o,e⟩,λ_ _ x y=>x.at y⟩)
 exact⟨.ref s.heap.objs.size,_,A,rfl,q _ a (I.hok.fresh (av _)) n e l⟩
end
end L2
namespace L3
open PySem PySem.Spec PyProof.Rows L2
section
variable{X:Cx}{a b:Expr}{ta tb:A3}{x y y2:Str}{p p2 p3 pos pos2 pos3 pos4:Pos}
def KeysS(G:Hq)(ws:List Z)(ns:List Str):Prop:=∃(p:Addr)(kvs:List (Key×Z)),ws=[.ref p]/\(G p=some (.dK kvs)\/G p=some (.dF kvs))/\kvs.map (·.1)=ns.map .inr/\ns.length<=4
def uSSU(ta tb:A3):E3:=fun σ G R=>ta σ G λws G1=>∃ns,KeysS G1 ws ns/\tb σ G1 λws' G2=>∃ns',KeysS G2 ws' ns' /\
 ∀(t:Addr)(ks:List Str),G2 t=none->iH ks=true->ks.Nodup->(∀x,x∈ks↔x∈ns\/x∈ns')->ks.length<=8->R (.ref t) (put G2 t (.lst (ks.map Z.str)))
def KeysS.low{K:Fg}(h:KeysS G ws ns)(rs:Reps K H ws vs)(hg:RH K G H) :
  ∃(p:Addr)(kvs:List (Key×V)),vs=[.ref p]/\(H p=some (.dK kvs)\/∃o,H p=some (.frz o (.dK kvs)))/\kvs.map (·.1)=ns.map .inr:=by
 obtain⟨p,f,rfl,e,d,_⟩:=h;obtain⟨v,rfl,r⟩:=rs.one;rcases e with e |e
 ·obtain⟨a,c,b,_⟩:=hg _ _ e;exact⟨p,a,by rw[r],.inl c,by rw[b,d]⟩
 ·obtain⟨o,a,c,b,_⟩:=hg _ _ e;exact⟨p,a,by rw[r],.inr ⟨o,c⟩,by rw[b,d]⟩
def b4r(hc:X.calm=true)(hg:Gl X x)(hm:X.mg x=none)(hv:gx x=some (.builtin "sorted"))(hg2:Gl X y)(hm2:X.mg y=none)(hv2:gx y=some (.type "set"))(ha:QA X [a] ta)(hb:QA X [b] tb)
  (he:fW [a] X.env=(false,eval a X.env)::fW [] X.env) (hpl:(backTo pos2 (fW [] X.env)).any (·.1)=false)
  (he2:fW [b] X.env=(false,eval b X.env)::fW [] X.env) (hpl2:(backTo pos3 (fW [] X.env)).any (·.1)=false)
  (hn:x≠"__name__":=by decide) (hdb:(x==("__debug__":Str))=false:=by decide) (hn2:y≠"__name__":=by decide) (hdb2:(y==("__debug__":Str))=false:=by decide) :
  QE X (.Call (.Name x p) [.BinOp (.Call (.Name y p2) [a] [] pos2) .BitOr (.Call (.Name y p3) [b] [] pos3) pos4] [] pos) (uSSU ta tb):=⟨a0P (a3Z (a4l hc) hg hm hv (a3Y (b5i b7k (a1K a3a hg2 hm2 hv2 ha.p hn2 hdb2 he hpl) (a1K a3a hg2 hm2 hv2 hb.p hn2 hdb2 he2 hpl2)) a6p rfl) hn hdb rfl rfl) fun τ H Q hx=>hx.un fun σ G R hs hg h up=>
 ⟨σ,G,_,hs,hg,h,λws G1 vs T n rs i S=>by
  obtain⟨ns,J,n⟩:=n;obtain⟨p,w,rfl,e,hn⟩:=J.low rs i;obtain⟨_,_,_,_,_,z1⟩:=J;refine⟨p,w,ns,rfl,e,hn,z1,λt C o A nd me ml=>?_⟩;have t2:TK X.K T (L2.upd T t (.frz o (setS X t C))):=.new A;refine⟨σ,G1,_,hs.mono (S.trans t2),i.hid A,n,λws' G2 vs' H2 m I hg2 L=>?_⟩;obtain⟨ns',B,m⟩:=m;obtain⟨p',k,rfl,e',N⟩:=B.low I hg2;obtain⟨_,_,_,_,_,z2⟩:=B;have r:=L.frd t o _ a0d;refine⟨p',k,ns',rfl,e',N,z2,λq j o' c nd' F ml'=>?_⟩;have D:t≠q:=λz=>by rw[z]at r;rw[r]at c;cases c
  refine⟨t,q,o,o',C,j,rfl,rfl,D,by rw[a0c D];exact r,a0d,by omega,by omega,nd,nd',λu M v n3 m3 l3=>⟨u,M,rfl,a0d,by omega,λu2 g f l so=>?_⟩⟩;have g3:=(hg2.hid c).hid (u:=setS X u M) v;refine up _ _ _ _ (m u2 g (g3.out f) so (l.nodup_iff.mpr n3) (λx=>by rw[l.mem_iff,m3,me,F]) (by rw[l.length_eq];omega)) (by rw[a0v]) (g3.set (.new f) ⟨_,a0d,a3O g⟩) (S.trans (t2.trans (L.trans ((TK.new c).trans ((TK.new v).trans (.new f))))))⟩⟩
end
end L3
namespace L2
open PySem PySem.Spec PyProof.Rows
def b1B(na:(a==gm)=false)(nb:(b==gm)=false)(da:s.heap.DictOf (a0j P w) a ka)(db:s.heap.DictOf (a0j P w) b kb)(hu:A.units<cLine)(hl:ka.length=kb.length)
  (hv:∀(i:Nat) k v,ka[i]?=some (k,v)->∃y,gM kb k=some y/\EqW P w A.in1 s v y) (q:Q (.bool true) s):wpAny (model P w) A (fZ .Eq (.ref a) (.ref b)) Q E s:=by
 refine wpAny_richCompare_same_room (op:=.Eq) da.typeIs db.typeIs PySem.F.slot_dict_eq (gE PySem.F.slot_dict_eq da.typeIs PySem.F.entry_dict_eq ?_ (PySem.F.args_dict_eq_2 _ _)) hu;refine fO ?_;refine fO (wpAny_notOrdered_dict da.typeIs (fP ?_));refine fO (iG db.typeIs PySem.F.sub_dict_dict ?_);refine fO (fP (fO (fP (fO (a9E na nb da db hl hv ?_)))));exact fP ⟨_,rfl,(λx=>nomatch x),q⟩
def b4s(hu:X.A.units+66<cLine):OpR X (fZ .Eq) (λx y H Q=>b7b (DEq1 H) H x y/\Q (.bl true) H):=by
 intro pins s σ H x y v u Q I B k ⟨h,q⟩;obtain⟨a,b,ua,ub,rfl,rfl,ne,t,F,p,z⟩:=h;cases B;cases k;obtain⟨_,g,ka,r,o⟩:=a8v I.hok t;obtain⟨_,m,kb,D,e⟩:=a8v I.hok F;obtain⟨w,l⟩:=a9F (pins:=pins) (σ:=σ) (a:=a) (H:=H) r D e p z λx y u v ⟨d,J,C,f,j⟩ i n=>by
  obtain⟨as,L⟩:=J.reads I.hok i;obtain⟨bs,G⟩:=C.reads I.hok n
  have:=PySem.W.keq_at L G f f (by show X.A.units+1+64<_;omega)
  rw[j]at this;exact λE Q h=>this _ _ E Q h
 exact b1B g m o e (by omega) w l ⟨.bl true,H,I,rfl,q⟩
end L2
namespace L3
open PySem PySem.Spec PyProof.Rows L2
def b4t{K:Fg}(hg:RH K G H)(h1:LEq G x y)(r1:Rep K H x u)(r2:Rep K H y v):DEq1 H u v:=by
 obtain⟨p,q,a,rfl,rfl,e,h,f⟩:=h1;subst r1 r2;obtain⟨j,b,d⟩:=hg _ _ e;obtain⟨i,c,g⟩:=hg _ _ h;refine⟨.list _,?_,?_,a1e f (by simp),?_⟩;exact⟨_,j,rfl,b,a4Y 8 _ _ f d⟩;exact⟨_,i,rfl,c,a4Y 8 _ _ f g⟩
 ·simp only[PyData.eqv];exact (a8U 8 8 a a f f).mpr rfl
def b9q:R3:=λx y G R=>b4n (LEq G) G x y/\R (.bl true) G
def b7l(hu:X.A.units+66<cLine):OpQ X (fZ .Eq) b9q:=a3j (b4s hu) λx y H Q i=>i.un λa b G R k j c h e=>
 ⟨a9G c (λx y u v d f g=>b4t c d f g) h.1 k j,e _ _ _ _ h.2 (by rw[a0u]) c (.refl _ _)⟩
end L3
namespace L2
open PySem PySem.Spec PyProof.Rows
section
variable{X:Cx}{pins:List (Addr×Obj)}{s:Shared}{σ:St}{H:Hp}
end
end L2
namespace L3
open PySem PySem.Spec PyProof.Rows L2
end L3
namespace L2
open PySem PySem.Spec PyProof.Rows
section
variable{X:Cx}{ce:Expr}{x:Str}{D:Addr}{np pos hpos tpos:Pos}
end
end L2
namespace L3
open PySem PySem.Spec PyProof.Rows L2
section
variable{X:Cx}{e:Expr}{es:List Expr}{x y:Str}{p pos np cp hpos tpos:Pos}{t:A3}{k j:Nat}{C D:Addr}{sp:PX3}
end
noncomputable def a9N(K:Fg)(f P0:Addr):Bool:=match K.lookup f with
 |some ⟨_,_,.func fd,_⟩=>(match fd.code with
  |.ref c=>PySem.W.codeHdIn K c P0
  |_=>false)
 |_=>false
section
variable{P:fV}{w:World}{K:Fg}{mg:Str->Option Value}{base:Heap}{x q:Str}{st:Stmt}{f C P0:Addr}{d:gz}{N ps:List Str}{k n:Nat}
def a6W(F:Fun K x q st f d)(h:a9N K f P0=true):∃c,d.code=.ref c/\PySem.W.codeHdIn K c P0=true:=by
 obtain⟨n,l,j,i,o,m,a,k,e,rfl,b,g⟩:=F.ex;unfold a9N at h;rw[b]at h
 match a,h with
 |.ref c,h=>exact⟨c,rfl,h⟩
def fnL(F:Fun K x q st f d)(hL:a9N K f P0=true)(S:FnScope N ps (a0l st))(len:∀ws G R,sp ws G R->ws.length=ps.length)
  (b:∀(c:Addr)(A:Around)(outer:List Env)(s:Shared)(H:Hp)(E:XK)(ws:List Z)(G:Hq)(R:K3),PySem.W.codeHdIn K c P0=true->Room k (A.deeper (envOfC q (a0l st) s.heap.objs.size f (.ref c)))->N.Nodup->sp ws G R ->
   ∃t,QSs (cxOf CX0 P w K mg base N q (a0l st) f (.ref c) A outer s H E).nox (a0S st) t/\t (λ_ G'=>R .non G') R (λ_ _=>False) (λ_ _=>False) (a08 N ws) G):FnOk P w K mg base CX0 (k+1) f d ps (lowP K sp):=by
 obtain⟨c,i,D⟩:=a6W F hL;obtain⟨M,T,X,L,V,an,m,ct,I,rfl,B,n⟩:=F.ex;subst i;refine b5v B n S (λy H Q E ⟨j,G,R,e,l,h,g⟩=>by rw[<- e.length];exact len _ _ _ h) ?_;rintro A a s H y Q E v ⟨j,G,R,e,l,h,g⟩;obtain⟨t,u,z⟩:=b c A a s H E j G R D v S.nd h;exact⟨_,PSs.nox u.p,a08 N j,G,_,R,_,_,.start e,l,z,fun σ' Y τ' U r J o C=>g _ _ _ _ r (by rw[a0w]) o C,g,λ_ _ _ _ h _ _ _=>h.elim,λ_ _ _ _ h _ _ _=>h.elim⟩
def FXL(K:Fg)(x:Str)(P0:Addr):Prop:=∃f,NsG K x (some (.ref f))/\a9N K f P0=true
def fncL(n:Nat)(B:Br K mg)(F:FX K x st)(L:FXL K x P0)
  (b:∀(f c:Addr)(A:Around)(outer:List Env)(s:Shared)(H:Hp)(E:XK)(ws:List Z)(G:Hq)(R:K3),PySem.W.codeHdIn K c P0=true->Room k (A.deeper (envOfC x (a0l st) s.heap.objs.size f (.ref c)))->N.Nodup->sp ws G R ->
   ∃t,QSs (cxOf CX0 P w K mg base N x (a0l st) f (.ref c) A outer s H E).nox (a0S st) t/\t (λ_ G'=>R .non G') R (λ_ _=>False) (λ_ _=>False) (a08 N ws) G)
  (len:∀ws G R,sp ws G R->ws.length=(N.take n).length) (S:FnScope N (N.take n) (a0l st)) (pl:Pl x x st (N.take n)):Cal P w K mg base CX0 (k+1) x (lowP K sp):=by
 obtain⟨f,d,e,F⟩:=F;obtain⟨h,g,a⟩:=L;cases (e.symm.trans g);exact⟨⟨f,⟨d,_,fnL F a S len λc=>b f c,F.binds pl⟩,B _ _ e,F.kp⟩⟩
end
section
variable{X:Cx}{e:Expr}{es:List Expr}{t:A3}{x:Str}{k j:Nat}{C:Addr}{p pos:Pos}{sp:P3}
def q_sk(hm:X.mg "sorted"=none)(hr:Room j X.A)(ha:QE X a te)(hc:X.env.code=.ref c)(hd:PySem.W.codeHdIn X.K c P0=true)(gP:gg≠P0)(bi:X.base.BuiltinsAt X.mg P0)
  (ht:∀(f c':Addr)(A:Around)(outer:List Env)(s:Shared)(H:Hp),Room k (A.deeper (envOfC q scope s.heap.objs.size f (.ref c')))->N.Nodup->QE (cxOf CX0 X.prog X.w X.K X.mg X.base N q scope f (.ref c') A outer s H E0).nox body tb)
  (sc:FnScope N [y] scope) (qn:q=X.env.qual++"<lambda>") (df:jZ params X.env=([],[])) (cl:iW scope X.env=pure [])
  (bd:∀(pm ctv:Value)(c':Addr)(us:List Value),us.length=1->iy (PySem.W.kla_fn "<lambda>" q params body scope [] pm (.ref c') ctv) ⟨us,[]⟩=pure ([y].zip us)) (hk:k+3<=j:=by decide) (hg:Gl X "sorted":=by rfl) (hn:nst a=true:=by rfl) :
  QE X (.Call (.Name "sorted" pN) [a] [⟨some "key",.Lambda params body scope lpos,kp⟩] pos) (a9C P0 lpos q N te tb):=
 b4l hg hm (hr.mono hk) ⟨sc,qn,df,cl,⟨c,hc,hd⟩,gP,bi,bd⟩ ha (λf d A b s H r=>ht f d A b s H r sc.nd) (se_ hn)
end
def a7O{K:Fg}(a:Addr)(ns:List Int)(f:Fz K H a (ns.map V.int))(hT:H P0=some (.tbl #[]))(h:sp [.scr a ns] (put (λ_=>none) P0 (.tab lp q)) λw _=>w=.bl true):lowP K sp [.ref a] H (λv _=>v=.bl true) E:=
 ⟨[.scr a ns],put _ P0 _,λw _=>w=.bl true,.cons (by rw[a17];exact⟨rfl,f⟩) .nil,λb o e=>(by
  by_cases hb:b=P0
  ·subst hb;rw[a0a]at e;cases e;exact⟨#[],hT,.inl rfl⟩
  ·rw[a0f hb]at e;cases e),h,λw G v c e r _ _=>by subst e;rw[a0u]at r;exact r⟩
def Fz.ofT{K:Fg}(hO:b1u P0 H)(h:SqL K H a xs):Fz K H a xs:=by
 rcases h with (h |h) |h
 ·by_cases hb:a=P0
  ·rw[hb,hO.1]at h;cases h
  ·rcases hO.2 a hb with z |⟨o,ys,z⟩
   ·grind
   ·simp_all
 ·exact .inl h
 ·exact .inr h
section
variable{CX:CXT}{P:fV}{w:World}{K:Fg}{mg:Str->Option Value}{base:Heap}{N:List Str}{q:Str}{so:Scope}{f:Addr}{cd:Value}{A:Around}{outer:List Env}{s:Shared}{H:Hp}{E:XK}
end
section
variable{X:Cx}{e:Expr}{es:List Expr}{x y:Str}{p pos np cp hpos tpos:Pos}{t:A3}{k j:Nat}{C D:Addr}{sp:PX3}
end
end L3
set_option maxHeartbeats 4000000
namespace L3
set_option genInjectivity false in
inductive Ex4 {α0 α1 α2 α3:Type}(p:α0->α1->α2->α3->Prop):Prop
 |mk (a0:α0) (a1:α1) (a2:α2) (a3:α3) (h:p a0 a1 a2 a3):Ex4 p
set_option genInjectivity false in
inductive Ex5 {α0 α1 α2 α3 α4:Type}(p:α0->α1->α2->α3->α4->Prop):Prop
 |mk (a0:α0) (a1:α1) (a2:α2) (a3:α3) (a4:α4) (h:p a0 a1 a2 a3 a4):Ex5 p
set_option genInjectivity false in
inductive Ex6 {α0 α1 α2 α3 α4 α5:Type}(p:α0->α1->α2->α3->α4->α5->Prop):Prop
 |mk (a0:α0) (a1:α1) (a2:α2) (a3:α3) (a4:α4) (a5:α5) (h:p a0 a1 a2 a3 a4 a5):Ex6 p
set_option genInjectivity false in
inductive Ex7 {α0 α1 α2 α3 α4 α5 α6:Type}(p:α0->α1->α2->α3->α4->α5->α6->Prop):Prop
 |mk (a0:α0) (a1:α1) (a2:α2) (a3:α3) (a4:α4) (a5:α5) (a6:α6) (h:p a0 a1 a2 a3 a4 a5 a6):Ex7 p
set_option genInjectivity false in
inductive Ex9 {α0 α1 α2 α3 α4 α5 α6 α7 α8:Type}(p:α0->α1->α2->α3->α4->α5->α6->α7->α8->Prop):Prop
 |mk (a0:α0) (a1:α1) (a2:α2) (a3:α3) (a4:α4) (a5:α5) (a6:α6) (a7:α7) (a8:α8) (h:p a0 a1 a2 a3 a4 a5 a6 a7 a8):Ex9 p
end L3
namespace Lw
open PySem L2 L3
noncomputable def top(i:Nat):Stmt:=PySem.Challenge.pw_twotimes_k65_whole_joined_on_and_on.main.body.getD i (.Pass ⟨0,0,0,0⟩)
def b7m(hr:Room k A):A.units+66<cLine:=by have:=hr.un;omega
noncomputable def tF:List (Str×Nat):=("is_name",10)::("is_moment",11)::("is_stretch",12)::("earlier_end",13)::("ahead_of",17)::("with_alike_joined",22)::("from_on",18)::("put_on",15)::("bounds_of",19)::("is_over",21)::("worths_in",20)::("laid_together",16)::("check_in_reach",36)::("check_name",34)::("table_at",24)::("unlike_of",29)::("changes",25)::("pairs_by_key",30)::("line_changed",31)::("changed",26)::("turned",27)::("pairs_joined",32)::("joined",28)::("check_stretch",35)::("check_telling",38)::("line_behind",39)::("_law_cell_at",42)::("_law_stream",43)::("_law_take",44)::("_law_name",45)::("_law_names",46)::("_law_stretch",47)::("_law_tellings",48)::("_law_sheet",49)::("_law_three",50)::("law",51)::[]
noncomputable def tB:List Str:=["all","isinstance","str","len","bool","int","min","max","sorted","set","zip","reversed","dict","range"]
noncomputable def a6X:List (Str×Str×Nat×Nat):=("check_knowing","Sheet.check_knowing",40,7)::("known_line","Sheet.known_line",40,9)::("line_at","Sheet.line_at",40,5)::("keys_at","Sheet.keys_at",40,6)::("__init__","Sheet.__init__",40,0)::("keep_line","Sheet.keep_line",40,8)::("tell","Sheet.tell",40,1)::[]
noncomputable def a6Y:List Str:=["last","kept"]
set_option genInjectivity false in
structure Ad where
 c_Sheet:Addr
 tP:Addr
abbrev lamO:O:=.tab ⟨118,55,118,79⟩ "pairs_by_key.<locals>.<lambda>"
structure Txt (K:Fg) (mg:Str->Option Value) (base:Heap) (a:Ad):Prop where
 br:Br K mg
 f:AllF K top tF
 b0:AllB K tB
 gP:gg≠a.tP
 bi:base.BuiltinsAt mg a.tP
 lam:FXL K "pairs_by_key" a.tP
 mg_Sheet:mg "Sheet"=some (.ref a.c_Sheet)
 cl_Sheet:Cls K a.c_Sheet
 m_Sheet:AllM K top a.c_Sheet a6X
 n_Sheet:AllN K a.c_Sheet a6Y
 mk_Sheet:PySem.W.makesIn K a.c_Sheet=true/\PySem.W.keepIn K (.ref a.c_Sheet)=true
 c_LONGEST_NAME:∃t,mg "LONGEST_NAME"=some (.int 8 t)
 c_LAST_MOMENT:∃t,mg "LAST_MOMENT"=some (.int 1000000000000 t)
def Txt.b{K:Fg}{mg:Str->Option Value}{base:Heap}{a:Ad}(T:Txt K mg base a)(i:Nat){x:Str}(h:tB[i]?=some x:=by rfl):mg x=none:=T.br _ _ (T.b0 i x h)
set_option hygiene false in
local macro_rules | `(tactic| walk_at "in")=>`(tactic| (intro f cdv A outer s H E ws G R hr nd h;have hu:=b7m hr))
set_option hygiene false in
local macro_rules | `(tactic| ac_rfl)=>`(tactic| repeat' first
 | ((with_reducible show QE _ _ _);first | ((with_reducible show QE _ (.Name _ _) _);first | exact qw (by first | exact cxN | exact cxcN | exact cxN') (by with_reducible first | exact at_0 | exact at_1 | exact at_2 | exact at_3 | exact at_4 | exact at_5 | exact at_6 | exact at_7 | exact at_8 | exact at_9 | exact b7d | exact b7e | exact b7f | exact b7g) | exact b2g (a6Z rfl T.c_LONGEST_NAME) | exact b2g (a6Z rfl T.c_LAST_MOMENT) | exact q_ty (a3W (v:=.ty "str") rfl (T.b 2) rfl rfl) | exact q_ty (a3W (v:=.ty "bool") rfl (T.b 4) rfl rfl) | exact q_ty (a3W (v:=.ty "int") rfl (T.b 5) rfl rfl) | exact q_ty (a3W (v:=.ty "dict") rfl (T.b 12) rfl rfl)) | exact a8H | exact b8g | exact b8h | exact q_bl | refine' b3j x_sl ?_ ?_ ?_ | refine' q_ix x_ix ?_ ?_ (λ_ _=>rfl) | apply q_op | ((with_reducible show QE _ (.Call (.Name "len" _) _ _ _) _);refine' q_B b8C (T.b 3) ?_ (hv:=PySem.boot_len)) | ((with_reducible show QE _ (.Call (.Name "min" _) _ _ _) _);refine' q_B (b8E rfl) (T.b 6) ?_) | ((with_reducible show QE _ (.Call (.Name "max" _) _ _ _) _);refine' q_B (b8D rfl) (T.b 7) ?_) | ((with_reducible show QE _ (.Call (.Name "all" _) _ _ _) _);refine' q_B (b6g rfl) (T.b 0) ?_) | ((with_reducible show QE _ (.Call (.Name "isinstance" _) _ _ _) _);refine' q_B b8F (T.b 1) ?_) | refine' q_c (by walk_at "c") hr ?_ | apply b3l | apply b8q | ((with_reducible show QE _ (.Call (.Attribute _ "append" _) _ _ _) _);refine' q_bm PySem.F.plainAttrs_list PySem.F.slot_list_append PySem.F.type_list_append a6y ?_ ?_) | ((with_reducible show QE _ (.Call (.Attribute _ "extend" _) _ _ _) _);refine' q_bm PySem.F.plainAttrs_list PySem.F.slot_list_extend PySem.F.type_list_extend b0U ?_ ?_) | ((with_reducible show QE _ (.Call (.Attribute _ "find" _) _ _ _) _);refine' q_bm PySem.F.plainAttrs_str PySem.F.slot_str_find PySem.F.type_str_find b6P ?_ ?_) | ((with_reducible show QE _ (.Call (.Attribute _ "get" _) _ _ _) _);first | refine' q_bm PySem.F.plainAttrs_dict PySem.F.slot_dict_get PySem.F.type_dict_get (b2t hu) ?_ ?_ | refine' q_bm PySem.F.plainAttrs_dict PySem.F.slot_dict_get PySem.F.type_dict_get (b30 hu) ?_ ?_) | ((with_reducible show QE _ (.Call (.Attribute _ "setdefault" _) _ _ _) _);refine' q_bm PySem.F.plainAttrs_dict PySem.F.slot_dict_setdefault PySem.F.type_dict_setdefault a2x ?_ ?_) | apply b5Q | refine' b3f ?_ ?_ ?_ ?_ ?_ | apply b8n | refine' q_un b8B ?_ | apply b8l | apply b5V | apply b8m | apply q_if)
 | ((with_reducible show QA _ _ _);first | exact a0Q | refine' q_k ?_ ?_)
 | ((with_reducible show OpQ _ _ _);first | ((with_reducible show OpQ _ (gb .Add) _);exact b8w) | ((with_reducible show OpQ _ (fZ .Eq) _);exact (o_eq hu)) | ((with_reducible show OpQ _ (gb .FloorDiv) _);exact b6b) | ((with_reducible show OpQ _ (fZ .Gt) _);exact o_gt) | ((with_reducible show OpQ _ (fZ .In) _);exact (o_in hu)) | ((with_reducible show OpQ _ (fZ .Is) _);exact o_is) | ((with_reducible show OpQ _ (fZ .IsNot) _);exact b3y) | ((with_reducible show OpQ _ (fZ .Lt) _);exact o_lt) | ((with_reducible show OpQ _ (fZ .LtE) _);exact o_le) | ((with_reducible show OpQ _ (gb .Mod) _);exact b8z) | ((with_reducible show OpQ _ (gb .Mult) _);exact b8y) | ((with_reducible show OpQ _ (fZ .NotEq) _);exact (o_ne hu)) | ((with_reducible show OpQ _ (gb .Pow) _);exact b8A) | ((with_reducible show OpQ _ (gb .Sub) _);exact b8x) | ((with_reducible show OpQ _ (g9 .Add) _);exact b2k))
 | ((with_reducible show ie _ _=_);first | exact b2c _ | with_unfolding_all rfl)
 | ((with_reducible show QT _ _ _);first | apply b5R | refine' b0N ?_ ?_ ?_ ?_ ?_ | refine' QW.qt (e:=.BoolOp _ _ _) ?_ | apply b5T | refine' b8o (a:=.Call _ _ _ _) ?_ | refine' b3h ?_ (λ_=>rfl))
 | ((with_reducible show QW _ _ _);first | apply b5S | apply b8j | apply b8i | apply q_or)
 | ((with_reducible show QO _ _ _);first | exact b0O | apply b5Y)
 | ((with_reducible show QI _ _ _ _);first | ((with_reducible show QI _ _ (.Call (.Name "range" _) _ _ _) _);first | refine' a7w rfl (T.b 13) ?_) | apply a2b)
 | ((with_reducible show QP _ _ _);first | apply p_nm | refine' p_tp rfl ?_)
 | ((with_reducible show QPg _ _ _);first | exact b9p | apply b7c)
 | ((with_reducible show Nm _ _ _);exact nwI (by first | exact cxN | exact cxcN | exact cxN') (by with_reducible first | exact at_0 | exact at_1 | exact at_2 | exact at_3 | exact at_4 | exact at_5 | exact at_6 | exact at_7 | exact at_8 | exact at_9 | exact b7d | exact b7e | exact b7f | exact b7g) nd)
 | ((with_reducible show QS _ _ _);first | apply a2a | refine' z_st ?_ ?_ | refine' a22 ?_ | apply z_if | refine' b58 ?_ ?_ | refine' a2F gi.never rfl ?_ ?_ ?_ | apply z_au | exact b52 | exact b3q | exact b53 | exact b56)
 | ((with_reducible show QSs _ _ _);first | exact a4W | apply a0D | apply a0e)
 | ((with_reducible show QIfs _ _ _);first | exact b3t | apply a8Q)
 | ((with_reducible show Cal _ _ _ _ _ _ _ _ _);walk_at "c")
 | ((with_reducible show _<=_);decide))
local macro_rules | `(tactic| walk_at "r4")=>`(tactic| (intro _ _ _ _;ac_rfl))
set_option hygiene false in
local macro_rules | `(tactic| walk_at "r5")=>`(tactic| (intro _ _ _ _ nd;ac_rfl))
set_option hygiene false in
local macro_rules | `(tactic| walk_at "c")=>`(tactic| first | exact a5o T | exact a3r T | exact a3e T | exact a2I T | exact a4w T | exact a1l T | exact a5m T | exact a59 T | exact a3t T | exact a5k T | exact a3p T | exact a1V T | exact a0Z T | exact a3h T | exact a4K T | exact a3v T | exact a5z T | exact a2t T | exact a2v T | exact a5B T | exact a6j T | exact a2r T | exact a6l T | exact a1Y T | exact a10 T | exact a1k T | exact a7R T | exact a9P T | exact b4u T | exact b4G T | exact b1V T | exact a7W T | exact a6g T | exact b17 T | exact b19 T)
def a6Z(hg:Gl X x)(hm:∃t,X.mg x=some (.int i t))(hd:(x==("__debug__":Str))=false:=by decide):PE X (.Name x pos) (tC (.int i)):=by
 obtain⟨t,h⟩:=hm;exact b2O hg h ⟨t,rfl⟩ hd
def b9r (h:t σ G λws G1=>∃(p:Addr)(ns:List Int),ws=[.ref p]/\G1 p=some (.lst (ns.map Z.int))/\ns.length<=1000 /\
  ∀(t:Addr)(ks:List Int),G1 t=none->ks.Pairwise (·<·)->(∀x,x∈ks↔x∈ns)->ks.length<=ns.length->R (.ref t) (put G1 t (.lst (ks.map Z.int)))):uSS t σ G R:=h
def a60(t:Addr):P3:=λws G R=>∃b ns,ws=[.scr b ns]/\ns.length<=63/\G t=some lamO/\∀G',R (.bl true) G'
def b1C(hl:ns.length<=63):a60 t [.scr b ns] (put (λ_=>none) t lamO) λw _=>w=.bl true:=⟨_,_,rfl,hl,a0a,λ_=>rfl⟩
def lenK(h:Nat.ble n 1000=true):n<=sizeLine:=bD (a0g (Nat.le_of_ble_eq_true h))
def a03(h:n<=1000):n<=sizeLine:=bD (a0g h)
def a7P(x w:Int):Prop:=w=0\/(w=1/\0<=x/\x<536870909)
abbrev RowO(x w:Int):O:=.lst [.int x,.int w]
def RowAt(G:Hq)(r:Addr):Prop:=∃x w,G r=some (RowO x w)/\a7P x w
local macro_rules | `(tactic| walk_at "sd")=>`(tactic| first | assumption | (exact a03 (by first | decide | omega | (simp;done) | (simp;omega))) | (exact a0g (by first | decide | omega | (simp;done) | (simp;omega))) | decide | omega)
local macro_rules | `(tactic| walk_at "hp")=>`(tactic| first | assumption | exact a0a | (refine a0b ?_ (by assumption);walk_at "hp") | (refine Sm.get (by assumption) ?_;walk_at "hp"))
local macro_rules | `(tactic| walk_at "go1")=>`(tactic| with_reducible (first
 | apply b8N | refine b8G (by with_unfolding_all rfl) ?_ | apply i_c | apply i_op | apply i_un | apply b6k | apply b3C | apply b8H | apply i_or | apply b8I | apply b6l | apply i_orV | apply i_notV | apply i_if
 | apply b8J | apply i_truI | apply i_truB | apply i_sl | apply b0V | apply b6m | apply b8K | apply b6n | apply b8L | apply b8M | apply i_cb | apply b9r | apply i_bm0 | apply i_bm | apply b6o
 | apply b6p | apply b6q | apply b8O | apply i_retN | apply b8P | apply b8Q | apply b8R | refine b8S (by with_unfolding_all rfl) ?_ | apply i_break | apply i_cont | apply b6z | apply b81 | apply i_iL | apply i_iT | apply i_iS | apply b82 | apply i_iR2 | apply i_wkC | apply b83 | apply b84 | apply i_tt
 | apply b6r | apply i_I0 | apply b8T | apply i_CI | apply i_CS | apply b8U | apply i_isB | apply b6t | apply i_eqB | apply b6u | apply b8V | apply i_inS | apply b6x | apply i_nm | refine a1B (by with_unfolding_all rfl) ?_ | apply i_lenT | apply b6y | apply i_mm | apply b8Z
 | apply ifT | apply ifF | apply ifNN | apply ifNI | apply ifNS | apply ifNU | apply ifMN | apply ifMI | apply ifMS | apply ifMU | refine a1B at0 ?_ | refine a1B at1 ?_ | refine a1B at2 ?_ | apply b6Q | apply b6U | apply i_iR3 | apply b6V | apply b6Y | apply b3V | apply b3W | apply b6Z | apply b60 | apply i_disp | apply i_pcons | apply i_pnil | refine⟨_,rfl,?_⟩))
local macro_rules | `(tactic| walk_at "go")=>`(tactic| repeat walk_at "go1")
local macro_rules | `(tactic| symm)=>`(tactic| walk_at "go")
def a7Q:P3:=λws G R=>∃p ns k,ws=[.scr p ns,.int k]/\0<=k/\∀i,R (.int i) G
variable{P:fV}{w:World}{K:Fg}{mg:Str->Option Value}{base:Heap}{a:Ad}
set_option tactic.hygienic true in
def a7R(T:Txt K mg base a):Cal P w K mg base CX0 1 "_law_cell_at" (lowP K a7Q):=by
 refine fnc 2 (N:=["script","k"]) T.br (T.f 26 _ rfl) ?_;walk_at "in";refine⟨_,(by ac_rfl),?_⟩;obtain⟨p,d,k,rfl,b,q⟩:=h;symm;refine ifD (λc=>?_) λ_=>?_
 ·obtain⟨j,rfl⟩:=cY b;have e:j<d.length:=by omega
  symm;exact b8W (a05 (aC e)) (q _)
 ·symm;exact q _
def a9O:P3:=λws G R=>∃c w,ws=[.int c,.int w]/\(w=0\/w=1)/\∀r x w',G r=none->a7P x w'->R (.ref r) (put G r (RowO x w'))
def m9(x:Int):0<=x % 536870909/\x % 536870909<536870909:=⟨et _ (by decide),eu _ (by decide)⟩
set_option tactic.hygienic true in
def a9P(T:Txt K mg base a):Cal P w K mg base CX0 1 "_law_stream" (lowP K a9O):=by
 refine fnc 2 (N:=["cell","way","low"]) T.br (T.f 27 _ rfl) ?_;walk_at "in";refine⟨_,(by ac_rfl),?_⟩;obtain⟨c,w,rfl,d,q⟩:=h;symm;refine ifD (λz=>?_) λz=>?_
 ·symm;exact⟨lenK rfl,λr hr=>q r _ _ hr (.inl rfl)⟩
 ·symm;refine i_I (show (0:Int)<536870909 by decide) ?_;symm;have e:=m9 c;refine i_I (.inl ⟨by omega,by omega⟩) ?_;symm;refine i_I (show (0:Int)<536870909 by decide) ?_;symm;have b:=m9 (c % 536870909*(c % 536870909));refine i_I (.inl ⟨by omega,by omega⟩) ?_;symm;refine i_I (show (0:Int)<536870909 by decide) ?_;symm;exact⟨lenK rfl,λr hr=>q r _ _ hr (.inr ⟨rfl,m9 _⟩)⟩
def a9Q:P3:=λws G R=>Ex4 λr n x w=>ws=[.ref r,.int n]/\G r=some (RowO x w)/\a7P x w/\0<n/\n<2 ^ 64/\∀f y w,0<=f->f<n->a7P y w->R (.int f) (put G r (RowO y w))
set_option tactic.hygienic true in
def b4u(T:Txt K mg base a):Cal P w K mg base CX0 1 "_law_take" (lowP K a9Q):=by
 refine fnc 2 (N:=["row","many","found"]) T.br (T.f 28 _ rfl) ?_;walk_at "in";refine⟨_,(a0e (z_if (by ac_rfl)
  (a0e (by ac_rfl)
  (a0e (a6w (by ac_rfl) (qv 0) a8H b3B)
  (by ac_rfl)))
  a4W)
  (a0e (a6w (by ac_rfl) (qv 0) a8H b3B)
  (by ac_rfl))),?_⟩
 obtain⟨r,n,x,w,rfl,hR,hok,h0,h1,q⟩:=h;symm;refine a0E hR rfl ?_;symm;refine ifD (λc=>?_) λc=>?_
 ·symm;refine a0E hR rfl ?_;symm;refine i_I h0 ?_;symm;refine a0E hR rfl ?_;symm;refine i_I ⟨h0,h1⟩ ?_;symm;refine b3G hR rfl ?_;symm;exact q _ _ _ (et _ (by omega)) (eu _ h0) (.inl c)
 ·rcases hok with z |⟨hw1,hx0,hx1⟩
  ·exact absurd z c
  symm;refine a0E hR rfl ?_;symm;refine a0E hR rfl ?_;symm;refine i_I (.inl ⟨by omega,by omega⟩) ?_;symm;refine i_I (show (0:Int)<536870909 by decide) ?_;symm;refine b3G hR rfl ?_;symm;have h2:=m9 ((x+7919)*(x+104729));refine a0E a0a rfl ?_;symm;refine i_I (.inl ⟨by omega,by omega⟩) ?_;symm;refine i_I h0 ?_;symm;exact q _ _ _ (et _ (by omega)) (eu _ h0) (.inr ⟨hw1,h2⟩)
def a1i(hR:RowAt G r)(h0:0<n)(h1:n<2 ^ 64)(q:∀f y w,0<=f->f<n->a7P y w->R (.int f) (put G r (RowO y w))):a9Q [.ref r,.int n] G R:=by
 obtain⟨x,w,e,k⟩:=hR;exact⟨r,n,x,w,rfl,e,k,h0,h1,q⟩
def RowAt.new(h:RowAt G r)(n:G p=none):RowAt (put G p o) r:=by
 obtain⟨x,w,e,k⟩:=h;exact⟨x,w,a0b e n,k⟩
def RowAt.at{G:Hq}{r:Addr}{x w:Int}(k:a7P x w):RowAt (put G r (RowO x w)) r:=⟨x,w,a0a,k⟩
structure Rw where
 b:Int
 e:Option Int
 w:List Z
@[reducible] noncomputable def oz:Option Int->Z
 |none=>.non
 |some i=>.int i
noncomputable def Rw.z(r:Rw):Z:=.tup (.int r.b::oz r.e::r.w)
noncomputable def bef(t:Int):Option Int->Bool
 |none=>true
 |some e=>decide (t<e)
noncomputable def Rw.has(r:Rw)(t:Int):Bool:=decide (r.b<=t)&&bef t r.e
def Rw.good(r:Rw):Prop:=bef r.b r.e=true
noncomputable def val(l:List Rw)(t:Int):Option (List Z):=(l.find? (·.has t)).map (·.w)
def a0U:val [] t=none:=rfl
def a0i:val (r::l) t=if r.has t=true then some r.w else val l t:=by
 unfold val;rw[bJ];cases h:r.has t<;>simp
def a0B:val (l++m) t=(val l t).or (val m t):=by
 unfold val;rw[fD];cases h:l.find? _<;>simp
def Lt(r s:Rw):Prop:=∃e,r.e=some e/\e<=s.b
def Lt2(r s:Rw):Prop:=∃e,r.e=some e/\e<=s.b/\(e=s.b->r.w≠s.w)
def Rise(l:List Rw):Prop:=(∀r∈l,r.good)/\l.Pairwise Lt
def Can(l:List Rw):Prop:=(∀r∈l,r.good)/\l.Pairwise Lt2
def Lt2.lt{r s:Rw}(h:Lt2 r s):Lt r s:=let ⟨e,a,b,_⟩:=h;⟨e,a,b⟩
noncomputable def Can.rise(h:Can l):Rise l:=⟨h.1,h.2.imp Lt2.lt⟩
def Can.nil:Can []:=⟨λ_ h=>by simp at h,.nil⟩
def Rise.nil:Rise []:=Can.nil.rise
def Can.tail(h:Can (r::l)):Can l:=⟨λs a=>h.1 s (.tail _ a),(aH.mp h.2).2⟩
def Rise.tail(h:Rise (r::l)):Rise l:=⟨λs a=>h.1 s (.tail _ a),(aH.mp h.2).2⟩
def a4q{r:Rw}(h:r.good):r.has r.b=true:=by
 unfold Rw.has;rw[h];simp
noncomputable def Lt.has(h:Lt r s)(a:r.has t=true):s.has t=false:=by
 obtain⟨e,c,d⟩:=h;unfold Rw.has at a ⊢;rw[c]at a;simp only[bef,bn,decide_eq_true_eq]at a
 have:decide (s.b<=t)=false:=decide_eq_false (by lia)
 rw[this,fE]
def Lt.b(g:r.good)(h:Lt r s):r.b<s.b:=by
 obtain⟨e,a,c⟩:=h
 have:bef r.b r.e=true:=g
 rw[a]at this;simp only[bef,decide_eq_true_eq]at this
 lia
def a04(h:∀r∈l,r.has t=false):val l t=none:=by simp_all[val]
def a61{l:List Rw}{t:Int}{w:List Z}(h:val l t=some w):∃r∈l,r.has t=true/\r.w=w:=by
 induction l with
 |nil=>cases h
 |cons r l ih=>
  rw[a0i]at h
  split at h
  ·next e=>cases h;exact⟨r,.head _,e,rfl⟩
  ·obtain⟨s,h1,h2⟩:=ih h;exact⟨s,.tail _ h1,h2⟩
def a3Q{r:Rw}(h:t<r.b):r.has t=false:=by
 unfold Rw.has;rw[decide_eq_false (by lia),fE]
def b7n(h:Can (r::l))(h':Can (s::m))(q:∀t,val (r::l) t=val (s::m) t):¬ r.b<s.b:=λc=>by
 have d:=q r.b;rw[a0i,a4q (h.1 r (.head _)),if_pos rfl,a04]at d
 ·grind
 ·intro x a;refine a3Q ?_;rcases ax.mp a with rfl |a
  ·omega
  ·have:=(((aH.mp h'.2).1 x a).lt).b (h'.1 s (.head _))
   lia
def b4v(h:Can (r::l))(hb:r.b=s.b)(hw:r.w=s.w)(q:∀t,val (r::l) t=val (s::m) t)(he:r.e=some e):bef e s.e=false:=by
 cases hc:bef e s.e with
 |false=>rfl
 |true=>
  exfalso;have g:bef r.b r.e=true:=h.1 r (.head _)
  rw[he]at g;simp only[bef,decide_eq_true_eq]at g;have c:=q e;have i:s.has e=true:=by unfold Rw.has;rw[hc,decide_eq_true (show s.b<=e by lia)];rfl
  have k:r.has e=false:=by unfold Rw.has;rw[he];simp[bef]
  rw[a0i,a0i,i,k,if_pos rfl,if_neg (by simp)]at c;obtain⟨x,n,a,d⟩:=a61 c;obtain⟨u,f,p,j⟩:=(aH.mp h.2).1 x n;rw[he]at f;cases f;have o:x.b<=e:=by unfold Rw.has at a;simp at a;exact a.1
  exact j (by lia) (by simp_all)
theorem a3b:∀{l m:List Rw},Can l->Can m->(∀t,val l t=val m t)->l=m
 |[],[],_,_,_=>rfl
 |[],s::m,_,h',q=>by
  have:=q s.b
  rw[a0U,a0i,a4q (h'.1 s (.head _)),if_pos rfl]at this;cases this
 |r::l,[],h,_,q=>by
  have:=q r.b
  rw[a0U,a0i,a4q (h.1 r (.head _)),if_pos rfl]at this;cases this
 |r::l,s::m,h,h',q=>by
  have a:r.b=s.b:=by
   have f:=b7n h h' q;have g:=b7n h' h λt=>(q t).symm
   lia
  have c:r.w=s.w:=by
   have f:=q r.b;have g:s.has r.b=true:=a▸a4q (h'.1 s (.head _));rw[a0i,a0i,a4q (h.1 r (.head _)),g,if_pos rfl,if_pos rfl]at f;exact aN.inj f
  have i:r.e=s.e:=by
   cases e1:r.e with
   |none=>
    cases e2:s.e with
    |none=>rfl
    |some e=>
     have:=b4v h' a.symm c.symm (λt=>(q t).symm) e2
     rw[e1]at this;cases this
   |some e=>
    have:=b4v h a c q e1
    cases e2:s.e with
    |none=>rw[e2]at this;cases this
    |some e'=>
     have k:=b4v h' a.symm c.symm (λt=>(q t).symm) e2;rw[e1]at k;rw[e2]at this;simp only[bef,decide_eq_false_iff_not]at this k
     congr 1
     lia
  have j:r=s:=by
   obtain⟨_,_,_⟩:=r;simp only at a c i;rw[a,c,i]
  subst j
  congr 1
  refine a3b h.tail h'.tail λt=>?_;cases ht:r.has t with
  |true=>
   rw[a04 λx d=>((aH.mp h.2).1 x d).lt.has ht,a04 λx d=>((aH.mp h'.2).1 x d).lt.has ht]
  |false=>
   have:=q t
   rw[a0i,a0i,ht,if_neg (by simp),if_neg (by simp)]at this;exact this
noncomputable def jn(told:List Rw)(p:Rw):List Rw:=match told.getLast? with
 |some l=>if l.e=some p.b/\l.w=p.w then told.dropLast++[⟨l.b,p.e,p.w⟩] else told++[p]
 |none=>told++[p]
noncomputable def join(ps:List Rw):List Rw:=ps.foldl jn []
def a1R{α:Type}{l:List α}{x:α}(h:l.getLast?=some x):l=l.dropLast++[x]:=by
 obtain⟨a,rfl⟩:=List.getLast?_eq_some_iff.mp h;simp
def b9s(h:Can told)(g:p.good)(hlt:∀r∈told,Lt r p):Can (jn told p)/\(∀t,val (jn told p) t=(val told t).or (val [p] t))/\(∀x,(∀r∈told,Lt r x)->Lt p x->∀r∈jn told p,Lt r x)/\(jn told p).length<=told.length+1/\∀r∈jn told p,r.w=p.w\/∃r'∈told,r.w=r'.w:=by
 unfold jn;cases hl:told.getLast? with
 |none=>
  have:told=[]:=fF.mp hl
  subst this;exact⟨⟨λr a=>by simp at a;rw[a];exact g,by simp⟩,λt=>by simp[a0U],λx _ f r a=>by simp at a;rw[a];exact f,by simp,λr a=>by simp at a;rw[a];exact .inl rfl⟩
 |some l=>
  have d:=a1R hl;generalize told.dropLast=init at d;subst d;have i:l∈init++[l]:=by simp
  have k:=aT.mp h.2;dsimp only
  split
  ·next hc=>
   obtain⟨n,o⟩:=hc;have D:l.b<p.b:=by
    have:bef l.b l.e=true:=h.1 l i
    rw[n]at this;simpa[bef]using this
   have v:(⟨l.b,p.e,p.w⟩:Rw).good:=by
    show bef l.b p.e=true
    have:bef p.b p.e=true:=g
    cases hpe:p.e with
    |none=>rfl
    |some e=>
     rw[hpe]at this;simp only[bef,decide_eq_true_eq]at this ⊢
     lia
   refine⟨⟨λr a=>?_,?_⟩,λt=>?_,λx m f r a=>?_,by simp,λr a=>?_⟩
   ·rcases au.mp a with a |a
    ·exact h.1 r (by simp[a])
    ·rw[ay.mp a];exact v
   ·refine aT.mpr ⟨k.1,by simp,λr a s d=>?_⟩;rw[ay.mp d];obtain⟨e,c,j,A⟩:=k.2.2 r a l (by simp);exact⟨e,c,j,λz=>by rw[<- o];exact A z⟩
   ·rw[a0B,a0B];cases val init t with
    |some w=>rfl
    |none=>
     have y:(⟨l.b,p.e,p.w⟩:Rw).has t=(l.has t||p.has t):=by
      unfold Rw.has;rw[n]
      have:bef p.b p.e=true:=g
      cases hpe:p.e with
      |none=>
       simp only[bef,dE]
       by_cases c1:l.b<=t<;>by_cases c2:t<p.b<;>by_cases c3:p.b<=t<;>simp[c1,c2,c3]<;>lia
      |some e=>
       rw[hpe]at this;simp only[bef,decide_eq_true_eq]at this ⊢
       by_cases c1:l.b<=t<;>by_cases c2:t<p.b<;>by_cases c3:p.b<=t<;>by_cases c4:t<e<;>simp[c1,c2,c3,c4]<;>lia
     simp only[a0i,a0U,y,o,Option.none_or];cases l.has t<;>cases p.has t<;>simp
   ·rcases au.mp a with a |a
    ·exact m r (by simp[a])
    ·rw[ay.mp a];obtain⟨e,c,j⟩:=f;exact⟨e,c,j⟩
   ·rcases au.mp a with a |a
    ·exact .inr ⟨r,by simp[a],rfl⟩
    ·rw[ay.mp a];exact .inl rfl
  ·next hc=>
   refine⟨⟨λr a=>?_,?_⟩,λt=>a0B,λx m f r a=>?_,by simp,λr a=>?_⟩
   ·rcases au.mp a with a |a
    ·exact h.1 r a
    ·rw[ay.mp a];exact g
   ·refine aT.mpr ⟨h.2,by simp,λr a s d=>?_⟩;rw[ay.mp d];obtain⟨e,c,j⟩:=hlt r a;refine⟨e,c,j,λz u=>?_⟩;rcases au.mp a with hr' |hr'
    ·obtain⟨C,q,B,_⟩:=k.2.2 r hr' l (by simp);rw[c]at q;cases q
     have:=(hlt l i).b (h.1 l i)
     lia
    ·simp_all
   ·rcases au.mp a with a |a
    ·exact m r a
    ·rw[ay.mp a];exact f
   ·rcases au.mp a with a |a
    ·exact .inr ⟨r,a,rfl⟩
    ·rw[ay.mp a];exact .inl rfl
def b4w:∀(ps told:List Rw),Can told->Rise ps->(∀r∈told,∀p∈ps,Lt r p)->Can (ps.foldl jn told)/\(∀t,val (ps.foldl jn told) t=(val told t).or (val ps t))/\(ps.foldl jn told).length<=told.length+ps.length/\∀r∈ps.foldl jn told,∃r'∈told++ps,r.w=r'.w:=by intro z0;induction z0 with
 |nil=>intro told h _ _;exact⟨h,λt=>by simp[a0U],by simp,λr f=>⟨r,by simpa using f,rfl⟩⟩
 |cons p ps I0=>
  intro told h f hlt;have a:=b9s h (f.1 p (.head _)) λr q=>hlt r q p (.head _);have b:=I0 _ a.1 f.tail λr q x j=>a.2.2.1 x (λg k=>hlt g k x (.tail _ j)) ((aH.mp f.2).1 x j) r q;refine⟨b.1,λt=>?_,?_,λr i=>?_⟩
  ·show val (ps.foldl jn _) t=_
   rw[b.2.1 t,a.2.1 t,show p::ps=[p]++ps from rfl,a0B,Option.or_assoc]
  ·grind
  ·obtain⟨g,c,d⟩:=b.2.2.2 r i;rcases au.mp c with c |c
   ·rcases a.2.2.2.2 g c with e |⟨r2,e1,e2⟩
    ·exact⟨p,by simp,d.trans e⟩
    ·grind
   ·exact⟨g,by simp[c],d⟩
def a2h(h:Rise ps):Can (join ps)/\(∀t,val (join ps) t=val ps t)/\(join ps).length<=ps.length/\∀r∈join ps,∃r'∈ps,r.w=r'.w:=by
 have:=b4w ps [] .nil h λr a=>by simp at a
 unfold join;exact⟨this.1,λt=>by rw[this.2.1 t];rfl,by simpa using this.2.2.1,by simpa using this.2.2.2⟩
noncomputable def emin:Option Int->Option Int->Option Int
 |none,o=>o
 |some e,none=>some e
 |some e,some o=>some (if o<e then o else e)
noncomputable def a1x(m:Option Int)(r:Rw):Option Rw:=if bef r.b m=true then some ⟨r.b,emin r.e m,r.w⟩ else none
noncomputable def ahead(m:Option Int)(l:List Rw):List Rw:=l.filterMap (a1x m)
noncomputable def a4r(m:Int)(r:Rw):Option Rw:=if bef m r.e=true then some ⟨if m > r.b then m else r.b,r.e,r.w⟩ else none
noncomputable def fromOn(m:Int)(l:List Rw):List Rw:=l.filterMap (a4r m)
def b2C(h1:∀r r',f r=some r'->r'.has t=(r.has t&&c)/\r'.w=r.w)(h2:∀r,f r=none->(r.has t&&c)=false):∀l:List Rw,val (l.filterMap f) t=if c=true then val l t else none:=by intro z0;induction z0 with
 |nil=>simp[a0U]
 |cons r l I0=>
  have a:=I0;rw[bE];cases hf:f r with
  |none=>
   have:=h2 r hf
   rw[a,a0i];cases c with
   |true=>rw[dE]at this;rw[this];rfl
   |false=>rfl
  |some r'=>
   obtain⟨d,b⟩:=h1 r r' hf;rw[a0i,a,d,b,a0i];cases c<;>cases r.has t<;>rfl
def a62:bef t (emin x y)=(bef t x&&bef t y):=by
 cases x with
 |none=>cases y<;>simp[bef,emin]
 |some a=>
  cases y with
  |none=>simp[bef,emin]
  |some b=>
   simp only[bef,emin];rw[<- Bool.decide_and];apply a0s;rw[eq_iff_iff]
   split<;>omega
def a5e(m:Option Int)(l:List Rw)(t:Int):val (ahead m l) t=if bef t m=true then val l t else none:=by
 refine b2C (λr a h=>?_) (λr h=>?_) l
 ·unfold a1x at h
  split at h
  ·cases h;refine⟨?_,rfl⟩;unfold Rw.has;simp only[a62,Bool.and_assoc]
  ·cases h
 ·unfold a1x at h
  split at h
  ·cases h
  ·next hc=>
   unfold Rw.has;cases m with
   |none=>exact absurd rfl hc
   |some m=>
    simp only[bef,decide_eq_true_eq]at hc ⊢
    by_cases c1:r.b<=t
    ·rw[decide_eq_false (show ¬ t<m by lia),cN]
    ·rw[decide_eq_false c1];rfl
def b1D(m:Int)(l:List Rw)(t:Int):val (fromOn m l) t=if m<=t then val l t else none:=by
 have:(if m<=t then val l t else none)=if decide (m<=t)=true then val l t else none:=by simp
 rw[this];refine b2C (λr a h=>?_) (λr h=>?_) l
 ·unfold a4r at h
  split at h
  ·cases h;unfold Rw.has
   have:decide ((if m > r.b then m else r.b)<=t)=(decide (r.b<=t)&&decide (m<=t)):=by grind
   rw[this];cases decide (r.b<=t)<;>cases decide (m<=t)<;>simp
  ·cases h
 ·unfold a4r at h
  split at h
  ·cases h
  ·next hc=>
   unfold Rw.has;cases he:r.e with
   |none=>rw[he]at hc;exact absurd rfl hc
   |some e=>
    rw[he]at hc;simp only[bef]at hc ⊢
    by_cases c1:m<=t
    ·grind
    ·simp_all
def a1S(h:x∈ahead m l):∃r∈l,bef r.b m=true/\x=⟨r.b,emin r.e m,r.w⟩:=by
 obtain⟨r,d,a⟩:=bU.mp h;unfold a1x at a
 split at a
 ·next c=>cases a;exact⟨r,d,c,rfl⟩
 ·cases a
def a2T(h:x∈fromOn m l):∃r∈l,bef m r.e=true/\x=⟨if m > r.b then m else r.b,r.e,r.w⟩:=by
 obtain⟨r,d,a⟩:=bU.mp h;unfold a4r at a
 split at a
 ·next c=>cases a;exact⟨r,d,c,rfl⟩
 ·cases a
def b4x(hf:∀r s r' s',R r s->f r=some r'->f s=some s'->R r' s'):∀{l:List Rw},l.Pairwise R->(l.filterMap f).Pairwise R:=by intro z0;induction z0 with
 |nil=>intro _;simp
 |cons r l I0=>
  intro h;have b:=aH.mp h;have c:=I0 b.2;rw[bE];cases e:f r with
  |none=>exact c
  |some r'=>
   refine aH.mpr ⟨λs i=>?_,c⟩;obtain⟨a,d,g⟩:=bU.mp i;exact hf r a r' s (b.1 a d) e g
def b4y{x:Int}{m:Option Int}:∃e,emin (some x) m=some e/\e<=x:=by
 cases m with
 |none=>exact⟨x,rfl,bS _⟩
 |some o=>
  refine⟨_,rfl,?_⟩
  split<;>omega
def a7S(m:Option Int)(h:Rise l):Rise (ahead m l):=by
 refine⟨λx j=>?_,b4x (λr s t p d a c=>?_) h.2⟩
 ·obtain⟨r,k,i,rfl⟩:=a1S j
  show bef r.b _=true
  rw[a62,i,dE];exact h.1 r k
 ·unfold a1x at a c
  split at a
  ·split at c
   ·cases a;cases c;obtain⟨e,g,o⟩:=d;obtain⟨f,n,q⟩:=@b4y e m;exact⟨f,by rw[<- n,<- g],by show f<=s.b;lia⟩
   ·grind
  ·grind
def a9R(m:Int)(h:Rise l):Rise (fromOn m l):=by
 refine⟨λx j=>?_,b4x (λr s n k d a c=>?_) h.2⟩
 ·obtain⟨r,f,g,rfl⟩:=a2T j
  split
  ·exact g
  ·exact h.1 r f
 ·unfold a4r at a c
  split at a
  ·split at c
   ·cases a;cases c;obtain⟨e,i,o⟩:=d;exact⟨e,i,by show e<=(if m > s.b then m else s.b);split<;>omega⟩
   ·grind
  ·grind
def a5f(m:Option Int)(l:List Rw):(ahead m l).length<=l.length:=bW _ _
def b1E(m:Int)(l:List Rw):(fromOn m l).length<=l.length:=bW _ _
def b1F(hbe:b<=e):∀{l:List Rw},Rise l->(ahead (some b) l).length+(fromOn e l).length<=l.length+1:=by intro z0;induction z0 with
 |nil=>intro _;simp[ahead,fromOn]
 |cons r l I0=>
  intro h;have i:=I0 h.tail;have c:(ahead (some b) (r::l)).length=(if bef r.b (some b)=true then 1 else 0)+(ahead (some b) l).length:=by
   unfold ahead;unfold a1x
   split
   ·grind
   ·grind
  have a:(fromOn e (r::l)).length=(if bef e r.e=true then 1 else 0)+(fromOn e l).length:=by
   unfold fromOn;unfold a4r
   split
   ·grind
   ·grind
  rw[c,a,aI]
  by_cases c1:bef r.b (some b)=true
  ·by_cases c2:bef e r.e=true
   ·have:ahead (some b) l=[]:=by
     unfold ahead;rw[List.filterMap_eq_nil_iff];intro s g;unfold a1x;obtain⟨j,f,k⟩:=((aH.mp h.2).1) s g;rw[f]at c2;simp only[bef,decide_eq_true_eq]at c1 c2 ⊢;rw[if_neg (by lia)]
    have:=b1E e l
    simp_all
    lia
   ·grind
  ·rw[if_neg c1];split<;>lia
noncomputable def a1j(l:List Rw)(b:Int)(e:Option Int)(w:Option (List Z)):List Rw:=
 ahead (some b) l++(match w with |some w=>[⟨b,e,w⟩] |none=>[])++(match e with |some e=>fromOn e l |none=>[])
def a5g{l:List Rw}{b:Int}{e:Option Int}{w:Option (List Z)}(h:Rise l)(g:bef b e=true):Rise (a1j l b e w)/\(∀t,val (a1j l b e w) t=if (decide (b<=t)&&bef t e)=true then w else val l t)/\(a1j l b e w).length<=l.length+2:=by
 have hA:=a7S (some b) h;have eA:∀r∈ahead (some b) l,∃x,r.e=some x/\x<=b:=λr hr=>by
  obtain⟨r0,_,_,rfl⟩:=a1S hr
  show ∃x,emin r0.e (some b)=some x/\x<=b
  cases r0.e with
  |none=>exact⟨b,rfl,bS _⟩
  |some x=>refine⟨_,rfl,?_⟩;split<;>omega
 have hM:Rise (match w with |some w=>[(⟨b,e,w⟩:Rw)] |none=>[]):=by
  cases w with
  |none=>exact .nil
  |some w=>exact⟨λr hr=>by rw[ay.mp hr];exact g,by simp⟩
 have mM:∀r∈(match w with |some w=>[(⟨b,e,w⟩:Rw)] |none=>[]),r.b=b/\r.e=e:=λr hr=>by
  cases w with
  |none=>simp at hr
  |some w=>rw[ay.mp hr];exact⟨rfl,rfl⟩
 have vM:∀t,val (match w with |some w=>[(⟨b,e,w⟩:Rw)] |none=>[]) t=if (decide (b<=t)&&bef t e)=true then w else none:=λt=>by
  cases w with
  |none=>simp[a0U]
  |some w=>rw[a0i,a0U];rfl
 have app:∀{A B:List Rw},Rise A->Rise B->(∀r∈A,∀s∈B,Lt r s)->Rise (A++B):=λha hb hab=>⟨λr hr=>(au.mp hr).elim (ha.1 r) (hb.1 r),aT.mpr ⟨ha.2,hb.2,hab⟩⟩;unfold a1j;cases e with
 |none=>
  dsimp only;rw[a9];refine⟨app hA hM λr hr s hs=>?_,λt=>?_,?_⟩
  ·obtain⟨x,a1,a2⟩:=eA r hr;exact⟨x,a1,by rw[(mM s hs).1];exact a2⟩
  ·rw[a0B,a5e,vM];simp only[bef,dE,decide_eq_true_eq]
   by_cases c:b<=t
   ·rw[if_neg (by omega),if_pos c,if_pos c];rfl
   ·rw[if_pos (by omega),if_neg c,if_neg c];simp
  ·rw[aJ]
   have:=a5f (some b) l
   cases w<;>simp<;>omega
 |some e=>
  have hbe:b<e:=by simpa[bef]using g
  have hF:=a9R e h;have bF:∀s∈fromOn e l,e<=s.b:=λs hs=>by
   obtain⟨r0,_,_,rfl⟩:=a2T hs
   show e<=(if e > r0.b then e else r0.b)
   split<;>omega
  dsimp only;refine⟨app (app hA hM λr hr s hs=>?_) hF λr hr s hs=>?_,λt=>?_,?_⟩
  ·obtain⟨x,a1,a2⟩:=eA r hr;exact⟨x,a1,by rw[(mM s hs).1];exact a2⟩
  ·have hs':=bF s hs;rcases au.mp hr with hr |hr
   ·obtain⟨x,a1,a2⟩:=eA r hr;exact⟨x,a1,by omega⟩
   ·exact⟨e,(mM r hr).2,hs'⟩
  ·rw[a0B,a0B,a5e,vM,b1D];simp only[bef,bn,decide_eq_true_eq]
   by_cases c1:b<=t
   ·by_cases c2:t<e
    ·rw[if_neg (by omega),if_pos ⟨c1,c2⟩,if_neg (by omega),if_pos ⟨c1,c2⟩];simp
    ·rw[if_neg (by omega),if_neg (by omega),if_pos (by omega),if_neg (by omega)];rfl
   ·rw[if_pos (by omega),if_neg (by omega),if_neg (by omega),if_neg (by omega)];simp
  ·rw[aJ,aJ]
   have:=b1F (b:=b) (e:=e) (by omega) h
   cases w<;>simp<;>omega
noncomputable def pcs(f:Int->Option (List Z)):List Int->List Rw
 |[]=>[]
 |b::bs=>(match f b with |some w=>[⟨b,bs.head?,w⟩] |none=>[])++pcs f bs
def a4s:∀{bs:List Int}{r:Rw},r∈pcs f bs->r.b∈bs/\f r.b=some r.w:=by intro z0;induction z0 with
 |nil=>intro _ h;simp[pcs]at h
 |cons b bs I0=>
  intro r h;rcases au.mp h with h |h
  ·cases e:f b with
   |none=>rw[e]at h;simp at h
   |some w=>rw[e]at h;rw[ay.mp h];exact⟨.head _,e⟩
  ·obtain⟨c,a⟩:=I0 h;exact⟨.tail _ c,a⟩
def a2i(f:Int->Option (List Z)):∀bs:List Int,(pcs f bs).length<=bs.length:=by intro z0;induction z0 with
 |nil=>simp[pcs]
 |cons b bs I0=>
  have:=I0
  unfold pcs;cases f b<;>simp<;>omega
def a4t(f:Int->Option (List Z)):∀{bs:List Int},bs.Pairwise (·<·)->Rise (pcs f bs):=by intro z0;induction z0 with
 |nil=>intro _;simp[pcs];exact .nil
 |cons b bs I0=>
  intro h;have g:=aH.mp h;have i:=I0 g.2;unfold pcs;cases e:f b with
  |none=>simpa using i
  |some w=>
   refine⟨λr a=>?_,aT.mpr ⟨by simp,i.2,λr a s j=>?_⟩⟩
   ·rcases au.mp a with a |a
    ·rw[ay.mp a]
     show bef b bs.head?=true
     cases bs with
     |nil=>rfl
     |cons c cs=>simpa[bef]using g.1 c (.head _)
    ·exact i.1 r a
   ·rw[ay.mp a];have d:=(a4s j).1;cases bs with
    |nil=>simp at d
    |cons c cs=>
     refine⟨c,rfl,?_⟩;rcases ax.mp d with q |q
     ·lia
     ·have:=(aH.mp g.2).1 _ q
      lia
def a9S:∀{bs:List Int},bs.Pairwise (·<·)->(∀t b,b∈bs->b<=t->(∀c∈bs,c<=t->c<=b)->f t=f b)->∀t,val (pcs f bs) t=if (bs.any λb=>decide (b<=t))=true then f t else none:=by intro z0;induction z0 with
 |nil=>intro _ _ t;simp[pcs,a0U]
 |cons b bs I0=>
  intro h hf t;have j:=aH.mp h;have p:=I0 j.2 (λt c a g o=>hf t c (.tail _ a) g λd k l=>by
   rcases ax.mp k with rfl |k
   ·have:=j.1 c a;lia
   ·exact o d k l) t
  unfold pcs;rw[a0B,p,ci]
  by_cases c1:b<=t
  ·rw[decide_eq_true c1,Bool.true_or,if_pos rfl];cases c2:bs.any λb=>decide (b<=t) with
   |true=>
    obtain⟨c,a,g⟩:=b9.mp c2;have g:c<=t:=by simpa using g
    rw[if_pos rfl]
    have:val (match f b with |some w=>[(⟨b,bs.head?,w⟩:Rw)] |none=>[]) t=none:=by
     cases f b with
     |none=>rfl
     |some w=>
      rw[a0i,a0U];cases bs with
      |nil=>simp at a
      |cons d ds=>
       have k:d<=t:=by
        rcases ax.mp a with rfl |a
        ·exact g
        ·have:=(aH.mp j.2).1 c a;lia
       have n:(⟨b,(d::ds).head?,w⟩:Rw).has t=false:=by
        unfold Rw.has;simp only[fG,bef];rw[decide_eq_false (show ¬ t<d by lia),cN]
       rw[n]
       rfl
    rw[this];rfl
   |false=>
    rw[if_neg (by decide)];have i:∀c∈bs,¬ c<=t:=λc a g=>by grind
    have m:=hf t b (.head _) c1 λc a g=>by
     rcases ax.mp a with rfl |a
     ·lia
     ·exact absurd g (i c a)
    rw[m];cases e:f b with
    |none=>rfl
    |some w=>
     rw[a0i,a0U]
     have:(⟨b,bs.head?,w⟩:Rw).has t=true:=by
      unfold Rw.has;simp only;rw[decide_eq_true c1];cases bs with
      |nil=>rfl
      |cons d ds=>simp only[fG,bef,bM,decide_eq_true_eq];have:=i d (.head _);lia
     rw[this];rfl
  ·rw[decide_eq_false c1,eM];have i:(bs.any λb=>decide (b<=t))=false:=cK.mpr λc a=>by grind
   rw[i,if_neg (by decide)]
   have:val (match f b with |some w=>[(⟨b,bs.head?,w⟩:Rw)] |none=>[]) t=none:=by
    cases f b with
    |none=>rfl
    |some w=>
     rw[a0i,a0U,a3Q (by show t<b;lia)]
     rfl
   rw[this];rfl
noncomputable def lastAt(puts:List Rw)(t:Int):Z:=match puts.reverse.find? (·.has t) with
 |some r=>r.w.headD .non
 |none=>.non
noncomputable def optW(z:Z):Option (List Z):=if z=.non then none else some [z]
def a55(puts:List Rw)(p:Rw)(t:Int):lastAt (puts++[p]) t=if p.has t=true then p.w.headD .non else lastAt puts t:=by
 unfold lastAt;rw[cj,cM,List.reverse_nil,cT,dS,bJ];cases p.has t<;>rfl
def a0G(rows:List Rw)(bs:List Int):Prop:=bs.Pairwise (·<·)/\∀x,x∈bs↔∃r∈rows,x=r.b\/r.e=some x
def a63{r:Rw}(h:b<=t)(h1:r.b<=t->r.b<=b)(h2:∀e,r.e=some e->e<=t->e<=b):r.has t=r.has b:=by
 unfold Rw.has;have a:decide (r.b<=t)=decide (r.b<=b):=a0s (by grind)
 congr 1
 cases he:r.e with
 |none=>rfl
 |some e=>
  have:=h2 e he
  exact a0s (by grind)
def a3R:∀{l:List Rw},(∀r∈l,f r=g r)->l.find? f=l.find? g:=by intro z0;induction z0 with
 |nil=>intro _;exact rfl
 |cons r l I0=>intro h;rw[bJ,bJ,h r (.head _),I0 λs a=>h s (.tail _ a)]
def a5h{puts:List Rw}{bs:List Int}(hb:a0G puts bs)(t b:Int)(_:b∈bs)(hbt:b<=t)(hm:∀c∈bs,c<=t->c<=b):lastAt puts t=lastAt puts b:=by
 unfold lastAt;rw[a3R λr d=>?_];have a:r∈puts:=by simp_all
 exact a63 hbt (λh=>hm _ ((hb.2 _).mpr ⟨r,a,.inl rfl⟩) h) λe f h=>hm _ ((hb.2 _).mpr ⟨r,a,.inr f⟩) h
def a56(hb:a0G puts bs)(t:Int)(h:(bs.any λb=>decide (b<=t))=false):lastAt puts t=.non:=by
 unfold lastAt
 have:puts.reverse.find? (·.has t)=none:=by
  rw[cX];intro r c;have a:r∈puts:=by simp_all
  have:=cK.mp h r.b ((hb.2 _).mpr ⟨r,a,.inl rfl⟩)
  rw[a3Q (by simp_all)]
  decide
 rw[this]
def b4z(hb:a0G puts bs):Can (join (pcs (λt=>optW (lastAt puts t)) bs))/\(∀t,val (join (pcs (λt=>optW (lastAt puts t)) bs)) t=optW (lastAt puts t))/\(join (pcs (λt=>optW (lastAt puts t)) bs)).length<=bs.length /\
  ∀r∈join (pcs (λt=>optW (lastAt puts t)) bs),∃t,optW (lastAt puts t)=some r.w:=by
 have h:=a2h (a4t (λt=>optW (lastAt puts t)) hb.1);refine⟨h.1,λt=>?_,aD h.2.2.1 (a2i _ _),λr f=>?_⟩
 ·rw[h.2.1 t,a9S hb.1 λt b d a g=>by rw[a5h hb t b d a g]]
  split
  ·rfl
  ·next c=>rw[a56 hb t (by simpa using c)];rfl
 ·obtain⟨e,d,a⟩:=h.2.2.2 r f;exact⟨e.b,by rw[a];exact (a4s d).2⟩
noncomputable def a5i(l:List Rw)(b:Int)(e:Option Int)(w:Option (List Z)):List Rw:=join (a1j l b e w)
def b1G{l:List Rw}{b:Int}{e:Option Int}{w:Option (List Z)}(h:Rise l)(g:bef b e=true):Can (a5i l b e w)/\(∀t,val (a5i l b e w) t=if (decide (b<=t)&&bef t e)=true then w else val l t)/\(a5i l b e w).length<=l.length+2:=by
 have a:=a5g (w:=w) h g;have j:=a2h a.1;exact⟨j.1,λt=>by rw[<- a.2.1 t];exact j.2.1 t,aD j.2.2.1 a.2.2⟩
def okW(w:List Z):Prop:=w≠[]/\w.length<=4/\w.all (flat 4)=true
def OkR(l:List Rw):Prop:=∀r∈l,okW r.w
def a0q:∀{n m:Nat}{z:Z},n<=m->flat n z=true->flat m z=true:=by
 intro n
 induction n with
 |zero=>intro m z _ h;cases z<;>first | (simp[flat]at h;done) | (cases m<;>simp_all[flat])
 |succ n ih=>
  intro m z b h;cases m with
  |zero=>lia
  |succ m=>
   cases z with
   |tup ws=>
    simp only[flat,bA]at h ⊢;exact λx a=>ih (by lia) (h x a)
   |_=>first | (simp[flat];done) | (simp[flat]at h;done) | (simp only[flat]at h ⊢;exact h)
def a64{ws:List Z}(hm:n<=m)(h:ws.all (flat n)=true):ws.all (flat m)=true:=by
 rw[bA]at h ⊢;exact λx a=>a0q hm (h x a)
def a9T:flat n (oz e)=true:=by
 cases e<;>cases n<;>rfl
def a4u:flat n (.int i)=true:=by cases n<;>rfl
def b1H:flat n .non=true:=by cases n<;>rfl
def b1I{r:Rw}(h:okW r.w):flat 5 r.z=true:=by
 show ((Z.int r.b::oz r.e::r.w).all _)=true
 rw[aS,aS,a4u,a9T,h.2.2];rfl
def a9U(h:OkR l):(l.map Rw.z).all (flat 8)=true:=by
 rw[bA];intro x b;obtain⟨r,a,rfl⟩:=aM.mp b;exact a0q (by simp) (b1I (h r a))
noncomputable def wz:Option (List Z)->Z
 |none=>.non
 |some w=>w.headD .non
def b7o(h:R (.bl (decide (e=some b))) G):zEq id (oz e) (.int b) G R:=by
 cases e with
 |none=>
  refine (⟨b1H,a4u,?_⟩)
  have:decide (Z.non=Z.int b)=decide (none=some b):=by simp
  exact h
 |some e=>
  refine b6u ?_
  have:decide (e=b)=decide (some e=some b):=a0s (by simp)
  rw[this];exact h
def b9t(h1:flat 8 (.tup xs)=true)(h2:flat 8 (.tup ys)=true)(h:R (.bl (f (decide (xs=ys)))) G):zEq f (.tup xs) (.tup ys) G R:=by
 refine (⟨h1,h2,?_⟩);rw[a0s (Z.tup.injEq _ _)];exact h
def a2H:P3:=λws G R=>∃x y,ws=[oz x,oz y]/\R (oz (emin x y)) G
set_option tactic.hygienic true in
def a2I(T:Txt K mg base a):Cal P w K mg base CX0 1 "earlier_end" (lowP K a2H):=by
 refine fnc 2 (N:=["end","other"]) T.br (T.f 3 _ rfl) ?_;walk_at "in";refine⟨_,(by ac_rfl),?_⟩;obtain⟨x,y,rfl,q⟩:=h;cases x with
 |none=>
  symm;cases y<;>exact q
 |some x=>
  cases y with
  |none=>
   symm;exact q
  |some y=>
   symm;exact q
noncomputable def over(r:Rw)(m:Int):Bool:=match r.e with
 |none=>false
 |some e=>decide (e<=m)
def a5j:P3:=λws G R=>∃r m,ws=[Rw.z r,.int m]/\R (.bl (over r m)) G
set_option tactic.hygienic true in
def a5k(T:Txt K mg base a):Cal P w K mg base CX0 1 "is_over" (lowP K a5j):=by
 refine fnc 2 (N:=["stretch","moment"]) T.br (T.f 9 _ rfl) ?_;walk_at "in";refine⟨_,(by ac_rfl),?_⟩;obtain⟨⟨b,e,w⟩,m,rfl,q⟩:=h;cases e with
 |none=>
  symm;exact a1B at1 (by symm;exact q)
 |some e=>
  symm;refine a1B at1 ?_;symm;refine a1B at1 ?_;symm;exact q
def a1H{α β:Type}{l:List α}{g:α->Z}{g':β->Z}(f:α->Option β)(hok:∀ys,ok (put G1 D (.lst ys)))(hz:l.length<=1000)
  (turn:∀x,x∈l->∀(ys:List Z)(K1:K3)(K2:Hq->Prop),(∀y,f x=some y->K1 (g' y) (put G1 D (.lst ys)))->(f x=none->K2 (put G1 D (.lst ys)))->∃σ',a3k pt (g x) (cap3 cap σ)=some σ'/\tt σ' (put G1 D (.lst ys)) λb G4=>if b=true then te σ' G4 K1 else K2 G4)
  (fin:R (.ref D) (put G1 D (.lst ((l.filterMap f).map g')))):LCB (l.map g) ok cap pt tt te σ R D G1:=by
 refine a8P (λi c G=>c=((l.take i).filterMap f).map g'/\G=put G1 D (.lst c)) ⟨by simp,rfl⟩ ?_ ?_ ?_
 ·simp_all
 ·rintro i x c G d ⟨e,rfl⟩;rw[aA]at d;cases hx':l[i]? with
  |none=>rw[hx']at d;cases d
  |some a=>
   rw[hx']at d;cases d;refine turn a (aL hx') c _ _ (λy j=>⟨a0a,?_,?_,?_⟩) λh=>⟨?_,rfl⟩
   ·rw[e,aq];exact dq (aD (bW _ _) (by rw[aK];lia)) (a0g (av 1000))
   ·rw[a00 hx',j,e,aG];rfl
   ·rw[a18]
   ·rw[a00 hx',h,e];simp
 ·simp_all
def One(l:List Rw):Prop:=∀r∈l,∃x,r.w=[x]
def a4v:P3:=λws G R=>∃p l m,ws=[.ref p,oz m]/\G p=some (.lst (l.map Rw.z))/\One l/\l.length<=1000/\∀t,G t=none->R (.ref t) (put G t (.lst ((ahead m l).map Rw.z)))
set_option tactic.hygienic true in
def a4w(T:Txt K mg base a):Cal P w K mg base CX0 2 "ahead_of" (lowP K a4v):=by
 refine fnc 2 (N:=["line","moment"]) T.br (T.f 4 _ rfl) ?_;walk_at "in";refine⟨_,(a0D (a2a (q_l ["begin","end","worth","moment"] [none,none,none,some 1] (.tp [0,1,2])))),?_⟩;obtain⟨p,l,m,rfl,hp,h1,hz,q⟩:=h;symm;refine a09 hp ?_;intro D hD;refine a1H (a1x m) (λys=>a0b hp hD) hz ?_ (q D hD);intro r hr ys K1 K2 k1 k2;obtain⟨x,hx⟩:=h1 r hr;obtain⟨b,e,w⟩:=r;cases hx;refine⟨_,rfl,?_⟩;cases m with
 |none=>
  symm;refine⟨e,none,rfl,?_⟩;symm;refine⟨lenK rfl,?_⟩;exact k1 _ rfl
 |some m=>
  symm;refine ifD (λc=>?_) λc=>?_
  ·symm;refine⟨e,some m,rfl,?_⟩;symm;refine⟨lenK rfl,?_⟩;refine k1 ⟨b,emin e (some m),[x]⟩ ?_;unfold a1x;rw[if_pos (by simpa[bef]using c)]
  ·refine k2 ?_;unfold a1x;rw[if_neg (by simpa[bef]using c)]
def a5l:P3:=λws G R=>∃p l m,ws=[.ref p,.int m]/\G p=some (.lst (l.map Rw.z))/\One l/\l.length<=1000/\∀t,G t=none->R (.ref t) (put G t (.lst ((fromOn m l).map Rw.z)))
set_option tactic.hygienic true in
def a5m(T:Txt K mg base a):Cal P w K mg base CX0 1 "from_on" (lowP K a5l):=by
 refine fnc 2 (N:=["line","moment"]) T.br (T.f 6 _ rfl) ?_;walk_at "in";refine⟨_,(a0D (a2a (q_l ["begin","end","worth","moment"] [none,none,none,some 1] (.tp [0,1,2])))),?_⟩;obtain⟨p,l,m,rfl,hp,h1,hz,q⟩:=h;symm;refine a09 hp ?_;intro D hD;refine a1H (a4r m) (λys=>a0b hp hD) hz ?_ (q D hD);intro r hr ys K1 K2 k1 k2;obtain⟨x,hx⟩:=h1 r hr;obtain⟨b,e,w⟩:=r;cases hx;refine⟨_,rfl,?_⟩;cases e with
 |none=>
  symm;refine⟨lenK rfl,?_⟩;exact k1 ⟨if m > b then m else b,none,[x]⟩ rfl
 |some e=>
  symm;refine ifD (λc=>?_) λc=>?_
  ·symm;refine⟨lenK rfl,?_⟩;refine k1 ⟨if m > b then m else b,some e,[x]⟩ ?_;unfold a4r;rw[if_pos (by simpa[bef]using c)]
  ·refine k2 ?_;unfold a4r;rw[if_neg (by simpa[bef]using c)]
def a9V(h:0<n):ixN n (-1)=some (n-1):=by grind [ixN]
def a4x{α:Type}{l:List α}{x:α}(h:l.getLast?=some x):atI l (-1)=some x:=by
 have a:l≠[]:=λz=>by subst z;simp at h
 unfold atI;rw[a9V (cJ.mpr a)]
 show l[l.length-1]?=some x
 rw[<- fH];exact h
def b1J{α:Type}{l:List α}{x y:α}(h:l.getLast?=some x):l.set (l.length-1) y=l.dropLast++[y]:=by
 have a:=a1R h;generalize l.dropLast=i at a;subst a;simp
def sIx2{a b:Z}{w:List Z}:HT.sIx (a::b::w).length 0 (some 2)=2:=by
 have:=HT.sIx_nat (a::b::w).length 0 2
 rw[show ((2:Nat):Int)=2 from rfl]at this;rw[this];simp
def cut2{a b:Z}{w:List Z}:cutZ (a::b::w) (some 2) none=w:=by
 unfold cutZ;rw[sIx2,HT.sIx_none];simp
def a9W{a b:Z}{w:List Z}:¬ (HT.sIx (a::b::w).length 0 (some 2)=0/\HT.sIx (a::b::w).length (a::b::w).length none=(a::b::w).length):=by
 rw[sIx2];intro h;exact absurd h.1 (by decide)
def okW0(w:List Z):Prop:=w.length<=4/\w.all (flat 4)=true
def OkR0(l:List Rw):Prop:=∀r∈l,okW0 r.w
def OkR.weak(h:OkR l):OkR0 l:=λr hr=>(h r hr).2
def a0H:P3:=λws G R=>∃p ps,ws=[.ref p]/\G p=some (.lst (ps.map Rw.z))/\OkR0 ps/\ps.length<=1000/\∀t,G t=none->R (.ref t) (put G t (.lst ((join ps).map Rw.z)))
def b4A{G:Hq}{R:K3}{a b:Z}{w:List Z}(h:R (.tup w) G):zSl (.tup (a::b::w)) (some 2) none G R:=b3F a9W (by rw[cut2];exact h)
def a9X{w:List Z}(h:okW0 w):flat 8 (.tup w)=true:=a64 (by simp) h.2
set_option tactic.hygienic true in
theorem a65:∀(ps told:List Rw),OkR0 told->OkR0 ps->OkR0 (ps.foldl jn told)
 |[],_,h,_=>h
 |p::ps,told,h,h'=>by
  refine a65 ps _ (λr a=>?_) λr a=>h' r (.tail _ a);unfold jn at a
  split at a
  ·next l hl=>
   split at a
   ·rcases au.mp a with a |a
    ·exact h r (fI _ a)
    ·rw[ay.mp a];exact h' p (.head _)
   ·rcases au.mp a with a |a
    ·exact h r a
    ·rw[ay.mp a];exact h' p (.head _)
  ·rcases au.mp a with a |a
   ·exact h r a
   ·rw[ay.mp a];exact h' p (.head _)
def b7p(told:List Rw)(p:Rw):(jn told p).length<=told.length+1:=by
 unfold jn
 split
 ·split<;>simp
 ·simp
def b1K:∀(ps told:List Rw),(ps.foldl jn told).length<=told.length+ps.length:=by intro z0;induction z0 with
 |nil=>intro told;simp
 |cons p ps I0=>
  intro told;have b:=I0 (jn told p);have a:=b7p told p
  show (ps.foldl jn (jn told p)).length<=_
  rw[aI]
  lia
def a9Y{ps:List Rw}(h:ps[i]?=some p):(ps.take (i+1)).foldl jn []=jn ((ps.take i).foldl jn []) p:=by
 rw[bV,h];simp
set_option tactic.hygienic true in
def a1l(T:Txt K mg base a):Cal P w K mg base CX0 1 "with_alike_joined" (lowP K a0H):=by
 refine fnc 1 (N:=["pieces","told","piece"]) T.br (T.f 5 _ rfl) ?_;walk_at "in";refine⟨_,(a0e (by ac_rfl)
  (a0e (a2F (pt:=(.nm 2)) gi.never rfl (by ac_rfl) (p_nm (nmI 2 nd))
  (a0D (z_if (by ac_rfl)
  (a0D (a6w (by ac_rfl) (qv 1) (by ac_rfl) b3B))
  (by ac_rfl))))
  (by ac_rfl))),?_⟩
 obtain⟨p,ps,rfl,hp,hok,hz,q⟩:=h;symm;refine⟨lenK rfl,λt ht=>?_⟩;symm;refine a09 (a0b hp ht) ?_;refine a0R (λi σ G'=>∃v,σ=[some (.ref p),some (.ref t),v]/\G'=put G t (.lst (((ps.take i).foldl jn []).map Rw.z))) ⟨_,rfl,by simp⟩ (by rintro i σ G' _ ⟨v,_,e⟩;exact by rw[e];exact a0b hp ht) ?_ ?_
 ·rintro i x σ G' hx ⟨v,rfl,rfl⟩;rw[aA]at hx;cases hx':ps[i]? with
  |none=>rw[hx']at hx;cases hx
  |some r=>
   rw[hx']at hx;cases hx;have hr:=hok r (aL hx');have hot:OkR0 ((ps.take i).foldl jn []):=a65 _ _ (λr hr=>by simp at hr) λr hr=>hok r (bf hr);have hlt:=b1K (ps.take i) [];rw[aK]at hlt;have hi:=(az.mp hx').1;rw[a9Y hx'];generalize (ps.take i).foldl jn []=told at hot hlt ⊢;simp only[List.length_nil]at hlt;refine⟨_,rfl,?_⟩;have app:∀G',G'=put G t (.lst (told.map Rw.z))->jn told r=told++[r]->a2e (.ref t) [r.z] G' (λ_ G1=>∃v,([some (.ref p),some (.ref t),some r.z]:S3)=[some (.ref p),some (.ref t),v]/\G1=put G t (.lst ((jn told r).map Rw.z))):=by
    rintro _ rfl e;refine a0x a0a (by rw[aq];exact a0g (by omega)) ⟨_,rfl,?_⟩;rw[a18,e,aG]
    rfl
   symm;refine a81 a0a ?_;cases hl:told.getLast? with
   |none=>
    have e0:told=[]:=fF.mp hl;subst e0;refine ifF ?_;symm;refine a0V a0a ?_;symm;exact app _ rfl (by unfold jn;rw[hl])
   |some k=>
    have hne:told≠[]:=λz=>by subst z;simp at hl
    have hlm:(told.map Rw.z).getLast?=some k.z:=by rw[fJ,hl];rfl
    have he:(told.map Rw.z).isEmpty=false:=by cases told with |nil=>exact absurd rfl hne |cons _ _=>rfl
    have hk:=hot k (List.mem_of_getLast? hl);rw[he];refine ifT ?_;symm;refine a0E a0a (a4x hlm) ?_;symm;refine a1B at1 ?_;symm;refine a1B at0 ?_;refine b7o ?_;symm;refine ifD (λc1=>?_) λc1=>?_
    ·symm;refine a0E a0a (a4x hlm) ?_;symm;refine b4A ?_;symm;refine b4A ?_;refine b9t (a9X hk) (a9X hr) ?_;symm;refine ifD (λc2=>?_) λc2=>?_
     ·symm;refine a0E a0a (a4x hlm) ?_;symm;refine a1B at0 ?_;symm;refine a1B at1 ?_;symm;refine⟨lenK rfl,?_⟩;symm;refine b4A ?_;refine b6s (by simp) (a03 (by have:=hr.1;simp;omega)) ?_;symm;refine b3G a0a (a9V (by rw[aq];exact cJ.mpr hne)) ?_;refine⟨_,rfl,?_⟩;rw[a18,b1J hlm]
      congr 1
      unfold jn;rw[hl];dsimp only;rw[if_pos ⟨c1,c2⟩,aG,List.map_dropLast]
      rfl
     ·symm;refine a0V a0a ?_;symm;exact app _ rfl (by unfold jn;rw[hl];dsimp only;rw[if_neg λz=>c2 z.2])
    ·refine ifF ?_;symm;refine a0V a0a ?_;symm;exact app _ rfl (by unfold jn;rw[hl];dsimp only;rw[if_neg λz=>c1 z.1])
 ·rintro σ G' ⟨v,rfl,rfl⟩;symm;rw[aq,bp];exact q t ht
def b1L(h:over r m=true):r.has m=false:=by
 unfold over at h;unfold Rw.has;cases he:r.e with
 |none=>rw[he]at h;cases h
 |some e=>
  rw[he]at h;simp at h;simp only[bef];rw[decide_eq_false (show ¬ m<e by lia),cN]
def a9Z(h:m<=m')(o:over r m=true):over r m'=true:=by
 unfold over at o ⊢;cases he:r.e with
 |none=>rw[he]at o;cases o
 |some e=>rw[he]at o;simp at o ⊢;lia
theorem a66:∀{l:List Rw}{m:Int}{k:Nat},(∀(i:Nat) r,i<k->l[i]?=some r->over r m=true)->val l m=val (l.drop k) m
 |l,m,0,_=>rfl
 |[],m,k+1,_=>rfl
 |r::l,m,k+1,h=>by
  rw[a0i,b1L (h 0 r (by simp) rfl),if_neg (by simp),List.drop_succ_cons];exact a66 λi s a e=>h (i+1) s (by lia) (by grind)
def b1M(h:Rise (r::l))(o:over r m=false):val (r::l) m=if r.b<=m then some r.w else none:=by
 rw[a0i];have d:bef m r.e=true:=by
  unfold over at o;cases he:r.e with
  |none=>rfl
  |some e=>rw[he]at o;simp at o;simp only[bef,decide_eq_true_eq];omega
 by_cases c:r.b<=m
 ·have:r.has m=true:=by unfold Rw.has;rw[d,decide_eq_true c];rfl
  rw[this,if_pos rfl,if_pos c]
 ·rw[a3Q (by lia),if_neg (by simp),if_neg c];refine a04 λs a=>a3Q ?_
  have:=((aH.mp h.2).1 s a).b (h.1 r (.head _))
  lia
def Rise.drop(h:Rise l)(k:Nat):Rise (l.drop k):=⟨λr a=>h.1 r (dR a),h.2.sublist (dP _ _)⟩
def drop_get{α:Type}{l:List α}{x:α}(h:l[k]?=some x):l.drop k=x::l.drop (k+1):=by
 obtain⟨b,a⟩:=az.mp h;rw[cQ b,a]
def a3o:P3:=λws G R=>Ex4 λ(p q:Addr) (l:List Rw) (ms:List Int)=>ws=[.ref p,.ref q]/\G p=some (.lst (l.map Rw.z))/\G q=some (.lst (ms.map Z.int))/\Rise l/\OkR l/\l.length<=1000/\ms.Pairwise (·<=·)/\ms.length<=1000 /\
 ∀t,G t=none->R (.ref t) (put G t (.lst (ms.map λm=>wz (val l m))))
def a57{l:List Rw}{k:Nat}(h:l[k]?=some r):atI (l.map Rw.z) (k:Int)=some r.z:=a05 (by simp_all)
def take_snoc{α:Type}{l:List α}{x:α}(h:l[i]?=some x):l.take (i+1)=l.take i++[x]:=by rw[bV,h];rfl
set_option tactic.hygienic true in
def a3p(T:Txt K mg base a):Cal P w K mg base CX0 2 "worths_in" (lowP K a3o):=by
 refine fnc 2 (N:=["line","moments","worths","at","moment"]) T.br (T.f 10 _ rfl) ?_;walk_at "in";refine⟨_,(a0e (by ac_rfl)
  (a0e (by ac_rfl)
  (a0e (a2F (pt:=(.nm 4)) gi.never rfl (by ac_rfl) (p_nm (nmI 4 nd))
  (a5L (a5M gi.never (by ac_rfl)
  (by ac_rfl))
  (by ac_rfl)))
  (by ac_rfl)))),?_⟩
 obtain⟨p,q,l,ms,rfl,hp,hq,hr,hok,hz,hm,hmz,fin⟩:=h;symm;refine⟨lenK rfl,λt ht=>?_⟩;symm;refine a09 (a0b hq ht) ?_;refine a0R (λi σ G'=>∃(k:Nat)(v:Option Z),k<=l.length/\(∀(j:Nat) r m,j<k->l[j]?=some r->ms[i]?=some m->over r m=true)/\σ=[some (.ref p),some (.ref q),some (.ref t),some (.int k),v]/\G'=put G t (.lst ((ms.take i).map λm=>wz (val l m)))) ⟨0,_,aR _,λj r m hj=>by omega,rfl,by simp⟩ (by rintro i σ G' _ ⟨_,_,_,_,_,e⟩;exact by rw[e];exact a0b hq ht) ?_ ?_
 ·rintro i x σ G' hx ⟨k,v,hk,hov,rfl,rfl⟩;rw[aA]at hx;cases hx':ms[i]? with
  |none=>rw[hx']at hx;cases hx
  |some m=>
   rw[hx']at hx;cases hx;refine⟨_,rfl,?_⟩;symm;have hp':put G t (.lst ((ms.take i).map λm=>wz (val l m))) p=some (.lst (l.map Rw.z)):=a0b hp ht;generalize hG:put G t (.lst ((ms.take i).map λm=>wz (val l m)))=G1 at hp' ⊢;refine a5R (fun σ' G'=>∃k':Nat,k'<=l.length/\(∀(j:Nat) r,j<k'->l[j]?=some r->over r m=true)/\(∀r,l[k']?=some r->over r m=false)/\σ'=[some (.ref p),some (.ref q),some (.ref t),some (.int k'),some (.int m)]/\G1=G') ?_ ?_
   ·refine⟨λn σ' G'=>∃k':Nat,n+k'=l.length/\(∀(j:Nat) r,j<k'->l[j]?=some r->over r m=true)/\σ'=[some (.ref p),some (.ref q),some (.ref t),some (.int k'),some (.int m)]/\G1=G',⟨l.length-k,k,by omega,λj r hj e=>hov j r m hj e hx',rfl,rfl⟩,?_⟩;rintro n σ' G' ⟨k',hn,ho,rfl,rfl⟩;symm;refine a3G hp' ?_;symm;refine ifD (λc=>?_) λc=>?_
    ·rw[aq]at c;have hlt:k'<l.length:=by omega
     have hg:=aC hlt;symm;refine a0E hp' (a57 hg) ?_;symm;refine⟨_,_,rfl,?_⟩;symm;refine ifB (λc2=>?_) λc2=>?_
     ·symm;refine⟨n-1,by omega,k'+1,by omega,λj r hj e=>?_,rfl,rfl⟩
      by_cases hjk:j<k'
      ·exact ho j r hjk e
      ·have:j=k':=by omega
       subst this;rw[hg]at e;cases e;exact c2
     ·exact⟨k',by omega,ho,λr e=>by rw[hg]at e;cases e;exact c2,rfl,rfl⟩
    ·rw[aq]at c;refine ifF ?_;exact⟨k',by omega,ho,λr e=>by have:=(az.mp e).1;omega,rfl,rfl⟩
   ·rintro σ' G' ⟨k',hk',ho,hn,rfl,rfl⟩;have hv:val l m=val (l.drop k') m:=a66 ho;have nxt:∀w:Z,w=wz (val l m)->a2e (.ref t) [w] G1 (λ_ G2=>∃(k:Nat)(v:Option Z),k<=l.length/\(∀(j:Nat) r m,j<k->l[j]?=some r->ms[i+1]?=some m->over r m=true)/\([some (.ref p),some (.ref q),some (.ref t),some (.int k'),some (.int m)]:S3)=[some (.ref p),some (.ref q),some (.ref t),some (.int k),v]/\G2=put G t (.lst ((ms.take (i+1)).map λm=>wz (val l m)))):=by
     rintro w rfl;subst hG;have hi:=(az.mp hx').1;refine a0x a0a (by rw[aq,aK];exact a0g (by omega)) ⟨k',_,hk',λj r m' hj e e'=>a9Z ?_ (ho j r hj e),rfl,?_⟩
     ·obtain⟨h1,e1⟩:=az.mp hx';obtain⟨h2,e2⟩:=az.mp e';rw[<- e1,<- e2];exact bZ.mp hm _ _ h1 h2 (by omega)
     ·rw[a18,take_snoc hx',aG];rfl
    have ht1:∃ws,G1 t=some (.lst ws):=by rw[<- hG];exact⟨_,a0a⟩
    obtain⟨wt,ht1⟩:=ht1;symm;refine a3G hp' ?_;symm;refine ifD (λc=>?_) λc=>?_
    ·rw[aq]at c;have hlt:k'<l.length:=by omega
     have hg:=aC hlt;have hv2:=b1M (by rw[<- drop_get hg];exact hr.drop k') (hn _ hg);rw[<- drop_get hg,<- hv]at hv2;symm;refine a0E hp' (a57 hg) ?_;symm;refine a1B at0 ?_;symm;refine ifD (λc2=>?_) λc2=>?_
     ·symm;refine a0V ht1 ?_;symm;refine a0E hp' (a57 hg) ?_;symm;have hw:=hok _ (bz hlt);obtain⟨x,xs,ex⟩:∃x xs,(l[k']).w=x::xs:=by
       cases e:(l[k']).w with
       |nil=>exact absurd e hw.1
       |cons x xs=>exact⟨x,xs,rfl⟩
      refine a1B (w:=x) (by show atI (_::_::(l[k']).w) 2=some x;rw[ex];exact at2) ?_;symm;refine nxt x ?_;rw[hv2,if_pos c2,ex];rfl
     ·symm;refine a0V ht1 ?_;symm;refine nxt .non ?_;rw[hv2,if_neg c2];rfl
    ·rw[aq]at c;refine ifF ?_;symm;refine a0V ht1 ?_;symm;refine nxt .non ?_;rw[hv,cR (by omega)];rfl
 ·rintro σ G' ⟨k,v,_,_,rfl,rfl⟩;symm;rw[aq,bp];exact fin t ht
def a90(h:OkR l):OkR (ahead m l):=λx a=>by
 obtain⟨r,b,_,rfl⟩:=a1S a;exact h r b
def b1N(h:OkR l):OkR (fromOn m l):=λx a=>by
 obtain⟨r,b,_,rfl⟩:=a2T a;exact h r b
def okV(z:Z):Prop:=flat 4 z=true
def b4B(h:okV z):okW [z]:=⟨by simp,by simp,by rw[aS,h];rfl⟩
def a7T(h:OkR l)(hz:okV z):OkR (a1j l b e (optW z)):=by
 intro r a;rcases au.mp a with a |a
 ·rcases au.mp a with a |a
  ·exact a90 h r a
  ·unfold optW at a
   split at a
   ·next w e=>
          split at e
          ·cases e
          ·cases e;rw[ay.mp a];exact b4B hz
   ·simp_all
 ·cases e with
  |none=>simp at a
  |some e=>exact b1N h r a
def a58:P3:=λws G R=>Ex5 λp l b e z=>ws=[.ref p,.int b,oz e,z]/\G p=some (.lst (l.map Rw.z))/\Rise l/\OkR l/\One l/\l.length<=900/\bef b e=true/\okV z /\
 ∀t G',G t=none->Sm G G'->G' t=some (.lst ((a5i l b e (optW z)).map Rw.z))->R (.ref t) G'
set_option tactic.hygienic true in
def a59(T:Txt K mg base a):Cal P w K mg base CX0 3 "put_on" (lowP K a58):=by
 refine fnc 4 (N:=["line","begin","end","worth","pieces"]) T.br (T.f 7 _ rfl) ?_;walk_at "in";refine⟨_,(a0e (by ac_rfl)
  (a5L (by ac_rfl)
  (a5L (by ac_rfl)
  (by ac_rfl)))),?_⟩
 obtain⟨p,l,b,e,z,rfl,hp,hr,hok,h1,hz,g,hv,q⟩:=h;have hpc:=(a5g (w:=optW z) hr g).2.2;symm;refine⟨p,l,some b,rfl,hp,h1,by omega,λt ht=>?_⟩;symm;have la:=a5f (some b) l;refine a5R (fun σ' G'=>σ'=[some (.ref p),some (.int b),some (oz e),some z,some (.ref t)]/\G'=put G t (.lst ((ahead (some b) l++(match optW z with |some w=>[(⟨b,e,w⟩:Rw)] |none=>[])).map Rw.z))) ?_ ?_
 ·symm;refine ifN (λc=>?_) λc=>?_
  ·symm;refine a0V a0a ?_;symm;refine⟨lenK rfl,?_⟩;symm;refine a0x a0a (by rw[aq];exact a0g (by omega)) ⟨rfl,?_⟩;rw[a18,optW,if_neg c,aG];rfl
  ·symm;refine⟨rfl,?_⟩;rw[optW,if_pos c];simp
 ·rintro σ' G' ⟨rfl,rfl⟩;have hp1:∀o,put G t o p=some (.lst (l.map Rw.z)):=λo=>a0b hp ht;have fin:∀G' ,Sm G G'->G' t=some (.lst ((a1j l b e (optW z)).map Rw.z))->a0H [.ref t] G' R:=λG' s ht'=>by
   refine⟨t,_,rfl,ht',(a7T hok hv).weak,by omega,λu hu=>?_⟩;exact q u _ (s.free hu) (s.trans (Sm.new hu)) a0a
  refine a5R (fun σ' G'=>σ'=[some (.ref p),some (.int b),some (oz e),some z,some (.ref t)]/\Sm G G'/\G' t=some (.lst ((a1j l b e (optW z)).map Rw.z))) ?_ ?_
  ·cases e with
   |none=>
    symm;refine⟨rfl,Sm.new ht,?_⟩;unfold a1j;rw[a9];exact a0a
   |some e=>
    symm;refine a0V a0a ?_;symm;refine⟨p,l,e,rfl,hp1 _,h1,by omega,λu hu=>?_⟩;have hut:t≠u:=λz=>by subst z;rw[a0a]at hu;cases hu
    have hpl:(a1j l b (some e) (optW z)).length=(ahead (some b) l++(match optW z with |some w=>[(⟨b,some e,w⟩:Rw)] |none=>[])).length+(fromOn e l).length:=by
     unfold a1j;exact aJ
    generalize hA:(ahead (some b) l++(match optW z with |some w=>[(⟨b,some e,w⟩:Rw)] |none=>[]))=A at hu hpl ⊢
    have e1:put (put G t (.lst (A.map Rw.z))) u (.lst ((fromOn e l).map Rw.z)) t=some (.lst (A.map Rw.z)):=by rw[a0f hut];exact a0a
    symm;refine a4c e1 a0a (by rw[aq,aq];exact a03 (by omega)) ?_;refine⟨rfl,?_,?_⟩
    ·exact ((Sm.new ht).trans (Sm.new hu)).put ht
    ·rw[a0a,<- aG,<- hA]
     rfl
  ·rintro σ' G' ⟨rfl,s,ht'⟩;symm;exact fin G' s ht'
def leS(a b:Str):Prop:=PySem.Spec.ltCps b.cps.toList a.cps.toList=false
def a91{a b:Str}:leS a b↔¬ b.cps.toList<a.cps.toList:=by unfold leS;rw[PyProof.Rows.ltCps_eq];simp
def a92{a b c:Str}(h:leS a b)(g:leS b c):leS a c:=by
 rw[a91]at *;exact List.le_trans (α:=Nat) h g
def b1O{a b:Str}(h:leS a b)(g:leS b a):a=b:=by
 rw[a91]at *;have e:a.cps.toList=b.cps.toList:=List.le_antisymm (α:=Nat) h g;cases a;cases b;simpa using e
def b9u:∀{l:List Str}{p:Str},PyProof.Rows.risingS p l=true->(p::l).Pairwise leS:=by intro z0;induction z0 with
 |nil=>intro p _;exact dO _ _
 |cons x r I0=>
  intro p h;unfold PyProof.Rows.risingS at h;rw[bn,Bool.not_eq_true']at h;have b:=I0 h.2;refine aH.mpr ⟨λy a=>?_,b⟩;rcases ax.mp a with rfl |a
  ·exact h.1
  ·exact a92 h.1 (eB b a)
theorem b1P:∀{l:List Str},PyProof.Rows.sortedS l=true->l.Pairwise leS
 |[],_=>b6.nil
 |_::_,h=>b9u h
theorem a3c:∀{xs ys:List Str},xs.Pairwise leS->ys.Pairwise leS->xs.Perm ys->xs=ys
 |[],ys,_,_,h=>(List.nil_perm.mp h).symm
 |x::xs,[],_,_,h=>by have:=h.length_eq;simp at this
 |x::xs,y::ys,h1,h2,h=>by
  have e:x=y:=by
   have c:=h.mem_iff.mp (bu);have b:=h.mem_iff.mpr (bu);rcases ax.mp c with e |c
   ·omega
   ·rcases ax.mp b with e |b
    ·simp_all
    ·exact b1O (eB h1 b) (eB h2 c)
  subst e;rw[a3c (aH.mp h1).2 (aH.mp h2).2 h.cons_inv]
def okS(s:Str):Prop:=s.length<=1000/\PyData.strOk s=true
def Th(G:Hq):Z->Prop
 |.non=>True
 |.bl _=>True
 |.int _=>True
 |.str s=>okS s
 |.tup _=>True
 |.ref p=>(∃ws,G p=some (.lst ws))\/∃kvs,G p=some (.dK kvs)
 |_=>False
def Th.sm(s:Sm G G')(h:Th G x):Th G' x:=by
 cases x with
 |ref p=>
  rcases h with ⟨ws,e⟩ |⟨ws,e⟩
  ·exact .inl ⟨ws,s _ _ e⟩
  ·exact .inr ⟨ws,s _ _ e⟩
 |_=>exact h
structure Kd (G:Hq) (x:Z) (n:String):Prop where
 ty:tyN G x=some n
 is:n="NoneType"\/n="bool"\/n="int"\/n="str"\/n="tuple"\/n="list"\/n="dict"
def Th.kd(h:Th G x):∃n,Kd G x n:=by
 cases x with
 |non=>exact⟨_,rfl,.inl rfl⟩
 |bl _=>exact⟨_,rfl,.inr (.inl rfl)⟩
 |int _=>exact⟨_,rfl,.inr (.inr (.inl rfl))⟩
 |str _=>exact⟨_,rfl,.inr (.inr (.inr (.inl rfl)))⟩
 |tup _=>exact⟨_,rfl,.inr (.inr (.inr (.inr (.inl rfl))))⟩
 |ref p=>
  rcases h with ⟨ws,e⟩ |⟨ws,e⟩
  ·exact⟨"list",by simp[tyN,e],.inr (.inr (.inr (.inr (.inr (.inl rfl)))))⟩
  ·exact⟨"dict",by simp[tyN,e],.inr (.inr (.inr (.inr (.inr (.inr rfl)))))⟩
 |_=>exact aB h
def b4C(h:n="NoneType"\/n="bool"\/n="int"\/n="str"\/n="tuple"\/n="list"\/n="dict"):kit0 n "str"=some (decide (n="str")):=by
 rcases h with rfl |rfl |rfl |rfl |rfl |rfl |rfl<;>decide +kernel
def b1Q(h:n="NoneType"\/n="bool"\/n="int"\/n="str"\/n="tuple"\/n="list"\/n="dict"):kit0 n "bool"=some (decide (n="bool")):=by
 rcases h with rfl |rfl |rfl |rfl |rfl |rfl |rfl<;>decide +kernel
def b4D(h:n="NoneType"\/n="bool"\/n="int"\/n="str"\/n="tuple"\/n="list"\/n="dict"):kit0 n "int"=some (decide (n="int")||decide (n="bool")):=by
 rcases h with rfl |rfl |rfl |rfl |rfl |rfl |rfl<;>decide +kernel
noncomputable def isS:Z->Bool
 |.str _=>true
 |_=>false
noncomputable def isB:Z->Bool
 |.bl _=>true
 |_=>false
noncomputable def isI:Z->Bool
 |.int _=>true
 |.bl _=>true
 |_=>false
def b9v(h:Th G x)(q:R (.bl (isS x)) G):zIsT [x,.ty "str"] G R:=by
 obtain⟨n,k⟩:=h.kd;refine⟨n,_,k.ty,b4C k.is,?_⟩;have e:decide (n="str")=isS x:=by
  have:=k.ty
  cases x with
  |ref p=>rcases h with ⟨ws,e⟩ |⟨ws,e⟩<;>(simp[tyN,e]at this;subst this;show _=false;decide)
  |_=>first | (cases this;show _=false;decide;done) | (cases this;show _=true;decide;done) |exact aB h
 rw[e];exact q
def b7q(h:Th G x)(q:R (.bl (isB x)) G):zIsT [x,.ty "bool"] G R:=by
 obtain⟨n,k⟩:=h.kd;refine⟨n,_,k.ty,b1Q k.is,?_⟩;have e:decide (n="bool")=isB x:=by
  have:=k.ty
  cases x with
  |ref p=>rcases h with ⟨ws,e⟩ |⟨ws,e⟩<;>(simp[tyN,e]at this;subst this;show _=false;decide)
  |_=>first | (cases this;show _=false;decide;done) | (cases this;show _=true;decide;done) |exact aB h
 rw[e];exact q
def b7r(h:Th G x)(q:R (.bl (isI x)) G):zIsT [x,.ty "int"] G R:=by
 obtain⟨n,k⟩:=h.kd;refine⟨n,_,k.ty,b4D k.is,?_⟩;have e:(decide (n="int")||decide (n="bool"))=isI x:=by
  have:=k.ty
  cases x with
  |ref p=>rcases h with ⟨ws,e⟩ |⟨ws,e⟩<;>(simp[tyN,e]at this;subst this;show _=false;decide)
  |_=>first | (cases this;show _=false;decide;done) | (cases this;show _=true;decide;done) |exact aB h
 rw[e];exact q
noncomputable def okC(c:Nat):Bool:=decide (97<=c)&&decide (c<=122)
noncomputable def a2j:Z->Bool
 |.str s=>decide (1<=s.length)&&decide (s.length<=8)&&s.cps.toList.all okC
 |_=>false
noncomputable def momB:Z->Bool
 |.int i=>decide (0<=i)&&decide (i<=1000000000000)
 |_=>false
def a4y:momB (.int i)=(decide (0<=i)&&decide (i<=1000000000000)):=rfl
noncomputable def strB(x y:Z):Bool:=momB x&&match y with
 |.non=>true
 |.int j=>momB (.int j)&&match x with |.int i=>decide (i<j) |_=>false
 |_=>false
def spB1(f:Z->Bool):P3:=λws G R=>∃x,ws=[x]/\Th G x/\∀G',Sm G G'->R (.bl (f x)) G'
def b7s(h:spB1 f ws G R):ws.length=1:=by obtain⟨_,rfl,_⟩:=h;rfl
def spB2(f:Z->Z->Bool):P3:=λws G R=>∃x y,ws=[x,y]/\Th G x/\Th G y/\∀G',Sm G G'->R (.bl (f x y)) G'
def b9w(h:spB2 f ws G R):ws.length=2:=by obtain⟨_,_,rfl,_⟩:=h;rfl
abbrev a5n:P3:=spB1 a2j
abbrev a3q:P3:=spB1 momB
abbrev a3d:P3:=spB2 strB
def a93(a b:Nat):ltS ⟨#[a]⟩ ⟨#[b]⟩=decide (a<b):=by
 by_cases h:a<b
 ·rw[decide_eq_true h];exact decide_eq_true (fK.mpr (.inl h))
 ·rw[decide_eq_false h];refine decide_eq_false λq=>?_;rcases fK.mp q with q |q
  ·simp_all
  ·simp_all
def strA:(Str.ofString "a")=⟨#[97]⟩:=by decide +kernel
def strZ:(Str.ofString "z")=⟨#[122]⟩:=by decide +kernel
def b1R(x:Str)(g:Nat->Option Z)(f:Z->Option Z)(h:∀c,f (.str ⟨#[c]⟩)=g c):(a2G x).filterMap f=x.cps.toList.filterMap g:=by
 unfold a2G;rw[dJ]
 congr 1
 funext c
 exact h c
def a94(h:x.length<=1000):(a2G x).length<=1000:=by unfold a2G;rw[aq,aQ];exact h
def b7t(l:List Nat):(l.filterMap λc=>some (Z.bl (okC c)))=(l.map okC).map Z.bl:=by simp
def b4E(l:List Nat):(l.map okC).all id=l.all okC:=by simp
def a2U:a2j (.str s)=(decide (1<=s.length)&&decide (s.length<=8)&&s.cps.toList.all okC):=rfl
def a5o(T:Txt K mg base a):Cal P w K mg base CX0 1 "is_name" (lowP K a5n):=by
 refine fnc 1 (N:=["thing"]) T.br (T.f 0 _ rfl) ?_ (len:=λws G R h=>(by exact b7s h));walk_at "in";refine⟨_,(a0e (by ac_rfl)
  (a0e (by ac_rfl)
  (a0D (a2a (q_B (b6g rfl) (T.b 0) (q_k (q_l ["sign"] [none] (.nm 0) (hi:=(b6j (qv 0)))) a0Q)))))),?_⟩
 obtain⟨x,rfl,hx,q⟩:=h;symm;refine b9v hx ?_;symm;refine ifNB (λc=>?_) λc=>?_
 ·symm;have e:a2j x=false:=by cases x<;>first |rfl |cases c
  have:=q G (Sm.refl G)
  rw[e]at this;exact this
 ·obtain⟨s,rfl⟩:∃s,x=.str s:=by cases x<;>first |exact⟨_,rfl⟩ |cases c
  have hs:okS s:=hx;symm;refine a83 (a03 hs.1) ?_;symm;have no:a2j (.str s)=false->R (.bl false) G:=λe=>by have:=q G (Sm.refl G);rw[e]at this;exact this
  refine ifD (λc1=>?_) λc1=>?_
  ·symm;exact no (by rw[a2U,decide_eq_false (show ¬ 1<=s.length by omega)];rfl)
  ·symm;refine a83 (a03 hs.1) ?_;symm;refine ifD (λc2=>?_) λc2=>?_
   ·symm;exact no (by rw[a2U,decide_eq_false (show ¬ s.length<=8 by omega),cN];rfl)
   ·symm;intro D hD;refine b3s (λx=>match x with |.str z=>some (.bl (!ltS z (Str.ofString "a")&&!ltS (Str.ofString "z") z)) |_=>none) (λ_=>True.intro) (a94 hs.1) ?_ ?_
    ·intro x hm ys K1 K2 k1 k2;unfold a2G at hm;obtain⟨c,_,rfl⟩:=aM.mp hm;refine⟨_,rfl,?_⟩;symm;refine ifB (λz=>?_) λz=>?_
     ·symm;refine k1 _ ?_;dsimp only;rw[z];rfl
     ·refine k1 _ ?_;dsimp only;rw[z];rfl
    ·have e:(a2G s).filterMap (λx=>match x with |.str z=>some (.bl (!ltS z (Str.ofString "a")&&!ltS (Str.ofString "z") z)) |_=>none)=(s.cps.toList.map okC).map Z.bl:=by
      rw[b1R s (λc=>some (.bl (okC c))) _ λc=>?_,b7t];dsimp only;rw[strA,strZ,a93,a93];unfold okC
      congr 2
      by_cases h1:c<97<;>by_cases h2:122<c<;>simp[h1,h2]<;>omega
     have e2:a2j (.str s)=s.cps.toList.all okC:=by rw[a2U,decide_eq_true (show 1<=s.length by omega),decide_eq_true (show s.length<=8 by omega),bM,bM]
     refine b8Y (by rw[e];exact a0a) ?_;rw[b4E,<- e2];exact q _ (Sm.new hD)
def a3r(T:Txt K mg base a):Cal P w K mg base CX0 1 "is_moment" (lowP K a3q):=by
 refine fnc 1 (N:=["thing"]) T.br (T.f 1 _ rfl) ?_ (len:=λws G R h=>(by exact b7s h));walk_at "in";refine⟨_,(by ac_rfl),?_⟩;obtain⟨x,rfl,hx,q⟩:=h;have no:momB x=false->R (.bl false) G:=λe=>by have:=q G (Sm.refl G);rw[e]at this;exact this
 symm;refine b7q hx ?_;symm;refine ifB (λc=>?_) λc=>?_
 ·symm;exact no (by cases x<;>first |rfl |cases c)
 ·symm;refine b7r hx ?_;symm;refine ifNB (λc2=>?_) λc2=>?_
  ·symm;exact no (by cases x<;>first |rfl |cases c2)
  ·obtain⟨i,rfl⟩:∃i,x=.int i:=by cases x<;>first |exact⟨_,rfl⟩ | (cases c;done) | (cases c2;done)
   symm;refine ifD (λz=>?_) λz=>?_
   ·symm
    have:=q G (Sm.refl G)
    rw[a4y,decide_eq_true z,bM]at this;exact this
   ·exact no (by rw[a4y,decide_eq_false z];rfl)
def a3e(T:Txt K mg base a):Cal P w K mg base CX0 2 "is_stretch" (lowP K a3d):=by
 refine fnc 2 (N:=["begin","end"]) T.br (T.f 2 _ rfl) ?_ (len:=λws G R h=>(by exact b9w h));walk_at "in";refine⟨_,(by ac_rfl),?_⟩;obtain⟨x,y,rfl,n,m,q⟩:=h;symm;refine⟨x,rfl,n,λp g=>?_⟩;have l:∀d,Sm G d->strB x y=false->R (.bl false) d:=λd s e=>by have:=q d s;rw[e]at this;exact this
 symm;refine ifNB (λc=>?_) λc=>?_
 ·symm;exact l _ g (by unfold strB;rw[c];rfl)
 ·symm;refine ifD (λz=>?_) λz=>?_
  ·symm
   have:=q _ g
   unfold strB at this;rw[c,z]at this;exact this
  ·symm;refine⟨y,rfl,m.sm g,λt o=>?_⟩;have k:=g.trans o;symm;refine ifB (λb=>?_) λb=>?_
   ·obtain⟨i,rfl⟩:∃i,x=.int i:=by cases x<;>first |exact⟨_,rfl⟩ |cases c
    obtain⟨j,rfl⟩:∃j,y=.int j:=by cases y<;>first |exact⟨_,rfl⟩ |cases b
    symm
    have:=q _ k
    unfold strB at this;rw[c]at this;dsimp only at this;rw[b,bM,bM]at this;exact this
   ·refine l _ k ?_;unfold strB;rw[c,bM];cases y<;>first |rfl |exact absurd rfl z | (dsimp only;rw[b];rfl)
def isL(c:Nat):Prop:=97<=c/\c<=122
def nmOk(s:Str):Prop:=1<=s.cps.toList.length/\s.cps.toList.length<=8/\∀c∈s.cps.toList,isL c
def a1m(s:Str):s.length=s.cps.toList.length:=by rw[aQ];rfl
def b7M:(Str.ofString "abcdefghijklmnopqrstuvwxyz").cps.toList=[97,98,99,100,101,102,103,104,105,106,107,108,109,110,111,112,113,114,115,116,117,118,119,120,121,122]:=by decide +kernel
def b2D(h0:0<=k)(h1:k<26):atI (Str.ofString "abcdefghijklmnopqrstuvwxyz").cps.toList k=some (97+k.toNat):=by
 obtain⟨j,rfl⟩:=cY h0;have a:j<26:=by lia
 refine a05 ?_
 have:∀j:Fin 26,([97,98,99,100,101,102,103,104,105,106,107,108,109,110,111,112,113,114,115,116,117,118,119,120,121,122])[j.1]?=some (97+j.1):=by decide
 exact this ⟨j,a⟩
def a67(h:∀c∈s.cps.toList,isL c):PyData.strOk s=true:=by
 unfold PyData.strOk;rw[Array.all_eq_true_iff_forall_mem];intro c a
 have:=(h c (by simp_all)).2
 exact decide_eq_true (by lia)
def a4z(h:nmOk s):flat n (.str s)=true:=by
 have:=a67 h.2.2
 cases n<;>exact this
def a1T(a b:Str):(a++b).cps.toList=a.cps.toList++b.cps.toList:=by
 show (a.cps++b.cps).toList=_
 rw[Array.toList_append]
def b4F:P3:=λws G R=>∃r,ws=[.ref r]/\RowAt G r/\∀s G',nmOk s->RowAt G' r->Kq r G G'->R (.str s) G'
set_option tactic.hygienic true in
def b4G(T:Txt K mg base a):Cal P w K mg base CX0 2 "_law_name" (lowP K b4F):=by
 refine fnc 1 (N:=["row","letters","name","k"]) T.br (T.f 29 _ rfl) ?_;walk_at "in";refine⟨_,(by ac_rfl),?_⟩;obtain⟨r,rfl,t,q⟩:=h;symm;refine a1i t (by decide) (by decide) λf y w E F p=>?_;symm;refine⟨by omega,by omega,?_⟩;have o:RowAt (put G r (RowO y w)) r:=RowAt.at p;refine a0R (λi σ d=>∃(s:Str)(v:Option Z),s.cps.toList.length=i/\(∀c∈s.cps.toList,isL c)/\σ=[some (.ref r),some (.str (Str.ofString "abcdefghijklmnopqrstuvwxyz")),some (.str s),v]/\RowAt d r/\Kq r G d) ⟨Str.ofString "",_,by decide +kernel,λc h=>absurd h (by rw[show (Str.ofString "").cps.toList=[] by decide +kernel];simp),rfl,o,Kq.at⟩ (λ_ _ _ _ _=>True.intro) ?_ ?_
 ·rintro i x σ d z ⟨s,v,j,m,rfl,e,l⟩;obtain⟨D,rfl⟩:=a4b z;refine⟨_,rfl,?_⟩;symm;refine a1i e (by decide) (by decide) λg C B A u n=>?_;refine b3E (lenK rfl) (b2D A u) ?_;refine a82 (a03 (by rw[a1m,j];show i+1<=1000;omega)) ?_;symm;refine⟨_,_,?_,?_,rfl,RowAt.at n,l.trans Kq.at⟩
  ·rw[a1T,aJ,j];rfl
  ·intro c b;rw[a1T]at b;rcases au.mp b with b |b
   ·exact m c b
   ·have:c=97+g.toNat:=by simpa using b
    unfold isL;omega
 ·rintro σ d ⟨s,v,j,m,rfl,e,l⟩;rw[a2c]at j;symm;exact q s d ⟨by omega,by omega,m⟩ e l
noncomputable def nx(L:List Nat)(p i:Nat):List Nat:=L.set p (97+(L.getD p 0-97+i) % 26)
noncomputable def nxS(L:List Nat)(p i:Nat):Str:=⟨(nx L p i).toArray⟩
def b4H(hp:p<L.length)(hl:∀c∈L,isL c):nx L p 0=L:=by
 unfold nx;have e:L.getD p 0=L[p]:=by simp_all
 have:=hl L[p] (bz hp)
 unfold isL at this;rw[e,dy,Nat.mod_eq_of_lt (by omega),show 97+_=L[p] by omega];exact List.set_getElem_self hp
def b2E(hp:p<L.length):(nx L p i)[p]?=some (97+(L.getD p 0-97+i) % 26):=by
 unfold nx;rw[de hp]
def b7u(hp:p<L.length)(hi:i<26)(hj:j<26)(h:nxS L p i=nxS L p j):i=j:=by
 have a:nx L p i=nx L p j:=by
  unfold nxS at h
  have:=congrArg (λs:Str=>s.cps.toList) h
  simpa using this
 have:=congrArg (·[p]?) a
 simp only[b2E hp,aN.injEq]at this;omega
def a5p:(nx L p i).length=L.length:=by unfold nx;rw[eO]
def b9x(hl:∀c∈L,isL c):∀c∈nx L p i,isL c:=by grind [isL,nx]
def b4I(hp:p<L.length):(nx L p i).take p++[97+(L.getD p 0-97+i+1) % 26]++(nx L p i).drop (p+1)=nx L p (i+1):=by
 unfold nx;rw[eV (av _),eU (by simp),List.set_eq_take_append_cons_drop,if_pos hp];simp[cI]
def b1S(h:isL c):a9m (Str.ofString "abcdefghijklmnopqrstuvwxyz") ⟨#[c]⟩=(c-97:Nat):=by
 obtain⟨a,b⟩:=h
 have:∀j:Fin 26,a9m (Str.ofString "abcdefghijklmnopqrstuvwxyz") ⟨#[97+j.1]⟩=(j.1:Int):=by decide +kernel
 have:=this ⟨c-97,by omega⟩
 simp only at this;rw[show 97+(c-97)=c by omega]at this;exact this
noncomputable def left(ns:List Str)(S:Nat->Str)(i:Nat):Nat:=(ns.filter λn=>(aO 26).any λj=>decide (i<=j)&&decide (n=S j)).length
theorem a5q{α:Type}{P Q:α->Bool}:∀{l:List α}{x:α},(∀y,Q y=true->P y=true)->x∈l->P x=true->Q x=false->(l.filter Q).length<(l.filter P).length
 |y::l,x,h,hx,hp,hq=>by
  have b:∀l:List α,(l.filter Q).length<=(l.filter P).length:=by
   intro l
   induction l with
   |nil=>simp
   |cons z l a=>
    rw[bK,bK];cases hz:Q z with
    |true=>rw[h z hz];simp;exact a
    |false=>cases P z<;>simp<;>omega
  rw[bK,bK];rcases ax.mp hx with rfl |hx
  ·grind
  ·have a:=a5q h hx hp hq;cases hz:Q y with
   |true=>rw[h y hz];simp;exact a
   |false=>cases P y<;>simp<;>omega
def b4J(hS:∀i j,i<26->j<26->S i=S j->i=j)(hi:i<26)(h:S i∈ns):left ns S (i+1)<left ns S i:=by
 refine a5q (λy c=>?_) h ?_ ?_
 ·obtain⟨j,b,a⟩:=b9.mp c;simp at a;exact b9.mpr ⟨j,b,by simp;exact⟨by omega,a.2⟩⟩
 ·exact b9.mpr ⟨i,bR.mpr hi,by simp⟩
 ·rw[cK];intro j d;simp;intro b a
  have:=hS i j hi (bR.mp d) a
  omega
def b4K{ns:List Str}{S:Nat->Str}:left ns S 0<=ns.length:=dG _ _
def b1T{ns:List Str}:(Z.str s∈ns.map Z.str)=(s∈ns):=by simp
def a7U{ns:List Str}(h:∀s∈ns,nmOk s):(ns.map Z.str).all (flat 8)=true:=by
 rw[bA];intro x a;obtain⟨s,b,rfl⟩:=aM.mp a;exact a4z (h s b)
def b1U:P3:=λws G R=>∃r n,ws=[.ref r,.int n]/\RowAt G r/\1<=n/\n<=20/\∀(t:Addr)(ns:List Str)(G':Hq),G t=none->G' t=some (.lst (ns.map Z.str))->(ns.length:Int)=n->(∀s∈ns,nmOk s)->RowAt G' r->Kq r G G'->R (.ref t) G'
def RowAt.ne(h:RowAt G r)(n:G D=none):r≠D:=by obtain⟨_,_,e,_⟩:=h;exact a0h e n
def RowAt.kq(h:RowAt G r)(k:Kq p G G')(n:r≠p):RowAt G' r:=by obtain⟨x,w,e,o⟩:=h;exact⟨x,w,k r _ e n,o⟩
def a0z(l:List Nat):(⟨l.toArray⟩:Str).cps.toList=l:=by simp
def a95{a b:Str}(h:a.cps.toList=b.cps.toList):a=b:=by
 obtain⟨⟨x⟩⟩:=a;obtain⟨⟨y⟩⟩:=b;simpa using h
abbrev ABC:Z:=.str (Str.ofString "abcdefghijklmnopqrstuvwxyz")
set_option tactic.hygienic true in
def b1V(T:Txt K mg base a):Cal P w K mg base CX0 3 "_law_names" (lowP K b1U):=by
 refine fnc 2 (N:=["row","many","letters","names","name","at","sign"]) T.br (T.f 30 _ rfl) ?_;walk_at "in";refine⟨_,(a0e (by ac_rfl)
  (a0e (by ac_rfl)
  (a5L (a5M gi.never (by ac_rfl)
  (a0e (by ac_rfl)
  (a5L (by ac_rfl)
  (a0e (by ac_rfl)
  (a5L (a5M gi.never (by ac_rfl)
  (by ac_rfl))
  (by ac_rfl))))))
  (by ac_rfl)))),?_⟩
 obtain⟨r,n,rfl,hR,h1,h2,q⟩:=h;symm;refine⟨r,rfl,hR,λs0 G1 hs0 hR1 hK1=>?_⟩;symm;refine⟨lenK rfl,λt ht=>?_⟩;symm;have hne:=hR1.ne ht;have ht0:G t=none:=by
  cases e:G t with
  |none=>rfl
  |some o=>rw[hK1 t o e (Ne.symm hne)]at ht;cases ht
 refine a5R (fun σ' G'=>Ex4 λ(ns:List Str) (v1 v2 v3:Option Z)=>(ns.length:Int)=n/\(∀s∈ns,nmOk s)/\G' t=some (.lst (ns.map Z.str))/\RowAt G' r/\Kq r G G'/\σ'=[some (.ref r),some (.int n),some ABC,some (.ref t),v1,v2,v3]) ?_ ?_
 ·refine⟨λm σ' G'=>Ex4 λ(ns:List Str) (v1 v2 v3:Option Z)=>(ns.length:Int)+m=n/\1<=ns.length/\(∀s∈ns,nmOk s)/\G' t=some (.lst (ns.map Z.str))/\RowAt G' r/\Kq r G G'/\σ'=[some (.ref r),some (.int n),some ABC,some (.ref t),v1,v2,v3],⟨n.toNat-1,[s0],_,_,_,by simp;omega,by simp,λs hs=>by rw[ay.mp hs];exact hs0,a0a,hR1.new ht,hK1.trans (Kq.new ht),rfl⟩,?_⟩;rintro m σ' G' ⟨ns,v1,v2,v3,hm,hpos,hns,hgt,hR',hK,rfl⟩;symm;refine a3G hgt ?_;symm;rw[aq];refine ifD (λc=>?_) λc=>?_
  ·symm;obtain⟨a,as,ea⟩:∃a as,ns=a::as:=by cases ns with |nil=>simp at hpos |cons a as=>exact⟨a,as,rfl⟩
   refine a0E hgt (w:=.str a) (by rw[ea];exact at0) ?_;symm;refine a5R (fun σ' G2=>∃(s:Str)(v2 v3:Option Z),nmOk s/\G2 t=some (.lst (ns.map Z.str))/\RowAt G2 r/\Kq r G G2/\σ'=[some (.ref r),some (.int n),some ABC,some (.ref t),some (.str s),v2,v3]) ?_ ?_
   ·symm;refine a1i hR' (by decide) (by decide) λf y w f0 f1 ok=>?_;have gt2:put G' r (RowO y w) t=some (.lst (ns.map Z.str)):=by rw[a0f (Ne.symm hne)];exact hgt
    symm;refine ifD (λ_=>?_) λ_=>?_
    ·symm;refine⟨r,rfl,RowAt.at ok,λs G3 hs hR3 hK3=>?_⟩;symm;exact⟨s,_,_,hs,hK3 _ _ gt2 (Ne.symm hne),hR3,(hK.trans Kq.at).trans hK3,rfl⟩
    ·symm;exact⟨a,_,_,hns a (by rw[ea];simp),gt2,RowAt.at ok,hK.trans Kq.at,rfl⟩
   ·rintro σ2 G2 ⟨s,u2,u3,hs,hgt2,hR2,hK2,rfl⟩;symm;refine a83 (a03 (by rw[a1m];have:=hs.2.1;omega)) ?_;symm;refine a1i (n:=(s.length:Int)) hR2 (by rw[a1m];have:=hs.1;omega) (by rw[a1m];have:=hs.2.1;omega) λf y w f0 f1 ok=>?_;have gt3:put G2 r (RowO y w) t=some (.lst (ns.map Z.str)):=by rw[a0f (Ne.symm hne)];exact hgt2
    have hR3:RowAt (put G2 r (RowO y w)) r:=RowAt.at ok;have hK3:Kq r G (put G2 r (RowO y w)):=hK2.trans Kq.at
    generalize put G2 r (RowO y w)=G3 at gt3 hR3 hK3 ⊢;obtain⟨p,rfl⟩:=cY f0;have hp:p<s.cps.toList.length:=by rw[a1m]at f1;omega
    symm;refine a5R (fun σ' G'=>∃(s:Str)(v3:Option Z),nmOk s/\G'=G3/\σ'=[some (.ref r),some (.int n),some ABC,some (.ref t),some (.str s),some (.int p),v3]) ?_ ?_
    ·have hS:∀i j,i<26->j<26->nxS s.cps.toList p i=nxS s.cps.toList p j->i=j:=λi j hi hj h=>b7u hp hi hj h;refine⟨λm σ' G'=>∃(i:Nat)(v3:Option Z),m=left ns (nxS s.cps.toList p) i/\i+m<=ns.length/\G'=G3/\σ'=[some (.ref r),some (.int n),some ABC,some (.ref t),some (.str (nxS s.cps.toList p i)),some (.int p),v3],⟨_,0,_,rfl,by have:=@b4K ns (nxS s.cps.toList p);omega,rfl,by rw[show nxS s.cps.toList p 0=s from a95 (by unfold nxS;rw[a0z,b4H hp hs.2.2])];rfl⟩,?_⟩;rintro m' σ' G' ⟨i,v3,rfl,hle,rfl,rfl⟩;have hnm:nmOk (nxS s.cps.toList p i):=by
      unfold nxS;refine⟨?_,?_,?_⟩
      ·rw[a0z,a5p];exact hs.1
      ·rw[a0z,a5p];exact hs.2.1
      ·rw[a0z];exact b9x hs.2.2
     symm;refine b80 gt3 (a4z hnm) (a7U hns) ?_;symm;refine ifD (λc=>?_) λc=>?_
     ·rw[b1T]at c;have hi:i<26:=by omega
      have hlt:=b4J hS hi c;have hsz:(nxS s.cps.toList p i).length<=sizeLine:=a03 (by rw[a1m];have:=hnm.2.1;omega);have hcl:(nxS s.cps.toList p i).cps.toList=nx s.cps.toList p i:=a0z _;have hch:isL (97+(s.cps.toList.getD p 0-97+i) % 26):=by unfold isL;omega
      symm;refine b3E hsz (a05 (by rw[hcl];exact b2E hp)) ?_;symm;refine i_I (show (0:Int)<26 by decide) ?_;rw[b1S hch];refine b3E (lenK rfl) (b2D (by omega) (by omega)) ?_;have hk:97+((((97+(s.cps.toList.getD p 0-97+i) % 26-97:Nat):Int)+1) % 26).toNat=97+(s.cps.toList.getD p 0-97+i+1) % 26:=by omega
      rw[hk];symm;refine b6v hsz ?_;symm;refine a82 (a03 ?_) ?_
      ·have:=Txt.slice_le (nxS s.cps.toList p i) none (some (p:Int))
       rw[a1m]at this;have h8:=hnm.2.1
       show (Txt.slice (nxS s.cps.toList p i) none (some (p:Int))).length+1<=1000
       rw[a1m];rw[a1m]at this;omega
      symm;refine b6v hsz ?_;have e1:Txt.slice (nxS s.cps.toList p i) none (some (p:Int))=⟨((nx s.cps.toList p i).take p).toArray⟩:=by
       have:=eq_of_beq (PyProof.Rows.slice_closes_to (x:=nxS s.cps.toList p i) (j:=(p:Int)) ⟨by omega,by rw[hcl,a5p];omega⟩)
       rw[this,hcl];simp
      have e2:Txt.slice (nxS s.cps.toList p i) (some ((p:Int)+1)) none=⟨((nx s.cps.toList p i).drop (p+1)).toArray⟩:=by
       have:=PyProof.Rows.slice_from_eq (x:=nxS s.cps.toList p i) (i:=(p:Int)+1) (b:=((nxS s.cps.toList p i).length:Int)) (by omega) (by rw[a1m,hcl,a5p];omega) rfl
       rw[this,hcl,a1m,hcl];rw[bY (by rw[bj];omega)]
       rfl
      refine a82 (a03 ?_) ?_
      ·have a1:(Txt.slice (nxS s.cps.toList p i) none (some (p:Int))).length=p:=by
        rw[e1,a1m,a0z,aK,a5p];omega
       have a2:=Txt.slice_le (nxS s.cps.toList p i) (some ((p:Int)+1)) none;rw[a1m (nxS s.cps.toList p i)]at a2;have a3:(Txt.slice (nxS s.cps.toList p i) none (some (p:Int))++(⟨#[97+(s.cps.toList.getD p 0-97+i+1) % 26]⟩:Str)).length=p+1:=by
        rw[a1m,a1T,aJ,<- a1m,a1];rfl
       rw[a3]
       have:=hnm.2.1
       have:=hs.2.1
       omega
      have e3:Txt.slice (nxS s.cps.toList p i) none (some (p:Int))++(⟨#[97+(s.cps.toList.getD p 0-97+i+1) % 26]⟩:Str)++Txt.slice (nxS s.cps.toList p i) (some ((p:Int)+1)) none=nxS s.cps.toList p (i+1):=by
       refine a95 ?_;rw[a1T,a1T,e1,e2,a0z,a0z];unfold nxS;rw[a0z,<- b4I hp]
      rw[e3];symm;exact⟨_,hlt,i+1,_,rfl,by omega,rfl,rfl⟩
     ·exact⟨_,_,hnm,rfl,rfl⟩
    ·rintro σ4 G4 ⟨s4,v3,hs4,rfl,rfl⟩;symm;refine a0V gt3 ?_;symm;refine a0x gt3 (by rw[aq];exact a0g (by omega)) ?_;refine⟨m-1,by omega,ns++[s4],_,_,_,by simp;omega,by simp,λs h=>?_,by rw[a0a,aG];rfl,?_,?_,rfl⟩
     ·rcases au.mp h with h |h
      ·exact hns s h
      ·rw[ay.mp h];exact hs4
     ·exact hR3.kq Kq.at hne
     ·exact λb o e nb=>by
       have hb:=hK3 b o e nb;rw[a0f]
       ·exact hb
       ·rintro rfl;rw[ht0]at e;cases e
  ·exact⟨ns,_,_,_,by omega,hns,hgt,hR',hK,rfl⟩
 ·rintro σ' G' ⟨ns,v1,v2,v3,hm,hns,hgt,hR',hK,rfl⟩;symm;exact q t ns G' ht0 hgt hm hns hR' hK
noncomputable def T12:Int:=1000000000000
def stOk(b:Int)(e:Option Int):Prop:=0<=b/\b<=T12/\∀x,e=some x->b<x/\x<=T12
noncomputable def stOk.bef(h:stOk b e):bef b e=true:=by
 cases e with
 |none=>rfl
 |some x=>simp only[Lw.bef,decide_eq_true_eq];exact (h.2.2 x rfl).1
def a7V:P3:=λws G R=>∃r,ws=[.ref r]/\RowAt G r/\∀b e G',stOk b e->RowAt G' r->Kq r G G'->R (.tup [.int b,oz e]) G'
def at6{a b c d e f:Int}{k:Int}(h0:0<=k)(h1:k<6){P:Int->Prop}(pa:P a)(pb:P b)(pc:P c)(pd:P d)(pe:P e)(pf:P f):∃n,atI [Z.int a,.int b,.int c,.int d,.int e,.int f] k=some (.int n)/\P n/\(k=0->n=a)/\(k=1->n=b):=by
 have:k=0\/k=1\/k=2\/k=3\/k=4\/k=5:=by omega
 rcases this with rfl |rfl |rfl |rfl |rfl |rfl
 ·exact⟨_,rfl,pa,λ_=>rfl,λh=>absurd h (by decide)⟩
 ·exact⟨_,rfl,pb,λh=>absurd h (by decide),λ_=>rfl⟩
 ·exact⟨_,rfl,pc,λh=>absurd h (by decide),λh=>absurd h (by decide)⟩
 ·exact⟨_,rfl,pd,λh=>absurd h (by decide),λh=>absurd h (by decide)⟩
 ·exact⟨_,rfl,pe,λh=>absurd h (by decide),λh=>absurd h (by decide)⟩
 ·exact⟨_,rfl,pf,λh=>absurd h (by decide),λh=>absurd h (by decide)⟩
def b1W:(10:Int) ^ (12:Int).toNat=1000000000000:=by decide
set_option tactic.hygienic true in
def a7W(T:Txt K mg base a):Cal P w K mg base CX0 2 "_law_stretch" (lowP K a7V):=by
 refine fnc 1 (N:=["row","kind","begin","end"]) T.br (T.f 31 _ rfl) ?_;walk_at "in";refine⟨_,(a0e (by ac_rfl)
  (a0e (by ac_rfl)
  (a5L (by ac_rfl)
  (by ac_rfl)))),?_⟩
 obtain⟨r,rfl,hR,q⟩:=h;symm;refine a1i hR (by decide) (by decide) λkd y w d0 d1 ok=>?_;have hR1:RowAt (put G r (RowO y w)) r:=RowAt.at ok;have hK1:Kq r G (put G r (RowO y w)):=Kq.at
 generalize put G r (RowO y w)=G1 at hR1 hK1 ⊢;symm;refine i_I ⟨by decide,by decide,by decide⟩ ?_;rw[b1W];symm;refine⟨lenK rfl,λa ha=>?_⟩;symm;obtain⟨n,hn,⟨hn0,hn1⟩,hn2,hn3⟩:=at6 (a:=1000000000000+1) (b:=12) (c:=20) (d:=20) (e:=20) (f:=20) (P:=λn=>0<n/\n<=1000000000001) d0 d1 (by decide) (by decide) (by decide) (by decide) (by decide) (by decide);refine a0E a0a hn ?_;symm;refine a1i (n:=n) (hR1.new ha) hn0 (by omega) λf y2 w2 f0 f1 ok2=>?_;have hK2:Kq r G (put (put G1 a (.lst [.int (1000000000000+1),.int 12,.int 20,.int 20,.int 20,.int 20])) r (RowO y2 w2)):=(hK1.trans (Kq.new ha)).trans Kq.at
 have hR2:RowAt (put (put G1 a (.lst [.int (1000000000000+1),.int 12,.int 20,.int 20,.int 20,.int 20])) r (RowO y2 w2)) r:=RowAt.at ok2;generalize put (put G1 a (.lst [.int (1000000000000+1),.int 12,.int 20,.int 20,.int 20,.int 20])) r (RowO y2 w2)=G2 at hR2 hK2 ⊢;symm;refine a5R (fun σ' G'=>∃(b:Int),0<=b/\b<=T12/\G'=G2/\σ'=[some (.ref r),some (.int kd),some (.int b),none]) ?_ ?_
 ·symm;refine ifD (λc=>?_) λc=>?_
  ·symm;refine i_I ⟨by decide,by decide,by decide⟩ ?_;rw[b1W];symm
   have:=hn3 c
   exact⟨1000000000000-f,by omega,by unfold T12;omega,rfl,rfl⟩
  ·symm;refine⟨f,f0,by unfold T12;omega,rfl,rfl⟩
 ·rintro σ' G' ⟨b,hb0,hb1,rfl,rfl⟩;symm;refine a1i hR2 (by decide) (by decide) λkd2 y3 w3 e0 e1 ok3=>?_;have hR3:RowAt (put G' r (RowO y3 w3)) r:=RowAt.at ok3;have hK3:Kq r G (put G' r (RowO y3 w3)):=hK2.trans Kq.at
  generalize put G' r (RowO y3 w3)=G3 at hR3 hK3 ⊢;symm;refine i_I ⟨by decide,by decide,by decide⟩ ?_;rw[b1W];symm;refine⟨lenK rfl,λa2 ha2=>?_⟩;symm;obtain⟨n2,hm,⟨hm0,hm1⟩,_,_⟩:=at6 (a:=1000000000000) (b:=1) (c:=4) (d:=12) (e:=30) (f:=30) (P:=λn=>0<n/\n<=1000000000001) e0 e1 (by decide) (by decide) (by decide) (by decide) (by decide) (by decide);refine a0E a0a hm ?_;symm;refine a1i (n:=n2) (hR3.new ha2) hm0 (by omega) λf2 y4 w4 g0 g1 ok4=>?_;have hK4:=(hK3.trans (Kq.new (o:=.lst [.int 1000000000000,.int 1,.int 4,.int 12,.int 30,.int 30]) ha2)).trans (Kq.at (o:=RowO y4 w4));symm;refine i_I ⟨by decide,by decide,by decide⟩ ?_;rw[b1W];symm;refine ifD (λc=>?_) λc=>?_
  ·symm;refine⟨lenK rfl,?_⟩;exact q b none _ ⟨hb0,hb1,λx h=>nomatch h⟩ (RowAt.at ok4) hK4
  ·symm;refine ifD (λc2=>?_) λc2=>?_
   ·symm;refine⟨lenK rfl,?_⟩;exact q b none _ ⟨hb0,hb1,λx h=>nomatch h⟩ (RowAt.at ok4) hK4
   ·symm;refine⟨lenK rfl,?_⟩;refine q b (some (b+1+f2)) _ ⟨hb0,hb1,λx h=>?_⟩ (RowAt.at ok4) hK4;cases h;unfold T12;omega
def a96(h1:flat 8 x=true)(h2:flat 8 y=true)(h:R (.bl (f (decide (x=y)))) G):zEq f x y G R:=by
 cases x<;>cases y<;>first
  |exact⟨h1,h2,h⟩
  | (simp at h1;done)
  | (simp[flat]at h2;done)
  | (rw[a0s (Z.int.injEq _ _)]at h;exact h)
  | (rw[a0s (Z.str.injEq _ _)]at h;exact h)
noncomputable def LT:List Z:=[.ty "list",.ty "tuple"]
def Plain(l:List Rw):Prop:=∀r∈l,∃x,r.w=[x]/\flat 0 x=true
def Plain.one(h:Plain l):One l:=λr a=>by obtain⟨x,e,_⟩:=h r a;exact⟨x,e⟩
def Plain.okR(h:Plain l):OkR l:=λr a=>by
 obtain⟨x,e,f⟩:=h r a;rw[e];exact b4B (a0q (by simp) f)
def Plain.nil:Plain []:=λr hr=>by simp at hr
def a2z(h:Plain puts)(t:Int):flat 0 (lastAt puts t)=true:=by
 unfold lastAt;cases e:puts.reverse.find? _ with
 |none=>rfl
 |some r=>
  obtain⟨x,a,f⟩:=h r (by have:=dH e;simpa using this)
  show flat 0 (r.w.headD .non)=true
  rw[a];exact f
def a4A(h:Plain puts)(hl:∀r∈l,∃t,optW (lastAt puts t)=some r.w):Plain l:=λr a=>by
 obtain⟨t,e⟩:=hl r a;unfold optW at e
 split at e
 ·cases e
 ·exact⟨_,(aN.inj e).symm,a2z h t⟩
def a6a(z:Z):wz (optW z)=z:=by
 unfold optW
 split
 ·next h=>rw[h];rfl
 ·rfl
def Pair1(l:List Rw):Prop:=∀r∈l,∃x,r.w=[x]/\flat 1 x=true
def Pair1.one(h:Pair1 l):One l:=λr a=>let ⟨x,e,_⟩:=h r a;⟨x,e⟩
def Pair1.okR(h:Pair1 l):OkR l:=λr a=>by
 obtain⟨x,e,f⟩:=h r a;rw[e];exact b4B (a0q (by simp) f)
def a3s:P3:=λws G R=>∃(p:Addr)(rows:List Rw),ws=[.ref p]/\G p=some (.lst (rows.map Rw.z))/\One rows/\rows.length<=400/\∀(t:Addr)(ms:List Int)(G':Hq),G t=none->Sm G G'->G' t=some (.lst (ms.map Z.int))->a0G rows ms->ms.length<=2*rows.length->R (.ref t) G'
def a3f(h:ms.Pairwise (·<·))(q:∀x,x∈ms↔x∈rows.filterMap (λr=>some r.b)++rows.filterMap (λr=>r.e)):a0G rows ms:=by
 refine⟨h,λx=>?_⟩;rw[q x,au,bU,bU]
 constructor
 ·rintro (⟨r,a,e⟩ |⟨r,a,e⟩)
  ·exact⟨r,a,.inl (by simpa using e.symm)⟩
  ·exact⟨r,a,.inr e⟩
 ·rintro⟨r,a,e |e⟩
  ·exact .inl ⟨r,a,by rw[e]⟩
  ·exact .inr ⟨r,a,e⟩
set_option tactic.hygienic true in
def a3t(T:Txt K mg base a):Cal P w K mg base CX0 1 "bounds_of" (lowP K a3s):=by
 refine fnc 1 (N:=["stretches","begins","ends"]) T.br (T.f 8 _ rfl) ?_;walk_at "in";refine⟨_,(a0e (z_l (nmI 1 nd) ["begin","end","worth"] [none,none,none] (.tp [0,1,2]))
  (a0e (z_l (nmI 2 nd) ["begin","end","worth"] [none,none,none] (.tp [0,1,2]))
  (a0D (a2a (q_ss rfl rfl (T.b 8) rfl rfl (T.b 9) rfl (by ac_rfl) (he:=se_ rfl) (hpl:=hp_ rfl)))))),?_⟩
 obtain⟨p,rows,rfl,hp,h1,hz,q⟩:=h;symm;refine a09 hp ?_;intro D hD;refine a1H (g':=Z.int) (λr=>some r.b) (λys=>a0b hp hD) (by omega) ?_ ?_
 ·intro r hr ys K1 K2 k1 k2;obtain⟨x,hx⟩:=h1 r hr;obtain⟨b,e,w⟩:=r;cases hx;refine⟨_,rfl,?_⟩;symm;exact k1 _ rfl
 have nDp:p≠D:=a0h hp hD;symm;refine a09 (a0b hp hD) ?_;intro F hF;refine a1H (g':=Z.int) (λr=>r.e) (λys=>a0b (a0b hp hD) hF) (by omega) ?_ ?_
 ·intro r hr ys K1 K2 k1 k2;obtain⟨x,hx⟩:=h1 r hr;obtain⟨b,e,w⟩:=r;cases hx;refine⟨_,rfl,?_⟩;cases e with
  |none=>
   symm;exact k2 rfl
  |some e=>
   symm;exact k1 _ rfl
 symm;have l1:(rows.filterMap λr=>some r.b).length<=rows.length:=bW _ _;have l2:(rows.filterMap λr=>r.e).length<=rows.length:=bW _ _;refine a6z (a0b a0a hF) a0a (a03 (by rw[aq,aq];omega)) λc hc=>?_;symm;refine i_ss (ns:=(rows.filterMap λr=>some r.b)++(rows.filterMap λr=>r.e)) (by rw[a0a,aG]) (by rw[aJ];omega) λt ks ht hpw hm hl=>?_;exact q t ks _ ((((Sm.new hD).trans (Sm.new hF)).trans (Sm.new hc)).free ht) ((((Sm.new hD).trans (Sm.new hF)).trans (Sm.new hc)).trans (Sm.new ht)) a0a (a3f hpw hm) (by rw[aJ]at hl;omega)
def b4L{α:Type}{xs:List α}:cutZ xs (some 1) none=xs.drop 1:=by
 cases xs with
 |nil=>rfl
 |cons x xs=>
  unfold cutZ;simp[HT.sIx]
def b1X(hne:xss≠[])(h:∀xs∈xss,n<=xs.length)(h2:∃xs∈xss,xs.length=n):(zipZ xss).length=n:=by
 have b:∀i,(∃w,_[i]?=some w)↔i<n:=λi=>by
  constructor
  ·rintro⟨w,d⟩;obtain⟨vs,rfl,e⟩:=(a1u xss hne i w).mp d;obtain⟨a,f,hl⟩:=h2
   have:a[i]?∈xss.map (·[i]?):=bg f
   rw[e]at this;obtain⟨v,_,k⟩:=aM.mp this
   have:=(az.mp k.symm).1
   lia
  ·intro hi;refine⟨_,(a1u xss hne i _).mpr ⟨xss.map λa=>a.getD i .non,rfl,?_⟩⟩;rw[bQ];refine fv λa f=>?_
   have:=h a f
   rw[Function.comp,bX,aC (by lia)]
   rfl
 have h2:=b n
 by_cases c:(zipZ xss).length<n
 ·grind
 ·by_cases c2:n<(zipZ xss).length
  ·simp_all
  ·lia
def zip4{xs ys zs us:List Z}{i:Nat}{w:Z}(h:(zipZ [xs,ys,zs,us])[i]?=some w):Ex4 λa b c d=>w=.tup [a,b,c,d]/\xs[i]?=some a/\ys[i]?=some b/\zs[i]?=some c/\us[i]?=some d:=by
 obtain⟨vs,rfl,e⟩:=(a1u [xs,ys,zs,us] (by simp) i w).mp h
 match vs,e with
 |[],e=>simp at e
 |[_],e=>simp at e
 |[_,_],e=>simp at e
 |[_,_,_],e=>simp at e
 |[a,b,c,d],e=>
  simp only[aF,bx,bN.injEq,and_true]at e;exact⟨a,b,c,d,rfl,e.1,e.2.1,e.2.2.1,e.2.2.2⟩
 |_::_::_::_::_::_,e=>simp at e
noncomputable def laidF(l o:List Rw)(t:Int):Option (List Z):=if wz (val l t)=.non/\wz (val o t)=.non then none else some [wz (val l t),wz (val o t)]
def a5r(h:Pair1 l)(t:Int):flat 1 (wz (val l t))=true:=by
 unfold val;cases e:l.find? _ with
 |none=>rfl
 |some r=>
  obtain⟨x,a,f⟩:=h r (dH e)
  show flat 1 (r.w.headD .non)=true
  rw[a];exact f
def b1Y(hl:Pair1 l)(ho:Pair1 o)(bs:List Int):OkR (pcs (laidF l o) bs):=λr a=>by
 obtain⟨_,e⟩:=a4s a;unfold laidF at e
 split at e
 ·grind
 ·rw[<- aN.inj e];refine⟨by simp,by simp,?_⟩;rw[aS,aS,a0q (by decide) (a5r hl r.b),a0q (by decide) (a5r ho r.b)];rfl
def a1U:P3:=λws G R=>Ex4 λ(p q:Addr) (l o:List Rw)=>ws=[.ref p,.ref q]/\G p=some (.lst (l.map Rw.z))/\G q=some (.lst (o.map Rw.z))/\Rise l/\Pair1 l/\Rise o/\Pair1 o/\l.length<=150/\o.length<=150 /\
 ∀(t:Addr)(bs:List Int)(G':Hq),G t=none->Sm G G'->a0G (l++o) bs->bs.length<=2*(l.length+o.length)->G' t=some (.lst ((join (pcs (laidF l o) bs)).map Rw.z))->R (.ref t) G'
def b4M{bs:List Int}(hi:i<bs.length):((bs.map Z.int).drop 1++[Z.non])[i]?=some (oz bs[i+1]?):=by
 by_cases c:i+1<bs.length
 ·rw[cy (by rw[bj,aq];lia),cE,er 1 i,aA,aC c];rfl
 ·have:i+1=bs.length:=by lia
  rw[cx (by rw[bj,aq];lia),bj,aq,this,d8 (av _),show i-_=0 by lia]
  rfl
set_option tactic.hygienic true in
def a1V(T:Txt K mg base a):Cal P w K mg base CX0 3 "laid_together" (lowP K a1U):=by
 refine fnc 2 (N:=["line","other","bounds","worths","other_worths","ends","pieces","begin","end","worth","other_worth"]) T.br (T.f 11 _ rfl) ?_;walk_at "in";refine⟨_,(a0e (by ac_rfl)
  (a0e (by ac_rfl)
  (a0e (by ac_rfl)
  (a0e (by ac_rfl)
  (a0e (by ac_rfl)
  (a0e (a2F (pt:=(.tp [7,8,9,10])) gi.never rfl (b3S (n:=4) zok4 (by decide) rfl (T.b 10) (q_k (qv 2) (q_k (qv 5) (q_k (qv 3) (q_k (qv 4) a0Q)))) (he:=se_ rfl) (hpl:=hp_ rfl)) (by ac_rfl)
  (by ac_rfl))
  (by ac_rfl))))))),?_⟩
 obtain⟨p,q,l,o,rfl,hp,hq,hl,pl,ho,po,zl,zo,fin⟩:=h;symm;refine a6z hp hq (a03 (by rw[aq,aq];omega)) λa ha=>?_;symm;have one:One (l++o):=λr hr=>(au.mp hr).elim (pl.one r) (po.one r);refine⟨a,l++o,rfl,by rw[a0a,aG],one,by rw[aJ];omega,λu bs G1 hu s1 gu hb hbl=>?_⟩;have s1:=(Sm.new ha).trans s1;rw[aJ]at hbl;have hpw:bs.Pairwise (·<=·):=hb.1.imp λh=>by omega
 symm;refine⟨p,u,l,bs,rfl,s1 _ _ hp,gu,hl,pl.okR,by omega,hpw,by omega,λw hw=>?_⟩;symm;refine⟨q,u,o,bs,rfl,a0b (s1 _ _ hq) hw,a0b gu hw,ho,po.okR,by omega,hpw,by omega,λv hv=>?_⟩;symm;refine b6w (a0b (a0b gu hw) hv) λc hc=>?_;rw[b4L];symm;refine⟨lenK rfl,λd hd=>?_⟩;symm;refine a6z (a0b a0a hd) a0a (a03 (by rw[bj,aq];show bs.length-1+1<=1000;omega)) λe he=>?_;symm;refine⟨lenK rfl,λt ht=>?_⟩;have s2:Sm G1 (put (put (put (put (put (put G1 w (.lst (bs.map λm=>wz (val l m)))) v (.lst (bs.map λm=>wz (val o m)))) c (.lst ((bs.map Z.int).drop 1))) d (.lst [.non])) e (.lst ((bs.map Z.int).drop 1++[Z.non]))) t (.lst [])):=
  (((((Sm.new hw).trans (Sm.new hv)).trans (Sm.new hc)).trans (Sm.new hd)).trans (Sm.new he)).trans (Sm.new ht)
 have gw:=a0b (a0b (a0b (a0b (a0b (a0a (G:=G1) (a:=w) (o:=.lst (bs.map λm=>wz (val l m)))) hv) hc) hd) he) (o:=.lst []) ht;have gv:=a0b (a0b (a0b (a0b (a0a (G:=put G1 w (.lst (bs.map λm=>wz (val l m)))) (a:=v) (o:=.lst (bs.map λm=>wz (val o m)))) hc) hd) he) (o:=.lst []) ht;have ge:=a0b (a0a (G:=put (put (put (put G1 w (.lst (bs.map λm=>wz (val l m)))) v (.lst (bs.map λm=>wz (val o m)))) c (.lst ((bs.map Z.int).drop 1))) d (.lst [.non])) (a:=e) (o:=.lst ((bs.map Z.int).drop 1++[Z.non]))) (o:=.lst []) ht;have gt:=a0a (G:=put (put (put (put (put G1 w (.lst (bs.map λm=>wz (val l m)))) v (.lst (bs.map λm=>wz (val o m)))) c (.lst ((bs.map Z.int).drop 1))) d (.lst [.non])) e (.lst ((bs.map Z.int).drop 1++[Z.non]))) (a:=t) (o:=.lst []);have nu:=a0h (a0b (a0b (a0b (a0b (a0b gu hw) hv) hc) hd) he) ht;have nw:=a0h (a0b (a0b (a0b (a0b (a0a (G:=G1) (a:=w) (o:=.lst (bs.map λm=>wz (val l m)))) hv) hc) hd) he) ht;have nv:=a0h (a0b (a0b (a0b (a0a (G:=put G1 w (.lst (bs.map λm=>wz (val l m)))) (a:=v) (o:=.lst (bs.map λm=>wz (val o m)))) hc) hd) he) ht;have ne:=a0h (a0a (G:=put (put (put (put G1 w (.lst (bs.map λm=>wz (val l m)))) v (.lst (bs.map λm=>wz (val o m)))) c (.lst ((bs.map Z.int).drop 1))) d (.lst [.non])) (a:=e) (o:=.lst ((bs.map Z.int).drop 1++[Z.non]))) ht;have hGt:G t=none:=s1.free ((((((Sm.new hw).trans (Sm.new hv)).trans (Sm.new hc)).trans (Sm.new hd)).trans (Sm.new he)).free ht);generalize put (put (put (put (put (put G1 w (.lst (bs.map λm=>wz (val l m)))) v (.lst (bs.map λm=>wz (val o m)))) c (.lst ((bs.map Z.int).drop 1))) d (.lst [.non])) e (.lst ((bs.map Z.int).drop 1++[Z.non]))) t (.lst [])=G2 at s2 gw gv ge gt ⊢;have gu2:=s2 _ _ gu;have hsrc:∀G':Hq,(∀b ob,b≠t->G2 b=some ob->G' b=some ob)->[Z.ref u,Z.ref e,Z.ref w,Z.ref v].map (srcZ G')=[bs.map Z.int,(bs.map Z.int).drop 1++[Z.non],bs.map λm=>wz (val l m),bs.map λm=>wz (val o m)].map some:=λG' k=>by
  have k1:=k u _ nu gu2;have k2:=k e _ ne ge;have k3:=k w _ nw gw;have k4:=k v _ nv gv;simp only[aF,bx,srcZ,k1,k2,k3,k4]
 have hzl:(zipZ [bs.map Z.int,(bs.map Z.int).drop 1++[Z.non],bs.map λm=>wz (val l m),bs.map λm=>wz (val o m)]).length=bs.length:=
  b1X (by simp) (λxs hx=>by
   simp only[ax,dB,or_false]at hx;rcases hx with rfl |rfl |rfl |rfl
   ·simp
   ·simp;omega
   ·simp
   ·simp) ⟨_,.head _,by simp⟩
 symm;refine⟨[bs.map Z.int,(bs.map Z.int).drop 1++[Z.non],bs.map λm=>wz (val l m),bs.map λm=>wz (val o m)],hsrc G2 λb ob _ h=>h,by simp,rfl,?_⟩;refine a0R (λi σ G'=>Ex5 λ(told:List Rw) (v1 v2 v3 v4:Option Z)=>told++pcs (laidF l o) (bs.drop i)=pcs (laidF l o) bs/\told.length<=i/\G' t=some (.lst (told.map Rw.z))/\(∀b ob,b≠t->G2 b=some ob->G' b=some ob)/\σ=[some (.ref p),some (.ref q),some (.ref u),some (.ref w),some (.ref v),some (.ref e),some (.ref t),v1,v2,v3,v4])
  ⟨[],_,_,_,_,rfl,av _,gt,λb ob _ h=>h,rfl⟩ (by rintro i σ G' _ ⟨_,_,_,_,_,_,_,_,k,_⟩;exact hsrc G' k) ?_ ?_
 ·rintro i x σ G' hx ⟨told,v1,v2,v3,v4,hj,hlen,gt',k,rfl⟩;have hi:i<bs.length:=by have:=(az.mp hx).1;omega
  obtain⟨x1,x2,x3,x4,rfl,e1,e2,e3,e4⟩:=zip4 hx;rw[b4M hi]at e2;rw[aA,aC hi]at e1 e3 e4;simp only[cA,aN.injEq]at e1 e2 e3 e4;subst e1 e2 e3 e4;have hdr:bs.drop i=bs[i]::bs.drop (i+1):=cQ hi;rw[hdr,pcs,List.head?_drop]at hj;refine⟨_,rfl,?_⟩;have skip:wz (val l bs[i])=.non->wz (val o bs[i])=.non->told++pcs (laidF l o) (bs.drop (i+1))=pcs (laidF l o) bs:=λc1 c2=>by
   have:laidF l o bs[i]=none:=if_pos ⟨c1,c2⟩
   rw[this]at hj;exact hj
  have some_:¬ (wz (val l bs[i])=.non/\wz (val o bs[i])=.non)->(told++[⟨bs[i],bs[i+1]?,[wz (val l bs[i]),wz (val o bs[i])]⟩])++pcs (laidF l o) (bs.drop (i+1))=pcs (laidF l o) bs:=λc=>by
   have:laidF l o bs[i]=some [wz (val l bs[i]),wz (val o bs[i])]:=if_neg c
   rw[this]at hj;rw[aW];exact hj
  generalize bs[i]=b at skip some_ ⊢;generalize wz (val l b)=y1 at skip some_ ⊢;generalize wz (val o b)=y2 at skip some_ ⊢;generalize bs[i+1]?=en at some_ ⊢;symm;refine ifN (λc1=>?_) λc1=>?_
  ·symm;refine a0V gt' ?_;symm;refine⟨lenK rfl,?_⟩;symm;refine a0x gt' (by rw[aq];exact a0g (by omega)) ⟨told++[⟨b,en,[y1,y2]⟩],_,_,_,_,some_ (λz=>c1 z.1),by rw[aJ];show told.length+1<=i+1;omega,?_,λc ob nc h=>by rw[a0f nc];exact k c ob nc h,rfl⟩;rw[a0a,aG];rfl
  ·symm;refine ifN (λc2=>?_) λc2=>?_
   ·symm;refine a0V gt' ?_;symm;refine⟨lenK rfl,?_⟩;symm;refine a0x gt' (by rw[aq];exact a0g (by omega)) ⟨told++[⟨b,en,[y1,y2]⟩],_,_,_,_,some_ (λz=>c2 z.2),by rw[aJ];show told.length+1<=i+1;omega,?_,λc ob nc h=>by rw[a0f nc];exact k c ob nc h,rfl⟩;rw[a0a,aG];rfl
   ·symm;exact⟨told,_,_,_,_,skip c1 c2,by omega,gt',k,rfl⟩
 ·rintro σ G' ⟨told,v1,v2,v3,v4,hj,hlen,gt',k,rfl⟩;rw[hzl,List.drop_length,pcs,a9]at hj;subst hj;symm;refine⟨t,_,rfl,gt',(b1Y pl po bs).weak,aD (a2i _ _) (by omega),λz hz=>?_⟩;have s3:Sm G G':=λb ob h=>k b ob (a0h h hGt) (s2 _ _ (s1 _ _ h));exact fin z bs _ (s3.free hz) (s3.trans (Sm.new hz)) hb hbl a0a
def b1Z(h:nmOk s):Th G (.str s):=⟨by rw[a1m];have:=h.2.1;lia,a67 h.2.2⟩
def nm_b(h:nmOk s):a2j (.str s)=true:=by
 rw[a2U,decide_eq_true (by rw[a1m];exact h.1),decide_eq_true (by rw[a1m];exact h.2.1)];rw[bM,bM,bA];intro c b;obtain⟨a,d⟩:=h.2.2 c b;unfold okC;rw[decide_eq_true a,decide_eq_true d];rfl
def st_b(h:stOk b e):strB (.int b) (oz e)=true:=by
 obtain⟨c,g,a⟩:=h;unfold T12 at *;unfold strB;rw[a4y,decide_eq_true c,decide_eq_true g];cases e with
 |none=>rfl
 |some x=>
  obtain⟨f,d⟩:=a x rfl
  show (true&&(momB _&&decide _))=true
  rw[a4y,decide_eq_true (show 0<=x by lia),decide_eq_true d,decide_eq_true f];rfl
def a97(h:Plain L)(f:flat 0 z=true):Plain (a5i L b e (optW z)):=λr a=>by
 have m:Plain (a1j L b e (optW z)):=λr a=>by
  rcases au.mp a with a |a
  ·rcases au.mp a with a |a
   ·obtain⟨j,i,_,rfl⟩:=a1S a;exact h j i
   ·unfold optW at a
    split at a
    ·next w e=>
           split at e
           ·cases e
           ·cases e;rw[ay.mp a];exact⟨z,rfl,f⟩
    ·simp_all
  ·cases e with
   |none=>simp at a
   |some e=>
    obtain⟨j,i,_,rfl⟩:=a2T a;exact h j i
 have l:∀d c,Plain c->Plain d->Plain (d.foldl jn c):=by
  intro d
  induction d with
  |nil=>exact λ_ h _=>h
  |cons p d ih=>
   intro c k g;refine ih _ (λr a=>?_) λr a=>g r (.tail _ a)
   have:=g p (.head _)
   unfold jn at a
   split at a
   ·split at a
    ·rcases au.mp a with a |a
     ·exact k r (fI _ a)
     ·simp_all
    ·rcases au.mp a with a |a
     ·exact k r a
     ·simp_all
   ·simp_all
 exact l _ [] Plain.nil m r a
structure Tl where
 key:Str
 w:Option Str
 b:Int
 e:Option Int
abbrev sPut:Str:=Str.ofString "put"
abbrev b2F:Str:=Str.ofString "clear"
noncomputable def Tl.z(τ:Tl):Z:=match τ.w with
 |some w=>.tup [.str sPut,.str τ.key,.str w,.int τ.b,oz τ.e]
 |none=>.tup [.str b2F,.str τ.key,.int τ.b,oz τ.e]
noncomputable def Tl.v(τ:Tl):Z:=match τ.w with
 |some w=>.str w
 |none=>.non
structure Tl.Ok (τ:Tl):Prop where
 k:nmOk τ.key
 w:∀s,τ.w=some s->nmOk s
 st:stOk τ.b τ.e
noncomputable def Tl.Ok.v{τ:Tl}(h:τ.Ok):flat 0 τ.v=true:=by
 unfold Tl.v;cases e:τ.w with
 |none=>rfl
 |some w=>exact a4z (h.w w e)
noncomputable def Tl.rw(τ:Tl):Rw:=⟨τ.b,τ.e,[τ.v]⟩
noncomputable def putsK(T:List Tl)(k:Str):List Rw:=(T.filter fun τ=>decide (τ.key=k)).map Tl.rw
def a7X:putsK (T++[τ]) k=putsK T k++(if τ.key=k then [τ.rw] else []):=by
 unfold putsK
 by_cases c:τ.key=k<;>simp[c]
def OkT(T:List Tl):Prop:=∀τ∈T,τ.Ok
def a3S(h:OkT T):Plain (putsK T k):=λr a=>by
 obtain⟨τ,b,rfl⟩:=aM.mp a;exact⟨_,rfl,(h τ (bC.mp b).1).v⟩
structure IsLine (T:List Tl) (k:Str) (L:List Rw):Prop where
 can:Can L
 pl:Plain L
 len:L.length<=2*T.length
 v:∀t,val L t=optW (lastAt (putsK T k) t)
def IsLine.nil(h:putsK T k=[]):IsLine T k []:=⟨Can.nil,Plain.nil,by simp,λt=>by rw[h];rfl⟩
def IsLine.snoc(h:IsLine T τ.key L)(o:τ.Ok):IsLine (T++[τ]) τ.key (a5i L τ.b τ.e (optW τ.v)):=by
 have a:=b1G (w:=optW τ.v) h.can.rise o.st.bef;refine⟨a.1,a97 h.pl o.v,by have:=a.2.2;have:=h.len;simp;lia,λt=>?_⟩;rw[a7X,if_pos rfl,a55,a.2.1 t,h.v t]
 show _=optW (if (decide (τ.b<=t)&&bef t τ.e)=true then τ.v else lastAt _ t)
 split<;>rfl
noncomputable def ixF(k:Str):Nat->List Tl->List Int
 |_,[]=>[]
 |n,τ::T=>(if τ.key=k then [(n:Int)+1] else [])++ixF k (n+1) T
noncomputable def ix(T:List Tl)(k:Str):List Int:=ixF k 0 T
def b10:∀(n:Nat)(T:List Tl),ixF k n (T++[τ])=ixF k n T++(if τ.key=k then [(n+T.length:Int)+1] else []):=by intro z0 y0;induction y0 generalizing z0 with
 |nil=>simp[ixF]
 |cons σ T I0=>
  rw[cV,ixF,I0,ixF,aW]
  congr 2
  split
  ·congr 1;rw[aI];lia
  ·rfl
def a2k:ix (T++[τ]) k=ix T k++(if τ.key=k then [(T.length:Int)+1] else []):=by
 unfold ix;rw[b10];simp
def b2G:∀{n:Nat}{T:List Tl}{i:Int},i∈ixF k n T->(n:Int)+1<=i/\i<=n+T.length:=by intro z0 y0;induction y0 generalizing z0 with
 |nil=>intro i h;simp[ixF]at h
 |cons τ T I0=>
  intro i h;rw[aI];rcases au.mp h with h |h
  ·split at h
   ·rw[ay.mp h];lia
   ·simp_all
  ·have:=I0 h;lia
def b7v(h:i∈ix T k):1<=i/\i<=T.length:=by
 have:=b2G h
 simpa using this
def b4N:∀(n:Nat)(T:List Tl),(ixF k n T).length<=T.length:=by intro z0 y0;induction y0 generalizing z0 with
 |nil=>simp[ixF]
 |cons τ T I0=>
  have:=I0 (z0+1)
  rw[ixF,aJ,aI]
  split<;>simp<;>lia
def b7w(T:List Tl)(k:Str):(ix T k).length<=T.length:=b4N 0 T
def a7Y:∀(n:Nat)(T:List Tl),(ixF k n T).Pairwise (·<·):=by intro z0 y0;induction y0 generalizing z0 with
 |nil=>exact .nil
 |cons τ T I0=>
  refine aT.mpr ⟨by split<;>simp,I0 _,λx a y b=>?_⟩
  have:=b2G b
  split at a
  ·rw[ay.mp a];omega
  ·grind
def a98(T:List Tl)(k:Str):(ix T k).Pairwise (·<·):=a7Y 0 T
theorem a2V:∀(n:Nat)(T:List Tl)(s q:Nat),s<=q->(∀i∈ixF k n T,(i:Int)<=n+s\/(n+q:Int)<i)->putsK (T.take q) k=putsK (T.take s) k
 |n,[],s,q,_,_=>by simp
 |n,τ::T,s,0,hs,_=>by grind
 |n,τ::T,0,q+1,hs,h=>by
  have d:¬ τ.key=k:=λe=>by
   have:=h (n+1) (by rw[ixF,if_pos e];simp)
   lia
  have a:=a2V (k:=k) (n+1) T 0 q (by lia) λi b=>by
   rcases h i (by rw[ixF];simp[b]) with c |c
   lia
   lia
  rw[eC];unfold putsK at a ⊢;rw[bK,if_neg (by simpa using d),a];simp
 |n,τ::T,s+1,q+1,hs,h=>by
  have a:=a2V (k:=k) (n+1) T s q (by lia) λi b=>by
   rcases h i (by rw[ixF];simp[b]) with c |c
   ·left;lia
   lia
  rw[eC,eC];unfold putsK at a ⊢;rw[bK,bK]
  split
  ·grind
  ·exact a
def IsLine.cut{s q:Nat}(h:IsLine (T.take s) k L)(hs:s<=q)(hi:∀i∈ix T k,i<=(s:Int)\/(q:Int)<i):IsLine (T.take q) k L:=by
 have e:=a2V 0 T s q hs λi h=>by have:=hi i h;simpa using this
 exact⟨h.can,h.pl,by have:=h.len;rw[aK]at this ⊢;lia,λt=>by rw[e];exact h.v t⟩
def a5s{q:Nat}(h:∀i∈ix T k,(q:Int)<i):putsK (T.take q) k=[]:=by
 have:=a2V 0 T 0 q (aR _) λi a=>by right;have:=h i a;simpa using this
 rw[this];rfl
noncomputable def dif(x y:Z):Option (List Z):=if x=y then none else some [x,y]
structure Cg where
 k:Str
 r:Rw
noncomputable def Cg.z(c:Cg):Z:=.tup (.str c.k::.int c.r.b::oz c.r.e::c.r.w)
def b2H(hb:bs.Pairwise (·<·))(st:∀t b,b∈bs->b<=t->(∀c∈bs,c<=t->c<=b)->F t=F b)(no:∀t,(bs.any λb=>decide (b<=t))=false->F t=none) :
  Can (join (pcs F bs))/\(∀t,val (join (pcs F bs)) t=F t)/\(join (pcs F bs)).length<=bs.length:=by
 have j:=a2h (a4t F hb);refine⟨j.1,λt=>?_,aD j.2.2.1 (a2i _ _)⟩;rw[j.2.1,a9S hb st t]
 split
 ·rfl
 ·next c=>exact (no t (by simpa using c)).symm
def a1v{rows l:List Rw}(sub:∀r∈l,r∈rows)(hb:a0G rows bs)(hbt:b<=t)(hm:∀c∈bs,c<=t->c<=b):l.find? (·.has t)=l.find? (·.has b):=
 a3R λr a=>a63 hbt (λh=>hm _ ((hb.2 _).mpr ⟨r,sub r a,.inl rfl⟩) h) λe d h=>hm e ((hb.2 _).mpr ⟨r,sub r a,.inr d⟩) h
def a4B(hb:a0G rows bs)(h:(bs.any λb=>decide (b<=t))=false)(hr:r∈rows):r.has t=false:=by
 refine a3Q ?_;have q:=cK.mp h r.b ((hb.2 _).mpr ⟨r,hr,.inl rfl⟩);simp at q;exact q
def laid_ok(hb:a0G (l++o) bs):Can (join (pcs (laidF l o) bs))/\(∀t,val (join (pcs (laidF l o) bs)) t=laidF l o t)/\(join (pcs (laidF l o) bs)).length<=bs.length:=by
 refine b2H hb.1 (λt b _ c d=>?_) λt h=>?_
 ·unfold laidF val;rw[a1v (λr a=>cf _ a) hb c d,a1v (λr a=>aY _ a) hb c d]
 ·unfold laidF;rw[a04 λr a=>a4B hb h (cf _ a),a04 λr a=>a4B hb h (aY _ a)]
  rfl
def b7x{P Q:List Rw}{bs:List Int}(hb:a0G (P++Q) bs):Can (join (pcs (λt=>dif (lastAt P t) (lastAt Q t)) bs))/\(∀t,val (join (pcs (λt=>dif (lastAt P t) (lastAt Q t)) bs)) t=dif (lastAt P t) (lastAt Q t))/\(join (pcs (λt=>dif (lastAt P t) (lastAt Q t)) bs)).length<=bs.length:=by
 refine b2H hb.1 (λt b _ c d=>?_) λt h=>?_
 ·unfold lastAt;rw[a1v (λr a=>cf _ (by simp_all)) hb c d,a1v (λr a=>aY _ (by simp_all)) hb c d]
 ·have e:∀S:List Rw,(∀r∈S,r∈P++Q)->lastAt S t=.non:=λS f=>by
   unfold lastAt;rw[cX.mpr λr a=>by rw[a4B hb h (f r (by simp_all))];decide]
  rw[e P λr a=>cf _ a,e Q λr a=>aY _ a]
  rfl
theorem a4C:∀{l:List Rw},val (l.map λr=>⟨r.b,r.e,h r.w⟩) t=(val l t).map h
 |[]=>rfl
 |r::l=>by
  rw[aF,a0i,a0i,a4C]
  show (if r.has t=true then _ else _)=_
  split<;>rfl
def a1W{h:List Z->List Z}(g:Rise l):Rise (l.map λr=>⟨r.b,r.e,h r.w⟩):=by
 refine⟨λr c=>?_,?_⟩
 ·obtain⟨s,a,rfl⟩:=aM.mp c;exact g.1 s a
 ·rw[bT];exact g.2
def a3T(g:Can l):Can (l.filter q):=⟨λr a=>g.1 r (bC.mp a).1,g.2.sublist cn⟩
theorem a2l:∀{l:List Rw},Rise l->val (l.filter λr=>q r.w) t=(val l t).filter q
 |[],_=>rfl
 |r::l,g=>by
  rw[bK,a0i];have a:=a2l (q:=q) (t:=t) g.tail
  by_cases c:r.has t=true
  ·rw[if_pos c];have n:=a04 λs b=>((aH.mp g.2).1 s b).has c;rw[n]at a
   by_cases d:q r.w=true
   ·rw[if_pos d,a0i,if_pos c];simp[dI,d]
   ·rw[if_neg d,a];simp[dI,d]
  ·rw[if_neg c]
   split
   ·rw[a0i,if_neg c,a]
   ·omega
noncomputable def pr(l:List Rw):List Rw:=l.map λr=>⟨r.b,r.e,[.tup r.w]⟩
noncomputable def fstZ:Z->Z
 |.tup (x::_)=>x
 |_=>.non
noncomputable def sndZ:Z->Z
 |.tup (_::y::_)=>y
 |_=>.non
noncomputable def hw:List Z->List Z
 |[p,o]=>[if p=.non then fstZ o else fstZ p,if o=.non then sndZ p else sndZ o]
 |w=>w
noncomputable def unW:List Z->Bool
 |[x,y]=>decide (x≠y)
 |_=>true
noncomputable def unl(l:List Rw):List Rw:=l.filter λr=>unW r.w
noncomputable def pj(l o:List Rw)(bs:List Int):List Rw:=join ((join (pcs (laidF l o) bs)).map λr=>⟨r.b,r.e,hw r.w⟩)
def a99(h:val l t=dif x y):wz (val (pr l) t)=if x=y then .non else .tup [x,y]:=by
 unfold pr;rw[a4C (h:=λw=>[.tup w]),h];unfold dif
 split<;>rfl
def b4O(h1:val l t=dif x y)(h2:val o t=dif y z):(laidF (pr l) (pr o) t).map hw=if x=y/\y=z then none else some [x,z]:=by
 unfold laidF;rw[a99 h1,a99 h2]
 by_cases a:x=y<;>by_cases b:y=z<;>simp_all[hw,fstZ,sndZ]
def b7y{f g h:Int->Z}(hlv:∀t,val l t=dif (f t) (g t))(hov:∀t,val o t=dif (g t) (h t))(hb:a0G (pr l++pr o) bs) :
  Can (pj (pr l) (pr o) bs)/\(∀t,val (pj (pr l) (pr o) bs) t=if f t=g t/\g t=h t then none else some [f t,h t])/\(pj (pr l) (pr o) bs).length<=bs.length:=by
 have q:=laid_ok hb;have j:=a2h (a1W (h:=hw) q.1.rise);refine⟨j.1,λt=>?_,aD j.2.2.1 (by simp_all)⟩
 show val (join _) t=_
 rw[j.2.1,a4C,q.2.1,b4O (hlv t) (hov t)]
def b7z{f g h:Int->Z}(hlv:∀t,val l t=dif (f t) (g t))(hov:∀t,val o t=dif (g t) (h t))(hb:a0G (pr l++pr o) bs) :
  Can (unl (pj (pr l) (pr o) bs))/\∀t,val (unl (pj (pr l) (pr o) bs)) t=dif (f t) (h t):=by
 have q:=b7y hlv hov hb;refine⟨a3T q.1,λt=>?_⟩;unfold unl;rw[a2l q.1.rise,q.2.1];unfold dif
 by_cases a:f t=g t<;>by_cases c:f t=h t<;>simp_all[dI,unW]
noncomputable def cgs(ks:List Str)(L:Str->List Rw):List Cg:=ks.flatMap λk=>(L k).map (Cg.mk k)
noncomputable def rowsOf(A:List Cg)(k:Str):List Rw:=(A.filter λc=>decide (c.k=k)).map (·.r)
abbrev FZ:=Str->Int->Z
def FF(f:FZ):Prop:=∀k t,flat 0 (f k t)=true
structure CL (f g:FZ) (A:List Cg):Prop where
 ex:∃ks L,A=cgs ks L/\ks.Pairwise leS/\ks.Nodup/\(∀k,k∉ks->L k=[])/\(∀k∈ks,nmOk k)/\∀k,Can (L k)/\∀t,val (L k) t=dif (f k t) (g k t)
def a68(nd:ks.Nodup)(k:Str):rowsOf (cgs ks L) k=if k∈ks then L k else []:=by
 unfold rowsOf cgs
 induction ks with
 |nil=>rfl
 |cons x ks ih=>
  rw[cq,List.filter_append,aG,ih (bv.mp nd).2]
  by_cases c:x=k
  ·subst c;rw[if_neg (bv.mp nd).1,if_pos bu,a9,List.filter_eq_self.mpr λc a=>by obtain⟨r,_,rfl⟩:=aM.mp a;simp,bQ];exact List.map_id _
  ·rw[cZ.mpr λd b=>by obtain⟨r,_,rfl⟩:=aM.mp b;simpa using c];simp[Ne.symm c]
def b0a(ks:List Str)(L:Str->List Rw):cgs ks L=cgs (ks.filter λk=>!(L k).isEmpty) L:=by
 unfold cgs
 induction ks with
 |nil=>rfl
 |cons x ks ih=>
  rw[cq,bK,ih];cases e:L x with
  |nil=>rfl
  |cons r l=>simp[e]
def CL.uniq(a:CL f g A)(b:CL f g B):A=B:=by
 obtain⟨j,L,rfl,n,r,l,_,d⟩:=a;obtain⟨i,M,rfl,m,p,o,_,c⟩:=b;have e:=funext λk=>a3b (d k).1 (c k).1 λt=>by rw[(d k).2,(c k).2]
 subst e;rw[b0a j,b0a i]
 congr 1
 refine a3c (n.sublist cn) (m.sublist cn) ((fL (r.sublist cn) (p.sublist cn)).mpr λk=>?_);rw[bC,bC]
 constructor
 ·rintro⟨h,q⟩;refine⟨Classical.byContradiction λz=>?_,q⟩;rw[o k z]at q;cases q
 ·rintro⟨h,q⟩;refine⟨Classical.byContradiction λz=>?_,q⟩;rw[l k z]at q;cases q
def CL.rows(a:CL f g A)(k:Str):Can (rowsOf A k)/\∀t,val (rowsOf A k) t=dif (f k t) (g k t):=by
 obtain⟨i,L,rfl,h,e,d,_,b⟩:=a;rw[a68 e]
 split
 ·exact b k
 ·next c=>rw[<- d k c];exact b k
def b0b{f g:Int->Z}(c:Can l)(h:∀t,val l t=dif (f t) (g t))(hr:r∈l):r.w=[f r.b,g r.b]/\f r.b≠g r.b:=by
 have q:val l r.b=some r.w:=by
  clear h
  induction l with
  |nil=>cases hr
  |cons s l ih=>
   rw[a0i];rcases ax.mp hr with rfl |hr
   ·rw[if_pos (a4q (c.1 _ (.head _)))]
   ·have:=(((aH.mp c.2).1 r hr).lt).b (c.1 s (.head _))
    have z:s.has r.b=false:=by
     cases e:s.has r.b with
     |false=>rfl
     |true=>
      have w:=((aH.mp c.2).1 r hr).lt.has e;rw[a4q (c.1 r (.tail _ hr))]at w;cases w
    rw[z,if_neg (by decide)];exact ih c.tail hr
 rw[h]at q;unfold dif at q
 split at q
 ·grind
 ·next n=>exact⟨(aN.inj q).symm,n⟩
def W2(r:Rw):Prop:=∃x y,r.w=[x,y]/\flat 0 x=true/\flat 0 y=true
def CL.w2(a:CL f g A)(hf:FF f)(hg:FF g)(hc:c∈A):W2 c.r/\nmOk c.k:=by
 obtain⟨l,L,rfl,m,n,j,i,b⟩:=a;obtain⟨k,d,e⟩:=eD.mp hc;obtain⟨r,h,rfl⟩:=aM.mp e;exact⟨⟨_,_,(b0b (b k).1 (b k).2 h).1,hf _ _,hg _ _⟩,i k d⟩
def CL.nil(f:FZ):CL f f []:=⟨[],λ_=>[],rfl,.nil,.nil,λ_ _=>rfl,λ_ h=>(nomatch h),λk=>⟨Can.nil,λt=>by unfold dif;rw[if_pos rfl];rfl⟩⟩
noncomputable def rev2:List Z->List Z
 |[x,y]=>[y,x]
 |w=>w
noncomputable def turn(A:List Cg):List Cg:=A.map λc=>⟨c.k,⟨c.r.b,c.r.e,rev2 c.r.w⟩⟩
def b4P(x y:Z):(dif x y).map rev2=dif y x:=by
 unfold dif
 by_cases c:x=y
 ·rw[if_pos c,if_pos c.symm];rfl
 ·rw[if_neg c,if_neg (Ne.symm c)];rfl
noncomputable def CL.turn(a:CL f g A):CL g f (turn A):=by
 obtain⟨j,L,rfl,d,o,l,n,c⟩:=a;refine⟨j,λk=>(L k).map λr=>⟨r.b,r.e,rev2 r.w⟩,?_,d,o,λk p=>by show (L k).map _=[];rw[l k p];rfl,n,λk=>⟨⟨?_,?_⟩,λt=>by rw[a4C,(c k).2,b4P]⟩⟩
 ·unfold Lw.turn cgs;rw[List.map_flatMap]
  congr 1
  funext k
  rw[bQ,bQ]
  rfl
 ·exact (a1W (c k).1.rise).1
 ·rw[bT];refine b6.imp_of_mem (λ{r s} x v h=>?_) (c k).1.2;obtain⟨e,y,B,m⟩:=h;refine⟨e,y,B,λz q=>m z ?_⟩;have i:=(b0b (c k).1 (c k).2 x).1;have u:=(b0b (c k).1 (c k).2 v).1;rw[i,u]at q ⊢;simp only[rev2,bN.injEq,and_true]at q ⊢;exact q.symm
structure CB (A:List Cg):Prop where
 ks:∃ns:List Str,ns.length<=4/\∀c∈A,c.k∈ns
 ln:∀k,(rowsOf A k).length<=150
 all:A.length<=600
noncomputable def CB.turn(h:CB A):CB (turn A):=by
 obtain⟨⟨i,j,b⟩,g,a⟩:=h;refine⟨⟨i,j,λc e=>?_⟩,λk=>?_,by unfold Lw.turn;rw[aq];exact a⟩
 ·obtain⟨d,f,rfl⟩:=aM.mp e;exact b d f
 ·have:=g k
  unfold rowsOf Lw.turn at *;rw[List.filter_map,aq,aq];rw[aq]at this;exact this
def CB.nil:CB []:=⟨⟨[],by simp,λ_ h=>(nomatch h)⟩,λk=>by simp[rowsOf],by simp⟩
abbrev a6b:Str:=Str.ofString "last"
abbrev b0c:Str:=Str.ofString "kept"
noncomputable def shF(n:Int)(d:Addr):List (Str×Z):=[(a6b,.int n),(b0c,.ref d)]
def b9E:¬ (a6b=b0c):=by decide +kernel
def b4Q:putQ b0c (.ref d) [(a6b,.int n)]=shF n d:=by
 rfl
def b4R:putQ a6b (.int m) (shF n d)=shF m d:=rfl
def a2m:(shF n d).lookup a6b=some (.int n):=rfl
def a6c:(shF n d).lookup b0c=some (.ref d):=rfl
def a4D(h1:(m==a6b)=false)(h2:(m==b0c)=false):(shF n d).lookup m=none:=by
 unfold shF;rw[bL,h1,bL,h2];rfl
abbrev enZ(e:Int×Addr):Z:=.tup [.int e.1,.ref e.2]
structure Hist (G:Hq) (S:Addr->Prop) (T:List Tl) (k:Str) (h:Addr) (es:List (Int×Addr)):Prop where
 s:S h
 at_:G h=some (.lst (es.map enZ))
 ix:es.map (·.1)=ix T k
 ne:es≠[]
 ln:∀e∈es,S e.2/\∃L,G e.2=some (.lst (L.map Rw.z))/\IsLine (T.take e.1.toNat) k L
def Rec(G:Hq)(S:Addr->Prop)(T:List Tl)(k:Str)(h:Addr):Prop:=∃es,Hist G S T k h es
def Rec.keepL(H:Rec G S T k h)(q:∀x ws,S x->G x=some (.lst ws)->G' x=some (.lst ws)):Rec G' S T k h:=by
 obtain⟨b,H⟩:=H;exact⟨b,H.s,q _ _ H.s H.at_,H.ix,H.ne,λe d=>let ⟨s,L,a,c⟩:=H.ln e d;⟨s,L,q _ _ s a,c⟩⟩
structure ShM (a:Ad) (G:Hq) (p:Addr) (S:Addr->Prop) (T:List Tl) (n:Int) (dx d:Addr) (kvs:List (Key×Z)):Prop where
 ob:G p=some (.ins a.c_Sheet dx (shF n d))
 sp:S p
 sd:S d
 dc:G d=some (.dK kvs)
 len:kvs.length<=T.length
 no:∀k,valZ kvs (.inr k)=none->ix T k=[]
 hs:∀k z,valZ kvs (.inr k)=some z->∃h,z=.ref h/\Rec G S T k h
 inj:∀k k' z,valZ kvs (.inr k)=some z->valZ kvs (.inr k')=some z->k=k'
 al:∀b,S b->∃o,G b=some o
 nd:(kvs.map (·.1)).Nodup
 sk:∀q∈kvs,∃s,q.1=Sum.inr s
def Sheet(a:Ad)(G:Hq)(p:Addr)(S:Addr->Prop)(T:List Tl):Prop:=∃dx d kvs,ShM a G p S T T.length dx d kvs
def KS(S:Addr->Prop)(G G':Hq):Prop:=∀b o,S b->G b=some o->G' b=some o
def KN(S:Addr->Prop)(G G':Hq):Prop:=∀b o,¬ S b->G b=some o->G' b=some o
def Sm.ks(s:Sm G G'):KS S G G':=λb o _ e=>s b o e
def Sm.kn(s:Sm G G'):KN S G G':=λb o _ e=>s b o e
def KN.trans(a:KN S G G1)(b:KN S G1 G2):KN S G G2:=λc o n e=>b c o n (a c o n e)
def ShM.keep{a:Ad}{G G':Hq}{p:Addr}{S:Addr->Prop}{T:List Tl}{n:Int}{dx d:Addr}{kvs:List (Key×Z)}(H:ShM a G p S T n dx d kvs)(q:KS S G G'):ShM a G' p S T n dx d kvs:=
 ⟨q _ _ H.sp H.ob,H.sp,H.sd,q _ _ H.sd H.dc,H.len,H.no,λk z e=>let ⟨h,c,g⟩:=H.hs k z e;⟨h,c,g.keepL λx i s e=>q x _ s e⟩,H.inj,(λb f=>let ⟨o,e⟩:=H.al b f;⟨o,q b o f e⟩),H.nd,H.sk⟩
def Sheet.keep{a:Ad}{G G':Hq}{p:Addr}{S:Addr->Prop}{T:List Tl}(H:Sheet a G p S T)(q:KS S G G'):Sheet a G' p S T:=let ⟨dx,d,kvs,h⟩:=H;⟨dx,d,kvs,h.keep q⟩
structure ShV (a:Ad) (G:Hq) (p:Addr) (S:Addr->Prop) (T:List Tl) (n:Int) (dx d:Addr) (kvs:List (Key×Z)):Prop where
 ob:G p=some (.ins a.c_Sheet dx (shF n d))
 sp:S p
 sd:S d
 dc:G d=some (.dK kvs)\/G d=some (.dF kvs)
 len:kvs.length<=T.length
 no:∀k,valZ kvs (.inr k)=none->ix T k=[]
 hs:∀k z,valZ kvs (.inr k)=some z->∃h,z=.ref h/\Rec G S T k h
 al:∀b,S b->∃o,G b=some o
 nd:(kvs.map (·.1)).Nodup
 sk:∀q∈kvs,∃s,q.1=Sum.inr s
noncomputable def ShM.v{a:Ad}{G:Hq}{p:Addr}{S:Addr->Prop}{T:List Tl}{n:Int}{dx d:Addr}{kvs:List (Key×Z)}(H:ShM a G p S T n dx d kvs):ShV a G p S T n dx d kvs:=⟨H.ob,H.sp,H.sd,.inl H.dc,H.len,H.no,H.hs,H.al,H.nd,H.sk⟩
def ShV.keep{a:Ad}{G G':Hq}{p:Addr}{S:Addr->Prop}{T:List Tl}{n:Int}{dx d:Addr}{kvs:List (Key×Z)}(H:ShV a G p S T n dx d kvs)(q:KS S G G'):ShV a G' p S T n dx d kvs:=
 ⟨q _ _ H.sp H.ob,H.sp,H.sd,H.dc.imp (q _ _ H.sd) (q _ _ H.sd),H.len,H.no,λk z e=>let ⟨h,c,g⟩:=H.hs k z e;⟨h,c,g.keepL λx i s e=>q x _ s e⟩,(λb f=>let ⟨o,e⟩:=H.al b f;⟨o,q b o f e⟩),H.nd,H.sk⟩
def SheetV(a:Ad)(G:Hq)(p:Addr)(S:Addr->Prop)(T:List Tl):Prop:=∃dx d kvs,ShV a G p S T T.length dx d kvs
noncomputable def Sheet.v{a:Ad}{G:Hq}{p:Addr}{S:Addr->Prop}{T:List Tl}(H:Sheet a G p S T):SheetV a G p S T:=let ⟨dx,d,kvs,h⟩:=H;⟨dx,d,kvs,h.v⟩
def SheetV.keep{a:Ad}{G G':Hq}{p:Addr}{S:Addr->Prop}{T:List Tl}(H:SheetV a G p S T)(q:KS S G G'):SheetV a G' p S T:=let ⟨dx,d,kvs,h⟩:=H;⟨dx,d,kvs,h.keep q⟩
def a3g(a:Ad):P3:=λws G R=>∃x,ws=[x]/\Th G x/\∀G',Sm G G'->if a2j x=true then R .non G' else False
set_option tactic.hygienic true in
def a3h(T:Txt K mg base a):Cal P w K mg base CX0 2 "check_name" (lowP K (a3g a)):=by
 refine fnc 1 (N:=["thing"]) T.br (T.f 13 _ rfl) ?_;walk_at "in";refine⟨_,(a0D (z_if (by ac_rfl)
  (a0D a4a)
  a4W)),?_⟩
 obtain⟨x,rfl,e,q⟩:=h;symm;refine⟨_,rfl,e,λg d=>?_⟩;have b:=q g d;symm;refine ifNB (λc=>?_) λc=>?_
 ·rw[c]at b
  first |exact aB b | (symm;exact b)
 ·rw[c]at b
  first |exact aB b | (symm;exact b)
def a1X(a:Ad):P3:=λws G R=>∃x y,ws=[x,y]/\Th G x/\Th G y/\∀G',Sm G G'->if strB x y=true then R .non G' else False
set_option tactic.hygienic true in
def a1Y(T:Txt K mg base a):Cal P w K mg base CX0 3 "check_stretch" (lowP K (a1X a)):=by
 refine fnc 2 (N:=["begin","end"]) T.br (T.f 23 _ rfl) ?_;walk_at "in";refine⟨_,(a0D (z_if (by ac_rfl)
  (a0D a4a)
  a4W)),?_⟩
 obtain⟨x,y,rfl,i,g,q⟩:=h;symm;refine⟨_,_,rfl,i,g,λe d=>?_⟩;have b:=q e d;symm;refine ifNB (λc=>?_) λc=>?_
 ·rw[c]at b
  first |exact aB b | (symm;exact b)
 ·rw[c]at b
  first |exact aB b | (symm;exact b)
structure Tel (G:Hq) (z:Z) (h:Z) (nm:List Z) (x y:Z):Prop where
 e:z=.tup (h::(nm++[x,y]))
 l:(∃k,nm=[k])\/∃k w,nm=[k,w]
 n:∀z∈nm,Th G z
 x:Th G x
 y:Th G y
def Tel.sm{x y:Z}(T:Tel G z h nm x y)(s:Sm G G'):Tel G' z h nm x y:=⟨T.e,T.l,λz a=>(T.n z a).sm s,T.x.sm s,T.y.sm s⟩
def a1Z(a:Ad):P3:=λws G R=>Ex5 λ(z h:Z) (nm:List Z) (x y:Z)=>ws=[z]/\Tel G z h nm x y/\∀G',Sm G G'->if nm.all a2j=true then (if strB x y=true then R .non G' else False) else False
def b9y:cutZ [h,k,x,y] (some 1) (some (-2))=[k]:=rfl
def b9z{h k w x y:Z}:cutZ [h,k,w,x,y] (some 1) (some (-2))=[k,w]:=rfl
def a5t{l:List Z}(h:x∈l)(c:f x=false):l.all f=false:=List.all_eq_false.mpr ⟨x,h,by rw[c];decide⟩
def a69{l:List Z}(h:(l.take i).all f=true)(e:l[i]?=some x)(c:f x=true):(l.take (i+1)).all f=true:=by
 rw[bV,List.all_append,h,e]
 show (true&&([x].all f))=true
 rw[aS,c];rfl
set_option tactic.hygienic true in
def a10(T:Txt K mg base a):Cal P w K mg base CX0 4 "check_telling" (lowP K (a1Z a)):=by
 refine fnc 1 (N:=["telling","name"]) T.br (T.f 24 _ rfl) ?_;walk_at "in";refine⟨_,(a0e (a2F (pt:=(.nm 1)) gi.never rfl (b6a (by ac_rfl)) (p_nm (nmI 1 nd))
  (by ac_rfl))
  (by ac_rfl)),?_⟩
 obtain⟨z,h,nm,x,y,rfl,⟨rfl,hl,hn,hx,hy⟩,q⟩:=h;rcases hl with ⟨k,rfl⟩ |⟨k,w,rfl⟩
 ·show uSeq _ _ _ _ _ _ (a08 _ [.tup [h,k,x,y]]) _
  symm;refine b3F (show ¬ (HT.sIx 4 0 (some 1)=0/\HT.sIx 4 4 (some (-2))=4) by decide) ?_;rw[b9y];symm;refine a0R (λi σ G'=>∃v:Option Z,Sm G G'/\(([k]:List Z).take i).all a2j=true/\σ=[some (.tup [h,k,x,y]),v]) ⟨_,Sm.refl _,rfl,rfl⟩ (λ_ _ _ _ _=>True.intro) ?_ ?_
  ·rintro i u σ G' hu ⟨v,s,ha,rfl⟩;have hm:=aL hu;refine⟨_,rfl,?_⟩;symm;refine⟨u,rfl,(hn u hm).sm s,λG1 s1=>?_⟩;have q':=q G1 (s.trans s1);refine ifB (λc=>?_) λc=>?_
   ·symm;exact⟨_,s.trans s1,a69 ha hu c,rfl⟩
   ·rw[a5t hm c]at q';exact q'
  ·rintro σ G' ⟨v,s,ha,rfl⟩;have ha:([k]:List Z).all a2j=true:=ha;symm;refine⟨x,y,rfl,hx.sm s,hy.sm s,λG1 s1=>?_⟩;have q':=q G1 (s.trans s1);rw[ha]at q';refine ifB (λc=>?_) λc=>?_
   ·rw[c]at q';symm;exact q'
   ·rw[c]at q';exact q'
 ·show uSeq _ _ _ _ _ _ (a08 _ [.tup [h,k,w,x,y]]) _
  symm;refine b3F (show ¬ (HT.sIx 5 0 (some 1)=0/\HT.sIx 5 5 (some (-2))=5) by decide) ?_;rw[b9z];symm;refine a0R (λi σ G'=>∃v:Option Z,Sm G G'/\(([k,w]:List Z).take i).all a2j=true/\σ=[some (.tup [h,k,w,x,y]),v]) ⟨_,Sm.refl _,rfl,rfl⟩ (λ_ _ _ _ _=>True.intro) ?_ ?_
  ·rintro i u σ G' hu ⟨v,s,ha,rfl⟩;have hm:=aL hu;refine⟨_,rfl,?_⟩;symm;refine⟨u,rfl,(hn u hm).sm s,λG1 s1=>?_⟩;have q':=q G1 (s.trans s1);refine ifB (λc=>?_) λc=>?_
   ·symm;exact⟨_,s.trans s1,a69 ha hu c,rfl⟩
   ·rw[a5t hm c]at q';exact q'
  ·rintro σ G' ⟨v,s,ha,rfl⟩;have ha:([k,w]:List Z).all a2j=true:=ha;symm;refine⟨x,y,rfl,hx.sm s,hy.sm s,λG1 s1=>?_⟩;have q':=q G1 (s.trans s1);rw[ha]at q';refine ifB (λc=>?_) λc=>?_
   ·rw[c]at q';symm;exact q'
   ·rw[c]at q';exact q'
def a1I(a:Ad):P3:=λws G R=>∃q n:Int,ws=[.int q,.int n]/\if 0<=q/\q<=n then R .non G else False
set_option tactic.hygienic true in
def a0Z(T:Txt K mg base a):Cal P w K mg base CX0 1 "check_in_reach" (lowP K (a1I a)):=by
 refine fnc 2 (N:=["knowing","last"]) T.br (T.f 12 _ rfl) ?_;walk_at "in";refine⟨_,(a0D (z_if (by ac_rfl)
  (a0D a4a)
  a4W)),?_⟩
 obtain⟨q,n,rfl,k⟩:=h;symm;refine ifD (λc=>?_) λc=>?_
 ·rw[if_neg (by omega)]at k;exact k.elim
 ·symm;refine ifD (λb=>?_) λb=>?_
  ·rw[if_neg (by omega)]at k;exact k.elim
  ·rw[if_pos (by omega)]at k;symm;exact k
def a2J:P3:=λws G R=>∃(l:Addr)(L:List Rw)(τ:Tl),ws=[.ref l,τ.z]/\G l=some (.lst (L.map Rw.z))/\Rise L/\Plain L/\L.length<=400/\τ.Ok /\
 ∀t G',G t=none->Sm G G'->G' t=some (.lst ((a5i L τ.b τ.e (optW τ.v)).map Rw.z))->R (.ref t) G'
def b9A:¬ (b2F=sPut):=by decide +kernel
set_option tactic.hygienic true in
def a1k(T:Txt K mg base a):Cal P w K mg base CX0 4 "line_behind" (lowP K a2J):=by
 refine fnc 2 (N:=["line","telling","worth"]) T.br (T.f 25 _ rfl) ?_;walk_at "in";refine⟨_,(by ac_rfl),?_⟩;obtain⟨l,L,⟨key,w,b,e⟩,rfl,hl,hr,hp,hz,ok,q⟩:=h;have hb:=ok.st.bef;have hv:=ok.v;cases w with
 |none=>
  unfold Tl.z;symm;refine ifD (λc=>absurd c b9A) λ_=>?_;symm;exact⟨l,L,b,e,.non,rfl,hl,hr,hp.okR,hp.one,by omega,hb,rfl,q⟩
 |some w=>
  unfold Tl.z;symm;refine ifD (λ_=>?_) λc=>absurd rfl c;symm;exact⟨l,L,b,e,.str w,rfl,hl,hr,hp.okR,hp.one,by omega,hb,a0q (by decide) hv,q⟩
def a2n(a:Ad):P3:=λws G R=>∃p dx,ws=[.ref p]/\G p=some (.ins a.c_Sheet dx [])/\∀d G',G d=none->(∀b o,G b=some o->b≠p->G' b=some o)->Sheet a G' p (λx=>x=p\/x=d) []->R .non G'
set_option tactic.hygienic true in
def a2o(T:Txt K mg base a):Mal P w K mg base CX0 1 a.c_Sheet "__init__" (lowP K (a2n a)):=by
 refine fnm 1 (N:=["self"]) (T.m_Sheet 4 _ rfl) ?_;walk_at "in";refine⟨_,(a0e (b6W T.cl_Sheet (T.n_Sheet 0 _ rfl) (qv 0) a8H)
  (a0D (b6W T.cl_Sheet (T.n_Sheet 1 _ rfl) (qv 0) a8Z))),?_⟩
 obtain⟨p,i,rfl,l,q⟩:=h;symm;refine⟨p,i,[],rfl,l,by decide,?_⟩;symm;intro d g;have c:p≠d:=a0h a0a g;symm;refine⟨p,i,[(a6b,.int 0)],rfl,by rw[a0f c];exact a0a,by decide,?_⟩;rw[b4Q];symm;have f:G d=none:=by rw[a0f (Ne.symm c)]at g;exact g
 refine q d _ f (λb o e j=>?_) ⟨i,d,[],⟨a0a,.inl rfl,.inr rfl,?_,by simp,λk _=>rfl,(λk z e=>by cases e),(λk n z e=>by cases e),?_,.nil,λq m=>by simp at m⟩⟩
 ·rw[a0f j,a0f (a0h e f),a0f j];exact e
 ·rw[a0f (Ne.symm c)];exact a0a
 ·rintro b (rfl |rfl)
  ·exact⟨_,a0a⟩
  ·exact⟨_,by rw[a0f (Ne.symm c)];exact a0a⟩
def a1n(a:Ad):P3:=λws G R=>Ex4 λ(p:Addr) (S:Addr->Prop) (T:List Tl) (q:Int)=>ws=[.ref p,.int q]/\SheetV a G p S T/\if 0<=q/\q<=T.length then R .non G else False
set_option tactic.hygienic true in
def a0I(T:Txt K mg base a):Mal P w K mg base CX0 2 a.c_Sheet "check_knowing" (lowP K (a1n a)):=by
 refine fnm 2 (N:=["self","knowing"]) (T.m_Sheet 0 _ rfl) ?_;walk_at "in";refine⟨_,(a0D (a22 (q_c (a0Z T) hr (q_k (qv 1) (q_k (a50 T.cl_Sheet (T.n_Sheet 0 _ rfl) (qv 0)) a0Q)) ))),?_⟩;obtain⟨p,S,T',q,rfl,⟨e,d,f,b⟩,k⟩:=h;symm;refine⟨p,e,_,_,rfl,b.ob,a2m,?_⟩;symm;refine⟨q,_,rfl,?_⟩
 by_cases c:0<=q/\q<=T'.length
 ·rw[if_pos c]at k ⊢;symm;exact k
 ·rw[if_neg c]at k ⊢;exact k
def a1J(a:Ad):P3:=λws G R=>Ex9 λ(p:Addr) (S:Addr->Prop) (T:List Tl) (k:Str) (q:Int) (n:Int) (dx d:Addr) (kvs:List (Key×Z))=>ws=[.ref p,.str k,.int q]/\ShV a G p S T n dx d kvs/\0<=q/\q<=T.length/\T.length<=200 /\
 ∀t L G',G t=none->Sm G G'->G' t=some (.lst (L.map Rw.z))->IsLine (T.take q.toNat) k L->R (.ref t) G'
def b4S(l:List Rw):l.filterMap (λr=>some r)=l:=by simp
def a0A(T:Txt K mg base a):Mal P w K mg base CX0 1 a.c_Sheet "known_line" (lowP K (a1J a)):=by
 refine fnm 3 (N:=["self","key","knowing","since","line"]) (T.m_Sheet 1 _ rfl) ?_ (len:=λws G R h=>(by obtain⟨_,_,_,_,_,_,_,_,_,rfl,_⟩:=h;rfl));walk_at "in";refine⟨_,(a0e (a2F (pt:=(.tp [3,4])) gi.never rfl (a5Y rfl (T.b 11) (q_k (q_bm PySem.F.plainAttrs_dict PySem.F.slot_dict_get PySem.F.type_dict_get (b2t hu) (a50 T.cl_Sheet (T.n_Sheet 1 _ rfl) (qv 0)) (by ac_rfl)) a0Q)) (by ac_rfl)
  (a0D (z_if (by ac_rfl)
  (a0D (a2a (q_l ["begin","end","worth"] [none,none,none] (.tp [0,1,2]))))
  a4W)))
  (by ac_rfl)),?_⟩
 obtain⟨p,S,T,k,q,n,dx,d,kvs,rfl,sh,h0,h1,hT,fin⟩:=h;obtain⟨q,rfl⟩:=cY h0;symm;refine⟨p,dx,_,_,rfl,sh.ob,a6c,?_⟩;refine b9f sh.dc ?_;symm;refine⟨lenK rfl,λt0 ht0=>?_⟩;symm;refine b31 (sh.dc.imp (λe=>a0b e ht0) λe=>a0b e ht0) rfl ?_;have s0:Sm G (put G t0 (.lst [])):=Sm.new ht0;have none_:(∀i∈ix T k,(q:Int)<i)->∀(v1 v2:Option Z)(G1:Hq),Sm G G1->∀t,G1 t=none->R (.ref t) (put G1 t (.lst [])):=λhi _ _ G1 s1 t ht=>
  fin t [] _ (s1.free ht) (s1.trans (Sm.new ht)) a0a (by
   have e:((q:Int)).toNat=q:=by omega
   rw[e];exact IsLine.nil (a5s hi))
 cases hv:valZ kvs (.inr k) with
 |none=>
  symm;refine⟨t0,[],rfl,a0a,?_⟩;refine a0R (λi σ G'=>∃v1 v2:Option Z,σ=[some (.ref p),some (.str k),some (.int q),v1,v2]/\G'=put G t0 (.lst [])) ⟨_,_,rfl,rfl⟩ (λi σ G' _ ⟨_,_,_,e⟩=>by rw[e];exact a0a) ?_ ?_
  ·rintro i x σ G' hx _;simp at hx
  ·rintro σ G' ⟨v1,v2,rfl,rfl⟩;symm;refine⟨lenK rfl,λt ht=>?_⟩;exact none_ (λi hi=>by rw[sh.no k hv]at hi;simp at hi) v1 v2 _ s0 t ht
 |some z=>
  obtain⟨h,rfl,es,H⟩:=sh.hs k z hv;symm;refine⟨h,_,rfl,a0b H.at_ ht0,?_⟩;rw[<- List.map_reverse];refine a0R (λi σ G'=>∃v1 v2:Option Z,(∀(j:Nat) e,j<i->es.reverse[j]?=some e->(q:Int)<e.1)/\σ=[some (.ref p),some (.str k),some (.int q),v1,v2]/\G'=put G t0 (.lst [])) ⟨_,_,λj e hj=>by omega,rfl,rfl⟩ (λi σ G' _ ⟨_,_,_,_,e⟩=>by rw[e];exact a0b H.at_ ht0) ?_ ?_
  ·rintro i x σ G' hx ⟨v1,v2,hall,rfl,rfl⟩;rw[aA]at hx;cases hx':es.reverse[i]? with
   |none=>rw[hx']at hx;cases hx
   |some e=>
   rw[hx']at hx;cases hx;obtain⟨s,l⟩:=e;have hmem:(s,l)∈es:=by have:=aL hx';simpa using this
   have hix:s∈ix T k:=by rw[<- H.ix];exact bg (f:=(·.1)) hmem
   obtain⟨hs1,hs2⟩:=b7v hix;obtain⟨_,L,gl,il⟩:=H.ln _ hmem;refine⟨_,rfl,?_⟩;symm;refine ifD (λc=>?_) λc=>?_
   ·symm;refine a09 (a0b gl ht0) ?_;intro D hD;have hone:=il.pl.one;have hll:L.length<=1000:=by have:=il.len;rw[aK]at this;omega
    refine a1H (g':=Rw.z) (λr=>some r) (λys=>a0b (a0b gl ht0) hD) hll ?_ ?_
    ·intro r hr ys K1 K2 k1 k2;obtain⟨x,hx⟩:=hone r hr;obtain⟨b,e,w⟩:=r;cases hx;refine⟨_,rfl,?_⟩;symm;refine⟨lenK rfl,?_⟩;exact k1 ⟨b,e,[x]⟩ rfl
    ·rw[b4S];refine fin D L _ (s0.free hD) (s0.trans (Sm.new hD)) a0a ?_;have e1:((q:Int)).toNat=q:=by omega
     rw[e1];have il':IsLine (T.take s.toNat) k L:=il;refine il'.cut (by omega) λj hj=>?_;rw[<- H.ix]at hj;obtain⟨e2,he2,rfl⟩:=aM.mp hj
     by_cases c2:e2.1<=s
     ·left;omega
     ·right
      have he3:e2∈es.reverse:=by simpa using he2
      obtain⟨m,hm⟩:=bB he3
      by_cases hmi:m<i
      ·exact hall m e2 hmi hm
      ·exfalso;have hst:(ix T k).Pairwise (·<·):=a98 T k
       rw[<- H.ix]at hst;have hst2:es.reverse.Pairwise (λx y=>y.1<x.1):=by
        rw[List.pairwise_reverse];exact bT.mp hst
       by_cases hmi2:m=i
       ·subst hmi2;rw[hx']at hm;cases hm;omega
       ·obtain⟨l1,e5⟩:=az.mp hx';obtain⟨l2,e6⟩:=az.mp hm
        have:=bZ.mp hst2 i m l1 l2 (by omega)
        rw[e5,e6]at this;simp only at this;omega
   ·symm;refine⟨_,_,λj e hj he=>?_,rfl,rfl⟩
    by_cases hji:j<i
    ·exact hall j e hji he
    ·have:j=i:=by omega
     subst this;rw[hx']at he;cases he;simp only;omega
  ·rintro σ G' ⟨v1,v2,hall,rfl,rfl⟩;symm;refine⟨lenK rfl,λt ht=>?_⟩;refine none_ (λj hj=>?_) v1 v2 _ s0 t ht;rw[<- H.ix]at hj;obtain⟨e2,he2,rfl⟩:=aM.mp hj;have he3:e2∈es.reverse:=by simpa using he2
   obtain⟨m,hm⟩:=bB he3;exact hall m e2 (by rw[aq];exact (az.mp hm).1) hm
def a0N:valZ (putZ kvs k v) j=if j=k then some v else valZ kvs j:=by
 unfold putZ
 split
 ·next hc=>
  have m:∀kvs:List (Key×Z),valZ (kvs.map λkv=>if kv.1=k then (kv.1,v) else kv) j=(valZ kvs j).map λx=>if j=k then v else x:=by
   intro kvs
   induction kvs with
   |nil=>rfl
   |cons p r ih=>
    unfold valZ at ih ⊢;rw[aF,bJ,bJ];have h:(if p.1=k then (p.1,v) else p).1=p.1:=by split<;>rfl
    rw[h];cases c:decide (p.1=j) with
    |false=>exact ih
    |true=>
     have d:=of_decide_eq_true c;simp
     by_cases ck:p.1=k
     ·simp_all
     ·simp_all
  rw[m]
  by_cases c:j=k
  ·subst c;obtain⟨p,f,g⟩:=b9.mp hc
   have:(kvs.find? λkv=>decide (kv.1=j)).isSome=true:=fM.mpr ⟨p,f,g⟩
   unfold valZ;cases e:kvs.find? λkv=>decide (kv.1=j) with
   |none=>rw[e]at this;cases this
   |some q=>simp
  ·simp_all
 ·next hc=>
  unfold valZ;rw[fD]
  by_cases c:j=k
  ·subst c
   have:kvs.find? (λkv=>decide (kv.1=j))=none:=by
    rw[cX];intro p i l;exact hc (b9.mpr ⟨p,i,l⟩)
   rw[this];simp
  ·rw[if_neg c]
   have:[(k,v)].find? (λkv=>decide (kv.1=j))=none:=by simp;exact λz=>c z.symm
   rw[this,Option.or_none]
def b11{kvs:List (Key×Z)}{k:Key}{v:Z}:(putZ kvs k v).length<=kvs.length+1:=by
 unfold putZ
 split<;>simp
def Hist.ne_row{L:List Rw}(H:Hist G S T k h es)(e:G x=some (.lst (L.map Rw.z))):x≠h:=λz=>by
 subst z
 have:=e.symm.trans H.at_
 have b:L.map Rw.z=es.map enZ:=by simp_all
 cases es with
 |nil=>exact H.ne rfl
 |cons a es=>
  cases L with
  |nil=>simp at b
  |cons r L=>
   have c:=(bN.inj b).1;simp only[Rw.z,Z.tup.injEq,bN.injEq]at c;obtain⟨i,d,g⟩:=r;have f:=c.2.1;cases d<;>cases f
def a5u(h:valZ kvs k=none):∀q∈kvs,q.1≠k:=λq b e=>by
 unfold valZ at h
 have:(kvs.find? λa=>decide (a.1=k)).isSome=true:=fM.mpr ⟨q,b,decide_eq_true e⟩
 cases e2:kvs.find? λa=>decide (a.1=k) with
 |none=>rw[e2]at this;cases this
 |some x=>rw[e2]at h;cases h
def a4E(h:valZ kvs k=none):putZ kvs k v=kvs++[(k,v)]:=by
 unfold putZ;rw[if_neg λz=>?_];obtain⟨q,a,b⟩:=b9.mp z;exact a5u h q a (of_decide_eq_true b)
def b7A(h:valZ kvs k=none)(nd:(kvs.map (·.1)).Nodup):((putZ kvs k v).map (·.1)).Nodup:=by
 rw[a4E h,aG,b5];refine⟨nd,by simp,λx a y c=>?_⟩;obtain⟨q,b,rfl⟩:=aM.mp a
 have:y=k:=by simpa using c
 rw[this];exact a5u h q b
def b7B(sk:∀q∈kvs,∃s,q.1=Sum.inr s):∀q∈putZ kvs (.inr k) v,∃s,q.1=Sum.inr s:=λq a=>by
 unfold putZ at a
 split at a
 ·obtain⟨d,c,e⟩:=aM.mp a;obtain⟨s,b⟩:=sk d c;refine⟨s,?_⟩;rw[<- e]
  split
  ·omega
  ·omega
 ·rcases au.mp a with a |a
  ·exact sk q a
  ·exact⟨k,by rw[ay.mp a]⟩
def a11(a:Ad):P3:=λws G R=>Ex9 λ(p:Addr) (S:Addr->Prop) (T:List Tl) (τ:Tl) (l:Addr) (L:List Rw) (dx d:Addr) (kvs:List (Key×Z))=>ws=[.ref p,.str τ.key,.ref l]/\ShM a G p S T ((T.length:Int)+1) dx d kvs/\G l=some (.lst (L.map Rw.z))/\¬ S l/\IsLine (T++[τ]) τ.key L/\T.length<=200 /\
 ∀(S':Addr->Prop) G',(∀b,S b->S' b)->(∀b,S' b->S b\/b=l\/G b=none)->KN S G G'->Sheet a G' p S' (T++[τ])->R .non G'
def a4F(h:s∈ix T k):(T++[τ]).take s.toNat=T.take s.toNat:=by
 have:=b7v h
 rw[dz (by lia)]
def a7a:(T++[τ]).take ((T.length:Int)+1).toNat=T++[τ]:=by
 rw[bY];rw[aJ,dM]
 lia
set_option tactic.hygienic true in
def a12(T:Txt K mg base a):Mal P w K mg base CX0 1 a.c_Sheet "keep_line" (lowP K (a11 a)):=by
 refine fnm 3 (N:=["self","key","line"]) (T.m_Sheet 5 _ rfl) ?_;walk_at "in";refine⟨_,(a0D (a22 (q_bm PySem.F.plainAttrs_list PySem.F.slot_list_append PySem.F.type_list_append a6y (q_bm PySem.F.plainAttrs_dict PySem.F.slot_dict_setdefault PySem.F.type_dict_setdefault a2x (a50 T.cl_Sheet (T.n_Sheet 1 _ rfl) (qv 0)) (by ac_rfl)) (q_k (b3l (q_k (a50 T.cl_Sheet (T.n_Sheet 0 _ rfl) (qv 0)) (q_k (qv 2) a0Q))) a0Q)))),?_⟩;obtain⟨p,S,T,τ,l,L,V,d,B,rfl,g,E,nl,il,hT,q⟩:=h;symm;refine⟨p,V,_,_,rfl,g.ob,a6c,?_⟩;refine a49 g.dc ?_;symm;refine⟨lenK rfl,λn m=>?_⟩;symm;have Y:p≠d:=λz=>by have e:=g.ob;rw[z,g.dc]at e;cases e
 have U:((T++[τ]).length:Int)=(T.length:Int)+1:=by simp
 refine b2u (a0b g.dc m) rfl (a0g (by have:=g.len;omega)) (λz D=>?_) λD=>?_
 ·obtain⟨h,rfl,es,H⟩:=g.hs _ z D;have hpe:p≠h:=λz=>by have e:=g.ob;rw[z,H.at_]at e;cases e
  have hde:d≠h:=λz=>by have e:=g.dc;rw[z,H.at_]at e;cases e
  have hle:l≠h:=λz=>nl (z▸H.s);refine a0V (a0b H.at_ m) ?_;symm;refine⟨p,V,_,_,rfl,a0b g.ob m,a2m,?_⟩;symm;refine⟨lenK rfl,?_⟩;symm;have hel:es.length<=T.length:=by
   have e1:=congrArg aX H.ix;rw[aq]at e1;rw[e1];exact b7w T τ.key
  refine a0x (a0b H.at_ m) (by rw[aq];exact a0g (by omega)) ?_;have i:∀b o,b≠h->G b=some o->put (put G n (.lst [])) h (.lst (es.map enZ++[.tup [.int ((T.length:Int)+1),.ref l]])) b=some o:=λb o C e=>by rw[a0f C];exact a0b e m
  refine q (λb=>S b\/b=l) _ (λb j=>.inl j) (λb j=>j.elim .inl λz=>.inr (.inl z)) (λb o C e=>i b o (λz=>C (z▸H.s)) e) ⟨V,d,B,?_⟩;refine⟨by rw[U];exact i _ _ hpe g.ob,.inl g.sp,.inl g.sd,i _ _ hde g.dc,by have:=g.len;simp;omega,λk x=>?_,λk z e=>?_,g.inj,(λb j=>?_),g.nd,g.sk⟩
  ·rw[a2k,g.no k x,if_neg]
   ·rfl
   ·rintro rfl;rw[D]at x;cases x
  ·by_cases M:k=τ.key
   ·subst M;rw[D]at e;cases e;refine⟨h,rfl,es++[((T.length:Int)+1,l)],.inl H.s,by rw[a0a,aG];rfl,by rw[aG,H.ix,a2k,if_pos rfl];rfl,by simp,λe t=>?_⟩;rcases au.mp t with t |t
    ·obtain⟨X,L1,v,J⟩:=H.ln e t;refine⟨.inl X,L1,i _ _ (H.ne_row v) v,?_⟩;rw[a4F (k:=τ.key) (by rw[<- H.ix];exact bg (f:=(·.1)) t)];exact J
    ·rw[ay.mp t];refine⟨.inr rfl,L,i _ _ hle E,?_⟩;rw[a7a];exact il
   ·obtain⟨u,A,y,H'⟩:=g.hs k z e;have hh:u≠h:=λw=>M (g.inj k τ.key z e (by rw[D,A,w]));refine⟨u,A,y,.inl H'.s,i _ _ hh H'.at_,by rw[H'.ix,a2k,if_neg (Ne.symm M),a9],H'.ne,λe t=>?_⟩;obtain⟨X,L1,v,J⟩:=H'.ln e t;refine⟨.inl X,L1,i _ _ (H.ne_row v) v,?_⟩;rw[a4F (k:=k) (by rw[<- H'.ix];exact bg (f:=(·.1)) t)];exact J
  ·by_cases c:b=h
   ·rw[c];exact⟨_,a0a⟩
   ·rcases j with j |j
    ·obtain⟨o,e⟩:=g.al b j;exact⟨o,i b o c e⟩
    ·rw[j]at c ⊢;exact⟨_,i l _ c E⟩
 ·have Q:d≠n:=a0h g.dc m;have hpt:p≠n:=a0h g.ob m;have hlt:l≠n:=a0h E m;have aa:put (put G n (.lst [])) d (.dK (putZ B (.inr τ.key) (.ref n))) n=some (.lst []):=by rw[a0f (Ne.symm Q)];exact a0a
  refine a0V aa ?_;symm;refine⟨p,V,_,_,rfl,by rw[a0f Y];exact a0b g.ob m,a2m,?_⟩;symm;refine⟨lenK rfl,?_⟩;symm;refine a0x aa (a0g (by decide)) ?_;have i:∀b o,b≠d->G b=some o->put (put (put G n (.lst [])) d (.dK (putZ B (.inr τ.key) (.ref n)))) n (.lst ([]++[.tup [.int ((T.length:Int)+1),.ref l]])) b=some o:=λb o C e=>by
   rw[a0f (a0h e m),a0f C];exact a0b e m
  have nS:∀u,S u->∀o,G u=some o->u≠n:=λu _ o e=>a0h e m;refine q (λb=>S b\/b=l\/b=n) _ (λb j=>.inl j) (λb j=>j.elim .inl λz=>z.elim (λz=>.inr (.inl z)) λz=>.inr (.inr (by rw[z];exact m))) (λb o C e=>i b o (λz=>C (z▸g.sd)) e) ⟨V,d,putZ B (.inr τ.key) (.ref n),?_⟩;refine⟨by rw[U];exact i _ _ Y g.ob,.inl g.sp,.inl g.sd,by rw[a0f Q];exact a0a,by have h1:=g.len;have h2:=@b11 B (.inr τ.key) (.ref n);simp;omega,λk x=>?_,λk z e=>?_,λk k' z e I=>?_,(λb j=>?_),b7A D g.nd,b7B g.sk⟩
  ·rw[a0N]at x
   split at x
   ·cases x
   ·next c=>
    rw[a2k,g.no k x,if_neg λz=>c (by rw[z])]
    rfl
  ·rw[a0N]at e
   split at e
   ·next c=>
    cases e;have M:k=τ.key:=by simpa using c
    subst M;refine⟨n,rfl,[((T.length:Int)+1,l)],.inr (.inr rfl),by rw[a0a];rfl,by rw[a2k,g.no _ D,if_pos rfl];rfl,by simp,λe t=>?_⟩;rw[ay.mp t];refine⟨.inr (.inl rfl),L,i _ _ (λz=>by have z':l=d:=z;rw[z',g.dc]at E;cases E) E,?_⟩;rw[a7a];exact il
   ·next c=>
    obtain⟨u,A,y,H'⟩:=g.hs k z e;have hd':u≠d:=λw=>by have e:=H'.at_;rw[w,g.dc]at e;cases e
    refine⟨u,A,y,.inl H'.s,i _ _ hd' H'.at_,by rw[H'.ix,a2k,if_neg λz=>c (by rw[z]),a9],H'.ne,λe t=>?_⟩;obtain⟨X,L1,v,J⟩:=H'.ln e t;refine⟨.inl X,L1,i _ _ (λw=>by rw[w,g.dc]at v;cases v) v,?_⟩;rw[a4F (k:=k) (by rw[<- H'.ix];exact bg (f:=(·.1)) t)];exact J
  ·rw[a0N]at e I
   split at e
   ·next c=>
    split at I
    ·next c'=>simpa using c.trans c'.symm
    ·cases e;obtain⟨u,A,y,H'⟩:=g.hs k' _ I;cases A;exact absurd rfl (nS _ H'.s _ H'.at_)
   ·split at I
    ·cases I;obtain⟨u,A,y,H'⟩:=g.hs k _ e;cases A;exact absurd rfl (nS _ H'.s _ H'.at_)
    ·exact g.inj k k' z e I
  ·by_cases c:b=n
   ·rw[c];exact⟨_,a0a⟩
   ·by_cases c2:b=d
    ·rw[c2];exact⟨_,by rw[a0f Q];exact a0a⟩
    ·rcases j with j |j |j
     ·obtain⟨o,e⟩:=g.al b j;exact⟨o,i b o c2 e⟩
     ·rw[j]at c2 ⊢;exact⟨_,i l _ c2 E⟩
     ·exact absurd j c
def a4G(a:Ad):P3:=λws G R=>∃(p:Addr)(S:Addr->Prop)(T:List Tl),Sheet a G p S T/\((∃τ:Tl,ws=[.ref p,τ.z]/\τ.Ok/\T.length<=150 /\
 ∀(S':Addr->Prop) G',(∀b,S b->S' b)->(∀b,S' b->S b\/G b=none)->KN S G G'->Sheet a G' p S' (T++[τ])->R (.int ((T.length:Int)+1)) G')\/False)
def b7C{τ:Tl}:∃ws,τ.z=.tup ws/\atI ws 1=some (.str τ.key):=by
 obtain⟨k,w,b,e⟩:=τ;cases w<;>exact⟨_,rfl,at1⟩
def b7D:Th G (oz e):=by cases e<;>exact True.intro
def Tl.Ok.tel{τ:Tl}(ok:τ.Ok):∃(h:Z)(nm:List Z),Tel G τ.z h nm (.int τ.b) (oz τ.e)/\nm.all a2j=true/\strB (.int τ.b) (oz τ.e)=true:=by
 obtain⟨k,w,b,e⟩:=τ;have d:=ok.k;have a:=ok.w;have f:=st_b ok.st;cases w with
 |none=>exact⟨_,[.str k],⟨rfl,.inl ⟨_,rfl⟩,λz c=>by rw[ay.mp c];exact b1Z d,True.intro,b7D⟩,by rw[aS,nm_b d];rfl,f⟩
 |some w=>
  have a:=a w rfl;refine⟨_,[.str k,.str w],⟨rfl,.inr ⟨_,_,rfl⟩,λz c=>?_,True.intro,b7D⟩,by rw[aS,nm_b d,aS,nm_b a];rfl,f⟩;simp at c;rcases c with rfl |rfl
  ·exact b1Z d
  ·exact b1Z a
set_option tactic.hygienic true in
def a4H(T:Txt K mg base a):Mal P w K mg base CX0 5 a.c_Sheet "tell" (lowP K (a4G a)):=by
 refine fnm 2 (N:=["self","telling","key","line"]) (T.m_Sheet 6 _ rfl) ?_;walk_at "in";refine⟨_,(a0e (by ac_rfl)
  (a0e (by ac_rfl)
  (a0e (z_st (nmI 3 nd) (q_c (a1k T) hr (q_k (q_m (qv 0) T.cl_Sheet (a0A T) hr (q_k (qv 2) (q_k (a50 T.cl_Sheet (T.n_Sheet 0 _ rfl) (qv 0)) a0Q)) ) (q_k (qv 1) a0Q)) ))
  (a0e (b1g T.cl_Sheet (T.n_Sheet 0 _ rfl) (qv 0) a8H b2k)
  (a0e (a22 (q_m (qv 0) T.cl_Sheet (a12 T) hr (q_k (qv 2) (q_k (qv 3) a0Q)) ))
  (a0D (a2a (a50 T.cl_Sheet (T.n_Sheet 0 _ rfl) (qv 0))))))))),?_⟩
 obtain⟨p,S,T,⟨dx,d,kvs,sh⟩,⟨τ,rfl,ok,hT,q⟩ |⟨⟨⟩⟩⟩:=h
 symm;obtain⟨th,tn,tel,ta,ts⟩:=ok.tel (G:=G);refine⟨_,_,_,_,_,rfl,tel,λG1 s1=>?_⟩;rw[ta,ts];refine ifT (ifT ?_);have sh1:=sh.keep (Sm.ks s1);obtain⟨ws,ez,ek⟩:=@b7C τ;symm;rw[ez];refine a1B ek ?_;rw[<- ez];symm;refine⟨p,dx,_,rfl,sh1.ob,a4D (by decide +kernel) (by decide +kernel),?_⟩;symm;refine⟨p,dx,_,_,rfl,sh1.ob,a2m,?_⟩;symm;refine⟨p,S,T,τ.key,_,_,dx,d,kvs,rfl,sh1.v,by omega,by omega,by omega,λt L G2 ht s2 gt il=>?_⟩;rw[show ((T.length:Int)).toNat=T.length by omega,bp]at il;have sh2:=sh1.keep (Sm.ks s2);symm;have hll:=il.len;refine⟨t,L,τ,rfl,gt,il.can.rise,il.pl,by omega,ok,λu G3 hu s3 gu=>?_⟩;have sh3:=sh2.keep (Sm.ks s3);have S13:=(s1.trans s2).trans s3;have hu0:G u=none:=(s1.trans s2).free hu;have nu:¬ S u:=λz=>by obtain⟨o,e⟩:=sh.al u z;rw[hu0]at e;cases e
 symm;refine⟨p,dx,_,_,rfl,sh3.ob,a2m,?_⟩;symm;refine⟨dx,_,sh3.ob,by show 2<1000;decide,?_⟩;rw[b4R];have hup:u≠p:=λz=>nu (z▸sh.sp);have sh4:ShM a (put G3 p (.ins a.c_Sheet dx (shF ((T.length:Int)+1) d))) p S T ((T.length:Int)+1) dx d kvs:=by
  have kp:∀x o,x≠p->G3 x=some o->put G3 p (.ins a.c_Sheet dx (shF ((T.length:Int)+1) d)) x=some o:=λx o nb e=>by rw[a0f nb];exact e
  refine⟨a0a,sh3.sp,sh3.sd,kp _ _ (λz=>by have e:=sh3.dc;rw[z,sh3.ob]at e;cases e) sh3.dc,sh3.len,sh3.no,λk z e=>?_,sh3.inj,(λb hb=>?_),sh3.nd,sh3.sk⟩
  ·obtain⟨h,ez,H⟩:=sh3.hs k z e;exact⟨h,ez,H.keepL λx ws _ g1=>kp _ _ (λz=>by rw[z,sh3.ob]at g1;cases g1) g1⟩
  ·by_cases c:b=p
   ·rw[c];exact⟨_,a0a⟩
   ·obtain⟨o,e⟩:=sh3.al b hb;exact⟨o,kp b o c e⟩
 have gu4:put G3 p (.ins a.c_Sheet dx (shF ((T.length:Int)+1) d)) u=some (.lst ((a5i L τ.b τ.e (optW τ.v)).map Rw.z)):=by rw[a0f hup];exact gu
 have kn4:KN S G (put G3 p (.ins a.c_Sheet dx (shF ((T.length:Int)+1) d))):=λb o nb e=>by rw[a0f (show b≠p from λz=>nb (by rw[z];exact sh.sp))];exact S13 _ _ e
 have nn4:∀x,put G3 p (.ins a.c_Sheet dx (shF ((T.length:Int)+1) d)) x=none->G x=none:=λx e=>by
  by_cases c:x=p
  ·rw[c,a0a]at e;cases e
  ·rw[a0f c]at e;exact S13.free e
 generalize put G3 p (.ins a.c_Sheet dx (shF ((T.length:Int)+1) d))=G4 at sh4 gu4 kn4 nn4 ⊢;symm;refine⟨p,dx,_,rfl,sh4.ob,a4D (by decide +kernel) (by decide +kernel),?_⟩;symm;refine⟨p,S,T,τ,u,_,dx,d,kvs,rfl,sh4,gu4,nu,il.snoc ok,by omega,λS' G5 i1 i2 kn5 sh5=>?_⟩;have sh5':=sh5;obtain⟨dx5,d5,kvs5,m5⟩:=sh5';symm;refine⟨p,dx5,_,_,rfl,m5.ob,a2m,?_⟩;have e:(((T++[τ]).length:Nat):Int)=(T.length:Int)+1:=by simp
 rw[e];refine q S' G5 i1 (λb hb=>?_) (kn4.trans kn5) sh5;rcases i2 b hb with h |h |h
 ·exact .inl h
 ·rw[h];exact .inr hu0
 ·exact .inr (nn4 b h)
local macro_rules | `(tactic| walk_at "go1")=>`(tactic| with_reducible (first | refine i_intB ?_ | refine i_iD ?_))
def ShV.frz{a:Ad}{G:Hq}{p:Addr}{S:Addr->Prop}{T:List Tl}{n:Int}{dx d:Addr}{kvs:List (Key×Z)}(H:ShV a G p S T n dx d kvs):ShV a (put G d (.dF kvs)) p S T n dx d kvs:=by
 have k:∀b o,b≠d->G b=some o->put G d (.dF kvs) b=some o:=λb o l e=>by rw[a0f l];exact e
 have q:∀b f,G b=some (.lst f)->b≠d:=λb f e z=>by
  rw[z]at e;rcases H.dc with c |c<;>(rw[c]at e;cases e)
 refine⟨k _ _ (λz=>?_) H.ob,H.sp,H.sd,.inr a0a,H.len,H.no,λi z e=>?_,λb m=>?_,H.nd,H.sk⟩
 ·have e:=H.ob;rw[z]at e;rcases H.dc with c |c<;>(rw[c]at e;cases e)
 ·obtain⟨h,j,r⟩:=H.hs i z e;exact⟨h,j,r.keepL λx f _ g=>k _ _ (q _ _ g) g⟩
 ·by_cases c:b=d
  ·rw[c];exact⟨_,a0a⟩
  ·obtain⟨o,e⟩:=H.al b m;exact⟨o,k b o c e⟩
def inR(T:List Tl)(q:Int):Prop:=0<=q/\q<=T.length
def a2K(a:Ad):P3:=λws G R=>Ex5 λ(p:Addr) (S:Addr->Prop) (T:List Tl) (x:Z) (q:Int)=>ws=[.ref p,x,.int q]/\Sheet a G p S T/\(∀G'',Th G'' x)/\T.length<=200 /\
 ((inR T q/\∃k,x=.str k/\nmOk k/\∀t L G',G t=none->Sm G G'->G' t=some (.lst (L.map Rw.z))->IsLine (T.take q.toNat) k L->R (.ref t) G')\/False)
set_option tactic.hygienic true in
def a2L(T:Txt K mg base a):Mal P w K mg base CX0 3 a.c_Sheet "line_at" (lowP K (a2K a)):=by
 refine fnm 3 (N:=["self","key","knowing"]) (T.m_Sheet 2 _ rfl) ?_;walk_at "in";refine⟨_,(a0e (a22 (q_m (qv 0) T.cl_Sheet (a0I T) hr (q_k (qv 2) a0Q) ))
  (a0e (by ac_rfl)
  (a0D (a2a (q_m (qv 0) T.cl_Sheet (a0A T) hr (q_k (qv 1) (q_k (qv 2) a0Q)) ))))),?_⟩
 obtain⟨p,S,T',x,q,rfl,j,C,y,h⟩:=h;have i:=j;obtain⟨f,d,l,m⟩:=i;symm;refine⟨p,f,_,rfl,m.ob,a4D (by decide +kernel) (by decide +kernel),?_⟩;symm;refine⟨p,S,T',q,rfl,j.v,?_⟩;obtain⟨c,k,rfl,A,g⟩ |⟨⟨⟩⟩:=h
 have n:0<=q/\q<=T'.length:=c;rw[if_pos n];symm;refine⟨_,rfl,C _,λD e=>?_⟩;rw[nm_b A];refine ifT ?_;have b:=m.keep (Sm.ks e);symm;refine⟨p,f,_,rfl,b.ob,a4D (by decide +kernel) (by decide +kernel),?_⟩;symm;exact⟨p,S,T',k,q,_,f,d,l,rfl,b.v,c.1,c.2,y,λt L z o u B s=>g t L z (e.free o) (e.trans u) B s⟩
def Rec.ne(H:Rec G S T k h):ix T k≠[]:=λz=>by
 obtain⟨a,H⟩:=H
 have:=H.ix
 rw[z]at this;exact H.ne (eE.mp this)
def NE(T:List Tl)(k:Str):Prop:=∃L,IsLine T k L/\L≠[]
structure KeysAt (T:List Tl) (ts:List Str):Prop where
 so:PyProof.Rows.sortedS ts=true
 nd:ts.Nodup
 is:∀s,s∈ts↔NE T s
def IsLine.uniq(h:IsLine T k L)(g:IsLine T k M):L=M:=a3b h.can g.can λt=>by rw[h.v,g.v]
def a6d(h:ix T k=[])(q:Nat):putsK (T.take q) k=[]:=a5s λi a=>by rw[h]at a;simp at a
def Few(T:List Tl):Prop:=T.length<=200/\∃kn:List Str,kn.length<=63/\∀τ∈T,τ.key∈kn
theorem b2I:∀{xs ys:List Str},xs.Nodup->(∀x∈xs,x∈ys)->xs.length<=ys.length
 |[],_,_,_=>aR _
 |x::xs,ys,h,m=>by
  rw[bv]at h;have b:=m x (.head _)
  have:=b2I (ys:=ys.erase x) h.2 λy a=>(List.mem_erase_of_ne (λz=>h.1 (by simp_all))).mpr (m y (.tail _ a))
  rw[List.length_erase_of_mem b]at this
  have:=List.length_pos_of_mem b
  rw[aI];lia
def b7E:∀{T:List Tl}{k:Str}{n:Nat},ixF k n T≠[]->∃τ∈T,τ.key=k:=by intro z0;induction z0 with
 |nil=>intro _ _ h;exact absurd rfl h
 |cons τ T I0=>
  intro k n h
  by_cases c:τ.key=k
  ·exact⟨τ,.head _,c⟩
  ·unfold ixF at h;rw[if_neg c,cT]at h;obtain⟨σ,b,a⟩:=I0 h;exact⟨σ,.tail _ b,a⟩
def b7F{ks:List Str}(h:kvs.map (·.1)=ks.map Sum.inr)(m:s∈ks):∃z,valZ kvs (.inr s)=some z:=by
 unfold valZ;cases e2:kvs.find? λc=>decide (c.1=Sum.inr s) with
 |some q=>exact⟨_,rfl⟩
 |none=>
  have a:(Sum.inr s)∈kvs.map (·.1):=h▸bg m;obtain⟨q,b,d⟩:=aM.mp a
  have:=cX.mp e2 q b
  simp[d]at this
def a2M(a:Ad):P3:=λws G R=>Ex4 λ(p:Addr) (S:Addr->Prop) (T:List Tl) (q:Int)=>ws=[.ref p,.int q]/\Sheet a G p S T/\Few T /\
 ((inR T q/\∀t ts G',G t=none->Sm G G'->G' t=some (.lst (ts.map Z.str))->KeysAt (T.take q.toNat) ts->ts.length<=63->R (.ref t) G')\/False)
def b0d:∀{kvs:List (Key×Z)},(∀q∈kvs,∃s,q.1=Sum.inr s)->∃ks:List Str,kvs.map (·.1)=ks.map Sum.inr/\(kvs.map λq=>keyW q.1)=ks.map Z.str:=by intro z0;induction z0 with
 |nil=>intro _;exact⟨[],rfl,rfl⟩
 |cons q kvs I0=>
  intro h;obtain⟨s,a⟩:=h q (.head _);obtain⟨e,c,d⟩:=I0 λq b=>h q (.tail _ b);exact⟨s::e,by rw[aF,aF,c,a],by rw[aF,aF,d,a];rfl⟩
def b0e{ks:List Str}(h:kvs.map (·.1)=ks.map Sum.inr)(e:valZ kvs (.inr s)=some z):s∈ks:=by
 unfold valZ at e;cases e2:kvs.find? λg=>decide (g.1=Sum.inr s) with
 |none=>rw[e2]at e;cases e
 |some q=>
  have c:q.1=Sum.inr s:=by have:=eh e2;simpa using this
  have:(Sum.inr s:Key)∈ks.map Sum.inr:=by rw[<- h,<- c];exact bg (dH e2)
  obtain⟨x,b,d⟩:=aM.mp this;cases d;exact b
set_option tactic.hygienic true in
def a2N(T:Txt K mg base a):Mal P w K mg base CX0 3 a.c_Sheet "keys_at" (lowP K (a2M a)):=by
 refine fnm 2 (N:=["self","knowing"]) (T.m_Sheet 3 _ rfl) ?_;walk_at "in";refine⟨_,(a0e (a22 (q_m (qv 0) T.cl_Sheet (a0I T) hr (q_k (qv 1) a0Q) ))
  (a0D (a2a (b9k (q_B a9x (T.b 8) (q_k (q_l ["key","knowing","self"] [none,some 1,some 0] (.nm 0) (hi:=(b36 (a50 T.cl_Sheet (T.n_Sheet 1 _ rfl) (qv 0)))) (ht:=λ_ _ _ _=>(a8Q (b3h (q_m (qv 2) T.cl_Sheet (a0A T) hr (q_k (qv 0) (q_k (qv 1) a0Q)) ) (λ_=>rfl))))) a0Q)))))),?_⟩
 obtain⟨p,S,T',q,rfl,sh,hT,h⟩:=h;have sh':=sh;obtain⟨dx,d,kvs,sm⟩:=sh';symm;refine⟨p,dx,_,rfl,sm.ob,a4D (by decide +kernel) (by decide +kernel),?_⟩;symm;refine⟨p,S,T',q,rfl,sh.v,?_⟩;obtain⟨hq,fin⟩ |⟨⟨⟩⟩:=h
 rw[if_pos (show 0<=q/\q<=T'.length from hq)];symm;refine b9l sm.dc ?_;symm;refine⟨p,dx,_,_,rfl,sm.ob,a6c,?_⟩;symm;refine b9i (.inl sm.dc) ?_;have smF:=sm.v.frz;obtain⟨ks,hk1,hk2⟩:=b0d sm.sk;have hnd:ks.Nodup:=by
  have:=sm.nd
  rw[hk1]at this;exact (bT.mp this).imp λh z=>h (by rw[z])
 obtain⟨hT2,kn,kn1,kn2⟩:=hT;have hkl:ks.length<=63:=aD (b2I hnd λs hs=>by
  obtain⟨z,ez⟩:=b7F hk1 hs;obtain⟨h,_,hh⟩:=sm.hs s z ez;obtain⟨τ,t1,t2⟩:=b7E (T:=T') (k:=s) (n:=0) (λz=>hh.ne z);rw[<- t2];exact kn2 τ t1) kn1
 rw[hk2];intro D hD;refine a8P (λi ys G'=>∃ts:List Str,ys=ts.map Z.str/\ts.Nodup/\(∀s,s∈ts↔s∈ks.take i/\NE (T'.take q.toNat) s)/\ts.length<=i/\Sm (put G d (.dF kvs)) G'/\G' D=some (.lst ys)) ⟨[],rfl,.nil,λs=>by simp,av _,Sm.new hD,a0a⟩ (λ_ _ _ _ _=>True.intro) ?_ ?_
 ·rintro i x ys G' hx ⟨ts,rfl,hn,hm,hl,s,gD⟩;rw[aA]at hx;cases hx':ks[i]? with
  |none=>rw[hx']at hx;cases hx
  |some k=>
  rw[hx']at hx;cases hx;have hi:=(az.mp hx').1;have ht1:ks.take (i+1)=ks.take i++[k]:=by rw[bV,hx'];rfl
  have nk:k∉ks.take i:=λz=>by
   have h1:(ks.take (i+1)).Nodup:=hnd.sublist (dk _ _);rw[ht1,b5]at h1;exact h1.2.2 k z k (by simp) rfl
  have smA:=smF.keep (Sm.ks s);refine⟨_,rfl,?_⟩;symm;refine⟨p,dx,_,rfl,smA.ob,a4D (by decide +kernel) (by decide +kernel),?_⟩;symm;refine⟨p,S,T',k,q,_,dx,d,kvs,rfl,smA,hq.1,hq.2,by omega,λt L G2 ht s2 gt il=>?_⟩;refine a81 gt ?_;cases hL:L with
  |nil=>
   symm;refine⟨ts,rfl,hn,λy=>?_,by omega,s.trans s2,s2 _ _ gD⟩;rw[hm,ht1,au,ay]
   constructor
   ·exact λ⟨a1,a2⟩=>⟨.inl a1,a2⟩
   ·rintro⟨a1 |rfl,a2⟩
    ·exact⟨a1,a2⟩
    ·obtain⟨M,m1,m2⟩:=a2;exact absurd (m1.uniq il) (by rw[hL];exact m2)
  |cons r L'=>
   symm;refine⟨_,rfl,s2 _ _ gD,by rw[aq];exact a0g (by omega),ts++[k],by rw[aG];rfl,?_,λy=>?_,by rw[aJ];simp;omega,(s.trans s2).put hD,a0a⟩
   ·rw[b5];exact⟨hn,by simp,λa1 h1 b1 h2 z=>nk (by rw[<- ay.mp h2,<- z];exact ((hm a1).mp h1).1)⟩
   ·rw[au,hm,ht1,au,ay]
    constructor
    ·rintro (⟨a1,a2⟩ |rfl)
     ·exact⟨.inl a1,a2⟩
     ·exact⟨.inr rfl,L,il,by rw[hL];simp⟩
    ·rintro⟨a1 |rfl,a2⟩
     ·exact .inl ⟨a1,a2⟩
     ·exact .inr rfl
 ·rintro ys G' ⟨ts,rfl,hn,hm,hl,s,gD⟩;rw[aq]at hm hl;rw[bp]at hm;symm;refine a9y gD (by omega) λt us ht hp hs=>?_;have gd:G' d=some (.dF kvs):=s _ _ a0a;have td:t≠d:=Ne.symm (a0h gd ht);have fr:G t=none:=by
   have h1:=s.free ht;rw[a0f td]at h1;exact h1
  have sm2:Sm G (put (put G' t (.lst (us.map Z.str))) d (.dK kvs)):=λb o e=>by
   by_cases c:b=d
   ·rw[c,a0a,<- sm.dc,<- c];exact e
   ·rw[a0f c];exact a0b (s _ _ (by rw[a0f c];exact e)) ht
  refine⟨a0b gd ht,fin t us _ fr sm2 (by rw[a0f td];exact a0a) ⟨hs,hp.nodup_iff.mpr hn,λy=>?_⟩ (by rw[hp.length_eq];omega)⟩;rw[hp.mem_iff,hm]
  constructor
  ·exact λz=>z.2
  ·intro z;refine⟨?_,z⟩;cases e:valZ kvs (.inr y) with
   |some w=>exact b0e hk1 e
   |none=>
    obtain⟨L,l1,l2⟩:=z;exact absurd (l1.uniq (IsLine.nil (a6d (sm.no y e) _))) l2
def a6e(ok:OkT T)(h:NE T s):nmOk s:=by
 obtain⟨L,a,d⟩:=h
 by_cases c:∃τ∈T,τ.key=s
 ·obtain⟨τ,f,e⟩:=c;rw[<- e];exact (ok τ f).k
 ·have:putsK T s=[]:=by
   unfold putsK;rw[eE,cZ];intro τ b;simpa using λz=>c ⟨τ,b,z⟩
  exact absurd (a.uniq (IsLine.nil this)) d
def b4T{a:Ad}{G:Hq}{p:Addr}{S:Addr->Prop}{T:List Tl}(h:Sheet a G p S T):∃dx n d,G p=some (.ins a.c_Sheet dx (shF n d)):=let ⟨_,_,_,m⟩:=h;⟨_,_,_,m.ob⟩
structure TabD (G:Hq) (d:Addr) (T:List Tl) (ts:List Str) (kvs:List (Key×Z)):Prop where
 at_:G d=some (.dK kvs)
 ks:kvs.map (·.1)=ts.map (λs=>(Sum.inr s:Key))
 ka:KeysAt T ts
 ln:∀k∈ts,∃l L,valZ kvs (.inr k)=some (.ref l)/\G l=some (.lst (L.map Rw.z))/\IsLine T k L
 no:∀k,k∉ts->valZ kvs (.inr k)=none
def TabD.keep(h:TabD G d T ts kvs)(s:Sm G G'):TabD G' d T ts kvs:=⟨s _ _ h.at_,h.ks,h.ka,λk e=>by obtain⟨l,L,a,b,c⟩:=h.ln k e;exact⟨l,L,a,s _ _ b,c⟩,h.no⟩
def b0f(nd:(rows.map (·.1)).Nodup):a2y [] rows=rows:=by
 have c:∀a b,((b++a).map (·.1)).Nodup->a2y b a=b++a:=by
  intro a
  induction a with
  |nil=>intro b _;simp[a2y]
  |cons r a ih=>
   intro b h;have d:valZ b r.1=none:=by
    cases e:valZ b r.1 with
    |none=>rfl
    |some z=>
     unfold valZ at e;cases e2:b.find? λi=>decide (i.1=r.1) with
     |none=>rw[e2]at e;cases e
     |some q=>
      rw[aG,b5]at h;have g:q.1=r.1:=by have:=eh e2;simpa using this
      exact absurd g (h.2.2 q.1 (bg (dH e2)) r.1 (by simp))
   show a2y (putZ b r.1 r.2) a=_
   rw[a4E d,ih _ (by simp_all)];simp
 simpa using c rows [] (by simp_all)
def a4I(nd:(kvs.map (·.1)).Nodup)(h:(k,z)∈kvs):valZ kvs k=some z:=by
 induction kvs with
 |nil=>simp at h
 |cons q kvs ih=>
  rw[aF,bv]at nd;unfold valZ;rw[bJ];rcases ax.mp h with rfl |h
  ·simp
  ·have a:¬ q.1=k:=λb=>nd.1 (b▸bg h);rw[decide_eq_false a];exact ih nd.2 h
def a4J(a:Ad):P3:=λws G R=>Ex4 λ(p:Addr) (S:Addr->Prop) (T:List Tl) (q:Int)=>ws=[.ref p,.int q]/\Sheet a G p S T/\OkT T/\Few T/\inR T q/\∀d ts kvs G',G d=none->Sm G G'->TabD G' d (T.take q.toNat) ts kvs->ts.length<=63->R (.ref d) G'
set_option tactic.hygienic true in
def a4K(T:Txt K mg base a):Cal P w K mg base CX0 4 "table_at" (lowP K (a4J a)):=by
 refine fnc 2 (N:=["sheet","knowing"]) T.br (T.f 14 _ rfl) ?_;walk_at "in";refine⟨_,(a0D (a2a (q_Y (b4d rfl) (T.b 12) (q_k (q_l ["key","knowing","sheet"] [none,some 1,some 0] (.nm 0) (hi:=(a2b (q_m (qv 0) T.cl_Sheet (a2N T) hr (q_k (qv 1) a0Q) ))) (he:=λ_ _ _ _=>(b3l (q_k (qv 0) (q_k (q_m (qv 2) T.cl_Sheet (a2L T) hr (q_k (qv 0) (q_k (qv 1) a0Q)) ) a0Q))))) a0Q)))),?_⟩;obtain⟨p,S,T',q,rfl,sh,ok,few,hq,fin⟩:=h;obtain⟨dx,n,d0,ob⟩:=b4T sh;symm;refine⟨p,dx,_,rfl,ob,a4D (by decide +kernel) (by decide +kernel),?_⟩;symm;refine⟨p,S,T',q,rfl,sh,few,.inl ⟨hq,λt ts G1 ht s1 gt ka hl=>?_⟩⟩;symm;refine a09 gt ?_;intro D hD;have nd:(ts.map (λs=>(Sum.inr s:Key))).Nodup:=bT.mpr (ka.nd.imp λh z=>h (by injection z));refine a8P (λi ys G'=>∃rows:List (Key×Z),ys=rows.map prZ/\rows.map (·.1)=(ts.take i).map (λs=>(Sum.inr s:Key))/\(∀k∈ts.take i,∃l L,((Sum.inr k:Key),Z.ref l)∈rows/\l≠D/\G' l=some (.lst (L.map Rw.z))/\IsLine (T'.take q.toNat) k L)/\Sm G1 G'/\G' D=some (.lst ys)) ⟨[],rfl,rfl,(λk h=>by simp at h),Sm.new hD,a0a⟩ (by rintro i ys G' _ ⟨_,_,_,_,s,_⟩;exact s _ _ gt) ?_ ?_
 ·rintro i x ys G' hx ⟨rows,rfl,hr,hln,s,gD⟩;rw[aA]at hx;cases hx':ts[i]? with
  |none=>rw[hx']at hx;cases hx
  |some k=>
  rw[hx']at hx;cases hx;have hi:=(az.mp hx').1;have hk:nmOk k:=a6e (fun τ hτ=>ok τ (bf hτ)) ((ka.is k).mp (aL hx'));have sh2:=sh.keep (Sm.ks (s1.trans s));obtain⟨dx2,n2,d2,ob2⟩:=b4T sh2;have hrl:rows.length<=63:=by have:=congrArg aX hr;rw[aq,aq,aK]at this;omega
  refine⟨_,rfl,?_⟩;symm;refine⟨p,dx2,_,rfl,ob2,a4D (by decide +kernel) (by decide +kernel),?_⟩;symm;refine⟨p,S,T',.str k,q,rfl,sh2,(λ_=>b1Z hk),few.1,.inl ⟨hq,k,rfl,hk,λl L G2 hl2 s2 gl il=>?_⟩⟩;have nlD:l≠D:=Ne.symm (a0h gD hl2);symm;refine⟨lenK rfl,s2 _ _ gD,by rw[aq];exact a0g (by omega),rows++[(.inr k,.ref l)],by rw[aG];rfl,by rw[aG,hr,take_snoc hx',aG];rfl,λj hj=>?_,(s.trans s2).put hD,a0a⟩;rw[take_snoc hx']at hj;rcases au.mp hj with hj |hj
  ·obtain⟨l',L',m1,m2,m3,m4⟩:=hln j hj;exact⟨l',L',cf _ m1,m2,by rw[a0f m2];exact s2 _ _ m3,m4⟩
  ·rw[ay.mp hj];exact⟨l,L,by simp,nlD,by rw[a0f nlD];exact gl,il⟩
 ·rintro ys G2 ⟨rows,rfl,hr,hln,s,gD⟩;rw[aq,bp]at hr hln;have hrl:rows.length=ts.length:=by have:=congrArg aX hr;rw[aq,aq]at this;exact this
  have nd2:(rows.map (·.1)).Nodup:=by rw[hr];exact nd
  symm;refine b4e gD (by omega) λd hd=>?_;rw[b0f nd2];have s2:=s.trans (Sm.new (o:=.dK rows) hd);refine fin d ts rows _ (s1.free (s.free hd)) (s1.trans s2) ⟨a0a,hr,ka,λk hk=>?_,λk hk=>?_⟩ hl
  ·obtain⟨l,L,m1,m2,m3,m4⟩:=hln k hk;exact⟨l,L,a4I nd2 m1,a0b m3 hd,m4⟩
  ·cases e:valZ rows (.inr k) with
   |none=>rfl
   |some z=>exact absurd (b0e hr e) hk
local macro_rules | `(tactic| walk_at "go1")=>`(tactic| first | refine i_I (show (0:Int)<_ by decide) ?_ | refine i_I ⟨by decide,by decide⟩ ?_)
def b2J{α:Type}{xs:List α}{j:Nat}:cutZ xs none (some (j:Int))=xs.take j:=by
 unfold cutZ;rw[HT.sIx_none,HT.sIx_nat];simp
structure TI (G4 G5:Hq) (t:Addr) (rs:List Addr) (T:List Tl):Prop where
 at_:G5 t=some (.lst (T.map Tl.z))
 kp:∀b o,b≠t->b∉rs->G4 b=some o->G5 b=some o
 row:∀r∈rs,RowAt G5 r
 nt:t∉rs
def TI.draw(h:TI G4 G5 t rs T)(hr:r∈rs)(k:Kq r G5 G6)(R6:RowAt G6 r):TI G4 G6 t rs T:=
 ⟨k _ _ h.at_ λz=>h.nt (z▸hr),λb o g d e=>k _ _ (h.kp b o g d e) λz=>d (z▸hr),λa f=>by
  by_cases c:a=r
  ·simp_all
  ·exact (h.row a f).kq k c,h.nt⟩
def TI.add(h:TI G4 G5 t rs T):TI G4 (put G5 t (.lst (T.map Tl.z++[τ.z]))) t rs (T++[τ]):=
 ⟨by rw[a0a,aG];rfl,λb o a d e=>by rw[a0f a];exact h.kp b o a d e,λr c=>(h.row r c).kq Kq.at λz=>h.nt (z▸c),h.nt⟩
def a6f:P3:=λws G R=>∃(a:Addr)(ns:List Int),ws=[.scr a ns,.int 63]/\ns.length<=63 /\
 ∀(t u:Addr)(T:List Tl)(rs:List Addr)(nms:List Str)(G':Hq),Sm G G'->G' t=some (.lst (T.map Tl.z))->G' u=some (.lst (rs.map Z.ref))->OkT T->T.length<=63->nms.length=4->(∀τ∈T,τ.key∈nms)->(∀r∈rs,RowAt G' r/\r≠t/\r≠u/\G r=none)->R (.tup [.ref t,.ref u]) G'
def b7G{ns:List Str}(h:∀s∈ns,nmOk s)(h0:0<=k)(h1:k<(ns.length:Int)):∃s,atI (ns.map Z.str) k=some (.str s)/\nmOk s/\s∈ns:=by
 obtain⟨j,rfl⟩:=cY h0;have a:j<ns.length:=by omega
 exact⟨ns[j],a05 (by simp_all),h _ (bz a),bz a⟩
def a6g(T:Txt K mg base a):Cal P w K mg base CX0 4 "_law_tellings" (lowP K a6f):=by
 refine fnc 2 (N:=["script","many","first","head","keys","worths","rows","tellings","row","kind","key","worth","begin","end"]) T.br (T.f 32 _ rfl) ?_ (len:=λws G R h=>(by obtain⟨_,_,rfl,_⟩:=h;rfl));walk_at "in";refine⟨_,(a0e (by ac_rfl)
  (a0e (by ac_rfl)
  (a0e (by ac_rfl)
  (a0e (by ac_rfl)
  (a0e (z_l (nmI 6 nd) ["cell","first"] [none,some 2] (.nm 0))
  (by ac_rfl)))))),?_⟩
 obtain⟨a,ns,rfl,hl,q⟩:=h;symm;refine⟨a,ns,0,rfl,by decide,λfirst=>?_⟩;symm;have hw:first % 2=0\/first % 2=1:=by omega
 refine⟨_,_,rfl,hw,λhd x w' hhd ok=>?_⟩;symm;refine⟨hd,4,rfl,RowAt.at ok,by decide,by decide,λnm nms G1 hnm gnm hlen hnms hR1 hK1=>?_⟩;have s1:Sm G G1:=λb o h=>hK1 b o (a0b h hhd) (a0h h hhd);symm;refine⟨hd,4,rfl,hR1,by decide,by decide,λwm wms G2 hwm gwm hlen2 hwms hR2 hK2=>?_⟩;have s2:Sm G G2:=λb o h=>hK2 b o (s1 b o h) (a0h h hhd);have gnm2:=hK2 _ _ gnm λz=>by rw[z,a0a]at hnm;cases hnm
 clear hK1 hK2 hR1 hR2 s1 gnm hnm hwm;symm;refine b8X λc hc=>?_;generalize ee:put G2 c _=G3;obtain⟨gc,s3⟩:=newK ee hc;have lm:(cutZ ns none (some 63)).length<=63:=by rw[show cutZ ns none (some 63)=ns.take 63 from b2J (j:=63),aK];omega
 generalize cutZ ns none (some 63)=M at gc lm;have gnm3:=s3 _ _ gnm2;have gwm3:=s3 _ _ gwm;have s23:=s2.trans s3;clear s2 gnm2 gwm hc ee s3;symm;refine a09 gc ?_;intro D hD;refine a8P (λi ys G'=>∃rs:List Addr,ys=rs.map Z.ref/\rs.length=i/\G' D=some (.lst ys)/\(∀b o,b≠D->G3 b=some o->G' b=some o)/\∀r∈rs,RowAt G' r/\r≠D/\G3 r=none) ⟨[],rfl,rfl,a0a,λb o nb e=>by rw[a0f nb];exact e,λr h=>(nomatch h)⟩ ?_ ?_ ?_
 ·rintro i ys G' _ ⟨rs,_,_,_,k,_⟩;exact k _ _ (a0h gc hD) gc
 ·rintro i x ys G' hx ⟨rs,rfl,hl',gD,k,hr⟩;have hi:=(az.mp hx).1;rw[aq]at hi;rw[aA]at hx;cases hx':M[i]? with
  |none=>rw[hx']at hx;cases hx
  |some m=>
  rw[hx']at hx;cases hx;refine⟨_,rfl,?_⟩;symm;refine⟨_,_,rfl,hw,λr x' w'' hr' ok'=>?_⟩;have nD:r≠D:=λz=>by rw[z,gD]at hr';cases hr'
  have fr:G3 r=none:=by
   cases e:G3 r with
   |none=>rfl
   |some o=>rw[k r o nD e]at hr';cases hr'
  refine⟨a0b gD hr',by rw[aq];exact a0g (by omega),rs++[r],by simp,by simp;omega,a0a,λb o nb e=>by rw[a0f nb];exact a0b (k b o nb e) hr',λr2 h2=>?_⟩;rcases au.mp h2 with h2 |h2
  ·obtain⟨a1,a2,a3⟩:=hr r2 h2;exact⟨(a1.new hr').kq Kq.at a2,a2,a3⟩
  ·rw[ay.mp h2];exact⟨(RowAt.at ok').kq Kq.at nD,nD,fr⟩
 ·rintro ys G' ⟨rs,rfl,hl',gD,k,hr⟩;rw[aq]at hl';refine⟨_,rfl,?_⟩;symm;refine⟨lenK rfl,λt ht=>?_⟩;generalize ee4:put G' t _=G4;obtain⟨gt,s4⟩:=newK ee4 ht;have nD:∀b o,G3 b=some o->b≠D:=λb o e=>a0h e hD;have nr:∀b o,G3 b=some o->b∉rs:=λb o e z=>by rw[(hr b z).2.2]at e;cases e
  have nt:∀b o,G3 b=some o->b≠t:=λb o e z=>by rw[<- z,k b o (nD b o e) e]at ht;cases ht
  have up:∀b o,G3 b=some o->G4 b=some o:=λb o e=>s4 _ _ (k b o (nD b o e) e);have tr:t∉rs:=λz=>by obtain⟨_,_,e,_⟩:=(hr t z).1;rw[e]at ht;cases ht
  have tD:t≠D:=λz=>by rw[z,gD]at ht;cases ht
  have Dr:D∉rs:=λz=>(hr D z).2.1 rfl;have I0:TI G4 G4 t rs []:=⟨gt,λb o _ _ e=>e,λr h=>let ⟨x,w,e,o⟩:=(hr r h).1;⟨x,w,s4 _ _ e,o⟩,tr⟩;symm;refine a09 (s4 _ _ gD) ?_;refine a0R (λi σ G5=>Ex7 λ(T:List Tl) (v1 v2 v3 v4 v5 v6:Option Z)=>T.length=i/\OkT T/\(∀τ∈T,τ.key∈nms)/\TI G4 G5 t rs T/\σ=[some (.scr a ns),some (.int 63),some (.int first),some (.ref hd),some (.ref nm),some (.ref wm),some (.ref D),some (.ref t),v1,v2,v3,v4,v5,v6]) ⟨[],_,_,_,_,_,_,rfl,fun τ h=>(nomatch h),fun τ h=>(nomatch h),I0,rfl⟩ (by rintro i σ G5 _ ⟨_,_,_,_,_,_,_,_,_,_,I,_⟩;exact I.kp _ _ (Ne.symm tD) Dr (s4 _ _ gD)) ?_ ?_
  ·rintro i x σ G5 hx ⟨T,v1,v2,v3,v4,v5,v6,hT,okT,kT,I,rfl⟩;have hi:=(az.mp hx).1;rw[aq]at hi;rw[aA]at hx;cases hx':rs[i]? with
   |none=>rw[hx']at hx;cases hx
   |some r=>
   rw[hx']at hx;cases hx;have mr:=aL hx';refine⟨_,rfl,?_⟩;symm;refine a1i (I.row r mr) (by decide) (by decide) λkd y w f0 f1 ok1=>?_
   replace I:=I.draw mr Kq.at (RowAt.at ok1)
   generalize put G5 r _=G6 at I ⊢;symm;refine a1i (I.row r mr) (by decide) (by decide) λkk y w g0 g1 ok1=>?_
   replace I:=I.draw mr Kq.at (RowAt.at ok1)
   generalize put G6 r _=G7 at I ⊢;obtain⟨key,ek,okk,mk⟩:=b7G hnms g0 (by omega);refine a0E (I.kp _ _ (nt _ _ gnm3) (nr _ _ gnm3) (up _ _ gnm3)) ek ?_;symm;refine a1i (I.row r mr) (by decide) (by decide) λkw y w j0 j1 ok1=>?_
   replace I:=I.draw mr Kq.at (RowAt.at ok1)
   generalize put G7 r _=G8 at I ⊢;obtain⟨wo,ew,okw,_⟩:=b7G hwms j0 (by omega);refine a0E (I.kp _ _ (nt _ _ gwm3) (nr _ _ gwm3) (up _ _ gwm3)) ew ?_;symm;refine⟨r,rfl,I.row r mr,λb e G9 hst hR9 hK9=>?_⟩
   replace I:=I.draw mr hK9 hR9
   refine⟨_,rfl,?_⟩;symm;refine ifD (λc=>?_) λc=>?_
   ·symm;refine a0V I.at_ ?_;symm;refine⟨lenK rfl,?_⟩;symm;refine a0x I.at_ (by rw[aq];exact a0g (by omega)) ⟨T++[Tl.mk key none b e],_,_,_,_,_,_,by simp;omega,fun τ h=>?_,fun τ h=>?_,I.add (τ:=⟨key,none,b,e⟩),rfl⟩
    ·rcases au.mp h with h |h
     ·exact okT τ h
     ·rw[ay.mp h];exact⟨okk,λ_ z=>(nomatch z),hst⟩
    ·rcases au.mp h with h |h
     ·exact kT τ h
     ·rw[ay.mp h];exact mk
   ·symm;refine a0V I.at_ ?_;symm;refine⟨lenK rfl,?_⟩;symm;refine a0x I.at_ (by rw[aq];exact a0g (by omega)) ⟨T++[Tl.mk key (some wo) b e],_,_,_,_,_,_,by simp;omega,fun τ h=>?_,fun τ h=>?_,I.add (τ:=⟨key,some wo,b,e⟩),rfl⟩
    ·rcases au.mp h with h |h
     ·exact okT τ h
     ·rw[ay.mp h];exact⟨okk,λs z=>by cases z;exact okw,hst⟩
    ·rcases au.mp h with h |h
     ·exact kT τ h
     ·rw[ay.mp h];exact mk
  ·rintro σ G5 ⟨T,v1,v2,v3,v4,v5,v6,hT,okT,kT,I,rfl⟩;rw[aq]at hT;symm;refine⟨lenK rfl,?_⟩;exact q t D T rs nms G5 (λb o e=>I.kp b o (nt _ _ (s23 _ _ e)) (nr _ _ (s23 _ _ e)) (up _ _ (s23 _ _ e))) I.at_ (I.kp _ _ (Ne.symm tD) Dr (s4 _ _ gD)) okT (by omega) (by omega) kT λr h=>⟨I.row r h,λz=>tr (z▸h),(hr r h).2.1,by
    cases e:G r with
    |none=>rfl
    |some o=>have:=(hr r h).2.2;rw[s23 _ _ e]at this;cases this⟩
noncomputable def fT(T:List Tl)(n:Int):FZ:=λk t=>lastAt (putsK (T.take n.toNat) k) t
def a6h(h:OkT T):FF (fT T n):=λk t=>a2z (a3S fun τ a=>h τ (bf a)) t
def OkC(A:List Cg):Prop:=∀c∈A,W2 c.r/\nmOk c.k
def OkC.fl1(h:OkC A):(A.map Cg.z).all (flat 1)=true:=by
 rw[bA];intro x i;obtain⟨c,g,rfl⟩:=aM.mp i;obtain⟨⟨x,y,e,a,f⟩,d⟩:=h c g
 show ((Z.str c.k::.int c.r.b::oz c.r.e::c.r.w).all _)=true
 rw[aS,aS,aS,e,aS,aS,a4z d,a4u,a9T,a,f];rfl
def OkC.fl8(h:OkC A):(A.map Cg.z).all (flat 8)=true:=a64 (n:=1) (by decide) h.fl1
def OkC.add(h:OkC A)(w:W2 c.r)(k:nmOk c.k):OkC (A++[c]):=λd a=>by
 rcases au.mp a with a |a
 ·exact h d a
 ·rw[ay.mp a];exact⟨w,k⟩
def a2p{rows S:List Rw}(hb:a0G rows bs)(sub:∀r∈rows,r∈S):bs.length<=2*S.length:=by
 have a:bs.Nodup:=hb.1.imp λh=>by omega
 have q:=a.length_le_of_subset (l₂:=S.flatMap λr=>r.b::r.e.toList) λx c=>by
  obtain⟨r,d,e⟩:=(hb.2 x).mp c;refine eD.mpr ⟨r,sub r d,?_⟩;rcases e with e |e
  ·simp_all
  ·rw[e];exact .tail _ (.head _)
 refine aD q ?_;clear q a sub hb
 induction S with
 |nil=>simp
 |cons r S ih=>
  rw[cq,aJ,aI,aI]
  have:r.e.toList.length<=1:=by simp
  omega
def a7b{T:List Tl}(h:i<=j):∀r∈putsK (T.take i) k,r∈putsK (T.take j) k:=λr b=>by
 obtain⟨τ,a,rfl⟩:=aM.mp b;obtain⟨a,c⟩:=bC.mp a;refine aM.mpr ⟨τ,bC.mpr ⟨?_,c⟩,rfl⟩
 have:=List.take_take (i:=i) (j:=j) (l:=T)
 rw[Nat.min_eq_left h]at this;rw[<- this]at a;exact bf a
def a4L{T:List Tl}:(putsK (T.take j) k).length<=T.length:=by grind [putsK]
def b12{T:List Tl}(hb:a0G (putsK (T.take i) k++putsK (T.take j) k) bs)(h:T.length<=63):bs.length<=126:=by
 rcases Nat.le_total i j with c |c
 ·have:=a2p hb λr a=>(au.mp a).elim (a7b c r) id
  have:=a4L (T:=T) (k:=k) (j:=j)
  omega
 ·have:=a2p hb λr a=>(au.mp a).elim id (a7b c r)
  have:=a4L (T:=T) (k:=k) (j:=i)
  omega
theorem a13:∀{ks:List Str},(∀k∈ks,L k=M k)->cgs ks L=cgs ks M
 |[],_=>rfl
 |k::ks,h=>by
  have a:=a13 λx b=>h x (.tail _ b);unfold cgs at a ⊢;rw[cq,cq,a,h k (.head _)]
def a7c(h:k∉ks):cgs (ks++[k]) (λx=>if x=k then l else L x)=cgs ks L++l.map (Cg.mk k):=by
 rw[<- a13 λx a=>if_neg λz:x=k=>h (z▸a)];unfold cgs;rw[List.flatMap_append,List.flatMap_singleton]
 show _++(if k=k then l else L k).map _=_
 rw[if_pos rfl]
def a6i:P3:=λws G R=>∃(p:Addr)(A:List Cg),ws=[.ref p]/\G p=some (.lst (A.map Cg.z))/\(∀c∈A,W2 c.r)/\A.length<=1000/\∀t,G t=none->R (.ref t) (put G t (.lst ((turn A).map Cg.z)))
set_option tactic.hygienic true in
def a6j(T:Txt K mg base a):Cal P w K mg base CX0 1 "turned" (lowP K a6i):=by
 refine fnc 1 (N:=["some"]) T.br (T.f 20 _ rfl) ?_;walk_at "in";refine⟨_,(a0D (a2a (q_l ["key","begin","end","then","now"] [none,none,none,none,none] (.tp [0,1,2,3,4])))),?_⟩;obtain⟨p,A,rfl,d,j,i,q⟩:=h;symm;refine a09 d ?_;intro D g;refine a1H (g':=Cg.z) (λc=>some ⟨c.k,⟨c.r.b,c.r.e,rev2 c.r.w⟩⟩) (λm=>a0b d g) i ?_ ?_
 ·intro c n m u o l s;obtain⟨x,y,e,_,_⟩:=j c n;obtain⟨k,b,t,w⟩:=c;cases e;refine⟨_,rfl,?_⟩;symm;refine⟨lenK rfl,?_⟩;exact l _ rfl
 ·symm;rw[show (A.filterMap λc=>some (⟨c.k,⟨c.r.b,c.r.e,rev2 c.r.w⟩⟩:Cg))=turn A from by unfold turn;rw[<- fN];rfl];exact q D g
def a3u:P3:=λws G R=>∃(k:Str)(p:Addr)(l:List Rw),ws=[.str k,.ref p]/\G p=some (.lst (l.map Rw.z))/\(∀r∈l,W2 r)/\l.length<=1000/\∀t,G t=none->R (.ref t) (put G t (.lst (((unl l).map (Cg.mk k)).map Cg.z)))
def a3v(T:Txt K mg base a):Cal P w K mg base CX0 1 "unlike_of" (lowP K a3u):=by
 refine fnc 2 (N:=["key","pieces"]) T.br (T.f 15 _ rfl) ?_ (len:=λws G R h=>(by obtain⟨_,_,_,rfl,_⟩:=h;rfl));walk_at "in";refine⟨_,(a0D (a2a (q_l ["begin","end","then","now","key"] [none,none,none,none,some 0] (.tp [0,1,2,3])))),?_⟩;obtain⟨k,p,l,rfl,g,i,s,q⟩:=h;symm;refine a09 g ?_;intro D d;refine a1H (g':=Cg.z) (λr=>if unW r.w=true then some ⟨k,r⟩ else none) (λm=>a0b g d) s ?_ ?_
 ·intro r hr m A v j o;obtain⟨x,y,e,t,n⟩:=i r hr;obtain⟨b,u,w⟩:=r;cases e;refine⟨_,rfl,?_⟩;symm;refine a96 (a0q (by decide) t) (a0q (by decide) n) ?_;symm
  by_cases c:x=y
  ·rw[decide_eq_true c];refine ifF ?_;exact o (by simp[unW,c])
  ·rw[decide_eq_false c];refine ifT ?_;symm;refine⟨lenK rfl,?_⟩;exact j ⟨k,⟨b,u,[x,y]⟩⟩ (by simp[unW,c])
 ·rw[show (l.filterMap λr=>if unW r.w=true then some (⟨k,r⟩:Cg) else none)=(unl l).map (Cg.mk k) from by
   unfold unl;rw[<- fN,List.filterMap_filter]
   congr 1]
  exact q D d
def Pr2(l:List Rw):Prop:=∀r∈l,∃x y,r.w=[.tup [x,y]]/\flat 0 x=true/\flat 0 y=true
def Pr2.p1(h:Pr2 l):Pair1 l:=λr b=>by
 obtain⟨x,y,e,a,c⟩:=h r b;exact⟨_,e,by simp[flat,a,c]⟩
def a4M(h:Pr2 l)(t:Int):wz (val l t)=.non\/∃x y,wz (val l t)=.tup [x,y]/\flat 0 x=true/\flat 0 y=true:=by
 cases e:val l t with
 |none=>exact .inl rfl
 |some w=>
  obtain⟨r,b,_,d⟩:=a61 e;obtain⟨x,y,c,a,f⟩:=h r b;exact .inr ⟨x,y,by rw[<- d,c];rfl,a,f⟩
def b0g(hb:a0G (l++o) bs)(hr:r∈join (pcs (laidF l o) bs)):∃t,r.w=[wz (val l t),wz (val o t)]/\¬ (wz (val l t)=.non/\wz (val o t)=.non):=by
 obtain⟨a,d,f⟩:=(a2h (a4t _ hb.1)).2.2.2 r hr;obtain⟨_,e⟩:=a4s d;unfold laidF at e
 split at e
 ·grind
 ·next c=>exact⟨a.b,f.trans (aN.inj e).symm,c⟩
def a2q:P3:=λws G R=>Ex4 λ(p q:Addr) (l o:List Rw)=>ws=[.ref p,.ref q]/\G p=some (.lst (l.map Rw.z))/\G q=some (.lst (o.map Rw.z))/\Rise l/\Pr2 l/\Rise o/\Pr2 o/\l.length<=150/\o.length<=150 /\
 ∀(t:Addr)(bs:List Int)(G':Hq),G t=none->Sm G G'->a0G (l++o) bs->bs.length<=600->G' t=some (.lst ((pj l o bs).map Rw.z))->R (.ref t) G'
def a2r(T:Txt K mg base a):Cal P w K mg base CX0 4 "pairs_joined" (lowP K a2q):=by
 refine fnc 2 (N:=["pairs","others","pieces","begin","end","pair","other","then","now"]) T.br (T.f 21 _ rfl) ?_ (len:=λws G R h=>(by obtain⟨_,_,_,_,rfl,_⟩:=h;rfl));walk_at "in";refine⟨_,(by ac_rfl),?_⟩;obtain⟨p,q,l,o,rfl,gp,gq,rl,pl,ro,po,zl,zo,fin⟩:=h;symm;refine⟨lenK rfl,λW hW=>?_⟩;generalize ee:put G W _=G1;obtain⟨gW,s1⟩:=newK ee hW;symm;refine⟨p,q,l,o,rfl,s1 _ _ gp,s1 _ _ gq,rl,pl.p1,ro,po.p1,zl,zo,λu bs G2 hu s2 hb hbl gu=>?_⟩;have gW2:=s2 _ _ gW;have nuW:u≠W:=λz=>by rw[z,gW]at hu;cases hu
 have LW:=λ(r:Rw) (hr:r∈join (pcs (laidF l o) bs))=>b0g hb hr;have LL:=(laid_ok hb).2.2;have hbl:bs.length<=600:=by omega
 have fin:=λz G'=>fin z bs G';unfold pj at fin;generalize join (pcs (laidF l o) bs)=J at gu LW LL fin;have w2:∀r∈J,W2 ⟨r.b,r.e,hw r.w⟩:=λr hr=>by
  obtain⟨t,e,c⟩:=LW r hr;rw[e];rcases a4M pl t with e1 |⟨x1,x2,e1,f1,f2⟩<;>rcases a4M po t with e2 |⟨y1,y2,e2,g1,g2⟩
  ·exact absurd ⟨e1,e2⟩ c
  ·rw[e1,e2];exact⟨y1,y2,rfl,g1,g2⟩
  ·rw[e1,e2];exact⟨x1,x2,rfl,f1,f2⟩
  ·rw[e1,e2];exact⟨x1,y2,rfl,f1,g2⟩
 symm;refine a09 gu ?_;refine a0R (λi σ G'=>Ex6 λ(v1 v2 v3 v4 v5 v6:Option Z)=>Kq W G2 G'/\G' W=some (.lst (((J.take i).map λr=>(⟨r.b,r.e,hw r.w⟩:Rw)).map Rw.z))/\σ=[some (.ref p),some (.ref q),some (.ref W),v1,v2,v3,v4,v5,v6]) ⟨_,_,_,_,_,_,λ_ _ e _=>e,gW2,rfl⟩ (by rintro i σ G' _ ⟨_,_,_,_,_,_,k,_⟩;exact k _ _ gu nuW) ?_ ?_
 ·rintro i x σ G3 hx ⟨v1,v2,v3,v4,v5,v6,kq,gW3,rfl⟩;rw[aA]at hx;cases hx':J[i]? with
  |none=>rw[hx']at hx;cases hx
  |some r=>
  rw[hx']at hx;cases hx;have hi:=(az.mp hx').1;obtain⟨t,e,c⟩:=LW r (aL hx');have tk:((J.take (i+1)).map λr=>(⟨r.b,r.e,hw r.w⟩:Rw))=((J.take i).map λr=>(⟨r.b,r.e,hw r.w⟩:Rw))++[⟨r.b,r.e,hw r.w⟩]:=by rw[take_snoc hx',aG];rfl
  have lt:((J.take i).map λr=>(⟨r.b,r.e,hw r.w⟩:Rw)).length<=600:=by rw[aq,aK];omega
  generalize ((J.take i).map λr=>(⟨r.b,r.e,hw r.w⟩:Rw))=P0 at gW3 tk lt;rw[e]at tk;obtain⟨b,en,w⟩:=r;cases e;refine⟨_,rfl,?_⟩;have app:∀(x y:Z)(v1 v2 v3 v4 v5 v6:Option Z),hw [wz (val l t),wz (val o t)]=[x,y]->a2e (.ref W) [.tup [.int b,oz en,x,y]] G3 (λ_ G'=>Ex6 λ(u1 u2 u3 u4 u5 u6:Option Z)=>Kq W G2 G'/\G' W=some (.lst (((J.take (i+1)).map λr=>(⟨r.b,r.e,hw r.w⟩:Rw)).map Rw.z))/\([some (.ref p),some (.ref q),some (.ref W),v1,v2,v3,v4,v5,v6]:S3)=[some (.ref p),some (.ref q),some (.ref W),u1,u2,u3,u4,u5,u6]):=λx y v1 v2 v3 v4 v5 v6 ew=>by
   refine a0x gW3 (by rw[aq];exact a0g (by omega)) ⟨_,_,_,_,_,_,λb o e1 nb=>by rw[a0f nb];exact kq b o e1 nb,?_,rfl⟩;rw[a0a,tk,ew,aG]
   rfl
  rcases a4M pl t with e1 |⟨x1,x2,e1,f1,f2⟩<;>rcases a4M po t with e2 |⟨y1,y2,e2,g1,g2⟩
  ·exact absurd ⟨e1,e2⟩ c
  ·rw[e1,e2]at app ⊢;symm;refine a0V gW3 ?_;symm;refine⟨lenK rfl,?_⟩;symm;exact app y1 y2 _ _ _ _ _ _ rfl
  ·rw[e1,e2]at app ⊢;symm;refine a0V gW3 ?_;symm;refine⟨lenK rfl,?_⟩;symm;exact app x1 x2 _ _ _ _ _ _ rfl
  ·rw[e1,e2]at app ⊢;symm;refine a0V gW3 ?_;symm;refine⟨lenK rfl,?_⟩;symm;exact app x1 y2 _ _ _ _ _ _ rfl
 ·rintro σ G3 ⟨v1,v2,v3,v4,v5,v6,kq,gW3,rfl⟩;rw[aq,bp]at gW3;symm;have s3:Sm G G3:=λb o e=>kq b o (s2 _ _ (s1 _ _ e)) (a0h e hW);refine⟨W,_,rfl,gW3,λr hr=>?_,by rw[aq];omega,λz hz=>fin z _ (s3.free hz) (s3.trans (Sm.new hz)) hb hbl a0a⟩;obtain⟨r',h1,rfl⟩:=aM.mp hr;obtain⟨x,y,e,f1,f2⟩:=w2 r' h1;refine⟨by rw[e];simp,?_⟩;rw[e,aS,aS,a0q (by decide) f1,a0q (by decide) f2];rfl
set_option tactic.hygienic true in
def b13{α β:Type}{f:α->β}{ps qs:List β}(h:ps.Perm qs):∀A:List α,qs=A.map f->∃B:List α,B.Perm A/\ps=B.map f:=by
 induction h with
 |nil=>exact λA e=>⟨[],by rw[eE.mp e.symm],rfl⟩
 |cons x _ ih=>
  intro A e
  match A,e with
  |a::A,e=>
   injection e with d g
   obtain⟨B,c,rfl⟩:=ih A g;exact⟨a::B,c.cons a,by rw[d];rfl⟩
 |swap x y l=>
  intro A e
  match A,e with
  |[],e=>cases e
  |[_],e=>cases e
  |a::b::A,e=>
   simp at e;obtain⟨rfl,rfl,rfl⟩:=e;exact⟨b::a::A,aV.swap a b A,rfl⟩
 |trans _ _ ih1 ih2=>
  intro A e;obtain⟨B,c,d⟩:=ih2 A e;obtain⟨C,i,g⟩:=ih1 B d;exact⟨C,i.trans c,g⟩
def b7H{α β γ:Type}{f:α->β}{g:α->γ}(A:List α):(A.map f).zip (A.map g)=A.map λx=>(f x,g x):=by grind
def b14{α:Type}{f:α->Int}{g:α->Z}{A:List α}{os:List Z}(h:SOut (A.map f) (A.map g) os):∃B:List α,B.Perm A/\os=B.map g/\B.Pairwise λx y=>f x<=f y:=by
 obtain⟨d,c,rfl,a⟩:=h;obtain⟨B,b,rfl⟩:=b13 c A (b7H A);have a:=bT.mp a;exact⟨B,b,by rw[bQ];rfl,a⟩
theorem a5v:∀{l m:List Rw},(l.Pairwise λx y=>x.b<y.b)->(m.Pairwise λx y=>x.b<=y.b)->m.Perm l->m=l
 |[],m,_,_,h=>h.eq_nil
 |y::l,[],_,_,h=>by have:=h.length_eq;simp at this
 |y::l,x::m,h1,h2,h=>by
  have e:x=y:=by
   rcases ax.mp (h.mem_iff.mp (bu)) with e |m1
   ·omega
   ·rcases ax.mp (h.mem_iff.mpr (bu)) with e |m2
    ·simp_all
    ·have d:=(aH.mp h1).1 x m1;have c:=(aH.mp h2).1 y m2;omega
  subst e;rw[a5v (aH.mp h1).2 (aH.mp h2).2 h.cons_inv]
def b0h(h:B.Perm A)(s:B.Pairwise λx y=>x.r.b<=y.r.b)(k:Str)(r:Rise (rowsOf A k)):rowsOf B k=rowsOf A k:=by
 refine a5v (b6.imp_of_mem (λ{x y} a _ q=>q.b (r.1 x a)) r.2) ?_ ((h.filter _).map _);unfold rowsOf;rw[bT];exact s.sublist cn
def a14:rowsOf (A++[c]) k=rowsOf A k++if c.k=k then [c.r] else []:=by
 unfold rowsOf
 by_cases e:c.k=k<;>simp[e]
def b7I:pr (l++m)=pr l++pr m:=aG
structure PD (B0 G:Hq) (d:Addr) (A:List Cg) (vs:List Str) (kvs:List (Key×Z)):Prop where
 at_:G d=some (.dK kvs)
 ks:kvs.map (·.1)=vs.map λs=>(Sum.inr s:Key)
 nd:vs.Nodup
 ln:∀w∈vs,∃l,valZ kvs (.inr w)=some (.ref l)/\G l=some (.lst ((pr (rowsOf A w)).map Rw.z))/\B0 l=none
 no:∀w,w∉vs->valZ kvs (.inr w)=none
 al:∀w,w∈vs↔∃c∈A,c.k=w
 inj:∀w v l,valZ kvs (.inr w)=some (.ref l)->valZ kvs (.inr v)=some (.ref l)->w=v
 sm:Sm B0 G
 fr:B0 d=none
def PD.len(H:PD B0 G d A vs kvs):kvs.length=vs.length:=by have:=congrArg aX H.ks;simpa using this
def PD.short(H:PD B0 G d A vs kvs):vs.length<=A.length:=by
 have:=H.nd.length_le_of_subset λw b=>by
  obtain⟨c,a,e⟩:=(H.al w).mp b;exact aM.mpr ⟨c,a,e⟩
 simpa using this
def PD.weak(H:PD B0 G d A vs kvs)(s:Sm B1 B0):PD B1 G d A vs kvs:=
 ⟨H.at_,H.ks,H.nd,λw e=>let ⟨l,a,b,c⟩:=H.ln w e;⟨l,a,b,s.free c⟩,H.no,H.al,H.inj,s.trans H.sm,s.free H.fr⟩
def PD.keep(H:PD B0 G d A vs kvs)(s:Sm G G'):PD B0 G' d A vs kvs:=
 ⟨s _ _ H.at_,H.ks,H.nd,λw e=>let ⟨l,a,b,c⟩:=H.ln w e;⟨l,a,s _ _ b,c⟩,H.no,H.al,H.inj,H.sm.trans s,H.fr⟩
def b0i{A:List Cg}{c:Cg}{w:Str}:(∃d∈A++[c],d.k=w)↔(∃d∈A,d.k=w)\/c.k=w:=by simp
def PD.old(H:PD B0 G d A vs kvs)(hw:c.k∈vs)(hl:valZ kvs (.inr c.k)=some (.ref l))(s:Sm G Gx):PD B0 (put Gx l (.lst ((pr (rowsOf A c.k)).map Rw.z++[Rw.z ⟨c.r.b,c.r.e,[.tup c.r.w]⟩]))) d (A++[c]) vs kvs:=by
 obtain⟨q,g,p,i⟩:=H.ln c.k hw;rw[hl]at g;cases g;have f:d≠l:=λz=>by have:=H.at_;rw[z,p]at this;cases this
 refine⟨by rw[a0f f];exact s _ _ H.at_,H.ks,H.nd,λw h=>?_,H.no,λw=>?_,H.inj,λb o e=>?_,H.fr⟩
 ·obtain⟨m,a,j,n⟩:=H.ln w h
  by_cases cc:w=c.k
  ·subst cc;rw[hl]at a;refine⟨l,hl,?_,i⟩;rw[a0a,a14,if_pos rfl,b7I,aG]
   rfl
  ·refine⟨m,a,?_,n⟩;rw[a0f λz=>cc (H.inj w c.k l (by grind) hl),a14,if_neg (Ne.symm cc),a9];exact s _ _ j
 ·rw[b0i,<- H.al];exact⟨.inl,λz=>z.elim id λe=>e▸hw⟩
 ·rw[a0f λz=>by rw[z,i]at e;cases e];exact s _ _ (H.sm _ _ e)
def PD.new(H:PD B0 G d A vs kvs)(hw:c.k∉vs)(ht:G t=none):PD B0 (put (put (put G t (.lst [])) d (.dK (putZ kvs (.inr c.k) (.ref t)))) t (.lst [Rw.z ⟨c.r.b,c.r.e,[.tup c.r.w]⟩])) d (A++[c]) (vs++[c.k]) (putZ kvs (.inr c.k) (.ref t)):=by
 have p:=a0h H.at_ ht;have D:=H.no c.k hw;have u:=H.sm.free ht;have n:∀b o,b≠d->G b=some o->put (put (put G t (.lst [])) d (.dK (putZ kvs (.inr c.k) (.ref t)))) t (.lst [Rw.z ⟨c.r.b,c.r.e,[.tup c.r.w]⟩]) b=some o:=λb o F e=>by
  have j:=a0h e ht;rw[a0f j,a0f F,a0f j];exact e
 have j:∀w l,valZ kvs (.inr w)=some (.ref l)->l≠t:=λw l e z=>by
  by_cases cc:w∈vs
  ·obtain⟨y,m,i,_⟩:=H.ln w cc;rw[e]at m;cases m;rw[z,ht]at i;cases i
  ·rw[H.no w cc]at e;cases e
 refine⟨by rw[a0f p,a0a],by rw[a4E D,aG,H.ks,aG];rfl,?_,λw h=>?_,λw h=>?_,λw=>?_,λw v l f g=>?_,λb o e=>?_,H.fr⟩
 ·rw[b5];exact⟨H.nd,by simp,λa B b E z=>hw (by simp_all)⟩
 ·by_cases cc:w=c.k
  ·subst cc;refine⟨t,by rw[a0N,if_pos rfl],?_,u⟩;have J:rowsOf A c.k=[]:=by
    unfold rowsOf;rw[cZ.mpr λx I=>by simpa using λz:x.k=c.k=>hw ((H.al _).mpr ⟨x,I,z⟩)]
    rfl
   rw[a0a,a14,if_pos rfl,J]
   rfl
  ·have s:w∈vs:=by
    rcases au.mp h with q |q
    ·exact q
    ·simp_all
   obtain⟨y,m,i,C⟩:=H.ln w s;refine⟨y,by rw[a0N,if_neg (λz=>cc (by injection z))];exact m,?_,C⟩;rw[n _ _ (λz=>by rw[z,H.at_]at i;cases i) i,a14,if_neg (Ne.symm cc),a9]
 ·rw[au,not_or]at h;rw[a0N,if_neg (λz=>h.2 (by simp_all))];exact H.no w h.1
 ·rw[b0i,<- H.al,au,ay];exact or_congr Iff.rfl ⟨Eq.symm,Eq.symm⟩
 ·rw[a0N]at f g
  split at f<;>split at g
  ·grind
  ·injection f with f;injection f with f;exact absurd f.symm (j _ _ g)
  ·injection g with g;injection g with g;exact absurd g.symm (j _ _ f)
  ·exact H.inj _ _ _ f g
 ·exact n _ _ (λz=>by rw[z,H.fr]at e;cases e) (H.sm _ _ e)
def a2s(a:Ad):P3:=λws G R=>∃(p:Addr)(A:List Cg),ws=[.ref p]/\G p=some (.lst (A.map Cg.z))/\OkC A/\(∀k,Rise (rowsOf A k))/\A.length<=600/\G a.tP=some lamO /\
 ∀(d:Addr)(B:List Cg)(vs:List Str)(kvs:List (Key×Z))(G':Hq),PD G G' d B vs kvs->B.Perm A->(∀k,rowsOf B k=rowsOf A k)->R (.ref d) G'
def a2t(T:Txt K mg base a):Cal P w K mg base CX0 4 "pairs_by_key" (lowP K (a2s a)):=by
 refine fncL 1 (N:=["some","pairs","key","begin","end","then","now"]) T.br (T.f 17 _ rfl) T.lam ?_ (λws G R h=>(by obtain⟨_,_,rfl,_⟩:=h;rfl)) ⟨rfl,rfl,rfl,by decide +kernel,rfl,by decide +kernel,by decide +kernel⟩ (by intro kV doc pm an cdv ct us hl;match us,hl with |[_],_=>rfl)
 intro f c A outer s H E ws G R hcd hr nd h;have hu:=b7m hr;refine⟨_,(a0e (z_st (nmI 1 nd) a8Z)
  (a0e (a2F (pt:=(.tp [2,3,4,5,6])) gi.never rfl (a2b (q_sk (y:="change") (N:=["change"]) (k:=0) (T.b 8) hr (qv 0) rfl hcd T.gP T.bi (λ_ _ _ _ _ _ hr nd=>(by ac_rfl)) ⟨rfl,rfl,rfl,by decide +kernel,rfl,by decide +kernel,by decide +kernel⟩ rfl rfl rfl (λ_ _ _ us hl=>match us,hl with |[_],_=>rfl))) (by ac_rfl)
  (by ac_rfl))
  (by ac_rfl))),?_⟩
 obtain⟨p,A',rfl,gp,ok,ri,hl,gT,q⟩:=h;symm;intro D hD;refine⟨_,rfl,?_⟩;symm;refine b4m ?_;symm;refine⟨p,_,A'.map (·.r.b),rfl,a0b gp hD,by rw[aq];omega,a0b gT hD,by rw[aq,aq],λi w k hw hk=>?_,λt os ht so=>?_⟩
 ·rw[aA]at hw hk;cases hh:A'[i]? with
  |none=>rw[hh]at hw;cases hw
  |some c=>
   rw[hh]at hw hk;cases hw;cases hk;symm;exact a1B at1 ⟨rfl,rfl⟩
 ·obtain⟨B,pm,rfl,hs⟩:=b14 so;have okB:OkC B:=λc hc=>ok c (pm.mem_iff.mp hc);have lB:B.length<=600:=by rw[pm.length_eq];exact hl
  have nDt:D≠t:=a0h a0a ht;have hGt:G t=none:=(Sm.new hD).free ht;have q:=λvs kvs G' H=>q D B vs kvs G' H pm λk=>b0h pm hs k (ri k);have H0:PD (put G t (.lst (B.map Cg.z))) (put (put G D (.dK [])) t (.lst (B.map Cg.z))) D [] [] []:=by
   refine⟨by rw[a0f nDt,a0a],rfl,.nil,(λw h=>by simp at h),λ_ _=>rfl,λw=>by simp,(λw v l e=>by cases e),λb o e=>?_,by rw[a0f nDt];exact hD⟩
   by_cases c:b=t
   ·subst c;rw[a0a]at e ⊢;exact e
   ·rw[a0f c]at e ⊢;exact a0b e hD
  have gB:put G t (.lst (B.map Cg.z)) t=some (.lst (B.map Cg.z)):=a0a;have sB:Sm G (put G t (.lst (B.map Cg.z))):=Sm.new hGt;generalize put G t (.lst (B.map Cg.z))=B0 at H0 gB sB;generalize put (put G D (.dK [])) t (.lst (B.map Cg.z))=G1 at H0 ⊢;symm;refine a09 (H0.sm _ _ gB) ?_;refine a0R (λi σ G'=>Ex7 λ(vs:List Str) (kvs:List (Key×Z)) (v1 v2 v3 v4 v5:Option Z)=>PD B0 G' D (B.take i) vs kvs/\σ=[some (.ref p),some (.ref D),v1,v2,v3,v4,v5]) ⟨_,_,_,_,_,_,_,H0,rfl⟩ (by rintro i σ G' _ ⟨_,_,_,_,_,_,_,H,_⟩;exact H.sm _ _ gB) ?_ ?_
  ·rintro i x σ G2 hx ⟨vs,kvs,v1,v2,v3,v4,v5,H,rfl⟩;rw[aA]at hx;cases hx':B[i]? with
   |none=>rw[hx']at hx;cases hx
   |some c=>
   rw[hx']at hx;cases hx;have hi:=(az.mp hx').1;obtain⟨⟨x,y,e0,fx,fy⟩,hk⟩:=okB c (aL hx');have tk:=take_snoc hx';have lv:=H.short;have lh:=H.len;rw[aK]at lv;have l3:(B.take i).length<=600:=by rw[aK];omega
   rw[tk];generalize B.take i=A0 at H lv l3;obtain⟨k,b,en,w⟩:=c;cases e0;refine⟨_,rfl,?_⟩;symm;refine a49 H.at_ ?_;symm;refine⟨lenK rfl,λt0 ht0=>?_⟩;symm;refine b2u (a0b H.at_ ht0) rfl (a0g (by omega)) (λz hz=>?_) λhz=>?_
   ·have hwv:k∈vs:=by
     by_cases c:k∈vs
     ·exact c
     ·have:=H.no k c;rw[hz]at this;cases this
    obtain⟨l',e1,e2,_⟩:=H.ln k hwv;rw[hz]at e1;cases e1;refine a0V (a0b e2 ht0) ?_;symm;refine⟨lenK rfl,?_⟩;symm;refine⟨lenK rfl,?_⟩;symm;refine a0x (a0b e2 ht0) ?_ ⟨vs,kvs,_,_,_,_,_,H.old (c:=⟨k,⟨b,en,[x,y]⟩⟩) hwv hz (Sm.new ht0),rfl⟩;unfold pr rowsOf;rw[aq,aq,aq];exact a0g (by have:=dG (λc:Cg=>decide (c.k=k)) A0;omega)
   ·have hwv:k∉vs:=λc=>by
     obtain⟨l',e1,_⟩:=H.ln k c;rw[hz]at e1;cases e1
    have ndt:D≠t0:=a0h H.at_ ht0;have gt0:put (put G2 t0 (.lst [])) D (.dK (putZ kvs (.inr k) (.ref t0))) t0=some (.lst []):=by rw[a0f (Ne.symm ndt),a0a]
    refine a0V gt0 ?_;symm;refine⟨lenK rfl,?_⟩;symm;refine⟨lenK rfl,?_⟩;symm;exact a0x gt0 (a0g (by simp)) ⟨vs++[k],putZ kvs (.inr k) (.ref t0),_,_,_,_,_,H.new (c:=⟨k,⟨b,en,[x,y]⟩⟩) hwv ht0,rfl⟩
  ·rintro σ G2 ⟨vs,kvs,v1,v2,v3,v4,v5,H,rfl⟩;rw[aq,bp]at H;symm;exact q vs kvs G2 (H.weak sB)
def a7d(c:Can l)(hr:r∈l):val l r.b=some r.w:=by
 induction l with
 |nil=>cases hr
 |cons s l ih=>
  rw[a0i];rcases ax.mp hr with rfl |hr
  ·rw[if_pos (a4q (c.1 _ (.head _)))]
  ·have z:s.has r.b=false:=by
    cases e:s.has r.b with
    |false=>rfl
    |true=>
     have w:=((aH.mp c.2).1 r hr).lt.has e;rw[a4q (c.1 r (.tail _ hr))]at w;cases w
   rw[z,if_neg (by decide)];exact ih c.tail hr
def a2W(h:r∈rowsOf A k):⟨k,r⟩∈A:=by
 obtain⟨c,d,rfl⟩:=aM.mp h;obtain⟨a,b⟩:=bC.mp d
 have:c.k=k:=by simpa using b
 subst this;exact a
noncomputable def CL.okC(a:CL f g A)(hf:FF f)(hg:FF g):OkC A:=λ_ hc=>a.w2 hf hg hc
def b0j(a:CL f g A)(hf:FF f)(hg:FF g)(k:Str):Pr2 (pr (rowsOf A k)):=λr d=>by
 obtain⟨s,b,rfl⟩:=aM.mp d;obtain⟨⟨x,y,e,h,c⟩,_⟩:=a.okC hf hg _ (a2W b);exact⟨x,y,by show [Z.tup s.w]=_;rw[e],h,c⟩
def PD.get(H:PD B0 G d B vs kvs)(hr:∀k,rowsOf B k=rowsOf A k)(s:Sm G G')(g0:G' t0=some (.lst []))(k:Str) :
  ∃x,(valZ kvs (.inr k)).getD (.ref t0)=.ref x/\G' x=some (.lst ((pr (rowsOf A k)).map Rw.z)):=by
 by_cases c:k∈vs
 ·obtain⟨l,e,f,_⟩:=H.ln k c;exact⟨l,by rw[e];rfl,by rw[<- hr];exact s _ _ f⟩
 ·refine⟨t0,by rw[H.no k c];rfl,?_⟩;have a:rowsOf B k=[]:=by
   unfold rowsOf;rw[cZ.mpr λx b=>by simpa using λz:x.k=k=>c ((H.al _).mpr ⟨x,b,z⟩)]
   rfl
  rw[<- hr,a];exact g0
structure JL (f h:FZ) (k:Str) (l:List Rw):Prop where
 can:Can l
 v:∀t,val l t=dif (f k t) (h k t)
 len:l.length<=600
theorem b0k:∀{ks:List Str},(∀k∈ks,JL f h k (L k))->(cgs ks L).length<=ks.length*600
 |[],_=>by simp[cgs]
 |k::ks,q=>by
  have b:=b0k λx a=>q x (.tail _ a)
  have:=(q k (.head _)).len
  unfold cgs at b ⊢;rw[cq,aJ,aq,aI];omega
def b2K(h:n<=9000):n<=sizeLine:=aD h (by decide)
def a6k(a:Ad):P3:=λws G R=>Ex7 λ(p q:Addr) (A B:List Cg) (f g h:FZ)=>ws=[.ref p,.ref q]/\G p=some (.lst (A.map Cg.z))/\G q=some (.lst (B.map Cg.z))/\CL f g A/\CL g h B/\CB A/\CB B/\FF f/\FF g/\FF h/\G a.tP=some lamO /\
 ∀(t:Addr)(C:List Cg)(G':Hq),G t=none->Sm G G'->G' t=some (.lst (C.map Cg.z))->CL f h C->R (.ref t) G'
def a6l(T:Txt K mg base a):Cal P w K mg base CX0 5 "joined" (lowP K (a6k a)):=by
 refine fnc 2 (N:=["some","others","pairs","other_pairs","told","key"]) T.br (T.f 22 _ rfl) ?_ (len:=λws G R h=>(by obtain⟨_,_,_,_,_,_,_,rfl,_⟩:=h;rfl));walk_at "in";refine⟨_,(a0e (by ac_rfl)
  (a0e (by ac_rfl)
  (a0e (by ac_rfl)
  (a0e (a2F (pt:=(.nm 5)) gi.never rfl (a2b (b4r rfl rfl (T.b 8) rfl rfl (T.b 9) rfl (q_k (qv 2) a0Q) (q_k (qv 3) a0Q) (he:=se_ rfl) (hpl:=hp_ rfl) (he2:=se_ rfl) (hpl2:=hp_ rfl))) (p_nm (nmI 5 nd))
  (by ac_rfl))
  (by ac_rfl))))),?_⟩
 obtain⟨p,q,A',B',f',g',h',rfl,gp,gq,ca,cb,ba,bb,ff,fg,fh,gT,fin⟩:=h;symm;refine⟨p,A',rfl,gp,ca.okC ff fg,λk=>(ca.rows k).1.rise,ba.all,gT,λd1 P1 vs1 kv1 G1 H1 pm1 r1=>?_⟩;symm;refine⟨q,B',rfl,H1.sm _ _ gq,cb.okC fg fh,λk=>(cb.rows k).1.rise,bb.all,H1.sm _ _ gT,λd2 P2 vs2 kv2 G2 H2 pm2 r2=>?_⟩;have H1:=H1.keep H2.sm;have l1:vs1.length<=4:=by
  obtain⟨ns,a1,a2⟩:=ba.ks;exact aD (H1.nd.length_le_of_subset λw hw=>by obtain⟨c,h1,h2⟩:=(H1.al w).mp hw;rw[<- h2];exact a2 c (pm1.mem_iff.mp h1)) a1
 have l2:vs2.length<=4:=by
  obtain⟨ns,a1,a2⟩:=bb.ks;exact aD (H2.nd.length_le_of_subset λw hw=>by obtain⟨c,h1,h2⟩:=(H2.al w).mp hw;rw[<- h2];exact a2 c (pm2.mem_iff.mp h1)) a1
 have sG:=H1.sm;symm;refine⟨lenK rfl,λW hW=>?_⟩;generalize ee:put G2 W _=G3;obtain⟨gW,s3⟩:=newK ee hW;symm;unfold uSSU;symm;refine⟨vs1,⟨d1,kv1,rfl,.inl (s3 _ _ H1.at_),H1.ks,l1⟩,?_⟩;symm;refine⟨vs2,⟨d2,kv2,rfl,.inl (s3 _ _ H2.at_),H2.ks,l2⟩,λt ks ht so nd mem l8=>?_⟩;have ntW:t≠W:=λz=>by rw[z,gW]at ht;cases ht
 generalize ee4:put G3 t _=G4;obtain⟨gt,s4⟩:=newK ee4 ht;have kp:∀G',Kq W G4 G'->Sm G2 G':=λG' k b o e=>k _ _ (s4 _ _ (s3 _ _ e)) (a0h e hW);have gW4:=s4 _ _ gW;have okk:∀k∈ks,nmOk k:=λk hk=>by
  rcases (mem k).mp hk with h |h
  ·obtain⟨c,a1,a2⟩:=(H1.al k).mp h;rw[<- a2];exact (ca.okC ff fg c (pm1.mem_iff.mp a1)).2
  ·obtain⟨c,a1,a2⟩:=(H2.al k).mp h;rw[<- a2];exact (cb.okC fg fh c (pm2.mem_iff.mp a1)).2
 symm;refine a09 gt ?_;refine a0R (λi σ G'=>∃(M:Str->List Rw)(v:Option Z),Kq W G4 G'/\G' W=some (.lst ((cgs (ks.take i) M).map Cg.z))/\(∀k∈ks.take i,JL f' h' k (M k))/\σ=[some (.ref p),some (.ref q),some (.ref d1),some (.ref d2),some (.ref W),v]) ⟨λ_=>[],_,λ_ _ e _=>e,gW4,λk h=>by simp at h,rfl⟩ (by rintro i σ G' _ ⟨_,_,k,_⟩;exact k _ _ gt ntW) ?_ ?_
 ·rintro i x σ G5 hx ⟨M,v,kq,gW5,hM,rfl⟩;have hi:=(az.mp hx).1;rw[aq]at hi;rw[aA]at hx;cases hx':ks[i]? with
  |none=>rw[hx']at hx;cases hx
  |some key=>
  rw[hx']at hx;cases hx;have nkey:key∉ks.take i:=λz=>by
   obtain⟨j,hj,e⟩:=cH.mp z;rw[aK]at hj;rw[eF]at e;obtain⟨h2,e2⟩:=az.mp hx';exact bZ.mp nd j i (by omega) h2 (by omega) (e.trans e2.symm)
  have lD:(cgs (ks.take i) M).length<=4800:=by
   have:=b0k hM
   rw[aK]at this;omega
  have fin2:=λl=>a7c (L:=M) (l:=l) nkey;rw[<- take_snoc hx']at fin2;generalize cgs (ks.take i) M=D0 at gW5 lD fin2;refine⟨_,rfl,?_⟩;symm;refine a0V gW5 ?_;symm;refine a49 (kp _ kq _ _ H1.at_) ?_;symm;refine⟨lenK rfl,λt1 ht1=>?_⟩;generalize ee6:put G5 t1 _=G6;obtain⟨g1,s6⟩:=newK ee6 ht1;obtain⟨x1,e1,gx1⟩:=H1.get r1 ((kp _ kq).trans s6) g1 key;symm;refine a3L (s6 _ _ (kp _ kq _ _ H1.at_)) rfl ?_;rw[e1];symm;refine a49 (s6 _ _ (kp _ kq _ _ H2.at_)) ?_;symm;refine⟨lenK rfl,λt2 ht2=>?_⟩;generalize ee7:put G6 t2 _=G7;obtain⟨g2,s7⟩:=newK ee7 ht2;obtain⟨x2,e2,gx2⟩:=H2.get r2 (((kp _ kq).trans s6).trans s7) g2 key;symm;refine a3L (s7 _ _ (s6 _ _ (kp _ kq _ _ H2.at_))) rfl ?_;rw[e2];symm;have la:=ba.ln key;have lb:=bb.ln key;have ra:=ca.rows key;have rb:=cb.rows key;have p1:=b0j ca ff fg key;have p2:=b0j cb fg fh key;refine⟨x1,x2,pr (rowsOf A' key),pr (rowsOf B' key),rfl,s7 _ _ gx1,gx2,a1W (h:=λw=>[.tup w]) ra.1.rise,p1,a1W (h:=λw=>[.tup w]) rb.1.rise,p2,by unfold pr;rw[aq];exact la,by unfold pr;rw[aq];exact lb,λu bs G8 hu s8 hb hbl gu=>?_⟩;have pk:=b7y ra.2 rb.2 hb;have uk:=b7z ra.2 rb.2 hb;have wk:∀r∈pj (pr (rowsOf A' key)) (pr (rowsOf B' key)) bs,W2 r:=λr hr=>by
   have:=a7d pk.1 hr
   rw[pk.2.1]at this
   split at this
   ·cases this
   ·exact⟨_,_,(aN.inj this).symm,ff _ _,fh _ _⟩
  have lu:(unl (pj (pr (rowsOf A' key)) (pr (rowsOf B' key)) bs)).length<=600:=aD (dG _ _) (by omega);symm;refine⟨key,u,_,rfl,gu,wk,by omega,λy hy=>?_⟩;generalize ee9:put G8 y _=G9;obtain⟨gy,s9⟩:=newK ee9 hy;have s59:Sm G5 G9:=((s6.trans s7).trans s8).trans s9;have nyW:y≠W:=λz=>by rw[z,s8 _ _ (s7 _ _ (s6 _ _ gW5))]at hy;cases hy
  generalize unl (pj (pr (rowsOf A' key)) (pr (rowsOf B' key)) bs)=U at gy uk lu;symm;refine a4c (s59 _ _ gW5) gy (by rw[aq,aq,aq];exact b2K (by omega)) ?_;refine⟨λx=>if x=key then U else M x,_,λb o e nb=>by rw[a0f nb];exact s59 _ _ (kq _ _ e nb),?_,λk hk=>?_,rfl⟩
  ·rw[a0a,fin2 U,aG]
  ·rw[take_snoc hx']at hk
   show JL f' h' k (if k=key then U else M k)
   by_cases c:k=key
   ·rw[if_pos c,c];exact⟨uk.1,uk.2,lu⟩
   ·rw[if_neg c];rcases au.mp hk with hk |hk
    ·exact hM k hk
    ·exact absurd (ay.mp hk) c
 ·rintro σ G5 ⟨M,v,kq,gW5,hM,rfl⟩;rw[aq,bp]at gW5 hM;symm;refine fin W (cgs ks M) G5 (sG.free hW) (sG.trans (kp _ kq)) gW5 ⟨ks,λk=>if k∈ks then M k else [],a13 λk hk=>(if_pos hk).symm,b1P so,nd,λk hk=>if_neg hk,okk,λk=>?_⟩
  show Can (if k∈ks then M k else [])/\∀t,val (if k∈ks then M k else []) t=_
  by_cases c:k∈ks
  ·rw[if_pos c];exact⟨(hM k c).can,(hM k c).v⟩
  ·rw[if_neg c];refine⟨Can.nil,λt=>?_⟩;have n1:rowsOf A' k=[]:=by
    cases e:rowsOf A' k with
    |nil=>rfl
    |cons r l=>exact absurd ((mem k).mpr (.inl ((H1.al k).mpr ⟨⟨k,r⟩,pm1.mem_iff.mpr (a2W (by rw[e];exact .head _)),rfl⟩))) c
   have n2:rowsOf B' k=[]:=by
    cases e:rowsOf B' k with
    |nil=>rfl
    |cons r l=>exact absurd ((mem k).mpr (.inr ((H2.al k).mpr ⟨⟨k,r⟩,pm2.mem_iff.mpr (a2W (by rw[e];exact .head _)),rfl⟩))) c
   have a1:=(ca.rows k).2 t;have a2:=(cb.rows k).2 t;rw[n1]at a1;rw[n2]at a2;have b1:f' k t=g' k t:=by
    unfold dif at a1
    split at a1
    ·assumption
    ·cases a1
   have b2:g' k t=h' k t:=by
    unfold dif at a2
    split at a2
    ·assumption
    ·cases a2
   exact (if_pos (b1.trans b2)).symm
noncomputable def insI(x:Int):List Int->List Int
 |[]=>[x]
 |y::ys=>if x<y then x::y::ys else if x=y then y::ys else y::insI x ys
theorem mem_insI:∀{l:List Int},z∈insI x l↔z=x\/z∈l
 |[]=>by simp[insI]
 |y::ys=>by
  unfold insI
  split
  ·simp
  ·split
   ·simp_all
   ·rw[ax,mem_insI,ax,or_left_comm]
theorem b0l:∀{l:List Int},l.Pairwise (·<·)->(insI x l).Pairwise (·<·)
 |[],_=>by simp[insI]
 |y::ys,h=>by
  obtain⟨e,f⟩:=aH.mp h;unfold insI
  split
  ·next c=>exact aH.mpr ⟨λz a=>by rcases ax.mp a with rfl |a;exact c;have:=e z a;omega,h⟩
  ·split
   ·omega
   ·next c d=>exact aH.mpr ⟨λz a=>by rcases mem_insI.mp a with rfl |a;omega;exact e z a,b0l f⟩
def a5w(rows:List Rw):∃bs,a0G rows bs:=by
 have g:∀c:List Int,∃a:List Int,a.Pairwise _/\∀x,x∈a↔x∈c:=λc=>by
  induction c with
  |nil=>exact⟨[],.nil,λ_=>Iff.rfl⟩
  |cons x c ih=>
   obtain⟨a,d,f⟩:=ih;exact⟨insI x a,b0l d,λz=>by rw[mem_insI,f,ax]⟩
 obtain⟨a,d,f⟩:=g _;exact⟨a,a3f d f⟩
def b2L(c:CL (fT T n) (fT T m) C)(h:T.length<=63)(k:Str):(rowsOf C k).length<=126:=by
 obtain⟨b,a⟩:=a5w (putsK _ k++putsK _ k);have d:=b7x a;rw[a3b (c.rows k).1 d.1 λt=>by rw[(c.rows k).2,d.2.1];rfl];exact aD d.2.2 (b12 a h)
def a7e{T:List Tl}(h:∀τ∈T,τ.key≠k):putsK (T.take i) k=[]:=by
 unfold putsK;rw[cZ.mpr fun τ a=>by simpa using h τ (bf a)]
 rfl
def a5x{nms:List Str}(c:CL (fT T n) (fT T m) C)(h:T.length<=63)(hn:nms.length=4)(hk:∀τ∈T,τ.key∈nms):CB C:=by
 have u:∀k,rowsOf C k≠[]->k∈nms:=λk q=>Classical.byContradiction λz=>q (by
  refine a3b (c.rows k).1 Can.nil λt=>?_;rw[(c.rows k).2];unfold fT;have p:=λi=>a7e (k:=k) (i:=i) fun τ G e=>z (e▸hk τ G);rw[p,p];exact if_pos rfl)
 have w:=λk=>aD (b2L c h k) (by decide:126<=150);have v:=c;obtain⟨b,L,rfl,H,o,J,_,M⟩:=v;have l:=λk=>a68 (L:=L) o k;have g:∀k∈b,rowsOf _ k=L k:=λk q=>by rw[l,if_pos q]
 refine⟨⟨nms,by omega,λd D=>?_⟩,w,?_⟩
 ·obtain⟨k,j,f⟩:=eD.mp D;obtain⟨r,F,rfl⟩:=aM.mp f;exact u k (by rw[g k j];exact List.ne_nil_of_mem F)
 ·rw[b0a];have I:(b.filter λk=>!(L k).isEmpty).length<=4:=by
   rw[<- hn];refine (o.sublist cn).length_le_of_subset λk q=>?_;obtain⟨j,f⟩:=bC.mp q;exact u k (by simp_all)
  have B:∀a:List Str,(∀k∈a,k∈b)->(cgs a L).length<=a.length*126:=λa s=>by
   induction a with
   |nil=>simp[cgs]
   |cons k a ih=>
    have A:=ih λx y=>s x (.tail _ y);have E:=b2L c h k;rw[g k (s k (.head _))]at E;unfold cgs at A ⊢;rw[cq,aJ,aq,aI];omega
  have:=B (b.filter λk=>!(L k).isEmpty) λk q=>(bC.mp q).1
  omega
def b15{f g:Int->Z}(hl:∀t,wz (val l t)=f t)(ho:∀t,wz (val o t)=g t)(hb:a0G (l++o) bs) :
  Can (unl (join (pcs (laidF l o) bs)))/\∀t,val (unl (join (pcs (laidF l o) bs))) t=dif (f t) (g t):=by
 have q:=laid_ok hb;refine⟨a3T q.1,λt=>?_⟩;unfold unl;rw[a2l q.1.rise,q.2.1];unfold laidF dif;rw[hl,ho]
 by_cases a:f t=.non/\g t=.non
 ·simp_all
 ·rw[if_neg a]
  by_cases c:f t=g t<;>simp[dI,unW]
def b0m(ok:OkT T)(k:Str):∃L,IsLine T k L:=by
 obtain⟨f,b⟩:=a5w _;have a:=b4z b;refine⟨_,a.1,a4A (a3S ok) a.2.2.2,?_,a.2.1⟩;have e:=a2p b λr d=>d;have c:=a4L (T:=T) (k:=k) (j:=T.length);rw[bp]at c;omega
def none_of(ok:OkT T)(ka:KeysAt T ts)(c:k∉ts)(t:Int):optW (lastAt (putsK T k) t)=none:=by
 obtain⟨L,a⟩:=b0m ok k;cases L with
 |nil=>rw[<- a.v];rfl
 |cons r L=>exact absurd ((ka.is k).mpr ⟨_,a,by simp⟩) c
def TabD.get(H:TabD G d T ts kvs)(ok:OkT T)(s:Sm G G')(g0:G' t0=some (.lst []))(k:Str) :
  ∃x L,(valZ kvs (.inr k)).getD (.ref t0)=.ref x/\G' x=some (.lst (L.map Rw.z))/\IsLine T k L:=by
 by_cases c:k∈ts
 ·obtain⟨l,L,a,b,e⟩:=H.ln k c;exact⟨l,L,by rw[a];rfl,s _ _ b,e⟩
 ·exact⟨t0,[],by rw[H.no k c];rfl,g0,Can.nil,Plain.nil,by simp,λt=>by rw[none_of ok H.ka c];rfl⟩
def TabD.few{ts nms:List Str}(H:TabD G d T ts kvs)(hn:nms.length=4)(hk:∀τ∈T,τ.key∈nms):ts.length<=4:=by
 rw[<- hn];refine H.ka.nd.length_le_of_subset λk q=>Classical.byContradiction λz=>?_;obtain⟨L,a,c⟩:=(H.ka.is k).mp q;refine c (a.uniq (IsLine.nil ?_))
 have:=a7e (k:=k) (i:=T.length) fun τ b e=>z (e▸hk τ b)
 rwa [bp]at this
def Plain.p1(h:Plain l):Pair1 l:=λr a=>let ⟨x,e,f⟩:=h r a;⟨x,e,a0q (by simp) f⟩
def a5y(a:Ad):P3:=λws G R=>Ex6 λ(p:Addr) (S:Addr->Prop) (T:List Tl) (nms:List Str) (n m:Int)=>ws=[.ref p,.int n,.int m]/\Sheet a G p S T/\OkT T/\T.length<=63/\nms.length=4/\(∀τ∈T,τ.key∈nms)/\inR T n/\inR T m /\
 ∀(t:Addr)(C:List Cg)(G':Hq),G t=none->Sm G G'->G' t=some (.lst (C.map Cg.z))->CL (fT T n) (fT T m) C->R (.ref t) G'
def a5z(T:Txt K mg base a):Cal P w K mg base CX0 5 "changes" (lowP K (a5y a)):=by
 refine fnc 3 (N:=["sheet","knowing","later","table","later_table","told","key"]) T.br (T.f 16 _ rfl) ?_ (len:=λws G R h=>(by obtain⟨_,_,_,_,_,_,rfl,_⟩:=h;rfl));walk_at "in";refine⟨_,(a0e (by ac_rfl)
  (a0e (by ac_rfl)
  (a0e (by ac_rfl)
  (a0e (a2F (pt:=(.nm 6)) gi.never rfl (a2b (b4r rfl rfl (T.b 8) rfl rfl (T.b 9) rfl (q_k (qv 3) a0Q) (q_k (qv 4) a0Q) (he:=se_ rfl) (hpl:=hp_ rfl) (he2:=se_ rfl) (hpl2:=hp_ rfl))) (p_nm (nmI 6 nd))
  (by ac_rfl))
  (by ac_rfl))))),?_⟩
 obtain⟨p,S,T',nms,n,m,rfl,sh,ok,hl,hn,hk,r1,r2,fin⟩:=h;have few:Few T':=⟨by omega,nms,by omega,hk⟩;have ok1:OkT (T'.take n.toNat):=fun τ h=>ok τ (bf h);have ok2:OkT (T'.take m.toNat):=fun τ h=>ok τ (bf h);symm;refine⟨p,S,T',n,rfl,sh,ok,few,r1,λd1 ts1 kv1 G1 hd1 s1 H1 _=>?_⟩;symm;refine⟨p,S,T',m,rfl,sh.keep (Sm.ks s1),ok,few,r2,λd2 ts2 kv2 G2 hd2 s2 H2 _=>?_⟩
 replace H1:=H1.keep s2
 have l1:=H1.few hn fun τ h=>hk τ (bf h);have l2:=H2.few hn fun τ h=>hk τ (bf h);have sG:=s1.trans s2;symm;refine⟨lenK rfl,λW hW=>?_⟩;generalize ee:put G2 W _=G3;obtain⟨gW,s3⟩:=newK ee hW;symm;unfold uSSU;symm;refine⟨ts1,⟨d1,kv1,rfl,.inl (s3 _ _ H1.at_),H1.ks,l1⟩,?_⟩;symm;refine⟨ts2,⟨d2,kv2,rfl,.inl (s3 _ _ H2.at_),H2.ks,l2⟩,λt ks ht so nd mem l8=>?_⟩;have ntW:t≠W:=λz=>by rw[z,gW]at ht;cases ht
 generalize ee4:put G3 t _=G4;obtain⟨gt,s4⟩:=newK ee4 ht;have kp:∀G',Kq W G4 G'->Sm G2 G':=λG' k b o e=>k _ _ (s4 _ _ (s3 _ _ e)) (a0h e hW);have gW4:=s4 _ _ gW;have okk:∀k∈ks,nmOk k:=λk hk=>by
  rcases (mem k).mp hk with h |h
  ·exact a6e ok1 ((H1.ka.is k).mp h)
  ·exact a6e ok2 ((H2.ka.is k).mp h)
 symm;refine a09 gt ?_;refine a0R (λi σ G'=>∃(M:Str->List Rw)(v:Option Z),Kq W G4 G'/\G' W=some (.lst ((cgs (ks.take i) M).map Cg.z))/\(∀k∈ks.take i,JL (fT T' n) (fT T' m) k (M k))/\σ=[some (.ref p),some (.int n),some (.int m),some (.ref d1),some (.ref d2),some (.ref W),v]) ⟨λ_=>[],_,λ_ _ e _=>e,gW4,λk h=>by simp at h,rfl⟩ (by rintro i σ G' _ ⟨_,_,k,_⟩;exact k _ _ gt ntW) ?_ ?_
 ·rintro i x σ G5 hx ⟨M,v,kq,gW5,hM,rfl⟩;have hi:=(az.mp hx).1;rw[aq]at hi;rw[aA]at hx;cases hx':ks[i]? with
  |none=>rw[hx']at hx;cases hx
  |some key=>
  rw[hx']at hx;cases hx;have nkey:key∉ks.take i:=λz=>by
   obtain⟨j,hj,e⟩:=cH.mp z;rw[aK]at hj;rw[eF]at e;obtain⟨h2,e2⟩:=az.mp hx';exact bZ.mp nd j i (by omega) h2 (by omega) (e.trans e2.symm)
  have lD:(cgs (ks.take i) M).length<=4800:=by
   have:=b0k hM
   rw[aK]at this;omega
  have fin2:=λl=>a7c (L:=M) (l:=l) nkey;rw[<- take_snoc hx']at fin2;generalize cgs (ks.take i) M=D0 at gW5 lD fin2;refine⟨_,rfl,?_⟩;symm;refine a0V gW5 ?_;symm;refine a49 (kp _ kq _ _ H1.at_) ?_;symm;refine⟨lenK rfl,λt1 ht1=>?_⟩;generalize ee6:put G5 t1 _=G6;obtain⟨g1,s6⟩:=newK ee6 ht1;obtain⟨x1,L1,e1,gx1,il1⟩:=H1.get ok1 ((kp _ kq).trans s6) g1 key;symm;refine a3L (s6 _ _ (kp _ kq _ _ H1.at_)) rfl ?_;rw[e1];symm;refine a49 (s6 _ _ (kp _ kq _ _ H2.at_)) ?_;symm;refine⟨lenK rfl,λt2 ht2=>?_⟩;generalize ee7:put G6 t2 _=G7;obtain⟨g2,s7⟩:=newK ee7 ht2;obtain⟨x2,L2,e2,gx2,il2⟩:=H2.get ok2 (((kp _ kq).trans s6).trans s7) g2 key;symm;refine a3L (s7 _ _ (s6 _ _ (kp _ kq _ _ H2.at_))) rfl ?_;rw[e2];symm;have la:=il1.len;have lb:=il2.len;rw[aK]at la lb;refine⟨x1,x2,L1,L2,rfl,s7 _ _ gx1,gx2,il1.can.rise,il1.pl.p1,il2.can.rise,il2.pl.p1,by omega,by omega,λu bs G8 hu s8 hb hbl gu=>?_⟩;have v1:∀t,wz (val L1 t)=fT T' n key t:=λt=>by rw[il1.v,a6a];rfl
  have v2:∀t,wz (val L2 t)=fT T' m key t:=λt=>by rw[il2.v,a6a];rfl
  have uk:=b15 v1 v2 hb;have pl:=(laid_ok hb).2.2;have wk:∀r∈join (pcs (laidF L1 L2) bs),W2 r:=λr hr=>by
   obtain⟨t,e,_⟩:=b0g hb hr;rw[v1,v2]at e;exact⟨_,_,e,a6h ok _ _,a6h ok _ _⟩
  have lu:(unl (join (pcs (laidF L1 L2) bs))).length<=600:=aD (dG _ _) (by omega);symm;refine⟨key,u,_,rfl,gu,wk,by omega,λy hy=>?_⟩;generalize ee9:put G8 y _=G9;obtain⟨gy,s9⟩:=newK ee9 hy;have s59:Sm G5 G9:=((s6.trans s7).trans s8).trans s9;generalize unl (join (pcs (laidF L1 L2) bs))=U at gy uk lu;symm;refine a4c (s59 _ _ gW5) gy (by rw[aq,aq,aq];exact b2K (by omega)) ?_;refine⟨λx=>if x=key then U else M x,_,λb o e nb=>by rw[a0f nb];exact s59 _ _ (kq _ _ e nb),?_,λk hk=>?_,rfl⟩
  ·rw[a0a,fin2 U,aG]
  ·rw[take_snoc hx']at hk
   show JL _ _ k (if k=key then U else M k)
   by_cases c:k=key
   ·rw[if_pos c,c];exact⟨uk.1,uk.2,lu⟩
   ·rw[if_neg c];rcases au.mp hk with hk |hk
    ·exact hM k hk
    ·exact absurd (ay.mp hk) c
 ·rintro σ G5 ⟨M,v,kq,gW5,hM,rfl⟩;rw[aq,bp]at gW5 hM;symm;refine fin W (cgs ks M) G5 (sG.free hW) (sG.trans (kp _ kq)) gW5 ⟨ks,λk=>if k∈ks then M k else [],a13 λk hk=>(if_pos hk).symm,b1P so,nd,λk hk=>if_neg hk,okk,λk=>?_⟩
  show Can (if k∈ks then M k else [])/\∀t,val (if k∈ks then M k else []) t=_
  by_cases c:k∈ks
  ·rw[if_pos c];exact⟨(hM k c).can,(hM k c).v⟩
  ·rw[if_neg c];refine⟨Can.nil,λt=>?_⟩;have n1:=none_of ok1 H1.ka (k:=k) (λz=>c ((mem k).mpr (.inl z))) t;have n2:=none_of ok2 H2.ka (k:=k) (λz=>c ((mem k).mpr (.inr z))) t;have z:∀x:Z,optW x=none->x=.non:=λx h=>by
    unfold optW at h
    split at h
    ·assumption
    ·cases h
   exact (if_pos ((z _ n1).trans (z _ n2).symm)).symm
def b7J{A B:Prop}(h:A):if (!false)=true then A else B:=h
def b9B{A B:Prop}(h:B):if (!true)=true then A else B:=h
local macro_rules | `(tactic| walk_at "go1")=>`(tactic| with_reducible first | apply b7J | apply b9B)
theorem a7f:∀{l:List Rw},Rise l->val (l.filterMap λr=>(h r.w).map λw=>(⟨r.b,r.e,w⟩:Rw)) t=(val l t).bind h
 |[],_=>rfl
 |r::l,g=>by
  rw[bE,a0i];have a:=a7f (h:=h) (t:=t) g.tail
  by_cases c:r.has t=true
  ·rw[if_pos c];have n:=a04 λs d=>((aH.mp g.2).1 s d).has c;rw[n]at a;cases e:h r.w with
   |none=>exact a.trans e.symm
   |some w=>
    show val (_::_) t=h r.w
    rw[a0i,if_pos (show (Rw.mk r.b r.e w).has t=true from c),e]
  ·rw[if_neg c];cases e:h r.w with
   |none=>exact a
   |some w=>
    show val (_::_) t=_
    rw[a0i,if_neg (show ¬ (Rw.mk r.b r.e w).has t=true from c),a]
def b0n{h:List Z->Option (List Z)}(g:Rise l):Rise (l.filterMap λr=>(h r.w).map λw=>(⟨r.b,r.e,w⟩:Rw)):=by
 have i:∀r c:Rw,(h r.w).map (λw=>(⟨r.b,r.e,w⟩))=some c->c.b=r.b/\c.e=r.e:=λr c e=>by
  cases q:h r.w with
  |none=>rw[q]at e;cases e
  |some w=>rw[q]at e;cases e;exact⟨rfl,rfl⟩
 refine⟨λr m=>?_,b4x (λr s c p q d f=>?_) g.2⟩
 ·obtain⟨s,k,e⟩:=bU.mp m;obtain⟨d,f⟩:=i s r e
  have:=g.1 s k
  unfold Rw.good at *;rw[d,f];exact this
 ·obtain⟨x,a,b⟩:=q;obtain⟨o,n⟩:=i _ _ d;obtain⟨j,t⟩:=i _ _ f;exact⟨x,by rw[n];exact a,by rw[j];exact b⟩
noncomputable def nwW:List Z->Option (List Z)
 |[x,y]=>optW (if y=.non then x else sndZ y)
 |_=>none
noncomputable def lch(l o:List Rw)(bs:List Int):List Rw:=join ((join (pcs (laidF l o) bs)).filterMap λr=>(nwW r.w).map λw=>⟨r.b,r.e,w⟩)
def b7K{f g:Int->Z}(hl:∀t,wz (val l t)=f t)(ho:∀t,val o t=dif (f t) (g t))(hb:a0G (l++pr o) bs) :
  Can (lch l (pr o) bs)/\(∀t,val (lch l (pr o) bs) t=optW (g t))/\(lch l (pr o) bs).length<=bs.length:=by
 have q:=laid_ok hb;have j:=a2h (b0n (h:=nwW) q.1.rise);refine⟨j.1,λt=>?_,aD j.2.2.1 (aD (bW _ _) q.2.2)⟩
 show val (join _) t=_
 rw[j.2.1,a7f q.1.rise,q.2.1];unfold laidF;rw[hl,a99 (ho t)]
 by_cases a:f t=g t
 ·rw[if_pos a]
  by_cases b:f t=.non
  ·rw[if_pos ⟨b,rfl⟩,<- a,b];rfl
  ·rw[if_neg λz=>b z.1,<- a];simp[nwW]
 ·rw[if_neg a,if_neg λz=>nomatch z.2];simp[nwW,sndZ]
def b9C{x y:Z}{w:List Z}(h:nwW [x,if x=y then .non else .tup [x,y]]=some w):w=[y]:=by
 by_cases c:x=y
 ·subst c;simp[nwW,optW]at h;exact h.2.symm
 ·simp[nwW,optW,c]at h;exact h.2.symm
def a2u:P3:=λws G R=>Ex6 λ(p q:Addr) (l o:List Rw) (f g:Int->Z)=>ws=[.ref p,.ref q]/\G p=some (.lst (l.map Rw.z))/\G q=some (.lst ((pr o).map Rw.z))/\Rise l/\Plain l/\Can o/\Pr2 (pr o)/\l.length<=150/\o.length<=150/\(∀t,wz (val l t)=f t)/\(∀t,val o t=dif (f t) (g t))/\(∀t,flat 0 (f t)=true/\flat 0 (g t)=true) /\
 ∀(t:Addr)(L:List Rw)(G':Hq),G t=none->Sm G G'->G' t=some (.lst (L.map Rw.z))->Can L->(∀t,val L t=optW (g t))->Plain L->L.length<=600->R (.ref t) G'
def a2v(T:Txt K mg base a):Cal P w K mg base CX0 4 "line_changed" (lowP K a2u):=by
 refine fnc 2 (N:=["line","pairs","pieces","begin","end","worth","pair","now"]) T.br (T.f 18 _ rfl) ?_ (len:=λws G R h=>(by obtain⟨_,_,_,_,_,_,rfl,_⟩:=h;rfl));walk_at "in";refine⟨_,(a0e (by ac_rfl)
  (a0e (a2F (pt:=(.tp [3,4,5,6])) gi.never rfl (by ac_rfl) (by ac_rfl)
  (a0e (z_if (by ac_rfl)
  (a0D a4a)
  a4W)
  (by ac_rfl)))
  (by ac_rfl))),?_⟩
 obtain⟨p,q,l,o,f',g',rfl,gp,gq,rl,pl,co,po,zl,zo,vl,vo,ff,fin⟩:=h;symm;refine⟨lenK rfl,λW hW=>?_⟩;generalize ee:put G W _=G1;obtain⟨gW,s1⟩:=newK ee hW;symm;refine⟨p,q,l,pr o,rfl,s1 _ _ gp,s1 _ _ gq,rl,pl.p1,a1W (h:=λw=>[.tup w]) co.rise,po.p1,zl,by unfold pr;rw[aq];exact zo,λu bs G2 hu s2 hb hbl gu=>?_⟩;have gW2:=s2 _ _ gW;have nuW:u≠W:=λz=>by rw[z,gW]at hu;cases hu
 have lk:=b7K vl vo hb;have LW:=λ(r:Rw) (hr:r∈join (pcs (laidF l (pr o)) bs))=>b0g hb hr;have LL:=(laid_ok hb).2.2;have hbl:bs.length<=600:=by
  unfold pr at hbl;rw[aq]at hbl;omega
 unfold lch at lk;generalize join (pcs (laidF l (pr o)) bs)=J at gu LW LL lk;symm;refine a09 gu ?_;refine a0R (λi σ G'=>Ex5 λ(v1 v2 v3 v4 v5:Option Z)=>Kq W G2 G'/\G' W=some (.lst (((J.take i).filterMap λr=>(nwW r.w).map λw=>(⟨r.b,r.e,w⟩:Rw)).map Rw.z))/\σ=[some (.ref p),some (.ref q),some (.ref W),v1,v2,v3,v4,v5]) ⟨_,_,_,_,_,λ_ _ e _=>e,gW2,rfl⟩ (by rintro i σ G' _ ⟨_,_,_,_,_,k,_⟩;exact k _ _ gu nuW) ?_ ?_
 ·rintro i x σ G3 hx ⟨v1,v2,v3,v4,v5,kq,gW3,rfl⟩;rw[aA]at hx;cases hx':J[i]? with
  |none=>rw[hx']at hx;cases hx
  |some r=>
  rw[hx']at hx;cases hx;have hi:=(az.mp hx').1;obtain⟨t,e,c⟩:=LW r (aL hx');rw[vl,a99 (vo t)]at e c;have tk:((J.take (i+1)).filterMap λr=>(nwW r.w).map λw=>(⟨r.b,r.e,w⟩:Rw))=((J.take i).filterMap λr=>(nwW r.w).map λw=>(⟨r.b,r.e,w⟩:Rw))++((nwW r.w).map λw=>(⟨r.b,r.e,w⟩:Rw)).toList:=by
   rw[take_snoc hx',eP]
   congr 1
  have lt:((J.take i).filterMap λr=>(nwW r.w).map λw=>(⟨r.b,r.e,w⟩:Rw)).length<=600:=aD (bW _ _) (by rw[aK];omega);generalize ((J.take i).filterMap λr=>(nwW r.w).map λw=>(⟨r.b,r.e,w⟩:Rw))=P0 at gW3 tk lt;rw[e]at tk;obtain⟨b,en,w⟩:=r;cases e;have fl:=ff t;have app:∀(x:Z)(v1 v2 v3 v4 v5:Option Z),nwW [f' t,if f' t=g' t then .non else .tup [f' t,g' t]]=some [x]->a2e (.ref W) [.tup [.int b,oz en,x]] G3 (λ_ G'=>Ex5 λ(u1 u2 u3 u4 u5:Option Z)=>Kq W G2 G'/\G' W=some (.lst (((J.take (i+1)).filterMap λr=>(nwW r.w).map λw=>(⟨r.b,r.e,w⟩:Rw)).map Rw.z))/\([some (.ref p),some (.ref q),some (.ref W),v1,v2,v3,v4,v5]:S3)=[some (.ref p),some (.ref q),some (.ref W),u1,u2,u3,u4,u5]):=λx v1 v2 v3 v4 v5 ew=>by
   refine a0x gW3 (by rw[aq];exact a0g (by omega)) ⟨_,_,_,_,_,λb o e1 nb=>by rw[a0f nb];exact kq b o e1 nb,?_,rfl⟩;rw[a0a,tk,ew,aG]
   rfl
  have non:∀(v1 v2 v3 v4 v5:Option Z),nwW [f' t,if f' t=g' t then .non else .tup [f' t,g' t]]=none->Ex5 λ(u1 u2 u3 u4 u5:Option Z)=>Kq W G2 G3/\G3 W=some (.lst (((J.take (i+1)).filterMap λr=>(nwW r.w).map λw=>(⟨r.b,r.e,w⟩:Rw)).map Rw.z))/\([some (.ref p),some (.ref q),some (.ref W),v1,v2,v3,v4,v5]:S3)=[some (.ref p),some (.ref q),some (.ref W),u1,u2,u3,u4,u5]:=λv1 v2 v3 v4 v5 ew=>
   ⟨_,_,_,_,_,kq,by rw[tk,ew];simpa using gW3,rfl⟩
  refine⟨_,rfl,?_⟩
  by_cases eq:f' t=g' t
  ·rw[if_pos eq]at app non c ⊢;have fn:f' t≠.non:=λz=>c ⟨z,rfl⟩;symm;refine ifN (λ_=>?_) λz=>absurd z fn;symm;refine a0V gW3 ?_;symm;refine⟨lenK rfl,?_⟩;symm;exact app (f' t) _ _ _ _ _ (by simp[nwW,optW,fn])
  ·rw[if_neg eq]at app non c ⊢;symm;refine a96 (a0q (by decide) fl.1) (a0q (by decide) fl.1) ?_;rw[decide_eq_true rfl];symm;refine ifN (λgn=>?_) λgn=>?_
   ·symm;refine a0V gW3 ?_;symm;refine⟨lenK rfl,?_⟩;symm;exact app (g' t) _ _ _ _ _ (by simp[nwW,optW,sndZ,gn])
   ·symm;exact non _ _ _ _ _ (by simp[nwW,optW,sndZ,gn])
 ·rintro σ G3 ⟨v1,v2,v3,v4,v5,kq,gW3,rfl⟩;rw[aq,bp]at gW3;symm;have s3:Sm G G3:=λb o e=>kq b o (s2 _ _ (s1 _ _ e)) (a0h e hW);have w1:∀r∈J.filterMap (λr=>(nwW r.w).map λw=>(⟨r.b,r.e,w⟩:Rw)),∃x,r.w=[x]/\flat 0 x=true:=λr hr=>by
   obtain⟨s,hs,e⟩:=bU.mp hr;obtain⟨t,e1,c⟩:=LW s hs;rw[vl,a99 (vo t)]at e1;cases q:nwW s.w with
   |none=>rw[q]at e;cases e
   |some w=>
    rw[q]at e;cases e;rw[e1]at q;exact⟨_,b9C q,(ff t).2⟩
  refine⟨W,_,rfl,gW3,λr hr=>?_,aD (bW _ _) (by omega),λz hz=>fin z _ _ (s3.free hz) (s3.trans (Sm.new hz)) a0a lk.1 lk.2.1 (λr hr=>?_) (aD lk.2.2 hbl)⟩
  ·obtain⟨x,e,f⟩:=w1 r hr;refine⟨by rw[e];simp,?_⟩;rw[e,aS,a0q (by decide) f];rfl
  ·obtain⟨t,e⟩:∃t,optW (g' t)=some r.w:=⟨r.b,by rw[<- lk.2.1];exact a7d lk.1 hr⟩;unfold optW at e
   split at e
   ·cases e
   ·exact⟨_,(aN.inj e).symm,(ff t).2⟩
structure TabF (G:Hq) (d:Addr) (f:FZ) (ts:List Str) (kvs:List (Key×Z)):Prop where
 at_:G d=some (.dK kvs)
 ks:kvs.map (·.1)=ts.map (λs=>(Sum.inr s:Key))
 nd:ts.Nodup
 so:ts.Pairwise leS
 ln:∀k∈ts,∃l L,valZ kvs (.inr k)=some (.ref l)/\G l=some (.lst (L.map Rw.z))/\Can L/\Plain L/\L≠[]/\∀t,val L t=optW (f k t)
 no:∀k,k∉ts->valZ kvs (.inr k)=none/\∀t,f k t=.non
def a5A(a:Ad):P3:=λws G R=>Ex9 λ(d q:Addr) (B:List Cg) (T:List Tl) (nms ts:List Str) (kvs:List (Key×Z)) (f g:FZ)=>ws=[.ref d,.ref q]/\TabD G d T ts kvs/\OkT T/\T.length<=63/\ts.length<=4/\(∀k t,f k t=lastAt (putsK T k) t)/\G q=some (.lst (B.map Cg.z))/\CL f g B/\CB B/\FF f/\FF g/\G a.tP=some lamO /\
 ∀(W:Addr)(us:List Str)(kv:List (Key×Z))(G':Hq),G W=none->Sm G G'->TabF G' W g us kv->R (.ref W) G'
def a5B(T:Txt K mg base a):Cal P w K mg base CX0 5 "changed" (lowP K (a5A a)):=by
 refine fnc 2 (N:=["tables","some","pairs","told","key","line"]) T.br (T.f 19 _ rfl) ?_ (len:=λws G R h=>(by obtain⟨_,_,_,_,_,_,_,_,_,rfl,_⟩:=h;rfl));walk_at "in";refine⟨_,(a0e (by ac_rfl)
  (a0e (z_st (nmI 3 nd) a8Z)
  (a0e (a2F (pt:=(.nm 4)) gi.never rfl (a2b (b4r rfl rfl (T.b 8) rfl rfl (T.b 9) rfl (q_k (qv 0) a0Q) (q_k (qv 2) a0Q) (he:=se_ rfl) (hpl:=hp_ rfl) (he2:=se_ rfl) (hpl2:=hp_ rfl))) (p_nm (nmI 4 nd))
  (a0e (by ac_rfl)
  (a0D (z_if (b3h (qv 5) (λ_=>rfl))
  (a0D (a6w (qv 5) (qv 3) (qv 4) (b6S hu)))
  a4W))))
  (by ac_rfl)))),?_⟩
 obtain⟨d,q,B',T',nms,ts,kvs,f',g',rfl,H1,okT,lT,l1,fT',gq,cb,bb,ff,fg,gT,fin⟩:=h;symm;refine⟨q,B',rfl,gq,cb.okC ff fg,λk=>(cb.rows k).1.rise,bb.all,gT,λd2 P2 vs2 kv2 G1 H2 pm2 r2=>?_⟩
 replace H1:=H1.keep H2.sm
 have l2:vs2.length<=4:=by
  obtain⟨ns,a1,a2⟩:=bb.ks;exact aD (H2.nd.length_le_of_subset λw hw=>by obtain⟨c,h1,h2⟩:=(H2.al w).mp hw;rw[<- h2];exact a2 c (pm2.mem_iff.mp h1)) a1
 symm;intro W hW;refine⟨_,rfl,?_⟩;generalize ee:put G1 W _=G2;obtain⟨gW,s2⟩:=newK ee hW;symm;unfold uSSU;symm;refine⟨ts,⟨d,kvs,rfl,.inl (s2 _ _ H1.at_),H1.ks,l1⟩,?_⟩;symm;refine⟨vs2,⟨d2,kv2,rfl,.inl (s2 _ _ H2.at_),H2.ks,l2⟩,λt ks ht so nd mem l8=>?_⟩;have ntW:t≠W:=λz=>by rw[z,gW]at ht;cases ht
 generalize ee4:put G2 t _=G4;obtain⟨gt,s4⟩:=newK ee4 ht;have kp:∀G',Kq W G4 G'->Sm G1 G':=λG' k b o e=>k _ _ (s4 _ _ (s2 _ _ e)) (a0h e hW);have gW4:=s4 _ _ gW;symm;refine a09 gt ?_;refine a0R (λi σ G'=>Ex4 λ(us:List Str) (kv:List (Key×Z)) (v1 v2:Option Z)=>Kq W G4 G'/\G' W=some (.dK kv)/\us.Sublist (ks.take i)/\kv.map (·.1)=us.map (λs=>(Sum.inr s:Key))/\(∀k∈us,∃l L,valZ kv (.inr k)=some (.ref l)/\l≠W/\G' l=some (.lst (L.map Rw.z))/\Can L/\Plain L/\L≠[]/\∀t,val L t=optW (g' k t))/\(∀k,k∉us->valZ kv (.inr k)=none/\(k∈ks.take i->∀t,g' k t=.non))/\σ=[some (.ref d),some (.ref q),some (.ref d2),some (.ref W),v1,v2])
  ⟨[],[],_,_,λ_ _ e _=>e,gW4,List.nil_sublist _,rfl,(λk h=>by cases h),λk _=>⟨rfl,λh=>by simp at h⟩,rfl⟩ (by rintro i σ G' _ ⟨_,_,_,_,k,_⟩;exact k _ _ gt ntW) ?_ ?_
 ·rintro i x σ G5 hx ⟨us,kv,v1,v2,kq,gW5,hus,hks,hln,hno,rfl⟩;have hi:=(az.mp hx).1;rw[aq]at hi;rw[aA]at hx;cases hx':ks[i]? with
  |none=>rw[hx']at hx;cases hx
  |some key=>
  rw[hx']at hx;cases hx;have nkey:key∉ks.take i:=λz=>by
   obtain⟨j,hj,e⟩:=cH.mp z;rw[aK]at hj;rw[eF]at e;obtain⟨h2,e2⟩:=az.mp hx';exact bZ.mp nd j i (by omega) h2 (by omega) (e.trans e2.symm)
  have nus:key∉us:=λz=>nkey (hus.subset z);have lus:us.length<=8:=by have:=hus.length_le;rw[aK]at this;omega
  have lkv:kv.length<=8:=by have:=congrArg aX hks;simp at this;omega
  refine⟨_,rfl,?_⟩;symm;refine a49 (kp _ kq _ _ H1.at_) ?_;symm;refine⟨lenK rfl,λt1 ht1=>?_⟩;generalize ee6:put G5 t1 _=G6;obtain⟨g1,s6⟩:=newK ee6 ht1;obtain⟨x1,L1,e1,gx1,il1⟩:=H1.get okT ((kp _ kq).trans s6) g1 key;symm;refine a3L (s6 _ _ (kp _ kq _ _ H1.at_)) rfl ?_;rw[e1];symm;refine a49 (s6 _ _ (kp _ kq _ _ H2.at_)) ?_;symm;refine⟨lenK rfl,λt2 ht2=>?_⟩;generalize ee7:put G6 t2 _=G7;obtain⟨g2,s7⟩:=newK ee7 ht2;obtain⟨x2,e2,gx2⟩:=H2.get r2 (((kp _ kq).trans s6).trans s7) g2 key;symm;refine a3L (s7 _ _ (s6 _ _ (kp _ kq _ _ H2.at_))) rfl ?_;rw[e2];symm;have la:=il1.len;have lb:=bb.ln key;have rb:=cb.rows key;have va:∀t,wz (val L1 t)=f' key t:=λt=>by rw[il1.v,a6a,fT']
  refine⟨x1,x2,L1,rowsOf B' key,f' key,g' key,rfl,s7 _ _ gx1,gx2,il1.can.rise,il1.pl,rb.1,b0j cb ff fg key,by omega,lb,va,rb.2,λt=>⟨ff _ _,fg _ _⟩,λy L G8 hy s8 gy cL vL pL lL=>?_⟩;have s58:Sm G5 G8:=(s6.trans s7).trans s8;have nyW:y≠W:=λz=>by rw[z,s7 _ _ (s6 _ _ gW5)]at hy;cases hy
  have kq8:Kq W G4 G8:=λb o e nb=>s58 _ _ (kq _ _ e nb);symm;refine a81 gy ?_;cases hL:L with
  |nil=>
   symm;refine⟨us,kv,_,_,kq8,s58 _ _ gW5,by rw[take_snoc hx'];exact hus.trans (List.sublist_append_left _ _),hks,λk hk=>?_,λk hk=>?_,rfl⟩
   ·obtain⟨l,M,a1,a2,a3,a4⟩:=hln k hk;exact⟨l,M,a1,a2,s58 _ _ a3,a4⟩
   ·refine⟨(hno k hk).1,λh t=>?_⟩;rw[take_snoc hx']at h;rcases au.mp h with h |h
    ·exact (hno k hk).2 h t
    ·rw[ay.mp h]
     have:=vL t
     rw[hL]at this;unfold optW at this
     split at this
     ·assumption
     ·cases this
  |cons r L'=>
   symm
   show if (!false)=true then _ else _
   refine b7J ?_;symm;refine b6T (s58 _ _ gW5) rfl (a0g (by omega)) ?_;have hv:=(hno key nus).1;refine⟨us++[key],putZ kv (.inr key) (.ref y),_,_,λb o e nb=>by rw[a0f nb];exact kq8 _ _ e nb,a0a,by rw[take_snoc hx'];exact hus.append_right _,by rw[a4E hv,aG,hks,aG];rfl,λk hk=>?_,λk hk=>?_,rfl⟩
   ·by_cases c:k=key
    ·subst c;exact⟨y,L,by rw[a0N,if_pos rfl],nyW,by rw[a0f nyW];exact gy,cL,pL,by rw[hL];simp,vL⟩
    ·have hk2:k∈us:=by
      rcases au.mp hk with h |h
      ·exact h
      ·exact absurd (ay.mp h) c
     obtain⟨l,M,a1,a2,a3,a4⟩:=hln k hk2;exact⟨l,M,by rw[a0N,if_neg λz=>c (by injection z)];exact a1,a2,by rw[a0f a2];exact s58 _ _ a3,a4⟩
   ·rw[au,not_or]at hk;have c:k≠key:=λz=>hk.2 (by rw[z];simp);refine⟨by rw[a0N,if_neg λz=>c (by injection z)];exact (hno k hk.1).1,λh t=>?_⟩;rw[take_snoc hx']at h;rcases au.mp h with h |h
    ·exact (hno k hk.1).2 h t
    ·exact absurd (ay.mp h) c
 ·rintro σ G5 ⟨us,kv,v1,v2,kq,gW5,hus,hks,hln,hno,rfl⟩;rw[aq,bp]at hus hno;symm;refine fin W us kv G5 (H2.sm.free hW) (H2.sm.trans (kp _ kq)) ⟨gW5,hks,nd.sublist hus,(b1P so).sublist hus,λk hk=>let ⟨l,L,a1,_,a3,a4⟩:=hln k hk;⟨l,L,a1,a3,a4⟩,λk hk=>⟨(hno k hk).1,λt=>?_⟩⟩
  by_cases c:k∈ks
  ·exact (hno k hk).2 c t
  ·have n1:=none_of okT H1.ka (k:=k) (λz=>c ((mem k).mpr (.inl z))) t;have n2:rowsOf B' k=[]:=by
    cases e:rowsOf B' k with
    |nil=>rfl
    |cons r l=>exact absurd ((mem k).mpr (.inr ((H2.al k).mpr ⟨⟨k,r⟩,pm2.mem_iff.mpr (a2W (by rw[e];exact .head _)),rfl⟩))) c
   have a2:=(cb.rows k).2 t;rw[n2]at a2;have b2:f' k t=g' k t:=by
    unfold dif at a2
    split at a2
    ·assumption
    ·cases a2
   rw[<- b2,fT'];unfold optW at n1
   split at n1
   ·assumption
   ·cases n1
def b16(a:Ad):P3:=λws G R=>∃(p:Addr)(T:List Tl),ws=[.ref p]/\G p=some (.lst (T.map Tl.z))/\OkT T/\T.length<=63/\∀(s:Addr)(S:Addr->Prop)(G':Hq),Sm G G'->(∀b,S b->G b=none)->Sheet a G' s S T->R (.ref s) G'
set_option tactic.hygienic true in
def b17(T:Txt K mg base a):Cal P w K mg base CX0 6 "_law_sheet" (lowP K (b16 a)):=by
 refine fnc 1 (N:=["tellings","sheet","telling"]) T.br (T.f 33 _ rfl) ?_;walk_at "in";refine⟨_,(a0e (z_st (nmI 1 nd) (b9o T.mk_Sheet (a2o T) hr T.mg_Sheet))
  (a0e (a2F gi.never rfl (by ac_rfl) (p_nm (nmI 2 nd))
  (a0D (a22 (q_m (qv 1) T.cl_Sheet (a4H T) hr (q_k (qv 2) a0Q) ))))
  (by ac_rfl))),?_⟩
 obtain⟨p,T',rfl,C,D,hl,y⟩:=h;symm;intro x L k;refine⟨x,L,rfl,a0a,λd F q U Q=>?_⟩;refine⟨rfl,_,rfl,?_⟩;have n:Sm G F:=λb o e=>U b o (a0b e k) (a0h e k);have B:G d=none:=by
  cases e:G d with
  |none=>rfl
  |some o=>rw[a0b e k]at q;cases q
 symm;refine a09 (n _ _ C) ?_;refine a0R (λi σ m=>∃(S:Addr->Prop)(v:Option Z),Sm G m/\(∀b,S b->G b=none)/\Sheet a m x S (T'.take i)/\σ=[some (.ref p),some (.ref x),v]) ⟨_,_,n,(by rintro b (rfl |rfl);exact k;exact B),Q,rfl⟩ (by rintro i σ m _ ⟨_,_,s,_⟩;exact s _ _ C) ?_ ?_
 ·rintro i z σ A g ⟨S,v,j,l,c,rfl⟩;rw[aA]at g;cases hz':T'[i]? with
  |none=>rw[hz']at g;cases g
  |some τ=>
  rw[hz']at g;cases g;have Y:=(az.mp hz').1;obtain⟨u,n3,V,I⟩:=b4T c;refine⟨_,rfl,?_⟩;symm;refine⟨x,u,_,rfl,I,a4D (by decide +kernel) (by decide +kernel),?_⟩;symm;refine⟨x,S,T'.take i,c,.inl ⟨τ,rfl,D τ (aL hz'),by rw[aK];omega,λM G4 X J E t=>?_⟩⟩;symm;refine⟨M,_,λb o e=>E b o (λz=>by rw[l b z]at e;cases e) (j _ _ e),λb H=>(J b H).elim (l b) j.free,by rw[take_snoc hz'];exact t,rfl⟩
 ·rintro σ A ⟨S,v,j,l,c,rfl⟩;rw[aq,bp]at c;symm;exact y x S A j l c
def b18(a:Ad):P3:=λws G R=>Ex7 λ(s w:Addr) (S:Addr->Prop) (T:List Tl) (nms:List Str) (ms:List Int) (k:Nat)=>ws=[.ref s,.ref w,.int k]/\Sheet a G s S T/\OkT T/\T.length<=63/\nms.length=4/\(∀τ∈T,τ.key∈nms)/\G w=some (.lst (ms.map Z.int))/\(∀m∈ms,inR T m)/\k+3<ms.length/\G a.tP=some lamO/\∀G',Sm G G'->R (.bl true) G'
def b19(T:Txt K mg base a):Cal P w K mg base CX0 6 "_law_three" (lowP K (b18 a)):=by
 refine fnc 3 (N:=["sheet","way","k","one","two","three"]) T.br (T.f 34 _ rfl) ?_ (len:=λws G R h=>(by obtain⟨_,_,_,_,_,_,_,rfl,_⟩:=h;rfl));walk_at "in";refine⟨_,(by ac_rfl),?_⟩;obtain⟨s',w',S,T',nms,ms,k,rfl,sh,ok,hl,hn,hk,gw,hm,hkm,gT,fin⟩:=h;have im:∀j:Nat,j<=3->∃x,atI (ms.map Z.int) ((k:Int)+j)=some (.int x)/\inR T' x:=λj hj=>by
  have q:k+j<ms.length:=by omega
  exact⟨ms[k+j],a05 (j:=k+j) (by rw[aA,aC q];rfl),hm _ (bz q)⟩
 obtain⟨m0,a0,i0⟩:=im 0 (by decide);obtain⟨m1,a1,i1⟩:=im 1 (by decide);obtain⟨m2,a2,i2⟩:=im 2 (by decide);obtain⟨m3,a3,i3⟩:=im 3 (by decide);have a0:atI (ms.map Z.int) (k:Int)=some (.int m0):=by simpa using a0
 have f0:=a6h (T:=T') (n:=m0) ok;have f1:=a6h (T:=T') (n:=m1) ok;have f2:=a6h (T:=T') (n:=m2) ok;have f3:=a6h (T:=T') (n:=m3) ok;symm;refine a0E gw a0 ?_;symm;refine a0E gw a1 ?_;symm;refine⟨s',S,T',nms,m0,m1,rfl,sh,ok,hl,hn,hk,i0,i1,λp1 A1 G1 hp1 s1 gp1 c1=>?_⟩;symm;refine a0E (s1 _ _ gw) a1 ?_;symm;refine a0E (s1 _ _ gw) a2 ?_;symm;refine⟨s',S,T',nms,m1,m2,rfl,sh.keep (Sm.ks s1),ok,hl,hn,hk,i1,i2,λp2 A2 G2 hp2 s2 gp2 c2=>?_⟩;have s12:=s1.trans s2;symm;refine a0E (s12 _ _ gw) a2 ?_;symm;refine a0E (s12 _ _ gw) a3 ?_;symm;refine⟨s',S,T',nms,m2,m3,rfl,sh.keep (Sm.ks s12),ok,hl,hn,hk,i2,i3,λp3 A3 G3 hp3 s3 gp3 c3=>?_⟩;have s13:=s12.trans s3
 replace gp1:=s3 _ _ (s2 _ _ gp1)
 replace gp2:=s3 _ _ gp2
 replace gT:=s13 _ _ gT
 have b1:=a5x c1 hl hn hk;have b2:=a5x c2 hl hn hk;have b3:=a5x c3 hl hn hk
 replace fin:∀G',Sm G3 G'->R (.bl true) G':=λG' s=>fin G' (s13.trans s)
 clear s13 s12 s1 s2 s3;symm;refine⟨p1,p2,A1,A2,_,_,_,rfl,gp1,gp2,c1,c2,b1,b2,f0,f1,f2,gT,λq1 B1 G4 hq1 s4 gq1 d1=>?_⟩;have e1:=a5x d1 hl hn hk;symm;refine⟨q1,p3,B1,A3,_,_,_,rfl,gq1,s4 _ _ gp3,d1,c3,e1,b3,f0,f2,f3,s4 _ _ gT,λq2 B2 G5 hq2 s5 gq2 d2=>?_⟩;have s45:=s4.trans s5;symm;refine⟨p2,p3,A2,A3,_,_,_,rfl,s45 _ _ gp2,s45 _ _ gp3,c2,c3,b2,b3,f1,f2,f3,s45 _ _ gT,λq3 B3 G6 hq3 s6 gq3 d3=>?_⟩;have e3:=a5x d3 hl hn hk;have s46:=s45.trans s6;symm;refine⟨p1,q3,A1,B3,_,_,_,rfl,s46 _ _ gp1,gq3,c1,d3,b1,e3,f0,f1,f3,s46 _ _ gT,λq4 B4 G7 hq4 s7 gq4 d4=>?_⟩;have u1:=d4.uniq d2;subst u1;have s47:=s46.trans s7;have o4:=d4.okC f0 f3;symm;refine b3D (s7 _ _ (s6 _ _ gq2)) gq4 o4.fl8 o4.fl8 ?_;rw[decide_eq_true rfl];symm;refine⟨p1,p2,A1,A2,_,_,_,rfl,s47 _ _ gp1,s47 _ _ gp2,c1,c2,b1,b2,f0,f1,f2,s47 _ _ gT,λq5 B5 G8 hq5 s8 gq5 d5=>?_⟩;have u2:=d5.uniq d1;subst u2;have s48:=s47.trans s8;have o5:=d5.okC f0 f2;symm;refine⟨q5,B5,rfl,gq5,λc hc=>(o5 c hc).1,by have:=e1.all;omega,λt1 ht1=>?_⟩;generalize ee9:put G8 t1 _=G9;obtain⟨gt1,s9⟩:=newK ee9 ht1;have s49:=s48.trans s9;symm;refine⟨p2,A2,rfl,s49 _ _ gp2,λc hc=>(c2.okC f1 f2 c hc).1,by have:=b2.all;omega,λt2 ht2=>?_⟩;generalize ee10:put G9 t2 _=G10;obtain⟨gt2,s10⟩:=newK ee10 ht2;have s410:=s49.trans s10;symm;refine⟨p1,A1,rfl,s410 _ _ gp1,λc hc=>(c1.okC f0 f1 c hc).1,by have:=b1.all;omega,λt3 ht3=>?_⟩;generalize ee11:put G10 t3 _=G11;obtain⟨gt3,s11⟩:=newK ee11 ht3;have s411:=s410.trans s11;symm;refine⟨t2,t3,_,_,_,_,_,rfl,s11 _ _ gt2,gt3,c2.turn,c1.turn,b2.turn,b1.turn,f2,f1,f0,s411 _ _ gT,λq6 B6 G12 hq6 s12 gq6 d6=>?_⟩;have u3:=d6.uniq d5.turn;subst u3;have o6:=d6.okC f2 f0;symm;refine b3D (s12 _ _ (s11 _ _ (s10 _ _ gt1))) gq6 o6.fl8 o6.fl8 ?_;rw[decide_eq_true rfl];exact fin _ (s411.trans s12)
structure RI (G2 G':Hq) (RS:List Addr):Prop where
 kp:∀b o,b∉RS->G2 b=some o->G' b=some o
 row:∀r∈RS,RowAt G' r
def RI.draw(h:RI G2 G' RS)(hr:r∈RS)(k:Kq r G' G'')(R:RowAt G'' r):RI G2 G'' RS:=⟨λb o n e=>k _ _ (h.kp b o n e) λz=>n (z▸hr),λx a=>by
 by_cases c:x=r
 ·simp_all
 ·exact (h.row x a).kq k c⟩
noncomputable def RI.put(h:RI G2 G' RS)(n:G2 D=none)(nD:D∉RS):RI G2 (put G' D o) RS:=⟨λb u c e=>by rw[a0f (a0h e n)];exact h.kp b u c e,λx a=>(h.row x a).kq Kq.at λz=>nD (z▸a)⟩
def b2a(HF:TabF G W g us kv)(H:TabD G d T ts kv2)(ok:OkT T)(hg:∀k t,g k t=lastAt (putsK T k) t)(ne:W≠d):b4n (LEq G) G (.ref W) (.ref d):=by
 have j:∀{k:Str}{L M:List Rw},Can L->(∀t,val L t=optW (g k t))->IsLine T k M->L=M:=λc v m=>a3b c m.can λt=>by rw[v,m.v,hg]
 have N:us=ts:=by
  refine a3c HF.so (b1P H.ka.so) ((fL HF.nd H.ka.nd).mpr λk=>⟨λh=>?_,λh=>Classical.byContradiction λc=>?_⟩)
  ·obtain⟨l,L,_,_,c,_,n,v⟩:=HF.ln k h;obtain⟨M,m⟩:=b0m ok k;exact (H.ka.is k).mpr ⟨M,m,by rw[<- j c v m];exact n⟩
  ·obtain⟨L,m,n⟩:=(H.ka.is k).mp h;refine n (a3b m.can Can.nil λt=>?_);rw[m.v,<- hg,(HF.no k c).2 t];rfl
 subst N;have o:∀f:List (Key×Z),f.map _=us.map (λs=>(Sum.inr s))->(f.map (·.1)).Nodup:=λf h=>by rw[h];exact bT.mpr (HF.nd.imp λh z=>h (by simp_all))
 refine⟨W,d,kv,kv2,rfl,rfl,ne,.inl HF.at_,.inl H.at_,HF.ks.trans H.ks.symm,λi p q x u=>?_⟩;have a:(us.map (λs=>(Sum.inr s)))[i]?=some p.1:=by rw[<- HF.ks,aA,x];rfl
 have b:(us.map (λs=>(Sum.inr s)))[i]?=some q.1:=by rw[<- H.ks,aA,u];rfl
 rw[aA]at a b;cases e:us[i]? with
 |none=>rw[e]at a;cases a
 |some k=>
  rw[e]at a b;have a:Sum.inr k=p.1:=aN.inj a;have b:Sum.inr k=q.1:=aN.inj b;have y:valZ kv (.inr k)=some p.2:=a4I (o _ HF.ks) (by rw[a];exact aL x);have I:valZ kv2 (.inr k)=some q.2:=a4I (o _ H.ks) (by rw[b];exact aL u);obtain⟨l,L,r,D,E,C,_,B⟩:=HF.ln k (aL e);obtain⟨J,M,w,F,A⟩:=H.ln k (aL e);rw[y]at r;rw[I]at w
  have:=j E B A
  subst this;exact⟨l,J,_,aN.inj r,aN.inj w,D,F,a9U C.okR⟩
def b7L(T:Txt K mg base a)(J:Fun K "law" "law" (top 51) f d):FnOk P w K mg base CX0 7 f d ["script"] (lowP K (a60 a.tP)):=by
 refine fnd (n:=1) (N:=["script","tellings","rows","sheet","way","whole","k"]) J ?_ ⟨rfl,rfl,rfl,by decide +kernel,rfl,by decide +kernel,by decide +kernel⟩ λws G R h=>by obtain⟨_,_,rfl,_⟩:=h;rfl
 walk_at "in";refine⟨_,(a0e (by ac_rfl)
  (a0e (by ac_rfl)
  (a0e (z_l (nmI 4 nd) ["row","tellings"] [none,some 1] (.nm 0))
  (a0e (by ac_rfl)
  (a0e (by ac_rfl)
  (a0D (a2a (b5Q (b7l hu) (by ac_rfl) (by ac_rfl) (b2c _))))))))),?_⟩
 obtain⟨a',ns,rfl,hl,gT,q⟩:=h;symm;refine⟨a',ns,rfl,hl,λt u T' rs nms G1 s1 gt gu okT lT ln kT hr=>?_⟩;refine⟨_,rfl,?_⟩;have nT:a.tP∉rs:=λz=>by have:=(hr _ z).2.2.2;rw[gT]at this;cases this
 replace gT:=s1 _ _ gT
 symm;refine⟨t,T',rfl,gt,okT,lT,λsh S G2 s2 fr SH=>?_⟩
 replace gT:=s2 _ _ gT
 replace gt:=s2 _ _ gt
 replace gu:=s2 _ _ gu
 have rr:∀r∈rs,RowAt G2 r/\r≠t/\¬ S r:=λr h=>by
  obtain⟨⟨x,w,e,o⟩,b,_⟩:=hr r h;exact⟨⟨x,w,s2 _ _ e,o⟩,b,λz=>by rw[fr r z]at e;cases e⟩
 clear hr fr s2 s1;symm;refine⟨lenK rfl,λr6 hr6=>?_⟩;generalize ee3:put G2 r6 _=G3;obtain⟨g6,s3⟩:=newK ee3 hr6;symm;refine⟨lenK rfl,λo6 ho6=>?_⟩;generalize ee4:put G3 o6 _=G4;obtain⟨go6,s4⟩:=newK ee4 ho6;symm;refine b6w (s4 _ _ (s3 _ _ gu)) λc hc=>?_;generalize ee5:put G4 c _=G5;obtain⟨gc,s5⟩:=newK ee5 hc;rw[show cutZ (rs.map Z.ref) none (some 20)=(rs.map Z.ref).take 20 from b2J (j:=20),<- eQ]at gc;symm;refine a6z (s5 _ _ go6) gc (a03 (by rw[aq,aK,dM];omega)) λli hli=>?_;generalize ee6:put G5 li _=G6;obtain⟨gli,s6⟩:=newK ee6 hli;have s26:=((s3.trans s4).trans s5).trans s6;have n6:r6∉rs:=λz=>by obtain⟨_,_,e,_⟩:=(rr _ z).1;rw[e]at hr6;cases hr6
 rw[show [Z.ref r6]++(rs.take 20).map Z.ref=(r6::rs.take 20).map Z.ref from rfl]at gli;have sub:∀r∈r6::rs.take 20,r∈r6::rs:=λr h=>by
  rcases ax.mp h with rfl |h
  ·exact .head _
  ·exact .tail _ (bf h)
 have I0:RI G6 G6 (r6::rs):=⟨λ_ _ _ e=>e,λr h=>by
  rcases ax.mp h with rfl |h
  ·exact⟨9,1,s6 _ _ (s5 _ _ (s4 _ _ g6)),.inr ⟨rfl,by decide,by decide⟩⟩
  ·obtain⟨x,w,e,o⟩:=(rr r h).1;exact⟨x,w,s26 _ _ e,o⟩⟩
 have no:∀b o,G2 b=some o->b∉rs->b∉r6::rs:=λb o e n z=>by
  rcases ax.mp z with z |z
  ·rw[<- z,e]at hr6;cases hr6
  ·exact n z
 have nt:=no _ _ gt λz=>(rr t z).2.1 rfl;have nTT:=no _ _ gT nT;have nS:∀b,S b->b∉r6::rs:=λb hb=>by
  obtain⟨_,_,_,m⟩:=SH;obtain⟨o,e⟩:=m.al b hb;exact no _ _ e λz=>(rr b z).2.2 hb
 have nli:li∉r6::rs:=λz=>by
  rcases ax.mp z with z |z
  ·rw[z,s5 _ _ (s4 _ _ g6)]at hli;cases hli
  ·obtain⟨_,_,e,_⟩:=(rr _ z).1;rw[s5 _ _ (s4 _ _ (s3 _ _ e))]at hli;cases hli
 replace gt:=s26 _ _ gt
 replace gT:=s26 _ _ gT
 replace SH:=SH.keep (Sm.ks s26)
 clear s26 s3 s4 s5 s6 ee3 ee4 ee5 ee6 hc gc go6 ho6 g6 hli no gu rr n6 hr6;have lr1:1<=(r6::rs.take 20).length/\(r6::rs.take 20).length<=21:=by simp;omega
 generalize r6::rs=RS at I0 nt nTT nli sub nS;generalize r6::rs.take 20=lr at gli sub lr1;symm;refine a09 gli ?_;intro D hD;have nDR:D∉RS:=λz=>by obtain⟨_,_,e,_⟩:=I0.row D z;rw[e]at hD;cases hD
 refine a8P (λj ys G'=>∃ms:List Int,ys=ms.map Z.int/\ms.length=j/\(∀m∈ms,inR T' m)/\G' D=some (.lst ys)/\RI G6 G' RS) ⟨[],rfl,rfl,λm h=>(nomatch h),a0a,I0.put hD nDR⟩ (by rintro i ys G' _ ⟨_,_,_,_,_,I⟩;exact I.kp _ _ nli gli) ?_ ?_
 ·rintro j x ys G7 hx ⟨ms,rfl,hj,h0,gD,I⟩;have hjl:=(az.mp hx).1;rw[aq]at hjl;rw[aA]at hx;cases hx':lr[j]? with
  |none=>rw[hx']at hx;cases hx
  |some r=>
  rw[hx']at hx;cases hx;have mr:=sub r (aL hx');refine⟨_,rfl,?_⟩;symm;refine a3G (I.kp _ _ nt gt) ?_;rw[aq];symm;refine a1i (I.row r mr) (by omega) (by omega) λf y w f0 f1 ok1=>?_;have nrD:D≠r:=λz=>nDR (z▸mr);refine⟨by rw[a0f nrD];exact gD,by rw[aq];exact a0g (by omega),ms++[f],by simp,by simp;omega,λm h=>?_,a0a,(I.draw mr Kq.at (RowAt.at ok1)).put hD nDR⟩;rcases au.mp h with h |h
  ·exact h0 m h
  ·rw[ay.mp h];exact⟨f0,by omega⟩
 ·rintro ys G7 ⟨ms,rfl,hj,h0,gD,I⟩;rw[aq]at hj;have SH7:=SH.keep (G':=G7) λb o hb e=>I.kp b o (nS b hb) e;have gT7:=I.kp _ _ nTT gT;clear I I0 gli gt SH gT nDR nli nt nTT nS sub hD;have im:∀j:Nat,j<ms.length->∃x,ms[j]?=some x/\atI (ms.map Z.int) (j:Int)=some (.int x)/\inR T' x:=λj hj=>⟨ms[j],aC hj,a05 (by rw[aA,aC hj];rfl),h0 _ (bz hj)⟩;obtain⟨m0,e0,a0,i0⟩:=im 0 (by omega);have a0:atI (ms.map Z.int) 0=some (.int m0):=a0;have F:=λn=>a6h (T:=T') (n:=n) okT;have few:Few T':=⟨by omega,nms,by omega,kT⟩;refine⟨_,rfl,?_⟩;symm;refine⟨lenK rfl,λwh hwh=>?_⟩;generalize ee8:put G7 wh _=G8;obtain⟨gwh,s8⟩:=newK ee8 hwh;symm;refine a3G (s8 _ _ gD) ?_;rw[aq];symm;refine⟨by omega,by omega,?_⟩;refine a0R (λi σ G'=>Ex4 λ(wa:Addr) (C:List Cg) (mi:Int) (v:Option Z)=>Sm G7 G'/\ms[i]?=some mi/\G' wa=some (.lst (C.map Cg.z))/\CL (fT T' m0) (fT T' mi) C/\σ=[some (.scr a' ns),some (.ref t),some (.ref u),some (.ref sh),some (.ref D),some (.ref wa),v]) ⟨wh,[],m0,_,s8,e0,gwh,CL.nil _,rfl⟩ (λ_ _ _ _ _=>True.intro) ?_ ?_
  ·rintro i x σ G9 hx ⟨wa,C,mi,v,s9,ei,gwa,cC,rfl⟩;obtain⟨hi,rfl⟩:=a4b hx;have hi:i+1<ms.length:=by omega
   refine⟨_,rfl,?_⟩;rw[Int.zero_add];obtain⟨x1,e1,a1,i1⟩:=im i (by omega);rw[ei]at e1;cases e1;obtain⟨mj,ej,aj,ij⟩:=im (i+1) hi;have aj:atI (ms.map Z.int) ((i:Int)+1)=some (.int mj):=aj;symm;refine a0E (s9 _ _ gD) a1 ?_;symm;refine a0E (s9 _ _ gD) aj ?_;symm;refine⟨sh,S,T',nms,mi,mj,rfl,SH7.keep (Sm.ks s9),okT,lT,ln,kT,i1,ij,λp1 A1 G10 hp1 s10 gp1 c1=>?_⟩;have s710:=s9.trans s10;symm;refine⟨wa,p1,C,A1,_,_,_,rfl,s10 _ _ gwa,gp1,cC,c1,a5x cC lT ln kT,a5x c1 lT ln kT,F _,F _,F _,s710 _ _ gT7,λp2 A2 G11 hp2 s11 gp2 c2=>?_⟩;have s711:=s710.trans s11;symm;refine a0E (s711 _ _ gD) a0 ?_;symm;refine a0E (s711 _ _ gD) aj ?_;symm;refine⟨sh,S,T',nms,m0,mj,rfl,SH7.keep (Sm.ks s711),okT,lT,ln,kT,i0,ij,λp3 A3 G12 hp3 s12 gp3 c3=>?_⟩;have s712:=s711.trans s12;have u1:=c3.uniq c2;subst u1;have o3:=c3.okC (F _) (F _);symm;refine b3D (s12 _ _ gp2) gp3 o3.fl8 o3.fl8 ?_;rw[decide_eq_true rfl];symm;refine a3G (s712 _ _ gD) ?_;rw[aq];symm;refine ifD (λc=>?_) λc=>?_
   ·symm;refine⟨sh,D,S,T',nms,ms,i,rfl,SH7.keep (Sm.ks s712),okT,lT,ln,kT,s712 _ _ gD,h0,by omega,s712 _ _ gT7,λG13 s13=>?_⟩;symm;exact⟨p2,A3,mj,_,s712.trans s13,ej,s13 _ _ (s12 _ _ gp2),c2,rfl⟩
   ·symm;exact⟨p2,A3,mj,_,s712,ej,s12 _ _ gp2,c2,rfl⟩
  ·rintro σ G9 ⟨wa,C,mi,v,s9,ei,gwa,cC,rfl⟩;rw[a2c]at ei;have il:inR T' mi:=h0 _ (aL ei);have al:(ms.map Z.int).getLast?=some (.int mi):=by
    rw[fJ,fH,show ms.length-1=((ms.length:Int)-1).toNat by omega,ei];rfl
   have ok1:∀n:Int,OkT (T'.take n.toNat):=λn τ h=>okT τ (bf h);symm;refine a0E (s9 _ _ gD) a0 ?_;symm;refine⟨sh,S,T',m0,rfl,SH7.keep (Sm.ks s9),okT,few,i0,λd1 ts1 kv1 G10 hd1 s10 H1 _=>?_⟩;have s710:=s9.trans s10;symm;refine⟨d1,wa,C,T'.take m0.toNat,nms,ts1,kv1,fT T' m0,fT T' mi,rfl,H1,ok1 _,by rw[aK];omega,H1.few ln fun τ h=>kT τ (bf h),λ_ _=>rfl,s10 _ _ gwa,cC,a5x cC lT ln kT,F _,F _,s710 _ _ gT7,λW us kv G11 hW s11 HF=>?_⟩;have s711:=s710.trans s11;symm;refine a0E (s711 _ _ gD) (a4x al) ?_;symm;refine⟨sh,S,T',mi,rfl,SH7.keep (Sm.ks s711),okT,few,il,λd2 ts2 kv2 G12 hd2 s12 H2 _=>?_⟩;have HF':TabF G12 W (fT T' mi) us kv:=⟨s12 _ _ HF.at_,HF.ks,HF.nd,HF.so,λk hk=>let ⟨l,L,a1,a2,a3⟩:=HF.ln k hk;⟨l,L,a1,s12 _ _ a2,a3⟩,HF.no⟩;refine⟨b2a HF' H2 (ok1 _) (λ_ _=>rfl) (a0h HF.at_ hd2),?_⟩;exact q _
def all_mk{l:PySem.W.OpenLaw}{w:World}{K:Fg}{h:Heap}{mg:Str->Option Value}{fa:Addr}(X:K.In h)(G:h.Ns gg mg)(hfa:mg "law"=some (.ref fa))
  {aa:Addr}
  {af tP:Addr}
  {ab ac:Tok}
  (ag:PySem.W.nsIn K gg "Sheet"=some (some (.ref aa)))
  (ad:PySem.W.nsIn K gg "LONGEST_NAME"=some (some (.int 8 ab)))
  (ae:PySem.W.nsIn K gg "LAST_MOMENT"=some (some (.int 1000000000000 ac)))
  (ah:PySem.W.plainGet K aa Str.empty=true)
  (ai:PySem.W.hasDictIn K aa=true)
  (aj:PySem.W.plainOver K aa=true)
  (ak:PySem.W.findIn K (.ref aa) "__setattr__"=some (some (.builtin "object.__setattr__")))
  (al:PySem.W.makesIn K aa=true)
  (am:PySem.W.keepIn K (.ref aa)=true)
  (lf:PySem.W.nsIn K gg "pairs_by_key"=some (some (.ref af)))
  (ll:a9N K af tP=true)
  (gP:gg≠tP)
  (F:AllF K top tF)
  (B:AllB K tB)
  (ao:AllM K top aa a6X)
  (ap:AllN K aa a6Y) :
  ∃(fd:gz)(c0:Addr),PySem.W.codeHdIn K c0 tP=true/\(∀(s:Shared)(v:Value),iw s fd ⟨[v],[]⟩ [("script",v)])/\∀base:Heap,K.In base->base.Ns gg mg->base.BuiltinsAt mg tP->FnOk l.prog w K mg base CX0 7 fa fd ["script"] (lowP K (a60 tP)):=by
 have c:=b9n X G;obtain⟨f,d,e,J⟩:=F 35 _ rfl;have e:=hfa.symm.trans (c _ _ e);cases e
 let a:Ad:=⟨aa,tP⟩
 have j:=λP base g=>b7L (P:=P) (w:=w) (base:=base) (a:=a) ⟨c,F,B,gP,g,⟨af,lf,ll⟩,c _ _ ag,⟨ah,ai,aj,ak⟩,ao,ap,⟨al,am⟩,⟨ab,c _ _ ad⟩,⟨ac,c _ _ ae⟩⟩ J;obtain⟨k,dl,n,Jl⟩:=F 17 _ rfl;cases (n.symm.trans lf);obtain⟨m,_,i⟩:=a6W Jl ll;obtain⟨oc,od,kV,r,pm,an,p,ct,q,rfl,lk,o⟩:=J.ex;exact⟨_,m,i,λs v=>.of_eq rfl,λbase _ _ g=>j l.prog base g⟩
def walk{l:PySem.W.OpenLaw}{K:Params->Fg}(hn:l.most=some 63)(hdf:d.params.defaults=[])
  (hY:∀(w:World)(h:Heap),YP w h->(K w.params).In h/\h.get? P0=some (PySem.W.tabObj #[])) (hK0:∀w:World,(K w.params).lookup P0=none)
  (F:∀(w:World)(mg:Str->Option Value)(fa:Addr)(h:Heap),(K w.params).In h->h.Ns gg mg->mg d.name=some (.ref fa) ->
   ∃(fd:gz)(c0:Addr),PySem.W.codeHdIn (K w.params) c0 P0=true/\(∀(s:Shared)(u:Value),iw s fd ⟨[u],[]⟩ [("script",u)])/\∀base:Heap,(K w.params).In base->base.Ns gg mg->base.BuiltinsAt mg P0->FnOk l.prog w (K w.params) mg base CX0 7 fa fd ["script"] (lowP (K w.params) (a60 P0))) :
  PySem.W.WalkO q loose XP YP l.row.toRowW d [] (λf vs=>PySem.call f vs):=
 L2.walk_ofT hn (by decide) hdf ⟨rfl,by decide,by decide⟩ hY hK0 F (λ_ _ a e g b c=>a7O a e (Fz.ofT b c) b.1 (b1C g)) λ_ _ _ _ _ z=>z
end Lw
end
open PySem PySem.W PyProof.Rows
set_option maxRecDepth 100000 in
set_option maxHeartbeats 0 in
theorem PySem.Challenge.cw_twotimes_k65_whole_joined_on_and_on_holds : PySem.Challenge.rw_twotimes_k65_whole_joined_on_and_on.Holds := by
 w_on;o_law;k_head;(case hw=>w_witness2)
 k_fill
 refine Lw.walk (l:=PySem.Challenge.rw_twotimes_k65_whole_joined_on_and_on) rfl rfl (fun w h Y=>⟨PySem.W.km_in_of Y,PySem.W.km_tabs_of Y _ (.head _)⟩) (fun w=>by kernel_rfl) ?F
 case F=>
  intro w mg fa h KX G hmg;refine' Lw.all_mk KX G hmg ?aa ?ab ?ac ?ad ?ae ?af ?ag ?ah ?ai ?aj ?ak ?al ?F ?am ?an ?ao
  all_goals try k_is
  (case ak=>kernel_rfl)
  (case al=>decide)
  all_goals (repeat first |exact L3.af0 |exact L3.am0 |exact L3.ab0 |exact L3.an0 | (first |refine' L3.af1 ?_ ?_ ?_ ?_ ?_ |refine' L3.am1 ?_ ?_ ?_ ?_ ?_ ?_ |refine' L3.ab1 ?_ ?_ |refine' L3.an1 ?_ ?_)<;>try k_is)
