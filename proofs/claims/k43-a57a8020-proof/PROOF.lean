import PyProof.Rows.All
import Wide.All
import OpenK.AllK
import Wide.FinOn
import Lean
import PyProof.EqAt
import PyProof.EqKinds
import PyProof.TupleCall
import PyProof.CompFree
import PyProof.P3In
import PyProof.RaisesMany
import PyProof.StationsW
import PyProof.ExcClass3
import PyProof.ExcBaseAll.ValueError
import PyProof.RulesTry
import PyProof.RulesAs
import PyProof.NsDelKeeps
import KE.KTryMore
import PyProof.ExcArgs
import KE.RegKIsAll
import PyProof.Rows.EqDataRows
import KE.KIntText
import KE.KDictOf
import PyProof.StrBlockH
import KE.KWords
import PyProof.CallStr
import PyProof.StrLawsTight
import PyProof.StrLawsChain
import PyProof.AttrMissHeap
import KE.KSortTup
import Wide.Seal
import PySem.Challenge.RW_twotimes_k43_whole_joins_at_each_moment
set_option Elab.async false
set_option linter.all false
set_option maxRecDepth 100000
set_option compiler.extract_closed false
set_option bootstrap.genMatcherCode false
noncomputable section
open List renaming length_map→aB,mem_cons→aD,mem_append→aE,mem_map→aF,length_append→aG,getElem?_eq_some_iff→aI,mem_singleton→aJ,getElem?_map→aK,length_cons→aL,getElem?_eq_getElem→aN,map_cons→aO,map_append→aP,length_take→aR,mem_of_getElem?→aS,pairwise_cons→aT,map_map→aU,mem_filter→aV,map_nil→aX,pairwise_append→aY,Pairwise→bd,append_assoc→be,length→bf,filter_cons→bg,mem_map_of_mem→bh,append_nil→bj,Perm→bm,pairwise_map→bo,mem_filterMap→bp,length_drop→bt,take_length→bu,nodup_cons→bx,mem_append_right→bz,size_toArray→bB,filter_sublist→bC,getElem?_of_mem→bH,range→bI,filterMap_cons→bJ,length_filterMap_le→bN,getElem_mem→bO,mem_append_left→bP,find?_cons→bQ,mem_of_mem_take→bS,mem_cons_of_mem→bU,lookup_cons→bW,all_eq_true→bX,all_cons→bY,mem_cons_self→b5,take_add_one→b6,take_of_length_le→b7,flatMap_cons→b9,cons→cb,length_eq_zero_iff→cf,nodup_append→cg,not_mem_nil→ci,map_congr_left→cm,any_eq_true→cn,reverse_append→cq,length_filter_le→cr,getElem?_append_right→cv,any_cons→cw,pairwise_iff_getElem→cy,reverse_singleton→cz,filter_append→cA,getElem?_append_left→cD,reverse_cons→cE,length_singleton→cF,getD_eq_getElem?_getD→cH,getElem?_drop→cI,take_append_drop→cJ,length_pos_iff→cL,mem_of_find?_eq_some→cN,flatMap_append→cP,pairwise_flatMap→cQ,take_sublist→cR,drop_eq_getElem_cons→cV,drop_eq_nil_of_le→cW,nil_append→cY,cons_append→cZ,rel_of_pairwise_cons→db,map_eq_nil_iff→de,filter_eq_nil_iff→df,perm_ext_iff_of_nodup→dg,all_map→dh,getElem?_set_ne→di,lookup→dj,replicate→dq,perm_middle→du,mem_of_mem_drop→dv,extract_eq_take_drop→dw,singleton_append→dz,getElem?_take→dA,take_append_of_le_length→dC,map_id→dD,find?_eq_none→dG,map→dH,mem_range→dI,getElem?_set_self→dJ,of_mem_zip→dL,pairwise_singleton→dP,drop_sublist→dQ,drop_append→dW,eraseIdx_cons_succ→dY,ext_getElem?→d4,length_range→d6,getElem?_eq_none→d7,take_succ_cons→d8,find?_some→ei,pairwise_filterMap→eq,mem_flatMap→er,Nodup→et,getElem?_eq_none_iff→eu,any_eq_false→eC,filterMap_map→eF,filterMap_append→eJ,perm_append_comm→eK,zipIdx_cons→eM,mem_iff_getElem→eN,drop_append_of_le_length→eP,flatten_cons→eQ,lt_irrefl→eS,le_antisymm→eU,countP_cons→eV,pairwise_lt_range→eW,findIdx?→eX,ext_getElem→e7,length_reverse→e8,foldl_append→e9,find?_append→fc,getLast?_eq_none_iff→ff,filterMap_eq_nil_iff→fg,head?_cons→fh,dropLast_subset→fi,length_nil→fj,cons_lt_cons_iff→fk,filter_congr→fm,filter_map→fq,filter_filter→ft,pairwise_reverse→fu,find?_isSome→fv,mem_erase_of_ne→fw,length_erase_of_mem→fz,length_pos_of_mem→fA,nil_perm→fB,dropLast_concat_getLast→fC,ne_nil_of_mem→fE
open Nat renaming le_refl→aC,le_trans→aM,ne_of_lt→aQ,zero_le→aW,lt_of_lt_of_le→aZ,le_of_lt→b2,lt_irrefl→ca,ne_of_gt→cu,lt_succ_of_lt→cx,le_succ→cC,mul_le_mul→cO,lt_trans→cT,lt_succ_self→dk,lt_of_le_of_lt→dr,zero_add→dB,min_le_right→dM,add_sub_cancel→dR,add_zero→dU,add_assoc→dX,add_mul→d9,min_eq_left→fD
open False renaming elim→aH
open Int renaming le_trans→bn,le_refl→bE,le_of_lt→bR,emod_nonneg→bZ,emod_lt_of_pos→b8,eq_ofNat_of_zero_le→cM,not_lt→dy,lt_trichotomy→eT
open Option renaming some→bv,map_some→cG,getD_none→dN,isSome_map→dO,filter→ej,isSome_iff_exists→eE,bind_some→eI
open Bool renaming false_ne_true→bA,and_eq_true→bD,true_and→bM,eq_iff_iff→cB,and_false→cS,false_eq_true→cX,and_true→dE,false_or→eG,false_and→fe
open Array renaming toList_push→bG,length_toList→bL,getElem?_toList→bT,getElem?_eq_getElem→cj,perm_iff_toList_perm→cU,Perm→dS,append_assoc→eB,mem_toList_iff→eD,toList_extract→eO,getElem?_modify→eR,getD_eq_getD_getElem?→eY,getElem?_eq_none→eZ
open Or renaming inr→bV,inl→cp
open PySem renaming wpAny_bind→fF,wpAny_pure→fG,sizeLine→fH,Program→fK,starEach→fL,SetTable→fM,compareOp→fN,Builtin→fO,NameKind→fQ,binaryOp→fR,wpAny_mono→fS,sizeLine_eq→fV,PassesOwn→fW,mainGlobals→fX,wpAny_holding→fZ,holding→f6,FuncData→f8,bootBuiltins→gc,codeAny→gf,wpAny_call_entry→gg,tupleKind→gn,standAt→gx,sysModules→gy,assignEach→gC,pickOrder→gF,wpAny_rule→gG,wpAny_truthy_bool→gH,swapsWith→gI,storedH→gJ,inplaceOp→gK,foldedSetIterable→gM,wpAny_field→gO,scanBound→gR,getMethod→gU,backToKw→gZ,keywordEach→g0,wpAny_newObj_type→g5,wpAny_attempt→g6,codeAny_builtin→g7,wpAny_passesOwn→g8,behindInMarks→g9,codeAny_mono→hZ,typeIs_str→h7,sliceBounds→h8,callerA→ib,plainId_quiet→ie,BindsTo→ii,callWith→ij,valueAt→ik,tupleKind_room_in1→im,compEnvC→io,relayAll→iq,wpAny_setState_of→ir,wpAny_setField→iu,wpAny_ite_split→iw,intKind→iy,wpAny_load→iz,wpAny_pyIter_list→iA,attributeBase→iB,Keyword→iC,getItem→iE,call_meetsIn→iF,notedBy→iG,wpAny_newTuple→iJ,wpAny_setEntries_of→iK,wpAny_execs_nil→iM,setItem→iN,unaryOp→iO,lastMarks→iP,wpAny_Call_Name_kw→iQ,wpAny_typeOf→iR,wpAny_getItem_str_slice→iV,post_val_or_str→iW,wpAny_newList→iX,GenState→iY,entryFor→iZ,wpAny_isInstance→i3,setNext→i5,wpAny_fieldsOf→i6,wpAny_setField_rec→i7,builtinsNs→i8,storeName→i9,wpAny_Name→ja,wpAny_standAt→jc,swapsWithSole→jd,swappedStores→je,letOwnedTupleGo→jf,DictEntry→jg,bindArgs→jh,wpAny_call→ji,cellsFrom→jj,seqIndex_of→jk,seqIndex_neg→jm,call_meets→jo,compPost→jp,unsupported→jq,setAddHashedIn→jy,storeSet→jz,checkBuiltinCall→jA,wpAny_of_eq→jB,wpAny_askSetting→jC,isSubtype_type→jD,wpAny_updateSeq→jE,wpAny_seqItems→jO,wpAny_forIn_list→jP
open PyProof.Rows renaming wpS_bind→fI,wpS_pure→fJ,pendingOf→fP,wpS_forRange→fY,wpS_mono→f7,IntsAre→f9,failedOf→gb,SortKind→gi,wpS_get→gj,wpS_modify→gm,AllBare→gz,pairsOf→ic,sortedS→ig,StrsAre→ip,reverseSlice'→iH,setPending→iI,subscriptTail_builtinR→iU,wpS_lift→jr,mergeAt'→jt,sortedHeap→ju,listUpdate_at→jv,seqEpoch_at→jw,pairsOf_toList→jx,kind_sorted→jF,plain_sorted→jG,entry_sorted→jH,args_sorted1→jI,slot_list_sort→jJ,entry_list_sort→jK,args_list_sort→jL,sortedHeap_at→jM,sortedHeap_old→jN
abbrev Fg:=PySem.W.Frag
set_option tactic.hygienic false
namespace PySem.W.Fast
noncomputable def z:=0
def tw6748734776528276943:=z
def tw3623401963010401397:=z
def tw13489581438056917363:=z
def tw6871086730864865480:=z
def tw6440785744926975752:=z
def tw1369617922488212981:=z
def tw7790639172900216153:=z
def tw9835961701985129996:=z
def tw12990142696627821794:=z
def tw7509825843249568383:=z
def tw16843178646985901552:=z
def tw13771489520227695454:=z
def tw9677379843366680700:=z
def tw5829167474069816551:=z
def tw6287246150670279867:=z
def tw9901066243147313606:=z
def tw13562374790620915953:=z
def tw10490802927493843810:=z
def tw6645444873251470652:=z
def tw2767735712104118873:=z
def tw3602032877272466288:=z
def tw8576213124142220849:=z
def tw7015296214688184305:=z
def tw6369816555719118305:=z
def tw1145705923628063733:=z
def tw11127495217258704586:=z
def tw5181857715116384145:=z
def tw14904471272461196430:=z
def tw4974787036367308503:=z
def tw5004794219476277771:=z
def tw11107657504857309372:=z
def tw1125139424606916623:=z
def tw6399973731699964290:=z
def tw1018224365305117502:=z
def tw2964279915219239053:=z
def tw14713818149029474910:=z
def tw10489291692408129765:=z
def tw1638476810377919725:=z
def tw8992049581258330532:=z
def tw4684747835972517961:=z
def tw6996261779099958659:=z
def tw202381954571659339:=z
def tw13183943071147936160:=z
def tw17993146290001792434:=z
def tw12473978139535552914:=z
def tw33791365073399790:=z
def tw6270680078571197382:=z
def tw2199023243495951304:=z
def tw8703528284805394101:=z
def tw12383445153777086055:=z
def tw12884910087218056566:=z
def tw2543005048000906219:=z
def tw17470958217927689498:=z
def tw17977972371786317439:=z
def tw18027529364041024924:=z
def tw384888127781369396:=z
def tw10146386860465058996:=z
def tw16239296648145779222:=z
def tw6219995915072668855:=z
def tw15090263572627899871:=z
def tw10426810599918754645:=z
def tw9959450966178151441:=z
def tw969017990157264475:=z
def tw10002792562352227804:=z
def tw6749477816221490784:=z
def tw9894581138100896872:=z
def tw15153972368807464861:=z
def tw657787471661923947:=z
def tw17222285805769531272:=z
def tw1289785477115622613:=z
def tw8101613074169530791:=z
def tw13594890492571843911:=z
def tw4122097915548444193:=z
def tw1616835305440125271:=z
def tw10574905194511526925:=z
def tw7203617861979492273:=z
def tw11776227469021010350:=z
def tw12458766019015428630:=z
def tw13822461537088470576:=z
def tw6869283987524440367:=z
def tw12655705436222153416:=z
def tw5543783049229547008:=z
def tw1158038995501077506:=z
def tw10271758338425984126:=z
def tw10734593514358988263:=z
def tw6226473044206427722:=z
def tw11667369544501206792:=z
def tw5755891448041518879:=z
def tw8741989453700898260:=z
def tw13428152926426507432:=z
def tw2484869040174296022:=z
def tw4594824997261523110:=z
def tw17068424599630789020:=z
def tw17716578242407317826:=z
def tw12122035402661710591:=z
def tw11292460022276123610:=z
def tw7630965565445760962:=z
def tw2814242563006918717:=z
def tw12130518255659689619:=z
def tw17385162845476039684:=z
def tw6379324336216351048:=z
def tw11541288054664945973:=z
def tw15719608353781049197:=z
def tw13722311770033205282:=z
def tw15475349647096415853:=z
def tw15449012513207932032:=z
def tw8301166483770717128:=z
def tw9919379787645690107:=z
def tw9834699494842612597:=z
def tw14128981546014010121:=z
def tw18044248408594562773:=z
def tw7304772889122861737:=z
def tw4839457004684094324:=z
def tw11872082173503025675:=z
def tw9543013407892583589:=z
def tw3588654659959233134:=z
def tw9084173120955317312:=z
def tw15995454921829407036:=z
def tw5035593332722847882:=z
def tw6750070919983665716:=z
def tw11937623359570393589:=z
def tw9385829695506571315:=z
def tw5126118475394106005:=z
def tw5867033849560885344:=z
def tw10269668820851897385:=z
def tw10418086942160423712:=z
def tw16484343024490696035:=z
def tw4458480269179116668:=z
def tw3795548627053638265:=z
def tw3605063299273812003:=z
def tw6263732508551475394:=z
def tw8035487937386664724:=z
def tw459304212262737367:=z
def tw8796898003494328295:=z
def tw18288026254303900635:=z
def tw1655479251565363018:=z
def tw517067367022935617:=z
def tw7541654824948349881:=z
def tw7443165246810318066:=z
def tw16081328149179527485:=z
def tw9804767717234917593:=z
def tw11919603049421432901:=z
def tw6662493170513427610:=z
def tw13720955899409128180:=z
def tw9183650915565842057:=z
def tw8224140457194007649:=z
def tw9930947362886172701:=z
def tw5301144141101684154:=z
def tw12514298116659804235:=z
def tw15559779528491807535:=z
def tw3308075161953750663:=z
def tw4692647890591777548:=z
def tw1792832112275682882:=z
def tw8412768735035158645:=z
def tw6149968830277985026:=z
def tw12625482465805523621:=z
def tw10394092357393040608:=z
def tw16891338920105206896:=z
def tw15410182403370706741:=z
def tw18444251871956735916:=z
def tw8005039022133460417:=z
def tw16476897438240888562:=z
def tw5211704864949333084:=z
def tw12111447408019427928:=z
def tw15005855742854865194:=z
def tw142496028516021863:=z
def tw16034463678700644226:=z
def tw16397757280288206486:=z
def tw17654915112819469044:=z
def tw9378625041793214739:=z
def tw16524896918197022054:=z
def tw16585562745724964456:=z
def tw14917348034292459363:=z
def tw6809179795105979074:=z
def tw12459815206211127427:=z
def tw2394044815852396026:=z
def tw16709325399019820839:=z
def tw8169030392507556876:=z
def tw2605493066926900617:=z
def tw12843967227193436126:=z
def tw8898965238420740036:=z
def tw10277625906300050704:=z
def tw8348811823201275647:=z
def tw7721879694308711529:=z
def tw7401977900255564330:=z
def tw9801114842618831185:=z
def tw9363543590236844687:=z
def tw4523780865749617495:=z
def tw482370288456394172:=z
def tw14277464016146446190:=z
def tw10936713145745530204:=z
def tw6715884370159947:=z
def tw13246572947880337727:=z
def tw816800638541845185:=z
def tw7745017290110918053:=z
def tw10742758444898455104:=z
def tw8826193598263999452:=z
def tw2149467125522206905:=z
def tw1080536672072429855:=z
def tw2994804365749454897:=z
def tw12108928614236320578:=z
def tw1961006466071931173:=z
def tw3425234395625019414:=z
def tw18208206248358424084:=z
def tw14494592617119621895:=z
def tw12522347024886149081:=z
def tw5090971905251304298:=z
def tw16725425847769544467:=z
def tw9440677061588134074:=z
def tw5298955596912474745:=z
def tw7286061275954794190:=z
def tw11414053183211221641:=z
def tw14864061434074688618:=z
def tw14104741418152071821:=z
def tw5712198162974323468:=z
def tw11587662359245445296:=z
def tw8574944529808302062:=z
def tw10092353437419992762:=z
def tw565591050698005466:=z
def tw14126255065774346562:=z
def tw2560955289481834596:=z
def tw17000497034524553556:=z
def tw1032505484532898762:=z
def tw14743743233498746078:=z
def tw3460201071308222734:=z
def tw6309779461273959140:=z
def tw2589814016854886357:=z
def tw9007360922382194422:=z
def tw1034093999234712846:=z
def tw11609799614908556167:=z
def tw13010269032988822673:=z
def tw13050006749408573006:=z
def tw18104922963337189502:=z
def tw11746854292877931267:=z
def tw15856464919944677879:=z
def tw9990093527052334060:=z
def tw1191857200565538120:=z
def tw11248339597365435373:=z
def tw16360132694766982310:=z
def tw5290609951714253295:=z
def tw3141448231961712274:=z
def tw4688096347736246049:=z
def tw5542175899628629228:=z
def tw16648696435754083732:=z
def tw8016729008360532534:=z
def tw11297212589462174446:=z
def tw8077101139801138268:=z
def tw961145062437444312:=z
def tw8860060235971505317:=z
def tw13968254251990573586:=z
def tw293561031050085139:=z
def tw17476888612560191026:=z
def tw12717867371101487825:=z
def tw14362785406282247337:=z
def tw56243959537036828:=z
def tw2739235061799093060:=z
def tw1008079499370275056:=z
def tw13179534177737695706:=z
def tw10286823305272314931:=z
def tw9357761286689495706:=z
def tw5084072237134417713:=z
def tw7750251947091468284:=z
def tw2570476490891159379:=z
def tw921047371940167484:=z
def tw8242659705896755614:=z
def tw10078597828326238575:=z
def tw10747997950932221010:=z
def tw9482827139786036721:=z
def tw4415055764212393477:=z
def tw13104330553837458638:=z
def tw14296987000109967324:=z
def tw13924925342711048564:=z
def tw4317305924640375581:=z
def tw13227165930409054278:=z
def tw16106238483213415548:=z
def tw3895718251569064112:=z
def tw1714442695484690847:=z
def tw994166939229748524:=z
def tw11088486384151978974:=z
def tw6236133378520883383:=z
def tw12042003438086747010:=z
def tw8134813665319234237:=z
def tw9599272357767056317:=z
def tw8166809555652729833:=z
def tw18159321040290406671:=z
def tw14366845814890219377:=z
def tw7271647931496053419:=z
def tw2591623017364249404:=z
def tw16517799774255649449:=z
def tw16186823357118214084:=z
def tw14190536041449461354:=z
def tw17413228643188118930:=z
def tw5043873109483596349:=z
def tw7601266922676745655:=z
def tw14559128962599909223:=z
def tw865856906434075043:=z
def tw9349036267420391997:=z
def tw17834904973402433171:=z
def tw2110135425528593189:=z
def tw2460687558238433624:=z
def tw15241200288172783565:=z
def tw5490940445688111265:=z
def tw13372844846627626191:=z
def tw5931910545976102035:=z
def tw9148668742050765217:=z
def tw5227208345697974701:=z
def tw17723367346054817186:=z
def tw13091259163563319243:=z
def tw14454749881772619521:=z
def tw3673609156976221956:=z
def tw6174827450639235693:=z
def tw17078168742905856377:=z
def tw4133408537179675240:=z
def tw18056803906113151425:=z
def tw16105704400128417171:=z
def tw4917591594572574332:=z
def tw11858237717417138829:=z
def tw17264432277834618958:=z
def tw17030805395918513741:=z
def tw17765028372895528317:=z
def tw3872953876615670419:=z
def tw9705051572304628460:=z
def tw17337649352895386005:=z
def tw16939625469365668350:=z
def tw4635519714978422670:=z
def tw9169615503881706247:=z
def tw532597658686890387:=z
def tw3535746718608527852:=z
def tw8782101994156980984:=z
def tw8358445032557294031:=z
def tw14520762766616487843:=z
def tw13681992569572446044:=z
def tw1973291215765468641:=z
def tw15638741325329897159:=z
def tw6775152513593122248:=z
def tw6590965634730009395:=z
def tw7920492001972856258:=z
def tw11310059226860604762:=z
def tw8403310444999925785:=z
def tw8056726072332869317:=z
def tw8332122718933104967:=z
def tw2760541695449376759:=z
def tw2375171384866455384:=z
def tw7767359692788346269:=z
def tw4248182928882561837:=z
def tw7052764233054124550:=z
def tw14935160339783302509:=z
def tw15215298212473110586:=z
def tw3044548606267866573:=z
def tw11020928785962251348:=z
def tw1298522109237163688:=z
def tw7132668178305910935:=z
def tw13878107785982589477:=z
def tw7140304651309539835:=z
def tw15402525475172069210:=z
def tw3998785407573214646:=z
def tw3840865548636334315:=z
def tw7329574785432127707:=z
def tw17878147568664986403:=z
def tw15283732211813507790:=z
def tw9417632403148871006:=z
def tw12366254896985516595:=z
def tw12268983631118877265:=z
def tw700216330049980995:=z
def tw7761993093695377050:=z
def tw5862455956680025817:=z
def tw8438586468161254826:=z
def tw8097256469979455622:=z
def tw732697888045472134:=z
def tw6877158971796161980:=z
def tw2647124515074887879:=z
def tw4381685420999887385:=z
def tw8598820860009781637:=z
def tw17588033713533393420:=z
def tw17346547314872963697:=z
def tw8657093481021072227:=z
def tw16836895495571405191:=z
def tw3280073563200917714:=z
def tw7318641226437142635:=z
def tw6306779357489071237:=z
def tw12657625501069846018:=z
def tw6862666802918313762:=z
def tw7458294113480985860:=z
def tw14528415502250521604:=z
def tw14186408334490318123:=z
def tw14080578390864204913:=z
def tw9704057267112799416:=z
def tw7569793700375578975:=z
def tw10263047521397024291:=z
def tw2454564534127692840:=z
def tw763048721805361096:=z
def tw5681871805180760611:=z
def tw2178655448648758820:=z
def tw6618422331174162222:=z
def tw1137341987763669505:=z
def tw11902624099514067397:=z
def tw5229809307571325119:=z
def tw15269242916254381337:=z
def tw4580766834693452853:=z
def tw953365925799760894:=z
def tw4844578966725646705:=z
def tw75634042787092130:=z
def tw8389871484159016324:=z
def tw7801637894600528972:=z
def tw12982646020337260956:=z
end PySem.W.Fast
namespace L2
open PySem PySem.Spec PyProof.Rows
abbrev Key:=Sum (Option Int) Str
noncomputable def b9v:Value->Bool
 |.none=>true
 |_=>false
noncomputable def a8g:Key->Value->Bool
 |.inl (some k),v=>Value.isInt k v
 |.inl none,v=>b9v v
 |.inr x,v=>Value.isStrOf x v
noncomputable def keyH(w:World):Key->Int
 |.inl (some k)=>hashInt k
 |.inl none=>reduceHash 0xFCA86420
 |.inr x=>hashStr w x
theorem a0r:∀{k:Key}{v:Value},a8g k v=true->(∃i t,k=Sum.inl (some i)/\v=Value.int i t)\/(∃x t,k=Sum.inr x/\v=Value.str x t)\/(k=Sum.inl none/\v=Value.none)
 |.inl (some i),v,h=>by
  obtain⟨t,e⟩:=Value.isInt_shape h;exact .inl ⟨i,t,rfl,e⟩
 |.inl none,v,h=>by
  cases v<;>first |exact .inr (.inr ⟨rfl,rfl⟩) |cases h
 |.inr x,v,h=>by
  obtain⟨t,e⟩:=Value.isStrOf_shape h;exact .inr (.inl ⟨x,t,rfl,e⟩)
def a9d(i:Int)(t:Tok):a8g (.inl (some i)) (.int i t)=true:=by simp[a8g,Value.isInt]
def a9e(x:Str)(t:Tok):a8g (.inr x) (.str x t)=true:=by simp[a8g,Value.isStrOf]
def b6u(a b:Int):decide ((Sum.inl (some a):Key)=Sum.inl (some b))=(a==b):=by
 by_cases e:a=b
 ·simp_all
 ·simp_all
def b6v(a b:Str):decide ((Sum.inr a:Key)=Sum.inr b)=decide (a=b):=by simp
def a4v{a b:Key}(h:a≠b):decide (a=b)=false:=decide_eq_false h
noncomputable def a0v(prog:fK)(w:World):PySem.KeyKind prog w Key where
 is:=a8g
 hash:=keyH w
 inj:=λv a b ha hb=>by
  rcases a0r ha with ⟨i,t,rfl,rfl⟩ |⟨x,t,rfl,rfl⟩ |⟨rfl,rfl⟩
  ·rcases a0r hb with ⟨j,u,rfl,e⟩ |⟨y,u,rfl,e⟩ |⟨rfl,e⟩
   ·injection e with e1 _;rw[e1]
   ·exact nomatch e
   ·exact nomatch e
  ·rcases a0r hb with ⟨j,u,rfl,e⟩ |⟨y,u,rfl,e⟩ |⟨rfl,e⟩
   ·exact nomatch e
   ·injection e with e1 _;rw[e1]
   ·exact nomatch e
  ·rcases a0r hb with ⟨j,u,rfl,e⟩ |⟨y,u,rfl,e⟩ |⟨rfl,e⟩
   ·exact nomatch e
   ·exact nomatch e
   ·rfl
 byValue:=λk v h=>by
  rcases a0r h with ⟨i,t,rfl,rfl⟩ |⟨x,t,rfl,rfl⟩ |⟨rfl,rfl⟩<;>rfl
 pyHash:=λhv h=>by
  rcases a0r hv with ⟨i,t,rfl,rfl⟩ |⟨x,t,rfl,rfl⟩ |⟨rfl,rfl⟩
  ·exact wpAny_pyHash_int h
  ·exact wpAny_pyHash_str h
  ·exact PySem.W.pyHash_slot (T:="NoneType") rfl F.slot_NoneType_hash F.entry_NoneType_hash (F.args_NoneType_hash_1 _) (beq_builtin_none _) (.inl rfl) (fF (fG (fF (wpAny_mkInt (fG ⟨_,_,rfl,h⟩)))))
 eqBool:=λhu hv h=>by
  rcases a0r hu with ⟨i,t,rfl,rfl⟩ |⟨x,t,rfl,rfl⟩ |⟨rfl,rfl⟩
  ·rcases a0r hv with ⟨j,u,rfl,rfl⟩ |⟨y,u,rfl,rfl⟩ |⟨rfl,rfl⟩
   ·rw[b6u]at h;exact wpAny_eqBool_int h
   ·rw[show decide ((Sum.inl (some i):Key)=Sum.inr y)=false from a4v (by simp)]at h;exact SeqAt.EqAt.int_str i t y u _ _ _ _ h
   ·rw[show decide ((Sum.inl (some i):Key)=Sum.inl none)=false from a4v (by simp)]at h;exact SeqAt.EqAt.int_none i t _ _ _ _ h
  ·rcases a0r hv with ⟨j,u,rfl,rfl⟩ |⟨y,u,rfl,rfl⟩ |⟨rfl,rfl⟩
   ·rw[show decide ((Sum.inr x:Key)=Sum.inl (some j))=false from a4v (by simp)]at h;exact SeqAt.EqAt.str_int x t j u _ _ _ _ h
   ·rw[b6v]at h;exact wpAny_eqBool_str h
   ·rw[show decide ((Sum.inr x:Key)=Sum.inl none)=false from a4v (by simp)]at h;exact SeqAt.EqAt.str_none x t _ _ _ _ h
  ·rcases a0r hv with ⟨j,u,rfl,rfl⟩ |⟨y,u,rfl,rfl⟩ |⟨rfl,rfl⟩
   ·rw[show decide ((Sum.inl none:Key)=Sum.inl (some j))=false from a4v (by simp)]at h;exact SeqAt.EqAt.none_int j u _ _ _ _ h
   ·rw[show decide ((Sum.inl none:Key)=Sum.inr y)=false from a4v (by simp)]at h;exact SeqAt.EqAt.none_str y u _ _ _ _ h
   ·rw[decide_eq_true rfl]at h;unfold PySem.eqBool;refine fZ ?_;exact iw (λ_=>fF (gG (fG h))) λhab=>absurd rfl hab
 «strs»:=λk x t v h=>by
  rcases a0r h with ⟨i,u,rfl,e⟩ |⟨y,u,rfl,e⟩ |⟨rfl,e⟩
  ·exact nomatch e
  ·injection e with e1 _
   subst e1;cases v<;>rfl
  ·exact nomatch e
def a6s(prog:fK)(w:World)(i:Int)(t:Tok):(a0v prog w).is (.inl (some i)) (.int i t)=true:=a9d i t
def a6t(prog:fK)(w:World)(x:Str)(t:Tok):(a0v prog w).is (.inr x) (.str x t)=true:=a9e x t
inductive V where
 |non |bl (b:Bool) |int (i:Int) |str (x:Str) |byt (b:Array UInt8) |flt (b:UInt64) |ref (a:Addr) |ty (n:String)
 deriving DecidableEq
def RelV:V->Value->Prop
 |.non,u=>u=Value.none
 |.bl b,u=>u=Value.bool b
 |.int i,u=>∃t,u=Value.int i t
 |.str x,u=>∃t,u=Value.str x t
 |.byt b,u=>∃t,u=Value.bytes b t
 |.flt b,u=>∃t,u=Value.float b t
 |.ref a,u=>u=Value.ref a
 |.ty n,u=>u=Value.type n
abbrev Vals:List V->List Value->Prop:=Paired RelV
def Vals.length(r:Vals xs us):xs.length=us.length:=Paired.length r
theorem Vals.get:∀{xs:List V}{us:List Value}{i:Nat}{x:V},Vals xs us->xs[i]?=some x->∃u,us[i]?=some u/\RelV x u
 |_,_,_,_,.nil,e=>by simp at e
 |_,_,0,_,.cons r _,e=>by simp at e;subst e;exact⟨_,rfl,r⟩
 |_,_,i+1,x,.cons _ t,e=>by
  obtain⟨u,b,a⟩:=Vals.get t (by simpa using e);exact⟨u,by simpa using b,a⟩
theorem Vals.set(r:RelV x u):∀{xs:List V}{us:List Value}(i:Nat),Vals xs us->Vals (xs.set i x) (us.set i u)
 |_,_,_,.nil=>.nil
 |_,_,0,.cons _ t=>.cons r t
 |_,_,i+1,.cons q t=>.cons q (Vals.set r i t)
def Vals.append:∀{xs ys:List V}{us ws:List Value},Vals xs us->Vals ys ws->Vals (xs++ys) (us++ws):=by intro z0 y0 x0 w0 v0;induction v0 with
 |nil=>intro s;exact s
 |cons r t I0=>intro s;exact .cons r (I0 s)
theorem Vals.take:∀{xs:List V}{us:List Value}(n:Nat),Vals xs us->Vals (xs.take n) (us.take n)
 |_,_,0,_=>.nil
 |_,_,_+1,.nil=>.nil
 |_,_,n+1,.cons r t=>.cons r (Vals.take n t)
theorem Vals.drop:∀{xs:List V}{us:List Value}(n:Nat),Vals xs us->Vals (xs.drop n) (us.drop n)
 |_,_,0,r=>r
 |_,_,_+1,.nil=>.nil
 |_,_,n+1,.cons _ t=>Vals.drop n t
def Vals.none_of:∀{xs:List V}{us:List Value}{i:Nat},Vals xs us->xs[i]?=none->us[i]?=none:=λ{a d i} r e=>by
 have b:=r.length;have c:=eu.mp e;exact eu.mpr (by lia)
def RelO:Option V->Option Value->Prop
 |some v,some u=>RelV v u
 |none,none=>True
 |_,_=>False
def KV{κ:Type}:List (κ×V)->List (κ×Value)->Prop:=Paired λ(p:κ×V) (q:κ×Value)=>p.1=q.1/\RelV p.2 q.2
noncomputable def kV:Key->V
 |.inl (some i)=>.int i
 |.inl none=>.non
 |.inr x=>.str x
inductive HO where
 |lst (xs:List V)
 |tup (xs:List V)
 |dK (kvs:List (Key×V)) |dT (kvs:List (List Key×V))
 |set (S:Int->Bool) (n:Nat)
 |ins (C dx:Addr) (fs:List (Str×V))
 |own (x:Addr)
 |xd (fs:List (Str×V))
 |met (f x:Addr)
 |rng (lo hi:Int)
 |frz (o:Obj) (u:HO)
 |tbl (ps:Array Value)
 |ext (φ:Heap->Prop)
abbrev Hp:=Addr->Option HO
noncomputable def upd(H:Hp)(a:Addr)(o:HO):Hp:=λb=>if b=a then some o else H b
def a0j:upd H a o a=some o:=by unfold upd;rw[if_pos rfl]
def a0g(h:b≠a):upd H a o b=H b:=by unfold upd;rw[if_neg h]
def b9w{H:Hp}(h:H a=some o)(h':H b=some u)(d:o≠u):a≠b:=by
 intro e;subst e;rw[h]at h';exact d (bv.inj h')
def a0y{H:Hp}(h:H a=some o)(h':H b=none):a≠b:=by
 intro e;subst e;rw[h]at h';cases h'
section
variable(P:fK)(w:World)
def ObjOk(H:Hp)(h:Heap)(a:Addr):HO->Prop
 |.lst xs=>xs.length<=fH/\∃(its:List Value)(n:Nat),Vals xs its/\h.get? a=some { cls:=.type "list",data:=.seq its.toArray n }
 |.tup xs=>xs.length<=fH/\∃its:List Value,Vals xs its/\IsTup h a its.toArray
 |.dK kvs=>kvs.length<=fH/\(a==gy)=false/\∃vs,KV kvs vs/\h.DictOf (a0v P w) a vs
 |.dT kvs=>kvs.length<=fH/\(a==gy)=false/\∃xs:List (List Key×Addr×Value),
   Paired (λ(p:List Key×V) (q:List Key×Addr×Value)=>p.1=q.1/\H q.2.1=some (.tup (p.1.map kV))/\RelV p.2 q.2.2) kvs xs /\
   ∃o es ep,h.get? a=some o/\o.ExactDict/\o.data=.dict es ep/\es.toList=xs.map (entryOfKey (gn (a0v P w)))/\(xs.map (·.1)).Nodup
 |.set S n=>h.SetOf (iy P w) a S n
 |.ins C dx fs=>H dx=some (.own a)/\fs.length<=1000/\dx≠a/\h.get? a=some (PySem.W.instObj C dx) /\
   ∃mA,h.Ns1 dx mA/\(∀f,RelO (fs.lookup f) (mA f))/\PySem.Within mA (fs.map (·.1))
 |.own _=>∃o,h.get? a=some o
 |.xd fs=>∃mA,h.Ns1 a mA/\∀f,RelO (fs.lookup f) (mA f)
 |.rng lo hi=>∃t u v,h.get? a=some { cls:=.type "range",data:=.fields #[.int lo t,.int hi u,.int 1 v] }
 |.frz o u=>h.get? a=some o/\ObjOk H h a u
 |.tbl ps=>h.get? a=some { cls:=.none,data:=.fields ps }
 |.met f x=>h.get? a=some (PySem.W.methodObj (.ref f) (.ref x))
 |.ext φ=>φ h/\(∃o,h.get? a=some o)/\∀h1 h2:Heap,φ h1->(∀o,h1.get? a=some o->h2.get? a=some o)->φ h2
def HOk(H:Hp)(h:Heap):Prop:=∀a o,H a=some o->ObjOk P w H h a o
end
section
variable{P:fK}{w:World}{H H':Hp}{h h':Heap}{a:Addr}{o:HO}
def ObjOk.lt(x:ObjOk P w H h a o):a<h.objs.size:=by
 cases o with
 |lst xs=>obtain⟨_,_,_,_,e⟩:=x;exact Heap.lt_size e
 |tup xs=>obtain⟨_,_,_,p⟩:=x;exact p.lt
 |dK kvs=>obtain⟨_,_,_,_,o,_,_,e,_⟩:=x;exact Heap.lt_size e
 |dT kvs=>obtain⟨_,_,_,_,o,_,_,e,_⟩:=x;exact Heap.lt_size e
 |set S n=>obtain⟨o,_,_,_,e,_⟩:=x;exact Heap.lt_size e
 |ins C dx fs=>obtain⟨_,_,_,e,_⟩:=x;exact Heap.lt_size e
 |own y=>obtain⟨_,e⟩:=x;exact Heap.lt_size e
 |xd fs=>obtain⟨_,⟨_,_,_,e,_⟩,_⟩:=x;exact Heap.lt_size e
 |rng lo hi=>obtain⟨_,_,_,e⟩:=x;exact Heap.lt_size e
 |frz ob u=>obtain⟨e,_⟩:=x;exact Heap.lt_size e
 |tbl ps=>exact Heap.lt_size (x)
 |met f y=>exact Heap.lt_size (x)
 |ext φ=>obtain⟨_,⟨_,e⟩,_⟩:=x;exact Heap.lt_size e
def Paired.mapP{α β:Type}{F G:α->β->Prop}:∀{lj:List α}{l₂:List β},Paired F lj l₂->(∀a b,F a b->G a b)->Paired G lj l₂:=by intro z0 y0 x0;induction x0 with
 |nil=>intro _;exact .nil
 |cons r t I0=>intro f;exact .cons (f _ _ r) (I0 f)
def ObjOk.stay(x:ObjOk P w H h a o)(k:∀b u,(b=a\/H b=some (.own a))->h.get? b=some u->h'.get? b=some u)
  (ho:∀b,H b=some (.own a)->H' b=some (.own a)) (ht:∀b xs,H b=some (.tup xs)->H' b=some (.tup xs)):ObjOk P w H' h' a o:=by
 induction o with
 |lst s=>obtain⟨z,l,n,r,e⟩:=x;exact⟨z,l,n,r,k _ _ (.inl rfl) e⟩
 |tup s=>obtain⟨z,l,r,g,e,c⟩:=x;exact⟨z,l,r,g,k _ _ (.inl rfl) e,c⟩
 |dK kvs=>obtain⟨z,y,F,r,g,i,j,e,c⟩:=x;exact⟨z,y,F,r,g,i,j,k _ _ (.inl rfl) e,c⟩
 |dT kvs=>
  obtain⟨z,y,s,r,g,i,j,e,c⟩:=x;exact⟨z,y,s,Paired.mapP r λp q z=>⟨z.1,ht _ _ z.2.1,z.2.2⟩,g,i,j,k _ _ (.inl rfl) e,c⟩
 |set S n=>obtain⟨g,i,j,t,e,c⟩:=x;exact⟨g,i,j,t,k _ _ (.inl rfl) e,c⟩
 |ins C dx fs=>
  obtain⟨d,z,D,e,A,⟨m,i,j,E,c⟩,r⟩:=x;exact⟨ho _ d,z,D,k _ _ (.inl rfl) e,A,⟨m,i,j,k _ _ (.inr d) E,c⟩,r⟩
 |own y=>obtain⟨g,e⟩:=x;exact⟨g,k _ _ (.inl rfl) e⟩
 |xd fs=>obtain⟨A,⟨m,i,j,e,c⟩,r⟩:=x;exact⟨A,⟨m,i,j,k _ _ (.inl rfl) e,c⟩,r⟩
 |rng lo hi=>obtain⟨t,u,v,e⟩:=x;exact⟨t,u,v,k _ _ (.inl rfl) e⟩
 |frz g u ih=>obtain⟨e,q⟩:=x;exact⟨k _ _ (.inl rfl) e,ih q⟩
 |tbl ps=>
  exact k a _ (.inl rfl) x
 |met f y=>
  exact k a _ (.inl rfl) x
 |ext φ=>obtain⟨p,⟨o,e⟩,B⟩:=x;exact⟨B _ _ p λo q=>k _ _ (.inl rfl) q,⟨o,k _ _ (.inl rfl) e⟩,B⟩
def HOk.lt(x:HOk P w H h)(e:H a=some o):a<h.objs.size:=(x a o e).lt
def HOk.fresh(x:HOk P w H h)(e:h.objs.size<=a):H a=none:=by
 cases q:H a with
 |none=>rfl
 |some u=>exact absurd (aZ (x.lt q) e) (ca _)
def HOk.kept(x:HOk P w H h)(k:∀b u,h.get? b=some u->h'.get? b=some u):HOk P w H h':=λa o e=>
 (x a o e).stay (λb u _ q=>k b u q) (λ_ q=>q) λ_ _ q=>q
def HOk.laid(x:HOk P w H h)(k:∀b u,h.get? b=some u->h'.get? b=some u)(hp:h.objs.size<=a)(new:ObjOk P w (upd H a o) h' a o):HOk P w (upd H a o) h':=λb u e=>by
 have d:=x.fresh hp
 by_cases hb:b=a
 ·subst hb;rw[a0j]at e;cases e;exact new
 ·rw[a0g hb]at e;exact (x b u e).stay (λc v _ q=>k c v q) (λc q=>by rw[a0g (a0y q d)];exact q) λc f q=>by rw[a0g (a0y q d)];exact q
end
def Rd(H:Hp)(a:Addr)(u:HO):Prop:=H a=some u\/∃o,H a=some (.frz o u)
def Rd.of(h:H a=some u):Rd H a u:=.inl h
def Rd.ok(r:Rd H a u)(x:HOk P w H h):ObjOk P w H h a u:=by
 rcases r with r |⟨o,r⟩
 ·exact x a u r
 ·obtain⟨_,q⟩:=x a _ r;exact q
def Mut:Option HO->Prop
 |some (.lst _)=>True
 |some (.dK _)=>True
 |some (.dT _)=>True
 |some (.set _ _)=>True
 |some (.ins _ _ _)=>True
 |some (.ext _)=>True
 |_=>False
section
variable{P:fK}{w:World}{H:Hp}{h h':Heap}{x e:Addr}{o':HO}
def HOk.write(ok:HOk P w H h)(mu:Mut (H x))(he:e=x\/H e=some (.own x))(k:∀b u,b≠e->h.get? b=some u->h'.get? b=some u)(heo:∃u,h'.get? e=some u)
  (new:ObjOk P w (upd H x o') h' x o'):HOk P w (upd H x o') h':=λb u q=>by
 have a:∀c y,H c=some (.own y)->c≠x:=λc y r z=>by subst z;rw[r]at mu;exact mu
 have g:∀c d,H c=some (.tup d)->c≠x:=λc d r z=>by subst z;rw[r]at mu;exact mu
 by_cases hb:b=x
 ·subst hb;rw[a0j]at q;cases q;exact new
 ·rw[a0g hb]at q
  by_cases hbe:b=e
  ·have i:H b=some (.own x):=by
    rcases he with z |z
    ·exact absurd (hbe.trans z) hb
    ·rw[hbe];exact z
   rw[q]at i;cases i;obtain⟨v,j⟩:=heo;exact⟨v,by rw[hbe];exact j⟩
  ·refine (ok b u q).stay (λc v f r=>k c v ?_ r) (λc r=>by rw[a0g (a c b r)];exact r) λc d r=>by rw[a0g (g c d r)];exact r
   rcases f with rfl |f
   ·omega
   ·grind
end
structure Un (fs ex:List Addr) (H H':Hp) (h h':Heap):Prop where
 keep:∀b o,h.get? b=some o->H b=none->b∉fs->b∉ex->h'.get? b=some o
 slot:∀b o,h.get? b=some o->H b=none->b∈fs->b∉ex->∃sl,h'.get? b=some { o with slots:=sl }
 free:∀b o,h.get? b=some o->H b=none->b∉ex->H' b=none
 there:∀b o,h.get? b=some o->b∉ex->∃o',h'.get? b=some o'
 tups:∀b xs,H b=some (.tup xs)->H' b=some (.tup xs)
 frzs:∀b o u,H b=some (.frz o u)->H' b=some (.frz o u)
 tbls:∀b ps,H b=some (.tbl ps)->∃more,H' b=some (.tbl (ps++more))
section
variable{fs fs' ex ex':List Addr}{H H1 H2:Hp}{h h1 h2 h':Heap}{a x e:Addr}{o:HO}
noncomputable def Un.any(u:Un fs ex H H1 h h1)(q:h.get? b=some ob)(n:H b=none)(hx:b∉ex):∃sl,h1.get? b=some { ob with slots:=sl }:=by
 by_cases hb:b∈fs
 ·exact u.slot b ob q n hb hx
 ·exact⟨ob.slots,u.keep b ob q n hb hx⟩
theorem Un.trans(a:Un fs ex H H1 h h1)(b:Un fs ex H1 H2 h1 h2):Un fs ex H H2 h h2 where
 keep:=λc ob q n hc hx=>b.keep c ob (a.keep c ob q n hc hx) (a.free c ob q n hx) hc hx
 slot:=λc ob q n hc hx=>by
  obtain⟨sl,e1⟩:=a.slot c ob q n hc hx;obtain⟨sl',e2⟩:=b.slot c _ e1 (a.free c ob q n hx) hc hx;exact⟨sl',e2⟩
 free:=λc ob q n hx=>by
  obtain⟨o',e1⟩:=a.there c ob q hx;exact b.free c o' e1 (a.free c ob q n hx) hx
 there:=λc ob q hx=>by
  obtain⟨o',e1⟩:=a.there c ob q hx;exact b.there c o' e1 hx
 tups:=λc xs q=>b.tups c xs (a.tups c xs q)
 frzs:=λc ob xs q=>b.frzs c ob xs (a.frzs c ob xs q)
 tbls:=λc ps q=>by
  obtain⟨m1,e1⟩:=a.tbls c ps q;obtain⟨m2,e2⟩:=b.tbls c _ e1;exact⟨m1++m2,by rw[e2,eB]⟩
def Un.kept(k:∀b u,h.get? b=some u->h'.get? b=some u):Un fs ex H H h h':=
 ⟨λb a q _ _ _=>k b a q,λb a q _ _ _=>⟨a.slots,k b a q⟩,λ_ _ _ n _=>n,λb a q _=>⟨a,k b a q⟩,λ_ _ q=>q,λ_ _ _ q=>q,λ_ c q=>⟨#[],by rw[q];simp⟩⟩
def Un.refl:Un fs ex H H h h:=Un.kept λ_ _ q=>q
theorem Un.laid(k:∀b u,h.get? b=some u->h'.get? b=some u)(hp:h.objs.size<=a)(hn:H a=none):Un fs ex H (upd H a o) h h' where
 keep:=λb u q _ _ _=>k b u q
 slot:=λb u q _ _ _=>⟨u.slots,k b u q⟩
 free:=λb u q n _=>by rw[a0g (aQ (aZ (Heap.lt_size q) hp))];exact n
 there:=λb u q _=>⟨u,k b u q⟩
 tups:=λb xs q=>by rw[a0g (a0y q hn)];exact q
 frzs:=λb u xs q=>by rw[a0g (a0y q hn)];exact q
 tbls:=λb ps q=>⟨#[],by rw[a0g (a0y q hn),q];simp⟩
def Un.write(mu:Mut (H x))(he:e=x\/H e=some (.own x))(k:∀b u,b≠e->h.get? b=some u->h'.get? b=some u)(heo:∃u,h'.get? e=some u):Un fs ex H (upd H x o) h h':=by
 have d:∀b,H b=none->b≠x:=λb n z=>by subst z;rw[n]at mu;exact mu
 have c:∀b,H b=none->b≠e:=λb n z=>by simp_all
 have a:∀b u,H b=some u->¬ Mut (some u)->b≠x:=λb u q g z=>by subst z;rw[q]at mu;exact g mu
 refine⟨λb u q n _ _=>k b u (c b n) q,λb u q n _ _=>⟨u.slots,k b u (c b n) q⟩,λb u q n _=>by rw[a0g (d b n)];exact n,λb u q _=>?_,
  λb f q=>by rw[a0g (a b _ q λz=>z)];exact q,λb u f q=>by rw[a0g (a b _ q λz=>z)];exact q,λb i q=>⟨#[],by rw[a0g (a b _ q λz=>z),q];simp⟩⟩
 by_cases hbe:b=e
 ·grind
 ·exact⟨u,k b u hbe q⟩
def Un.mono(u:Un fs ex H H1 h h1)(hs:∀b∈fs,b∈fs')(hx:∀b∈ex,b∈ex'):Un fs' ex' H H1 h h1:=
 ⟨λb c q n d a=>u.keep b c q n (λz=>d (hs b z)) λz=>a (hx b z),λ_ _ q n _ a=>u.any q n λz=>a (hx _ z),λb c q n a=>u.free b c q n λz=>a (hx b z),λb c q a=>u.there b c q λz=>a (hx b z),u.tups,u.frzs,u.tbls⟩
end
noncomputable def trk(h:Heap)(H:Hp):List Addr:=(bI h.objs.size).filter λa=>(H a).isSome
noncomputable def hidT(h:Heap)(H:Hp):Heap:=PySem.W.hideAll h (trk h H)
def a9f(h:Heap)(H:Hp):(hidT h H).objs.size=h.objs.size:=PySem.W.hideAll_size _ _
def b1G(e:h.get? b=some o)(n:H b=none):(hidT h H).get? b=some o:=
 PySem.W.hideAll_get _ e λa=>by
  have q:=(aV.mp a).2;rw[n]at q;simp at q
def b4i(e:(hidT h H).get? b=some o):h.get? b=some o/\H b=none:=by
 have a:=PySem.W.of_hideAll _ e;refine⟨a,?_⟩;cases q:H b with
 |none=>rfl
 |some x=>
  have c:b∈trk h H:=aV.mpr ⟨dI.mpr (Heap.lt_size a),by simp[q]⟩;have z:(hidT h H).get? b=none:=PySem.W.hideAll_none _ c;rw[z]at e;cases e
noncomputable def b4j(g h:Heap)(L:Addr):List (Addr×Obj):=(bI h.objs.size).filterMap λa=>if a=L\/(g.get? a).isSome=true then none else (h.get? a).map λo=>(a,o)
noncomputable def rest(g h:Heap)(L d:Addr):List (Addr×Obj):=(b4j g h L).filter λp=>decide (p.1≠d)
structure Mod (K:Fg) (mg:Str->Option Value) (base:Heap):Prop where
 kin:K.In base
 glob:base.Ns fX mg
 blt:∃mb,base.Ns i8 mb/\∀x:Str,x≠"__name__"->mb x=gc x
 nolimit:base.NoLimit
structure Cx where
 prog:fK
 w:World
 K:Fg
 mg:Str->Option Value
 base:Heap
 A:Around
 N:List Str
 s₀:Shared
 H₀:Hp
 env:Env
 outer:List Env
 stack:List Env
 ex:List Addr
 fn:Str->Bool
 calm:Bool
 pn:List (Addr×Obj)
 xe:Value->Shared->Prop
noncomputable def frs(l:List Env):List Addr:=l.filterMap (·.frame)
abbrev Cx.fs(X:Cx):List Addr:=frs X.outer
def Vis(sc:Scope)(x:Str):Prop:=sc.names.lookup x=some .local\/sc.names.lookup x=some .cell\/sc.names.lookup x=some .free
def Loc(sc:Scope)(x:Str):Prop:=sc.names.lookup x=some .local\/sc.names.lookup x=some .cell
def Look(env:Env)(h:Heap)(m:Str->Option Value)(x:Str)(u:Value):Prop:=
 (env.kindOf x=some .local/\m x=some u)\/((env.kindOf x=some .cell\/env.kindOf x=some .free)/\∃c,env.cells.lookup x=some c/\h.IsCell c (some u))
structure Cx.Ok (X:Cx):Prop where
 mod:Mod X.K X.mg X.base
 kind:X.env.scope.kind=.function
 glob:X.env.globals=fX
 blt:X.env.builtins=i8
 above:X.s₀.heap.objs.size<=X.env.locals
 inj:∀x y c,X.env.cells.lookup x=some c->X.env.cells.lookup y=some c->x=y
 has:∀x,(X.env.kindOf x=some .cell\/X.env.kindOf x=some .free)->∃c,X.env.cells.lookup x=some c
 cab:∀x c,X.fn x=true->X.env.cells.lookup x=some c->X.s₀.heap.objs.size<=c
 hd:X.calm=true->X.A.handled=none
 frames:X.A.frames=some X.stack
 stk:X.stack=X.outer\/(X.stack=X.env::X.outer/\X.env.frame=some X.env.locals)
 exf:∀b∈X.ex,b≠X.env.locals/\∀x c,X.env.cells.lookup x=some c->c≠b
 bs:∀b o,X.base.get? b=some o->X.s₀.heap.get? b=some o/\X.H₀ b=none
 bsz:X.base.objs.size<=X.s₀.heap.objs.size
 noex:∀b o,X.base.get? b=some o->b∉X.ex
 exfs:∀b∈X.ex,b∉X.fs
 funs:X.s₀.heap.FunFrames X.base X.outer
 frf:∀b∈X.fs,X.H₀ b=none
structure Inv (X:Cx) (pins:List (Addr×Obj)) (σ:List (Option V)) (H:Hp) (s:Shared):Prop where
 ok:X.Ok
 os:s.os=X.s₀.os
 bare:gz s.gens
 base:Un X.fs X.ex X.H₀ H X.s₀.heap s.heap
 loc:∃m,s.heap.Ns X.env.locals m/\∀(i:Nat)(x:Str)(v:V),X.N[i]?=some x->σ[i]?=some (some v)->Vis X.env.scope x->∃u,RelV v u/\Look X.env s.heap m x u
 cell:∀x c,X.env.cells.lookup x=some c->∃v,s.heap.IsCell c v
 free:H X.env.locals=none
 freeC:∀x c,X.env.cells.lookup x=some c->H c=none
 pin:∀p∈X.pn++pins,s.heap.get? p.1=some p.2/\H p.1=none/\p.1≠X.env.locals/\p.1∉X.fs/\∀v,p.2.data≠.cell v
 hok:HOk X.prog X.w H s.heap
 len:σ.length=X.N.length
section
variable{X:Cx}{pins:List (Addr×Obj)}{σ:List (Option V)}{H H':Hp}{s:Shared}{h':Heap}
def Cx.Ok.nofr(ok:X.Ok)(e:X.base.get? b=some o):b∉X.fs:=λa=>by
 have:=(ok.funs.mem a).1
 rw[e]at this;cases this
def Inv.bs(I:Inv X pins σ H s):∀b o,X.base.get? b=some o->s.heap.get? b=some o/\H b=none:=λb o e=>
 ⟨I.base.keep b o (I.ok.bs b o e).1 (I.ok.bs b o e).2 (I.ok.nofr e) (I.ok.noex b o e),I.base.free b o (I.ok.bs b o e).1 (I.ok.bs b o e).2 (I.ok.noex b o e)⟩
def Inv.bk(I:Inv X pins σ H s):∀b o,X.base.get? b=some o->s.heap.get? b=some o:=λb o e=>(I.bs b o e).1
def Inv.mod(I:Inv X pins σ H s):Mod X.K X.mg X.base:=I.ok.mod
def Inv.kIn(I:Inv X pins σ H s):X.K.In s.heap:=I.ok.mod.kin.keeps I.bk
def Inv.nolimit(I:Inv X pins σ H s):s.heap.NoLimit:=I.ok.mod.nolimit.keeps I.bk
def Inv.fr(I:Inv X pins σ H s):∃m,Fr X.base X.env.locals s.heap m:=
 let ⟨m,hn,_⟩:=I.loc
 ⟨m,hn,I.bk,aM I.ok.bsz I.ok.above⟩
def Inv.lt(I:Inv X pins σ H s):X.env.locals<s.heap.objs.size:=let ⟨_,hn,_⟩:=I.loc;hn.lt
def Inv.sz(I:Inv X pins σ H s):X.s₀.heap.objs.size<=s.heap.objs.size:=aM I.ok.above (b2 I.lt)
def Inv.nofs(I:Inv X pins σ H s)(h:s.heap.objs.size<=a):a∉X.fs:=λc=>by
 obtain⟨_,o,b,_⟩:=I.ok.funs.mem c;exact absurd (aZ (Heap.lt_size b) (aM I.sz h)) (ca _)
def Inv.cne(I:Inv X pins σ H s):∀x c,X.env.cells.lookup x=some c->c≠X.env.locals:=λx c e z=>by
 obtain⟨v,o,d,b⟩:=I.cell x c e;obtain⟨m,⟨i,g,h,a,f,_⟩,_⟩:=I.loc;rw[z,a]at d;cases d;rw[f]at b;cases b
def Inv.funs(I:Inv X pins σ H s):s.heap.FunFrames X.base X.outer:=by
 have g:∀l,(∀b∈frs l,b∈X.fs)->X.s₀.heap.FunFrames X.base l->s.heap.FunFrames X.base l:=by
  intro l
  induction l with
  |nil=>intro _ _;trivial
  |cons env r ih=>
   intro f h;obtain⟨k,⟨L,o,c,n,m,j⟩,i⟩:=h;have d:=f L (by unfold frs;rw[bJ,c];exact b5);obtain⟨p,e⟩:=I.base.slot L o m (I.ok.frf L d) d λz=>I.ok.exfs L z d;exact⟨k,⟨L,_,c,n,e,j⟩,ih (λb a=>f b (by unfold frs;rw[bJ,c];exact bU _ a)) i⟩
 exact g X.outer (λ_ a=>a) I.ok.funs
def Inv.stack(I:Inv X pins σ H s):s.heap.FunFrames X.base X.stack:=by
 rcases I.ok.stk with e |⟨e,hf⟩
 ·rw[e];exact I.funs
 ·rw[e];obtain⟨m,a,_⟩:=I.loc;refine .cons (by rw[I.ok.kind];decide) hf a ?_ I.funs;exact Heap.get?_none_of_le (aM I.ok.bsz I.ok.above)
def Inv.stkSub(I:Inv X pins σ H s):∀b∈frs X.stack,b∈X.env.locals::X.fs:=λb a=>by
 rcases I.ok.stk with e |⟨e,hf⟩
 ·rw[e]at a;exact bU _ a
 ·rw[e]at a;unfold frs at a;rw[bJ,hf]at a;exact a
def Inv.stkFree(I:Inv X pins σ H s):∀b∈frs X.stack,H b=none:=λb a=>by
 rcases aD.mp (I.stkSub b a) with e |a
 ·rw[e];exact I.free
 ·obtain⟨_,o,c,_⟩:=I.ok.funs.mem a;exact I.base.free b o c (I.ok.frf b a) λz=>I.ok.exfs b z a
def Inv.step{ch:List Addr}(I:Inv X pins σ H s)
  (hch:∀b∈ch,(b∈X.ex\/X.s₀.heap.objs.size<=b)/\b≠X.env.locals/\(∀x c,X.env.cells.lookup x=some c->c≠b)/\∀p∈X.pn++pins,p.1≠b)
  (keep:∀b o,b≠X.env.locals->b∉X.fs->b∉ch->s.heap.get? b=some o->H b=none->h'.get? b=some o)
  (slot:∀b o,b≠X.env.locals->b∈X.fs->b∉ch->s.heap.get? b=some o->H b=none->∃sl,h'.get? b=some { o with slots:=sl }) (free:∀b o,b∉ch->s.heap.get? b=some o->H b=none->H' b=none)
  (there:∀b o,b∉ch->s.heap.get? b=some o->∃o',h'.get? b=some o')
  (tups:∀b xs,H b=some (.tup xs)->H' b=some (.tup xs)) (frzs:∀b o u,H b=some (.frz o u)->H' b=some (.frz o u)) (tbls:∀b ps,H b=some (.tbl ps)->∃more,H' b=some (.tbl (ps++more)))
  (ns:∀m,s.heap.Ns X.env.locals m->h'.Ns X.env.locals m) (hok:HOk X.prog X.w H' h') (hg:gz g') :
  Inv X pins σ H' { s with heap:=h',gens:=g',drawn:=d',toks:=t' }:=by
 have C:∀b o,X.s₀.heap.get? b=some o->b≠X.env.locals:=λb o e=>aQ (aZ (Heap.lt_size e) I.ok.above);have j:∀b o,X.s₀.heap.get? b=some o->b∉X.ex->b∉ch:=λb o e a h=>by
  rcases (hch b h).1 with z |z
  ·grind
  ·exact absurd (aZ (Heap.lt_size e) z) (ca _)
 have t:∀x c,X.env.cells.lookup x=some c->∀v,s.heap.IsCell c v->h'.IsCell c v:=by
  rintro x c e v ⟨o,y,E⟩;have g:=λz=>(hch c z).2.2.1 x c e rfl
  by_cases hc:c∈X.fs
  ·obtain⟨S,q⟩:=slot c o (I.cne x c e) hc g y (I.freeC x c e);exact⟨_,q,E⟩
  ·exact⟨o,keep c o (I.cne x c e) hc g y (I.freeC x c e),E⟩
 refine⟨I.ok,I.os,hg,⟨λb o e n h a=>(keep b o (C b o e) h (j b o e a) (I.base.keep b o e n h a) (I.base.free b o e n a)),λb o e n h a=>?_,λb o e n a=>?_,λb o e a=>?_,λb B e=>tups b B (I.base.tups b B e),λb o B e=>frzs b o B (I.base.frzs b o B e),λb Q e=>?_⟩,?_,λx c e=>?_,?_,λx c e=>?_,λp L=>?_,hok,I.len⟩
 ·obtain⟨S,f⟩:=I.base.slot b o e n h a;obtain⟨F,A⟩:=slot b _ (C b o e) h (j b o e a) f (I.base.free b o e n a);exact⟨F,A⟩
 ·obtain⟨D,f⟩:=I.base.there b o e a;exact free b D (j b o e a) f (I.base.free b o e n a)
 ·obtain⟨D,f⟩:=I.base.there b o e a;exact there b D (j b o e a) f
 ·obtain⟨N,f⟩:=I.base.tbls b Q e;obtain⟨U,A⟩:=tbls b _ f;exact⟨N++U,by rw[A,eB]⟩
 ·obtain⟨m,T,M⟩:=I.loc;refine⟨m,ns m T,λi x v f A R=>?_⟩;obtain⟨u,r,l⟩:=M i x v f A R;refine⟨u,r,?_⟩;rcases l with l |⟨k,c,e,z⟩
  ·exact .inl l
  ·exact .inr ⟨k,c,e,t x c e _ z⟩
 ·obtain⟨v,z⟩:=I.cell x c e;exact⟨v,t x c e v z⟩
 ·obtain⟨m,⟨o,_,_,y,_⟩,_⟩:=I.loc;exact free _ o (λz=>(hch _ z).2.1 rfl) y I.free
 ·obtain⟨v,o,y,E⟩:=I.cell x c e;exact free c o (λz=>(hch c z).2.2.1 x c e rfl) y (I.freeC x c e)
 ·obtain⟨e,n,G,J,d⟩:=I.pin p L;have g:=λz=>(hch p.1 z).2.2.2 p L rfl;exact⟨keep p.1 p.2 G J g e n,free p.1 p.2 g e n,G,J,d⟩
def Inv.un(I:Inv X pins σ H s)(u:Un X.fs [] H H' s.heap h')(hok:HOk X.prog X.w H' h'):Inv X pins σ H' { s with heap:=h',toks:=t' }:=by
 obtain⟨m,⟨o,k,q,g,r⟩,_⟩:=id I.loc;obtain⟨l,j⟩:=u.any g I.free (by simp);exact I.step (ch:=[]) (λ_ z=>nomatch z) (λb o _ c _ e n=>u.keep b o e n c (by simp)) (λb o _ c _ e n=>u.slot b o e n c (by simp)) (λb o _ e n=>u.free b o e n (by simp)) (λb o _ e=>u.there b o e (by simp)) u.tups u.frzs u.tbls (λt h=>by
  obtain⟨p,d,f,a,i⟩:=h;rw[g]at a;cases a;exact⟨_,d,f,j,i⟩) hok I.bare
def Inv.call(I:Inv X pins σ H s)(u:Un (frs X.stack) ch H H' s.heap h')(hok:HOk X.prog X.w H' h')(hg:gz g')
  (hch:∀b∈ch,(b∈X.ex\/X.s₀.heap.objs.size<=b)/\b≠X.env.locals/\(∀x c,X.env.cells.lookup x=some c->c≠b)/\∀p∈X.pn++pins,p.1≠b) :
  Inv X pins σ H' { s with heap:=h',gens:=g',drawn:=d',toks:=t' }:=by
 obtain⟨m,⟨o,q,y,i,r⟩,_⟩:=id I.loc;obtain⟨t,f⟩:=u.any i I.free λz=>(hch _ z).2.1 rfl;exact I.step hch (λb o f l a e n=>u.keep b o e n (λz=>(aD.mp (I.stkSub b z)).elim f l) a) (λb o _ _ a e n=>u.any e n a) (λb o a e n=>u.free b o e n a) (λb o a e=>u.there b o e a) u.tups u.frzs u.tbls (λA j=>by
  obtain⟨v,g,h,d,k⟩:=j;rw[i]at d;cases d;exact⟨_,g,h,f,k⟩) hok hg
def Inv.turned(I:Inv X pins σ H s)(k:∀b o,b≠it->s.heap.get? b=some o->h'.get? b=some o)(hn:H it=none)(hL:it≠X.env.locals)
  (h1:it∈X.ex\/X.s₀.heap.objs.size<=it) (h2:∀x c,X.env.cells.lookup x=some c->c≠it) (h3:∀p∈X.pn++pins,p.1≠it):Inv X pins σ H { s with heap:=h',toks:=t' }:=by
 have d:∀b u,H b=some u->b≠it:=λb u e z=>by rw[z,hn]at e;cases e
 refine I.step (ch:=[it]) (λb i=>?_) (λb o _ _ a e _=>k b o (λz=>a (by simp[z])) e) (λb o _ _ a e _=>⟨o.slots,k b o (λz=>a (by simp[z])) e⟩) (λ_ _ _ _ n=>n)
  (λb o a e=>⟨o,k b o (λz=>a (by simp[z])) e⟩) (λ_ _ e=>e) (λ_ _ _ e=>e) (λb l e=>⟨#[],by rw[e];simp⟩) (λm h=>?_) (λb u e=>?_) I.bare
 ·have e:b=it:=by simpa using i
  subst e;exact⟨h1,hL,h2,h3⟩
 ·obtain⟨o,f,j,g,r⟩:=h;exact⟨o,f,j,k _ o (Ne.symm hL) g,r⟩
 ·refine (I.hok b u e).stay (λc v a q=>k c v ?_ q) (λ_ q=>q) λ_ _ q=>q;rcases a with z |z
  ·rw[z];exact d b u e
  ·exact d c _ z
def Inv.tok(I:Inv X pins σ H s)(t:Nat):Inv X pins σ H { s with toks:=t }:=I.un Un.refl I.hok
def Inv.kept(I:Inv X pins σ H s)(k:∀b u,s.heap.get? b=some u->h'.get? b=some u):Inv X pins σ H { s with heap:=h',toks:=t' }:=I.un (Un.kept k) (I.hok.kept k)
def Inv.laid(I:Inv X pins σ H s)(k:∀b u,s.heap.get? b=some u->h'.get? b=some u)(hp:s.heap.objs.size<=a)(new:ObjOk X.prog X.w (upd H a o) h' a o) :
  Inv X pins σ (upd H a o) { s with heap:=h',toks:=t' }:=I.un (Un.laid k hp (I.hok.fresh hp)) (I.hok.laid k hp new)
def Inv.write(I:Inv X pins σ H s)(mu:Mut (H x))(he:e=x\/H e=some (.own x))(k:∀b u,b≠e->s.heap.get? b=some u->h'.get? b=some u)(heo:∃u,h'.get? e=some u)
  (new:ObjOk X.prog X.w (upd H x o) h' x o):Inv X pins σ (upd H x o) { s with heap:=h',toks:=t' }:=I.un (Un.write mu he k heo) (I.hok.write mu he k heo new)
def Inv.weak(I:Inv X pins σ H s)(hl:σ'.length=σ.length)(w:∀(i:Nat) v,σ'[i]?=some (some v)->σ[i]?=some (some v)):Inv X pins σ' H s:=
 ⟨I.ok,I.os,I.bare,I.base,by obtain⟨m,hn,hl'⟩:=I.loc;exact⟨m,hn,λi x v b c a=>hl' i x v b (w i v c) a⟩,I.cell,I.free,I.freeC,I.pin,I.hok,hl.trans I.len⟩
def Inv.pins_of(I:Inv X pins σ H s)(h:∀p∈pins',s.heap.get? p.1=some p.2/\H p.1=none/\p.1≠X.env.locals/\p.1∉X.fs/\∀v,p.2.data≠.cell v):Inv X pins' σ H s:=
 ⟨I.ok,I.os,I.bare,I.base,I.loc,I.cell,I.free,I.freeC,λp a=>(aE.mp a).elim (λz=>I.pin p (bP _ z)) (h p),I.hok,I.len⟩
def a7m{N:List Str}(hN:N.Nodup){i j:Nat}(a:N[i]?=some x)(b:N[j]?=some x):i=j:=by
 obtain⟨f,c⟩:=aI.mp a;obtain⟨e,d⟩:=aI.mp b;exact (List.getElem_inj hN).mp (c.trans d.symm)
def a5B(I:Inv X pins σ H s)(hN:X.N.Nodup)(hi:X.N[i]?=some x)(hx:Loc X.env.scope x)(r:RelV v u)
  (h:∀s',Inv X pins (σ.set i (some v)) H s'->(∃a,Heap.SameBut a s.heap s'.heap/\(a=X.env.locals\/X.env.cells.lookup x=some a))->Q () s') (hf:X.fn x=true\/X.env.scope.names.lookup x=some .local):wpAny M A (i9 X.env x u) Q E s:=by
 obtain⟨m,hn,hl⟩:=id I.loc;have hcls:(X.env.scope.kind==.class||(X.env.scope.kind==.module&&X.env.locals != X.env.globals))=false:=by rw[I.ok.kind];rfl
 have U:i<σ.length:=I.len▸(aI.mp hi).1;have J:=I.cne;have B:∀{a:Addr}{G:Heap},(∃o,s.heap.get? a=some o/\H a=none)->Heap.SameBut a s.heap G->HOk X.prog X.w H G:=λ{a G} ha f b ob e=>by
  obtain⟨_,_,F⟩:=ha;refine (I.hok b ob e).stay (λc R l q=>(f.2 c ?_).trans q) (λ_ q=>q) λ_ _ q=>q;rintro rfl;rcases l with rfl |l
  ·rw[F]at e;cases e
  ·rw[F]at l;cases l
 rcases hx with hk |hk
 ·refine wpAny_storeName_local hk hn (λG hn' f=>?_) hcls;obtain⟨oL,_,_,hoL,_⟩:=id hn;refine h _ ⟨I.ok,I.os,I.bare,⟨λb o e n D hx=>((f.2 b (aQ (aZ (Heap.lt_size e) I.ok.above))).trans (I.base.keep b o e n D hx)),λb o e n D hx=>?_,I.base.free,λb o e hx=>?_,I.base.tups,I.base.frzs,I.base.tbls⟩,⟨_,hn',λj y v' g C e3=>?_⟩,λy c e=>?_,I.free,I.freeC,λp hp=>?_,B ⟨oL,hoL,I.free⟩ f,by simpa using I.len⟩ ⟨_,f,.inl rfl⟩
  ·obtain⟨sl,g⟩:=I.base.slot b o e n D hx;exact⟨sl,(f.2 b (aQ (aZ (Heap.lt_size e) I.ok.above))).trans g⟩
  ·obtain⟨o',g⟩:=I.base.there b o e hx;exact⟨o',(f.2 b (aQ (aZ (Heap.lt_size e) I.ok.above))).trans g⟩
  ·by_cases hj:j=i
   ·subst hj;rw[hi]at g;cases g;rw[dJ U]at C;cases C;exact⟨u,r,.inl ⟨hk,by simp⟩⟩
   ·rw[di (Ne.symm hj)]at C;obtain⟨u',r',q⟩:=hl j y v' g C e3;refine⟨u',r',?_⟩;rcases q with ⟨k,e⟩ |⟨k,c,e,z⟩
    ·refine .inl ⟨k,?_⟩
     have:y≠x:=λe=>hj (a7m hN g (e▸hi))
     simp[this,e]
    ·exact .inr ⟨k,c,e,z.sameBut f (J y c e)⟩
  ·obtain⟨R,z⟩:=I.cell y c e;exact⟨R,z.sameBut f (J y c e)⟩
  ·obtain⟨e,n,S,nf,d⟩:=I.pin p hp;exact⟨(f.2 p.1 S).trans e,n,S,nf,d⟩
 ·have L:X.fn x=true:=by
   rcases hf with z |z
   ·exact z
   ·rw[z]at hk;cases hk
  obtain⟨c,l⟩:=I.ok.has x (.inl hk);obtain⟨R,z⟩:=I.cell x c l;refine wpAny_storeName_cell I.ok.kind hk l z (λG Y f=>?_);obtain⟨oc,W,hocd⟩:=id z;refine h { s with heap:=G } ⟨I.ok,I.os,I.bare,⟨λb o e n D hx=>((f.2 b (aQ (aZ (Heap.lt_size e) (I.ok.cab x c L l)))).trans (I.base.keep b o e n D hx)),λb o e n D hx=>?_,I.base.free,λb o e hx=>?_,I.base.tups,I.base.frzs,I.base.tbls⟩,⟨m,hn.sameBut f (Ne.symm (J x c l)),λj y v' g C e3=>?_⟩,λy T e=>?_,I.free,I.freeC,λp hp=>?_,B ⟨oc,W,I.freeC x c l⟩ f,by simpa using I.len⟩ ⟨c,f,.inr l⟩
  ·obtain⟨sl,g⟩:=I.base.slot b o e n D hx;exact⟨sl,(f.2 b (aQ (aZ (Heap.lt_size e) (I.ok.cab x c L l)))).trans g⟩
  ·obtain⟨o',g⟩:=I.base.there b o e hx;exact⟨o',(f.2 b (aQ (aZ (Heap.lt_size e) (I.ok.cab x c L l)))).trans g⟩
  ·by_cases hj:j=i
   ·subst hj;rw[hi]at g;cases g;rw[dJ U]at C;cases C;exact⟨u,r,.inr ⟨.inl hk,c,l,Y⟩⟩
   ·rw[di (Ne.symm hj)]at C;obtain⟨u',r',q⟩:=hl j y v' g C e3;refine⟨u',r',?_⟩;rcases q with q |⟨k,T,e,z'⟩
    ·exact .inl q
    ·refine .inr ⟨k,T,e,z'.sameBut f ?_⟩;rintro rfl;exact hj (a7m hN g (I.ok.inj _ _ _ e l▸hi))
  ·by_cases hcc:T=c
   ·subst hcc;exact⟨_,Y⟩
   ·obtain⟨w2,z2⟩:=I.cell y T e;exact⟨w2,z2.sameBut f hcc⟩
  ·obtain⟨e,n,S,nf,d⟩:=I.pin p hp;refine⟨(f.2 p.1 ?_).trans e,n,S,nf,d⟩;intro q;rw[q,W]at e;exact d R ((bv.inj e)▸hocd)
def a4S(I:Inv X pins σ H s)(hN:X.N.Nodup)(hi:X.N[i]?=some x)(hx:Loc X.env.scope x)(r:RelV v u)
  (h:∀s',Inv X pins (σ.set i (some v)) H s'->Q () s') (hf:X.fn x=true\/X.env.scope.names.lookup x=some .local):wpAny M A (i9 X.env x u) Q E s:=
 a5B I hN hi hx r (λa b _=>h a b) hf
def Inv.call'(I:Inv X pins σ H s)(ho:s'.os=s.os)(u:Un (frs X.stack) ch H H' s.heap s'.heap)(hok:HOk X.prog X.w H' s'.heap)(hg:gz s'.gens)
  (hch:∀b∈ch,(b∈X.ex\/X.s₀.heap.objs.size<=b)/\b≠X.env.locals/\(∀x c,X.env.cells.lookup x=some c->c≠b)/\∀p∈X.pn++pins,p.1≠b):Inv X pins σ H' s':=by
 obtain⟨h',g',d',t',g⟩:=s';have e:=ho;subst e;exact I.call u hok hg hch
end
abbrev XK:=Value->Option Addr->Hp->Prop
abbrev St:=List (Option V)
abbrev VK:=V->Hp->Prop
abbrev TE:=St->Hp->VK->Prop
abbrev TT:=St->Hp->(Bool->Hp->Prop)->Prop
abbrev TA:=St->Hp->(List V->Hp->Prop)->Prop
structure Ends where
 nx:St->Hp->Prop
 rt:VK
 bk:St->Hp->Prop:=λ_ _=>False
 ct:St->Hp->Prop:=λ_ _=>False
abbrev TS:=Ends->St->Hp->Prop
def EP(X:Cx)(pins:List (Addr×Obj))(σ:St)(Q:VK)(u:Value)(s':Shared):Prop:=∃v H',Inv X pins σ H' s'/\RelV v u/\Q v H'
def TP(X:Cx)(pins:List (Addr×Obj))(σ:St)(Q:Bool->Hp->Prop)(b:Bool)(s':Shared):Prop:=∃H',Inv X pins σ H' s'/\Q b H'
def AP(X:Cx)(pins:List (Addr×Obj))(σ:St)(Q:List V->Hp->Prop)(us:List Value)(s':Shared):Prop:=∃vs H',Inv X pins σ H' s'/\Vals vs us/\Q vs H'
def SP(X:Cx)(pins:List (Addr×Obj))(D:Ends)(f:Flow)(s':Shared):Prop:=
 match f with
 |.next=>∃σ' H',Inv X pins σ' H' s'/\D.nx σ' H'
 |.brk=>∃σ' H',Inv X pins σ' H' s'/\D.bk σ' H'
 |.cont=>∃σ' H',Inv X pins σ' H' s'/\D.ct σ' H'
 |.ret u=>∃v σ' H',Inv X pins σ' H' s'/\RelV v u/\D.rt v H'
def PE(X:Cx)(e:Expr)(t:TE):Prop:=
 ∀(pins:List (Addr×Obj))(s:Shared)(σ:St)(H:Hp)(Q:VK),Inv X pins σ H s->t σ H Q->wpAny (model X.prog X.w) X.A (eval e X.env) (EP X pins σ Q) X.xe s
def PT(X:Cx)(e:Expr)(t:TT):Prop:=
 ∀(pins:List (Addr×Obj))(s:Shared)(σ:St)(H:Hp)(Q:Bool->Hp->Prop),Inv X pins σ H s->t σ H Q->wpAny (model X.prog X.w) X.A (isTrue e X.env (eval e X.env)) (TP X pins σ Q) X.xe s
def PW(X:Cx)(e:Expr)(t:TT):Prop:=
 ∀(whole:Sem Value)(pins:List (Addr×Obj))(s:Shared)(σ:St)(H:Hp)(Q:Bool->Hp->Prop),Inv X pins σ H s->t σ H Q->wpAny (model X.prog X.w) X.A (isTrue e X.env whole) (TP X pins σ Q) X.xe s
def PW.pt(h:PW X e t):PT X e t:=h _
def PA(X:Cx)(es:List Expr)(t:TA):Prop:=
 ∀(pos:Pos)(pins:List (Addr×Obj))(s:Shared)(σ:St)(H:Hp)(Q:List V->Hp->Prop),Inv X pins σ H s->t σ H Q->wpAny (model X.prog X.w) X.A (spliced (backTo pos (fL es X.env))) (AP X pins σ Q) X.xe s
def PS(X:Cx)(st:Stmt)(t:TS):Prop:=
 ∀(pins:List (Addr×Obj))(s:Shared)(σ:St)(H:Hp)(D:Ends),Inv X pins σ H s->t D σ H->wpAny (model X.prog X.w) X.A (exec st X.env) (SP X pins D) X.xe s
def PSs(X:Cx)(st:List Stmt)(t:TS):Prop:=
 ∀(pins:List (Addr×Obj))(s:Shared)(σ:St)(H:Hp)(D:Ends),Inv X pins σ H s->t D σ H->wpAny (model X.prog X.w) X.A (execs st X.env) (SP X pins D) X.xe s
def thn{α:Type}{t:Sem α}{Q Q':α->Shared->Prop}(h:wpAny M A t Q E s)(hQ:∀a s,Q a s->Q' a s):wpAny M A t Q' E s:=fS h hQ λ_ _ x=>x
section
variable{X:Cx}
def tVar(i:Nat):TE:=fun σ H Q=>∃v,σ[i]?=some (some v)/\Q v H
def tC(v:V):TE:=λ_ H Q=>Q v H
def a9g(hN:X.N[i]?=some x)(hv:Vis X.env.scope x)(hd:(x==("__debug__":Str))=false:=by decide)(hcd:(x==("__classdict__":Str))=false:=by decide):PE X (.Name x pos) (tVar i):=by
 intro b s σ H Q I h;obtain⟨v,e,h⟩:=h;obtain⟨m,f,d⟩:=I.loc;obtain⟨u,r,l⟩:=d i x v hN e hv;have a:EP X b σ Q u s:=⟨v,H,I,r,h⟩;rcases l with ⟨hk,hm⟩ |⟨hk,c,hc,hcell⟩
 ·exact ja (wpAny_loadName_local I.ok.kind hk f hm a) hd
 ·rcases hk with hk |hk
  ·exact ja (wpAny_loadName_cell I.ok.kind hk hc hcell a) hd
  ·exact ja (wpAny_loadName_free I.ok.kind hk hc hcell a hcd) hd
def b6w:PE X (.Constant (.int i) j pos) (tC (.int i)):=λ_ _ _ H _ I h=>wpAny_Constant_int ⟨.int i,H,I.tok _,⟨_,rfl⟩,h⟩
def b9x:PE X (.Constant (.bool b) j pos) (tC (.bl b)):=λ_ _ _ H _ I h=>Constant_bool ⟨.bl b,H,I,rfl,h⟩
def b6x:PE X (.Constant .none j pos) (tC .non):=λ_ _ _ H _ I h=>Constant_none ⟨.non,H,I,rfl,h⟩
def b6y:PE X (.Constant (.str x) j pos) (tC (.str x)):=λ_ _ _ H _ I h=>Calls.Constant_str ⟨.str x,H,I.tok _,⟨_,rfl⟩,h⟩
def Gl(X:Cx)(x:Str):Prop:=X.env.kindOf x=some .globalImplicit
def a6u(I:Inv X pins σ H s)(hg:Gl X x)(hm:X.mg x=some u)(h:Q u s)
  (hd:(x==("__debug__":Str))=false:=by decide):wpAny (model X.prog X.w) X.A (eval (.Name x pos) X.env) Q E s:=
 Calls.Name_function_global I.ok.kind hg (Calls.loadGlobal_global (I.ok.glob▸I.mod.glob.keeps I.bk) hm h) hd
def a3x(I:Inv X pins σ H s)(hg:Gl X x)(hm:X.mg x=none)(hv:gc x=some u)(h:Q u s)
  (hn:x≠"__name__":=by decide) (hd:(x==("__debug__":Str))=false:=by decide):wpAny (model X.prog X.w) X.A (eval (.Name x pos) X.env) Q E s:=by
 obtain⟨c,b,a⟩:=I.mod.blt;exact Calls.Name_function_global I.ok.kind hg (Calls.loadGlobal_builtin (I.ok.glob▸I.mod.glob.keeps I.bk) hm (I.ok.blt▸b.keeps I.bk) ((a x hn).trans hv) h) hd
def b4k(hg:Gl X x)(hm:X.mg x=some u)(r:RelV v u)(hd:(x==("__debug__":Str))=false):PE X (.Name x pos) (tC v):=
 λ_ _ _ H _ I h=>a6u I hg hm ⟨v,H,I,r,h⟩ hd
def a4T(hg:Gl X x)(hm:X.mg x=none)(hv:gc x=some u)(r:RelV v u)(hn:x≠"__name__":=by decide)(hd:(x==("__debug__":Str))=false:=by decide):PE X (.Name x pos) (tC v):=
 λ_ _ _ H _ I h=>a3x I hg hm hv ⟨v,H,I,r,h⟩ hn hd
variable{a b:Expr}{ta tb:TE}{pos:Pos}
def PC(X:Cx)(op:CmpOp)(a b:Expr)(t:TE):Prop:=
 ∀(pins:List (Addr×Obj))(s:Shared)(σ:St)(H:Hp)(Q:VK),Inv X pins σ H s->t σ H Q ->
  wpAny (model X.prog X.w) X.A (eval a X.env) (λv sj=>wpAny (model X.prog X.w) X.A (eval b X.env) (λu sv=>wpAny (model X.prog X.w) X.A (fN op v u) (EP X pins σ Q) X.xe sv) X.xe sj) X.xe s
noncomputable def tB(t:TE):TT:=fun σ H Q=>t σ H λx H1=>∃c,x=.bl c/\Q c H1
def b6z(h:PE X e t)(he:∀whole,isTrue e X.env whole=(do let v <- whole;gx e.pos;f6 [v] (truthy v)):=by intro _;rfl):PT X e (tB t):=by
 intro a s σ H Q I f;refine isTrue_plain (thn (h a s σ H _ I f) λv j ⟨x,b,i,g,c⟩=>?_) (he _);obtain⟨d,rfl,q⟩:=c;cases g;exact gH ⟨b,i,q⟩
variable{tA tB':TT}{rest:List Expr}
def tAnd(t u:TT):TT:=fun σ H Q=>t σ H λc H1=>if c=true then u σ H1 Q else Q false H1
def tOr(t u:TT):TT:=fun σ H Q=>t σ H λc H1=>if c=true then Q true H1 else u σ H1 Q
def tNot(t:TT):TT:=fun σ H Q=>t σ H λc H1=>Q (!c) H1
def b4l(ha:PT X a tA):PW X (.BoolOp .And [a] pos) tA:=by
 intro f b s σ H Q I h;refine isTrue_and (thn (ha b s σ H Q I h) λc d e=>?_);cases c with
 |true=>exact isTrue_and_nil e
 |false=>exact e
def b6A(ha:PT X a tA):PW X (.BoolOp .Or [a] pos) tA:=by
 intro f b s σ H Q I h;refine isTrue_or (thn (ha b s σ H Q I h) λc d e=>?_);cases c with
 |false=>exact isTrue_or_nil e
 |true=>exact e
def b6B(ha:PT X a tA)(hb:PW X (.BoolOp .And (b::rest) pos) tB'):PW X (.BoolOp .And (a::b::rest) pos) (tAnd tA tB'):=by
 intro j d s σ H Q I h;refine isTrue_and (thn (ha d s σ H _ I h) λc i Y=>Y.elim λe Y=>Y.elim λg f=>?_);cases c with
 |true=>exact hb j d i σ e Q g f
 |false=>exact⟨e,g,f⟩
def b9y(ha:PT X a tA)(hb:PW X (.BoolOp .Or (b::rest) pos) tB'):PW X (.BoolOp .Or (a::b::rest) pos) (tOr tA tB'):=by
 intro j d s σ H Q I h;refine isTrue_or (thn (ha d s σ H _ I h) λc i Y=>Y.elim λg Y=>Y.elim λe f=>?_);cases c with
 |true=>exact⟨g,e,f⟩
 |false=>exact hb j d i σ g Q e f
def b6C(ha:PT X a tA):PT X (.UnaryOp .Not a pos) (tNot tA):=λb s σ H Q I h=>isTrue_not (ha b s σ H _ I h)
def b9z(ta tb:TE):TE:=fun σ H Q=>ta σ H λx H1=>∃c,x=.bl c/\if c=true then tb σ H1 Q else Q (.bl false) H1
def tOrV(ta tb:TE):TE:=fun σ H Q=>ta σ H λx H1=>∃c,x=.bl c/\if c=true then Q (.bl true) H1 else tb σ H1 Q
def b9A(ta:TE):TE:=fun σ H Q=>ta σ H λx H1=>∃c,x=.bl c/\Q (.bl (!c)) H1
def b6D(h:PE X a t):PE X (.BoolOp op [a] pos) t:=λb s σ H Q I c=>BoolOp_one (h b s σ H Q I c)
def b6E(ha:PE X a ta)(hb:PE X (.BoolOp .And (b::rest) pos) tb):PE X (.BoolOp .And (a::b::rest) pos) (b9z ta tb):=by
 intro d s σ H Q I h;refine BoolOp_and (thn (ha d s σ H _ I h) λv j ⟨x,f,g,i,e⟩=>?_);obtain⟨c,rfl,e⟩:=e;cases i;refine gH ?_;cases c with
 |true=>exact hb d j σ f Q g e
 |false=>exact⟨.bl false,f,g,rfl,e⟩
def b9B(ha:PE X a ta)(hb:PE X (.BoolOp .Or (b::rest) pos) tb):PE X (.BoolOp .Or (a::b::rest) pos) (tOrV ta tb):=by
 intro d s σ H Q I h;refine BoolOp_or (thn (ha d s σ H _ I h) λv i ⟨x,g,f,j,e⟩=>?_);obtain⟨c,rfl,e⟩:=e;cases j;refine gH ?_;cases c with
 |false=>exact hb d i σ g Q f e
 |true=>exact⟨.bl true,g,f,rfl,e⟩
def b6F(ha:PE X a ta):PE X (.UnaryOp .Not a pos) (b9A ta):=by
 intro b s σ H Q I h;refine UnaryOp_ (thn (ha b s σ H _ I h) λv i ⟨x,g,f,e,d⟩=>?_);obtain⟨c,rfl,d⟩:=d;cases e;exact not_of (gH ⟨.bl (!c),g,f,rfl,d⟩)
def tIf(t:TT)(ta tb:TE):TE:=fun σ H Q=>t σ H λc H1=>if c=true then ta σ H1 Q else tb σ H1 Q
def b1H(hc:PT X c tA)(ha:PE X a ta)(hb:PE X b tb):PE X (.IfExp c a b pos) (tIf tA ta tb):=by
 intro e s σ H Q I h;refine wpAny_IfExp (thn (hc e s σ H _ I h) λd j Y=>Y.elim λi Y=>Y.elim λf g=>?_);cases d with
 |true=>exact ha e j σ i Q f g
 |false=>exact hb e j σ i Q f g
end
def SqL(K:Fg)(H:Hp)(a:Addr)(xs:List V):Prop:=
 Rd H a (.lst xs) \/
  ∃(o:Obj)(its:Array Value)(n:Nat),K.lookup a=some o/\o.cls=.type "list"/\o.dict=none/\o.data=.seq its n/\its.size<=fH/\Vals xs its.toList
def SqT(K:Fg)(H:Hp)(a:Addr)(xs:List V):Prop:=
 Rd H a (.tup xs) \/
  ∃(o:Obj)(its:Array Value)(n:Nat),K.lookup a=some o/\o.cls=.type "tuple"/\o.data=.seq its n/\its.size<=fH/\Vals xs its.toList
noncomputable def absV:Value->Option V
 |.none=>some .non
 |.bool b=>some (.bl b)
 |.int i _=>some (.int i)
 |.str x _=>some (.str x)
 |.bytes b _=>some (.byt b)
 |.float b _=>some (.flt b)
 |.ref a=>some (.ref a)
 |.type n=>some (.ty n)
 |_=>none
def RelV.abs(r:RelV x u):absV u=some x:=by
 cases x with
 |non=>cases r;rfl
 |bl _=>cases r;rfl
 |int _=>obtain⟨t,rfl⟩:=r;rfl
 |str _=>obtain⟨t,rfl⟩:=r;rfl
 |byt _=>obtain⟨t,rfl⟩:=r;rfl
 |flt _=>obtain⟨t,rfl⟩:=r;rfl
 |ref _=>cases r;rfl
 |ty _=>cases r;rfl
def RelV.inj(r:RelV x u)(q:RelV y u):x=y:=bv.inj (r.abs.symm.trans q.abs)
def Vals.inj:∀{xs ys:List V}{us:List Value},Vals xs us->Vals ys us->xs=ys:=by
 intro xs ys us h
 induction h generalizing ys with
 |nil=>intro k;cases k;rfl
 |cons r t ih=>
  intro k;cases k with
  |cons r' t'=>rw[r.inj r',ih t']
section
variable{X:Cx}{pins:List (Addr×Obj)}{σ:St}{H:Hp}{s:Shared}{a:Addr}{xs ys:List V}
def SqL.of{K:Fg}(h:H a=some (.lst xs)):SqL K H a xs:=.inl (.inl h)
def SqT.of{K:Fg}(h:H a=some (.tup xs)):SqT K H a xs:=.inl (.inl h)
def Inv.list(I:Inv X pins σ H s)(h:SqL X.K H a xs):∃its:List Value,Vals xs its/\PlainL s.heap a its.toArray/\xs.length<=sizeLine:=by
 rcases h with h |⟨o,b,n,hk,hc,hd,hs,hz,r⟩
 ·obtain⟨z,b,n,r,e⟩:=h.ok I.hok;exact⟨b,r,⟨_,n,e,rfl,rfl,rfl⟩,z⟩
 ·refine⟨b.toList,r,⟨o,n,I.kIn a o hk,hc,hd,by simpa using hs⟩,?_⟩;have e:=r.length;simp at e
  lia
def Inv.tuple(I:Inv X pins σ H s)(h:SqT X.K H a xs):∃its:List Value,Vals xs its/\IsTup s.heap a its.toArray/\xs.length<=sizeLine:=by
 rcases h with h |⟨o,b,n,hk,hc,hs,hz,r⟩
 ·obtain⟨z,b,r,p⟩:=h.ok I.hok;exact⟨b,r,p,z⟩
 ·refine⟨b.toList,r,⟨o,I.kIn a o hk,hc,n,by simpa using hs⟩,?_⟩;have e:=r.length;simp at e
  lia
def Inv.list_inj(I:Inv X pins σ H s)(h:SqL X.K H a xs)(h':SqL X.K H a ys):xs=ys:=by
 obtain⟨f,r,⟨o,n,e,_,_,d⟩,_⟩:=I.list h;obtain⟨b,i,⟨j,k,c,_,_,g⟩,_⟩:=I.list h'
 have:f=b:=by grind
 subst this;exact r.inj i
def Inv.tuple_inj(I:Inv X pins σ H s)(h:SqT X.K H a xs)(h':SqT X.K H a ys):xs=ys:=by
 obtain⟨f,r,⟨o,e,_,n,d⟩,_⟩:=I.tuple h;obtain⟨b,i,⟨j,c,_,k,g⟩,_⟩:=I.tuple h'
 have:f=b:=by grind
 subst this;exact r.inj i
end
abbrev Cx.wish(X:Cx)(E:Value->Shared->Prop):Cx:={ X with xe:=E }
abbrev Cx.nox(X:Cx):Cx:=X.wish λ_ _=>False
noncomputable def Cx.Ok.wish{X:Cx}(ok:X.Ok)(E:Value->Shared->Prop):(X.wish E).Ok:=
 ⟨ok.mod,ok.kind,ok.glob,ok.blt,ok.above,ok.inj,ok.has,ok.cab,ok.hd,ok.frames,ok.stk,ok.exf,ok.bs,ok.bsz,ok.noex,ok.exfs,ok.funs,ok.frf⟩
def Cx.Ok.unwish{X:Cx}(ok:(X.wish E).Ok):X.Ok:=
 ⟨ok.mod,ok.kind,ok.glob,ok.blt,ok.above,ok.inj,ok.has,ok.cab,ok.hd,ok.frames,ok.stk,ok.exf,ok.bs,ok.bsz,ok.noex,ok.exfs,ok.funs,ok.frf⟩
section
variable{X:Cx}{pins:List (Addr×Obj)}{σ:St}{H:Hp}{s:Shared}{E:Value->Shared->Prop}
noncomputable def Inv.wish(I:Inv X pins σ H s)(E:Value->Shared->Prop):Inv (X.wish E) pins σ H s:=⟨I.ok.wish E,I.os,I.bare,I.base,I.loc,I.cell,I.free,I.freeC,I.pin,I.hok,I.len⟩
def Inv.unwish(I:Inv (X.wish E) pins σ H s):Inv X pins σ H s:=⟨I.ok.unwish,I.os,I.bare,I.base,I.loc,I.cell,I.free,I.freeC,I.pin,I.hok,I.len⟩
def SP.unwish(h:SP (X.wish E) pins D f s'):SP X pins D f s':=by
 cases f with
 |next=>obtain⟨σ',H',I,q⟩:=h;exact⟨σ',H',I.unwish,q⟩
 |brk=>obtain⟨σ',H',I,q⟩:=h;exact⟨σ',H',I.unwish,q⟩
 |cont=>obtain⟨σ',H',I,q⟩:=h;exact⟨σ',H',I.unwish,q⟩
 |ret u=>obtain⟨v,σ',H',I,r,q⟩:=h;exact⟨v,σ',H',I.unwish,r,q⟩
noncomputable def PE.nox(h:PE X.nox e t):PE X e t:=λa s σ H Q I d=>
 fS (h a s σ H Q (I.wish _) d) (by rintro _ _ ⟨v,b,c,r,q⟩;exact⟨v,b,c.unwish,r,q⟩) λ_ _ z=>aH z
noncomputable def PT.nox(h:PT X.nox e t):PT X e t:=λa s σ H Q I d=>
 fS (h a s σ H Q (I.wish _) d) (by rintro _ _ ⟨c,b,q⟩;exact⟨c,b.unwish,q⟩) λ_ _ z=>aH z
noncomputable def PSs.nox{st:List Stmt}(h:PSs X.nox st t):PSs X st t:=λa s σ H D I b=>
 fS (h a s σ H D (I.wish _) b) (λ_ _ q=>q.unwish) λ_ _ z=>aH z
end
section
variable{X:Cx}{st:Stmt}{rest:List Stmt}{t u:TS}{e:Expr}{te:TE}{pos:Pos}
def b6G:TS:=λD σ H=>D.nx σ H
def tSeq(t u:TS):TS:=λD σ H=>t { D with nx:=u D } σ H
def b4m:PSs X [] b6G:=λ_ _ σ H _ I h=>iM ⟨σ,H,I,h⟩
def a7n(h1:PS X st t)(h2:PSs X rest u):PSs X (st::rest) (tSeq t u):=by
 intro a s σ H D I h;refine wpAny_execs_cons (thn (h1 a s σ H { D with nx:=u D } I h) λf b q=>?_);cases f with
 |next=>
  obtain⟨σ',H',I',q⟩:=q;exact h2 a b σ' H' D I' q
 |ret v=>exact q
 |brk=>exact q
 |cont=>exact q
def b4n(h1:PS X st t):PSs X [st] t:=by
 intro a s σ H D I h;refine wpAny_execs_cons (thn (h1 a s σ H D I h) λf b q=>?_);cases f with
 |next=>exact iM q
 |ret v=>exact q
 |brk=>exact q
 |cont=>exact q
def b6H:TS:=λD σ H=>D.bk σ H
def b9C:TS:=λD σ H=>D.ct σ H
def b4o:PS X (.Pass pos) b6G:=λ_ _ σ H _ I h=>wpAny_Pass ⟨σ,H,I,h⟩
def b1I:PS X (.Break pos) b6H:=λ_ _ σ H _ I h=>wpAny_Break ⟨σ,H,I,h⟩
def a6v:PS X (.Continue pos) b9C:=λ_ _ σ H _ I h=>wpAny_Continue ⟨σ,H,I,h⟩
def Inv.quiet(I:Inv X pins σ H s):interactive X.env=false:=by simp[interactive,I.ok.kind]
def b9D(te:TE):TS:=λD σ H=>te σ H λ_ H1=>D.nx σ H1
def b4p(he:PE X e te)(hs:gI e none pos.line X.env=pure false):PS X (.Expr e pos) (b9D te):=λa s σ H D I h=>wpAny_Expr_any (thn (he a s σ H _ I h) λv f ⟨x,d,c,g,b⟩=>⟨σ,d,c,b⟩) I.quiet hs
def tRet(te:TE):TS:=λD σ H=>te σ H D.rt
def b6I(he:PE X e te):PS X (.Return (some e) pos) (tRet te):=λa s σ H D I h=>wpAny_Return_some (thn (he a s σ H _ I h) λv g ⟨x,c,b,f,d⟩=>⟨x,σ,c,b,f,d⟩)
def b9E:TS:=λD _ H=>D.rt .non H
def b4q:PS X (.Return none pos) b9E:=λ_ _ σ H _ I h=>wpAny_Return_none ⟨.non,σ,H,I,rfl,h⟩
def tIfS(c:TT)(t u:TS):TS:=λD σ H=>c σ H λb H1=>if b=true then t D σ H1 else u D σ H1
def b9F(hc:PT X c tc)(ha:PSs X a t)(hb:PSs X b u):PS X (.If c a b pos) (tIfS tc t u):=by
 intro e s σ H D I h;refine wpAny_If (thn (hc e s σ H _ I h) λd f Y=>Y.elim λg Y=>Y.elim λi j=>?_);cases d with
 |true=>exact ha e f σ g D i j
 |false=>exact hb e f σ g D i j
end
abbrev TG:=V->St->Hp->(St->Hp->Prop)->Prop
abbrev TGs:=List V->St->Hp->(St->Hp->Prop)->Prop
def PG(X:Cx)(target:Expr)(t:TG):Prop:=
 ∀(pins:List (Addr×Obj))(s:Shared)(σ:St)(H:Hp)(v:V)(u:Value)(Q:St->Hp->Prop),Inv X pins σ H s->RelV v u->t v σ H Q ->
  wpAny (model X.prog X.w) X.A (assign target X.env u) (λ_ s'=>∃σ' H',Inv X pins σ' H' s'/\Q σ' H') X.xe s
def PGs(X:Cx)(ts:List Expr)(t:TGs):Prop:=
 ∀(pins:List (Addr×Obj))(s:Shared)(σ:St)(H:Hp)(vs:List V)(us:List Value)(Q:St->Hp->Prop),Inv X pins σ H s->Vals vs us->t vs σ H Q ->
  wpAny (model X.prog X.w) X.A (assignInOrder ((gC ts X.env).map (·.2)) us) (λ_ s'=>∃σ' H',Inv X pins σ' H' s'/\Q σ' H') X.xe s
abbrev TSet:=V->V->V->Hp->(Hp->Prop)->Prop
def PSet(X:Cx)(t:TSet):Prop:=
 ∀(pins:List (Addr×Obj))(s:Shared)(σ:St)(H:Hp)(o i v:V)(ov iv u:Value)(Q:Hp->Prop),Inv X pins σ H s->RelV o ov->RelV i iv->RelV v u->t o i v H Q ->
  wpAny (model X.prog X.w) X.A (iN ov iv u) (λ_ s'=>∃H',Inv X pins σ H' s'/\Q H') X.xe s
abbrev TIp:=V->V->Hp->VK->Prop
def PIp(X:Cx)(op:Operator)(t:TIp):Prop:=
 ∀(pins:List (Addr×Obj))(s:Shared)(σ:St)(H:Hp)(x y:V)(v u:Value)(Q:VK),Inv X pins σ H s->RelV x v->RelV y u->t x y H Q ->
  wpAny (model X.prog X.w) X.A (gK op v u) (EP X pins σ Q) X.xe s
section
variable{X:Cx}{pos:Pos}
def a9h(i:Nat):TG:=λv σ H Q=>Q (σ.set i (some v)) H
def a9i(hN:X.N.Nodup)(hi:X.N[i]?=some x)(hx:Loc X.env.scope x)(hf:X.fn x=true\/X.env.scope.names.lookup x=some .local):PG X (.Name x pos) (a9h i):=λb s σ H v u Q I r h=>wpAny_assign_Name (a4S I hN hi hx r (λc a=>⟨_,H,a,h⟩) hf)
def gNil:TGs:=λvs σ H Q=>vs=[]/\Q σ H
def b6J(t:TG)(u:TGs):TGs:=λvs σ H Q=>∃v r,vs=v::r/\t v σ H fun σ' H'=>u r σ' H' Q
def b4r:PGs X [] gNil:=by
 intro a s σ H b c Q I r h;obtain⟨e,h⟩:=h;subst e;exact assignInOrder_nil ⟨σ,H,I,h⟩
def b1J(h1:PG X e t)(h2:PGs X es u)
  (hs:(gC (e::es) X.env).map (·.2)=assign e X.env::(gC es X.env).map (·.2):=by rfl):PGs X (e::es) (b6J t u):=by
 intro a s σ H k i Q I r h;obtain⟨v,j,g,h⟩:=h;subst g;cases r with
 |cons r rr=>
  rw[hs];exact assignInOrder_cons (thn (h1 a s σ H _ _ _ I r h) λ_ f ⟨σ1,d,b,c⟩=>(h2 a f σ1 d _ _ Q b rr c))
def gTup(K:Fg)(n:Nat)(t:TGs):TG:=λv σ H Q=>∃a xs,v=.ref a/\SqT K H a xs/\xs.length=n/\t xs σ H Q
def b6K(hc:X.calm=true)(h:PGs X es t)
  (hn:(gC es X.env).length=n) (hst:(gC es X.env).findIdx? (·.1)=none):PG X (.Tuple es k pos) (gTup X.K n t):=by
 intro c s σ H v u Q I r d;obtain⟨a,i,q,m,l,d⟩:=d;subst q;cases r;obtain⟨x,f,p,y⟩:=I.tuple m;exact assign_Tuple_tuple (I.ok.hd hc) p (by simp[hn,<- l,f.length]) hst λw j=>(h c _ σ H i _ Q (I.kept (t':=s.toks) λb o e=>j b o (aQ (Heap.lt_size e)) e) (by omega) d)
def gSub(to ti:TE)(t:TSet):TG:=λv σ H Q=>to σ H λo H1=>ti σ H1 λi H2=>t o i v H2 λH3=>Q σ H3
def b6L(ho:PE X o to)(hi:PE X i ti)(hs:PSet X t)
  (ha:∀v,assign (.Subscript o i pos) X.env v=(do
   let ov <- f6 [v] (eval o X.env)
   let iv <- f6 [v,ov] (eval i X.env)
   gx pos
   f6 [v,ov,iv] (iN ov iv v)
   release [v,ov,iv] []):=by intro _;rfl):PG X (.Subscript o i pos) (gSub to ti t):=by
 intro a s σ H v u Q I r h;rw[ha];exact fF (fZ (thn (ho a s σ H _ I h) λl n ⟨x,c,e,g,p⟩=>(fF (fZ (thn (hi a n σ c _ e p) λm q ⟨y,f,w,b,k⟩=>(fF (jc (fF (fZ (thn (hs a q σ f x y v l m u _ w g b r k) λ_ A Y=>Y.elim λj Y=>Y.elim λz d=>(wpAny_release ⟨σ,j,z,d⟩)))))))))))
def tAsg(te:TE)(g:TG):TS:=λD σ H=>te σ H λx H1=>g x σ H1 D.nx
def b3u(he:PE X e te)(hg:PG X tg g)(hs:jd [tg] e pos.line X.env=pure false)(hw:je [tg] e X.env=pure none)
  (h1:(gC [tg] X.env).map (·.2)=[assign tg X.env]):PS X (.Assign [tg] e pos) (tAsg te g):=by
 intro a s σ H D I h;refine wpAny_Assign_stores (thn (he a s σ H _ I h) λv c ⟨x,d,b,i,f⟩=>?_) hs hw;rw[h1];exact thn (hg a c σ d x v _ b i f) λ_ j q=>q
def b6M(hN:X.N.Nodup)(hi:X.N[i]?=some x)(hx:Loc X.env.scope x)(he:PE X e te)(hs:gI e (some (.Name x pos')) pos.line X.env=pure false)(hf:X.fn x=true\/X.env.scope.names.lookup x=some .local) :
  PS X (.Assign [.Name x pos'] e pos) (tAsg te (a9h i)):=by
 intro a s σ H D I h;refine wpAny_Assign_Name (thn (he a s σ H _ I h) λv j ⟨y,f,d,c,g⟩=>?_) hs;exact a4S d hN hi hx c (λk b=>⟨_,f,b,g⟩) hf
def tAug(i:Nat)(te:TE)(ti:TIp):TS:=λD σ H=>∃x,σ[i]?=some (some x)/\te σ H λy H1=>ti x y H1 λz H2=>D.nx (σ.set i (some z)) H2
def b6N(hN:X.N.Nodup)(hi:X.N[i]?=some x)(hx:Loc X.env.scope x)(he:PE X e te)(ho:PIp X op ti)(hf:X.fn x=true\/X.env.scope.names.lookup x=some .local) :
  PS X (.AugAssign (.Name x pos') op e pos) (tAug i te ti):=by
 intro a s σ H D I h;obtain⟨v,f,h⟩:=h;obtain⟨m,g,j⟩:=I.loc;have b:Vis X.env.scope x:=by rcases hx with k |k;exact .inl k;exact .inr (.inl k)
 obtain⟨u,r,l⟩:=j i x v hi f b;refine wpAny_AugAssign_Name ?_;have d:wpAny (model X.prog X.w) X.A (eval e X.env) (λw B=>wpAny (model X.prog X.w) X.A (gK op u w) (λr G=>wpAny (model X.prog X.w) X.A (i9 X.env x r) (λ_=>SP X a D .next) X.xe G) X.xe B) X.xe s:=by
  exact thn (he a s σ H _ I h) λw C ⟨y,n,p,F,t⟩=>(thn (ho a C σ n v y u w _ p r F t) λz Q ⟨M,E,o,L,J⟩=>(a4S o hN hi hx L (λR q=>⟨_,E,q,J⟩) hf))
 rcases l with ⟨hk,hm⟩ |⟨hk,c,hc,hcell⟩
 ·exact wpAny_loadName_local I.ok.kind hk g hm d
 ·rcases hk with hk |hk
  ·exact wpAny_loadName_cell I.ok.kind hk hc hcell d
  ·rcases hx with k |k
   ·have:X.env.scope.names.lookup x=some .free:=hk
    rw[k]at this;cases this
   ·have:X.env.scope.names.lookup x=some .free:=hk
    rw[k]at this;cases this
end
section
variable{X:Cx}{pos:Pos}
def b6O(c:TT)(tb:TS):TS:=λD σ H=>∃W:Nat->St->Hp->Prop,(∃m,W m σ H)/\∀m σ H,W m σ H ->
 c σ H λb H1=>if b=true then ∃N:St->Hp->Prop,(∀σ' H',N σ' H'->∃m',m'<m/\W m' σ' H')/\tb { D with nx:=N,ct:=N,bk:=D.nx } σ H1 else D.nx σ H1
def b1K(hp:fW (model X.prog X.w) X.A X.env X.xe)(hc:PT X c tc)(hb:PSs X body tb):PS X (.While c body [] pos) (b6O tc tb):=by
 intro a s σ H D I h;obtain⟨W,⟨z,y⟩,g⟩:=h;refine wpAny_While (codeAny_whileLoop (λn t=>∃σ' H',Inv X a σ' H' t/\W n σ' H') ?_ z ⟨σ,H,I,y⟩);rintro n x ⟨σ1,q,r,u⟩;refine g8 hp (thn (hc a x σ1 q _ r (g n σ1 q u)) λb B Y=>Y.elim λo Y=>Y.elim λm e=>?_);cases b with
 |true=>
  obtain⟨N,p,e⟩:=e;refine g8 hp (thn (hb a B σ1 o _ m e) λf C d=>?_);cases f with
  |next=>
   obtain⟨σ3,H3,I3,k⟩:=d;obtain⟨j,l,i⟩:=p σ3 H3 k;exact⟨j,l,σ3,H3,I3,i⟩
  |cont=>
   obtain⟨σ3,H3,I3,k⟩:=d;obtain⟨j,l,i⟩:=p σ3 H3 k;exact⟨j,l,σ3,H3,I3,i⟩
  |brk=>exact d
  |ret v=>exact d
 |false=>
  exact iM ⟨σ1,o,m,e⟩
end
structure It where
 go:Nat->Hp->Prop
 yld:Nat->Hp->V->Hp->Prop
 stop:Nat->Hp->Prop
def FpOk(X:Cx)(pins:List (Addr×Obj))(H:Hp)(b:Addr):Prop:=
 H b=none/\b≠X.env.locals/\b∉X.fs/\(b∈X.ex\/X.s₀.heap.objs.size<=b)/\(∀x c,X.env.cells.lookup x=some c->c≠b)/\∀p∈X.pn++pins,p.1≠b
def Inv.fpOk(I:Inv X pins σ H s)(hb:s.heap.objs.size<=b)(hn:H' b=none):FpOk X pins H' b:=by
 refine⟨hn,cu (aZ I.lt hb),I.nofs hb,.inr (aM I.sz hb),λx c e z=>?_,λp a z=>(absurd (aZ (Heap.lt_size (I.pin p a).1) (by simp_all)) (ca _))⟩
 ·obtain⟨v,q⟩:=I.cell x c e;exact absurd (aZ q.lt (by simp_all)) (ca _)
structure Turn (P:fK) (w:World) (K:Fg) (tg:Expr) (J:It) (fp:List Addr) (it:Addr) (tn:Nat->Heap->Prop):Prop where
 mem:it∈fp
 obj:∀i h,tn i h->∀b∈fp,∃o,h.get? b=some o/\∀v,o.data≠.cell v
 keep:∀i h h',tn i h->(∀b∈fp,∀o,h.get? b=some o->h'.get? b=some o)->tn i h'
 item:∀(X:Cx),X.prog=P->X.w=w->X.K=K->X.calm=true->∀(i:Nat)(pins:List (Addr×Obj))(s:Shared)(σ:St)(H:Hp)(E:Value->Shared->Prop),Inv X pins σ H s->(∀b∈fp,FpOk X pins H b)->tn i s.heap->J.go i H ->
  wpAny (model P w) X.A (pyNext (.ref it)) (λr s1=>∃u,r=some u /\
   wpAny (model P w) X.A (jf tg (.ref it) u) (λ_ s2=>∃x H',Inv X pins σ H' s2/\RelV x u/\J.yld i H x H'/\tn (i+1) s2.heap/\∀b∈fp,H' b=none) E s1) E s
 done:∀(X:Cx),X.prog=P->X.w=w->X.K=K->X.calm=true->∀(i:Nat)(pins:List (Addr×Obj))(s:Shared)(σ:St)(H:Hp)(E:Value->Shared->Prop),Inv X pins σ H s->(∀b∈fp,FpOk X pins H b)->tn i s.heap->J.stop i H ->
  wpAny (model P w) X.A (pyNext (.ref it)) (λr s1=>r=none/\Inv X pins σ H s1) E s
 self:∀(A:Around)(i:Nat)(s:Shared)(Q:Value->Shared->Prop)(E:Value->Shared->Prop),tn i s.heap->Q (.ref it) s->wpAny (model P w) A (pyIter (.ref it)) Q E s
abbrev TI:=St->Hp->(It->Hp->Prop)->Prop
def PIE(X:Cx)(pins:List (Addr×Obj))(σ:St)(tg:Expr)(R:It->Hp->Prop)(itv:Value)(s2:Shared):Prop:=
 ∃(it:Addr)(fp:List Addr)(tn:Nat->Heap->Prop)(J:It)(H':Hp),itv=.ref it/\Inv X pins σ H' s2/\Turn X.prog X.w X.K tg J fp it tn/\tn 0 s2.heap/\(∀b∈fp,FpOk X pins H' b)/\R J H'
def PI(X:Cx)(tg iter:Expr)(wi:TI):Prop:=
 ∀(pins:List (Addr×Obj))(s:Shared)(σ:St)(H:Hp)(R:It->Hp->Prop),Inv X pins σ H s->wi σ H R ->
  wpAny (model X.prog X.w) X.A (eval iter X.env) (λv s1=>wpAny (model X.prog X.w) X.A (pyIter v) (PIE X pins σ tg R) X.xe s1) X.xe s
def a8h(ho:s.heap.get? it=some o)(hc:o.cls=.type n)(hd:o.data=.fields vs)
    (hn:["enumerate","zip","dict_itemiterator","dict_reverseitemiterator","odict_iterator","itertools.zip_longest","itertools.pairwise"].contains n=false) (hQ:Q () s):wpAny M A (jf tg (.ref it) u) Q E s:=by
  cases tg<;>first
    |exact fG hQ
    | (cases u<;>first
        |exact fG hQ
        | (refine fF (iz ho ?_)
           rw[hc,hd]
           show wpAny M A (if _=true then _ else _) Q E s
           rw[if_neg (by grind)];exact fG hQ))
noncomputable def Itl(K:Fg)(a:Addr):It:=
 ⟨λi H=>∃xs x,SqL K H a xs/\xs[i]?=some x,λi H x H'=>H'=H/\∀xs,SqL K H a xs->xs[i]?=some x,λi H=>∃xs,SqL K H a xs/\xs.length<=i⟩
noncomputable def Itt(K:Fg)(a:Addr):It:=
 ⟨λi H=>∃xs x,SqT K H a xs/\xs[i]?=some x,λi H x H'=>H'=H/\∀xs,SqT K H a xs->xs[i]?=some x,λi H=>∃xs,SqT K H a xs/\xs.length<=i⟩
noncomputable def Itr(lo:Int)(n:Nat):It:=⟨λi _=>i<n,λi H x H'=>H'=H/\x=.int (lo+i),λi _=>n<=i⟩
theorem a9j{P:fK}{w:World}{K:Fg}{tg:Expr}(a it:Addr):Turn P w K tg (Itl K a) [it] it (λi h=>h.IsListIter it a i) where
 mem:=by simp
 obj:=λi h st b hb=>by
  have e:b=it:=by simpa using hb
  subst e;obtain⟨o,e,c,d⟩:=st;exact⟨o,e,λv z=>by rw[d]at z;cases z⟩
 keep:=λi h h' st k=>st.at λo e=>k it (by simp) o e
 item:=by
  intro X hP hw hK hc i pins s σ H E I hf st hg;subst hP hw hK;obtain⟨xs,x,hq,hx⟩:=hg;obtain⟨its,rv,p,hz⟩:=I.list hq;obtain⟨u,hu,ru⟩:=rv.get hx;obtain⟨f0,f1,f2,f3,f4,f5⟩:=hf it (by simp);refine wpAny_pyNext_list_item st p.isList (x:=u) (by simpa using hu) λh' st' sb=>?_;have I1:Inv X pins σ H { s with heap:=h' }:=I.turned (t':=s.toks) (λb o hb e=>(sb.2 b hb).trans e) f0 f1 f3 f4 f5;obtain⟨o,e,c,d⟩:=id st';exact⟨u,rfl,a8h (s:={ s with heap:=h' }) e c d (by decide) ⟨x,H,I1,ru,⟨rfl,λys hy=>by rw[I.list_inj hy hq];exact hx⟩,st',λb hb=>(hf b hb).1⟩⟩
 done:=by
  intro X hP hw hK hc i pins s σ H E I hf st hg;subst hP hw hK;obtain⟨xs,hq,hx⟩:=hg;obtain⟨its,rv,p,hz⟩:=I.list hq;obtain⟨f0,f1,f2,f3,f4,f5⟩:=hf it (by simp);have hl:=rv.length;exact wpAny_pyNext_list_end (I.ok.hd hc) st p.isList (by simp;omega) λh' eb=>⟨rfl,I.turned (t':=s.toks) (λb o hb e=>eb b o hb e) f0 f1 f3 f4 f5⟩
 self:=λ_ _ _ _ _ st h=>wpAny_pyIter_listiter st h
theorem a8i{P:fK}{w:World}{K:Fg}{tg:Expr}(a it:Addr):Turn P w K tg (Itt K a) [it] it (λi h=>h.IsTupleIter it a i) where
 mem:=by simp
 obj:=λi h st b hb=>by
  have e:b=it:=by simpa using hb
  subst e;obtain⟨o,e,c,d⟩:=st;exact⟨o,e,λv z=>by rw[d]at z;cases z⟩
 keep:=λi h h' st k=>st.at λo e=>k it (by simp) o e
 item:=by
  intro X hP hw hK hc i pins s σ H E I hf st hg;subst hP hw hK;obtain⟨xs,x,hq,hx⟩:=hg;obtain⟨its,rv,p,hz⟩:=I.tuple hq;obtain⟨u,hu,ru⟩:=rv.get hx;obtain⟨f0,f1,f2,f3,f4,f5⟩:=hf it (by simp);refine wpAny_pyNext_tuple_item st (show s.heap.IsTuple a its.toArray from p) (x:=u) (by simpa using hu) λh' st' sb=>?_;have I1:Inv X pins σ H { s with heap:=h' }:=I.turned (t':=s.toks) (λb o hb e=>(sb.2 b hb).trans e) f0 f1 f3 f4 f5;obtain⟨o,e,c,d⟩:=id st';exact⟨u,rfl,a8h (s:={ s with heap:=h' }) e c d (by decide) ⟨x,H,I1,ru,⟨rfl,λys hy=>by rw[I.tuple_inj hy hq];exact hx⟩,st',λb hb=>(hf b hb).1⟩⟩
 done:=by
  intro X hP hw hK hc i pins s σ H E I hf st hg;subst hP hw hK;obtain⟨xs,hq,hx⟩:=hg;obtain⟨its,rv,p,hz⟩:=I.tuple hq;obtain⟨f0,f1,f2,f3,f4,f5⟩:=hf it (by simp);have hl:=rv.length;exact wpAny_pyNext_tuple_end (I.ok.hd hc) st (show s.heap.IsTuple a its.toArray from p) (by simp;omega) λh' eb=>⟨rfl,I.turned (t':=s.toks) (λb o hb e=>eb b o hb e) f0 f1 f3 f4 f5⟩
 self:=λ_ _ _ _ _ st h=>wpAny_pyIter_tupleiter st h
theorem a8j{P:fK}{w:World}{K:Fg}{tg:Expr}(it:Addr)(lo:Int)(n:Nat):Turn P w K tg (Itr lo n) [it] it (λi h=>IsRangeIter h it (lo+(i:Nat)*1) ((n:Int)-(i:Nat)) 1) where
 mem:=by simp
 obj:=λi h st b hb=>by
  have e:b=it:=by simpa using hb
  subst e;exact⟨_,st,λv z=>by
   have z':Data.fields _=Data.cell v:=z;cases z'⟩
 keep:=λi h h' st k=>k it (by simp) _ st
 item:=by
  intro X hP hw hK hc i pins s σ H E I hf st hg;subst hP hw hK;obtain⟨f0,f1,f2,f3,f4,f5⟩:=hf it (by simp);have W:=Walks.range (prog:=X.prog) (w:=X.w) (I.ok.hd hc) it lo 1 n;refine W.item i s _ _ hg st λv h' tk hv st' kk=>?_;obtain⟨t,rfl⟩:=hv;have I1:Inv X pins σ H { s with heap:=h',toks:=tk }:=I.turned (λb o hb e=>kk b o (by simpa using hb) e) f0 f1 f3 f4 f5;refine⟨_,rfl,a8h (s:={ s with heap:=h',toks:=tk }) (n:="range_iterator") st' rfl rfl (by decide) ⟨.int (lo+i),H,I1,⟨t,?_⟩,⟨rfl,rfl⟩,st',λb hb=>(hf b hb).1⟩⟩;rw[Int.mul_one]
 done:=by
  intro X hP hw hK hc i pins s σ H E I hf st hg;subst hP hw hK;obtain⟨f0,f1,f2,f3,f4,f5⟩:=hf it (by simp);exact wpAny_pyNext_range_end (I.ok.hd hc) st (by have:n<=i:=hg;omega) λh' eb=>⟨rfl,I.turned (t':=s.toks) (λb o hb e=>eb b o hb e) f0 f1 f3 f4 f5⟩
 self:=λ_ _ _ _ _ st h=>wpAny_pyIter_rangeiter st h
section
variable{X:Cx}{tg:Expr}
def b9G(K:Fg)(tl:TE):TI:=fun σ H R=>tl σ H λx H1=>∃a,x=.ref a/\(∃xs,SqL K H1 a xs)/\R (Itl K a) H1
def iTup(K:Fg)(tl:TE):TI:=fun σ H R=>tl σ H λx H1=>∃a,x=.ref a/\(∃xs,SqT K H1 a xs)/\R (Itt K a) H1
def b4s(hl:PE X l tl):PI X tg l (b9G X.K tl):=by
 intro f s σ H R I h;refine thn (hl f s σ H _ I h) λv d ⟨x,m,c,g,i⟩=>?_;obtain⟨a,e,⟨r,j⟩,q⟩:=i;subst e;cases g;obtain⟨n,u,p,t⟩:=c.list j;refine iA p.isList ⟨d.heap.objs.size,[d.heap.objs.size],_,_,m,rfl,c.kept λb o e=>Heap.get?_push_of_some _ e,a9j a _,⟨_,Heap.get?_push_size _ rfl,rfl,rfl⟩,λb k=>?_,q⟩;have e:b=d.heap.objs.size:=by simp_all
 subst e;exact c.fpOk (aC _) (c.hok.fresh (aC _))
def b6P(hl:PE X l tl):PI X tg l (iTup X.K tl):=by
 intro f s σ H R I h;refine thn (hl f s σ H _ I h) λv c ⟨x,m,d,k,j⟩=>?_;obtain⟨a,e,⟨u,n⟩,q⟩:=j;subst e;cases k;obtain⟨g,t,p,r⟩:=d.tuple n;refine wpAny_pyIter_tuple (p) ⟨c.heap.objs.size,[c.heap.objs.size],_,_,m,rfl,d.kept λb o e=>Heap.get?_push_of_some _ e,a8i a _,⟨_,Heap.get?_push_size _ rfl,rfl,rfl⟩,λb i=>?_,q⟩;have e:b=c.heap.objs.size:=by simp_all
 subst e;exact d.fpOk (aC _) (d.hok.fresh (aC _))
def a7o{lo hi:Int}(I:Inv X pins σ H s)(h1:-(2 ^ 62)<=lo)(h2:lo<2 ^ 62)(h3:-(2 ^ 62)<=hi)(h4:hi<2 ^ 62)
  (q:R (Itr lo (hi-lo).toNat) H):wpAny (model X.prog X.w) X.A (pyIter (.ref s.heap.objs.size)) (PIE X pins σ tg R) E { s with heap:=s.heap.push { cls:=.type "range",data:=.fields #[.int lo t,.int hi u,.int 1 v] },toks:=tk }:=by
 refine wpAny_pyIter_range (IsRange.new ..) (small_one h1 h2 h3 h4) ?_;have a:Inv X pins σ H { s with heap:=s.heap.push { cls:=.type "range",data:=.fields #[.int lo t,.int hi u,.int 1 v] },toks:=tk }:=I.kept λb o e=>Heap.get?_push_of_some _ e;refine⟨(s.heap.push { cls:=.type "range",data:=.fields #[.int lo t,.int hi u,.int 1 v] }).objs.size,[(s.heap.push { cls:=.type "range",data:=.fields #[.int lo t,.int hi u,.int 1 v] }).objs.size],_,_,H,rfl,
  a.kept λb o e=>Heap.get?_push_of_some _ e,a8j _ lo (hi-lo).toNat,?_,λb d=>?_,q⟩
 ·have c:lo+((0:Nat))*1=lo:=by simp
  have f:(((hi-lo).toNat))-((0:Nat))=fO.Range.rangeSize lo hi 1:=by rw[rangeSize_one];split<;>lia
  rw[c,f];exact Heap.get?_push_size _ rfl
 ·have e:b=(s.heap.push { cls:=.type "range",data:=.fields #[.int lo t,.int hi u,.int 1 v] }).objs.size:=by simpa using d
  subst e;exact a.fpOk (aC _) (a.hok.fresh (aC _))
def b6Q(ta:TA):TI:=fun σ H R=>ta σ H λvs H1=>∃j:Int,vs=[.int j]/\-(2 ^ 62)<=j/\j<2 ^ 62/\R (Itr 0 j.toNat) H1
def b6R(ta:TA):TI:=fun σ H R=>ta σ H λvs H1=>∃i j:Int,vs=[.int i,.int j]/\(-(2 ^ 62)<=i/\i<2 ^ 62/\-(2 ^ 62)<=j/\j<2 ^ 62)/\R (Itr i (j-i).toNat) H1
def a9k(hg:Gl X "range")(hm:X.mg "range"=none)(ha:PA X [a] ta)(hs:fL [a] X.env=[(false,eval a X.env)]):PI X tg (.Call (.Name "range" p) [a] [] pos) (b6Q ta):=by
 intro b s σ H R I h;refine Call_ (a3x I hg hm boot_range (PyProof.Rows.callWith_type1 (thn (ha pos b s σ H _ I h) λl k ⟨i,m,d,f,c⟩=>?_) hs rfl));obtain⟨j,e,c,g,q⟩:=c;subst e;cases f with
 |cons r rr=>
  cases rr;obtain⟨t,rfl⟩:=r;exact call_range_1 (a7o d (by simp) (by simp) c g (by grind))
def a9l(hg:Gl X "range")(hm:X.mg "range"=none)(ha:PA X [a,b] ta)(hs:fL [a,b] X.env=[(false,eval a X.env),(false,eval b X.env)])(hs2:fL [b] X.env=[(false,eval b X.env)]) :
  PI X tg (.Call (.Name "range" p) [a,b] [] pos) (b6R ta):=by
 intro d s σ H R I h;refine Call_ (a3x I hg hm boot_range (PyProof.Rows.callWith_type1 (thn (ha pos d s σ H _ I h) λo v ⟨w,u,l,f,c⟩=>?_) (by simp_all) (by rw[hs2];rfl)));obtain⟨i,j,e,⟨c,m,k,g⟩,q⟩:=c;subst e;cases f with
 |cons r rr=>
  cases rr with
  |cons r' rr=>
   cases rr;obtain⟨t,rfl⟩:=r;obtain⟨n,rfl⟩:=r';exact call_range_2 (a7o l c m k g q)
def tFor(wi:TI)(g:TG)(tb:TS):TS:=λD σ H=>wi σ H λJ H1=>∃W:Nat->Nat->St->Hp->Prop,(∃m,W 0 m σ H1)/\∀i m σ H,W i m σ H ->
 (J.stop i H/\D.nx σ H)\/(J.go i H/\∃N:St->Hp->Prop,(∀σ' H',N σ' H'->∃m',m'<m/\W (i+1) m' σ' H')/\∀x H',J.yld i H x H'->g x σ H' fun σ2 H2=>tb { D with nx:=N,ct:=N,bk:=D.nx } σ2 H2)
noncomputable def a7p(fp:List Addr)(h:Heap):List (Addr×Obj):=fp.filterMap λb=>(h.get? b).map λo=>(b,o)
def a1O(hb:b∈fp)(e:h.get? b=some o):(b,o)∈a7p fp h:=bp.mpr ⟨b,hb,by rw[e];rfl⟩
def a9m(hp:p∈a7p fp h):p.1∈fp/\h.get? p.1=some p.2:=by
 obtain⟨b,a,e⟩:=bp.mp hp;cases q:h.get? b with
 |none=>rw[q]at e;cases e
 |some o=>
  rw[q]at e;have c:=bv.inj e;subst c;exact⟨a,q⟩
def Inv.pinned(I:Inv X pins σ H s)(hf:∀b∈fp,FpOk X pins H b)(ho:∀b∈fp,∃o,s.heap.get? b=some o/\∀v,o.data≠.cell v):Inv X (pins++a7p fp s.heap) σ H s:=
 I.pins_of λp h=>(aE.mp h).elim (λz=>I.pin p (bz _ z)) λz=>by
  obtain⟨a,e⟩:=a9m z;obtain⟨g,f,i,_⟩:=hf p.1 a;obtain⟨o,c,d⟩:=ho p.1 a;rw[e]at c;cases c;exact⟨e,g,f,i,d⟩
def Inv.unpinned(I:Inv X (pins++pl) σ H s):Inv X pins σ H s:=I.pins_of λp a=>I.pin p (bz _ (bP _ a))
def b6S(hp:fW (model X.prog X.w) X.A X.env X.xe)(hc:X.calm=true)(hi:PI X tg iter wi)(hg:PG X tg g)(hb:PSs X body tb)
  (hs:∀x,gM iter X.env x=pure x:=by intro _;rfl):PS X (.For tg iter body [] pos) (tFor wi g tb):=by
 intro a s σ H D I h;refine wpAny_For (thn (hi a s σ H _ I h) λv s1 h1=>thn h1 λitv s2 h2=>?_) hs;obtain⟨it,z,Q,J,H2,e,I2,T,st2,S,W,⟨m0,w0⟩,F⟩:=h2;subst e;have p:∀{H':Hp},(∀b∈z,H' b=none)->∀b∈z,FpOk X a H' b:=λhn b hb=>⟨hn b hb,(S b hb).2⟩;refine codeAny_forLoop_any (λn Y=>∃i σ' H',Inv X a σ' H' Y/\Q i Y.heap/\(∀b∈z,H' b=none)/\W i n σ' H') ?_ m0 ⟨0,σ,H2,I2,st2,λb hb=>(S b hb).1,w0⟩;rintro n U ⟨i,σ3,B,R,E,C,w3⟩;rcases F i n σ3 B w3 with ⟨stop,qn⟩ |⟨go,N,hN,step⟩
 ·refine g8 hp (thn (T.done X rfl rfl rfl hc i a U σ3 B X.xe R (p C) E stop) λr s4 Y=>Y.elim λG I4=>?_);subst G;exact iM ⟨σ3,B,I4,qn⟩
 ·refine g8 hp (thn (T.item X rfl rfl rfl hc i a U σ3 B X.xe R (p C) E go) λr s4 Y=>Y.elim λu Y=>Y.elim λG h4=>?_);subst G;refine g8 hp (thn h4 λ_ s5 ⟨x,H5,I5,r5,y5,y,M⟩=>(g8 hp (thn (hg _ s5 σ3 H5 x u _ (I5.pinned (p M) (T.obj _ _ y)) r5 (step x H5 y5)) λ_ s6 ⟨σ6,H6,I6,q6⟩=>(g8 hp (thn (hb _ s6 σ6 H6 _ I6 q6) λf L l=>?_)))));have q:∀{σ7:St}{j:Hp},Inv X _ σ7 j L->N σ7 j->∃m,m<n/\∃i σ' H',Inv X a σ' H' L/\Q i L.heap/\(∀b∈z,H' b=none)/\W i m σ' H':=λ{σ7 j} c t=>by
   obtain⟨m',hm,w7⟩:=hN σ7 j t;refine⟨m',hm,i+1,σ7,j,c.unpinned,T.keep _ _ _ y λb hb o e=>(c.pin _ (bz _ (bz _ (a1O hb e)))).1,λb hb=>?_,w7⟩;obtain⟨o,e,d⟩:=T.obj _ _ y b hb;exact (c.pin _ (bz _ (bz _ (a1O hb e)))).2.1
  cases f with
  |next=>obtain⟨σ7,j,c,t⟩:=l;exact q c t
  |cont=>obtain⟨σ7,j,c,t⟩:=l;exact q c t
  |brk=>obtain⟨σ7,j,c,l⟩:=l;exact⟨σ7,j,c.unpinned,l⟩
  |ret v=>obtain⟨x7,σ7,j,c,r7,l⟩:=l;exact⟨x7,σ7,j,c.unpinned,r7,l⟩
end
abbrev R2:=V->V->Hp->VK->Prop
def OpR(X:Cx)(f:Value->Value->Sem Value)(r:R2):Prop:=
 ∀(pins:List (Addr×Obj))(s:Shared)(σ:St)(H:Hp)(x y:V)(v u:Value)(Q:VK),Inv X pins σ H s->RelV x v->RelV y u->r x y H Q ->
  wpAny (model X.prog X.w) X.A (f v u) (EP X pins σ Q) X.xe s
def UnR(X:Cx)(f:Value->Sem Value)(r:V->Hp->VK->Prop):Prop:=
 ∀(pins:List (Addr×Obj))(s:Shared)(σ:St)(H:Hp)(x:V)(v:Value)(Q:VK),Inv X pins σ H s->RelV x v->r x H Q ->
  wpAny (model X.prog X.w) X.A (f v) (EP X pins σ Q) X.xe s
def CallR(X:Cx)(f:Value)(r:List V->Hp->VK->Prop):Prop:=
 ∀(pins:List (Addr×Obj))(s:Shared)(σ:St)(H:Hp)(xs:List V)(us:List Value)(Q:VK),Inv X pins σ H s->Vals xs us->r xs H Q ->
  wpAny (model X.prog X.w) X.A (call f us) (EP X pins σ Q) X.xe s
def TruR(X:Cx)(r:V->Hp->(Bool->Hp->Prop)->Prop):Prop:=
 ∀(pins:List (Addr×Obj))(s:Shared)(σ:St)(H:Hp)(x:V)(v:Value)(Q:Bool->Hp->Prop),Inv X pins σ H s->RelV x v->r x H Q ->
  wpAny (model X.prog X.w) X.A (truthy v) (TP X pins σ Q) X.xe s
def tOp(r:R2)(ta tb:TE):TE:=fun σ H Q=>ta σ H λx H1=>tb σ H1 λy H2=>r x y H2 Q
def tUn(r:V->Hp->VK->Prop)(ta:TE):TE:=fun σ H Q=>ta σ H λx H1=>r x H1 Q
def rI(C:Int->Int->Prop)(g:Int->Int->V):R2:=λx y H Q=>∃i j,x=.int i/\y=.int j/\C i j/\Q (g i j) H
def rI0(g:Int->Int->V):R2:=λx y H Q=>∃i j,x=.int i/\y=.int j/\Q (g i j) H
def rU(g:Int->V):V->Hp->VK->Prop:=λx H Q=>∃i,x=.int i/\Q (g i) H
section
variable{X:Cx}{a b c:Expr}{ta tb tc:TE}{pos:Pos}
def binT(ha:PE X a ta)(hb:PE X b tb){R:V->V->Hp->Prop}(I:Inv X pins σ H s)
  (h:ta σ H λx H1=>tb σ H1 λy H2=>R x y H2) {f:Value->Value->Sem Value}
  (hf:∀v u s2 x y H2,Inv X pins σ H2 s2->RelV x v->RelV y u->R x y H2->wpAny (model X.prog X.w) X.A (f v u) Q X.xe s2) :
  wpAny (model X.prog X.w) X.A (eval a X.env) (λv sj=>wpAny (model X.prog X.w) X.A (eval b X.env) (λu sv=>wpAny (model X.prog X.w) X.A (f v u) Q X.xe sv) X.xe sj) X.xe s:=by
 exact thn (ha pins s σ H _ I h) λv c ⟨x,j,i,g,n⟩=>(thn (hb pins c σ j _ i n) λu e ⟨y,m,d,k,l⟩=>(hf v u e x y m d g k l))
def b9H(ho:OpR X (fR op) r)(ha:PE X a ta)(hb:PE X b tb):PE X (.BinOp a op b pos) (tOp r ta tb):=λc s σ H Q I h=>wpAny_BinOp (binT ha hb I h λv u i x y f e d g q=>ho c i σ f x y v u Q e d g q)
def b9I(ho:UnR X (iO op) r)(ha:PE X a ta):PE X (.UnaryOp op a pos) (tUn r ta):=λb s σ H Q I h=>UnaryOp_ (thn (ha b s σ H _ I h) λv d ⟨x,e,c,g,f⟩=>ho b d σ e x v Q c g f)
def opI{g:Int->Int->Int}
  (rule:∀(i j:Int)(t u:Tok)(s:Shared)(Q:Value->Shared->Prop)(E:Value->Shared->Prop),C i j->Q (.int (g i j) s.toks) { s with toks:=s.toks+1 }->wpAny (model X.prog X.w) X.A (f (.int i t) (.int j u)) Q E s) :
  OpR X f (rI C λi j=>.int (g i j)):=by
 intro b s σ H x y v u Q I a d h;obtain⟨i,j,rfl,rfl,e,q⟩:=h;obtain⟨t,rfl⟩:=a;obtain⟨c,rfl⟩:=d;exact rule i j t c s _ _ e ⟨.int _,H,I.tok _,⟨_,rfl⟩,q⟩
def opI0{g:Int->Int->Int}
  (rule:∀(i j:Int)(t u:Tok)(s:Shared)(Q:Value->Shared->Prop)(E:Value->Shared->Prop),Q (.int (g i j) s.toks) { s with toks:=s.toks+1 }->wpAny (model X.prog X.w) X.A (f (.int i t) (.int j u)) Q E s) :
  OpR X f (rI0 λi j=>.int (g i j)):=by
 intro a s σ H x y v u Q I d b h;obtain⟨i,j,rfl,rfl,q⟩:=h;obtain⟨t,rfl⟩:=d;obtain⟨c,rfl⟩:=b;exact rule i j t c s _ _ ⟨.int _,H,I.tok _,⟨_,rfl⟩,q⟩
def opB0{g:Int->Int->Bool}
  (rule:∀(i j:Int)(t u:Tok)(s:Shared)(Q:Value->Shared->Prop)(E:Value->Shared->Prop),Q (.bool (g i j)) s->wpAny (model X.prog X.w) X.A (f (.int i t) (.int j u)) Q E s) :
  OpR X f (rI0 λi j=>.bl (g i j)):=by
 intro d s σ H x y v u Q I c a h;obtain⟨i,j,rfl,rfl,q⟩:=h;obtain⟨t,rfl⟩:=c;obtain⟨b,rfl⟩:=a;exact rule i j t b s _ _ ⟨.bl _,H,I,rfl,q⟩
def CPow(i j:Int):Prop:=0<=j/\j<=1000000/\i.natAbs<2 ^ 64
def CMul(i j:Int):Prop:=(-(2 ^ 64)<i/\i<2 ^ 64)\/(-(2 ^ 64)<j/\j<2 ^ 64)
def CMul.ok(h:CMul i j):IntMulOk i j:=by
 rcases h with ⟨h1,h2⟩ |⟨h1,h2⟩
 ·exact .of_left (intBits_le_64 h1 h2)
 ·exact .of_right (intBits_le_64 h1 h2)
def op_add:OpR X (fR .Add) (rI0 λi j=>.int (i+j)):=opI0 λ_ _ _ _ _ _ _ q=>add_int q
def b6T:OpR X (fR .Sub) (rI0 λi j=>.int (i-j)):=opI0 λ_ _ _ _ _ _ _ q=>sub_int q
def b6U:OpR X (fR .Mult) (rI CMul λi j=>.int (i*j)):=opI λ_ _ _ _ _ _ _ a q=>mul_int q a.ok
def b6V:OpR X (fR .Mod) (rI (λ_ j=>0<j) λi j=>.int (i % j)):=opI λi j _ _ _ _ _ a q=>by
 have b:(0:Int)<j:=a;exact mod_int' (by omega) (by rw[Int.fmod_eq_emod_of_nonneg i (by omega)];exact q)
def b6W:OpR X (fR .Pow) (rI CPow λi j=>.int (i ^ j.toNat)):=opI λ_ _ _ _ _ _ _ a q=>pow_int_small a.1 a.2.1 a.2.2 q
def b4t:OpR X (gK .Add) (rI0 λi j=>.int (i+j)):=opI0 λ_ _ _ _ _ _ _ q=>iadd_int q
def unI{g:Int->Int}
  (rule:∀(i:Int)(t:Tok)(s:Shared)(Q:Value->Shared->Prop)(E:Value->Shared->Prop),Q (.int (g i) s.toks) { s with toks:=s.toks+1 }->wpAny (model X.prog X.w) X.A (f (.int i t)) Q E s) :
  UnR X f (rU λi=>.int (g i)):=by
 intro b s σ H x v Q I a h;obtain⟨i,rfl,q⟩:=h;obtain⟨t,rfl⟩:=a;exact rule i t s _ _ ⟨.int _,H,I.tok _,⟨_,rfl⟩,q⟩
def b6X:UnR X (iO .USub) (rU λi=>.int (-i)):=unI λ_ _ _ _ _ q=>neg_int q
end
noncomputable def scal:V->V->Bool
 |.non,.non=>true |.non,.int _=>true |.int _,.non=>true |.non,.bl _=>true |.bl _,.non=>true |.non,.str _=>true |.str _,.non=>true
 |.int _,.int _=>true |.bl _,.bl _=>true |.str _,.str _=>true |.byt _,.byt _=>true
 |.int _,.str _=>true |.str _,.int _=>true |.bl _,.str _=>true |.str _,.bl _=>true
 |_,_=>false
def rEq:R2:=λx y H Q=>scal x y=true/\Q (.bl (decide (x=y))) H
def rNe:R2:=λx y H Q=>scal x y=true/\Q (.bl (!decide (x=y))) H
def a9n:decide (V.int i=V.int j)=(i==j):=by
 rw[cB];simp
def a9o:decide (V.bl i=V.bl j)=(i==j):=by
 rw[cB];simp
def a9p:decide (V.str i=V.str j)=(i==j):=by
 rw[cB];simp
def a9q:decide (V.byt i=V.byt j)=(i.toList==j.toList):=by
 rw[cB];cases i;cases j;simp
section
variable{X:Cx}{a b c:Expr}{ta tb tc:TE}{pos:Pos}
def a0n(I:Inv X pins σ H s)(q:Q (.bl k) H)(e:k=k'):EP X pins σ Q (.bool k') s:=by
 subst e;exact⟨.bl k,H,I,rfl,q⟩
def op_eq:OpR X (fN .Eq) rEq:=by
 intro pins s σ H x y v u Q I rx ry h;obtain⟨hs,q⟩:=h;cases x with
 |non=>
  cases rx;cases y with
  |non=>cases ry;exact PySem.EqNone.eq_none_none (a0n I q (by simp))
  |bl j=>cases ry;exact PySem.EqNone.eq_none_bool (a0n I q (by simp))
  |int j=>obtain⟨t',rfl⟩:=ry;exact PySem.EqNone.eq_none_int (a0n I q (by simp))
  |str j=>obtain⟨t',rfl⟩:=ry;exact PySem.EqNone.eq_none_str (a0n I q (by simp))
  |_=>exact absurd (show false=true from hs) bA
 |bl i=>
  cases rx;cases y with
  |non=>cases ry;exact PySem.EqNone.eq_bool_none (a0n I q (by simp))
  |bl j=>cases ry;exact eq_bool (a0n I q a9o)
  |str j=>obtain⟨t',rfl⟩:=ry;exact PySem.EqMixed.eq_bool_str (a0n I q (by simp))
  |_=>exact absurd (show false=true from hs) bA
 |int i=>
  obtain⟨t,rfl⟩:=rx;cases y with
  |non=>cases ry;exact PySem.EqNone.eq_int_none (a0n I q (by simp))
  |int j=>obtain⟨t',rfl⟩:=ry;exact eq_int (a0n I q a9n)
  |str j=>obtain⟨t',rfl⟩:=ry;exact PySem.EqMixed.eq_int_str (a0n I q (by simp))
  |_=>exact absurd (show false=true from hs) bA
 |str i=>
  obtain⟨t,rfl⟩:=rx;cases y with
  |non=>cases ry;exact PySem.EqNone.eq_str_none (a0n I q (by simp))
  |bl j=>cases ry;exact PySem.EqMixed.eq_str_bool (a0n I q (by simp))
  |int j=>obtain⟨t',rfl⟩:=ry;exact PySem.EqMixed.eq_str_int (a0n I q (by simp))
  |str j=>obtain⟨t',rfl⟩:=ry;exact eq_str (a0n I q a9p)
  |_=>exact absurd (show false=true from hs) bA
 |byt i=>
  obtain⟨t,rfl⟩:=rx;cases y with
  |byt j=>obtain⟨t',rfl⟩:=ry;exact PySem.W.eq_bytes (a0n I q a9q)
  |_=>exact absurd (show false=true from hs) bA
 |_=>cases y<;>exact absurd (show false=true from hs) bA
def op_ne:OpR X (fN .NotEq) rNe:=by
 intro e s σ H x y v u Q I d a h;obtain⟨c,q⟩:=h;cases x with
 |non=>
  cases d;cases y with
  |non=>cases a;exact PySem.EqNone.ne_none_none (a0n I q (by simp))
  |bl j=>cases a;exact PySem.EqNone.ne_none_bool (a0n I q (by simp))
  |int j=>obtain⟨b,rfl⟩:=a;exact PySem.EqNone.ne_none_int (a0n I q (by simp))
  |str j=>obtain⟨b,rfl⟩:=a;exact PySem.EqNone.ne_none_str (a0n I q (by simp))
  |_=>exact absurd (show false=true from c) bA
 |bl i=>
  cases d;cases y with
  |non=>cases a;exact PySem.EqNone.ne_bool_none (a0n I q (by simp))
  |bl j=>cases a;exact ne_bool (a0n I q (congrArg not a9o))
  |str j=>obtain⟨b,rfl⟩:=a;exact PySem.EqMixed.ne_bool_str (a0n I q (by simp))
  |_=>exact absurd (show false=true from c) bA
 |int i=>
  obtain⟨t,rfl⟩:=d;cases y with
  |non=>cases a;exact PySem.EqNone.ne_int_none (a0n I q (by simp))
  |int j=>obtain⟨b,rfl⟩:=a;exact ne_int (a0n I q (congrArg not a9n))
  |str j=>obtain⟨b,rfl⟩:=a;exact PySem.EqMixed.ne_int_str (a0n I q (by simp))
  |_=>exact absurd (show false=true from c) bA
 |str i=>
  obtain⟨t,rfl⟩:=d;cases y with
  |non=>cases a;exact PySem.EqNone.ne_str_none (a0n I q (by simp))
  |bl j=>cases a;exact PySem.EqMixed.ne_str_bool (a0n I q (by simp))
  |int j=>obtain⟨b,rfl⟩:=a;exact PySem.EqMixed.ne_str_int (a0n I q (by simp))
  |str j=>obtain⟨b,rfl⟩:=a;exact ne_str (a0n I q (congrArg not a9p))
  |_=>exact absurd (show false=true from c) bA
 |byt i=>
  obtain⟨t,rfl⟩:=d;cases y with
  |byt j=>obtain⟨b,rfl⟩:=a;exact PySem.W.ne_bytes (a0n I q (congrArg not a9q))
  |_=>exact absurd (show false=true from c) bA
 |_=>cases y<;>exact absurd (show false=true from c) bA
def b9J:OpR X (fN .Lt) (rI0 λi j=>.bl (decide (i<j))):=opB0 λ_ _ _ _ _ _ _ q=>lt_int q
def b9K:OpR X (fN .LtE) (rI0 λi j=>.bl (decide (i<=j))):=opB0 λ_ _ _ _ _ _ _ q=>le_int q
def b9L:OpR X (fN .Gt) (rI0 λi j=>.bl (decide (j<i))):=opB0 λ_ _ _ _ _ _ _ q=>gt_int q
def a9r:OpR X (fN .Lt) (λx y H Q=>∃i j,x=.str i/\y=.str j/\Q (.bl (decide (i.cps.toList<j.cps.toList))) H):=by
 intro b s σ H x y v u Q I a c h;obtain⟨i,j,rfl,rfl,q⟩:=h;obtain⟨t,rfl⟩:=a;obtain⟨d,rfl⟩:=c;exact lt_str (a0n I q rfl)
def op_in_str:OpR X (fN .In) (λx y H Q=>∃i j,x=.str i/\y=.str j/\Q (.bl (!(fO.Str.occurrences j i 0 j.length 1).isEmpty)) H):=by
 intro b s σ H x y v u Q I a c h;obtain⟨i,j,rfl,rfl,q⟩:=h;obtain⟨t,rfl⟩:=a;obtain⟨d,rfl⟩:=c;exact in_str (a0n I q rfl)
def op_isN:OpR X (fN .Is) (λx y H Q=>y=.non/\Q (.bl (decide (x=.non))) H):=by
 intro b s σ H x y v u Q I a c h;obtain⟨rfl,q⟩:=h;cases c;refine is_none_gen (a0n I q ?_);cases x<;>first
  | (cases a;rfl)
  | (obtain⟨t,rfl⟩:=a;rfl)
def b4u:OpR X (fN .IsNot) (λx y H Q=>y=.non/\Q (.bl (!decide (x=.non))) H):=by
 intro c s σ H x y v u Q I a b h;obtain⟨rfl,q⟩:=h;cases b;refine isnot_none_gen (a0n I q ?_);cases x<;>first
  | (cases a;rfl)
  | (obtain⟨t,rfl⟩:=a;rfl)
def op_notin_str:OpR X (fN .NotIn) (λx y H Q=>∃i j,x=.str i/\y=.str j/\Q (.bl (!(!(fO.Str.occurrences j i 0 j.length 1).isEmpty))) H):=by
 intro c s σ H x y v u Q I b a h;obtain⟨i,j,rfl,rfl,q⟩:=h;obtain⟨t,rfl⟩:=b;obtain⟨d,rfl⟩:=a;exact notIn_str (a0n I q rfl)
def OpR.or(h:OpR X f r)(h':OpR X f r'):OpR X f (λx y H Q=>r x y H Q\/r' x y H Q):=by
 intro a s σ H x y v u Q I c b q;rcases q with q |q
 ·exact h a s σ H x y v u Q I c b q
 ·exact h' a s σ H x y v u Q I c b q
def a3y(b:Expr)(h:op≠.In:=by decide)(h2:op≠.NotIn:=by decide):g9 op b=false:=by
 have a:(op==CmpOp.In)=false:=by grind
 have c:(op==CmpOp.NotIn)=false:=by grind
 cases b<;>simp[g9,a,c]
def b4v(ho:OpR X (fN op) r)(ha:PE X a ta)(hb:PE X b tb)(hm:g9 op b=false):PE X (.Compare a [op] [b] pos) (tOp r ta tb):=λc s σ H Q I h=>wpAny_Compare1 (binT ha hb I h λv u d x y f g i e q=>ho c d σ f x y v u Q g i e q) hm
def b6Y(t:TE):TT:=fun σ H Q=>t σ H λx H'=>∃k,x=.bl k/\Q k H'
def b4w(ho:OpR X (fN op) r)(ha:PE X a ta)(hb:PE X b tb)(hm:g9 op b=false):PT X (.Compare a [op] [b] pos) (b6Y (tOp r ta tb)):=by
 intro d s σ H Q I h;refine wpAny_isTrue_Compare1 (thn (ha d s σ H _ I h) λv l ⟨x,w,f,n,B⟩=>thn (hb d l σ w _ f B) λu t ⟨y,m,i,j,A⟩=>
  thn (ho d t σ m x y v u _ i n j A) λc C ⟨z,q,p,o,k,e,g⟩=>?_) hm
 subst e;cases o;exact gH ⟨q,p,g⟩
def a9s(r r':R2)(ta tb tc:TE):TE:=fun σ H Q=>ta σ H λx H1=>tb σ H1 λy H2=>r x y H2 λz H3=>∃k,z=.bl k /\
 (if k=true then tc σ H3 λw' H4=>r' y w' H4 Q else Q (.bl false) H3)
def b1L(ho:OpR X (fN op) r)(ho':OpR X (fN op') r')(ha:PE X a ta)(hb:PE X b tb)(hc:PE X c tc)
  (hm:iP [op,op'] [b,c]=false:=by with_unfolding_all rfl):PE X (.Compare a [op,op'] [b,c] pos) (a9s r r' ta tb tc):=by
 intro f s σ H Q I h;refine Compare_chain (thn (ha f s σ H _ I h) λv m ⟨x,t,J,p,N⟩=>chain_link (thn (hb f m σ t _ J N) λu o ⟨y,C,F,j,L⟩=>
  thn (ho f o σ C x y v u _ F p j L) λd A ⟨z,i,g,n,k,e,l⟩=>?_)) hm
 subst e;cases n;refine gH ?_;cases k with
 |false=>exact ite_ff ⟨.bl false,i,g,rfl,l⟩
 |true=>exact ite_tt (chain_last (thn (hc f A σ i _ g l) λM w ⟨D,q,B,G,E⟩=>ho' f w σ q y D u M Q B j G E))
def b1M(ho:OpR X (fN op) r)(ho':OpR X (fN op') r')(ha:PE X a ta)(hb:PE X b tb)(hc:PE X c tc)
  (hm:iP [op,op'] [b,c]=false:=by with_unfolding_all rfl):PT X (.Compare a [op,op'] [b,c] pos) (b6Y (a9s r r' ta tb tc)):=by
 intro f s σ H Q I h;refine isTrue_chain (thn (ha f s σ H _ I h) λv B ⟨x,G,p,D,R⟩=>test_link (thn (hb f B σ G _ p R) λu q ⟨y,V,J,l,Y⟩=>
  thn (ho f q σ V x y v u _ J D l Y) λd S ⟨z,j,i,T,k,e,g⟩=>?_)) hm
 subst e;cases T;refine gH ?_;cases k with
 |false=>
  obtain⟨k',t,w⟩:=g;cases t;exact ite_ff ⟨j,i,w⟩
 |true=>
  refine ite_tt (test_last (thn (hc f S σ j _ i g) λN F ⟨U,o,C,L,m⟩=>thn (ho' f F σ o y U u N _ C l L m) λd' s5 ⟨z2,A,W,n,k2,M,E⟩=>?_));subst M;cases n;exact gH ⟨A,W,E⟩
def TruV(K:Fg)(x:V)(H:Hp)(k:Bool):Prop:=
 match x with
 |.non=>k=false
 |.bl b=>k=b
 |.int i=>k=(i != 0)
 |.str y=>y.length<=fH/\k=((y.length:Int) != 0)
 |.byt y=>y.size<=fH/\k=((y.size:Int) != 0)
 |.ref p=>(∃xs,SqL K H p xs/\k=!xs.isEmpty)\/(∃xs,SqT K H p xs/\k=!xs.isEmpty)\/∃kvs,H p=some (.dK kvs)/\k=!kvs.isEmpty
 |_=>False
def a8k{κ:Type}{kvs:List (κ×V)}{vs:List (κ×Value)}(r:KV kvs vs):(!vs.isEmpty)=!kvs.isEmpty:=by
 cases r<;>rfl
def a4w(r:Vals xs its):(!its.toArray.isEmpty)=!xs.isEmpty:=by
 cases r<;>simp
def a5C:(fH:Nat)<2 ^ 63:=by rw[fV];decide
def b6Z:TruR X (λx H Q=>∃k,TruV X.K x H k/\Q k H):=by
 intro u s σ H x v Q I c h;obtain⟨k,e,q⟩:=h;have z:=a5C;have A:fH=16777216:=fV;cases x with
 |non=>
  cases c;have a:k=false:=e;subst a;exact truthy_none ⟨H,I,q⟩
 |bl b=>
  cases c;have a:k=b:=e;subst a;exact gH ⟨H,I,q⟩
 |int i=>
  obtain⟨t,rfl⟩:=c;have a:k=(i != 0):=e;subst a;exact PySem.P.truthy_int ⟨H,I,q⟩
 |str y=>
  obtain⟨t,rfl⟩:=c;obtain⟨o,a⟩:=e;subst a;exact PySem.P.truthy_str (by lia) ⟨H,I.tok _,q⟩
 |byt y=>
  obtain⟨t,rfl⟩:=c;obtain⟨o,a⟩:y.size<=fH/\k=((y.size:Int) != 0):=e;subst a;exact PySem.W.truthy_bytes (by lia) ⟨H,I.tok _,q⟩
 |ref p=>
  cases c;have a:=e;rcases a with ⟨xs,hx,a⟩ |⟨xs,hx,a⟩ |⟨kvs,hx,a⟩
  ·subst a;obtain⟨l,r,g,j⟩:=I.list hx;have d:=r.length;exact wpAny_truthy_list g.isList (by simp only[bB];lia) ⟨H,I.tok _,by rw[a4w r];exact q⟩
  ·subst a;obtain⟨l,r,g,j⟩:=I.tuple hx;have d:=r.length;exact truthy_tuple g (by simp only[bB];lia) ⟨H,I.tok _,by rw[a4w r];exact q⟩
  ·subst a;obtain⟨j,n,f,r,m⟩:=I.hok p _ hx;have d:kvs.length=f.length:=Paired.length r;exact wpAny_truthy_dict n m (by lia) ⟨H,I.tok _,by rw[a8k r];exact q⟩
 |_=>exact (show False from e).elim
def b1N(ha:PE X a ta)(he:∀whole,isTrue a X.env whole=(do let v <- whole;gx a.pos;f6 [v] (truthy v))) :
  PT X a (fun σ H Q=>ta σ H λx H'=>∃k,TruV X.K x H' k/\Q k H'):=λb s σ H Q I h=>isTrue_plain (thn (ha b s σ H _ I h) λv e ⟨x,f,d,g,c⟩=>b6Z b e σ f x v Q d g c) (he _)
def op_add_str:OpR X (fR .Add) (λx y H Q=>∃i j,x=.str i/\y=.str j/\i.length+j.length<=fH/\Q (.str (i++j)) H):=by
 intro b s σ H x y v u Q I a d h;obtain⟨i,j,rfl,rfl,e,q⟩:=h;obtain⟨t,rfl⟩:=a;obtain⟨c,rfl⟩:=d;exact add_str (λc f=>⟨.str (i++j),H,I.tok _,⟨_,rfl⟩,q⟩) e
def a2L(r:Vals [x] us):∃u,us=[u]/\RelV x u:=by
 cases r with
 |cons r1 r2=>cases r2;exact⟨_,rfl,r1⟩
def a9t(r:Vals [x,y] us):∃u w',us=[u,w']/\RelV x u/\RelV y w':=by
 cases r with
 |cons r1 r2=>
  cases r2 with
  |cons r3 r4=>cases r4;exact⟨_,_,rfl,r1,r3⟩
def a9u(hc:X.calm=true):CallR X (.builtin "max") (λxs H Q=>∃i j,xs=[.int i,.int j]/\Q (.int (if j > i then j else i)) H):=by
 intro a s σ H d e Q I r h;obtain⟨i,j,rfl,q⟩:=h;obtain⟨u,f,rfl,⟨t,rfl⟩,⟨b,rfl⟩⟩:=a9t r;refine max_two_ints (I.ok.hd hc) λg c k=>⟨_,H,I.kept k,?_,q⟩
 by_cases hj:j > i
 ·rw[if_pos hj,if_pos hj];exact⟨_,rfl⟩
 ·rw[if_neg hj,if_neg hj];exact⟨_,rfl⟩
def a9v(hc:X.calm=true):CallR X (.builtin "min") (λxs H Q=>∃i j,xs=[.int i,.int j]/\Q (.int (if j<i then j else i)) H):=by
 intro a s σ H d f Q I r h;obtain⟨i,j,rfl,q⟩:=h;obtain⟨u,g,rfl,⟨t,rfl⟩,⟨c,rfl⟩⟩:=a9t r;refine min_two_ints (I.ok.hd hc) λb e k=>⟨_,H,I.kept k,?_,q⟩
 by_cases hj:j<i
 ·rw[if_pos hj,if_pos hj];exact⟨_,rfl⟩
 ·rw[if_neg hj,if_neg hj];exact⟨_,rfl⟩
def LenV(K:Fg)(x:V)(H:Hp)(n:Nat):Prop:=
 match x with
 |.str y=>y.length<=fH/\n=y.length
 |.byt y=>y.size<=fH/\n=y.size
 |.ref p=>(∃xs,SqL K H p xs/\n=xs.length)\/∃xs,SqT K H p xs/\n=xs.length
 |_=>False
def b1O:CallR X (.builtin "len") (λxs H Q=>∃x n,xs=[x]/\LenV X.K x H n/\Q (.int n) H):=by
 intro j s σ H a v Q I r h;obtain⟨x,n,rfl,e,q⟩:=h;obtain⟨u,rfl,d⟩:=a2L r;have o:=fV;cases x with
 |str y=>
  obtain⟨t,rfl⟩:=d;obtain⟨k,b⟩:=e;subst b;exact len_str (by omega) ⟨.int _,H,I.tok _,⟨_,rfl⟩,q⟩
 |byt y=>
  obtain⟨t,rfl⟩:=d;obtain⟨k,b⟩:=e;subst b;exact PySem.W.len_bytes (by omega) ⟨.int _,H,I.tok _,⟨_,rfl⟩,q⟩
 |ref p=>
  cases d;have b:=e;rcases b with ⟨a,hx,b⟩ |⟨a,hx,b⟩
  ·subst b;obtain⟨i,g,f,l⟩:=I.list hx;have c:=g.length;exact Calls.call_len_list f.isList (by grind) ⟨.int a.length,H,I.tok _,⟨_,by simp only[bB];rw[c]⟩,q⟩
  ·subst b;obtain⟨i,g,f,l⟩:=I.tuple hx;have c:=g.length;exact len_tuple f (by grind) ⟨.int a.length,H,I.tok _,⟨_,by simp only[bB];rw[c]⟩,q⟩
 |_=>exact (e).elim
end
structure ObjM (h:Heap) (x dx C:Addr) (mA:Str->Option Value):Prop where
 obj:h.get? x=some (PySem.W.instObj C dx)
 ns:h.Ns1 dx mA
 ne:dx≠x
def a9w{h:Heap}(n:h.Ns1 dx mA):∃od,h.get? dx=some od/\∀name,PySem.W.lookIn name od=some (mA name):=by
 obtain⟨o,d,m,l,j,f,_,g⟩:=n;refine⟨o,l,λc=>?_⟩;have e:=g c;unfold nsFind findBy at e;rw[<- Array.find?_toList]at e;unfold PySem.W.lookIn;rw[j];dsimp only
 split
 ·simp_all
 ·rename_i q
  rw[q]at e;have a:d.toList.any (·.refKey)=false:=by
   rw[eC];intro y k;obtain⟨z,t,b⟩:=f y (eD.mp k);simp[jg.refKey,b]
  have i:¬ d.toList.any (·.refKey)=true:=a▸bA;rw[if_neg i];exact congrArg some e
def ObjM.look(I:ObjM h x dx C mA):∃od,PySem.W.InstAt h x (PySem.W.instObj C dx) C (some od)/\∀name,PySem.W.lookIn name od=some (mA name):=
 let ⟨od,ho,hl⟩:=a9w I.ns
 ⟨od,⟨I.obj,rfl,rfl,ho⟩,hl⟩
section
variable{prog:fK}{w:World}{A:Around}{E:Value->Shared->Prop}{s:Shared}{K:Fg}{x dx C f:Addr}{mA:Str->Option Value}{name:Str}{v:Value}
def b4x(X:K.In s.heap)(I:ObjM s.heap x dx C mA)(hg:PySem.W.plainGet K C name=true)(hh:PySem.W.hasDictIn K C=true)
  (ha:PySem.W.findIn K (.ref C) name=some none) (hv:mA name=some v) (hv':PySem.W.handedIn v=true) (h:Q v { s with toks:=s.toks+1 }) :
  wpAny (model prog w) A (getAttr (.ref x) name expr) Q E s:=by
 obtain⟨b,J,a⟩:=I.look;exact PySem.W.get_value X J (PySem.W.plainGet_of hg).1 (PySem.W.findObj_own hh ha rfl (by simp_all)) hv' h
def b1P(X:K.In s.heap)(I:ObjM s.heap x dx C mA)(hg:PySem.W.plainGet K C name=true)
  (hf:PySem.W.findIn K (.ref C) name=some (some (.ref f))) (ht:PySem.W.isFn K (.ref f)=true) (hv:mA name=none) (h:Q (.ref f,[.ref x]) s) :
  wpAny (model prog w) A (gU (.ref x) name pl) Q E s:=by
 obtain⟨b,J,a⟩:=I.look;exact PySem.W.method_fn X J (PySem.W.plainGet_of hg).1 (PySem.W.plainGet_of hg).2 hf (beq_iff_eq.mp ht) (by show (PySem.W.lookIn name b).map _=some false;rw[a,hv];rfl) h
def b4y(X:K.In s.heap)(I:ObjM s.heap x dx C mA)
  (hs:PySem.W.findIn K (.ref C) "__setattr__"=some (some (.builtin "object.__setattr__"))) (hp:PySem.W.plainOver K C=true) (ht:PySem.W.takerIn K C name=some none) (hh:PySem.W.hasDictIn K C=true)
  (hw:PySem.Within mA ns) (hsz:ns.length<=fH)
  (h:∀h',ObjM h' x dx C (λy=>if y=name then some v else mA y)->Heap.SameBut dx s.heap h'->Q () { s with heap:=h',toks:=s.toks+2 }) :
  wpAny (model prog w) A (setAttr (.ref x) name v) Q E s:=by
 obtain⟨p,J,n⟩:=I.look;refine PySem.W.set_plain X J hs (PySem.W.osa_open X J hp ht λb=>?_);obtain⟨o,j,i⟩:=PySem.W.any_some hh;refine fF (fG (fF (fF (wpAny_loadPart I.obj (fF (PySem.W.Looks.here (PySem.W.looks_clsIn X j) ?_))))));rw[i];refine fG (fF (fG (fF (wpAny_nsSet1 I.ns λt d c=>?_))));obtain⟨q,l,m,f,g,e⟩:=d.count (PySem.Within.cons name v hw);exact fF (wpAny_lookBehind f (g▸pastItsLine_dict (aM e (by grind))) (fG (h _ ⟨(c.2 _ (Ne.symm I.ne)).trans I.obj,d,I.ne⟩ c)))
def b1Q(X:K.In s.heap)(hm:PySem.W.makesIn K C=true)
  (hi:PySem.W.findIn K (.ref C) "__init__"=some (some (.ref f))) (hf:PySem.W.typeIn K (.ref f)=some (.type "function"))
  (h:gf (model prog w) (A.under (.builtin "type.__call__" ⟨.ref C::vs,kw⟩)) (.call (.ref f) ⟨.ref (s.heap.objs.size+1)::vs,kw⟩) (PySem.W.InitBack (s.heap.objs.size+1) R)
   { s with heap:=(s.heap.push PySem.W.emptyDict).push (PySem.W.instObj C s.heap.objs.size) }) :
  gf (model prog w) A (.call (.ref C) ⟨vs,kw⟩) R s:=PySem.W.make_core (PySem.W.makes_of X hm) (PySem.W.looks_findIn X hi) (λa=>PySem.W.bind_fn X a hf) (.inl rfl) h
end
noncomputable def putF(f:Str)(v:V):List (Str×V)->List (Str×V)
 |[]=>[(f,v)]
 | (g,x)::r=>if g=f then (g,v)::r else (g,x)::putF f v r
def a6w(f g:Str)(v:V):∀fs:List (Str×V),(putF f v fs).lookup g=if g=f then some v else fs.lookup g:=by intro z0;induction z0 with
 |nil=>
  show dj g [_]=_
  by_cases h:g=f
  ·simp_all
  ·simp_all
 |cons q0 r I0=>
  obtain⟨k,x⟩:=q0;rw[show putF f v _=(if k=f then _::r else (k,x)::putF f v r) from rfl]
  by_cases hk:k=f
  ·rw[if_pos hk]
   by_cases h:g=k
   ·simp_all
   ·have a:=beq_eq_false_iff_ne.mpr h;simp only[dj,a,if_neg (λe:g=f=>h (e.trans hk.symm))]
  ·rw[if_neg hk]
   by_cases h:g=k
   ·simp_all
   ·have a:=beq_eq_false_iff_ne.mpr h;simp only[dj,a];exact (I0)
def a5D(f:Str)(v:V):∀fs:List (Str×V),f∈(putF f v fs).map (·.1)/\∀g,g∈fs.map (·.1)->g∈(putF f v fs).map (·.1):=by intro z0;induction z0 with
 |nil=>exact⟨by simp[putF],λg h=>by simp at h⟩
 |cons q0 r I0=>
  obtain⟨k,x⟩:=q0;obtain⟨a,b⟩:=I0;rw[show putF f v _=(if k=f then _::r else (k,x)::putF f v r) from rfl]
  by_cases hk:k=f
  ·grind
  ·rw[if_neg hk];refine⟨?_,λg h=>?_⟩
   ·rw[aO];exact bU _ a
   ·rw[aO]at h ⊢;rcases aD.mp h with e |e
    ·exact aD.mpr (.inl e)
    ·exact bU _ (b g e)
def a6x(f:Str)(v:V):∀fs:List (Str×V),(putF f v fs).length<=fs.length+1:=by intro z0;induction z0 with
 |nil=>simp[putF]
 |cons q0 r I0=>
  obtain⟨k,x⟩:=q0;have a:=I0;rw[show putF f v _=(if k=f then _::r else (k,x)::putF f v r) from rfl]
  by_cases hk:k=f
  ·grind
  ·grind
def RelO.some_of(r:RelO (some v) o):∃u,o=some u/\RelV v u:=by
 cases o with
 |none=>exact (r).elim
 |some u=>exact⟨u,rfl,r⟩
def RelO.none_of(r:RelO none o):o=none:=by
 cases o with
 |none=>rfl
 |some u=>exact (r).elim
def a9x(r:RelV v u):PySem.W.handedIn u=true:=by
 cases v with
 |non=>cases (r);rfl
 |bl b=>cases (r);rfl
 |int i=>obtain⟨t,e⟩:=(r);cases e;rfl
 |str x=>obtain⟨t,e⟩:=(r);cases e;rfl
 |byt b=>obtain⟨t,e⟩:=(r);cases e;rfl
 |flt b=>obtain⟨t,e⟩:=(r);cases e;rfl
 |ref a=>cases (r);rfl
 |ty n=>cases (r);rfl
section
variable{P:fK}{w:World}{H H':Hp}{h h':Heap}{a C dx:Addr}{fs fs':List (Str×V)}
def a4U(hok:HOk P w H h)(e:H a=some (.ins C dx fs)):∃mA,ObjM h a dx C mA/\(∀f,RelO (fs.lookup f) (mA f))/\PySem.Within mA (fs.map (·.1))/\fs.length<=1000/\H dx=some (.own a):=by
 obtain⟨d,z,c,g,b,n,r,q⟩:=(hok a _ e);exact⟨b,⟨g,n,c⟩,r,q,z,d⟩
end
structure Cls (K:Fg) (C:Addr):Prop where
 pg:PySem.W.plainGet K C Str.empty=true
 hd:PySem.W.hasDictIn K C=true
 po:PySem.W.plainOver K C=true
 sa:PySem.W.findIn K (.ref C) "__setattr__"=some (some (.builtin "object.__setattr__"))
def Cls.get{K:Fg}(c:Cls K C)(f:Str):PySem.W.plainGet K C f=true:=c.pg
def NoAttr(K:Fg)(C:Addr)(f:Str):Prop:=PySem.W.findIn K (.ref C) f=some none
def NoAttr.taker{K:Fg}(n:NoAttr K C f):PySem.W.takerIn K C f=some none:=by
 unfold PySem.W.takerIn;rw[n]
 rfl
structure Meth (K:Fg) (C:Addr) (m:Str) (f:Addr):Prop where
 at_:PySem.W.findIn K (.ref C) m=some (some (.ref f))
 fn:PySem.W.isFn K (.ref f)=true
 kp:PySem.W.keepIn K (.ref f)=true
section
variable{X:Cx}{pins:List (Addr×Obj)}{σ:St}{H:Hp}{s:Shared}{a C dx:Addr}{fs:List (Str×V)}{f:Str}{v:V}{A:Around}{E:Value->Shared->Prop}
def a4x(I:Inv X pins σ H s)(e:H a=some (.ins C dx fs))(c:Cls X.K C)(n:NoAttr X.K C f)(l:fs.lookup f=some v)
  (h:∀u s',Inv X pins σ H s'->RelV v u->Q u s'):wpAny (model X.prog X.w) A (getAttr (.ref a) f b) Q E s:=by
 obtain⟨i,O,r,_,_,_⟩:=a4U I.hok e;obtain⟨u,g,d⟩:=RelO.some_of (l▸r f);exact b4x I.kIn O (c.get f) c.hd n g (a9x d) (h u _ (I.tok _) d)
def a4y(I:Inv X pins σ H s)(e:H a=some (.ins C dx fs))(c:Cls X.K C)(k:Meth X.K C m g)(l:fs.lookup m=none)
  (h:Q (.ref g,[.ref a]) s):wpAny (model X.prog X.w) A (gU (.ref a) m pl) Q E s:=by
 obtain⟨b,O,r,_,_,_⟩:=a4U I.hok e;have d:=RelO.none_of (l▸r m);exact b1P I.kIn O (c.get m) k.at_ k.fn d h
def a4z(I:Inv X pins σ H s)(e:H a=some (.ins C dx fs))(c:Cls X.K C)(n:NoAttr X.K C f)(hl:fs.length<1000)(ry:RelV y u)
  (h:∀s',Inv X pins σ (upd H a (.ins C dx (putF f y fs))) s'->Q () s'):wpAny (model X.prog X.w) A (setAttr (.ref a) f u) Q E s:=by
 obtain⟨i,O,r,j,_,k⟩:=a4U I.hok e;have v:(fs.map (·.1)).length<=sizeLine:=by rw[aB,fV];lia
 refine b4y I.kIn O c.sa c.po n.taker c.hd j v λm d l=>h _ ?_;have t:∃o,m.get? dx=some o:=by obtain⟨o,_,_,e',_⟩:=d.ns;exact⟨o,e'⟩
 refine I.write (e▸True.intro) (.inr k) (λb q p z=>(l.2 b p).trans z) t ⟨by rw[a0g O.ne];exact k,?_,O.ne,d.obj,_,d.ns,λg=>?_,λg B=>?_⟩
 ·have:=a6x f y fs;lia
 ·show RelO _ _
  rw[a6w]
  by_cases q:g=f
  ·rw[if_pos q,if_pos q];exact ry
  ·simp_all
 ·by_cases q:g=f
  ·rw[q];exact (a5D f y fs).1
  ·refine (a5D f y fs).2 g (j g λz=>B ?_)
   show (if g=f then some u else i g)=none
   rw[if_neg q];exact z
def Inv.made(I:Inv X pins σ H s):Inv X pins σ (upd (upd H s.heap.objs.size (.own (s.heap.objs.size+1))) (s.heap.objs.size+1) (.ins C s.heap.objs.size []))
  { s with heap:=(s.heap.push PySem.W.emptyDict).push (PySem.W.instObj C s.heap.objs.size) }:=by
 have c:(s.heap.push PySem.W.emptyDict).get? s.heap.objs.size=some PySem.W.emptyDict:=Heap.get?_push_size s.heap rfl;have i:((s.heap.push PySem.W.emptyDict).push (PySem.W.instObj C s.heap.objs.size)).get? (s.heap.objs.size+1)=some (PySem.W.instObj C s.heap.objs.size):=by
  have:=Heap.get?_push_size (s.heap.push PySem.W.emptyDict) (o:=PySem.W.instObj C s.heap.objs.size) rfl
  rwa [Heap.size_push]at this
 have g:(s.heap.push PySem.W.emptyDict).Ns s.heap.objs.size _:=⟨PySem.W.emptyDict,#[],_,c,rfl,(λe h=>absurd h (by simp)),λ_=>rfl⟩;refine (I.laid (o:=.own (s.heap.objs.size+1)) (t':=s.toks) (λb u q=>Heap.get?_push_of_some _ q) (aC _) ⟨_,c⟩).laid (t':=s.toks) (λb u q=>Heap.get?_push_of_some _ q) (Nat.le_of_eq (Heap.size_push _ _)) ?_;have d:s.heap.objs.size≠s.heap.objs.size+1:=aQ (dk _);refine⟨by rw[a0g d,a0j],aW _,d,i,λ_=>none,(Heap.Ns1.of_empty g).at λo q=>Heap.get?_push_of_some _ q,λ_=>True.intro,λy f=>absurd rfl f⟩
def b4z(hb:iB e f env (eval e env)=eval e env)
  (h:wpAny (model prog w) A (eval e env) (λo sj=>wpAny (model prog w) A (getAttr o f true) Q E sj) E s):wpAny (model prog w) A (eval (.Attribute e f pos) env) Q E s:=
 Attribute_any_ h (by rw[arm_eval_Attribute,hb])
end
def tFld(K:Fg)(ta:TE)(f:Str):TE:=fun σ H Q=>ta σ H λx H1=>∃a C dx fs v,x=.ref a/\H1 a=some (.ins C dx fs)/\Cls K C/\NoAttr K C f/\fs.lookup f=some v/\Q v H1
def sFld(K:Fg)(ta tv:TE)(f:Str):TS:=λD σ H=>tv σ H λy H1=>ta σ H1 λx H2=>∃a C dx fs,x=.ref a/\H2 a=some (.ins C dx fs)/\Cls K C/\NoAttr K C f/\fs.length<1000 /\
 D.nx σ (upd H2 a (.ins C dx (putF f y fs)))
def InOp(X:Cx)(op:Operator)(rd:V->V->Hp->VK->Prop):Prop:=
 ∀(pins:List (Addr×Obj))(s:Shared)(σ:St)(H:Hp)(x y:V)(u v:Value)(Q:VK),Inv X pins σ H s->RelV x u->RelV y v->rd x y H Q->wpAny (model X.prog X.w) X.A (gK op u v) (EP X pins σ Q) X.xe s
def b4A(K:Fg)(ta tv:TE)(rd:V->V->Hp->VK->Prop)(f:Str):TS:=λD σ H=>ta σ H λx H1=>∃a C dx fs v,x=.ref a/\H1 a=some (.ins C dx fs)/\Cls K C/\NoAttr K C f/\fs.lookup f=some v /\
 tv σ H1 λy H2=>rd v y H2 λz H3=>∃dx' fs',H3 a=some (.ins C dx' fs')/\fs'.length<1000/\D.nx σ (upd H3 a (.ins C dx' (putF f z fs')))
section
variable{X:Cx}{o e value:Expr}{f:Str}{pos pos' tpos:Pos}{ta tv:TE}
def b60(he:PE X e ta)(hb:iB e f X.env (eval e X.env)=eval e X.env):PE X (.Attribute e f pos) (tFld X.K ta f):=by
 intro b s σ H Q I h;refine b4z hb (thn (he b s σ H _ I h) λu p ⟨x,d,i,j,a,C,r,w,v,g,m,c,n,l,q⟩=>?_);subst g;obtain rfl:u=Value.ref a:=j;exact a4x i m c n l λy t o k=>⟨v,d,o,k,q⟩
def b61(ha:PE X o ta)(hv:PE X value tv)(hs:gI value (some (.Attribute o f pos')) pos.line X.env=pure false):PS X (.Assign [.Attribute o f pos'] value pos) (sFld X.K ta tv f):=by
 intro b s σ H D I h;refine plainObj_wpAny_Assign_Attribute (thn (hv b s σ H _ I h) λu g ⟨y,d,k,v,q⟩=>thn (ha b g σ d _ k q) λj A ⟨x,B,r,p,a,C,z,E,i,t,c,n,l,m⟩=>?_) hs;subst i;obtain rfl:j=Value.ref a:=p;exact a4z r t c n l v λw e=>⟨σ,_,e,m⟩
def a9y(ha:PE X o ta)(hv:PE X value tv)(hop:InOp X op rd):PS X (.AugAssign (.Attribute o f tpos) op value pos) (b4A X.K ta tv rd f):=by
 intro b s σ H D I h;refine wpAny_AugAssign_AttributeAny (thn (ha b s σ H _ I h) λj T ⟨x,e,k,M,a,C,dx,fs,v,B,p,c,n,l,q⟩=>?_);subst B;obtain rfl:j=Value.ref a:=M;exact a4x k p c n l λu J r m=>thn (hv b J σ e _ r q) λi E ⟨y,t,g,w,L⟩=>thn (hop b E σ t v y u i _ g m w L) λU Y ⟨z,H3,N,A,R,S,d,Q,F⟩=>(a4z N d c n Q A λW G=>⟨σ,_,G,F⟩)
end
section
variable{X:Cx}{pins:List (Addr×Obj)}{σ:St}{H:Hp}{s:Shared}{A:Around}{E:Value->Shared->Prop}{Q:Value->Shared->Prop}{c:Value}{b:Bool}
inductive TyOf (K:Fg) (H:Hp):V->Value->Prop where
 |non:TyOf K H .non (.type "NoneType")
 |bl (x:Bool):TyOf K H (.bl x) (.type "bool")
 |int (i:Int):TyOf K H (.int i) (.type "int")
 |str (x:Str):TyOf K H (.str x) (.type "str")
 |flt (x:UInt64):TyOf K H (.flt x) (.type "float")
 |lst {a:Addr} {xs:List V} (e:H a=some (.lst xs)):TyOf K H (.ref a) (.type "list")
 |frz {a:Addr} {o:Obj} {xs:List V} (e:H a=some (.frz o (.lst xs))):TyOf K H (.ref a) (.type "list")
 |tup {a:Addr} {xs:List V} (e:H a=some (.tup xs)):TyOf K H (.ref a) (.type "tuple")
 |dK {a:Addr} {kvs:List (Key×V)} (e:H a=some (.dK kvs)):TyOf K H (.ref a) (.type "dict")
 |dT {a:Addr} {kvs:List (List Key×V)} (e:H a=some (.dT kvs)):TyOf K H (.ref a) (.type "dict")
 |ins {a C dx:Addr} {fs:List (Str×V)} (e:H a=some (.ins C dx fs)) (cl:Cls K C) (ha:PySem.W.findIn K (.ref C) "__class__"=some (some (.builtin "object.__class__")))
   (hn:PySem.W.specialIn K (.builtin "object.__class__") "__get__"=some (some (.builtin "getset_descriptor.__get__"))) (htk:PySem.W.takesIn K (.builtin "object.__class__")=some true)
   (hm:PySem.W.mroIn K C (.type "object")=some true):TyOf K H (.ref a) (.ref C)
def a9z(I:Inv X pins σ H s)(rx:RelV x u)(ty:TyOf X.K H x t)(e:PySem.W.kitOne X.K t c=some b)(h:∀tk,Q (.bool b) { s with toks:=tk }) :
  wpAny (model X.prog X.w) A (call (.builtin "isinstance") [u,c]) Q E s:=by
 cases ty with
 |non=>cases (rx);exact PySem.W.kia_one PySem.W.kitx_none I.kIn True.intro e (λz=>nomatch z) h
 |bl y=>cases (rx);exact PySem.W.kia_one PySem.W.kitx_bool I.kIn True.intro e (λz=>nomatch z) h
 |int i=>obtain⟨t,q⟩:=(rx);cases q;exact PySem.W.kia_one PySem.W.kitx_int I.kIn True.intro e (λz=>nomatch z) h
 |str y=>obtain⟨t,q⟩:=(rx);cases q;exact PySem.W.kia_one PySem.W.kitx_str I.kIn True.intro e (λz=>nomatch z) h
 |flt y=>obtain⟨t,q⟩:=(rx);cases q;exact PySem.W.kia_one PySem.W.kitx_float I.kIn True.intro e (λz=>nomatch z) h
 | @lst a f ea=>
  cases (rx);obtain⟨_,_,n,_,d⟩:=(I.hok a _ ea);exact PySem.W.kia_one PySem.W.kitx_list I.kIn ⟨_,d,rfl⟩ e (λz=>nomatch z) h
 | @frz a ob f ea=>
  cases (rx);obtain⟨_,_,_,n,_,d⟩:=(I.hok a _ ea);exact PySem.W.kia_one PySem.W.kitx_list I.kIn ⟨_,d,rfl⟩ e (λz=>nomatch z) h
 | @tup a f ea=>
  cases (rx);obtain⟨_,_,_,p⟩:=(I.hok a _ ea);obtain⟨o,d,g,_⟩:=p;exact PySem.W.kia_one PySem.W.kitx_tuple I.kIn ⟨o,d,g⟩ e (λz=>nomatch z) h
 | @dK a kvs ea=>
  cases (rx);obtain⟨_,_,l,_,p⟩:=(I.hok a _ ea);obtain⟨o,j,k,d,g,_⟩:=p;exact PySem.W.kia_one PySem.W.kitx_dict I.kIn ⟨o,d,g.1⟩ e (λz=>nomatch z) h
 | @dT a kvs ea=>
  cases (rx);obtain⟨_,_,f,_,o,j,k,d,g,_⟩:=(I.hok a _ ea);exact PySem.W.kia_one PySem.W.kitx_dict I.kIn ⟨o,d,g.1⟩ e (λz=>nomatch z) h
 | @ins a C dx fs ea cl ha hn htk hm=>
  cases (rx);obtain⟨r,O,_⟩:=a4U I.hok ea;obtain⟨m,J,_⟩:=O.look;exact PySem.W.kia_one (PySem.W.kitx_own (cl.get _) cl.hd ha hn htk hm) I.kIn J e (λz=>nomatch z) h
end
structure Room (k:Nat) (A:Around):Prop where
 hd:A.handled=none
 dp:A.depth+3*k+5<recursionLimit
 un:A.units+16*k+200<cLine
def Room.mono(r:Room k A)(h:j<=k):Room j A:=⟨r.hd,by have:=r.dp;lia,by have:=r.un;lia⟩
def Room.deeper(r:Room (k+1) A)(env:Env):Room k (A.deeper env):=
 ⟨r.hd,by have:=r.dp;show A.depth+1+3*k+5<_;lia,by have:=r.un;show A.units+3+16*k+200<_;lia⟩
def Room.in1(r:Room (k+1) A):Room k A.in1:=
 ⟨r.hd,by have:=r.dp;show A.depth+3*k+5<_;lia,by have:=r.un;show A.units+1+16*k+200<_;lia⟩
def a8l{A:Around}:(A.under (.builtin "type.__call__" ⟨.ref C::us,kw⟩)).depth=A.depth+1:=rfl
def a8m{A:Around}:(A.under (.builtin "type.__call__" ⟨.ref C::us,kw⟩)).units=A.units+1:=rfl
def Room.make(r:Room (k+1) A)(C:Addr)(us:List Value)(kw:List (Str×Value)):Room k (A.under (.builtin "type.__call__" ⟨.ref C::us,kw⟩)):=
 ⟨r.hd,by have:=r.dp;rw[a8l];lia,by have:=r.un;rw[a8m];lia⟩
def Room.depth(r:Room k A):A.depth<recursionLimit:=by have:=r.dp;omega
def Room.units(r:Room k A):A.units+64<cLine:=by have:=r.un;omega
def tNil:TA:=λ_ H Q=>Q [] H
def b9M(ta:TE)(tr:TA):TA:=fun σ H Q=>ta σ H λx H1=>tr σ H1 λxs H2=>Q (x::xs) H2
section
variable{X:Cx}{e:Expr}{es:List Expr}{te:TE}{t:TA}{pos:Pos}
def b3v:PA X [] tNil:=λ_ _ _ _ H Q I h=>Calls.spliced_nil ⟨[],H,I,.nil,h⟩
def a9A(ha:PE X e te)(hr:PA X es t)(hs:fL (e::es) X.env=(false,eval e X.env)::fL es X.env):PA X (e::es) (b9M te t):=by
 intro b a s σ H Q I h;rw[hs];exact Calls.spliced_cons (thn (ha a s σ H _ I h) λu j ⟨x,d,k,c,g⟩=>(thn (hr b a j σ d _ k g) λp o ⟨i,f,l,m,n⟩=>⟨x::i,f,l,.cons c m,n⟩))
def tTup(t:TA):TE:=fun σ H Q=>t σ H λxs H1=>xs.length<=fH/\∀p,H1 p=none->Q (.ref p) (upd H1 p (.tup xs))
def tLst(t:TA):TE:=fun σ H Q=>t σ H λxs H1=>xs.length<=fH/\∀p,H1 p=none->Q (.ref p) (upd H1 p (.lst xs))
def b62(h:PA X es t):PE X (.Tuple es x1 pos) (tTup t):=by
 intro c s σ H Q I i;refine wpAny_Tuple_spliced (thn (h pos c s σ H _ I i) λk a ⟨g,d,f,r,z,q⟩=>⟨by rw[<- r.length];exact z,?_⟩);have j:=f.hok.fresh (aC _);refine⟨.ref a.heap.objs.size,upd d a.heap.objs.size _,f.laid (λb u e=>Heap.get?_push_of_some _ e) (aC _) ?_,rfl,q _ j⟩;exact⟨z,k,r,⟨_,Heap.get?_push_size _ rfl,rfl,_,rfl⟩⟩
def b63(h:PA X es t):PE X (.List es pos) (tLst t):=by
 intro c s σ H Q I j;refine wpAny_List_spliced (thn (h pos c s σ H _ I j) λi a ⟨k,d,f,r,z,q⟩=>⟨by rw[<- r.length];exact z,?_⟩);have g:=f.hok.fresh (aC _);refine⟨.ref a.heap.objs.size,upd d a.heap.objs.size _,f.laid (λb u e=>Heap.get?_push_of_some _ e) (aC _) ?_,rfl,q _ g⟩;exact⟨z,i,0,r,Heap.get?_push_size _ rfl⟩
end
abbrev Sp:=List V->Hp->VK->XK->Prop
abbrev CXT:=List Env->Hp->Shared->XK->Value->Shared->Prop
structure Env0 (P:fK) (w:World) (K:Fg) (mg:Str->Option Value) (base:Heap) (A:Around) (outer:List Env) (s:Shared) (H:Hp):Prop where
 frames:A.frames=some outer
 mod:Mod K mg base
 bs:∀b o,base.get? b=some o->s.heap.get? b=some o/\H b=none
 bsz:base.objs.size<=s.heap.objs.size
 funs:s.heap.FunFrames base outer
 frf:∀b∈frs outer,H b=none
 hok:HOk P w H s.heap
 bare:gz s.gens
def CE(outer:List Env)(P:fK)(w:World)(H:Hp)(s:Shared)(Q:VK)(u:Value)(s':Shared):Prop:=
 ∃v H',s'.os=s.os/\gz s'.gens/\Un (frs outer) [] H H' s.heap s'.heap/\HOk P w H' s'.heap/\RelV v u/\Q v H'
def CR(CX:CXT)(outer:List Env)(P:fK)(w:World)(H:Hp)(s:Shared)(Q:VK)(E:XK)(r:Result)(s':Shared):Prop:=
 match r with
 |.ok (.ret u)=>CE outer P w H s Q u s'
 |.ok _=>False
 |.error e=>CX outer H s E e s'
structure FnOk (P:fK) (w:World) (K:Fg) (mg:Str->Option Value) (base:Heap) (CX:CXT) (k:Nat) (f:Addr) (fd:f8) (ps:List Str) (sp:Sp):Prop where
 len:∀vs H Q E,sp vs H Q E->vs.length=ps.length
 run:∀(A:Around)(outer:List Env)(s:Shared)(H:Hp)(args:Args)(us:List Value)(vs:List V)(Q:VK)(E:XK),Room k A->Env0 P w K mg base A outer s H->ii s fd args (ps.zip us)->Vals vs us->sp vs H Q E ->
  gf (model P w) A (.call (.ref f) args) (CR CX outer P w H s Q E) s
def FnOk.mono{K:Fg}(F:FnOk P w K mg base CX j f fd ps sp)(h:j<=k) :
  FnOk P w K mg base CX k f fd ps sp:=⟨F.len,λA a s H b c e Q E d=>F.run A a s H b c e Q E (d.mono h)⟩
def FnOk.imp{K:Fg}(F:FnOk P w K mg base CX k f fd ps sp)
  (h:∀vs H Q E,sp' vs H Q E->sp vs H Q E):FnOk P w K mg base CX k f fd ps sp':=
 ⟨λb H Q E q=>F.len b H Q E (h _ _ _ _ q),λA a s H c d b Q E j i g l e=>F.run A a s H c d b Q E j i g l (h _ _ _ _ e)⟩
def Env0.make{K:Fg}(e:Env0 P w K mg base A outer s H)(C:Addr)(us:List Value)(kw:List (Str×Value)) :
  Env0 P w K mg base (A.under (.builtin "type.__call__" ⟨.ref C::us,kw⟩)) outer s H:=⟨by first |exact e.frames | (simpa using e.frames),e.mod,e.bs,e.bsz,e.funs,e.frf,e.hok,e.bare⟩
def Env0.in1{K:Fg}(e:Env0 P w K mg base A outer s H) :
  Env0 P w K mg base A.in1 outer s H:=⟨e.frames,e.mod,e.bs,e.bsz,e.funs,e.frf,e.hok,e.bare⟩
section
variable{X:Cx}{pins:List (Addr×Obj)}{σ:St}{H:Hp}{s s':Shared}
def Inv.env0(I:Inv X pins σ H s):Env0 X.prog X.w X.K X.mg X.base X.A X.stack s H:=
 ⟨I.ok.frames,I.ok.mod,I.bs,aM I.ok.bsz I.sz,I.stack,I.stkFree,I.hok,I.bare⟩
def Inv.after(I:Inv X pins σ H s)(h:CE X.stack X.prog X.w H s Q u s'):EP X pins σ Q u s':=by
 obtain⟨v,H',j,a,f,c,r,q⟩:=h;obtain⟨i,g,d,t,e⟩:=s';obtain rfl:e=s.os:=j;exact⟨v,H',I.call f c a (λb z=>absurd z (by simp)),r,q⟩
end
def b9N(sp:Sp)(dvs:List V)(E:XK)(t:TA):TE:=fun σ H Q=>t σ H λvs H1=>sp (vs++dvs) H1 Q E
def b4B(C:Addr)(m:Str)(sp:Sp)(dvs:List V)(E:XK)(ta:TE)(t:TA):TE:=fun σ H Q=>ta σ H λx H1=>∃a dx fs,x=.ref a/\H1 a=some (.ins C dx fs)/\fs.lookup m=none /\
 t σ H1 λvs H2=>sp (x::(vs++dvs)) H2 Q E
def b9O(C:Addr)(sp:Sp)(dvs:List V)(E:XK)(t:TA):TE:=fun σ H Q=>t σ H λvs H1=>∀x dx,H1 x=none->H1 dx=none->dx≠x ->
 sp (.ref x::(vs++dvs)) (upd (upd H1 dx (.own x)) x (.ins C dx [])) (λv H2=>v=.non/\Q (.ref x) H2) E
def Binds(K:Fg)(fd:f8)(ps:List Str)(ds:List Value):Prop:=
 ∀(s:Shared)(us:List Value),K.In s.heap->(us++ds).length=ps.length->ii s fd ⟨us,[]⟩ (ps.zip (us++ds))
def Binds.all{K:Fg}(h:∀us:List Value,us.length=ps.length->jh fd ⟨us,[]⟩=pure (ps.zip us)):Binds K fd ps []:=λs b _ a=>by
 rw[bj]at a ⊢;exact .of_eq (h b a)
def a3z(CX:CXT)(X:Cx)(E:XK):Prop:=∀(pins:List (Addr×Obj))(σ:St)(H:Hp)(s:Shared)(e:Value)(s':Shared),Inv X pins σ H s->CX X.stack H s E e s'->X.xe e s'
section
variable{X:Cx}{CX:CXT}{k:Nat}{f C:Addr}{fd:f8}{ps:List Str}{sp:Sp}{dvs:List V}{ds:List Value}{E:XK}{x m:Str}{p pos apos:Pos}{e o:Expr}{es:List Expr}{ta:TE}{t:TA}
def a9B(F:FnOk X.prog X.w X.K X.mg X.base CX k f fd ps sp)(hr:Room k X.A)(hb:Binds X.K fd ps ds)(hd:Vals dvs ds)(hx:a3z CX X E)
  (I:Inv X pins σ H s) (r:Vals vs us) (h:sp (vs++dvs) H Q E):wpAny (model X.prog X.w) X.A (call (.ref f) us) (EP X pins σ Q) X.xe s:=by
 have b:=r.append hd;have d:(us++ds).length=ps.length:=b.length▸F.len _ _ _ _ h;refine ji (hZ (F.run X.A X.stack s H ⟨us,[]⟩ (us++ds) _ Q E hr I.env0 (hb s us I.kIn d) b h) λr c a=>?_);cases r with
 |error e=>exact hx pins σ H s e c I a
 |ok fl=>
  cases fl with
  |ret u=>exact I.after a
  |next=>exact aH a
  |brk=>exact aH a
  |cont=>exact aH a
def b4C(F:FnOk X.prog X.w X.K X.mg X.base CX k f fd ps sp)(hr:Room k X.A)(hg:Gl X x)(hm:X.mg x=some (.ref f))(hk:PySem.W.keepIn X.K (.ref f)=true)(hb:Binds X.K fd ps ds)(hd:Vals dvs ds)(hx:a3z CX X E)
  (ha:PA X (e::es) t) (hdb:(x==("__debug__":Str))=false) (he:fL (e::es) X.env=(false,eval e X.env)::fL es X.env) (hpl:(backTo pos (fL es X.env)).any (·.1)=false) :
  PE X (.Call (.Name x p) (e::es) [] pos) (b9N sp dvs E t):=by
 intro a s σ H Q I h;refine iQ (a6u I hg hm ?_ hdb);refine PySem.W.callWith_K I.ok.mod.kin hk (thn (ha pos a s σ H _ I h) λi d ⟨c,g,b,r,q⟩=>⟨b.kIn,?_⟩) he hpl;exact a9B F hr hb hd hx b r q
def b4D(he:PE X o ta)(c:Cls X.K C)(hm:Meth X.K C m f)(F:FnOk X.prog X.w X.K X.mg X.base CX k f fd ps sp)(hr:Room k X.A)(hb:Binds X.K fd ps ds)(hd:Vals dvs ds)(hx:a3z CX X E)(ha:PA X (e::es) t)
  (hst:fL (e::es) X.env=(false,eval e X.env)::fL es X.env) (hpl:(backTo pos (fL es X.env)).any (·.1)=false)
  (ht:eval (.Call (.Attribute o m apos) (e::es) [] pos) X.env=(do
   let ov <- eval o X.env
   gx apos.atName
   let (f,first) <- f6 [ov] (gU ov m pl)
   ij pos f first (backTo pos (fL (e::es) X.env)) (gZ pos (g0 [] X.env)))) :
  PE X (.Call (.Attribute o m apos) (e::es) [] pos) (b4B C m sp dvs E ta t):=by
 intro b s σ H Q I h;refine PySem.W.methodCall_KW (thn (he b s σ H _ I h) λu z ⟨x,p,i,n,a,dx,fs,v,y,l,q⟩=>?_) ht;subst v;obtain rfl:u=Value.ref a:=n;refine a4y i y c hm l (PySem.W.callWith_K I.ok.mod.kin hm.kp (thn (ha pos b z σ p _ i q) λus s2 ⟨vs,H2,g,r,B⟩=>⟨g.kIn,?_⟩) hst hpl);exact a9B (vs:=.ref a::vs) F hr hb hd hx g (.cons rfl r) B
def b1R(he:PE X o ta)(c:Cls X.K C)(hm:Meth X.K C m f)(F:FnOk X.prog X.w X.K X.mg X.base CX k f fd ps sp)(hr:Room k X.A)(hb:Binds X.K fd ps ds)(hd:Vals dvs ds)(hx:a3z CX X E)
  (ht:eval (.Call (.Attribute o m apos) [] [] pos) X.env=(do
   let ov <- eval o X.env
   gx apos.atName
   let (f,first) <- f6 [ov] (gU ov m pl)
   ij pos f first (backTo pos (fL [] X.env)) (gZ pos (g0 [] X.env)))) :
  PE X (.Call (.Attribute o m apos) [] [] pos) (b4B C m sp dvs E ta tNil):=by
 intro b s σ H Q I h;refine PySem.W.methodCall_KW (thn (he b s σ H _ I h) λu j ⟨x,r,d,i,a,p,n,g,e,l,q⟩=>?_) ht;subst g;obtain rfl:u=Value.ref a:=i;exact a4y d e c hm l (PySem.W.callWith_K0 d.kIn hm.kp (a9B (vs:=[.ref a]) F hr hb hd hx d (.cons rfl .nil) q))
structure Mk (K:Fg) (C f:Addr):Prop where
 makes:PySem.W.makesIn K C=true
 init:PySem.W.findIn K (.ref C) "__init__"=some (some (.ref f))
 fn:PySem.W.isFn K (.ref f)=true
 kp:PySem.W.keepIn K (.ref C)=true
def b1S(M:Mk X.K C f)(F:FnOk X.prog X.w X.K X.mg X.base CX k f fd ps sp)(hr:Room (k+1) X.A)(hb:Binds X.K fd ps ds)(hd:Vals dvs ds)
  (hx:a3z CX X E) (I:Inv X pins σ H s) (r:Vals vs us)
  (h:∀x dx,H x=none->H dx=none->dx≠x->sp (.ref x::(vs++dvs)) (upd (upd H dx (.own x)) x (.ins C dx [])) (λv H2=>v=.non/\Q (.ref x) H2) E) :
  wpAny (model X.prog X.w) X.A (call (.ref C) us) (EP X pins σ Q) X.xe s:=by
 have d:=h _ s.heap.objs.size (I.hok.fresh (cC _)) (I.hok.fresh (aC _)) (aQ (dk _));have b:=Inv.made (C:=C) I;have c:Vals (V.ref (s.heap.objs.size+1)::_) _:=.cons rfl (r.append hd);have g:(Value.ref (s.heap.objs.size+1)::us++ds).length=ps.length:=by
  have e:=c.length;rw[F.len _ _ _ _ d]at e;exact e.symm
 refine ji (b1Q I.kIn M.makes M.init (beq_iff_eq.mp M.fn) (hZ (F.run _ X.stack _ _ ⟨Value.ref (s.heap.objs.size+1)::us,[]⟩ _ _ _ E (hr.make C us [])
  (b.env0.make C us []) (hb _ _ b.kIn g) c d) λr m a=>?_))
 cases r with
 |error e=>exact hx pins σ _ _ e m b a
 |ok fl=>
  cases fl with
  |ret u=>
   obtain⟨v,H',I3,j,l,i⟩:=b.after a;subst l;exact⟨j,⟨V.ref (s.heap.objs.size+1),H',I3,rfl,i⟩⟩
  |next=>exact aH a
  |brk=>exact aH a
  |cont=>exact aH a
def b1T(M:Mk X.K C f)(F:FnOk X.prog X.w X.K X.mg X.base CX k f fd ps sp)(hr:Room (k+1) X.A)(hg:Gl X x)(hm:X.mg x=some (.ref C))(hb:Binds X.K fd ps ds)(hd:Vals dvs ds)(hx:a3z CX X E)
  (hdb:(x==("__debug__":Str))=false):PE X (.Call (.Name x p) [] [] pos) (b9O C sp dvs E tNil):=by
 intro a s σ H Q I h;refine iQ (a6u I hg hm ?_ hdb);exact PySem.W.callWith_K0 I.kIn M.kp (b1S M F hr hb hd hx I .nil h)
end
section
variable{X:Cx}{CX:CXT}{k:Nat}{f C:Addr}{fd:f8}{ps ks:List Str}{sp:Sp}{E:XK}{x m:Str}{p pos apos kpos:Pos}{e o:Expr}{es:List Expr}{kws:List iC}{te ta:TE}{t tk:TA}{nm:Option Str}
variable{g:List Value->List Value->List Value}{gV:List V->List V->List V}
end
structure FnScope (N P:List Str) (sc:Scope):Prop where
 kind:sc.kind=.function
 co:sc.isCoroutine=false
 gen:sc.isGenerator=false
 nd:N.Nodup
 pre:N.take P.length=P
 par:∀x∈P,sc.names.lookup x=some .local\/sc.names.lookup x=some .cell
 nofree:∀y∈sc.names,y.2≠.free
def a9C{kindOf:Str->Option fQ}:∀{binds:List (Str×Value)}{m:Str->Option Value},(∀v,(x,v)∉binds)->bindL kindOf binds m x=m x:=by intro z0;induction z0 with
 |nil=>intro _ _;exact rfl
 |cons q0 r I0=>
  obtain⟨n,v⟩:=q0;intro m h;unfold bindL;rw[I0 λw a=>h w (bU _ a)]
  split
  ·have:x≠n:=by rintro rfl;exact h v b5
   simp[this]
  ·rfl
def a9D{kindOf:Str->Option fQ}:∀{binds:List (Str×Value)}{m:Str->Option Value},(∀v,(x,v)∉binds)->bindC kindOf binds m x=m x:=by intro z0;induction z0 with
 |nil=>intro _ _;exact rfl
 |cons q0 r I0=>
  obtain⟨n,v⟩:=q0;intro m h;unfold bindC;rw[I0 λw a=>h w (bU _ a)]
  split
  ·rfl
  ·have:x≠n:=by rintro rfl;exact h v b5
   simp[this]
theorem a5E{kindOf:Str->Option fQ}:∀{P:List Str}{vs:List Value}{i:Nat}{m:Str->Option Value},P.Nodup->P[i]?=some x->vs[i]?=some v->kindOf x=some .local ->
  bindL kindOf (P.zip vs) m x=some v
 |[],_,_,_,_,h,_,_=>by simp at h
 |_::_,[],_,_,_,_,h,_=>by simp at h
 |p::P,w::vs,0,m,nd,h1,h2,hk=>by
  simp at h1 h2;subst h1;subst h2
  show bindL kindOf (_::P.zip vs) m p=_
  unfold bindL;rw[a9C λv a=>(bx.mp nd).1 (dL a).1,if_pos hk];simp
 |p::P,w::vs,i+1,m,nd,h1,h2,hk=>by
  unfold bindL;exact a5E (bx.mp nd).2 (by simpa using h1) (by simp_all) hk
theorem a5F{kindOf:Str->Option fQ}:∀{P:List Str}{vs:List Value}{i:Nat}{m:Str->Option Value},P.Nodup->P[i]?=some x->vs[i]?=some v->kindOf x≠some .local ->
  bindC kindOf (P.zip vs) m x=some v
 |[],_,_,_,_,h,_,_=>by simp at h
 |_::_,[],_,_,_,_,h,_=>by simp at h
 |p::P,w::vs,0,m,nd,h1,h2,hk=>by
  simp at h1 h2;subst h1;subst h2
  show bindC kindOf (_::P.zip vs) m p=_
  unfold bindC;rw[a9D λv a=>(bx.mp nd).1 (dL a).1,if_neg hk];simp
 |p::P,w::vs,i+1,m,nd,h1,h2,hk=>by
  unfold bindC;exact a5F (bx.mp nd).2 (by simpa using h1) (by simp_all) hk
noncomputable def start(N:List Str)(vs:List V):St:=vs.map some++dq (N.length-vs.length) none
noncomputable def cxOf(CX:CXT)(P:fK)(w:World)(K:Fg)(mg:Str->Option Value)(base:Heap)(N:List Str)(qual:Str)(scope:Scope)(f:Addr)(cd:Value)(A:Around)(outer:List Env)(s:Shared)(H:Hp)(E:XK):Cx where
 prog:=P
 w:=w
 K:=K
 mg:=mg
 base:=base
 A:=A.deeper (envOfC qual scope s.heap.objs.size f cd)
 N:=N
 s₀:=s
 H₀:=H
 env:=envOfC qual scope s.heap.objs.size f cd
 outer:=outer
 stack:=envOfC qual scope s.heap.objs.size f cd::outer
 ex:=[]
 calm:=true
 fn:=λ_=>true
 pn:=[]
 xe:=λe s'=>wpAny (model P w) (A.deeper (envOfC qual scope s.heap.objs.size f cd)) (leaving (envOfC qual scope s.heap.objs.size f cd) e) (λ_ s''=>CX outer H s E e s'') (λe' s''=>CX outer H s E e' s'') s'
def a7q{sc:Scope}(h:sc.names.lookup x=some .cell):∃c,(jj n sc.names []).lookup x=some c:=by
 exact eE.mp (PySem.W.cellsFrom_some sc.names n [] (.inl h))
def a9E{K:Fg}
  (S:FnScope N ps scope) (hd:A.handled=none) (e0:Env0 P w K mg base A outer s H) (hl:vs.length=ps.length) (r:Vals vs us)
  (x:InCallC s s.heap.objs.size (bindL (envOfC qual scope s.heap.objs.size f cd).kindOf (ps.zip us) λ_=>none) (jj (s.heap.objs.size+1) scope.names []) (bindC (envOfC qual scope s.heap.objs.size f cd).kindOf (ps.zip us) λ_=>none) s1) :
  Inv (cxOf CX P w K mg base N qual scope f cd A outer s H E) [] (start N vs) H s1:=by
 have G:ps.length<=N.length:=by have:=congrArg bf S.pre;rw[aR]at this;lia
 obtain⟨m,J,rfl,C⟩:=x.done;have l:∀b:Addr,b∉(cxOf CX P w K mg base N qual scope f cd A outer s H E).ex:=λb z=>absurd (show b∈([]) from z) (by simp);refine⟨⟨e0.mod,S.kind,rfl,rfl,aC _,λy z c m d=>?_,λy g=>?_,λy c _ h=>?_,λ_=>hd,Around.frames_deeper e0.frames,.inr ⟨rfl,rfl⟩,λb z=>absurd z (l b),e0.bs,e0.bsz,λb _ _=>l b,λb z=>absurd z (l b),e0.funs,e0.frf⟩,
  rfl,e0.bare,Un.kept C,⟨_,x.toInCall.ns,λi y v m d I=>?_⟩,λy c h=>⟨_,x.cell y c h⟩,e0.hok.fresh (aC _),λy c h=>?_,λp j=>absurd (show p∈([]) from j) (by simp),e0.hok.kept C,?_⟩
 ·exact name_of_addr x.apart (PySem.mem_of_lookup m) (PySem.mem_of_lookup d)
 ·have g:=g;rcases g with g |g
  ·exact a7q g
  ·exact absurd rfl (S.nofree _ (PySem.mem_of_lookup g))
 ·exact b2 (x.above y c (PySem.mem_of_lookup h))
 ·have o:i<vs.length:=by
   unfold start at d
   by_cases o:i<vs.length
   ·exact o
   ·rw[cv (by simp_all)]at d;rw[List.getElem?_replicate]at d
    split at d<;>cases d
  have F:vs[i]?=some v:=by
   unfold start at d;rw[cD (by simpa using o),aK]at d;cases e:vs[i]? with
   |none=>rw[e]at d;cases d
   |some a=>rw[e]at d;cases d;rfl
  obtain⟨u,B,D⟩:=r.get F;have j:ps[i]?=some y:=by
   rw[<- S.pre,List.getElem?_take_of_lt (by lia)];exact m
  have t:ps.Nodup:=S.pre▸S.nd.sublist (cR _ _);refine⟨u,D,?_⟩;rcases S.par y (aS j) with k |k
  ·exact .inl ⟨k,a5E t j B k⟩
  ·obtain⟨c,e⟩:=a7q k;refine .inr ⟨.inl k,c,e,?_⟩;have q:=x.cell y c e;rw[a5F t j B (by show scope.names.lookup y≠_;rw[k];decide)]at q;exact q
 ·exact e0.hok.fresh (b2 (x.above y c (PySem.mem_of_lookup h)))
 ·unfold start
  show _=N.length
  rw[aG,aB,List.length_replicate]
  lia
def b9P{K:Fg}{dV kV doc pm cdv ct oc:Value}
 (lk:K.lookup f=some ⟨oc,od,.func (PySem.W.fnOf name qual params body scope dV kV doc pm an cdv ct),osl⟩) (hcd:PySem.W.codeIn K cdv qual=true) (S:FnScope N ps scope)
    (len:∀vs H Q E,sp vs H Q E->vs.length=ps.length)
    (hbody:∀(A:Around)(outer:List Env)(s:Shared)(H:Hp)(vs:List V)(Q:VK)(E:XK),Room k (A.deeper (envOfC qual scope s.heap.objs.size f cdv))->sp vs H Q E ->
      ∃t,PSs (cxOf CX P w K mg base N qual scope f cdv A outer s H E) body t/\t { nx:=λ_ H'=>Q .non H',rt:=Q } (start N vs) H) :
    FnOk P w K mg base CX (k+1) f (PySem.W.fnOf name qual params body scope dV kV doc pm an cdv ct) ps sp:=by
  refine⟨len,λA a s H L F m Q E z g R r i=>?_⟩;have C:=g.mod.kin.keeps λb o e=>(g.bs b o e).1;have h:∀y∈ps.zip F,scope.names.lookup y.1=some .local\/(scope.names.lookup y.1=some .cell/\((jj (s.heap.objs.size+1) scope.names []).lookup y.1).isSome=true):=by
    rintro⟨n,v⟩ G;rcases S.par n (dL G).1 with q |q
    · exact .inl q
    · exact .inr ⟨q,PySem.W.cellsFrom_some _ _ _ (.inl q)⟩
  refine codeAny_call_function z.depth (C _ _ lk) rfl S.co S.gen rfl (PySem.W.codeRec_of C hcd) (R _ _ _ _ (wpAny_newFunctionEnv_cells S.kind h λaa Y B x=>?_));subst Y;refine⟨(g.mod.nolimit.keeps λb o e=>(g.bs b o e).1).keeps x.toInCall.keep,codeAny_func ?_⟩;obtain⟨t,T,U⟩:=hbody A a s H m Q E (z.deeper _) i;have I:Inv (cxOf CX P w K mg base N qual scope f cdv A a s H E) [] _ H B:=a9E S z.hd g (len _ _ _ _ i) r x;refine fS (T [] B _ H _ I U) (λX p c=>?_) λe p c=>c;have j:∀{σ':St}{d:Hp}{v:V}{u:Value},Inv (cxOf CX P w K mg base N qual scope f cdv A a s H E) [] σ' d p->RelV v u->Q v d->CE a P w H s Q u p:=
    λ{σ' d v u} J l q=>⟨v,d,J.os,J.bare,J.base,J.hok,l,q⟩
  cases X with
  |ret u=>
    obtain⟨v,σ',d,J,l,q⟩:=c;exact j J l q
  |next=>
    obtain⟨σ',d,J,q⟩:=c;exact j (v:=V.non) J rfl q
  |brk=>
    obtain⟨_,_,_,q⟩:=c;exact aH q
  |cont=>
    obtain⟨_,_,_,q⟩:=c;exact aH q
section
variable{X:Cx}{x:Str}{p pos:Pos}{e:Expr}{es:List Expr}{t:TA}{id T:String}{r:List V->Hp->VK->Prop}
def tCB(r:List V->Hp->VK->Prop)(t:TA):TE:=fun σ H Q=>t σ H λvs H1=>r vs H1 Q
def a7r(hc:CallR X (.builtin id) r)(hg:Gl X x)(hm:X.mg x=none)(hv:gc x=some (.builtin id))(ha:PA X (e::es) t)(hn:x≠"__name__")(hdb:(x==("__debug__":Str))=false)
  (he:fL (e::es) X.env=(false,eval e X.env)::fL es X.env) (hpl:(backTo pos (fL es X.env)).any (·.1)=false):PE X (.Call (.Name x p) (e::es) [] pos) (tCB r t):=by
 intro a s σ H Q I h;refine iQ (a3x I hg hm hv ?_ hn hdb);exact PyProof.Rows.callWith_builtin1 (thn (ha pos a s σ H _ I h) λg c ⟨b,f,i,d,j⟩=>hc a c σ f b g Q i d j) he hpl
def a5G(hc:CallR X (.type T) r)(hg:Gl X x)(hm:X.mg x=none)(hv:gc x=some (.type T))(ha:PA X (e::es) t)(hn:x≠"__name__")(hdb:(x==("__debug__":Str))=false)
  (he:fL (e::es) X.env=(false,eval e X.env)::fL es X.env) (hpl:(backTo pos (fL es X.env)).any (·.1)=false):PE X (.Call (.Name x p) (e::es) [] pos) (tCB r t):=by
 intro a s σ H Q I h;refine iQ (a3x I hg hm hv ?_ hn hdb);exact PyProof.Rows.callWith_type1 (thn (ha pos a s σ H _ I h) λj f ⟨b,g,d,i,c⟩=>hc a f σ g b j Q d i c) he hpl
end
end L2
namespace HT
open PySem PyProof.Rows
section
open PySem.SeqAt
open PySem.AutoSeq1 (wpAny_loadPart')
open PySem.MeetsSeq PySem.MeetsSeq2 PySem.MeetsSeq3
end
section
variable{prog:fK}{w:World}{A:Around}{E:Value->Shared->Prop}{s:Shared}
def cat_tup(ht:IsTup s.heap t vs.toArray)(hb:IsTup s.heap b ws.toArray)(hv:vs≠[])
  (h1:ws=[]->Q (.ref t) s) (h2:ws≠[]->Q (.ref s.heap.objs.size) { s with heap:=s.heap.push { cls:=.type "tuple",data:=.seq (vs++ws).toArray } })
  (hsz:vs.length+ws.length<=fH):wpAny (model prog w) A (fR .Add (.ref t) (.ref b)) Q E s:=by
 obtain⟨⟨r,j,p,k⟩,c,l,n,m⟩:=id ht;obtain⟨⟨q,f,o,h⟩,a,g,i,d⟩:=id hb;subst l m g d;have e:vs.toArray++ws.toArray=(vs++ws).toArray:=by simp
 by_cases hw:ws=[]
 ·exact concat_meets ⟨_,c,rfl⟩ ⟨_,a,rfl⟩ noFill_tuple_add seq_tuple_add PySem.F.slot_tuple_add PySem.F.entry_tuple_add (PySem.F.args_tuple_add_2 _ _)
   (tuple_addW1 t b vs.toArray ws.toArray n i j f k h (by simp_all) (by grind)) ⟨c,a,h1 hw⟩
 ·refine concat_meets ⟨_,c,rfl⟩ ⟨_,a,rfl⟩ noFill_tuple_add seq_tuple_add PySem.F.slot_tuple_add PySem.F.entry_tuple_add (PySem.F.args_tuple_add_2 _ _)
   (tuple_addW2 t b vs.toArray ws.toArray n i j f k h (by simp_all) (by simp_all) (by omega)) ⟨c,a,?_⟩
  rw[e];exact h2 hw
noncomputable def sIx(n d:Nat):Option Int->Nat
 |none=>d
 |some v=>if v<0 then (v+(n:Int)).toNat else min v.toNat n
def sIx_none(n d:Nat):sIx n d none=d:=rfl
def sIx_nat(n d k:Nat):sIx n d (some (k:Int))=min k n:=rfl
def c1B(n d:Nat)(hd:d<=n)(o:Option Int):sIx n d o<=n:=by
 cases o with
 |none=>exact hd
 |some v=>
  show (if v<0 then (v+n).toNat else min v.toNat n)<=n
  by_cases hv:v<0
  ·grind
  ·rw[if_neg hv];exact dM _ _
def a9F(v:Int)(n d:Nat):(if v<0 then max (v+(n:Int)) 0 else min v (n:Int))=((sIx n d (some v):Nat):Int):=by grind [sIx]
def a8n(lo hi:Option Int)(n:Nat):fO.Slice.sliceAdjust lo hi 1 (n:Int)=(((sIx n 0 lo:Nat):Int),((sIx n n hi:Nat):Int)):=by
 unfold fO.Slice.sliceAdjust;refine Prod.ext ?_ ?_
 ·cases lo with
  |none=>rfl
  |some v=>exact a9F v n 0
 ·cases hi with
  |none=>rfl
  |some v=>exact a9F v n n
def a8o(i j:Nat):fO.Slice.slicePlaces (i:Int) (j:Int) 1=j-i:=by
 unfold fO.Slice.slicePlaces;simp
 split<;>lia
def a4A(p:IsPart v o)(h:Q o s):wpAny (model prog w) A (fO.Slice.slicePartIndex v) Q E s:=by
 cases p with
 |none=>exact slicePart_none h
 |int i t=>exact slicePart_int h
def a3b{lo hi:Option Int}{n:Nat}(hs:s.heap.IsSliceOf sl vl vu .none)(pl:IsPart vl lo)(pu:IsPart vu hi)
  (h:Q (((sIx n 0 lo:Nat):Int),1,sIx n n hi-sIx n 0 lo) s):wpAny (model prog w) A (fO.Slice.sliceApplied (.ref sl) (pure (n:Int))) Q E s:=by
 obtain⟨d,a,c,b⟩:=id hs;refine fF (fF (gO a b rfl (fF (gO a b rfl (fF (gO a b rfl (fG (fF (slicePart_none (fF (a4A pl (fF (a4A pu (fF (fG ?_)))))))))))))))
 show wpAny _ _ (match fO.Slice.sliceAdjust lo hi 1 n with | (lo,hi)=>pure (lo,_,fO.Slice.slicePlaces lo hi 1)) _ _ s
 rw[a8n lo hi n]
 show wpAny _ _ (pure _) _ _ s
 rw[a8o];exact fG h
def b1U(xs:Array Value)(i k:Nat):((bI k).filterMap λ(m:Nat)=>xs[((i:Int)+(m:Int)*1).toNat]?).toArray=((xs.toList.drop i).take k).toArray:=by
 have e:(λ(m:Nat)=>xs[(i+(m:Int)*1).toNat]?)=λm=>xs[i+m]?:=by
  funext m
  have:(i+(m:Int)*1).toNat=i+m:=by lia
  rw[this]
 rw[e]
 have:=pick_run xs i k
 rw[eF]at this;have a:(_∘λx=>i+x)=λm=>xs[i+m]?:=rfl;rw[a]at this;rw[this]
def getItem_tuple_cut{lo hi:Option Int}(ht:IsTup s.heap t items)(hs:s.heap.IsSliceOf sl vl vu .none)(pl:IsPart vl lo)(pu:IsPart vu hi)
  (hw:¬ (sIx items.size 0 lo=0/\sIx items.size items.size hi=items.size))
  (h:Q (.ref s.heap.objs.size) { s with heap:=s.heap.push { cls:=.type "tuple",data:=.seq ((items.toList.drop (sIx items.size 0 lo)).take (sIx items.size items.size hi-sIx items.size 0 lo)).toArray } })
  (hsz:items.size<=fH):wpAny (model prog w) A (iE (.ref t) (.ref sl)) Q E s:=by
 have a:sizeOk (.seq ((items.toList.drop (sIx items.size 0 lo)).take (sIx items.size items.size hi-sIx items.size 0 lo)).toArray):=by
  show ((items.toList.drop (sIx items.size 0 lo)).take (sIx items.size items.size hi-sIx items.size 0 lo)).toArray.size<=fH
  rw[bB,aR,bt,bL];omega
 obtain⟨f,d,e,g⟩:=id hs;have b:s.TypeIs (.ref sl) "slice":=⟨f,d,e⟩;unfold iE
 try with_reducible refine fZ ?_
 refine fF (wpAny_sequenceKey ht.typeIs (by decide) ?_);refine fF (wpAny_callSpecial?_slot ht.typeIs PyProof.Rows.slot_tuple_getitem
  (gg PyProof.Rows.slot_tuple_getitem ht.typeIs entry_tuple_getitem ?_ (args_tuple_getitem _ _)))
 show wpAny _ _ (fO.Tuple.tupleItemsOf _ >>= _) _ _ s
 refine fF (tupleItemsOf_ ht (fF (iR b (fF (a3b hs pl pu ?_)))));have c:¬ ((((sIx items.size 0 lo):Int)==0&&(1:Int)==1&&(sIx items.size items.size hi-sIx items.size 0 lo)==items.size)=true):=by grind
 show wpAny _ _ (if (((sIx items.size 0 lo):Int)==0&&(1:Int)==1&&(sIx items.size items.size hi-sIx items.size 0 lo)==items.size)=true then _ else _) _ _ s
 rw[if_neg c,b1U]
 first
  |exact fF (g5 (fG ⟨_,rfl,fG h⟩) a)
  |exact fF _
  |exact fF _
  |exact fF _
end
end HT
namespace L2
open PySem PySem.Spec PyProof.Rows
abbrev TO:=St->Hp->(Option Int->Hp->Prop)->Prop
def PO(X:Cx)(e:Option Expr)(t:TO):Prop:=
 ∀(pins:List (Addr×Obj))(s:Shared)(σ:St)(H:Hp)(Q:Option Int->Hp->Prop),Inv X pins σ H s->t σ H Q ->
  wpAny (model X.prog X.w) X.A (evalPart e X.env) (λu s'=>∃o H',Inv X pins σ H' s'/\IsPart u o/\Q o H') X.xe s
def b4E:TO:=λ_ H Q=>Q none H
def b9Q(t:TE):TO:=fun σ H Q=>t σ H λx H1=>∃i,x=.int i/\Q (some i) H1
def a8p:∀{us:List Value},Vals (ns.map V.int) us->f9 us ns:=by
 induction ns with
 |nil=>intro a r;cases r;exact .nil
 |cons n ns ih=>
  intro a r;cases r with
  |cons r1 r2=>
   obtain⟨t,e⟩:=r1;subst e;exact .cons n t (ih r2)
section
variable{X:Cx}{e:Expr}{te:TE}{lo hi:Option Expr}{tl th:TO}{pos p2:Pos}
def b4F:PO X none b4E:=λa s σ H Q I h=>fG ⟨none,H,I,.none,h⟩
def b4G(h:PE X e te):PO X (some e) (b9Q te):=by
 intro a s σ H Q I b;refine thn (h a s σ H _ I b) λu j ⟨x,d,f,c,g⟩=>?_;obtain⟨i,rfl,q⟩:=g;obtain⟨t,rfl⟩:=c;exact⟨some i,d,f,.int i t,q⟩
def SlR(X:Cx)(r:V->Option Int->Option Int->Hp->VK->Prop):Prop:=
 ∀(pins:List (Addr×Obj))(s:Shared)(σ:St)(H:Hp)(x:V)(v vl vu:Value)(lo hi:Option Int)(sl:Addr)(Q:VK),Inv X pins σ H s->RelV x v->s.heap.IsSliceOf sl vl vu .none->IsPart vl lo->IsPart vu hi->r x lo hi H Q ->
  ∃T id,typeLookup (.type T) "__getitem__"=pure (some (.builtin id))/\s.TypeIs v T/\wpAny (model X.prog X.w) X.A (iE v (.ref sl)) (EP X pins σ Q) X.xe s
def SlR.or(h:SlR X r)(h':SlR X r'):SlR X (λx lo hi H Q=>r x lo hi H Q\/r' x lo hi H Q):=by
 intro a s σ H x v b k d j c Q I g i e f q;rcases q with q |q
 ·exact h a s σ H x v b k d j c Q I g i e f q
 ·exact h' a s σ H x v b k d j c Q I g i e f q
def tSl(r:V->Option Int->Option Int->Hp->VK->Prop)(te:TE)(tl th:TO):TE:=fun σ H Q=>te σ H λx H1=>tl σ H1 λl H2=>th σ H2 λu H3=>r x l u H3 Q
def b1V(hr:SlR X r)(he:PE X e te)(hl:PO X lo tl)(hu:PO X hi th):PE X (.Subscript e (.Slice lo hi none p2) pos) (tSl r te tl th):=by
 intro a s σ H Q I h;refine Subscript_ (thn (he a s σ H _ I h) λv o ⟨x,D,j,t,J⟩=>(wpAny_Slice (thn (hl a o σ D _ j J) λf B ⟨l,p,m,n,G⟩=>thn (hu a B σ p _ m G) λd c ⟨u,g,y,z,k⟩=>(fG ?_))));have C:Inv X a σ g { c with heap:=c.heap.push { cls:=.type "slice",data:=.fields #[f,d,.none] } }:=y.kept λb L q=>Heap.get?_push_of_some _ q;obtain⟨T,M,F,E,i⟩:=hr a { c with heap:=c.heap.push { cls:=.type "slice",data:=.fields #[f,d,.none] } } σ g x v f d l u c.heap.objs.size Q C t (Heap.IsSliceOf.new ..) n z k;exact tail_any E F i (by with_unfolding_all rfl)
noncomputable def cutV(xs:List V)(lo hi:Option Int):List V:=(xs.drop (HT.sIx xs.length 0 lo)).take (HT.sIx xs.length xs.length hi-HT.sIx xs.length 0 lo)
def a3A(xs:List V)(lo hi:Option Int):(cutV xs lo hi).length<=xs.length:=by
 unfold cutV;rw[aR,bt];omega
def rSlT(K:Fg):V->Option Int->Option Int->Hp->VK->Prop:=λx lo hi H Q=>∃a xs,x=.ref a/\SqT K H a xs /\
 ¬ (HT.sIx xs.length 0 lo=0/\HT.sIx xs.length xs.length hi=xs.length)/\∀p,H p=none->Q (.ref p) (upd H p (.tup (cutV xs lo hi)))
def sl_tup:SlR X (rSlT X.K):=by
 intro p s σ H x v A w e f z Q I k m l t h;obtain⟨a,d,rfl,n,u,q⟩:=h;cases k;obtain⟨j,r,g,i⟩:=I.tuple n;have c:j.toArray.size=d.length:=bB▸r.length.symm;refine⟨"tuple",_,PyProof.Rows.slot_tuple_getitem.lookup,g.typeIs,?_⟩;refine HT.getItem_tuple_cut g m l t (c▸u) ?_ (by simp_all);rw[c];refine⟨.ref s.heap.objs.size,_,I.laid (λb y q=>Heap.get?_push_of_some _ q) (aC _) ?_,rfl,q _ (I.hok.fresh (aC _))⟩;exact⟨aM (a3A d e f) i,_,(r.drop _).take _,IsTup.new _ _⟩
def b9R(K:Fg):R2:=λx y H Q=>∃a b xs ys,x=.ref a/\y=.ref b/\SqT K H a xs/\SqT K H b ys/\xs≠[]/\xs.length+ys.length<=fH /\
 (ys=[]->Q (.ref a) H)/\(ys≠[]->∀p,H p=none->Q (.ref p) (upd H p (.tup (xs++ys))))
def Vals.nil_iff(r:Vals xs us):us=[]↔xs=[]:=by
 cases r with
 |nil=>simp
 |cons _ _=>simp
def op_catT:OpR X (fR .Add) (b9R X.K):=by
 intro r s σ H x y v u Q I p B h;obtain⟨a,b,k,j,rfl,rfl,t,g,f,e,m,n⟩:=h;cases p;cases B;obtain⟨C,d,i,_⟩:=I.tuple t;obtain⟨l,c,A,_⟩:=I.tuple g;refine HT.cat_tup i A (λz=>f (d.nil_iff.mp z)) (λz=>⟨.ref a,H,I,rfl,m (c.nil_iff.mp z)⟩) (λz=>?_) (by rw[<- d.length,<- c.length];exact e);refine⟨.ref s.heap.objs.size,_,I.laid (λb D q=>Heap.get?_push_of_some _ q) (aC _) ?_,rfl,n (λw=>z (c.nil_iff.mpr w)) _ (I.hok.fresh (aC _))⟩;exact⟨by rw[aG];exact e,_,d.append c,IsTup.new _ _⟩
end
noncomputable def ixN(n:Nat)(i:Int):Option Nat:=if 0<=i then (if i<n then some i.toNat else none) else if -(n:Int)<=i then some (i+n).toNat else none
noncomputable def atI{α:Type}(xs:List α)(i:Int):Option α:=(ixN xs.length i).bind λj=>xs[j]?
def a9G(h:ixN n i=some j):seqIndex? i n=some j/\j<n/\-(n:Int)<=i/\i<n:=by
 unfold ixN at h
 by_cases h0:0<=i
 ·rw[if_pos h0]at h
  by_cases h1:i<n
  ·rw[if_pos h1]at h;have e:=bv.inj h;exact⟨by rw[jk h0 h1,e],by omega,by omega,h1⟩
  ·simp_all
 ·rw[if_neg h0]at h
  by_cases h1:-n<=i
  ·rw[if_pos h1]at h;have e:=bv.inj h;exact⟨by rw[jm (by omega) h1,e],by omega,h1,by omega⟩
  ·simp_all
def a6y{α:Type}{xs:List α}{v:α}(h:atI xs i=some v):∃j,seqIndex? i xs.length=some j/\xs[j]?=some v/\j<xs.length/\-(xs.length:Int)<=i/\i<xs.length:=by
 unfold atI at h;cases e:ixN xs.length i with
 |none=>rw[e]at h;cases h
 |some j=>
  rw[e]at h;obtain⟨d,c,b,a⟩:=a9G e;exact⟨j,d,h,c,b,a⟩
def a1f{α:Type}{xs:List α}{j:Nat}{v:α}(h:xs[j]?=some v):atI xs (j:Int)=some v:=by
 have a:=(aI.mp h).1;have e:ixN xs.length j=some j:=by
  unfold ixN;rw[if_pos (by simp),if_pos (by lia)];simp
 unfold atI;rw[e];exact h
def a9H(b:Expr):Prop:=∀o i,subscripted b false o i=operate [o,i] (iE o i)
def IxR(X:Cx)(r:R2):Prop:=
 ∀(value slice:Expr)(pins:List (Addr×Obj))(s:Shared)(σ:St)(H:Hp)(x y:V)(v u:Value)(Q:VK),Inv X pins σ H s->RelV x v->RelV y u->r x y H Q ->
  subscripted slice false v u=operate [v,u] (iE v u)->wpAny (model X.prog X.w) X.A (subscriptTail value slice v u) (EP X pins σ Q) X.xe s
def MtR(X:Cx)(id:String)(r:V->List V->Hp->VK->Prop):Prop:=
 ∀(pins:List (Addr×Obj))(s:Shared)(σ:St)(H:Hp)(x:V)(xs:List V)(v:Value)(us:List Value)(Q:VK),Inv X pins σ H s->RelV x v->Vals xs us->r x xs H Q ->
  wpAny (model X.prog X.w) X.A (call (.builtin id) (v::us)) (EP X pins σ Q) X.xe s
section
variable{X:Cx}{a b:Expr}{ta tb:TE}{pos:Pos}
def IxR.or(h:IxR X r)(h':IxR X r'):IxR X (λx y H Q=>r x y H Q\/r' x y H Q):=by
 intro b a c s σ H x y v u Q I e f q d;rcases q with q |q
 ·exact h b a c s σ H x y v u Q I e f q d
 ·exact h' b a c s σ H x y v u Q I e f q d
def MtR.or{id:String}(h:MtR X id r)(h':MtR X id r'):MtR X id (λx xs H Q=>r x xs H Q\/r' x xs H Q):=by
 intro a s σ H x e v b Q I c d q;rcases q with q |q
 ·exact h a s σ H x e v b Q I c d q
 ·exact h' a s σ H x e v b Q I c d q
def b9S(hr:IxR X r)(ha:PE X a ta)(hb:PE X b tb)(hs:a9H b):PE X (.Subscript a b pos) (tOp r ta tb):=λc s σ H Q I h=>Subscript_ (binT ha hb I h λv u d x y f g i e q=>hr a b c d σ f x y v u Q g i e q (hs _ _))
def rIxL(K:Fg):R2:=λx y H Q=>∃p xs i v,x=.ref p/\y=.int i/\SqL K H p xs/\atI xs i=some v/\Q v H
def rIxT(K:Fg):R2:=λx y H Q=>∃p xs i v,x=.ref p/\y=.int i/\SqT K H p xs/\atI xs i=some v/\Q v H
def rIxS:R2:=λx y H Q=>∃z i c,x=.str z/\y=.int i/\z.length<=fH/\atI z.cps.toList i=some c/\Q (.str ⟨#[c]⟩) H
def ix_list:IxR X (rIxL X.K):=by
 intro n m a s σ H x y v u Q I F o h f;obtain⟨p,M,i,z,rfl,rfl,C,J,q⟩:=h;cases F;obtain⟨t,rfl⟩:=o;obtain⟨l,r,d,R⟩:=I.list C;obtain⟨j,b,B,L,D,A⟩:=a6y J;obtain⟨w,g,k⟩:=r.get B;have G:=r.length;have N:=a5C;have c:EP X a σ Q w s:=⟨z,H,I,k,q⟩
 by_cases h0:0<=i
 ·have e:i.toNat=j:=by
   rw[jk h0 A]at b;exact bv.inj b
  exact item_listR d.isList h0 (by omega) (by rw[e];simpa using g) c f
 ·have e:(i+(l.toArray.size:Int)).toNat=j:=by
   rw[jm (by omega) D]at b;rw[bB,<- G];exact bv.inj b
  exact iU d.isList.typeIs slot_list_getitem.lookup
   (wpAny_getItem_list_neg d.isList (by omega) (by simp_all) (by omega) (by rw[e];simpa using g) ⟨rfl,c⟩) f
def ix_tup:IxR X (rIxT X.K):=by
 intro f e a s σ H x y v u Q I A D h k;obtain⟨p,J,i,z,rfl,rfl,B,C,q⟩:=h;cases A;obtain⟨t,rfl⟩:=D;obtain⟨E,r,d,M⟩:=I.tuple B;obtain⟨j,l,g,G,F,L⟩:=a6y C;obtain⟨w,m,c⟩:=r.get g;have N:=a5C;have b:EP X a σ Q w s:=⟨z,H,I,c,q⟩;exact iU d.typeIs slot_tuple_getitem.lookup
  (getItem_tuple d (by lia) (by lia) (by rw[bB,<- r.length];exact l) (by simp_all) ⟨rfl,b⟩) k
def b64:IxR X rIxS:=by
 intro b d r s σ H x y v u Q I o f h p;obtain⟨z,i,c,rfl,rfl,A,n,q⟩:=h;obtain⟨t,rfl⟩:=o;obtain⟨C,rfl⟩:=f;obtain⟨j,a,l,D,g,w⟩:=a6y n;have k:z.cps.toList.length=z.length:=by simp[Str.length]
 rw[k]at a g w;have B:=a5C;exact tail_any (h7 s z t) slot_str_getitem.lookup (getItem_str (by grind) (by rw[a];simpa using l) ⟨.str ⟨#[c]⟩,H,I.tok _,⟨_,rfl⟩,q⟩) p
def rIx(K:Fg):R2:=λx y H Q=>rIxL K x y H Q\/rIxT K x y H Q\/rIxS x y H Q
def b65:IxR X (rIx X.K):=ix_list.or (ix_tup.or b64)
def a8q(its:List Value)(n j:Nat)(u:Value):Obj.mapSeq (·.setIfInBounds j u) { cls:=.type "list",data:=.seq its.toArray n }={ cls:=.type "list",data:=.seq (its.set j u).toArray n }:=by
 simp[Obj.mapSeq]
def Inv.lst{pins:List (Addr×Obj)}{σ:St}{H:Hp}{s:Shared}{p:Addr}{xs:List V}(I:Inv X pins σ H s)(h:H p=some (.lst xs)) :
  ∃(its:List Value)(n:Nat),Vals xs its/\s.heap.get? p=some { cls:=.type "list",data:=.seq its.toArray n }/\xs.length<=sizeLine:=by
 obtain⟨z,a,n,r,e⟩:=I.hok p _ h;exact⟨a,n,r,e,z⟩
def Inv.lstUpd{its its':List Value}(I:Inv X pins σ H s)(h:H p=some (.lst xs))
  (ho:s.heap.get? p=some { cls:=.type "list",data:=.seq its.toArray n }) (hf:f { cls:=.type "list",data:=.seq its.toArray n }={ cls:=.type "list",data:=.seq its'.toArray n' }) (r:Vals ys its') (hz:ys.length<=fH) (t:Nat) :
  Inv X pins σ (upd H p (.lst ys)) { s with heap:=s.heap.update p f,toks:=t }:=by
 have e:(s.heap.update p f).get? p=some { cls:=.type "list",data:=.seq its'.toArray n' }:=by
  rw[Heap.get?_update_self f ho (by rw[hf]<;>rfl),hf]
 refine I.write (by rw[h];trivial) (.inl rfl) (λb u a q=>(Heap.get?_update_other _ _ (Ne.symm a)).trans q) ⟨_,e⟩ ?_;exact⟨hz,its',n',r,e⟩
def b9T:V->V->V->Hp->(Hp->Prop)->Prop:=λo i v H Q=>∃p xs k j,o=.ref p/\i=.int k/\H p=some (.lst xs)/\ixN xs.length k=some j/\Q (upd H p (.lst (xs.set j v)))
def b1W:PSet X b9T:=by
 intro d s σ H o i v D F u Q I x z C h;obtain⟨p,y,k,j,rfl,rfl,g,B,q⟩:=h;cases x;obtain⟨t,rfl⟩:=z;obtain⟨b,n,r,f,A⟩:=I.lst g;obtain⟨a,E,m,w⟩:=a9G B;have e:=r.length;have G:=a5C;have l:=
  I.lstUpd g f (a8q b n j u) (r.set C j) (by simp_all) s.toks
 by_cases h0:0<=k
 ·have c:k.toNat=j:=by
   rw[jk h0 w]at a;exact bv.inj a
  exact PySem.W.ki_setAt f h0 (by lia) (by simp_all) (c▸⟨_,l,q⟩)
 ·have c:(k+(b.toArray.size)).toNat=j:=by
   rw[jm (by lia) m]at a;rw[bB,<- e];exact bv.inj a
  exact PySem.W.ki_setBack f (by lia) (by simp_all) (by lia) (c▸⟨_,l,q⟩)
def a5H(lo hi:Option Int)(n:Nat):(h8 lo hi none n).1=((HT.sIx n 0 lo:Nat):Int)/\(h8 lo hi none n).2.1=((HT.sIx n n hi:Nat):Int)/\(h8 lo hi none n).2.2=1:=by
 refine⟨?_,?_,rfl⟩
 ·cases lo with
  |none=>simp[h8,HT.sIx]
  |some i=>
   simp only[h8,HT.sIx,dN]
   by_cases h:i<0
   ·grind
   ·grind
 ·cases hi with
  |none=>simp[h8,HT.sIx]
  |some i=>
   simp only[h8,HT.sIx,dN]
   by_cases h:i<0
   ·grind
   ·grind
def a4V(its:List Value)(lo hi:Option Int):slicePick its.toArray lo hi none=((its.drop (HT.sIx its.length 0 lo)).take (HT.sIx its.length its.length hi-HT.sIx its.length 0 lo)).toArray:=by
 obtain⟨a,c,b⟩:=a5H lo hi its.toArray.size;unfold slicePick;rw[a,c,b];simp only[sliceRange_one,pick_run]<;>rfl
def rSlL(K:Fg):V->Option Int->Option Int->Hp->VK->Prop:=λx lo hi H Q=>∃a xs,x=.ref a/\SqL K H a xs/\∀p,H p=none->Q (.ref p) (upd H p (.lst (cutV xs lo hi)))
def sl_list:SlR X (rSlL X.K):=by
 intro p s σ H x v u w d e y Q I m i n j h;obtain⟨a,c,rfl,k,q⟩:=h;cases m;obtain⟨t,r,g,l⟩:=I.list k;have f:=r.length;refine⟨"list",_,slot_list_getitem.lookup,g.isList.typeIs,?_⟩;refine wpAny_getItem_list_slice g.isList i n j .none (by simp) ?_ (by grind);rw[a4V,<- f];refine⟨.ref s.heap.objs.size,_,I.laid (λb z q=>Heap.get?_push_of_some _ q) (aC _) ?_,rfl,q _ (I.hok.fresh (aC _))⟩;exact⟨aM (a3A c d e) l,_,0,(r.drop _).take _,Heap.get?_push_size _ rfl⟩
def CallR.or(h:CallR X f r)(h':CallR X f r'):CallR X f (λxs H Q=>r xs H Q\/r' xs H Q):=by
 intro a s σ H c d Q I b q;rcases q with q |q
 ·exact h a s σ H c d Q I b q
 ·exact h' a s σ H c d Q I b q
def tyV(K:Fg)(T:String)(x:V)(H:Hp):Prop:=match x with
 |.str _=>T="str"
 |.int _=>T="int"
 |.ref p=>(T="list"/\∃xs,SqL K H p xs)\/(T="tuple"/\∃o,K.lookup p=some o/\o.cls=.type "tuple"/\o.dict=none) \/
   (T="dict"/\((∃kvs,H p=some (.dK kvs))\/(∃kvs,H p=some (.dT kvs))\/∃ob kvs,H p=some (.frz ob (.dK kvs))))\/(T="set"/\∃S n,H p=some (.set S n))
 |_=>False
def b66(I:Inv X pins σ H s)(r:RelV x v)(ty:tyV X.K T x H) :
  s.TypeIs v T/\∀a,v=.ref a->∃ob,s.heap.get? a=some ob/\ob.dict=none:=by
 cases x with
 |str z=>
  obtain⟨t,rfl⟩:=r;cases (ty);exact⟨h7 s z t,λ_ e=>nomatch e⟩
 |int i=>
  obtain⟨t,rfl⟩:=r;cases (ty);exact⟨typeIs_int s i t,λ_ e=>nomatch e⟩
 |ref p=>
  cases r;rcases ty with ⟨rfl,xs,hq⟩ |⟨rfl,o,hk,hc,f⟩ |⟨rfl,hk⟩ |⟨rfl,S,n,hk⟩
  ·obtain⟨h,_,g,_⟩:=I.list hq;refine⟨g.isList.typeIs,λa e=>?_⟩;cases e;obtain⟨o,n,e,c,f,_⟩:=g;exact⟨o,e,f⟩
  ·refine⟨⟨o,I.kIn p o hk,hc⟩,λa e=>?_⟩;cases e;exact⟨o,I.kIn _ o hk,f⟩
  ·have z:∃o,s.heap.get? p=some o/\o.ExactDict:=by
    rcases hk with ⟨kvs,hk⟩ |⟨kvs,hk⟩ |⟨ob,kvs,hk⟩
    ·obtain⟨_,_,_,_,o,_,_,e,b,_⟩:=I.hok p _ hk;exact⟨o,e,b⟩
    ·obtain⟨_,_,_,_,o,_,_,e,b,_⟩:=I.hok p _ hk;exact⟨o,e,b⟩
    ·obtain⟨_,_,_,_,_,o,_,_,e,b,_⟩:=I.hok p _ hk;exact⟨o,e,b⟩
   obtain⟨o,e,b⟩:=z;refine⟨⟨o,e,b.1⟩,λa d=>?_⟩;cases d;exact⟨o,e,b.2.1⟩
  ·obtain⟨o,_,_,_,e,b,_⟩:=I.hok p _ hk;refine⟨⟨o,e,b.1⟩,λa d=>?_⟩;cases d;exact⟨o,e,b.2.1⟩
 |_=>exact aH ty
def tBM(K:Fg)(T:String)(r:V->List V->Hp->VK->Prop)(to:TE)(t:TA):TE:=fun σ H Q=>to σ H λx H1=>tyV K T x H1/\t σ H1 λxs H2=>r x xs H2 Q
variable{o e:Expr}{es:List Expr}{to:TE}{t:TA}{name:Str}{apos cpos:Pos}{T id:String}{r:V->List V->Hp->VK->Prop}
def b9U(pa:PlainAttrs T)(slot:Slot T name id)(hty:typeOf (.builtin id)=pure (.type "method_descriptor"))(hm:MtR X id r)(ho:PE X o to)(ha:PA X (e::es) t)
  (hbase:iB o name X.env (eval o X.env)=eval o X.env)
  (hfew:((backTo cpos (fL (e::es) X.env)).all (λx=>!x.1)&&(gZ cpos (g0 [] X.env)).all (λx=>x.1.isSome)
   && decide ((e::es).length+([]:List iC).length+(if ([]:List iC).isEmpty then 0 else 1)<30))=true)
  (hline:(apos.endLine==cpos.line)=true) (hs:fL (e::es) X.env=(false,eval e X.env)::fL es X.env) (hplain:(backTo cpos (fL es X.env)).any (·.1)=false) :
  PE X (.Call (.Attribute o name apos) (e::es) [] cpos) (tBM X.K T r to t):=by
 intro a s σ H Q I h;refine wpAny_Call_method_late hbase hfew hline rfl (thn (ho a s σ H _ I h) λv k ⟨x,w,b,c,u,j⟩=>?_);obtain⟨g,n⟩:=b66 b c u;refine⟨T,id,pa,slot,hty,g,n,?_⟩;have d:=ha cpos a k σ w _ b j;rw[hs]at d ⊢;exact Calls.callWith_builtin (by show (false||(backTo cpos _).any _)=false;rw[hplain]<;>rfl) (Calls.evalArgs_plain (thn d λi m ⟨q,l,y,f,p⟩=>hm a m σ l x q v i Q y c f p))
end
def MtM(X:Cx)(id:String)(r:V->List V->Hp->VK->Prop):Prop:=
 ∀(pins:List (Addr×Obj))(s:Shared)(σ:St)(H:Hp)(x:V)(xs:List V)(v:Value)(us:List Value)(Q:VK),Inv X pins σ H s->RelV x v->Vals xs us->r x xs H Q ->
  wpAny (model X.prog X.w) X.A (call (.builtin id) (v::us)) (EP X pins σ Q) X.xe s
def Vals.one:∀{x:V}{us:List Value},Vals [x] us->∃u,us=[u]/\RelV x u:=by
 intro x us h;cases h with
 |cons r h=>cases h;exact⟨_,rfl,r⟩
def Vals.two:∀{x y:V}{us:List Value},Vals [x,y] us->∃u v,us=[u,v]/\RelV x u/\RelV y v:=by
 intro x y a h;cases h with
 |cons r h=>cases h with
  |cons q h=>cases h;exact⟨_,_,rfl,r,q⟩
def Vals.zero:∀{us:List Value},Vals [] us->us=[]:=by
 intro us h;cases h;rfl
def Vals.dropLast(h:Vals xs us):Vals xs.dropLast us.dropLast:=by
 induction h with
 |nil=>exact .nil
 |cons r t ih=>
  cases t with
  |nil=>exact .nil
  |cons q t'=>exact .cons r ih
theorem Vals.eraseIdx:∀{xs:List V}{us:List Value}(i:Nat),Vals xs us->Vals (xs.eraseIdx i) (us.eraseIdx i)
 |_,_,_,.nil=>.nil
 |_,_,0,.cons _ t=>t
 |_,_,i+1,.cons r t=>.cons r (Vals.eraseIdx i t)
def Vals.reverse(h:Vals xs us):Vals xs.reverse us.reverse:=by
 induction h with
 |nil=>exact .nil
 |cons r t ih=>rw[cE,cE];exact Vals.append ih (.cons r .nil)
section
variable{X:Cx}{pins:List (Addr×Obj)}{σ:St}{H:Hp}{s:Shared}{l b:Addr}{xs ys zs:List V}
def Inv.lset{its its':List Value}(I:Inv X pins σ H s)(hH:H l=some (.lst xs))
  (e:s.heap.get? l=some { cls:=.type "list",data:=.seq its.toArray n }) (hf:f its.toArray=its'.toArray) (hv:Vals ys its') (hz:ys.length<=fH) :
  Inv X pins σ (upd H l (.lst ys)) { s with heap:=s.heap.update l (Obj.mapSeq f),toks:=t' }:=by
 have q:=PySem.IsL.update e f;rw[hf]at q;refine I.write (hH▸trivial) (.inl rfl) (λc u a b=>(Heap.get?_update_other s.heap _ (Ne.symm a)).trans b) ⟨_,q⟩ ?_;exact⟨hz,its',_,hv,q⟩
def Inv.lnew(I:Inv X pins σ H s)(hv:Vals ys its)(hz:ys.length<=fH) :
  Inv X pins σ (upd H s.heap.objs.size (.lst ys)) { s with heap:=s.heap.push { cls:=.type "list",data:=.seq its.toArray },toks:=t' }:=
 I.laid (λ_ _ q=>Heap.get?_push_of_some _ q) (aC _) ⟨hz,its,0,hv,Heap.get?_push_size _ rfl⟩
def Inv.fresh(I:Inv X pins σ H s):H s.heap.objs.size=none:=I.hok.fresh (aC _)
def Inv.lstM(I:Inv X pins σ H s)(hH:H l=some (.lst xs)):xs.length<=fH/\∃(its:List Value)(n:Nat),Vals xs its/\xs.length=its.length/\s.heap.get? l=some { cls:=.type "list",data:=.seq its.toArray n }:=by
 obtain⟨z,a,n,r,e⟩:=I.hok l _ hH;exact⟨z,a,n,r,r.length,e⟩
def b1X(h:n<=fH):fO.List.listTooLong n=false:=decide_eq_false (by omega)
end
section
variable{X:Cx}
def b4H:V->List V->Hp->VK->Prop:=λx vs H Q=>∃l xs y,x=.ref l/\vs=[y]/\H l=some (.lst xs)/\xs.length<fH/\Q .non (upd H l (.lst (xs++[y])))
def a5I:MtM X "list.append" b4H:=by
 intro c s σ H x k v o Q I f d h;obtain⟨l,j,y,rfl,rfl,b,i,q⟩:=h;cases f;obtain⟨u,rfl,g⟩:=d.one;obtain⟨z,a,n,r,m,e⟩:=I.lstM b;refine jo F.slot_list_append ⟨_,e,rfl⟩ F.entry_list_append (F.args_list_append_2 _ _) (PySem.list_append l a.toArray n u (by grind)) ⟨e,?_⟩;refine⟨.non,_,I.lset b e (by simp) (r.append (.cons g .nil)) ?_,rfl,q⟩;rw[aG,cF]
 lia
def b4I:V->List V->Hp->VK->Prop:=λx vs H Q=>∃l b xs zs,x=.ref l/\vs=[.ref b]/\H l=some (.lst xs)/\H b=some (.lst zs)/\xs.length+zs.length<=fH/\Q .non (upd H l (.lst (xs++zs)))
def a9I:MtM X "list.extend" b4I:=by
 intro k s σ H x A v C Q I i j h;obtain⟨l,b,B,E,rfl,rfl,f,t,G,q⟩:=h;cases i;obtain⟨u,rfl,p⟩:=j.one;cases p;obtain⟨z,c,n,r,D,e⟩:=I.lstM f;obtain⟨J,a,w,m,y,o⟩:=I.lstM t;have g:c.toArray.size+a.toArray.size<=sizeLine:=by grind
 have d:¬ (!c.toArray.isEmpty&&fO.List.listTooLong (c.toArray.size+a.toArray.size))=true:=by
  rw[b1X g,cS];exact bA
 refine jo F.slot_list_extend ⟨_,e,rfl⟩ F.entry_list_extend (F.args_list_extend_2 _ _)
  (AutoSeq1.list_extend_list_list_0 l c.toArray n b a.toArray w d (by grind) (by lia)) ⟨e,o,?_⟩
 refine⟨.non,_,I.lset f e (by simp) (r.append m) ?_,rfl,q⟩;rw[aG]
 lia
def rCat:R2:=λx y H Q=>∃l b xs zs,x=.ref l/\y=.ref b/\H l=some (.lst xs)/\H b=some (.lst zs)/\xs.length+zs.length<=fH/\∀p,H p=none->Q (.ref p) (upd H p (.lst (xs++zs)))
def b67:OpR X (fR .Add) rCat:=by
 intro i s σ H x y v u Q I f k h;obtain⟨l,b,C,w,rfl,rfl,m,d,A,q⟩:=h;cases f;cases k;obtain⟨z,c,n,r,t,e⟩:=I.lstM m;obtain⟨B,a,D,o,p,g⟩:=I.lstM d;refine PySem.P.add_list e g ?_ (by grind);have j:c.toArray++a.toArray=(c++a).toArray:=by simp
 rw[j];exact⟨.ref _,_,I.lnew (r.append o) (by grind),rfl,q _ I.fresh⟩
end
section
variable{prog:fK}{w:World}{A:Around}{E:Value->Shared->Prop}{s:Shared}
end
section
variable{X:Cx}
end
end L2
namespace Att
open PySem PySem.W PySem.Calls PyProof.Rows
def a3B:∀(ns:List Int)(vs:List Value),WellAll P h vs (ns.map WData.int)->f9 vs ns:=by
 intro c
 induction c with
 |nil=>
  intro d w;cases w;exact .nil
 |cons n c ih=>
  intro d w;cases w with
  |cons a b=>
   cases a;exact .cons _ _ (ih _ b)
def a9J{l:OpenLaw}(hn:l.most=some n)
  (hpre:l.row.toRowW.claim.pre args=true) (hwl:WellAll P h vals args) :
  ∃a vs ns,vals=[Value.ref a]/\args=[WData.list (ns.map WData.int)]/\h.get? a=some { cls:=.type "list",data:=.seq vs.toArray }/\f9 vs ns/\ns.length<=n:=by
 have i:=(pre_splitW hpre).1;have g:l.pre.holds [] { args:=args }=true:=(pre_splitW hpre).2;obtain⟨d,r,rfl,j,m⟩:=hasAllW_cons i;obtain rfl:=hasAllW_nil m;obtain⟨p,rfl,o⟩:=hasW_list j;obtain⟨b,rfl⟩:=items_int o;have f:b.length<=n:=by
  have c:(WTm.not (.lt (.lit (.int n)) (.len (.arg 0)))).holds [] { args:=[.list (b.map .int)] }=true:=by
   have c:=(holds_andW g).1;rw[hn]at c;exact c
  have e:=condW_of c (w_not (w_lt w_lit (w_len_list (w_arg rfl))))
  first
   | (rw[decide_eq_true k]at e;exact absurd e (by simp))
   | (simp at e;omega)
 cases hwl with
 |cons w1 w2=>
  cases w2;cases w1 with
  |list ho hall=>exact⟨_,_,b,rfl,rfl,ho,a3B b _ hall,f⟩
def a9K(l:OpenLaw)(args:List WData):l.row.toRowW.claim.post args (.bool true) args=true:=
 postW_of
  (show WShape.has [] _ .bool=true by first |rfl |decide |simp)
  (w_eq_bool (w_res rfl) w_lit) rfl
def attach_call{l:OpenLaw}
  (hn:l.most=some n) (hdf:d.params.defaults=[])
  (call:∀(w:World)(s₀ sj:Shared)(mg mb:Str->Option Value)(fa:Addr)(o:Obj)(pm cd doc:Value)(a:Addr)(vs:List Value)(ns:List Int),
   Ground q loose [] XP w s₀ mg mb sj.heap->YP w sj.heap ->
   sj.heap.get? fa=some o->o.data=.func (docDef d.name d.params d.body d.scope pm cd doc)->sj.heap.CodeRec cd d.name->mg d.name=some (.ref fa) ->
   sj.heap.get? a=some { cls:=.type "list",data:=.seq vs.toArray }->f9 vs ns->ns.length<=n->sj.gens=#[] ->
   gf (model l.prog w) ib (.call (.ref fa) ⟨[.ref a],[]⟩) (λr s'=>r=.ok (.ret (.bool true))/\OldK sj.heap s'.heap/\s'.os=sj.os/\gz s'.gens) sj) :
  WalkO q loose XP YP l.row.toRowW d [] (λf vs=>PySem.call f vs):=by
 intro w C s D y G Y x o F v i Q H L B k h j N u J U c A S m T;obtain rfl:Q=.none:=Dflts.none h hdf;obtain rfl:H=.none:=Dflts.noKw h;obtain⟨a,I,E,rfl,rfl,g,b,e⟩:=a9J hn c m;refine enter_call (hZ (call w C s D y x o F v i a I E G Y L (fd_plain B) k j g b e N) λr V R=>?_);obtain⟨rfl,t,z,M⟩:=R;exact⟨.inl ⟨.bool true,.bool true,[],rfl,λ_=>rfl,.bool true,a9K l _,λ_=>⟨bd.nil,λ_ p=>(nomatch p)⟩⟩,t,z,M⟩
section
variable{prog:fK}{w:World}{A:Around}{E:Value->Shared->Prop}{s:Shared}{K:Frag}
end
end Att
namespace L2
open PySem PySem.Spec PyProof.Rows
def a9L:∀{vs:List Value}{ns:List Int},f9 vs ns->Vals (ns.map V.int) vs:=by intro z0 y0 x0;induction x0 with
 |nil=>exact .nil
 |cons n t h I0=>exact .cons ⟨t,rfl⟩ (I0)
def Only(H:Hp):Prop:=∀b,H b=none\/∃o xs,H b=some (.frz o (.lst xs))
def b1Y{K:Fg}
  (KX:K.In sj.heap) (hns:sj.heap.Ns fX mg) (hb:sj.heap.Ns i8 mb) (hbb:∀x:Str,x≠"__name__"->mb x=gc x) (hlim:sj.heap.NoLimit) (hg:sj.gens=#[])
  (ha:sj.heap.get? a=some { cls:=.type "list",data:=.seq vs.toArray }) (hi:f9 vs ns) (hl:ns.length<=fH) (hr:Room k ib)
  (F:∀base:Heap,K.In base->base.Ns fX mg->FnOk P w K mg base CX k fa fd [x] sp) (hbind:∀(s:Shared)(u:Value),ii s fd ⟨[u],[]⟩ [(x,u)])
  (hsp:∀H:Hp,Only H->SqL K H a (ns.map V.int)->sp [.ref a] H (λv _=>v=.bl true) λ_ _ _=>False)
  (hCX:∀H e s',CX [] H sj (λ_ _ _=>False) e s'->False) :
  gf (model P w) ib (.call (.ref fa) ⟨[.ref a],[]⟩) (λr s'=>r=.ok (.ret (.bool true))/\OldK sj.heap s'.heap/\s'.os=sj.os/\gz s'.gens) sj:=by
 have L:=a9L hi;have p:∀H:Hp,Only H->SqL K H a (ns.map V.int)->HOk P w H sj.heap->(∀b,H b≠none->b=a)->(H a≠none->K.lookup a=none) ->
   gf (model P w) ib (.call (.ref fa) ⟨[.ref a],[]⟩) (λr j=>r=.ok (.ret (.bool true))/\OldK sj.heap j.heap/\j.os=sj.os/\gz j.gens) sj:=by
  intro H I R y G X;have f:∀{b:Addr}{o:Obj},sj.heap.get? b=some o->H b=none->(hidT sj.heap H).get? b=some o:=λe n=>b1G e n;have N:∀{b:Addr}{o:Obj}{i:Array jg}{l:Nat},sj.heap.get? b=some o->o.data=.dict i l->H b=none:=λ{b o i l} e d=>by grind
  have g:∀{b:Addr}{m:Str->Option Value},sj.heap.Ns b m->(hidT sj.heap H).Ns b m:=λ{b m} ⟨o,i,l,e,d,r⟩=>⟨o,i,l,f e (N e d),d,r⟩;have A:=λb o e=>f (KX b o e) (by grind);have T:Mod K mg (hidT sj.heap H):=⟨A,g hns,⟨mb,g hb,hbb⟩,by obtain⟨mc,h1,h2⟩:=hlim;exact⟨mc,g h1,h2⟩⟩;have U:Env0 P w K mg (hidT sj.heap H) ib [] sj H:=⟨rfl,T,λb o e=>b4i e,Nat.le_of_eq (a9f _ _),trivial,λb hb=>absurd (show b∈([]) from hb) (by simp),y,.of_eq hg⟩;refine hZ ((F _ A (g hns)).run ib [] sj H ⟨[.ref a],[]⟩ [.ref a] [.ref a] _ _ hr U (hbind sj (.ref a)) (.cons rfl .nil) (hsp H I R)) λr j h=>?_;cases r with
  |error e=>exact (hCX H e j h).elim
  |ok fl=>
   cases fl with
   |next=>exact aH h
   |brk=>exact aH h
   |cont=>exact aH h
   |ret u=>
    obtain⟨v,H',Q,C,J,B,S,q⟩:=h;have q':=q;subst q';obtain rfl:u=Value.bool true:=S;refine⟨rfl,OldK.of_keep λb o e=>?_,Q,C⟩;cases q:H b with
    |none=>exact J.keep b o e q (by intro z;exact absurd (show b∈([]) from z) (by simp)) (by simp)
    |some u=>
     rcases I b with z |⟨ob,xs,z⟩
     ·rw[q]at z;cases z
     ·have z2:=J.frzs b ob _ z;obtain⟨M,_⟩:=y b _ z;obtain⟨Y,_⟩:=B b _ z2;rw[e]at M;cases M;exact Y
 cases hk:K.lookup a with
 |some o=>
  have e:=KX a o hk;rw[ha]at e;cases e;refine p _ (λ_=>.inl rfl) (.inr ⟨_,vs.toArray,_,hk,rfl,rfl,rfl,by rw[bB,hi.length];exact hl,by simpa using L⟩) (λb u z=>by have t:=z;cases t) (λb z=>absurd rfl z) λz=>absurd rfl z
 |none=>
  refine p (λb=>if b=a then some _ else none) (λb=>?_) (.inl (.inr ⟨{ cls:=.type "list",data:=.seq vs.toArray },if_pos rfl⟩)) (λb u z=>?_) (λb z=>?_) λ_=>hk
  ·grind
  ·by_cases hb:b=a
   ·have t:=(if_pos hb).symm.trans z;cases t;subst hb;exact⟨ha,by rw[aB];exact hl,vs,_,L,ha⟩
   ·have t:=(if_neg hb).symm.trans z;cases t
  ·by_cases hb:b=a
   ·exact hb
   ·exact absurd (if_neg hb) z
def walk_of{l:PySem.W.OpenLaw}{K:Params->Fg}{CX:World->CXT}{sp:World->Sp}
  (hn:l.most=some n) (hn2:n<=fH) (hdf:d.params.defaults=[]) (hr:Room k ib)
  (hY:∀(w:World)(h:Heap),YP w h->(K w.params).In h)
  (F:∀(w:World)(mg:Str->Option Value)(fa:Addr)(h:Heap),(K w.params).In h->h.Ns fX mg->mg d.name=some (.ref fa) ->
   ∃fd:f8,(∀(s:Shared)(u:Value),ii s fd ⟨[u],[]⟩ [(x,u)]) /\
    ∀base:Heap,(K w.params).In base->base.Ns fX mg->FnOk l.prog w (K w.params) mg base (CX w) k fa fd [x] (sp w))
  (hsp:∀(w:World)(H:Hp)(a:Addr)(ns:List Int),ns.length<=n->Only H->SqL (K w.params) H a (ns.map V.int)->sp w [.ref a] H (λv _=>v=.bl true) λ_ _ _=>False)
  (hCX:∀(w:World)(H:Hp)(s:Shared)(e:Value)(s':Shared),CX w [] H s (λ_ _ _=>False) e s'->False) :
  PySem.W.WalkO q loose XP YP l.row.toRowW d [] (λf vs=>PySem.call f vs):=by
 refine Att.attach_call hn hdf λw N r y U B o R Q J a S z G Y X M L p j i c D=>?_;have m:=hY w _ Y;obtain⟨fd,C,A⟩:=F w y B _ m G.T.g p;exact b1Y m G.T.g G.T.b G.T.builtins G.T.nolimit D j i (aM c hn2) hr A C (λH I E=>hsp w H a z c I E) λH e t=>hCX w H r e t
noncomputable def a3C(s:Stmt)(j:Nat):Stmt:=match s with
 |.ClassDef _ _ _ body _ _ _ _ _ _ _=>body.getD j (.Pass ⟨0,0,0,0⟩)
 |_=>.Pass ⟨0,0,0,0⟩
noncomputable def a12(s:Stmt):Arguments:=match s with
 |.FunctionDef _ a _ _ _ _ _ _ _ _=>a
 |_=>{ posonlyargs:=[],args:=[],vararg:=none,kwonlyargs:=[],kw_defaults:=[],kwarg:=none,defaults:=[] }
noncomputable def a1g(s:Stmt):List Stmt:=match s with
 |.FunctionDef _ _ b _ _ _ _ _ _ _=>b
 |_=>[]
noncomputable def a0t(s:Stmt):Scope:=match s with
 |.FunctionDef _ _ _ _ _ _ sc _ _ _=>sc
 |_=>{ kind:=.function,names:=[],isGenerator:=false,isCoroutine:=false }
abbrev CX0:CXT:=λ_ _ _ _ _ _=>False
abbrev E0:XK:=λ_ _ _=>False
def b1Z:a3z CX0 X E0:=λ_ _ _ _ _ _ _ h=>h.elim
structure Fun (K:Fg) (x qual:Str) (st:Stmt) (f:Addr) (fd:f8):Prop where
 ex:∃(oc:Value)(od:Option Addr)(kV doc pm:Value)(an:Option Addr)(cdv ct:Value)(osl:Array (Option Value)),
  fd=PySem.W.fnOf x qual (a12 st) (a1g st) (a0t st) .none kV doc pm an cdv ct/\K.lookup f=some ⟨oc,od,.func fd,osl⟩/\PySem.W.codeIn K cdv qual=true
 kp:PySem.W.keepIn K (.ref f)=true
section
variable{P:fK}{w:World}{K:Fg}{mg:Str->Option Value}{base:Heap}
def Fun.ok{st:Stmt}(F:Fun K x qual st f fd)(S:FnScope N ps (a0t st))(len:∀vs H Q E,sp vs H Q E->vs.length=ps.length)
  (hbody:∀(cdv:Value)(A:Around)(outer:List Env)(s:Shared)(H:Hp)(vs:List V)(Q:VK)(E:XK),Room k (A.deeper (envOfC qual (a0t st) s.heap.objs.size f cdv))->sp vs H Q E ->
   ∃t,PSs (cxOf CX0 P w K mg base N qual (a0t st) f cdv A outer s H E).nox (a1g st) t/\t { nx:=λ_ H'=>Q .non H',rt:=Q } (start N vs) H):FnOk P w K mg base CX0 (k+1) f fd ps sp:=by
 obtain⟨n,u,r,l,m,o,c,p,j,rfl,i,d⟩:=F.ex;refine b9P i d S len λA a s H g Q E e b=>?_;obtain⟨t,h,q⟩:=hbody c A a s H g Q E e b;exact⟨t,h.nox,q⟩
def Fun.binds{st:Stmt}(F:Fun K x qual st f fd)
  (h:∀(kV doc pm:Value)(an:Option Addr)(cdv ct:Value)(us:List Value),us.length=ps.length->jh (PySem.W.fnOf x qual (a12 st) (a1g st) (a0t st) .none kV doc pm an cdv ct) ⟨us,[]⟩=pure (ps.zip us)):Binds K fd ps []:=by
 obtain⟨k,l,g,a,e,d,b,c,i,rfl,m,j⟩:=F.ex;exact .all (h g a e d b c)
def b3w{st:Stmt}{kV doc pm cdv ct:Value}(l:K.lookup f=some ⟨oc,od,.func (PySem.W.fnOf x qual (a12 st) (a1g st) (a0t st) .none kV doc pm an cdv ct),osl⟩)
  (c:PySem.W.codeIn K cdv qual=true) (k:PySem.W.keepIn K (.ref f)=true):Fun K x qual st f (PySem.W.fnOf x qual (a12 st) (a1g st) (a0t st) .none kV doc pm an cdv ct):=⟨⟨oc,od,kV,doc,pm,an,cdv,ct,osl,rfl,l,c⟩,k⟩
end
def a0h(h:n<=1000):n<sizeLine:=dr h (by decide)
section
variable{X:Cx}
def pv(i:Nat)(hN:X.N[i]?=some x:=by rfl)(hv:Vis X.env.scope x:=by first |exact cp rfl |exact bV (cp rfl) |exact bV (bV rfl))(hd:(x==("__debug__":Str))=false:=by decide)
  (hcd:(x==("__classdict__":Str))=false:=by decide):PE X (.Name x pos) (tVar i):=a9g hN hv hd hcd
end
def Same(H H':Hp):Prop:=∀b o,H b=some o->H' b=some o
def Same.refl(H:Hp):Same H H:=λ_ _ h=>h
def Same.trans(a:Same H H1)(b:Same H1 H2):Same H H2:=λc o h=>b c o (a c o h)
def Same.free(e:Same H H')(h:H' l=Option.none):H l=Option.none:=by
 cases q:H l with
 |none=>rfl
 |some o=>
  rw[e l o q]at h;cases h
def Same.seq{K:Fg}(e:Same H H')(h:SqL K H a xs):SqL K H' a xs:=by
 rcases h with (h |⟨o,h⟩) |h
 ·exact .inl (.inl (e _ _ h))
 ·exact .inl (.inr ⟨o,e _ _ h⟩)
 ·exact .inr h
section
variable{κ:Type}[DecidableEq κ]
noncomputable def valV(kvs:List (κ×V))(k:κ):Option V:=(kvs.find? λkv=>decide (kv.1=k)).map (·.2)
noncomputable def putK(kvs:List (κ×V))(k:κ)(v:V):List (κ×V):=
 if (kvs.any λkv=>decide (kv.1=k))=true then kvs.map (λkv=>if kv.1=k then (kv.1,v) else kv) else kvs++[(k,v)]
noncomputable def b68(kvs:List (κ×V))(k:κ):List (κ×V):=kvs.filter λkv=>decide (kv.1≠k)
def a4W{k:κ}(e:p.1=k):valV (p::r) k=some p.2:=by simp[valV,bQ,e]
def a4X{k:κ}(e:¬ p.1=k):valV (p::r) k=valV r k:=by simp[valV,bQ,e]
def a7s(k:κ):∀kvs:List (κ×V),(kvs.any λkv=>decide (kv.1=k))=(valV kvs k).isSome:=by intro z0;induction z0 with
 |nil=>exact rfl
 |cons p r I0=>
  rw[cw]
  by_cases e:p.1=k
  ·simp only[a4W e,decide_eq_true e,Bool.true_or,Option.isSome_some]
  ·rw[a4X e,decide_eq_false e,eG];exact I0
def a05(kvs:List (κ×V))(k:κ)(v:V):(putK kvs k v).length<=kvs.length+1:=by grind [putK]
def RelO.isSome_eq(r:RelO o u):o.isSome=u.isSome:=by
 cases o with
 |none=>cases u with
  |none=>rfl
  |some _=>exact (r).elim
 |some _=>cases u with
  |none=>exact (r).elim
  |some _=>rfl
def RelO.getD(r:RelO o u)(rd:RelV d d'):RelV (o.getD d) (u.getD d'):=by
 cases o with
 |none=>cases u with
  |none=>exact rd
  |some _=>exact (r).elim
 |some _=>cases u with
  |none=>exact (r).elim
  |some _=>exact r
noncomputable def KV.val(r:KV kvs vs)(k:κ):RelO (valV kvs k) (ik vs k):=by
 induction r with
 |nil=>exact True.intro
 | @cons p q ps qs h t ih=>
  obtain⟨c,d⟩:=h
  by_cases e:p.1=k
  ·have a:=c.symm.trans e;have b:ik (q::qs) k=some q.2:=by simp[ik,a]
   rw[a4W e,b];exact d
  ·have a:¬ q.1=k:=λz=>e (c.trans z);have b:ik (q::qs) k=ik qs k:=by simp[ik,a]
   rw[a4X e,b];exact ih
noncomputable def KV.any(r:KV kvs vs)(k:κ):(kvs.any λkv=>decide (kv.1=k))=vs.any λkv=>decide (kv.1=k):=by
 induction r with
 |nil=>rfl
 |cons h t ih=>rw[cw,cw,ih,h.1]
def KV.repl(r:KV kvs vs)(k:κ)(ry:RelV y u) :
  KV (kvs.map λkv=>if kv.1=k then (kv.1,y) else kv) (vs.map λkv=>if kv.1=k then (kv.1,u) else kv):=by
 induction r with
 |nil=>exact .nil
 | @cons p q ps qs h t ih=>
  rw[aO,aO];refine .cons ?_ ih;obtain⟨a,b⟩:=h
  by_cases e:p.1=k
  ·rw[if_pos e,if_pos (a.symm.trans e)];exact⟨a,ry⟩
  ·rw[if_neg e,if_neg (λz=>e (a.trans z))];exact⟨a,b⟩
noncomputable def KV.put(r:KV kvs vs)(k:κ)(ry:RelV y u):KV (putK kvs k y) (stored vs k u):=by
 unfold putK stored;rw[r.any k]
 by_cases e:(vs.any λkv=>decide (kv.1=k))=true
 ·rw[if_pos e,if_pos e];exact r.repl k ry
 ·rw[if_neg e,if_neg e];exact Paired.snoc r ⟨rfl,ry⟩
def KV.drop(r:KV kvs vs)(k:κ):KV (b68 kvs k) (without vs k):=by
 unfold b68 without
 induction r with
 |nil=>exact .nil
 | @cons p q ps qs h t ih=>
  obtain⟨c,d⟩:=h;rw[bg,bg]
  by_cases e:p.1=k
  ·simp_all
  ·have f:¬ q.1=k:=λz=>e (c.trans z);have a:decide (p.1≠k)=true:=by simp[e]
   have b:decide (q.1≠k)=true:=by simp[f]
   rw[if_pos a,if_pos b];exact .cons ⟨c,d⟩ ih
theorem KV.keys{kvs:List (κ×V)}(r:KV kvs vs):kvs.map (·.1)=vs.map (·.1):=by
 induction r with
 |nil=>rfl
 |cons h t ih=>rw[aO,aO,ih,h.1]
def KV.length(r:KV kvs vs):kvs.length=vs.length:=Paired.length r
end
def a4g(r:RelV (kV k) u):(a0v P w).is k u=true:=by
 match k,r with
 |.inl (some i),r=>obtain⟨t,e⟩:=(r);subst e;exact a6s P w i t
 |.inl none,r=>rw[r];rfl
 |.inr x,r=>obtain⟨t,e⟩:=(r);subst e;exact a6t P w x t
def a9M:∀{ks:List Key}{us:List Value},Vals (ks.map kV) us->ItemsAre (a0v P w) ks us:=by intro z0;induction z0 with
 |nil=>intro _ r;rw[aX]at r;cases r;exact .nil
 |cons k ks I0=>
  intro _ r;cases r with
  |cons h t=>exact .cons (a4g h) (I0 t)
abbrev KT(H:Hp):List (List Key×V)->List (List Key×Addr×Value)->Prop:=Paired λp q=>p.1=q.1/\H q.2.1=some (.tup (p.1.map kV))/\RelV p.2 q.2.2
noncomputable def KT.val(r:KT H kvs xs)(k:List Key):RelO (valV kvs k) ((atKey xs k).map (·.2)):=by
 induction r with
 |nil=>exact True.intro
 | @cons p q ps qs h t ih=>
  obtain⟨c,_,d⟩:=h
  by_cases e:p.1=k
  ·have a:=c.symm.trans e;have b:atKey (q::qs) k=some q.2:=by simp[atKey,a]
   rw[a4W e,b];exact d
  ·have a:¬ q.1=k:=λz=>e (c.trans z);have b:atKey (q::qs) k=atKey qs k:=by simp[atKey,a]
   rw[a4X e,b];exact ih
def KT.repl(r:KT H kvs xs)(k:List Key)(ry:RelV y u) :
  KT H (kvs.map λkv=>if kv.1=k then (kv.1,y) else kv) (xs.map (putAt k u)):=by
 induction r with
 |nil=>exact .nil
 | @cons p q ps qs h t ih=>
  rw[aO,aO];refine .cons ?_ ih;obtain⟨a,b,c⟩:=h;unfold putAt
  by_cases e:p.1=k
  ·rw[if_pos e,if_pos (a.symm.trans e)];exact⟨a,b,ry⟩
  ·rw[if_neg e,if_neg (λz=>e (a.trans z))];exact⟨a,b,c⟩
noncomputable def KT.put(r:KT H kvs xs)(k:List Key)(hb:H b=some (.tup (k.map kV)))(ry:RelV y u) :
  KT H (putK kvs k y) (gJ xs k b u):=by
 have e:(kvs.any λa=>decide (a.1=k))=(atKey xs k).isSome:=by
  rw[a7s,(r.val k).isSome_eq,dO]
 unfold putK gJ;rw[e]
 by_cases q:(atKey xs k).isSome=true
 ·rw[if_pos q,if_pos q];exact r.repl k ry
 ·rw[if_neg q,if_neg q];exact Paired.snoc r ⟨rfl,hb,ry⟩
def KT.keeps(r:KT H kvs xs)(ht:∀b ys,H b=some (.tup ys)->H' b=some (.tup ys)):KT H' kvs xs:=
 Paired.mapP r λ_ _ z=>⟨z.1,ht _ _ z.2.1,z.2.2⟩
section
variable{P:fK}{w:World}{H:Hp}{h:Heap}{a:Addr}
def b69(ok:HOk P w H h)(e:Rd H a u):ObjOk P w H h a u:=e.ok ok
def a8r(ok:HOk P w H h)(e:Rd H a (.dK kvs)):kvs.length<=fH/\(a==gy)=false/\∃vs,KV kvs vs/\h.DictOf (a0v P w) a vs:=
 b69 ok e
def b10(ok:HOk P w H h)(e:H a=some (.dK kvs)):kvs.length<=fH/\(a==gy)=false/\∃vs,KV kvs vs/\h.DictOf (a0v P w) a vs:=a8r ok (.inl e)
def a3D(ok:HOk P w H h)(e:H a=some (.tup (ks.map kV))):(gn (a0v P w)).is h ks a:=by
 obtain⟨_,b,r,o,d,c,n,f⟩:=(ok a _ e);exact⟨o,b.toArray,n,d,c,f,by simpa using a9M r⟩
def a9N(ok:HOk P w H h)(e:Rd H a (.dT kvs)):kvs.length<=fH/\(a==gy)=false /\
  ∃xs,KT H kvs xs/\h.DictOfH (gn (a0v P w)) a xs:=by
 obtain⟨z,y,g,r,o,d,s,j,k,f,n,i⟩:=(b69 ok e);refine⟨z,y,g,r,o,d,s,j,k,f,n,λx b=>?_,i⟩;have c:∀{l:List _}{m:List _},KT H l m->∀x∈m,(gn (a0v P w)).is h x.1 x.2.1:=by
  intro l m q
  induction q with
  |nil=>intro x b;exact nomatch b
  | @cons p q ps qs hq t ih=>
   intro x b;rcases aD.mp b with e |b
   ·subst e;exact a3D ok (by simp_all)
   ·exact ih x b
 exact c r x b
def b9V(ok:HOk P w H h)(e:H a=some (.dT kvs)):kvs.length<=fH/\(a==gy)=false /\
  ∃xs,KT H kvs xs/\h.DictOfH (gn (a0v P w)) a xs:=a9N ok (.inl e)
end
def DGet(H:Hp)(a:Addr)(y:V)(r:Option V):Prop:=
 (∃kvs k,Rd H a (.dK kvs)/\y=kV k/\r=valV kvs k)\/∃kvs k b,Rd H a (.dT kvs)/\y=.ref b/\H b=some (.tup (k.map kV))/\r=valV kvs k
def DPut(H:Hp)(a:Addr)(y v:V)(H':Hp):Prop:=
 (∃kvs k,H a=some (.dK kvs)/\y=kV k/\kvs.length<fH/\H'=upd H a (.dK (putK kvs k v))) \/
 ∃kvs k b,H a=some (.dT kvs)/\y=.ref b/\H b=some (.tup (k.map kV))/\kvs.length<fH/\H'=upd H a (.dT (putK kvs k v))
def DGet.k{k:Key}(e:H a=some (.dK kvs)):DGet H a (kV k) (valV kvs k):=.inl ⟨kvs,k,.inl e,rfl,rfl⟩
def DGet.t{k:List Key}(e:H a=some (.dT kvs))(eb:H b=some (.tup (k.map kV))):DGet H a (.ref b) (valV kvs k):=.inr ⟨kvs,k,b,.inl e,rfl,eb,rfl⟩
def DPut.k{k:Key}(e:H a=some (.dK kvs))(hl:kvs.length<fH):DPut H a (kV k) v (upd H a (.dK (putK kvs k v))):=.inl ⟨kvs,k,e,rfl,hl,rfl⟩
def DPut.t{k:List Key}(e:H a=some (.dT kvs))(eb:H b=some (.tup (k.map kV)))(hl:kvs.length<fH) :
  DPut H a (.ref b) v (upd H a (.dT (putK kvs k v))):=.inr ⟨kvs,k,b,e,rfl,eb,hl,rfl⟩
section
variable{X:Cx}{pins:List (Addr×Obj)}{σ:St}{H:Hp}{s:Shared}{a:Addr}{y v:V}{u r:Value}{o:Option V}{A:Around}{E:Value->Shared->Prop}
def Inv.big(I:Inv X pins σ H s):gy<s.heap.objs.size:=by
 have h:=(I.mod.glob.keeps I.bk).lt;exact cT (by decide) h
def d_in(hu:A.units+1<cLine)(I:Inv X pins σ H s)(g:DGet H a y o)(ry:RelV y u)(h:∀s',Inv X pins σ H s'->Q (.bool o.isSome) s') :
  wpAny (model X.prog X.w) A (fN .In u (.ref a)) Q E s:=by
 rcases g with ⟨kvs,k,e,ey,l⟩ |⟨kvs,k,b,e,ey,eb,l⟩
 ·subst ey;obtain⟨z,d,j,c,f⟩:=a8r I.hok e;refine wpAny_in_of (a4g ry) d f.mapOf ?_;rw[<- (c.val k).isSome_eq,<- l];exact h _ (I.tok _)
 ·subst ey;cases (ry);obtain⟨z,d,i,c,f⟩:=a9N I.hok e;refine wpAny_in_heap (im hu) (a3D I.hok eb) d f ?_;have q:=(c.val k).isSome_eq;rw[dO]at q;rw[<- q,<- l];exact h _ (I.tok _)
def b4J(hu:A.units+1<cLine)(I:Inv X pins σ H s)(g:DGet H a y o)(ry:RelV y u)(h:∀s',Inv X pins σ H s'->Q (.bool (!o.isSome)) s') :
  wpAny (model X.prog X.w) A (fN .NotIn u (.ref a)) Q E s:=by
 rcases g with ⟨kvs,k,e,ey,l⟩ |⟨kvs,k,b,e,ey,eb,l⟩
 ·subst ey;obtain⟨z,f,i,c,d⟩:=a8r I.hok e;refine wpAny_notIn_of (a4g ry) f d.mapOf ?_;rw[<- (c.val k).isSome_eq,<- l];exact h _ (I.tok _)
 ·subst ey;cases (ry);obtain⟨z,f,j,c,d⟩:=a9N I.hok e;refine wpAny_notIn_heap (im hu) (a3D I.hok eb) f d ?_;have q:=(c.val k).isSome_eq;rw[dO]at q;rw[<- q,<- l];exact h _ (I.tok _)
def a6z(I:Inv X pins σ H s)(mu:Mut (H a))(hs:Heap.SameBut a s.heap h')(he:∃q,h'.get? a=some q)(new:ObjOk X.prog X.w (upd H a ob) h' a ob) :
  Inv X pins σ (upd H a ob) { s with heap:=h',toks:=t' }:=
 I.write mu (.inl rfl) (λb q c z=>(hs.2 b c).trans z) he new
def b3x(z:kvs.length<=fH)(hd:(a==gy)=false)(rel:KV kvs vs)(dd:h'.DictOf (a0v P w) a vs) :
  ObjOk P w H' h' a (.dK kvs):=⟨z,hd,vs,rel,dd⟩
def a9O(hu:A.units+1<cLine)(I:Inv X pins σ H s)(g:DPut H a y v H')(ry:RelV y u)(rv:RelV v r)(h:∀s',Inv X pins σ H' s'->Q () s') :
  wpAny (model X.prog X.w) A (iN (.ref a) u r) Q E s:=by
 rcases g with ⟨kvs,k,e,ey,l,eH⟩ |⟨kvs,k,b,e,ey,eb,l,eH⟩
 ·subst ey eH;obtain⟨z,m,F,d,p⟩:=b10 I.hok e;have o:F.length<=sizeLine:=d.length▸z;have n:(putK kvs k v).length<=sizeLine:=by have:=a05 kvs k v;lia
  refine wpAny_setItem_pairs (a4g ry) p λx f j=>h _ ?_;have L:∃q,x.get? a=some q:=by obtain⟨q,_,_,i,_⟩:=f;exact⟨q,i⟩
  exact a6z I (e▸True.intro) j L (b3x n m (d.put k rv) f)
 ·subst ey eH;cases (ry);obtain⟨z,m,D,d,p⟩:=b9V I.hok e;have o:D.length<=sizeLine:=(Paired.length d)▸z;have n:(putK kvs k v).length<=sizeLine:=by have:=a05 kvs k v;lia
  refine wpAny_setItem_heap (hsz:=o) (im hu) (a3D I.hok eb) p λx f j=>h _ ?_;obtain⟨q,C,M,i,J,N,B,_,G⟩:=f;refine a6z I (e▸True.intro) j ⟨q,i⟩ ⟨n,m,_,(d.put k eb rv).keeps λc R t=>?_,q,C,M,i,J,N,B,G⟩;rw[a0g (b9w t e (λz=>nomatch z))];exact t
end
section
variable{X:Cx}{pins:List (Addr×Obj)}{σ:St}{H:Hp}{s:Shared}{a:Addr}{kvs:List (Key×V)}{k:Key}{u:Value}{A:Around}{E:Value->Shared->Prop}
end
section
variable{X:Cx}{o i e value:Expr}{pos pos' tpos:Pos}{td ty tv:TE}
end
def a4Y(h:Heap)(hb:gy<h.objs.size):ObjOk P w H (h.push { cls:=.type "dict",data:=.dict #[] }) h.objs.size (.dK []):=
 ⟨aW _,beq_eq_false_iff_ne.mpr (Ne.symm (aQ hb)),[],.nil,Heap.DictOf.new h⟩
def b7a:TE:=λ_ H Q=>∀p,H p=none->Q (.ref p) (upd H p (.dK []))
section
variable{X:Cx}{pos:Pos}
def b11:PE X (.Dict [] [] pos) b7a:=λb s σ H Q I h=>
 wpAny_Dict_empty ⟨.ref s.heap.objs.size,_,I.laid (λ_ _ q=>Heap.get?_push_of_some _ q) (aC _) (a4Y s.heap I.big),rfl,h _ (I.hok.fresh (aC _))⟩
end
noncomputable def b7b(kvs more:List (Key×V)):List (Key×V):=more.foldl (λacc kv=>putK acc kv.1 kv.2) kvs
def KV.merge:∀{more:List (Key×V)}{rs:List (Key×Value)}{kvs:List (Key×V)}{vs:List (Key×Value)},KV more rs->KV kvs vs->KV (b7b kvs more) (merged vs rs):=by
 intro d f a b r
 induction r generalizing a b with
 |nil=>intro q;exact q
 | @cons p q ps qs h t ih=>
  intro c;have e:KV (putK a p.1 p.2) (stored b q.1 q.2):=by
   have:=c.put p.1 h.2
   rw[<- h.1];exact this
  exact ih e
section
variable{X:Cx}{pins:List (Addr×Obj)}{σ:St}{H:Hp}{s:Shared}{a:Addr}{y d:V}{u r:Value}{o:Option V}{A:Around}{E:Value->Shared->Prop}
def b7c(hu:A.units+1<cLine)(I:Inv X pins σ H s)(g:DGet H a y o)(ry:RelV y u)(h:∀w' s',Inv X pins σ H s'->RelV (o.getD .non) w'->Q w' s') :
  wpAny (model X.prog X.w) A (call (.builtin "dict.get") [.ref a,u]) Q E s:=by
 rcases g with ⟨kvs,k,e,ey,l⟩ |⟨kvs,k,b,e,ey,eb,l⟩
 ·subst ey;obtain⟨z,f,j,d,c⟩:=a8r I.hok e;refine iF PySem.F.slot_dict_get c.typeIs PySem.F.entry_dict_get (PySem.F.args_dict_get_2 _ _) (meets_dict_get _ a (a4g ry) f) ⟨_,c.mapOf,h _ _ (I.tok _) ?_⟩;rw[l];exact (d.val k).getD rfl
 ·subst ey;cases (ry);obtain⟨z,f,i,d,c⟩:=a9N I.hok e;refine iF PySem.F.slot_dict_get c.typeIs PySem.F.entry_dict_get (PySem.F.args_dict_get_2 _ _) (meetsH_dict_get _ a b f) ⟨im hu,k,i,a3D I.hok eb,c,h _ _ (I.tok _) ?_⟩;rw[l];exact (d.val k).getD rfl
def b7d(hu:A.units+1<cLine)(I:Inv X pins σ H s)(g:DGet H a y o)(ry:RelV y u)(rd:RelV d r)(h:∀w' s',Inv X pins σ H s'->RelV (o.getD d) w'->Q w' s') :
  wpAny (model X.prog X.w) A (call (.builtin "dict.get") [.ref a,u,r]) Q E s:=by
 rcases g with ⟨kvs,k,e,ey,l⟩ |⟨kvs,k,b,e,ey,eb,l⟩
 ·subst ey;obtain⟨z,i,m,f,c⟩:=a8r I.hok e;refine iF PySem.F.slot_dict_get c.typeIs PySem.F.entry_dict_get (PySem.F.args_dict_get_3 _ _ _) (meets_dict_get_default _ a (a4g ry) i r) ⟨_,c.mapOf,h _ _ (I.tok _) ?_⟩;rw[l];exact (f.val k).getD rd
 ·subst ey;cases (ry);obtain⟨z,i,j,f,c⟩:=a9N I.hok e;refine iF PySem.F.slot_dict_get c.typeIs PySem.F.entry_dict_get (PySem.F.args_dict_get_3 _ _ _) (meetsH_dict_get_default _ a b i r) ⟨im hu,k,j,a3D I.hok eb,c,h _ _ (I.tok _) ?_⟩;rw[l];exact (f.val k).getD rd
end
section
variable{X:Cx}{o e f:Expr}{apos cpos:Pos}{td ty tx:TE}
end
section
variable{X:Cx}{pins:List (Addr×Obj)}{σ:St}{H:Hp}{s:Shared}{a:Addr}{kvs:List (Key×V)}{A:Around}{E:Value->Shared->Prop}
end
section
variable{X:Cx}{pins:List (Addr×Obj)}{σ:St}{H:Hp}{s:Shared}{a:Addr}{y:V}{u:Value}{A:Around}{E:Value->Shared->Prop}
end
end L2
namespace PySem
noncomputable def a0H(env:Env):List (Str×fQ)->List (Str×Addr)->List (Str×Addr)
 |[],cs=>cs
 | (n,k)::r,cs=>if (k==.free)=true then a0H env r ((n,(env.cells.lookup n).getD 0)::cs) else a0H env r cs
def a4Z(h:∀x∈scope.names,x.2=.free->∃c,env.cells.lookup x.1=some c):closureFor scope env=pure (a0H env scope.names []):=by
 simp only[closureFor]
 suffices H:∀l b,(∀x∈l,x.2=.free->∃c,env.cells.lookup x.1=some c) ->
   forIn l b _=pure (a0H env l b) by
  rw[H scope.names [] h];rfl
 intro l
 induction l with
 |nil=>intro b _;rfl
 |cons x l ih=>
  intro b j;obtain⟨n,k⟩:=x;have g:=λb=>ih b λy o=>j y (bU _ o);rw[List.forIn_cons]
  by_cases hk:k=.free
  ·subst hk;obtain⟨c,m⟩:=j _ b5 rfl;have f:cellOf env n=pure c:=by unfold cellOf;rw[m]
   rw[if_pos (show (fQ.free==fQ.free)=true from rfl),f];have e:a0H env ((n,fQ.free)::l) b=a0H env l ((n,c)::b):=by
    show (if (fQ.free==fQ.free)=true then _ else _)=_
    rw[m];rfl
   rw[e,<- g ((n,c)::b)]
   rfl
  ·have i:(k==fQ.free)=false:=by simpa using hk
   have e:a0H env ((n,k)::l) b=a0H env l b:=by
    show (if (k==fQ.free)=true then _ else _)=_
    rw[i];rfl
   rw[e,<- g b];rw[i,if_neg bA]
   rfl
def a40:∀(l:List (Str×fQ))(cs:List (Str×Addr)),(∀y∈l,y.2=.free->∃c,env.cells.lookup y.1=some c)->(∀y c,cs.lookup y=some c->env.cells.lookup y=some c) ->
  ∀c,(a0H env l cs).lookup x=some c->env.cells.lookup x=some c:=by intro z0;induction z0 with
 |nil=>intro cs _ hc c h;exact hc x c h
 |cons q0 r I0=>
  obtain⟨n,k⟩:=q0;intro cs hx hc c h;have g:=λy m=>hx y (bU _ m);unfold a0H at h
  split at h
  ·rename_i hk
   have f:k=.free:=by simpa using hk
   obtain⟨d,j⟩:=hx (n,k) b5 f;refine I0 _ g (λy i a=>?_) c h;rw[bW]at a;cases e:y==n with
   |true=>
    rw[e]at a;have o:y=n:=by simpa using e
    subst o;rw[j]at a ⊢;exact a
   |false=>rw[e]at a;exact hc y i a
  ·exact I0 cs g hc c h
def a6A:∀(l:List (Str×fQ))(cs:List (Str×Addr))(c:Addr),cs.lookup x=some c->∃c',(a0H env l cs).lookup x=some c':=by intro z0;induction z0 with
 |nil=>intro cs c h;exact⟨c,h⟩
 |cons q0 r I0=>
  obtain⟨n,k⟩:=q0;intro cs c h;unfold a0H
  split
  ·cases e:x==n with
   |true=>exact I0 _ _ (by rw[bW,e])
   |false=>exact I0 _ c (by rw[bW,e];exact h)
  ·exact I0 cs c h
def a4B:∀(l:List (Str×fQ))(cs:List (Str×Addr)),(x,fQ.free)∈l->∃c,(a0H env l cs).lookup x=some c:=by intro z0;induction z0 with
 |nil=>intro cs h;cases h
 |cons _ r I0=>
  intro cs h;unfold a0H;rcases aD.mp h with e |e
  ·cases e;exact a6A r _ ((env.cells.lookup x).getD 0) (by simp)
  ·split
   ·exact I0 _ e
   ·exact I0 _ e
def a4h{env:Env}:∀(names:List (Str×fQ)),
  (names.map λ(n,k)=>if (k==fQ.free&&env.scope.kind==.function&&env.kindOf n==some .cell) then (n,fQ.cell) else (n,k)).lookup x =
   (names.lookup x).map λk=>if (k==fQ.free&&env.scope.kind==.function&&env.kindOf x==some .cell)=true then fQ.cell else k:=by intro z0;induction z0 with
 |nil=>exact rfl
 |cons q0 r I0=>
  obtain⟨n,k⟩:=q0;have a:=I0
  show dj x ((if _=true then _ else (n,k))::_)=_
  cases hx:x==n with
  |true=>
   have e:x=n:=by grind
   subst e
   by_cases hc:(k==fQ.free&&env.scope.kind==.function&&env.kindOf x==some .cell)=true
   simp only[bW,hx,cG,if_pos hc];simp only[bW,hx,cG,if_neg hc]
  |false=>
   by_cases hc:(k==fQ.free&&env.scope.kind==.function&&env.kindOf n==some .cell)=true
   ·rw[if_pos hc];simp only[bW,hx];exact a
   ·rw[if_neg hc];simp only[bW,hx];exact a
def a13(I:Nat->Shared->Prop)
  (turn:∀n s,I n s->wpAny (model prog w) A (pyNext it) (λr sj=>match r with
   |none=>R (.ok .next) sj
   |some v=>wpAny (model prog w) A (jf target it v) (λ_ sj=>wpAny (model prog w) A (assign target env v) (λ_ sv=>
     wpAny (model prog w) A (forIn ifs true λc r=>if r=true then do let ok <- isTrue c env (eval c env);pure (ForInStep.yield ok) else pure (ForInStep.yield r)) (λok sx=>
      if ok=true then wpAny (model prog w) A (eval elt env) (λx sy=>
       wpAny (model prog w) A (call (.builtin "list.append") [acc,x]) (λ_ sJ=>∃m,m<n/\I m sJ) (iG (model prog w) A env λe s'=>R (.error e) s') sy) (iG (model prog w) A env λe s'=>R (.error e) s') sx
      else ∃m,m<n/\I m sx) (iG (model prog w) A env λe s'=>R (.error e) s') sv) (iG (model prog w) A env λe s'=>R (.error e) s') sj) (λ_ _=>False) sj) (λ_ _=>False) s)
  (n:Nat) (h:I n s) :
  gf (model prog w) A (.compLoop (.ListComp elt [⟨target,iter,ifs,0⟩] scope pos) 0 it acc env) R s:=by
 refine codeAny_loop rfl I (λn s k=>?_) n h;refine wpAny_noted (fF (jc (fF (fS (turn n s k) (λr d a=>?_) λ_ _ f=>f.elim))));cases r with
 |none=>exact fG a
 |some v=>
  refine fF (fS a (λ_ d a=>?_) λ_ _ f=>f.elim);refine fF (fS a (λ_ p g=>fF (fS g (λl z b=>?_) λ_ _ f=>f)) λ_ _ f=>f);cases l with
  |false=>exact fG ⟨rfl,b⟩
  |true=>
   exact fF (fF (fS b (λx o i=>fF (fS i (λ_ u j=>fG (fG ⟨rfl,j⟩)) λ_ _ f=>f)) λ_ _ f=>f))
end PySem
namespace L2
open PySem PySem.Spec PyProof.Rows
noncomputable def a2M(cap:List (Option Nat))(σ:St):St:=cap.map λo=>o.bind λj=>(σ[j]?).join
def a1m:St->St->Prop
 |[],[]=>True
 |none::a,_::b=>a1m a b
 |some x::a,y::b=>y=some x/\a1m a b
 |_,_=>False
theorem a2N:∀{a b:St},a1m a b->a.length=b.length/\∀(i:Nat) v,a[i]?=some (some v)->b[i]?=some (some v)
 |[],[],_=>⟨rfl,λi v h=>by simp at h⟩
 |none::a,y::b,h=>by
  have c:=a2N (b:=b) h;refine⟨by simp[c.1],λi v e=>?_⟩;cases i with
  |zero=>simp at e
  |succ i=>simpa using c.2 i v (by simp_all)
 |some x::a,y::b,h=>by
  obtain⟨d,h⟩:=(h);have c:=a2N (b:=b) h;refine⟨by simp[c.1],λi v e=>?_⟩;cases i with
  |zero=>rw[d];simpa using e
  |succ i=>simpa using c.2 i v (by simpa using e)
 |[],_::_,h=>aH h
 |none::_,[],h=>aH h
 |some _::_,[],h=>aH h
theorem a1C:∀a:St,a1m a a
 |[]=>True.intro
 |none::a=>a1C a
 |some _::a=>⟨rfl,a1C a⟩
noncomputable def capB(N:List Str)(so sc:Scope)(N':List Str)(cap:List (Option Nat)):Bool:=
 decide (sc.kind=.function)&&decide N'.Nodup&&decide (cap.length=N'.length)&&(sc.names.all λy=>decide (y.2≠.cell)) &&
 (sc.names.all λy=>decide (y.2=.local->sc.names.lookup y.1=some .local)) &&
 (sc.names.all λy=>decide (y.2=.free->so.names.lookup y.1=some .cell\/so.names.lookup y.1=some .free)) &&
 ((N'.zip cap).all λy=>match y.2 with |none=>true |some j=>decide (N[j]?=some y.1)&&decide (sc.names.lookup y.1=some .free))
structure CapOk (N:List Str) (so sc:Scope) (N':List Str) (cap:List (Option Nat)):Prop where
 kind:sc.kind=.function
 nd:N'.Nodup
 len:cap.length=N'.length
 nocell:∀y∈sc.names,y.2≠.cell
 nms:∀y∈sc.names,y.2=.local->sc.names.lookup y.1=some .local
 fre:∀y∈sc.names,y.2=.free->so.names.lookup y.1=some .cell\/so.names.lookup y.1=some .free
 cap:∀(i:Nat) x j,N'[i]?=some x->cap[i]?=some (some j)->N[j]?=some x/\sc.names.lookup x=some .free
def a9P(h:capB N so sc N' cap=true):CapOk N so sc N' cap:=by
 unfold capB at h;simp only[bD,decide_eq_true_eq,bX]at h;obtain⟨⟨⟨⟨⟨⟨f,k⟩,d⟩,g⟩,b⟩,l⟩,e⟩:=h;refine⟨f,k,d,g,b,l,λi x j c a=>?_⟩;have m:(N'.zip cap)[i]?=some (x,some j):=by rw[List.getElem?_zip_eq_some];exact⟨c,a⟩
 simpa using (e (x,some j) (aS m))
structure Lk (fr:List Addr) (ex:Addr->Prop) (h h':Heap):Prop where
 keep:∀b o,h.get? b=some o->b∉fr->¬ ex b->h'.get? b=some o
 slot:∀b o,h.get? b=some o->¬ ex b->∃sl,h'.get? b=some { o with slots:=sl }
 size:h.objs.size<=h'.objs.size
def Lk.refl{fr:List Addr}{ex:Addr->Prop}{h:Heap}:Lk fr ex h h:=⟨λ_ _ q _ _=>q,λ_ o q _=>⟨o.slots,q⟩,aC _⟩
def Lk.trans{fr:List Addr}{ex ex2:Addr->Prop}{h h1 h2:Heap}(a:Lk fr ex h h1)(b:Lk fr ex2 h1 h2)(i:∀x,ex2 x->ex x\/h.objs.size<=x):Lk fr ex h h2:=by
 have n:∀{x o},h.get? x=some o->¬ ex x->¬ ex2 x:=λ{x o} q n z=>by
  rcases i x z with z |z
  ·exact n z
  ·exact absurd (Heap.lt_size q) (Nat.not_lt.mpr z)
 refine⟨λx o q f z=>b.keep x o (a.keep x o q f z) f (n q z),λx o q z=>?_,aM a.size b.size⟩;obtain⟨sl,e⟩:=a.slot x o q z;obtain⟨sl2,e2⟩:=b.slot x _ e (n q z);exact⟨sl2,e2⟩
theorem Lk.funs(k:Lk fr ex h h'):∀{l:List Env},(∀b∈frs l,¬ ex b)->h.FunFrames base l->h'.FunFrames base l
 |[],_,_=>True.intro
 |env::rest,hx,⟨hk,⟨L,o,hf,hn,ho,hd⟩,hr⟩=>by
  have a:L∈frs (env::rest):=by show L∈(env::rest).filterMap _;rw[bJ,hf];exact .head _
  obtain⟨d,e⟩:=k.slot L o ho (hx L a);exact⟨hk,⟨L,_,hf,hn,e,hd⟩,k.funs (λb c=>hx b (by show b∈(env::rest).filterMap _;rw[bJ,hf];exact .tail _ c)) hr⟩
def FlyT(e:Addr)(cls:Value)(T:Addr)(fl:Value)(h:Heap):Prop:=∃oe vs oT ts,h.get? e=some oe/\(oe.cls=cls/\oe.dict=none)/\oe.data=.fields vs/\vs[1]?=some (.ref T)/\T≠e/\h.get? T=some oT/\oT.data=.fields ts/\ts[3]?=some fl
section
variable{M:Model}{A:Around}{E:Value->Shared->Prop}{s:Shared}{base:Heap}{env:Env}{outer:List Env}{L e T:Addr}{cls fl:Value}{Q:Unit->Shared->Prop}
def FlyT.field{Q:Value->Shared->Prop}(h:FlyT e cls T fl s.heap)(q:Q (.ref T) s):wpAny M A (field (.ref e) 1) Q E s:=by
 obtain⟨_,_,_,_,a,_,b,c,_⟩:=h;exact gO a b c q
def FlyT.mark{Q:Value->Shared->Prop}(h:FlyT e cls T fl s.heap)(q:Q fl s):wpAny M A (PySem.field (.ref T) 3) Q E s:=by
 obtain⟨_,_,_,_,_,_,_,_,_,a,c,b⟩:=h;exact gO a c b q
end
def Un.lk(u:Un fs ex0 H0 H h0 h)(v:Lk fr ex h h')(hf:∀b∈fr,b∈fs\/h0.get? b=none)(hx:∀b,ex b->b∈ex0\/h0.get? b=none):Un fs ex0 H0 H h0 h':=by
 have g:∀{b o},h0.get? b=some o->b∉ex0->¬ ex b:=λ{b o} q n z=>by
  rcases hx b z with z |z
  ·grind
  ·grind
 refine⟨λb o q n c a=>?_,λb o q n c a=>?_,u.free,λb o q a=>?_,u.tups,u.frzs,u.tbls⟩
 ·refine v.keep b o (u.keep b o q n c a) (λz=>?_) (g q a);rcases hf b z with z |z
  ·grind
  ·grind
 ·obtain⟨j,f⟩:=u.slot b o q n c a;obtain⟨d,e⟩:=v.slot b _ f (g q a);exact⟨d,e⟩
 ·obtain⟨i,f⟩:=u.there b o q a;obtain⟨d,e⟩:=v.slot b _ f (g q a);exact⟨_,e⟩
def ObjOk.is(x:ObjOk P w H h a o):∃ob,h.get? a=some ob:=by
 cases o with
 |lst xs=>obtain⟨_,_,_,_,e⟩:=x;exact⟨_,e⟩
 |tup xs=>obtain⟨_,_,_,b,e,_⟩:=x;exact⟨_,e⟩
 |dK kvs=>obtain⟨_,_,_,_,o,_,_,e,_⟩:=x;exact⟨_,e⟩
 |dT kvs=>obtain⟨_,_,_,_,o,_,_,e,_⟩:=x;exact⟨_,e⟩
 |set S n=>obtain⟨o,_,_,_,e,_⟩:=x;exact⟨_,e⟩
 |ins C dx fs=>obtain⟨_,_,_,e,_⟩:=x;exact⟨_,e⟩
 |own y=>obtain⟨_,e⟩:=x;exact⟨_,e⟩
 |xd fs=>obtain⟨_,⟨_,_,_,e,_⟩,_⟩:=x;exact⟨_,e⟩
 |rng lo hi=>obtain⟨_,_,_,e⟩:=x;exact⟨_,e⟩
 |frz b u=>obtain⟨e,_⟩:=x;exact⟨_,e⟩
 |tbl ps=>exact⟨_,x⟩
 |met f y=>exact⟨_,x⟩
 |ext φ=>obtain⟨_,⟨_,e⟩,_⟩:=x;exact⟨_,e⟩
def HOk.lk(x:HOk P w H h)(l:Lk fr ex h h')(hf:∀b∈fr,H b=none)(he:∀b,ex b->H b=none):HOk P w H h':=λa o q=>
 (x a o q).stay (λb u c r=>by
  have d:H b≠none:=by
   rcases c with rfl |c
   ·simp_all
   ·simp_all
  exact l.keep b u r (λz=>d (hf b z)) λz=>d (he b z)) (λ_ q=>q) λ_ _ q=>q
structure Fly (N:Addr->Prop) (H:Hp) (fl:Value) (e:Addr) (cls:Value) (h:Heap):Prop where
 at_:∃T,FlyT e cls T fl h/\N T/\H T=none
 old:N e
 free:H e=none
def CXx(P:fK)(w:World):CXT:=λouter H s E ev s'=>∃e C H',ev=.ref e/\s'.os=s.os/\gz s'.gens/\Un (frs outer) [] H H' s.heap s'.heap/\HOk P w H' s'.heap/\Fly (λb=>s.heap.get? b=none) H' .none e (.ref C) s'.heap/\E (.ref C) none H'
structure TKs (H H':Hp):Prop where
 tup:∀b xs,H b=some (.tup xs)->H' b=some (.tup xs)
 frz:∀b o u,H b=some (.frz o u)->H' b=some (.frz o u)
def since(H:Hp)(E:XK):XK:=λc d H'=>TKs H H'->E c d H'
structure Outs (X:Cx) (E:XK):Prop where
 xe:∀ev s',wpAny (model X.prog X.w) X.A (leaving X.env ev) (λ_ s''=>CXx X.prog X.w X.outer X.H₀ X.s₀ E ev s'') (λe' s''=>CXx X.prog X.w X.outer X.H₀ X.s₀ E e' s'') s'->X.xe ev s'
 stk:X.stack=X.env::X.outer
 frm:X.env.frame=some X.env.locals
 ex:X.ex=[]
def Outs.of{P:fK}{w:World}{K:Fg}{mg:Str->Option Value}{base:Heap}{N:List Str}{qual:Str}{scope:Scope}{f:Addr}{cd:Value}{A:Around}{outer:List Env}{s:Shared}{H:Hp}{E:XK}:Outs (cxOf (CXx P w) P w K mg base N qual scope f cd A outer s H E) E:=⟨λ_ _ h=>h,rfl,rfl,rfl⟩
section
variable{X:Cx}{E:XK}{pins:List (Addr×Obj)}{σ:St}{H:Hp}{s:Shared}
def Outs.frames(O:Outs X E)(I:Inv X pins σ H s):X.A.frames=some (X.env::X.outer):=by rw[<- O.stk];exact I.ok.frames
def Outs.sub(O:Outs X E)(I:Inv X pins σ H s):∀b∈frs (X.env::X.outer),b∈X.fs\/X.s₀.heap.get? b=none:=λb a=>by
 rw[<- O.stk]at a;rcases aD.mp (I.stkSub b a) with z |z
 ·rw[z];exact .inr (Heap.get?_none_of_le I.ok.above)
 ·exact .inl z
def Outs.funs(O:Outs X E)(I:Inv X pins σ H s):s.heap.FunFrames X.base (X.env::X.outer):=by rw[<- O.stk];exact I.stack
def Outs.free(O:Outs X E)(I:Inv X pins σ H s):∀b∈frs (X.env::X.outer),H b=none:=by rw[<- O.stk];exact I.stkFree
def Outs.base(O:Outs X E)(I:Inv X pins σ H s):Un X.fs [] X.H₀ H X.s₀.heap s.heap:=by have:=I.base;rw[O.ex]at this;exact this
def Outs.fin(O:Outs X E)(I:Inv X pins σ H s){e C T:Addr}{ex:Addr->Prop}{h':Heap}(k:Lk (frs (X.env::X.outer)) ex s.heap h')(f:FlyT e (.ref C) T .none h')(hx:∀b,ex b->X.s₀.heap.get? b=none/\H b=none)(he:ex e)(hT:ex T\/s.heap.objs.size<=T)(q:since X.H₀ E (.ref C) none H) :
  CXx X.prog X.w X.outer X.H₀ X.s₀ E (.ref e) { s with heap:=h' }:=
 ⟨e,C,H,rfl,I.os,I.bare,(O.base I).lk k (O.sub I) (λb hb=>.inr (hx b hb).1),I.hok.lk k (O.free I) λb hb=>(hx b hb).2,⟨⟨T,f,by
  rcases hT with z |z
  ·exact hx T z
  ·exact⟨Heap.get?_none_of_le (aM I.sz z),I.hok.fresh z⟩⟩,(hx e he).1,(hx e he).2⟩,q ⟨I.base.tups,I.base.frzs⟩⟩
end
def ExC(X:Cx)(E:XK)(C:Addr)(s:Shared)(H:Hp)(fp:List Addr)(ev:Value)(s':Shared):Prop:=
 ∃e Cl H',ev=.ref e/\s'.os=s.os/\gz s'.gens/\Un (frs X.stack) fp H H' s.heap s'.heap/\HOk X.prog X.w H' s'.heap/\Fly (λb=>b∈fp\/s.heap.get? b=none) H' .none e (.ref Cl) s'.heap/\(∃m,s'.heap.Ns C m)/\H' C=none/\C≠e/\E (.ref Cl) none H'
def a41(X:Cx)(EW:XK)(sc:Scope):Prop:=∀(pins:List (Addr×Obj))(σ:St)(H:Hp)(s:Shared)(C:Addr)(fp:List Addr)(use:Option (Value->Sem Unit))(Fin:Value->Shared->Prop)(acc:Value),Inv X pins σ H s->(∀b∈fp,FpOk X pins H b)->C=s.heap.objs.size ->
 ∀ev s',ExC X EW C s H fp ev s'->iG (model X.prog X.w) X.A (io sc (a0H X.env sc.names []) C X.env) (λe s''=>jp (model X.prog X.w) X.A X.xe use Fin acc C (.error e) s'') ev s'
def a7t:a41 X (λ_ _ _=>False) sc:=by
 rintro a σ H s C g d c b _ _ _ e f ⟨_,_,_,_,_,_,_,_,_,_,_,_,q⟩;exact q.elim
noncomputable def cxC(X:Cx)(EW:XK)(N':List Str)(sc:Scope)(C:Addr)(s:Shared)(H:Hp)(fp:List Addr):Cx:=
 { X with N:=N',s₀:=s,H₀:=H,env:=io sc (a0H X.env sc.names []) C X.env,outer:=X.stack,stack:=X.stack,ex:=fp,fn:=λ_=>false,pn:=[],xe:=ExC X EW C s H fp }
def PIfs(X:Cx)(ifs:List Expr)(t:TT):Prop:=
 ∀(pins:List (Addr×Obj))(s:Shared)(σ:St)(H:Hp)(Q:Bool->Hp->Prop),Inv X pins σ H s->t σ H Q ->
  wpAny (model X.prog X.w) X.A (forIn ifs true λc r=>if r=true then do let ok <- isTrue c X.env (eval c X.env);pure (ForInStep.yield ok) else pure (ForInStep.yield r)) (TP X pins σ Q) X.xe s
def tTT:TT:=λ_ H Q=>Q true H
def b12:PIfs X [] tTT:=λ_ _ _ H _ I h=>wpAny_tests_nil ⟨H,I,h⟩
def b13(h:PT X c t):PIfs X [c] t:=λa s σ H Q I q=>wpAny_tests_one (h a s σ H Q I q)
def LcB(J:It)(cap:List (Option Nat))(g:TG)(tt:TT)(te:TE)(σ:St)(Q:VK)(D:Addr)(H1:Hp):Prop:=
 ∃W:Nat->Nat->List V->Hp->Prop,(∃m,W 0 m [] (upd H1 D (.lst [])))/\∀i m ys H2,W i m ys H2 ->
  (J.stop i H2/\Q (.ref D) H2) \/
  (J.go i H2/\∃N:List V->Hp->Prop,(∀ys' H',N ys' H'->∃m',m'<m/\W (i+1) m' ys' H')/\∀x H',J.yld i H2 x H' ->
   g x (a2M cap σ) H' fun σ2 H3=>a1m (a2M cap σ) σ2/\tt σ2 H3 λb H4=>if b=true then te σ2 H4 λy H5=>∃zs,H5 D=some (.lst zs)/\zs.length<fH/\N (zs++[y]) (upd H5 D (.lst (zs++[y]))) else N ys H4)
def tLC(wi:TI)(cap:List (Option Nat))(g:TG)(tt:TT)(te:TE):TE:=fun σ H Q=>wi σ H λJ H1=>∀D,H1 D=none->LcB J cap g tt te σ Q D H1
structure CFree (X:Cx) (pins:List (Addr×Obj)) (H:Hp) (C:Addr):Prop where
 free:H C=none
 loc:C≠X.env.locals
 old:X.s₀.heap.objs.size<=C
 cell:∀x c,X.env.cells.lookup x=some c->c≠C
 pin:∀p∈X.pn++pins,p.1≠C
section
variable{X:Cx}{pins:List (Addr×Obj)}{σ:St}{H:Hp}{s:Shared}{N':List Str}{sc:Scope}{cap:List (Option Nat)}{C:Addr}{fp:List Addr}{EW:XK}
def a9Q(I:Inv X pins σ H s)(ck:CapOk X.N X.env.scope sc N' cap):∀x∈sc.names,x.2=.free->∃c,X.env.cells.lookup x.1=some c:=λx a b=>
 I.ok.has x.1 (ck.fre x a b)
def a3E(I:Inv X pins σ H s)(ck:CapOk X.N X.env.scope sc N' cap)(h:(a0H X.env sc.names []).lookup x=some c):X.env.cells.lookup x=some c:=
 a40 sc.names [] (a9Q I ck) (λy c h=>by simp at h) c h
def a9R(env:Env)(x:Str):(io sc (a0H X.env sc.names []) C env).kindOf x=(sc.names.lookup x).map λk=>if (k==fQ.free&&env.scope.kind==.function&&env.kindOf x==some .cell)=true then fQ.cell else k:=
 a4h sc.names
def a1h{l:List (Str×fQ)}(h:l.lookup x=some k):(x,k)∈l:=PySem.mem_of_lookup h
def b9W(I:Inv X pins σ H s)(ck:CapOk X.N X.env.scope sc N' cap)(hf:∀b∈fp,FpOk X pins H b)(hlt:∀b∈fp,b<s.heap.objs.size)(hC:C=s.heap.objs.size):(cxC X EW N' sc C s H fp).Ok:=by
 have g:∀{x:Str}{c:Addr},(a0H X.env sc.names []).lookup x=some c->X.env.cells.lookup x=some c:=λh=>a3E I ck h;refine⟨I.ok.mod,ck.kind,I.ok.glob,I.ok.blt,by rw[hC];exact aC _,λx y c j m=>I.ok.inj x y c (g j) (g m),λx n=>?_,λx c h _=>(by cases h),I.ok.hd,I.ok.frames,.inl rfl,λb a=>⟨?_,λx c h=>?_⟩,I.bs,aM I.ok.bsz I.sz,λb o e a=>?_,λb a l=>?_,I.stack,I.stkFree⟩
 ·have d:(sc.names.lookup x).map (λk=>if (k==fQ.free&&X.env.scope.kind==.function&&X.env.kindOf x==some .cell)=true then fQ.cell else k)=some .cell \/
    (sc.names.lookup x).map (λk=>if (k==fQ.free&&X.env.scope.kind==.function&&X.env.kindOf x==some .cell)=true then fQ.cell else k)=some .free:=by
   rw[<- a9R X.env x];exact n
  cases e:sc.names.lookup x with
  |none=>rw[e]at d;rcases d with z |z<;>cases z
  |some k=>
   have i:=a1h e;have f:k=.free:=by
    rw[e]at d
    by_cases f:k=.free
    ·grind
    ·have a:(k==fQ.free)=false:=by simpa using f
     simp only[cG,a,bv.injEq]at d;rcases d with z |z
     ·exact absurd z (ck.nocell _ i)
     ·simp_all
   subst f;exact a4B sc.names [] i
 ·show b≠C
  rw[hC];exact aQ (hlt b a)
 ·exact (hf b a).2.2.2.2.1 x c (g h)
 ·obtain⟨_,_,_,z,_⟩:=hf b a;rcases z with z |z
  ·exact I.ok.noex b o e z
  ·exact absurd (aZ (Heap.lt_size e) (aM I.ok.bsz z)) (ca _)
 ·rcases aD.mp (I.stkSub b l) with z |z
  ·exact (hf b a).2.1 z
  ·exact (hf b a).2.2.1 z
def b7e(I:Inv X pins σ H s)(ck:CapOk X.N X.env.scope sc N' cap)(hf:∀b∈fp,FpOk X pins H b)(hlt:∀b∈fp,b<s.heap.objs.size)(hC:C=s.heap.objs.size)
  (hn:hjv.Ns C m) (hk:∀b o,s.heap.get? b=some o->hjv.get? b=some o):Inv (cxC X EW N' sc C s H fp) [] (a2M cap σ) H { s with heap:=hjv,toks:=t' }:=by
 refine⟨b9W I ck hf hlt hC,rfl,I.bare,Un.kept hk,⟨m,hn,λi x v M a S=>?_⟩,λx c h=>?_,?_,λx c h=>I.freeC x c (a3E I ck h),λp D=>absurd (show p∈([]) from D) (by simp),I.hok.kept hk,?_⟩
 ·have A:=M;unfold a2M at a;rw[aK]at a;cases ec:cap[i]? with
  |none=>rw[ec]at a;cases a
  |some o=>
   rw[ec]at a;cases o with
   |none=>simp at a
   |some j=>
    have d:(σ[j]?).join=some v:=by simp_all
    have l:σ[j]?=some (some v):=by
     cases q:σ[j]? with
     |none=>rw[q]at d;cases d
     |some w=>rw[q]at d;rw[show w=some v from d]
    obtain⟨J,n⟩:=ck.cap i x j A ec;have f:=ck.fre _ (a1h n) rfl;obtain⟨R,_,L⟩:=I.loc;obtain⟨u,Q,B⟩:=L j x v J l (.inr f);refine⟨u,Q,.inr ⟨?_,?_⟩⟩
    ·show (io sc _ C X.env).kindOf x=some .cell\/(io sc _ C X.env).kindOf x=some .free
     rw[a9R,n];simp only[cG,beq_self_eq_true,bM]
     by_cases hc:(X.env.scope.kind==ScopeKind.function&&X.env.kindOf x==some fQ.cell)=true
     ·simp_all
     ·rw[if_neg hc];exact .inr rfl
    ·obtain⟨E,g⟩:=a4B sc.names [] (a1h n);have G:=a3E I ck g;rcases B with ⟨k,_⟩ |⟨_,c,ec',z⟩
     ·have F:X.env.scope.names.lookup x=some .local:=k;have e:=f;rw[F]at e;rcases e with q |q<;>cases q
     ·rw[G]at ec';cases ec';obtain⟨y,r,t⟩:=z;exact⟨E,g,y,hk _ _ r,t⟩
 ·obtain⟨v,y,r,t⟩:=I.cell x c (a3E I ck h);exact⟨v,y,hk _ _ r,t⟩
 ·show H C=none
  rw[hC];exact I.hok.fresh (aC _)
 ·show (a2M cap σ).length=N'.length
  unfold a2M;rw[aB];exact ck.len
def b4K(I:Inv X pins σ H s)(hf:∀b∈fp,FpOk X pins H b)(J:Inv (cxC X EW N' sc C s H fp) pins' σ' H' s'):Inv X pins σ H' s':=
 I.call' J.os J.base J.hok J.bare λb a=>⟨(hf b a).2.2.2.1,(hf b a).2.1,(hf b a).2.2.2.2.1,(hf b a).2.2.2.2.2⟩
def b14(I:Inv X pins σ H s)(hC:C=s.heap.objs.size)(J:Inv (cxC X EW N' sc C s H fp) pins' σ' H' s'):CFree X pins H' C:=by
 refine⟨J.free,by rw[hC];exact cu I.lt,by rw[hC];exact I.sz,λx c e z=>?_,λp a z=>(absurd (Heap.lt_size (I.pin p a).1) (by simp_all))⟩
 ·obtain⟨v,q⟩:=I.cell x c e;exact absurd q.lt (by simp_all)
def CFree.after(F:CFree X pins H C)(I:Inv X pins σ H s)(k:∀b o,b≠C->s.heap.get? b=some o->h'.get? b=some o):Inv X pins σ H { s with heap:=h',toks:=t' }:=
 I.turned k F.free F.loc (.inr F.old) F.cell F.pin
end
section
variable{X:Cx}{elt tg iter:Expr}{ifs:List Expr}{sc:Scope}{pos:Pos}{wi:TI}{g:TG}{tt:TT}{te:TE}{N':List Str}{cap:List (Option Nat)}{EW:XK}
def a9S(hc:X.calm=true)(hE:a41 X EW sc)(ck:CapOk X.N X.env.scope sc N' cap)(hi:PI X tg iter wi)
    (hg:∀C s H fp,PG (cxC X EW N' sc C s H fp) tg g) (ht:∀C s H fp,PIfs (cxC X EW N' sc C s H fp) ifs tt) (he:∀C s H fp,PE (cxC X EW N' sc C s H fp) elt te)
    (hs:∀x,gM iter X.env x=pure x) {Fin:Value->Shared->Prop}
 (I:Inv X pins σ H s) (h:tLC wi cap g tt te σ H Q)
    (fin:∀D s' C m H',Inv X pins σ H' s'->Q (.ref D) H'->s'.heap.Ns C m->CFree X pins H' C->jp (model X.prog X.w) X.A X.xe use Fin (.ref D) C (.ok .next) s') :
    wpAny (model X.prog X.w) X.A (comprehension (.ListComp elt [⟨tg,iter,ifs,0⟩] sc pos) sc X.env pos' (newList []) false (eval iter X.env) use) Fin X.xe s:=by
  refine wpAny_comprehension_free rfl hs (a4Z (a9Q I ck)) ck.kind ck.nms ?_;refine thn (hi pins s σ H _ I h) λv s1 h1=>thn h1 λitv j h2=>?_;obtain⟨it,f,tn,J,H2,e,I2,T,st2,f2,h2⟩:=h2;subst e;have hD:=I2.hok.fresh (aC _);obtain⟨W,⟨m0,w0⟩,turn⟩:=h2 j.heap.objs.size hD;refine g5 ?_;have t:=I2.lnew (t':=j.toks) .nil (aW _);generalize hs3:({ j with heap:=j.heap.push { cls:=.type "list",data:=.seq ([]:List Value).toArray } }:Shared)=s3 at t;generalize hH3:upd H2 j.heap.objs.size (.lst [])=H3 at t w0;have ac:∀b∈f,b<j.heap.objs.size:=λb a=>by
    obtain⟨o,e,_⟩:=T.obj _ _ st2 b a;exact Heap.lt_size e
  have sz3:s3.heap.objs.size=j.heap.objs.size+1:=by rw[<- hs3];exact Heap.size_push _ _
  have Y:∀b∈f,b<s3.heap.objs.size:=λb a=>by rw[sz3];exact cx (ac b a)
  have B:∀b∈f,FpOk X pins H3 b:=λb a=>by
    refine⟨?_,(f2 b a).2⟩;rw[<- hH3,a0g (aQ (ac b a))];exact (f2 b a).1
  have st3:tn 0 s3.heap:=T.keep _ _ _ st2 λb _ o e=>by rw[<- hs3];exact Heap.get?_push_of_some _ e
  refine wpAny_newFunctionEnv ck.nocell (by intro y hy;simp at hy) (λhjv hjj hjq=>?_) ck.kind;have hk:=λb o e=>hjq.extBut b o (aQ (Heap.lt_size e)) (Heap.get?_push_of_some _ e);have I4:=b7e (EW:=EW) (t':=s3.toks+([]:List (Str×Value)).length) t ck B Y rfl hjj hk;generalize hs4:({ s3 with heap:=hjv,toks:=s3.toks+([]:List (Str×Value)).length }:Shared)=s4 at I4 ⊢;have st4:tn 0 s4.heap:=T.keep _ _ _ st3 λb _ o e=>by rw[<- hs4];exact hk b o e
  have G:∀{k:Hp}{l:List (Addr×Obj)},(∀p∈l,p.1∉f)->(∀b∈f,k b=none)->∀b∈f,FpOk (cxC X EW N' sc s3.heap.objs.size s3 H3 f) l k b:=λ{k l} E hn b a=>
    ⟨hn b a,aQ (Y b a),λz=>by
      rcases aD.mp (t.stkSub b z) with z |z
      · exact (B b a).2.1 z
      · exact (B b a).2.2.1 z,.inl a,λx c e=>(B b a).2.2.2.2.1 x c (a3E t ck e),λp hp' z=>E p hp' (by rw[z];exact a)⟩
  have hx:=hE pins σ H3 s3 s3.heap.objs.size f use Fin (.ref j.heap.objs.size) t B rfl;have ab:gf (model X.prog X.w) X.A (.compLoop (.ListComp elt [⟨tg,iter,ifs,0⟩] sc pos) 0 (.ref it) (.ref j.heap.objs.size) (io sc (a0H X.env sc.names []) s3.heap.objs.size X.env))
      (jp (model X.prog X.w) X.A X.xe use Fin (.ref j.heap.objs.size) s3.heap.objs.size) s4:=by
    refine a13 (λn s'=>∃i ys σ' k,Inv (cxC X EW N' sc s3.heap.objs.size s3 H3 f) [] σ' k s'/\a1m (a2M cap σ) σ'/\tn i s'.heap/\(∀b∈f,k b=none)/\W i n ys k) ?_ m0
      ⟨0,[],a2M cap σ,H3,I4,a1C _,st4,λb a=>(B b a).1,w0⟩
    rintro n s5 ⟨i,ys,σ5,H5,I5,k5,st5,fr5,w5⟩;have kk:=a2N k5;have I5:=I5.weak kk.1 kk.2;rcases turn i n ys H5 w5 with ⟨stop,q⟩ |⟨go,N,hN,step⟩
    · refine thn (T.done (cxC X EW N' sc s3.heap.objs.size s3 H3 f) rfl rfl rfl hc i [] s5 _ H5 _ I5 (G (λp E=>by cases E) fr5) st5 stop) λr s6 Y=>Y.elim λhr I6=>?_
      subst hr;obtain⟨m6,n6,_⟩:=I6.loc;exact fin _ s6 _ m6 H5 (b4K t B I6) q n6 (b14 t rfl I6)
    · refine thn (T.item (cxC X EW N' sc s3.heap.objs.size s3 H3 f) rfl rfl rfl hc i [] s5 _ H5 _ I5 (G (λp E=>by cases E) fr5) st5 go) λr s6 Y=>Y.elim λu Y=>Y.elim λhr h6=>?_
      subst hr;refine thn h6 λ_ s7 ⟨x,H7,I7,r7,y7,aa,fr7⟩=>?_;have I7':=I7.pinned (G (λp E=>by cases E) fr7) (T.obj _ _ aa);have M:∀{σ9:St}{F:Hp}{S:Shared}{L:List V},Inv (cxC X EW N' sc s3.heap.objs.size s3 H3 f) ([]++a7p f s7.heap) σ9 F S->a1m (a2M cap σ) σ9->N L F ->
          ∃m,m<n/\∃i ys σ' k,Inv (cxC X EW N' sc s3.heap.objs.size s3 H3 f) [] σ' k S/\a1m (a2M cap σ) σ'/\tn i S.heap/\(∀b∈f,k b=none)/\W i m ys k:=λ{σ9 F S L} U k9 n9=>by
        obtain⟨m',hm,w9⟩:=hN L F n9;refine⟨m',hm,i+1,L,σ9,F,U.unpinned,k9,T.keep _ _ _ aa λb a o e=>(U.pin (b,o) (bz _ (bz _ (a1O a e)))).1,λb a=>?_,w9⟩;obtain⟨o,e,d⟩:=T.obj _ _ aa b a;exact (U.pin (b,o) (bz _ (bz _ (a1O a e)))).2.1
      refine fS (hg _ _ _ _ _ s7 _ H7 x u _ I7' r7 (step x H7 y7)) (λ_ s8 ⟨σ8,H8,I8,k8,q8⟩=>?_) hx;refine fS (ht _ _ _ _ _ s8 σ8 H8 _ I8 q8) (λb S Y=>Y.elim λF Y=>Y.elim λU q9=>?_) hx;cases b with
      |false=>
        exact M U k8 q9
      |true=>
        rw[if_pos rfl]at q9 ⊢;refine fS (he _ _ _ _ _ S σ8 F _ U q9) (λy s10 ⟨vy,H10,I10,r10,zs,hacc,hsz,q10⟩=>?_) hx;refine fS (a5I (X:=cxC X EW N' sc s3.heap.objs.size s3 H3 f) _ s10 σ8 H10 (.ref j.heap.objs.size) [vy] (.ref j.heap.objs.size) [y] (λ_ k=>N (zs++[vy]) k) I10 rfl (.cons r10 .nil) ⟨_,zs,vy,rfl,rfl,hacc,hsz,q10⟩) (λ_ s11 ⟨_,H11,I11,_,q11⟩=>?_) hx;exact M I11 k8 q11
  exact codeAny_compStart_list ab (T.self _ 0 _ _ _ st4 ab)
def b9X(hc:X.calm=true)(hE:a41 X EW sc)(hNN:X.N=Nj)(hso:X.env.scope=so)(ck:capB Nj so sc N' cap=true)(hi:PI X tg iter wi)
  (hg:∀C s H fp,PG (cxC X EW N' sc C s H fp) tg g) (ht:∀C s H fp,PIfs (cxC X EW N' sc C s H fp) ifs tt) (he:∀C s H fp,PE (cxC X EW N' sc C s H fp) elt te)
  (hs:∀x,gM iter X.env x=pure x:=by intro _;rfl):PE X (.ListComp elt [⟨tg,iter,ifs,0⟩] sc pos) (tLC wi cap g tt te):=by
 intro f s σ H Q I h;subst hNN hso;exact a9S hc hE (a9P ck) hi hg ht he hs I h λD d C m i c q k F=>⟨m,k,λl a=>⟨.ref D,i,F.after c (λb o j e=>a.extBut b o j e),rfl,q⟩⟩
def b15(hN:X.N.Nodup)(hx:X.N[i]?=some x)(hl:X.env.scope.names.lookup x=some .local)(hc:X.calm=true)(hE:a41 X EW sc)(hNN:X.N=Nj)(hso:X.env.scope=so)(ck:capB Nj so sc N' cap=true)(hi:PI X tg iter wi)
  (hg:∀C s H fp,PG (cxC X EW N' sc C s H fp) tg g) (ht:∀C s H fp,PIfs (cxC X EW N' sc C s H fp) ifs tt) (he:∀C s H fp,PE (cxC X EW N' sc C s H fp) elt te)
  (hsw:gI (.ListComp elt [⟨tg,iter,ifs,0⟩] sc pos) (some (.Name x pos')) spos.line X.env=pure true)
  (hs:∀x,gM iter X.env x=pure x):PS X (.Assign [.Name x pos'] (.ListComp elt [⟨tg,iter,ifs,0⟩] sc pos) spos) (tAsg (tLC wi cap g tt te) (a9h i)):=by
 subst hNN hso;intro f s σ H D I h;rw[exec_Assign_Name_used _ _ _ _ hsw];refine fF (jc (fF (fF (fS (a9S hc hE (a9P ck) hi hg ht he hs I h λd c C m w t q E F=>?_) (λ_ c u=>fG (fG u)) λ_ _ e=>e))));refine wpAny_assign_Name (a5B t hN hx (.inl hl) (v:=.ref d) rfl (λj n y=>?_) (.inr hl));obtain⟨a,p,r⟩:=y;have l:C≠a:=by
  rcases r with z |z
  ·rw[z];exact F.loc
  ·exact Ne.symm (F.cell _ _ z)
 exact⟨m,E.sameBut p l,λG k=>⟨_,w,F.after n (λb o B e=>k.extBut b o B e),q⟩⟩
end
section
variable{X:Cx}{st:Stmt}{rest:List Stmt}{t u:TS}{e:Expr}{te:TE}{tt:TT}
end
mutual
def DV(H:Hp):PyData->V->Prop
 |.none,x=>x=.non
 |.bool b,x=>x=.bl b
 |.int i,x=>x=.int i
 |.str s,x=>x=.str s
 |.list ds,x=>∃a vs,x=.ref a/\H a=some (.lst vs)/\DVs H ds vs
 |.tuple ds,x=>∃a vs,x=.ref a/\H a=some (.tup vs)/\DVs H ds vs
 |.dict _,_=>False
def DVs(H:Hp):List PyData->List V->Prop
 |[],vs=>vs=[]
 |d::ds,vs=>∃v r,vs=v::r/\DV H d v/\DVs H ds r
end
mutual
theorem DV.reads{P:fK}{w:World}{H:Hp}{h:Heap}(ok:HOk P w H h):∀{d:PyData}{x:V}{u:Value},DV H d x->RelV x u->∃as,Reads h u d as
 |.none,x,u,q,r=>by
  unfold DV at q;subst q;cases (show u=Value.none from r);exact⟨_,.none⟩
 |.bool b,x,u,q,r=>by
  unfold DV at q;subst q;cases (show u=Value.bool b from r);exact⟨_,.bool b⟩
 |.int i,x,u,q,r=>by
  unfold DV at q;subst q;obtain⟨t,e⟩:=(show ∃t,u=Value.int i t from r);subst e;exact⟨_,.int i t⟩
 |.str s,x,u,q,r=>by
  unfold DV at q;subst q;obtain⟨t,e⟩:=(show ∃t,u=Value.str s t from r);subst e;exact⟨_,.str s t⟩
 |.list ds,x,u,q,r=>by
  unfold DV at q;obtain⟨a,vs,e,ha,q⟩:=q;subst e;cases (show u=Value.ref a from r);obtain⟨_,its,n,rv,e⟩:=ok a _ ha;obtain⟨as,rd⟩:=DVs.reads ok q rv;exact⟨_,.list e rfl rfl (by simpa using rd)⟩
 |.tuple ds,x,u,q,r=>by
  unfold DV at q;obtain⟨a,vs,e,ha,q⟩:=q;subst e;cases (show u=Value.ref a from r);obtain⟨_,its,rv,o,e,c,n,d⟩:=ok a _ ha;obtain⟨as,rd⟩:=DVs.reads ok q rv;exact⟨_,.tuple e c d (by simpa using rd)⟩
 |.dict _,x,u,q,r=>by unfold DV at q;exact q.elim
theorem DVs.reads{P:fK}{w:World}{H:Hp}{h:Heap}(ok:HOk P w H h):∀{ds:List PyData}{vs:List V}{us:List Value},DVs H ds vs->Vals vs us->∃as,ReadsAll h us ds as
 |[],vs,us,q,r=>by
  unfold DVs at q;subst q;cases r;exact⟨_,.nil⟩
 |d::ds,vs,us,q,r=>by
  unfold DVs at q;obtain⟨v,rr,e,q1,q2⟩:=q;subst e;cases r with
  |cons r1 r2=>
   obtain⟨as,h1⟩:=DV.reads ok q1 r1;obtain⟨bs,h2⟩:=DVs.reads ok q2 r2;exact⟨_,.cons h1 h2⟩
end
def rEqD:R2:=λx y H Q=>∃d e,DV H d x/\DV H e y/\SeqAt.shaped d=true/\SeqAt.shaped e=true/\Q (.bl (PyData.eqv d e)) H
def rNeD:R2:=λx y H Q=>∃d e,DV H d x/\DV H e y/\SeqAt.shaped d=true/\SeqAt.shaped e=true/\Q (.bl (!PyData.eqv d e)) H
section
variable{X:Cx}
def b7f(hu:X.A.units+66<cLine):OpR X (fN .Eq) rEqD:=by
 intro i s σ H x y v u Q I g k h;obtain⟨d,e,b,f,l,a,q⟩:=h;obtain⟨m,j⟩:=b.reads I.hok g;obtain⟨n,c⟩:=f.reads I.hok k;exact eq_dataH j c l a (by lia) ⟨.bl _,H,I,rfl,q⟩
def b7g(hu:X.A.units+66<cLine):OpR X (fN .NotEq) rNeD:=by
 intro b s σ H x y v u Q I j c h;obtain⟨d,e,a,g,l,i,q⟩:=h;obtain⟨n,f⟩:=a.reads I.hok j;obtain⟨m,k⟩:=g.reads I.hok c;exact ne_dataH f k l i (by lia) ⟨.bl _,H,I,rfl,q⟩
def rInD(neg:Bool):R2:=λx y H Q=>∃d p ds vs,DV H d x/\y=.ref p/\(H p=some (.lst vs)\/H p=some (.tup vs))/\DVs H ds vs/\SeqAt.shaped d=true/\SeqAt.shaped (.list ds)=true /\
 Q (.bl (if neg then !(ds.any λy=>PyData.eqv y d) else ds.any λy=>PyData.eqv y d)) H
def b7h(hu:X.A.units+66<cLine):OpR X (fN .In) (rInD false):=by
 intro r s σ H x y v u Q I z m h;obtain⟨d,p,b,j,w,e,a,i,k,t,q⟩:=h;subst e;obtain⟨C,f⟩:=w.reads I.hok z;have n:PyData.canLayAll0 b=true:=by have:=SeqAt.canLay_of_shaped t;simpa[PyData.canLay0]using this
 have g:=SeqAt.canLay_of_shaped k;have o:=SeqAt.depth_of_shaped k;have l:X.A.units+1+min (PyData.depthAll b) d.depth<cLine:=by have:=dM (PyData.depthAll b) d.depth;lia
 rcases a with a |a
 ·obtain⟨B,c⟩:=(show DV H (.list b) _ by unfold DV;exact⟨p,j,rfl,a,i⟩).reads I.hok m;exact SeqAt.in_list_reads c f n g l ⟨.bl _,H,I,rfl,q⟩
 ·obtain⟨B,c⟩:=(show DV H (.tuple b) _ by unfold DV;exact⟨p,j,rfl,a,i⟩).reads I.hok m;exact SeqAt.in_tuple_reads c f n g l ⟨.bl _,H,I,rfl,q⟩
def a9T(hu:X.A.units+66<cLine):OpR X (fN .NotIn) (rInD true):=by
 intro r s σ H x y v u Q I o g h;obtain⟨d,p,a,n,z,e,b,j,m,w,q⟩:=h;subst e;obtain⟨C,f⟩:=z.reads I.hok o;have i:PyData.canLayAll0 a=true:=by have:=SeqAt.canLay_of_shaped w;simpa[PyData.canLay0]using this
 have l:=SeqAt.canLay_of_shaped m;have t:=SeqAt.depth_of_shaped m;have k:X.A.units+1+min (PyData.depthAll a) d.depth<cLine:=by have:=dM (PyData.depthAll a) d.depth;lia
 rcases b with b |b
 ·obtain⟨B,c⟩:=(show DV H (.list a) _ by unfold DV;exact⟨p,n,rfl,b,j⟩).reads I.hok g;exact SeqAt.notIn_list_reads c f i l k ⟨.bl _,H,I,rfl,q⟩
 ·obtain⟨B,c⟩:=(show DV H (.tuple a) _ by unfold DV;exact⟨p,n,rfl,b,j⟩).reads I.hok g;exact SeqAt.notIn_tuple_reads c f i l k ⟨.bl _,H,I,rfl,q⟩
def b7i(_ j:Int):Prop:=0<j/\j<2 ^ 64
def b16:OpR X (fR .FloorDiv) (rI b7i λi j=>.int (i / j)):=opI λi j _ _ _ _ _ a q=>by
 have c:(0:Int)<j:=a.1;have d:j<2 ^ 64:=a.2;refine floordiv_int (by lia) ?_ (.inl (PyProof.noPylong_of_log2 ?_))
 ·rw[Int.fdiv_eq_ediv_of_nonneg i (by lia)];exact q
 ·have b:j.natAbs<2 ^ 64:=by lia
  have e:=(Nat.log2_lt (by lia)).mpr b
  lia
def rIsT(K:Fg):List V->Hp->VK->Prop:=λxs H Q=>∃x T t b,xs=[x,.ty T]/\TyOf K H x t/\PySem.W.kitOne K t (.type T)=some b/\Q (.bl b) H
def b17:CallR X (.builtin "isinstance") (rIsT X.K):=by
 intro c s σ H j k Q I r h;obtain⟨x,T,t,b,rfl,i,e,q⟩:=h;obtain⟨u,g,rfl,f,a⟩:=a9t r;cases (a);exact a9z I f i e λd=>⟨.bl b,H,I.tok d,rfl,q⟩
end
section
variable{X:Cx}{E:XK}
end
section
variable{X:Cx}{E:XK}
end
end L2
namespace L2
open PySem PySem.Spec PySem.Calls PyProof.Rows PySem.W
structure ExK (K:Frag) (D:Addr):Prop where
 cls:(clsIn K D).isSome=true
 ga:findIn K (.ref D) "__getattribute__"=some (some (.builtin "BaseException.__getattribute__"))
 hk:findIn K (.ref D) "__getattr__"=some none
 ha:findIn K (.ref D) "__class__"=some (some (.builtin "object.__class__"))
 hn:specialIn K (.builtin "object.__class__") "__get__"=some (some (.builtin "getset_descriptor.__get__"))
 tk:takesIn K (.builtin "object.__class__")=some true
 hm:mroIn K D (.type "object")=some true
 hb:mroIn K D (.type "BaseException")=some true
section
variable{prog:fK}{w:World}{A:Around}{E:Value->Shared->Prop}{s:Shared}{K:Frag}{x D:Addr}{ox:Obj}
def ExK.find(k:ExK K D):findObj K D none "__class__"=some (.bind (.builtin "getset_descriptor.__get__") (.builtin "object.__class__")):=by
 obtain⟨b,a⟩:=eE.mp k.cls;unfold findObj;rw[a,eI,k.ha,eI];simp[k.hn,k.tk]
end
end L2
namespace L2
open PySem PySem.Spec PyProof.Rows
section
variable{X:Cx}{pins:List (Addr×Obj)}{σ σ':St}{H:Hp}{s:Shared}
def Inv.lk(I:Inv X pins σ H s)(k:Lk (frs X.stack) ex s.heap h')(hx:∀b,ex b->X.s₀.heap.get? b=none/\H b=none/\(∀x c,X.env.cells.lookup x=some c->c≠b)/\∀p∈X.pn++pins,p.1≠b)
  (hl:∃m,h'.Ns X.env.locals m/\∀(i:Nat)(x:Str)(v:V),X.N[i]?=some x->σ'[i]?=some (some v)->Vis X.env.scope x->∃u,RelV v u/\Look X.env h' m x u) (hn:σ'.length=σ.length):Inv X pins σ' H { s with heap:=h',toks:=t' }:=by
 refine⟨I.ok,I.os,I.bare,I.base.lk k (λb a=>?_) (λb a=>.inr (hx b a).1),hl,λx c e=>?_,I.free,I.freeC,λp g=>?_,I.hok.lk k I.stkFree λb a=>(hx b a).2.1,hn.trans I.len⟩
 ·rcases aD.mp (I.stkSub b a) with z |z
  ·rw[z];exact .inr (Heap.get?_none_of_le I.ok.above)
  ·simp_all
 ·obtain⟨v,o,l,n⟩:=I.cell x c e;obtain⟨r,d⟩:=k.slot c o l λz=>(hx c z).2.2.1 x c e rfl;exact⟨v,_,d,n⟩
 ·obtain⟨d,q,f,h,j⟩:=I.pin p g;refine⟨k.keep _ _ d (λz=>?_) (λz=>(hx _ z).2.2.2 p g rfl),q,f,h,j⟩;rcases aD.mp (I.stkSub _ z) with z |z
  ·exact f z
  ·exact h z
def Inv.lk0(I:Inv X pins σ H s)(k:Lk (frs X.stack) ex s.heap h')(hx:∀b,ex b->X.s₀.heap.get? b=none/\H b=none/\b≠X.env.locals/\(∀x c,X.env.cells.lookup x=some c->c≠b)/\∀p∈X.pn++pins,p.1≠b):Inv X pins σ H { s with heap:=h' }:=by
 refine I.lk k (λb a=>⟨(hx b a).1,(hx b a).2.1,(hx b a).2.2.2⟩) ?_ rfl;obtain⟨m,⟨o,e,q,B,w,y,h⟩,l⟩:=I.loc;obtain⟨j,r⟩:=k.slot _ o B λz=>(hx _ z).2.2.1 rfl;refine⟨m,⟨_,e,q,r,w,y,h⟩,λi x v d f A=>?_⟩;obtain⟨u,t,n⟩:=l i x v d f A;refine⟨u,t,?_⟩;rcases n with z |⟨z1,c,z2,oc,z3,z4⟩
 ·exact .inl z
 ·obtain⟨j,g⟩:=k.slot c oc z3 λz=>(hx c z).2.2.2.1 x c z2 rfl;exact .inr ⟨z1,c,z2,_,g,z4⟩
abbrev Cx.hnd(X:Cx)(e:Addr)(oe:Obj):Cx:={ X with A:=X.A.mark (some (.ref e)),calm:=false,pn:=(e,oe)::X.pn,xe:=λ_ _=>False }
noncomputable def Inv.hnd(I:Inv X pins σ H s)(h1:s.heap.get? e=some oe)(h2:H e=none)(h3:e≠X.env.locals)(h4:e∉X.fs)(h5:∀v,oe.data≠.cell v):Inv (X.hnd e oe) pins σ H s:=
 ⟨⟨I.ok.mod,I.ok.kind,I.ok.glob,I.ok.blt,I.ok.above,I.ok.inj,I.ok.has,I.ok.cab,(λz=>nomatch z),I.ok.frames,I.ok.stk,I.ok.exf,I.ok.bs,I.ok.bsz,I.ok.noex,I.ok.exfs,I.ok.funs,I.ok.frf⟩,I.os,I.bare,I.base,I.loc,I.cell,I.free,I.freeC,(λp a=>by
  rcases aD.mp (a) with rfl |a
  ·exact⟨h1,h2,h3,h4,h5⟩
  ·exact I.pin p a),I.hok,I.len⟩
end
section
variable{X:Cx}{k:Nat}{f C D:Addr}{fd:f8}{ps:List Str}{sp:Sp}{x n:Str}{p pos np hpos tpos:Pos}{e ce:Expr}{es:List Expr}{t:TA}
end
end L2
namespace L3
open PySem PySem.Spec PyProof.Rows L2
inductive Z where
 |non |bl (b:Bool) |int (i:Int) |str (x:Str) |ref (a:Addr) |ty (n:String) |scr (a:Addr) (ns:List Int)
 |tup (ws:List Z)
mutual
def eqZ:Z->Z->Bool
 |.non,.non=>true
 |.bl a,.bl b=>a==b
 |.int a,.int b=>decide (a=b)
 |.str a,.str b=>decide (a=b)
 |.ref a,.ref b=>decide (a=b)
 |.ty a,.ty b=>decide (a=b)
 |.scr a ns,.scr b ms=>decide (a=b)&&decide (ns=ms)
 |.tup a,.tup b=>eqZs a b
 |_,_=>false
def eqZs:List Z->List Z->Bool
 |[],[]=>true
 |a::as,b::bs=>eqZ a b&&eqZs as bs
 |_,_=>false
end
mutual
theorem a9U:∀x y:Z,eqZ x y=true↔x=y
 |.tup a,y=>by
  cases y with
  |tup b=>simp only[eqZ,Z.tup.injEq];exact a7u a b
  |_=>simp[eqZ]
 |.non,y=>by cases y<;>simp[eqZ]
 |.bl _,y=>by cases y<;>simp[eqZ]
 |.int _,y=>by cases y<;>simp[eqZ]
 |.str _,y=>by cases y<;>simp[eqZ]
 |.ref _,y=>by cases y<;>simp[eqZ]
 |.ty _,y=>by cases y<;>simp[eqZ]
 |.scr _ _,y=>by cases y<;>simp[eqZ]
theorem a7u:∀x y:List Z,eqZs x y=true↔x=y
 |[],y=>by cases y<;>simp[eqZs]
 |a::as,y=>by
  cases y with
  |nil=>simp[eqZs]
  |cons b bs=>simp only[eqZs,bD,cb.injEq,a9U a b,a7u as bs]
end
instance:DecidableEq Z:=λx y=>decidable_of_iff _ (a9U x y)
section
variable{K:Fg}{H H' H1 H2:Hp}{a p:Addr}{xs:List V}
def Fz(K:Fg)(H:Hp)(a:Addr)(xs:List V):Prop:=
 (∃o,H a=some (.frz o (.lst xs)))\/∃(o:Obj)(its:Array Value)(n:Nat),K.lookup a=some o/\o.cls=.type "list"/\o.dict=none/\o.data=.seq its n/\its.size<=fH/\Vals xs its.toList
def Fz.sq(h:Fz K H a xs):SqL K H a xs:=by
 rcases h with ⟨o,h⟩ |h
 ·exact .inl (.inr ⟨o,h⟩)
 ·exact .inr h
def Fz.of(hO:Only H)(h:SqL K H a xs):Fz K H a xs:=by
 rcases h with (h |h) |h
 ·rcases hO a with z |⟨o,ys,z⟩
  ·grind
  ·simp_all
 ·exact .inl h
 ·exact .inr h
structure TW (K:Fg) (H H':Hp):Prop where
 tup:∀a xs,H a=some (.tup xs)->H' a=some (.tup xs)
 frz:∀a xs,Fz K H a xs->Fz K H' a xs
structure TK (K:Fg) (H H':Hp):Prop where
 tup:∀a xs,H a=some (.tup xs)->H' a=some (.tup xs)
 frz:∀a xs,Fz K H a xs->Fz K H' a xs
 frd:∀a o u,H a=some (.frz o u)->H' a=some (.frz o u)
def TK.refl(K:Fg)(H:Hp):TK K H H:=⟨λ_ _ h=>h,λ_ _ h=>h,λ_ _ _ h=>h⟩
def TK.trans(a:TK K H H1)(b:TK K H1 H2):TK K H H2:=⟨λc d h=>b.tup c d (a.tup c d h),λc d h=>b.frz c d (a.frz c d h),λc o u h=>b.frd c o u (a.frd c o u h)⟩
noncomputable def TK.upd(h:∀xs,H p≠some (.tup xs))(h2:∀o u,H p≠some (.frz o u)):TK K H (L2.upd H p o):=by
 refine⟨λc b e=>?_,λc b e=>?_,λc a u e=>by rw[a0g (by rintro rfl;exact h2 _ _ e)];exact e⟩
 ·rw[a0g (by rintro rfl;exact h _ e)];exact e
 ·rcases e with ⟨a,e⟩ |e
  ·exact .inl ⟨a,by rw[a0g (by rintro rfl;exact h2 _ _ e)];exact e⟩
  ·exact .inr e
def TK.new(h:H p=none):TK K H (L2.upd H p o):=.upd (λa e=>by rw[h]at e;cases e) (λo u e=>by rw[h]at e;cases e)
def TK.lst{o:HO}(h:H p=some (.lst xs)):TK K H (L2.upd H p o):=by simp_all[upd]
def TK.dK{o:HO}{kvs:List (Key×V)}(h:H p=some (.dK kvs)):TK K H (L2.upd H p o):=by simp_all[upd]
def TK.ins{o:HO}{C dx:Addr}{fs:List (Str×V)}(h:H p=some (.ins C dx fs)):TK K H (L2.upd H p o):=by simp_all[upd]
end
mutual
def Rep(K:Fg)(H:Hp):Z->V->Prop
 |.non,v=>v=.non
 |.bl b,v=>v=.bl b
 |.int i,v=>v=.int i
 |.str x,v=>v=.str x
 |.ref a,v=>v=.ref a
 |.ty n,v=>v=.ty n
 |.scr a ns,v=>v=.ref a/\Fz K H a (ns.map V.int)
 |.tup ws,v=>∃a vs,v=.ref a/\H a=some (.tup vs)/\Reps K H ws vs
def Reps(K:Fg)(H:Hp):List Z->List V->Prop
 |[],vs=>vs=[]
 |w::ws,vs=>∃v r,vs=v::r/\Rep K H w v/\Reps K H ws r
end
section
variable{K:Fg}{H H':Hp}
def a0A:Rep K H .non v=(v=.non):=by unfold Rep;rfl
def a0u:Rep K H (.bl b) v=(v=.bl b):=by unfold Rep;rfl
def a0l:Rep K H (.int i) v=(v=.int i):=by unfold Rep;rfl
def a0s:Rep K H (.str x) v=(v=.str x):=by unfold Rep;rfl
def a0x:Rep K H (.ref a) v=(v=.ref a):=by unfold Rep;rfl
def a9V:Rep K H (.ty n) v=(v=.ty n):=by unfold Rep;rfl
def a2O:Rep K H (.scr a ns) v=(v=.ref a/\Fz K H a (ns.map V.int)):=by unfold Rep;rfl
def a1D:Rep K H (.tup ws) v=(∃a vs,v=.ref a/\H a=some (.tup vs)/\Reps K H ws vs):=by conv=>lhs;unfold Rep
def a0m:Reps K H [] vs=(vs=[]):=by unfold Reps;rfl
def a0K:Reps K H (w::ws) vs=(∃v r,vs=v::r/\Rep K H w v/\Reps K H ws r):=by conv=>lhs;unfold Reps
mutual
theorem Rep.monoW(t:TW K H H'):∀(w:Z)(v:V),Rep K H w v->Rep K H' w v
 |.tup ws,v,h=>by
  rw[a1D]at h ⊢;obtain⟨a,vs,e,h,r⟩:=h;exact⟨a,vs,e,t.tup _ _ h,Reps.monoW t ws vs r⟩
 |.scr a ns,v,h=>by
  rw[a2O]at h ⊢;exact⟨h.1,t.frz _ _ h.2⟩
 |.non,v,h=>by rw[a0A]at h ⊢;exact h
 |.bl _,v,h=>by rw[a0u]at h ⊢;exact h
 |.int _,v,h=>by rw[a0l]at h ⊢;exact h
 |.str _,v,h=>by rw[a0s]at h ⊢;exact h
 |.ref _,v,h=>by rw[a0x]at h ⊢;exact h
 |.ty _,v,h=>by rw[a9V]at h ⊢;exact h
theorem Reps.monoW(t:TW K H H'):∀(ws:List Z)(vs:List V),Reps K H ws vs->Reps K H' ws vs
 |[],vs,h=>by rw[a0m]at h ⊢;exact h
 |w::ws,vs,h=>by
  rw[a0K]at h ⊢;obtain⟨v,r,e,h1,h2⟩:=h;exact⟨v,r,e,Rep.monoW t w v h1,Reps.monoW t ws r h2⟩
end
def Rep.mono(t:TK K H H')(w:Z)(v:V)(h:Rep K H w v):Rep K H' w v:=Rep.monoW ⟨t.tup,t.frz⟩ w v h
def Reps.mono(t:TK K H H')(ws:List Z)(vs:List V)(h:Reps K H ws vs):Reps K H' ws vs:=Reps.monoW ⟨t.tup,t.frz⟩ ws vs h
def Reps.cons{w:Z}{v:V}{ws:List Z}{vs:List V}(a:Rep K H w v)(b:Reps K H ws vs):Reps K H (w::ws) (v::vs):=by rw[a0K];exact⟨v,vs,rfl,a,b⟩
def Reps.nil:Reps K H [] []:=by rw[a0m]
def Reps.length:∀{ws:List Z}{vs:List V},Reps K H ws vs->ws.length=vs.length:=by intro z0;induction z0 with
 |nil=>intro vs h;rw[a0m]at h;rw[h];rfl
 |cons w ws I0=>
  intro vs h;obtain⟨v,r,e,_,a⟩:=h;rw[e,aL,aL,I0 a]
def Reps.get:∀{ws:List Z}{vs:List V}{i:Nat}{w:Z},Reps K H ws vs->ws[i]?=some w->∃v,vs[i]?=some v/\Rep K H w v:=by intro z0;induction z0 with
 |nil=>intro _ _ _ _ e;simp at e
 |cons w ws I0=>
  intro vs i x h e;obtain⟨v,r,rfl,b,a⟩:=h;cases i with
  |zero=>simp at e;subst e;exact⟨v,rfl,b⟩
  |succ i=>simpa using I0 a (by simp_all)
def Reps.tog{i:Nat}(h:Reps K H ws vs)(e:vs[i]?=some v):∃w,ws[i]?=some w/\Rep K H w v:=by
 have c:=h.length;have a:i<ws.length:=by grind
 obtain⟨d,b,r⟩:=h.get (aN a);rw[e]at b;cases b;exact⟨_,aN a,r⟩
def Reps.append:∀{ws ws':List Z}{vs vs':List V},Reps K H ws vs->Reps K H ws' vs'->Reps K H (ws++ws') (vs++vs'):=by intro z0;induction z0 with
 |nil=>intro _ vs _ h h';rw[a0m]at h;subst h;exact h'
 |cons w ws I0=>
  intro _ vs _ h h';obtain⟨v,r,rfl,a,b⟩:=h;exact .cons a (I0 b h')
theorem Reps.drop:∀{ws:List Z}{vs:List V}(n:Nat),Reps K H ws vs->Reps K H (ws.drop n) (vs.drop n)
 |[],vs,n,h=>by rw[a0m]at h;subst h;simpa using Reps.nil
 |w::ws,vs,0,h=>h
 |w::ws,vs,n+1,h=>by
  obtain⟨v,r,rfl,b,a⟩:=h;exact Reps.drop n a
theorem Reps.take:∀{ws:List Z}{vs:List V}(n:Nat),Reps K H ws vs->Reps K H (ws.take n) (vs.take n)
 |[],vs,n,h=>by rw[a0m]at h;subst h;simpa using Reps.nil
 |w::ws,vs,0,h=>by simpa using Reps.nil
 |w::ws,vs,n+1,h=>by
  obtain⟨v,r,rfl,a,b⟩:=h;exact .cons a (Reps.take n b)
def Reps.set(r:Rep K H w v):∀{ws:List Z}{vs:List V}(i:Nat),Reps K H ws vs->Reps K H (ws.set i w) (vs.set i v):=by intro z0;induction z0 with
 |nil=>intro vs i h;rw[a0m]at h;subst h;simpa using Reps.nil
 |cons x ws I0=>
  intro vs i h;obtain⟨y,s,rfl,b,a⟩:=h;cases i with
  |zero=>exact .cons r a
  |succ i=>exact .cons b (I0 i a)
def Reps.reverse:∀{ws:List Z}{vs:List V},Reps K H ws vs->Reps K H ws.reverse vs.reverse:=by intro z0;induction z0 with
 |nil=>intro vs h;rw[a0m]at h;subst h;exact Reps.nil
 |cons x ws I0=>
  intro vs h;obtain⟨y,s,rfl,b,a⟩:=h;rw[cE,cE];exact (I0 a).append (.cons b .nil)
def a9W:∀{ns:List Int}{vs:List V},Reps K H (ns.map Z.int) vs->vs=ns.map V.int:=by intro z0;induction z0 with
 |nil=>intro vs h;rw[aX,a0m]at h;subst h;rfl
 |cons n ns I0=>
  intro vs h;obtain⟨v,r,rfl,a,b⟩:=h;rw[a,I0 b];rfl
def a3F:∀(ns:List Int),Reps K H (ns.map Z.int) (ns.map V.int):=by intro z0;induction z0 with
 |nil=>exact Reps.nil
 |cons n ns I0=>exact .cons (by rw[a0l]) (I0)
def Reps.one(h:Reps K H [w] vs):∃v,vs=[v]/\Rep K H w v:=by
 obtain⟨v,r,rfl,b,a⟩:=h;exact⟨v,by rw[a],b⟩
def Reps.two(h:Reps K H [w,w'] vs):∃v v',vs=[v,v']/\Rep K H w v/\Rep K H w' v':=by
 obtain⟨v,r,rfl,c,a⟩:=h;obtain⟨d,rfl,b⟩:=a.one;exact⟨v,d,rfl,c,b⟩
end
inductive O where
 |lst (ws:List Z)
 |dK (kvs:List (Key×Z))
 |ins (C dx:Addr) (fs:List (Str×Z))
 |dF (kvs:List (Key×Z))
 |dT (ks:List (List Key))
abbrev Hq:=Addr->Option O
noncomputable def put(G:Hq)(a:Addr)(o:O):Hq:=λb=>if b=a then some o else G b
def a0a:put G a o a=some o:=by unfold put;rw[if_pos rfl]
def a0e(h:b≠a):put G a o b=G b:=by unfold put;rw[if_neg h]
def a1E:put (put G a o) a u=put G a u:=by
 funext b;unfold put;split<;>rfl
def a0d{G:Hq}(h:G a=some o)(h':G b=none):a≠b:=by
 intro e;subst e;rw[h]at h';cases h'
def a0b(h:G b=some u)(n:G a=none):put G a o b=some u:=(a0e (a0d h n))▸h
def ROb(K:Fg)(H:Hp)(a:Addr):O->Prop
 |.lst ws=>∃vs,H a=some (.lst vs)/\Reps K H ws vs
 |.dK kvs=>∃us,H a=some (.dK us)/\us.map (·.1)=kvs.map (·.1)/\Reps K H (kvs.map (·.2)) (us.map (·.2))
 |.ins C dx fs=>∃gs,H a=some (.ins C dx gs)/\gs.map (·.1)=fs.map (·.1)/\Reps K H (fs.map (·.2)) (gs.map (·.2))
 |.dF kvs=>∃o us,H a=some (.frz o (.dK us))/\us.map (·.1)=kvs.map (·.1)/\Reps K H (kvs.map (·.2)) (us.map (·.2))
 |.dT ks=>∃us,H a=some (.dT us)/\us.map (·.1)=ks
def RH(K:Fg)(G:Hq)(H:Hp):Prop:=∀a o,G a=some o->ROb K H a o
section
variable{K:Fg}{H H':Hp}{G:Hq}{a p:Addr}{o:O}{u:HO}
def ROb.some(h:ROb K H a o):∃u,H a=some u:=by
 cases o with
 |lst ws=>obtain⟨b,e,_⟩:=h;exact⟨_,e⟩
 |dK kvs=>obtain⟨b,e,_⟩:=h;exact⟨_,e⟩
 |ins C dx fs=>obtain⟨b,e,_⟩:=h;exact⟨_,e⟩
 |dF kvs=>obtain⟨c,b,e,_⟩:=h;exact⟨_,e⟩
 |dT ks=>obtain⟨b,e,_⟩:=h;exact⟨_,e⟩
def ROb.stay(t:TK K H H')(e:H' a=H a)(h:ROb K H a o):ROb K H' a o:=by
 cases o with
 |lst ws=>obtain⟨b,q,r⟩:=h;exact⟨b,e.trans q,r.mono t⟩
 |dK kvs=>obtain⟨b,q,n,r⟩:=h;exact⟨b,e.trans q,n,r.mono t⟩
 |ins C dx fs=>obtain⟨b,q,n,r⟩:=h;exact⟨b,e.trans q,n,r.mono t⟩
 |dF kvs=>obtain⟨c,b,q,n,r⟩:=h;exact⟨c,b,e.trans q,n,r.mono t⟩
 |dT ks=>obtain⟨b,q,n⟩:=h;exact⟨b,e.trans q,n⟩
def RH.out(h:RH K G H)(e:H a=none):G a=none:=by
 cases q:G a with
 |none=>rfl
 |some o=>obtain⟨u,z⟩:=(h a o q).some;rw[e]at z;cases z
def RH.hid(h:RH K G H)(e:H p=none):RH K G (upd H p u):=λb o q=>
 (h b o q).stay (.new e) (a0g (by rintro rfl;obtain⟨u,z⟩:=(h _ o q).some;rw[e]at z;cases z))
def RH.set(h:RH K G H)(t:TK K H (upd H p u))(n:ROb K (upd H p u) p o):RH K (put G p o) (upd H p u):=λb a q=>by
 by_cases hb:b=p
 ·subst hb;rw[a0a]at q;cases q;exact n
 ·rw[a0e hb]at q;exact (h b a q).stay t (a0g hb)
end
abbrev S3:=List (Option Z)
abbrev K3:=Z->Hq->Prop
abbrev C3:=S3->Hq->Prop
abbrev E3:=S3->Hq->K3->Prop
abbrev T3:=S3->Hq->(Bool->Hq->Prop)->Prop
abbrev A3:=S3->Hq->(List Z->Hq->Prop)->Prop
abbrev X3:=C3->K3->C3->C3->S3->Hq->Prop
def ROp(K:Fg)(H:Hp)(ow:Option Z)(ov:Option V):Prop:=∀w,ow=some w->∃v,ov=some v/\Rep K H w v
def RSt(K:Fg)(H:Hp):S3->L2.St->Prop:=Paired (ROp K H)
section
variable{K:Fg}{H H':Hp}
def RSt.mono(t:TK K H H'):∀{σ:S3}{τ:L2.St},RSt K H σ τ->RSt K H' σ τ:=by intro z0 y0 x0;induction x0 with
 |nil=>exact .nil
 |cons r s I0=>exact .cons (λw e=>by obtain⟨v,q,h⟩:=r w e;exact⟨v,q,h.mono t⟩) (I0)
theorem RSt.get:∀{σ:S3}{τ:L2.St}{i:Nat}{w:Z},RSt K H σ τ->σ[i]?=some (some w)->∃v,τ[i]?=some (some v)/\Rep K H w v
 |_,_,_,_,.nil,e=>by simp at e
 |_,_,0,w,.cons r _,e=>by
  obtain⟨v,q,h⟩:=r w (by simpa using e);exact⟨v,by rw[q];rfl,h⟩
 |_,_,i+1,w,.cons _ s,e=>by
  obtain⟨v,q,h⟩:=RSt.get s (by simpa using e);exact⟨v,by simpa using q,h⟩
theorem RSt.set(r:Rep K H w v):∀{σ:S3}{τ:L2.St}(i:Nat),RSt K H σ τ->RSt K H (σ.set i (some w)) (τ.set i (some v))
 |_,_,_,.nil=>.nil
 |_,_,0,.cons _ s=>.cons (λ_ e=>by cases e;exact⟨v,rfl,r⟩) s
 |_,_,i+1,.cons q s=>.cons q (RSt.set r i s)
def RSt.length(h:RSt K H σ τ):σ.length=τ.length:=Paired.length h
def RSt.nones:∀n:Nat,RSt K H (dq n none) (dq n none):=by intro z0;induction z0 with
 |zero=>exact .nil
 |succ n I0=>exact .cons (λ_ e=>nomatch e) (I0)
def RSt.app:∀{σ σ':S3}{τ τ':L2.St},RSt K H σ τ->RSt K H σ' τ'->RSt K H (σ++σ') (τ++τ'):=by intro z0 y0 x0 w0 v0;induction v0 with
 |nil=>intro h;exact h
 |cons r s I0=>intro h;exact .cons r (I0 h)
def RSt.ofVals:∀{ws:List Z}{vs:List V},Reps K H ws vs->RSt K H (ws.map some) (vs.map some):=by intro z0;induction z0 with
 |nil=>intro vs h;rw[a0m]at h;subst h;exact .nil
 |cons w ws I0=>
  intro vs h;obtain⟨v,r,rfl,b,a⟩:=h;exact .cons (λ_ e=>by cases e;exact⟨v,rfl,b⟩) (I0 a)
end
noncomputable def a3G(N:List Str)(ws:List Z):S3:=ws.map some++dq (N.length-ws.length) none
noncomputable def RSt.start{K:Fg}(h:Reps K H ws vs):RSt K H (a3G N ws) (L2.start N vs):=by
 unfold a3G L2.start;rw[h.length];exact (RSt.ofVals h).app (RSt.nones _)
def UpV(K:Fg)(H:Hp)(R:K3)(Q:VK):Prop:=∀w G v H',R w G->Rep K H' w v->RH K G H'->TK K H H'->Q v H'
def UpB(K:Fg)(H:Hp)(R:Bool->Hq->Prop)(Q:Bool->Hp->Prop):Prop:=∀b G H',R b G->RH K G H'->TK K H H'->Q b H'
def UpA(K:Fg)(H:Hp)(R:List Z->Hq->Prop)(Q:List V->Hp->Prop):Prop:=∀ws G vs H',R ws G->Reps K H' ws vs->RH K G H'->TK K H H'->Q vs H'
def UpS(K:Fg)(H:Hp)(R:C3)(Q:L2.St->Hp->Prop):Prop:=∀σ G τ H',R σ G->RSt K H' σ τ->RH K G H'->TK K H H'->Q τ H'
section
variable{K:Fg}{H H':Hp}
def UpV.mono(h:UpV K H R Q)(t:TK K H H'):UpV K H' R Q:=λw G v b q r g a=>h w G v b q r g (t.trans a)
def UpB.mono(h:UpB K H R Q)(t:TK K H H'):UpB K H' R Q:=λw G b q g a=>h w G b q g (t.trans a)
def UpA.mono(h:UpA K H R Q)(t:TK K H H'):UpA K H' R Q:=λw G v b q r g a=>h w G v b q r g (t.trans a)
def UpS.mono(h:UpS K H R Q)(t:TK K H H'):UpS K H' R Q:=λw G v b q r g a=>h w G v b q r g (t.trans a)
end
def low(K:Fg)(t:E3):TE:=fun τ H Q=>∃σ G R,RSt K H σ τ/\RH K G H/\t σ G R/\UpV K H R Q
def low.un{K:Fg}{C:Prop}(z:low K t τ H Q)(f:∀σ G R,(RSt K H σ τ)->(RH K G H)->(t σ G R)->(UpV K H R Q)->C):C:=by obtain⟨σ,G,R,d,b,c,a⟩:=z;exact f _ _ _ d b c a
def lowT(K:Fg)(t:T3):TT:=fun τ H Q=>∃σ G R,RSt K H σ τ/\RH K G H/\t σ G R/\UpB K H R Q
def lowT.un{K:Fg}{C:Prop}(z:lowT K t τ H Q)(f:∀σ G R,(RSt K H σ τ)->(RH K G H)->(t σ G R)->(UpB K H R Q)->C):C:=by obtain⟨σ,G,R,b,a,d,c⟩:=z;exact f _ _ _ b a d c
def lowA(K:Fg)(t:A3):TA:=fun τ H Q=>∃σ G R,RSt K H σ τ/\RH K G H/\t σ G R/\UpA K H R Q
def lowA.un{K:Fg}{C:Prop}(z:lowA K t τ H Q)(f:∀σ G R,(RSt K H σ τ)->(RH K G H)->(t σ G R)->(UpA K H R Q)->C):C:=by obtain⟨σ,G,R,d,b,c,a⟩:=z;exact f _ _ _ d b c a
def lowS(K:Fg)(t:X3):TS:=λD τ H=>∃σ G nx rt bk ct,RSt K H σ τ/\RH K G H/\t nx rt bk ct σ G/\UpS K H nx D.nx/\UpV K H rt D.rt/\UpS K H bk D.bk/\UpS K H ct D.ct
def lowS.un{K:Fg}{C:Prop}(z:lowS K t D τ H)(f:∀σ G nx rt bk ct,(RSt K H σ τ)->(RH K G H)->(t nx rt bk ct σ G)->(UpS K H nx D.nx)->(UpV K H rt D.rt)->(UpS K H bk D.bk)->(UpS K H ct D.ct)->C):C:=by obtain⟨σ,G,k,j,l,i,h,a,g,b,c,d,e⟩:=z;exact f _ _ _ _ _ _ h a g b c d e
structure QE (X:Cx) (e:Expr) (t:E3):Prop where
 p:PE X e (low X.K t)
structure QT (X:Cx) (e:Expr) (t:T3):Prop where
 p:PT X e (lowT X.K t)
structure QW (X:Cx) (e:Expr) (t:T3):Prop where
 p:PW X e (lowT X.K t)
structure QA (X:Cx) (es:List Expr) (t:A3):Prop where
 p:PA X es (lowA X.K t)
structure QS (X:Cx) (st:Stmt) (t:X3):Prop where
 p:PS X st (lowS X.K t)
structure QSs (X:Cx) (st:List Stmt) (t:X3):Prop where
 p:PSs X st (lowS X.K t)
def QW.qt(h:QW X e t):QT X e t:=⟨PW.pt h.p⟩
section
variable{X:Cx}{e:Expr}{es:List Expr}{st:Stmt}{sts:List Stmt}
def a0X(h:PE X e t')(i:∀σ H Q,t σ H Q->t' σ H Q):PE X e t:=λa s σ H Q I q=>h a s σ H Q I (i σ H Q q)
def a9X(h:PT X e t')(i:∀σ H Q,t σ H Q->t' σ H Q):PT X e t:=λa s σ H Q I q=>h a s σ H Q I (i σ H Q q)
def b7j(h:PW X e t')(i:∀σ H Q,t σ H Q->t' σ H Q):PW X e t:=λw a s σ H Q I q=>h w a s σ H Q I (i σ H Q q)
def b7k(h:PA X es t')(i:∀σ H Q,t σ H Q->t' σ H Q):PA X es t:=λb a s σ H Q I q=>h b a s σ H Q I (i σ H Q q)
def a1Y(h:PS X st t')(i:∀D σ H,t D σ H->t' D σ H):PS X st t:=λa s σ H D I q=>h a s σ H D I (i D σ H q)
def a9Y(h:PSs X sts t')(i:∀D σ H,t D σ H->t' D σ H):PSs X sts t:=λa s σ H D I q=>h a s σ H D I (i D σ H q)
end
abbrev R3:=Z->Z->Hq->K3->Prop
def low2(K:Fg)(r:R3):R2:=λx y H Q=>∃a b G R,Rep K H a x/\Rep K H b y/\RH K G H/\r a b G R/\UpV K H R Q
def low2.un{K:Fg}{C:Prop}(z:low2 K r x y H Q)(f:∀a b G R,(Rep K H a x)->(Rep K H b y)->(RH K G H)->(r a b G R)->(UpV K H R Q)->C):C:=by obtain⟨a,b,G,R,e,h,g,c,d⟩:=z;exact f _ _ _ _ e h g c d
def low1(K:Fg)(r:Z->Hq->K3->Prop):V->Hp->VK->Prop:=λx H Q=>∃a G R,Rep K H a x/\RH K G H/\r a G R/\UpV K H R Q
def low1.un{K:Fg}{C:Prop}(z:low1 K r x H Q)(f:∀a G R,(Rep K H a x)->(RH K G H)->(r a G R)->(UpV K H R Q)->C):C:=by obtain⟨a,G,R,c,e,d,b⟩:=z;exact f _ _ _ c e d b
def lowC(K:Fg)(r:List Z->Hq->K3->Prop):List V->Hp->VK->Prop:=λxs H Q=>∃ws G R,Reps K H ws xs/\RH K G H/\r ws G R/\UpV K H R Q
def lowC.un{K:Fg}{C:Prop}(z:lowC K r xs H Q)(f:∀ws G R,(Reps K H ws xs)->(RH K G H)->(r ws G R)->(UpV K H R Q)->C):C:=by obtain⟨e,G,R,b,d,c,a⟩:=z;exact f _ _ _ b d c a
def lowM(K:Fg)(r:Z->List Z->Hq->K3->Prop):V->List V->Hp->VK->Prop:=λx xs H Q=>∃w ws G R,Rep K H w x/\Reps K H ws xs/\RH K G H/\r w ws G R/\UpV K H R Q
def lowM.un{K:Fg}{C:Prop}(z:lowM K r x xs H Q)(f:∀w ws G R,(Rep K H w x)->(Reps K H ws xs)->(RH K G H)->(r w ws G R)->(UpV K H R Q)->C):C:=by obtain⟨w,g,G,R,a,d,e,b,c⟩:=z;exact f _ _ _ _ a d e b c
def OpQ(X:Cx)(f:Value->Value->Sem Value)(r:R3):Prop:=OpR X f (low2 X.K r)
def UnQ(X:Cx)(f:Value->Sem Value)(r:Z->Hq->K3->Prop):Prop:=UnR X f (low1 X.K r)
def a14(X:Cx)(f:Value)(r:List Z->Hq->K3->Prop):Prop:=CallR X f (lowC X.K r)
def IxQ(X:Cx)(r:R3):Prop:=IxR X (low2 X.K r)
def MtQ(X:Cx)(id:String)(r:Z->List Z->Hq->K3->Prop):Prop:=MtR X id (lowM X.K r)
def a2P(h:OpR X f r')(i:∀x y H Q,r x y H Q->r' x y H Q):OpR X f r:=λa s σ H x y v u Q I c b q=>h a s σ H x y v u Q I c b (i x y H Q q)
def b9Y(h:UnR X f r')(i:∀x H Q,r x H Q->r' x H Q):UnR X f r:=λa s σ H x v Q I b q=>h a s σ H x v Q I b (i x H Q q)
def a1n(h:CallR X f r')(i:∀xs H Q,r xs H Q->r' xs H Q):CallR X f r:=λa s σ H b d Q I c q=>h a s σ H b d Q I c (i b H Q q)
def b4L(h:IxR X r')(i:∀x y H Q,r x y H Q->r' x y H Q):IxR X r:=λa b c s σ H x y v u Q I e d q=>h a b c s σ H x y v u Q I e d (i x y H Q q)
def a6B{id:String}(h:MtR X id r')(i:∀x xs H Q,r x xs H Q->r' x xs H Q):MtR X id r:=λa s σ H x b v e Q I d c q=>h a s σ H x b v e Q I d c (i x b H Q q)
def uVar(i:Nat):E3:=fun σ G R=>∃w,σ[i]?=some (some w)/\R w G
def uC(w:Z):E3:=λ_ G R=>R w G
section
variable{X:Cx}{e a b c:Expr}{pos:Pos}{ta tb tc:E3}
def b7l(h:PE X e (tVar i)):QE X e (uVar i):=⟨a0X h fun τ H Q ⟨σ,G,R,c,b,⟨w,e,q⟩,d⟩=>by
 obtain⟨v,a,r⟩:=c.get e;exact⟨v,a,d w G v H q r b (.refl _ _)⟩⟩
def a8s(h:PE X e (tC v))(hr:∀H,Rep X.K H w v):QE X e (uC w):=⟨a0X h fun τ H Q b=>b.un fun σ G R d a q c=>c w G v H q (hr H) a (.refl _ _)⟩
def b4M:QE X (.Constant (.int i) j pos) (uC (.int i)):=a8s b6w λ_=>by rw[a0l]
def q_bl{b j pos}:QE X (.Constant (.bool b) j pos) (uC (.bl b)):=a8s b9x λ_=>by rw[a0u]
def b9Z:QE X (.Constant .none j pos) (uC .non):=a8s b6x λ_=>by rw[a0A]
def b7m:QE X (.Constant (.str x) j pos) (uC (.str x)):=a8s b6y λ_=>by rw[a0s]
def b3y(h:PE X e (tC (.int i))):QE X e (uC (.int i)):=a8s h λ_=>by rw[a0l]
def q_ty(h:PE X e (tC (.ty n))):QE X e (uC (.ty n)):=a8s h λ_=>by rw[a9V]
def uOp(r:R3)(ta tb:E3):E3:=fun σ G R=>ta σ G λx G1=>tb σ G1 λy G2=>r x y G2 R
def uUn(r:Z->Hq->K3->Prop)(ta:E3):E3:=fun σ G R=>ta σ G λx G1=>r x G1 R
def a7v{K:Fg}(h:low K (uOp r ta tb) τ H Q):tOp (low2 K r) (low K ta) (low K tb) τ H Q:=by
 obtain⟨σ,G,R,f,k,h,o⟩:=h;refine⟨σ,G,_,f,k,h,λw m v p l i b e=>?_⟩;refine⟨σ,m,_,f.mono e,b,l,λn g q s j d c a=>?_⟩;exact⟨w,n,g,R,i.mono a,d,c,j,o.mono (e.trans a)⟩
def b7n{K:Fg}(h:low K (uUn r ta) τ H Q):tUn (low1 K r) (low K ta) τ H Q:=by
 obtain⟨σ,G,R,d,f,h,c⟩:=h;exact⟨σ,G,_,d,f,h,λw e v j g b a i=>⟨w,e,R,b,a,g,c.mono i⟩⟩
def q_op(ho:OpQ X (fR op) r)(ha:QE X a ta)(hb:QE X b tb):QE X (.BinOp a op b pos) (uOp r ta tb):=⟨a0X (b9H ho ha.p hb.p) λ_ _ _=>a7v⟩
def q_un(ho:UnQ X (iO op) r)(ha:QE X a ta):QE X (.UnaryOp op a pos) (uUn r ta):=⟨a0X (b9I ho ha.p) λ_ _ _=>b7n⟩
def b90(ho:OpQ X (fN op) r)(ha:QE X a ta)(hb:QE X b tb)(hm:g9 op b=false):QE X (.Compare a [op] [b] pos) (uOp r ta tb):=⟨a0X (b4v ho ha.p hb.p hm) λ_ _ _=>a7v⟩
def a9Z(t:E3):T3:=fun σ G R=>t σ G λx G1=>∃k,x=.bl k/\R k G1
def a42{K:Fg}(h:lowT K (a9Z ta) τ H Q):low K ta τ H λx H'=>∃k,x=.bl k/\Q k H':=by
 obtain⟨σ,G,R,g,f,h,i⟩:=h;refine⟨σ,G,_,g,f,h,λw l v j ⟨k,e,c⟩ a b d=>?_⟩;subst e;exact⟨k,a,i _ _ _ c b d⟩
def a1Z(ho:OpQ X (fN op) r)(ha:QE X a ta)(hb:QE X b tb)(hm:g9 op b=false):QT X (.Compare a [op] [b] pos) (a9Z (uOp r ta tb)):=⟨a9X (b4w ho ha.p hb.p hm) λ_ _ _ h=>a7v (a42 h)⟩
def a7w(r r':R3)(ta tb tc:E3):E3:=fun σ G R=>ta σ G λx G1=>tb σ G1 λy G2=>r x y G2 λz G3=>∃k,z=.bl k/\(if k=true then tc σ G3 λw G4=>r' y w G4 R else R (.bl false) G3)
def a5J{K:Fg}(h:low K (a7w r r' ta tb tc) τ H Q):a9s (low2 K r) (low2 K r') (low K ta) (low K tb) (low K tc) τ H Q:=by
 obtain⟨σ,G,R,g,F,h,p⟩:=h;refine⟨σ,G,_,g,F,h,λw A v N q B l a=>?_⟩;refine⟨σ,A,_,g.mono a,l,q,λm y T L s e j b=>?_⟩;refine⟨w,m,y,_,B.mono b,e,j,s,λz x M S ⟨k,t,f⟩ o d c=>?_⟩;subst t;refine⟨k,o,?_⟩;cases k with
 |false=>exact p _ _ _ _ (by simpa using f) (by rw[a0u]) d ((a.trans b).trans c)
 |true=>
  refine⟨σ,x,_,g.mono ((a.trans b).trans c),d,f,λC E J I D u n i=>?_⟩;exact⟨m,C,E,R,e.mono (c.trans i),u,n,D,p.mono (((a.trans b).trans c).trans i)⟩
def b4N(ho:OpQ X (fN op) r)(ho':OpQ X (fN op') r')(ha:QE X a ta)(hb:QE X b tb)(hc:QE X c tc)
  (hm:iP [op,op'] [b,c]=false:=by with_unfolding_all rfl):QE X (.Compare a [op,op'] [b,c] pos) (a7w r r' ta tb tc):=⟨a0X (b1L ho ho' ha.p hb.p hc.p hm) λ_ _ _=>a5J⟩
def b18(ho:OpQ X (fN op) r)(ho':OpQ X (fN op') r')(ha:QE X a ta)(hb:QE X b tb)(hc:QE X c tc)
  (hm:iP [op,op'] [b,c]=false:=by with_unfolding_all rfl):QT X (.Compare a [op,op'] [b,c] pos) (a9Z (a7w r r' ta tb tc)):=⟨a9X (b1M ho ho' ha.p hb.p hc.p hm) λ_ _ _ h=>a5J (a42 h)⟩
def uAnd(t u:T3):T3:=fun σ G R=>t σ G λc G1=>if c=true then u σ G1 R else R false G1
def uOr(t u:T3):T3:=fun σ G R=>t σ G λc G1=>if c=true then R true G1 else u σ G1 R
def uNot(t:T3):T3:=fun σ G R=>t σ G λc G1=>R (!c) G1
variable{t u:T3}{rest:List Expr}
def b3z(ha:QT X a t):QW X (.BoolOp .And [a] pos) t:=⟨b4l ha.p⟩
def b4O(ha:QT X a t):QW X (.BoolOp .Or [a] pos) t:=⟨b6A ha.p⟩
def b7o(ha:QT X a t)(hb:QW X (.BoolOp .And (b::rest) pos) u):QW X (.BoolOp .And (a::b::rest) pos) (uAnd t u):=⟨b7j (b6B ha.p hb.p) fun τ H Q l=>l.un fun σ G R f j h g=>by
 refine⟨σ,G,_,f,j,h,λk i m d c e=>?_⟩;cases k with
 |false=>exact g _ _ _ (by simp_all) c e
 |true=>rw[if_pos rfl]at d ⊢;exact⟨σ,i,R,f.mono e,c,d,g.mono e⟩⟩
def q_or(ha:QT X a t)(hb:QW X (.BoolOp .Or (b::rest) pos) u):QW X (.BoolOp .Or (a::b::rest) pos) (uOr t u):=⟨b7j (b9y ha.p hb.p) fun τ H Q l=>l.un fun σ G R f j h g=>by
 refine⟨σ,G,_,f,j,h,λk i m e c d=>?_⟩;cases k with
 |true=>exact g _ _ _ (by simp_all) c d
 |false=>rw[if_neg (by simp)]at e ⊢;exact⟨σ,i,R,f.mono d,c,e,g.mono d⟩⟩
def b7p(ha:QT X a t):QT X (.UnaryOp .Not a pos) (uNot t):=⟨a9X (b6C ha.p) fun τ H Q g=>g.un fun σ G R d f h i=>
 ⟨σ,G,_,d,f,h,λk j l e b c=>i _ _ _ e b c⟩⟩
def b7q(ta tb:E3):E3:=fun σ G R=>ta σ G λx G1=>∃c,x=.bl c/\if c=true then tb σ G1 R else R (.bl false) G1
def uOrV(ta tb:E3):E3:=fun σ G R=>ta σ G λx G1=>∃c,x=.bl c/\if c=true then R (.bl true) G1 else tb σ G1 R
def b91(ta:E3):E3:=fun σ G R=>ta σ G λx G1=>∃c,x=.bl c/\R (.bl (!c)) G1
def b92(h:QE X a ta):QE X (.BoolOp op [a] pos) ta:=⟨b6D h.p⟩
def b7r(ha:QE X a ta)(hb:QE X (.BoolOp .And (b::rest) pos) tb):QE X (.BoolOp .And (a::b::rest) pos) (b7q ta tb):=⟨a0X (b6E ha.p hb.p) fun τ H Q l=>l.un fun σ G R g j h i=>by
 refine⟨σ,G,_,g,j,h,λx n v o ⟨k,m,e⟩ f c d=>?_⟩;subst m;refine⟨k,f,?_⟩;cases k with
 |false=>exact i _ _ _ _ (by simpa using e) (by rw[a0u]) c d
 |true=>rw[if_pos rfl]at e ⊢;exact⟨σ,n,R,g.mono d,c,e,i.mono d⟩⟩
def b93(ha:QE X a ta)(hb:QE X (.BoolOp .Or (b::rest) pos) tb):QE X (.BoolOp .Or (a::b::rest) pos) (uOrV ta tb):=⟨a0X (b9B ha.p hb.p) fun τ H Q m=>m.un fun σ G R g n h i=>by
 refine⟨σ,G,_,g,n,h,λx j v o ⟨k,l,d⟩ f c e=>?_⟩;subst l;refine⟨k,f,?_⟩;cases k with
 |true=>exact i _ _ _ _ (by simpa using d) (by rw[a0u]) c e
 |false=>rw[if_neg (by simp)]at d ⊢;exact⟨σ,j,R,g.mono e,c,d,i.mono e⟩⟩
def b94(ha:QE X a ta):QE X (.UnaryOp .Not a pos) (b91 ta):=⟨a0X (b6F ha.p) fun τ H Q f=>f.un fun σ G R g d h j=>by
 refine⟨σ,G,_,g,d,h,λx m v n ⟨k,e,i⟩ b c l=>?_⟩;subst e;exact⟨k,b,j _ _ _ _ i (by rw[a0u]) c l⟩⟩
def uIf(t:T3)(ta tb:E3):E3:=fun σ G R=>t σ G λc G1=>if c=true then ta σ G1 R else tb σ G1 R
def q_if(hc:QT X c t)(ha:QE X a ta)(hb:QE X b tb):QE X (.IfExp c a b pos) (uIf t ta tb):=⟨a0X (b1H hc.p ha.p hb.p) fun τ H Q l=>l.un fun σ G R g m h j=>by
 refine⟨σ,G,_,g,m,h,λk i n e f d=>?_⟩;cases k with
 |true=>rw[if_pos rfl]at e ⊢;exact⟨σ,i,R,g.mono d,f,e,j.mono d⟩
 |false=>rw[if_neg (by simp)]at e ⊢;exact⟨σ,i,R,g.mono d,f,e,j.mono d⟩⟩
def tru:Z->Hq->(Bool->Hq->Prop)->Prop
 |.non,G,R=>R false G
 |.bl b,G,R=>R b G
 |.int i,G,R=>R (i != 0) G
 |.str y,G,R=>y.length<=fH/\R ((y.length:Int) != 0) G
 |.tup ws,G,R=>R (!ws.isEmpty) G
 |.scr _ ns,G,R=>R (!ns.isEmpty) G
 |.ref p,G,R=>(∃ws,G p=some (.lst ws)/\R (!ws.isEmpty) G)\/∃kvs,G p=some (.dK kvs)/\R (!kvs.isEmpty) G
 |.ty _,_,_=>False
def uTru(ta:E3):T3:=fun σ G R=>ta σ G λx G1=>tru x G1 R
def a1o{α β:Type}{a:List α}{b:List β}(h:a.length=b.length):a.isEmpty=b.isEmpty:=by
 cases a<;>cases b<;>simp_all
def b4P{K:Fg}(h:tru w G R)(r:Rep K H w v)(hg:RH K G H)(up:UpB K H R Q):∃k,TruV K v H k/\Q k H:=by
 cases w with
 |non=>rw[a0A]at r;subst r;exact⟨_,rfl,up _ _ _ h hg (.refl _ _)⟩
 |bl b=>rw[a0u]at r;subst r;exact⟨_,rfl,up _ _ _ h hg (.refl _ _)⟩
 |int i=>rw[a0l]at r;subst r;exact⟨_,rfl,up _ _ _ h hg (.refl _ _)⟩
 |str y=>rw[a0s]at r;subst r;exact⟨_,⟨h.1,rfl⟩,up _ _ _ h.2 hg (.refl _ _)⟩
 |ty n=>exact aH h
 |scr a ns=>rw[a2O]at r;obtain⟨rfl,f⟩:=r;exact⟨!ns.isEmpty,.inl ⟨_,f.sq,by rw[a1o (aB ..).symm]⟩,up _ _ _ h hg (.refl _ _)⟩
 |tup ws=>
  obtain⟨a,d,rfl,e,c⟩:=r;exact⟨!ws.isEmpty,.inr (.inl ⟨d,SqT.of e,by rw[a1o c.length]⟩),up _ _ _ h hg (.refl _ _)⟩
 |ref p=>
  subst r;rcases h with ⟨ws,e,h⟩ |⟨kvs,e,h⟩
  ·obtain⟨d,g,c⟩:=hg p _ e;exact⟨_,.inl ⟨d,SqL.of g,by rw[<- a1o c.length]⟩,up _ _ _ h hg (.refl _ _)⟩
  ·obtain⟨j,g,l,c⟩:=hg p _ e;exact⟨_,.inr (.inr ⟨j,g,by rw[a1o (show kvs.length=j.length by rw[<- aB,c.length,aB])]⟩),up _ _ _ h hg (.refl _ _)⟩
def b7s(ha:QE X a ta)(he:∀whole,isTrue a X.env whole=(do let v <- whole;gx a.pos;f6 [v] (truthy v))):QT X a (uTru ta):=⟨a9X (b1N ha.p he) fun τ H Q i=>i.un fun σ G R d f h j=>
 ⟨σ,G,_,d,f,h,λw k v l e g b c=>b4P e g b (j.mono c)⟩⟩
def b95(ha:QE X a ta)(he:∀whole,isTrue a X.env whole=(do let v <- whole;gx a.pos;f6 [v] (truthy v)):=by intro _;rfl):QT X a (a9Z ta):=⟨a9X (b6z ha.p he) λ_ _ _ h=>a42 h⟩
end
section
variable{env:Env}{es:List Expr}{pos:Pos}
def b7t:(backTo pos (fL [] env)).any (·.1)=false:=rfl
def b4Q(h:fL (e::es) env=(false,eval e env)::fL es env)(r:(backTo pos (fL es env)).any (·.1)=false):(backTo pos (fL (e::es) env)).any (·.1)=false:=by
 rw[h]
 show (false||(backTo pos _).any _)=false
 rw[r];rfl
end
section
variable{X:Cx}{e a b:Expr}{es:List Expr}{pos p2:Pos}{te ta tb:E3}{t:A3}
def q_ix(hr:IxQ X r)(ha:QE X a ta)(hb:QE X b tb)(hs:a9H b):QE X (.Subscript a b pos) (uOp r ta tb):=⟨a0X (b9S hr ha.p hb.p hs) λ_ _ _=>a7v⟩
abbrev O3:=S3->Hq->(Option Int->Hq->Prop)->Prop
def a90:O3:=λ_ G R=>R none G
def b7u(t:E3):O3:=fun σ G R=>t σ G λx G1=>∃i,x=.int i/\R (some i) G1
def lowO(K:Fg)(t:O3):TO:=fun τ H Q=>∃σ G R,RSt K H σ τ/\RH K G H/\t σ G R/\∀o G' H',R o G'->RH K G' H'->TK K H H'->Q o H'
def lowO.un{K:Fg}{t:O3}{C:Prop}(z:lowO K t τ H Q)(f:∀σ G R,(RSt K H σ τ)->(RH K G H)->(t σ G R)->(∀o G' H',R o G'->RH K G' H'->TK K H H'->Q o H')->C):C:=by obtain⟨σ,G,R,d,b,c,a⟩:=z;exact f _ _ _ d b c a
def QO(X:Cx)(e:Option Expr)(t:O3):Prop:=PO X e (lowO X.K t)
def b19:QO X none a90:=by rintro a s τ H Q I ⟨σ,G,R,d,c,h,b⟩;exact b4F a s τ H Q I (b _ _ _ h c (.refl _ _))
def b7v(h:QE X e te):QO X (some e) (b7u te):=by rintro a s τ H Q I ⟨σ,G,R,f,k,q,l⟩;exact b4G h.p a s τ H Q I ⟨σ,G,_,f,k,q,by
 rintro w n v m ⟨i,g,d⟩ b c j;subst g;exact⟨i,b,l _ _ _ d c j⟩⟩
abbrev L3r:=Z->Option Int->Option Int->Hq->K3->Prop
def lowL(K:Fg)(r:L3r):V->Option Int->Option Int->Hp->VK->Prop:=λx lo hi H Q=>∃w G R,Rep K H w x/\RH K G H/\r w lo hi G R/\UpV K H R Q
def lowL.un{K:Fg}{lo hi:Option Int}{C:Prop}(z:lowL K r x lo hi H Q)(f:∀w G R,(Rep K H w x)->(RH K G H)->(r w lo hi G R)->(UpV K H R Q)->C):C:=by obtain⟨w,G,R,a,d,b,c⟩:=z;exact f _ _ _ a d b c
def SlQ(X:Cx)(r:L3r):Prop:=SlR X (lowL X.K r)
def b96(h:SlR X r')(i:∀x lo hi H Q,r x lo hi H Q->r' x lo hi H Q):SlR X r:=λa s σ H x v l b j f d Q I c e g k q=>h a s σ H x v l b j f d Q I c e g k (i _ _ _ _ _ q)
def uSl(r:L3r)(te:E3)(tl th:O3):E3:=fun σ G R=>te σ G λx G1=>tl σ G1 λl G2=>th σ G2 λu G3=>r x l u G3 R
def b4R{lo hi:Option Expr}(hr:SlQ X r)(he:QE X e te)(hl:QO X lo tl)(hu:QO X hi th):QE X (.Subscript e (.Slice lo hi none p2) pos) (uSl r te tl th):=⟨a0X (b1V hr he.p hl hu) fun τ H Q q=>q.un fun σ G R c k h y=>
 ⟨σ,G,_,c,k,h,λw m v z j t f b=>⟨σ,m,_,c.mono b,f,j,λl o A s d a=>⟨σ,o,_,c.mono (b.trans a),d,s,λu x B n i g=>
  ⟨w,x,R,t.mono (a.trans g),i,n,y.mono ((b.trans a).trans g)⟩⟩⟩⟩⟩
def uNil:A3:=λ_ G R=>R [] G
def b4S(ta:E3)(tr:A3):A3:=fun σ G R=>ta σ G λx G1=>tr σ G1 λxs G2=>R (x::xs) G2
def a0z:QA X [] uNil:=⟨b7k b3v fun τ H Q b=>b.un fun σ G R d a h c=>c _ _ _ _ h .nil a (.refl _ _)⟩
def b7w(ha:QE X e te)(hr:QA X es t)(hs:fL (e::es) X.env=(false,eval e X.env)::fL es X.env):QA X (e::es) (b4S te t):=⟨b7k (a9A ha.p hr.p hs) fun τ H Q i=>i.un fun σ G R hs l h o=>
 ⟨σ,G,_,hs,l,h,λw j v H1 g m f d=>⟨σ,j,_,hs.mono d,f,g,λws G2 vs H2 n k c b=>o _ _ _ _ n (.cons (m.mono b) k) c (d.trans b)⟩⟩⟩
def uTup(t:A3):E3:=fun σ G R=>t σ G λxs G1=>xs.length<=fH/\R (.tup xs) G1
def uLst(t:A3):E3:=fun σ G R=>t σ G λxs G1=>xs.length<=fH/\∀p,G1 p=none->R (.ref p) (put G1 p (.lst xs))
def a8t(h:QA X es t):QE X (.Tuple es x1 pos) (uTup t):=⟨a0X (b62 h.p) fun τ H Q k=>k.un fun σ G R f j h d=>
 ⟨σ,G,_,f,j,h,by rintro o m l n ⟨i,g⟩ b c e;exact⟨by rw[<- b.length];exact i,λp a=>d _ _ _ _ g (by rw[a1D];exact⟨p,l,rfl,a0j,b.mono (.new a)⟩) (c.hid a) (e.trans (.new a))⟩⟩⟩
def a1p{K:Fg}(r:Reps K H ws vs)(t:TK K H (upd H p (.lst vs))):ROb K (upd H p (.lst vs)) p (.lst ws):=⟨vs,a0j,r.mono t⟩
def b7x(h:QA X es t):QE X (.List es pos) (uLst t):=⟨a0X (b63 h.p) fun τ H Q g=>g.un fun σ G R d k h i=>
 ⟨σ,G,_,d,k,h,by rintro m l o n ⟨f,e⟩ c b j;exact⟨by rw[<- c.length];exact f,λp a=>i _ _ _ _ (e p (b.out a)) (by rw[a0x]) (b.set (.new a) (a1p c (.new a))) (j.trans (.new a))⟩⟩⟩
def uCB(r:List Z->Hq->K3->Prop)(t:A3):E3:=fun σ G R=>t σ G λws G1=>r ws G1 R
def b3A{K:Fg}(h:low K (uCB r t) τ H Q):tCB (lowC K r) (lowA K t) τ H Q:=by
 obtain⟨σ,G,R,e,j,h,i⟩:=h;exact⟨σ,G,_,e,j,h,λc g k l f b a d=>⟨c,g,R,b,a,f,i.mono d⟩⟩
variable{x:Str}{p:Pos}{id T:String}{r:List Z->Hq->K3->Prop}
def b4T(hc:a14 X (.builtin id) r)(hg:Gl X x)(hm:X.mg x=none)(hv:gc x=some (.builtin id))(ha:QA X (e::es) t)(hn:x≠"__name__")(hdb:(x==("__debug__":Str))=false)
  (he:fL (e::es) X.env=(false,eval e X.env)::fL es X.env) (hpl:(backTo pos (fL es X.env)).any (·.1)=false):QE X (.Call (.Name x p) (e::es) [] pos) (uCB r t):=⟨a0X (a7r hc hg hm hv ha.p hn hdb he hpl) λ_ _ _=>b3A⟩
def b2a(hc:a14 X (.type T) r)(hg:Gl X x)(hm:X.mg x=none)(hv:gc x=some (.type T))(ha:QA X (e::es) t)(hn:x≠"__name__")(hdb:(x==("__debug__":Str))=false)
  (he:fL (e::es) X.env=(false,eval e X.env)::fL es X.env) (hpl:(backTo pos (fL es X.env)).any (·.1)=false):QE X (.Call (.Name x p) (e::es) [] pos) (uCB r t):=⟨a0X (a5G hc hg hm hv ha.p hn hdb he hpl) λ_ _ _=>b3A⟩
def tyZ(T:String)(x:Z)(G:Hq):Prop:=match x with
 |.str _=>T="str"
 |.int _=>T="int"
 |.ref p=>(T="list"/\∃ws,G p=some (.lst ws))\/(T="dict"/\∃kvs,G p=some (.dK kvs)\/G p=some (.dF kvs))
 |.scr _ _=>T="list"
 |_=>False
def b4U{K:Fg}(h:tyZ T w G)(r:Rep K H w v)(hg:RH K G H):tyV K T v H:=by
 cases w with
 |str y=>rw[a0s]at r;subst r;exact h
 |int y=>rw[a0l]at r;subst r;exact h
 |ref q=>
  subst r;rcases h with ⟨e,ws,g⟩ |⟨e,kvs,g⟩
  ·obtain⟨b,a,_⟩:=hg q _ g;exact .inl ⟨e,b,SqL.of a⟩
  ·rcases g with g |g
   ·obtain⟨b,a,_⟩:=hg q _ g;exact .inr (.inr (.inl ⟨e,.inl ⟨b,a⟩⟩))
   ·obtain⟨c,b,a,_⟩:=hg q _ g;exact .inr (.inr (.inl ⟨e,.inr (.inr ⟨c,b,a⟩)⟩))
 |scr q ns=>rw[a2O]at r;obtain⟨rfl,f⟩:=r;exact .inl ⟨h,_,f.sq⟩
 |_=>exact aH h
def uBM(T:String)(r:Z->List Z->Hq->K3->Prop)(to:E3)(t:A3):E3:=fun σ G R=>to σ G λx G1=>tyZ T x G1/\t σ G1 λxs G2=>r x xs G2 R
variable{o:Expr}{to:E3}{name:Str}{apos cpos:Pos}{rm:Z->List Z->Hq->K3->Prop}
def q_bm(pa:PlainAttrs T)(slot:Slot T name id)(hty:typeOf (.builtin id)=pure (.type "method_descriptor"))(hm:MtQ X id rm)(ho:QE X o to)(ha:QA X (e::es) t)
  (hbase:iB o name X.env (eval o X.env)=eval o X.env:=by rfl)
  (hfew:((backTo cpos (fL (e::es) X.env)).all (λx=>!x.1)&&(gZ cpos (g0 [] X.env)).all (λx=>x.1.isSome)
   && decide ((e::es).length+([]:List iC).length+(if ([]:List iC).isEmpty then 0 else 1)<30))=true:=by rfl)
  (hline:(apos.endLine==cpos.line)=true:=by rfl) (hs:fL (e::es) X.env=(false,eval e X.env)::fL es X.env:=by rfl) (hplain:(backTo cpos (fL es X.env)).any (·.1)=false:=by rfl) :
  QE X (.Call (.Attribute o name apos) (e::es) [] cpos) (uBM T rm to t):=⟨a0X (b9U pa slot hty hm ho.p ha.p hbase hfew hline hs hplain) fun τ H Q q=>q.un fun σ G R hs r h u=>
  ⟨σ,G,_,hs,r,h,by rintro w j v H1 ⟨m,n⟩ d a g;exact⟨b4U m d a,σ,j,_,hs.mono g,a,n,λs i vs H2 k l f c=>⟨w,s,i,R,d.mono c,l,f,k,u.mono (g.trans c)⟩⟩⟩⟩
abbrev P3:=List Z->Hq->K3->Prop
def lowP(K:Fg)(sp:P3):Sp:=λvs H Q _=>lowC K sp vs H Q
def b4V(sp:P3)(t:A3):E3:=fun σ G R=>t σ G λws G1=>sp ws G1 R
variable{k:Nat}{f:Addr}{fd:f8}{ps:List Str}{sp:P3}
def b7y(F:FnOk X.prog X.w X.K X.mg X.base CX0 k f fd ps (lowP X.K sp))(hr:Room k X.A)(hg:Gl X x)(hm:X.mg x=some (.ref f))(hk:PySem.W.keepIn X.K (.ref f)=true)(hb:Binds X.K fd ps [])(ha:QA X (e::es) t)
  (hdb:(x==("__debug__":Str))=false) (he:fL (e::es) X.env=(false,eval e X.env)::fL es X.env) (hpl:(backTo pos (fL es X.env)).any (·.1)=false) :
  QE X (.Call (.Name x p) (e::es) [] pos) (b4V sp t):=⟨a0X (b4C F hr hg hm hk hb .nil b1Z ha.p hdb he hpl) fun τ H Q d=>d.un fun σ G R i hg h m=>⟨σ,G,_,i,hg,h,λc j vs H1 l g b n=>⟨c,j,R,by rw[bj];exact g,b,l,m.mono n⟩⟩⟩
end
section
variable{X:Cx}{e c tg:Expr}{st:Stmt}{rest sa sb:List Stmt}{pos:Pos}{te:E3}{t u:X3}{tc:T3}
def b4W:X3:=λnx _ _ _ σ G=>nx σ G
def uSeq(t u:X3):X3:=λnx rt bk ct σ G=>t (u nx rt bk ct) rt bk ct σ G
def a3c:QSs X [] b4W:=⟨a9Y b4m λD τ H a=>a.un fun σ G g e k f d b h c i j l=>c _ _ _ _ h d b (.refl _ _)⟩
def a0c(h1:QS X st t)(h2:QSs X rest u):QSs X (st::rest) (uSeq t u):=⟨a9Y (a7n h1.p h2.p) λD τ H q=>q.un fun σ G k j c e l o h n d b g=>
 ⟨σ,G,_,j,c,e,l,o,h,fun σ' r τ' s m f i a=>⟨σ',r,k,j,c,e,f,i,m,n.mono a,d.mono a,b.mono a,g.mono a⟩,d,b,g⟩⟩
def a0B(h1:QS X st t):QSs X [st] t:=⟨b4n h1.p⟩
def uCut(t u:X3):X3:=λnx rt bk ct σ G=>∃M:C3,t M rt bk ct σ G/\∀σ' G',M σ' G'->u nx rt bk ct σ' G'
def a6C(h1:QS X st t)(h2:QSs X rest u):QSs X (st::rest) (uCut t u):=⟨a9Y (a7n h1.p h2.p) λD τ H v=>v.un fun σ G n d j b q m l s g e i=>by
 obtain⟨M,h,k⟩:=l;exact⟨σ,G,M,d,j,b,q,m,h,fun σ' o τ' w r f c a=>⟨σ',o,n,d,j,b,f,c,k _ _ r,s.mono a,g.mono a,e.mono a,i.mono a⟩,g,e,i⟩⟩
def b7z:X3:=λ_ _ bk _ σ G=>bk σ G
def b97:X3:=λ_ _ _ ct σ G=>ct σ G
def b7A:QS X (.Pass pos) b4W:=⟨a1Y b4o λD τ H d=>d.un fun σ G e g i l a b h c k j f=>c _ _ _ _ h a b (.refl _ _)⟩
def b4X:QS X (.Break pos) b7z:=⟨a1Y b1I λD τ H a=>a.un fun σ G f i e g b d h j l c k=>c _ _ _ _ h b d (.refl _ _)⟩
def b7B:QS X (.Continue pos) b97:=⟨a1Y a6v λD τ H c=>c.un fun σ G e g i l a b h f k j d=>d _ _ _ _ h a b (.refl _ _)⟩
def b7C:X3:=λ_ _ _ _ _ _=>False
def a43:QS X st b7C:=⟨by rintro _ _ _ _ _ _ ⟨_,_,_,_,_,_,_,_,h,_⟩;exact h.elim⟩
def b7D(te:E3):X3:=λnx _ _ _ σ G=>te σ G λ_ G1=>nx σ G1
def a26(he:QE X e te)(hs:gI e none pos.line X.env=pure false:=by rfl):QS X (.Expr e pos) (b7D te):=⟨a1Y (b4p he.p hs) λD τ H i=>i.un fun σ G nx rt bk ct hs g h f u2 u3 u4=>
 ⟨σ,G,_,hs,g,h,λw G1 v H1 d rv c b=>f _ _ _ _ d (hs.mono b) c b⟩⟩
def uRet(te:E3):X3:=λ_ rt _ _ σ G=>te σ G rt
def a1F(he:QE X e te):QS X (.Return (some e) pos) (uRet te):=⟨a1Y (b6I he.p) λD τ H c=>c.un fun σ G f j k m a b h g d l i=>⟨σ,G,_,a,b,h,d⟩⟩
def b98:X3:=λ_ rt _ _ _ G=>rt .non G
def b7E:QS X (.Return none pos) b98:=⟨a1Y b4q λD τ H b=>b.un fun σ G e j d l g a h k c f i=>c _ _ _ _ h (by rw[a0A]) a (.refl _ _)⟩
def uIfS(c:T3)(t u:X3):X3:=λnx rt bk ct σ G=>c σ G λb G1=>if b=true then t nx rt bk ct σ G1 else u nx rt bk ct σ G1
def z_if(hc:QT X c tc)(ha:QSs X sa t)(hb:QSs X sb u):QS X (.If c sa sb pos) (uIfS tc t u):=⟨a1Y (b9F hc.p ha.p hb.p) λD τ H s=>s.un fun σ G l g k m f r h n q j i=>by
 refine⟨σ,G,_,f,r,h,λb o v d e a=>?_⟩;cases b with
 |true=>rw[if_pos rfl]at d ⊢;exact⟨σ,o,l,g,k,m,f.mono a,e,d,n.mono a,q.mono a,j.mono a,i.mono a⟩
 |false=>rw[if_neg (by simp)]at d ⊢;exact⟨σ,o,l,g,k,m,f.mono a,e,d,n.mono a,q.mono a,j.mono a,i.mono a⟩⟩
def b7F(c:T3)(tb:X3):X3:=λnx rt _ _ σ G=>∃I:Nat->S3->Hq->Prop,(∃m,I m σ G)/\∀m σ G,I m σ G ->
 c σ G λb G1=>if b=true then tb (fun σ' G'=>∃m',m'<m/\I m' σ' G') rt nx (fun σ' G'=>∃m',m'<m/\I m' σ' G') σ G1 else nx σ G1
def b4Y(hp:fW (model X.prog X.w) X.A X.env X.xe)(hc:QT X c tc)(hb:QSs X sb t):QS X (.While c sb [] pos) (b7F tc t):=⟨a1Y (b1K hp hc.p hb.p) λD τ H L=>L.un fun σ G C R Y T F J B v Q W V=>by
 obtain⟨I,⟨y,E⟩,l⟩:=B;refine⟨λm τ' i=>∃σ' G',RSt X.K i σ' τ'/\RH X.K G' i/\TK X.K H i/\I m σ' G',⟨y,σ,G,F,J,.refl _ _,E⟩,?_⟩;rintro m τ' S ⟨σ1,u,g,x,f,M⟩;refine⟨σ1,u,_,g,x,l m σ1 u M,λb z U j k a=>?_⟩;cases b with
 |false=>rw[if_neg (by simp)]at j ⊢;exact v _ _ _ _ j (g.mono a) k (f.trans a)
 |true=>
  refine⟨_,fun σ' i h=>h,σ1,z,_,R,C,_,g.mono a,k,j,?_,Q.mono (f.trans a),v.mono (f.trans a),?_⟩
  ·rintro σ3 s τ3 N ⟨o,n,r⟩ d e q;exact⟨o,n,σ3,s,d,e,(f.trans a).trans q,r⟩
  ·rintro σ3 s τ3 N ⟨o,n,r⟩ d e q;exact⟨o,n,σ3,s,d,e,(f.trans a).trans q,r⟩⟩
inductive Pt where
 |nm (i:Nat)
 |tp (is:List Nat)
def gsOf:List Nat->TGs
 |[]=>gNil
 |i::is=>b6J (a9h i) (gsOf is)
def gP(K:Fg):Pt->TG
 |.nm i=>a9h i
 |.tp is=>gTup K is.length (gsOf is)
noncomputable def sets:List Nat->List Z->S3->S3
 |i::is,w::ws,σ=>sets is ws (σ.set i (some w))
 |_,_,σ=>σ
noncomputable def a3H:Pt->Z->S3->Option S3
 |.nm i,w,σ=>some (σ.set i (some w))
 |.tp is,.tup ws,σ=>if ws.length=is.length then some (sets is ws σ) else none
 |_,_,_=>none
noncomputable def Pt.slots:Pt->List Nat
 |.nm i=>[i]
 |.tp is=>is
noncomputable def a3d:List Nat->List V->L2.St->L2.St
 |i::is,w::ws,σ=>a3d is ws (σ.set i (some w))
 |_,_,σ=>σ
theorem a91:∀{is:List Nat}{vs:List V}{τ:L2.St},vs.length=is.length->Q (a3d is vs τ) H->gsOf is vs τ H Q
 |[],[],_,_,q=>⟨rfl,q⟩
 |i::is,v::vs,τ,h,q=>⟨v,vs,rfl,a91 (by simpa using h) q⟩
 |[],_::_,_,h,_=>by simp at h
 |_::_,[],_,h,_=>by simp at h
theorem a5K{K:Fg}:∀{is:List Nat}{ws:List Z}{vs:List V}{σ:S3}{τ:L2.St},Reps K H ws vs->RSt K H σ τ->RSt K H (sets is ws σ) (a3d is vs τ)
 |[],ws,vs,σ,τ,_,h=>by unfold sets a3d;exact h
 |i::is,[],vs,σ,τ,r,h=>by rw[a0m]at r;subst r;exact h
 |i::is,w::ws,vs,σ,τ,r,h=>by
  obtain⟨v,c,rfl,a,b⟩:=r;exact a5K (is:=is) b (h.set a i)
theorem a4C:∀{is:List Nat}{vs:List V}{τ:L2.St}{j:Nat},j∉is->(a3d is vs τ)[j]?=τ[j]?
 |[],_,_,_,_=>by unfold a3d;rfl
 |i::is,[],_,_,_=>by unfold a3d;rfl
 |i::is,v::vs,τ,j,h=>by
  have b:j≠i:=λz=>h (z▸b5 ..)
  show (a3d is vs _)[j]?=τ[j]?
  rw[a4C (λz=>h (bU _ z)),di (Ne.symm b)]
theorem a27:∀{is:List Nat}{vs:List V}{τ:L2.St},(a3d is vs τ).length=τ.length
 |[],_,_=>by unfold a3d;rfl
 |i::is,[],_=>by unfold a3d;rfl
 |i::is,v::vs,τ=>by
  show (a3d is vs _).length=τ.length
  rw[a27,List.length_set]
def b4Z{K:Fg}(r:Rep K H w v)(hs:RSt K H σ τ)(hb:a3H pt w σ=some σ')
  (q:∀τ',RSt K H σ' τ'->τ'.length=τ.length->(∀j,j∉pt.slots->τ'[j]?=τ[j]?)->Q τ' H):gP K pt v τ H Q:=by
 cases pt with
 |nm i=>
  cases hb;exact q _ (hs.set r i) (by simp) λj d=>by rw[di];intro z;exact d (z▸b5 ..)
 |tp is=>
  cases w with
  |tup ws=>
   obtain⟨a,f,rfl,e,c⟩:=r;have b:(if ws.length=is.length then some _ else none)=some σ':=hb
   by_cases hl:ws.length=is.length
   ·rw[if_pos hl]at b;cases b;exact⟨a,f,rfl,SqT.of e,by rw[<- c.length];exact hl,a91 (c.length▸hl) (q _ (a5K c hs) a27 λj d=>a4C d)⟩
   ·simp_all
  |_=>cases hb
def QP(X:Cx)(tg:Expr)(pt:Pt):Prop:=PG X tg (gP X.K pt)
def uAsg(te:E3)(pt:Pt):X3:=λnx _ _ _ σ G=>te σ G λx G1=>∃σ',a3H pt x σ=some σ'/\nx σ' G1
def a6D{K:Fg}(h:lowS K (uAsg te pt) D τ H):tAsg (low K te) (gP K pt) D τ H:=by
 obtain⟨σ,G,p,s,k,l,b,e,h,j,r,m,n⟩:=h;exact⟨σ,G,_,b,e,h,by rintro w o v q ⟨σ',g,i⟩ f c d;exact b4Z f (b.mono d) g fun τ' a _ _=>j _ _ _ _ i a c d⟩
def b99(hN:X.N.Nodup)(hi:X.N[i]?=some x)(hx:Loc X.env.scope x)(he:QE X e te)(hs:gI e (some (.Name x pos')) pos.line X.env=pure false)(hf:X.fn x=true\/X.env.scope.names.lookup x=some .local) :
  QS X (.Assign [.Name x pos'] e pos) (uAsg te (.nm i)):=⟨a1Y (b6M hN hi hx he.p hs hf) λ_ _ _=>a6D⟩
def b7G(he:QE X e te)(hg:QP X tg pt)(hs:jd [tg] e pos.line X.env=pure false:=by rfl)(hw:je [tg] e X.env=pure none:=by rfl)
  (h1:(gC [tg] X.env).map (·.2)=[assign tg X.env]:=by rfl):QS X (.Assign [tg] e pos) (uAsg te pt):=⟨a1Y (b3u he.p hg hs hw h1) λ_ _ _=>a6D⟩
abbrev Z3:=Z->Z->Z->Hq->(Hq->Prop)->Prop
def lowZ(K:Fg)(r:Z3):TSet:=λo i v H Q=>∃a b w G R,Rep K H a o/\Rep K H b i/\Rep K H w v/\RH K G H/\r a b w G R/\∀G' H',R G'->RH K G' H'->TK K H H'->Q H'
def lowZ.un{K:Fg}{C:Prop}(z:lowZ K r o i v H Q)(f:∀a b w G R,(Rep K H a o)->(Rep K H b i)->(Rep K H w v)->(RH K G H)->(r a b w G R)->(∀G' H',R G'->RH K G' H'->TK K H H'->Q H')->C):C:=by obtain⟨a,b,w,G,R,d,j,e,g,c,h⟩:=z;exact f _ _ _ _ _ d j e g c h
def SetQ(X:Cx)(r:Z3):Prop:=PSet X (lowZ X.K r)
def b3B(h:PSet X r')(i:∀o j v H Q,r o j v H Q->r' o j v H Q):PSet X r:=λa s σ H o j v c f u Q I b d e q=>h a s σ H o j v c f u Q I b d e (i _ _ _ _ _ q)
def uPut(te to ti:E3)(r:Z3):X3:=λnx _ _ _ σ G=>te σ G λw G1=>to σ G1 λo G2=>ti σ G2 λi G3=>r o i w G3 λG4=>nx σ G4
def c0a(h:PS X st (tAsg (low X.K te) (gSub (low X.K to) (low X.K ti) (lowZ X.K r)))):QS X st (uPut te to ti r):=⟨a1Y h λD τ H z=>z.un fun σ G Q I J N a s h B T V C=>
 ⟨σ,G,_,a,s,h,λw m v U o t e d=>⟨σ,m,_,a.mono d,e,o,λx u R S n i l c=>⟨σ,u,_,a.mono (d.trans c),l,n,λy A M F q g k b=>
  ⟨x,y,w,A,_,i.mono b,g,t.mono (c.trans b),k,q,λE L p j f=>B _ _ _ _ p (a.mono (((d.trans c).trans b).trans f)) j (((d.trans c).trans b).trans f)⟩⟩⟩⟩⟩
def b3C(he:QE X e te)(ho:QE X o to)(hi:QE X i ti)(hr:SetQ X r)(hs:jd [.Subscript o i p'] e pos.line X.env=pure false:=by rfl)(hw:je [.Subscript o i p'] e X.env=pure none:=by rfl)
  (h1:(gC [.Subscript o i p'] X.env).map (·.2)=[assign (.Subscript o i p') X.env]:=by rfl) (ha:∀v,assign (.Subscript o i p') X.env v=(do
   let ov <- f6 [v] (eval o X.env)
   let iv <- f6 [v,ov] (eval i X.env)
   gx p'
   f6 [v,ov,iv] (iN ov iv v)
   release [v,ov,iv] []):=by intro _;rfl):QS X (.Assign [.Subscript o i p'] e pos) (uPut te to ti r):=c0a (b3u he.p (b6L ho.p hi.p hr ha) hs hw h1)
def uAug(i:Nat)(te:E3)(r:R3):X3:=λnx _ _ _ σ G=>∃x,σ[i]?=some (some x)/\te σ G λy G1=>r x y G1 λz G2=>nx (σ.set i (some z)) G2
def c0b(h:PS X st (tAug i (low X.K te) (low2 X.K r))):QS X st (uAug i te r):=⟨a1Y h λD τ H q=>q.un fun σ G y L C u a s k t A B M=>by
 obtain⟨x,p,h⟩:=k;obtain⟨v,n,o⟩:=a.get p;exact⟨v,n,σ,G,_,a,s,h,λw m N z j c g b=>⟨x,w,m,_,o.mono b,c,g,j,λF I J E l d e f=>t _ _ _ _ l ((a.mono (b.trans f)).set d i) e (b.trans f)⟩⟩⟩
def b7H(hN:X.N.Nodup)(hi:X.N[i]?=some x)(hx:Loc X.env.scope x)(he:QE X e te)(ho:OpQ X (gK op) r)(hf:X.fn x=true\/X.env.scope.names.lookup x=some .local) :
  QS X (.AugAssign (.Name x pos') op e pos) (uAug i te r):=c0b (b6N hN hi hx he.p ho hf)
end
abbrev I3:=S3->Hq->(List Z->(Hq->Prop)->Hq->Prop)->Prop
def a4i(K:Fg)(ws:List Z)(ok:Hq->Prop)(J:It)(H0:Hp):Prop:=∀i G H,RH K G H->TK K H0 H->ok G->i<=ws.length ->
 (i=ws.length->J.stop i H)/\∀w,ws[i]?=some w->J.go i H/\∀x H',J.yld i H x H'->Rep K H' w x/\RH K G H'/\TK K H H'
def lowI(K:Fg)(wi:I3):TI:=fun τ H R2=>∃σ G R,RSt K H σ τ/\RH K G H/\wi σ G R/\∀ws ok G' J H',R ws ok G'->a4i K ws ok J H'->RH K G' H'->TK K H H'->R2 J H'
def lowI.un{K:Fg}{R2:It->Hp->Prop}{C:Prop}(z:lowI K wi τ H R2)(f:∀σ G R,(RSt K H σ τ)->(RH K G H)->(wi σ G R)->(∀ws ok G' J H',R ws ok G'->a4i K ws ok J H'->RH K G' H'->TK K H H'->R2 J H')->C):C:=by obtain⟨σ,G,R,d,b,c,a⟩:=z;exact f _ _ _ d b c a
def QI(X:Cx)(tg iter:Expr)(wi:I3):Prop:=PI X tg iter (lowI X.K wi)
def a5L(h:PI X tg iter wi')(i:∀σ H R,wi σ H R->wi' σ H R):PI X tg iter wi:=λa s σ H R I q=>h a s σ H R I (i σ H R q)
def FORB(ws:List Z)(ok:Hq->Prop)(pt:Pt)(tb:X3)(nx:C3)(rt:K3)(σ:S3)(G1:Hq):Prop:=∃I:Nat->S3->Hq->Prop,I 0 σ G1/\(∀i σ G,i<=ws.length->I i σ G->ok G) /\
 (∀i x σ G,ws[i]?=some x->I i σ G->∃σ',a3H pt x σ=some σ'/\tb (I (i+1)) rt nx (I (i+1)) σ' G)/\∀σ G,I ws.length σ G->nx σ G
def uFor(wi:I3)(pt:Pt)(tb:X3):X3:=λnx rt _ _ σ G=>wi σ G λws ok G1=>FORB ws ok pt tb nx rt σ G1
def a0P(I:Nat->S3->Hq->Prop)(h0:I 0 σ G)(hok:∀i σ G,i<=ws.length->I i σ G->ok G)
  (step:∀i x σ G,ws[i]?=some x->I i σ G->∃σ',a3H pt x σ=some σ'/\tb (I (i+1)) rt nx (I (i+1)) σ' G) (fin:∀σ G,I ws.length σ G->nx σ G):FORB ws ok pt tb nx rt σ G:=⟨I,h0,hok,step,fin⟩
def a15(hp:fW (model X.prog X.w) X.A X.env X.xe)(hc:X.calm=true)(hi:QI X tg iter wi)(hg:QP X tg pt)(hb:QSs X sb t)
  (hs:∀x,gM iter X.env x=pure x:=by intro _;rfl):QS X (.For tg iter sb [] pos) (uFor wi pt t):=⟨a1Y (b6S hp hc hi hg hb.p hs) λD τ H U=>U.un fun σ G nx rt bk ct hs hg h R u2 u3 u4=>by
 refine⟨σ,G,_,hs,hg,h,?_⟩;rintro b ok G1 J L ⟨I,i0,S,u,E⟩ hJ M k;refine⟨λi m τ' a=>m=b.length-i/\i<=b.length/\∃σ' G',RSt X.K a σ' τ'/\RH X.K G' a/\TK X.K L a/\I i σ' G',⟨b.length,by simp,aW _,σ,G1,hs.mono k,M,.refl _ _,i0⟩,?_⟩;rintro i m τ2 H2 ⟨rfl,n,σ2,j,o,r,c,z⟩;have l:=hJ i j H2 r c (S i σ2 j n z) n
 by_cases hlt:i<b.length
 ·obtain⟨Y,T⟩:=l.2 _ (aN hlt);refine .inr ⟨Y,fun τ' a=>i+1<=b.length/\∃σ' G',RSt X.K a σ' τ'/\RH X.K G' a/\TK X.K L a/\I _ σ' G',fun σ' a q=>⟨b.length-_,by omega,rfl,q.1,q.2⟩,λx H3 V=>?_⟩;obtain⟨rx,N,g⟩:=T x H3 V;obtain⟨σ',F,h3⟩:=u i _ σ2 j (aN hlt) z;exact b4Z rx (o.mono g) F fun τ' C _ _=>⟨σ',j,_,rt,nx,_,C,N,h3,(fun σ4 v τ4 W s d f y=>⟨hlt,σ4,v,d,f,(c.trans g).trans y,s⟩),u2.mono ((k.trans c).trans g),R.mono ((k.trans c).trans g),(fun σ4 v τ4 W s d f y=>⟨hlt,σ4,v,d,f,(c.trans g).trans y,s⟩)⟩
 ·have e:i=b.length:=by lia
  subst e;exact .inl ⟨l.1 rfl,R _ _ _ _ (E σ2 j z) o r (k.trans c)⟩⟩
section
variable{X:Cx}{tg l:Expr}{tl:E3}
def wkL(x:Z)(G:Hq)(R:List Z->(Hq->Prop)->Hq->Prop):Prop:=match x with
 |.ref a=>∃ws,G a=some (.lst ws)/\R ws (λG=>G a=some (.lst ws)) G
 |.scr _ ns=>R (ns.map Z.int) (λ_=>True) G
 |_=>False
def iL(tl:E3):I3:=fun σ G R=>tl σ G λx G1=>wkL x G1 R
def a8u{K:Fg}:a4i K ws (λG=>G a=some (.lst ws)) (Itl K a) H:=λi G H c t g m=>by
 obtain⟨b,e,f⟩:=c a _ g;refine⟨λh=>⟨b,SqL.of e,by rw[<- f.length,h];exact aC _⟩,λw j=>?_⟩;obtain⟨v,d,k⟩:=f.get j;refine⟨⟨b,v,SqL.of e,d⟩,?_⟩;rintro x l ⟨rfl,y⟩
 have:=y b (SqL.of e)
 rw[d]at this;cases this;exact⟨k,c,.refl _ _⟩
def a92{K:Fg}{ns:List Int}(f:Fz K H0 a (ns.map V.int)):a4i K (ns.map Z.int) (λ_=>True) (Itl K a) H0:=λi G H g t m l=>by
 have b:=(t.frz _ _ f).sq;have c:Reps K H _ _:=a3F ns;refine⟨λh=>⟨_,b,by rw[<- c.length,h];exact aC _⟩,λw j=>?_⟩;obtain⟨v,d,e⟩:=c.get j;refine⟨⟨_,v,b,d⟩,?_⟩;rintro x k ⟨rfl,y⟩
 have:=y _ b
 rw[d]at this;cases this;exact⟨e,g,.refl _ _⟩
def a1G(hl:QE X l tl):QI X tg l (iL tl):=a5L (b4s hl.p) fun τ H s k=>k.un fun σ G R i j h f=>by
 refine⟨σ,G,_,i,j,h,λw q v o c b d g=>?_⟩;cases w with
 |ref a=>
  obtain⟨r,e,c⟩:=c;obtain⟨m,n,_⟩:=d a _ e;exact⟨a,b,⟨m,SqL.of n⟩,f _ _ _ _ _ c a8u d g⟩
 |scr a ns=>
  exact⟨a,b.1,⟨_,b.2.sq⟩,f _ _ _ _ _ c (a92 b.2) d g⟩
 |_=>exact aH c
def wkT(x:Z)(G:Hq)(R:List Z->(Hq->Prop)->Hq->Prop):Prop:=match x with
 |.tup ws=>R ws (λ_=>True) G
 |_=>False
def iT(tl:E3):I3:=fun σ G R=>tl σ G λx G1=>wkT x G1 R
def a93{K:Fg}(e:H0 a=some (.tup vs))(rs:Reps K H0 ws vs):a4i K ws (λ_=>True) (Itt K a) H0:=λi G H f t ok hi=>by
 have e:=t.tup _ _ e;have rs:=rs.mono t;refine⟨λh=>⟨vs,SqT.of e,by rw[<- rs.length,h];exact aC _⟩,λw g=>?_⟩;obtain⟨v,c,d⟩:=rs.get g;refine⟨⟨vs,v,SqT.of e,c⟩,?_⟩;rintro x H' ⟨rfl,y⟩
 have:=y vs (SqT.of e)
 rw[c]at this;cases this;exact⟨d,f,.refl _ _⟩
def b7I(hl:QE X l tl):QI X tg l (iT tl):=a5L (b6P hl.p) fun τ H o j=>j.un fun σ G R m i h n=>by
 refine⟨σ,G,_,m,i,h,λw r v q d c b k=>?_⟩;cases w with
 |tup ws=>
  obtain⟨a,g,rfl,e,f⟩:=c;exact⟨a,rfl,⟨g,SqT.of e⟩,n _ _ _ _ _ d (a93 e f) b k⟩
 |_=>exact aH d
noncomputable def rng(lo:Int):Nat->List Z
 |0=>[]
 |n+1=>.int lo::rng (lo+1) n
def a4D:∀(lo:Int)(n:Nat),(rng lo n).length=n:=by intro z0 y0;induction y0 generalizing z0 with
 |zero=>exact rfl
 |succ n I0=>rw[rng,aL,I0]
theorem a44:∀{lo:Int}{n i:Nat}{w:Z},(rng lo n)[i]?=some w->i<n/\w=.int (lo+i)
 |_,0,_,_,h=>by simp[rng]at h
 |lo,n+1,0,w,h=>by simp[rng]at h;exact⟨by lia,by rw[<- h];simp⟩
 |lo,n+1,i+1,w,h=>by
  have:=a44 (by simpa[rng]using h)
  refine⟨by lia,?_⟩;rw[this.2]
  congr 1
  lia
def a5M{K:Fg}{lo:Int}:a4i K (rng lo n) (λ_=>True) (Itr lo n) H0:=λi G H b t e g=>by
 rw[a4D];refine⟨λh=>by rw[h];exact aC _,λw d=>?_⟩;obtain⟨a,c⟩:=a44 d;refine⟨a,?_⟩;rintro x f ⟨rfl,rfl⟩;exact⟨by rw[c,a0l],b,.refl _ _⟩
variable{t:A3}
def iR1(t:A3):I3:=fun σ G R=>t σ G λws G1=>∃j:Int,ws=[.int j]/\-(2 ^ 62)<=j/\j<2 ^ 62/\R (rng 0 j.toNat) (λ_=>True) G1
def iR2(t:A3):I3:=fun σ G R=>t σ G λws G1=>∃i j:Int,ws=[.int i,.int j]/\(-(2 ^ 62)<=i/\i<2 ^ 62/\-(2 ^ 62)<=j/\j<2 ^ 62)/\R (rng i (j-i).toNat) (λ_=>True) G1
def a94(h:PI X tg wi (b6Q (lowA X.K t))):QI X tg wi (iR1 t):=a5L h fun τ H p g=>g.un fun σ G R i d h l=>by
 refine⟨σ,G,_,i,d,h,λq o n s ⟨j,e,a,b,k⟩ f c m=>?_⟩;subst e;obtain⟨v,rfl,r⟩:=f.one;subst r;exact⟨j,rfl,a,b,l _ _ _ _ _ k a5M c m⟩
def a95(h:PI X tg wi (b6R (lowA X.K t))):QI X tg wi (iR2 t):=a5L h fun τ H q g=>g.un fun σ G R l f h n=>by
 refine⟨σ,G,_,l,f,h,λo w p s ⟨i,j,e,a,m⟩ d b k=>?_⟩;subst e;obtain⟨v,u,rfl,r,c⟩:=d.two;subst r c;exact⟨i,j,rfl,a,n _ _ _ _ _ m a5M b k⟩
end
section
variable{X:Cx}{tg a b:Expr}{p pos:Pos}{t:A3}
def a8v(hg:Gl X "range")(hm:X.mg "range"=none)(ha:QA X [a] t)(hs:fL [a] X.env=[(false,eval a X.env)]:=by rfl):QI X tg (.Call (.Name "range" p) [a] [] pos) (iR1 t):=a94 (a9k hg hm ha.p hs)
def a8w(hg:Gl X "range")(hm:X.mg "range"=none)(ha:QA X [a,b] t)(hs:fL [a,b] X.env=[(false,eval a X.env),(false,eval b X.env)]:=by rfl)(hs2:fL [b] X.env=[(false,eval b X.env)]:=by rfl):QI X tg (.Call (.Name "range" p) [a,b] [] pos) (iR2 t):=a95 (a9l hg hm ha.p hs hs2)
end
noncomputable def cap3(cap:List (Option Nat))(σ:S3):S3:=cap.map λo=>o.bind λj=>(σ[j]?).join
theorem a6E{K:Fg}(h:RSt K H σ τ):∀cap:List (Option Nat),RSt K H (cap3 cap σ) (a2M cap τ)
 |[]=>.nil
 |none::cap=>.cons (λ_ e=>nomatch e) (a6E h cap)
 |some j::cap=>.cons (λw e=>by
   have a:(σ[j]?).join=some w:=e;have b:σ[j]?=some (some w):=by
    cases q:σ[j]? with
    |none=>rw[q]at a;cases a
    |some o=>rw[q]at a;cases o with
     |none=>cases a
     |some z=>cases a;rfl
   obtain⟨v,c,r⟩:=h.get b;exact⟨v,by show (τ[j]?).join=some v;rw[c];rfl,r⟩) (a6E h cap)
theorem a2Q:∀{a b:L2.St},b.length=a.length->(∀(i:Nat) v,a[i]?=some (some v)->b[i]?=some (some v))->a1m a b
 |[],[],_,_=>True.intro
 |none::a,_::b,h,k=>a2Q (b:=b) (by simpa using h) λi v e=>by simpa using k (i+1) v (by simpa using e)
 |some x::a,y::b,h,k=>⟨by simpa using k 0 x rfl,a2Q (b:=b) (by simpa using h) λi v e=>by simpa using k (i+1) v (by simpa using e)⟩
 |[],_::_,h,_=>by simp at h
 |_::_,[],h,_=>by simp at h
def LCB(ws:List Z)(ok:Hq->Prop)(cap:List (Option Nat))(pt:Pt)(tt:T3)(te:E3)(σ:S3)(R:K3)(D:Addr)(G1:Hq):Prop:=∃I:Nat->List Z->Hq->Prop,I 0 [] (put G1 D (.lst []))/\(∀i ys G,i<=ws.length->I i ys G->ok G) /\
 (∀i x ys G,ws[i]?=some x->I i ys G->∃σ',a3H pt x (cap3 cap σ)=some σ'/\tt σ' G λb G4=>if b=true then te σ' G4 λy G5=>G5 D=some (.lst ys)/\ys.length<fH/\I (i+1) (ys++[y]) (put G5 D (.lst (ys++[y]))) else I (i+1) ys G4) /\
 ∀ys G,I ws.length ys G->R (.ref D) G
def uLC(wi:I3)(cap:List (Option Nat))(pt:Pt)(tt:T3)(te:E3):E3:=fun σ G R=>wi σ G λws ok G1=>∀D,G1 D=none->LCB ws ok cap pt tt te σ R D G1
def a6F(I:Nat->List Z->Hq->Prop)(h0:I 0 [] (put G1 D (.lst [])))(hok:∀i ys G,i<=ws.length->I i ys G->ok G)
  (step:∀i x ys G,ws[i]?=some x->I i ys G->∃σ',a3H pt x (cap3 cap σ)=some σ'/\tt σ' G λb G4=>if b=true then te σ' G4 λy G5=>G5 D=some (.lst ys)/\ys.length<fH/\I (i+1) (ys++[y]) (put G5 D (.lst (ys++[y]))) else I (i+1) ys G4)
  (fin:∀ys G,I ws.length ys G->R (.ref D) G):LCB ws ok cap pt tt te σ R D G1:=⟨I,h0,hok,step,fin⟩
def a0I{α β:Type}{f:α->Option β}{ws:List α}{x:α}(h:ws[i]?=some x):(ws.take (i+1)).filterMap f=(ws.take i).filterMap f++(f x).toList:=by
 rw[b6,eJ,h];cases e:f x<;>simp[e]
def b40(f:Z->Option Z)(hok:∀ys,ok (put G1 D (.lst ys)))(hz:ws.length<=1000)
  (turn:∀x,x∈ws->∀(ys:List Z)(K1:K3)(K2:Hq->Prop),(∀y,f x=some y->K1 y (put G1 D (.lst ys)))->(f x=none->K2 (put G1 D (.lst ys)))->∃σ',a3H pt x (cap3 cap σ)=some σ'/\tt σ' (put G1 D (.lst ys)) λb G4=>if b=true then te σ' G4 K1 else K2 G4)
  (fin:R (.ref D) (put G1 D (.lst (ws.filterMap f)))):LCB ws ok cap pt tt te σ R D G1:=by
 refine⟨λi a G=>a=(ws.take i).filterMap f/\G=put G1 D (.lst a),⟨by simp,rfl⟩,?_,?_,?_⟩
 ·simp_all
 ·rintro i x a G c ⟨e,rfl⟩;refine turn x (aS c) a _ _ (λy g=>⟨a0a,?_,?_,?_⟩) λd=>⟨?_,rfl⟩
  ·rw[e];exact dr (aM (bN _ _) (by rw[aR];lia)) (a0h (aC 1000))
  ·rw[a0I c,g,e];rfl
  ·rw[a1E]
  ·rw[a0I c,d,e];simp
 ·simp_all
def QIfs(X:Cx)(ifs:List Expr)(t:T3):Prop:=PIfs X ifs (lowT X.K t)
def uTT:T3:=λ_ G R=>R true G
def b41:QIfs X [] uTT:=by rintro a s τ H Q I ⟨σ,G,R,d,b,h,c⟩;exact b12 a s τ H Q I (c _ _ _ h b (.refl _ _))
def a3I(h:QT X c t):QIfs X [c] t:=b13 h.p
def b42{pt:Pt}(hc:(pt.slots.all λj=>decide (cap[j]?=some none))=true)(h:(a2M cap τ)[i]?=some (some v)):i∉pt.slots:=λa=>by
 have q:=of_decide_eq_true ((bX.mp hc) i a);unfold a2M at h;rw[aK,q]at h;cases h
def b3D{K:Fg}(hc:(pt.slots.all λj=>decide (cap[j]?=some none))=true)(h:low K (uLC wi cap pt tt te) τ H Q) :
  tLC (lowI K wi) cap (gP K pt) (lowT K tt) (low K te) τ H Q:=by
 obtain⟨σ,G,R,hs,hg,h,up⟩:=h;refine⟨σ,G,_,hs,hg,h,λc ok G1 J H1 h1 hJ t U D B=>?_⟩;obtain⟨I,i0,S,C,N⟩:=h1 D (t.out B);refine⟨λi m _ d=>m=c.length-i/\i<=c.length/\∃a G',RH K G' d/\TK K H1 d/\I i a G',⟨c.length,by simp,aW _,[],_,t.set (o:=.lst []) (.new B) ⟨[],a0j,.nil⟩,.new B,i0⟩,?_⟩;rintro i m vs H2 ⟨rfl,w,a,f,p,g,E⟩;have n:=hJ i f H2 p g (S i a f w E) w
 by_cases hlt:i<c.length
 ·obtain⟨go,yl⟩:=n.2 _ (aN hlt);refine .inr ⟨go,λ_ d=>i+1<=c.length/\∃a G',RH K G' d/\TK K H1 d/\I _ a G',λvs' d q=>⟨c.length-_,by lia,rfl,q.1,q.2⟩,λx H3 y3=>?_⟩;obtain⟨rx,aa,F⟩:=yl x H3 y3;obtain⟨σ',Y,h3⟩:=C i _ a f (aN hlt) E;refine b4Z rx (a6E (hs.mono ((U.trans g).trans F)) cap) Y fun τ' z M hk'=>⟨a2Q M λj v T=>by rw[hk' j (b42 hc T)];exact T,?_⟩;refine⟨σ',f,_,z,aa,h3,λb G4 H4 l u A=>?_⟩;cases b with
  |false=>
   exact⟨hlt,a,G4,u,(g.trans F).trans A,l⟩
  |true=>
   refine⟨σ',G4,_,z.mono A,u,l,λy G5 v5 H5 ⟨L,V,h5⟩ r5 r t5=>?_⟩;obtain⟨X,k,s⟩:=r D _ L;refine⟨X,k,by rw[<- s.length];exact V,hlt,_,_,r.set (.lst k) (a1p (s.append (.cons r5 .nil)) (.lst k)),?_,h5⟩;exact (((g.trans F).trans A).trans t5).trans (.lst k)
 ·have e:i=c.length:=by lia
  subst e;exact .inl ⟨n.1 rfl,up _ _ _ _ (N a f E) (by rw[a0x]) p (U.trans g)⟩
section
variable{X:Cx}{N':List Str}{sc:Scope}{cap:List (Option Nat)}{tg iter elt:Expr}{ifs:List Expr}{wi:I3}{pt:Pt}{tt:T3}{te:E3}{pos:Pos}
def q_lc(hc:X.calm=true)(hNN:X.N=Nj)(hso:X.env.scope=so)(ck:capB Nj so sc N' cap=true)(hp:(pt.slots.all λj=>decide (cap[j]?=some none))=true)(hi:QI X tg iter wi)
  (hg:∀C s H fp,QP (cxC X E0 N' sc C s H fp) tg pt) (ht:∀C s H fp,QIfs (cxC X E0 N' sc C s H fp) ifs tt) (he:∀C s H fp,QE (cxC X E0 N' sc C s H fp) elt te)
  (hs:∀x,gM iter X.env x=pure x:=by intro _;rfl):QE X (.ListComp elt [⟨tg,iter,ifs,0⟩] sc pos) (uLC wi cap pt tt te):=⟨a0X (b9X (g:=gP X.K pt) (tt:=lowT X.K tt) hc a7t hNN hso ck hi hg ht (λC s H a=>(he C s H a).p) hs) λ_ _ _=>b3D hp⟩
def b43(hN:X.N.Nodup)(hx:X.N[i]?=some x)(hl:X.env.scope.names.lookup x=some .local)(hc:X.calm=true)(hNN:X.N=Nj)(hso:X.env.scope=so)(ck:capB Nj so sc N' cap=true)
  (hp:(pt.slots.all λj=>decide (cap[j]?=some none))=true) (hi:QI X tg iter wi)
  (hg:∀C s H fp,QP (cxC X E0 N' sc C s H fp) tg pt) (ht:∀C s H fp,QIfs (cxC X E0 N' sc C s H fp) ifs tt) (he:∀C s H fp,QE (cxC X E0 N' sc C s H fp) elt te)
  (hsw:gI (.ListComp elt [⟨tg,iter,ifs,0⟩] sc pos) (some (.Name x pos')) spos.line X.env=pure true:=by rfl)
  (hs:∀x,gM iter X.env x=pure x:=by intro _;rfl):QS X (.Assign [.Name x pos'] (.ListComp elt [⟨tg,iter,ifs,0⟩] sc pos) spos) (uAsg (uLC wi cap pt tt te) (.nm i)):=⟨a1Y (b15 (g:=gP X.K pt) (tt:=lowT X.K tt) hN hx hl hc a7t hNN hso ck hi hg ht (λC s H a=>(he C s H a).p) hsw hs) λD τ H h=>b3D hp (a6D h)⟩
end
section
variable{P:fK}{w:World}{K:Fg}{mg:Str->Option Value}{base:Heap}
def fn3{st:Stmt}(F:Fun K x qual st f fd)(S:FnScope N ps (a0t st))(len:∀ws G R,sp ws G R->ws.length=ps.length)
  (hbody:∀(cdv:Value)(A:Around)(outer:List Env)(s:Shared)(H:Hp)(E:XK)(ws:List Z)(G:Hq)(R:K3),Room k (A.deeper (envOfC qual (a0t st) s.heap.objs.size f cdv))->sp ws G R ->
   ∃t,QSs (cxOf CX0 P w K mg base N qual (a0t st) f cdv A outer s H E).nox (a1g st) t/\t (λ_ G'=>R .non G') R (λ_ _=>False) (λ_ _=>False) (a3G N ws) G):FnOk P w K mg base CX0 (k+1) f fd ps (lowP K sp):=by
 refine F.ok S (by rintro n H Q E ⟨d,G,R,c,e,h,b⟩;rw[<- c.length];exact len _ _ _ h) ?_;rintro g A a s H n Q E j ⟨d,G,R,c,e,h,b⟩;obtain⟨t,l,q⟩:=hbody g A a s H E d G R j h;exact⟨_,l.p,a3G N d,G,_,R,_,_,.start c,e,q,fun σ' v τ' u m r i o=>b _ _ _ _ m (by rw[a0A]) i o,b,λ_ _ _ _ h _ _ _=>h.elim,λ_ _ _ _ h _ _ _=>h.elim⟩
end
section
variable{X:Cx}
def zAdd:R3:=λx y G R=>match x,y with
 |.int i,.int j=>R (.int (i+j)) G
 |.str a,.str b=>a.length+b.length<=fH/\R (.str (a++b)) G
 |.tup xs,.tup ys=>xs≠[]/\xs.length+ys.length<=fH/\R (.tup (xs++ys)) G
 |.ref p,.ref q=>∃xs ys,G p=some (.lst xs)/\G q=some (.lst ys)/\xs.length+ys.length<=fH/\∀t,G t=none->R (.ref t) (put G t (.lst (xs++ys)))
 |_,_=>False
def b44:OpQ X (fR .Add) zAdd:=a2P (op_add.or (op_add_str.or (op_catT.or b67))) λx y H Q D=>D.un λa b G R c d f h m=>by
 cases a with
 |int i=>
  cases b with
  |int j=>rw[a0l]at c d;exact .inl ⟨_,_,c,d,m _ _ _ _ h (by rw[a0l]) f (.refl _ _)⟩
  |_=>exact aH h
 |str i=>
  cases b with
  |str j=>rw[a0s]at c d;exact .inr (.inl ⟨_,_,c,d,h.1,m _ _ _ _ h.2 (by rw[a0s]) f (.refl _ _)⟩)
  |_=>exact aH h
 |tup w=>
  cases b with
  |tup ws=>
   obtain⟨p,n,rfl,o,k⟩:=c;obtain⟨q,r,rfl,u,l⟩:=d;obtain⟨B,s,h⟩:=h;refine .inr (.inr (.inl ⟨p,q,n,r,rfl,rfl,SqT.of o,SqT.of u,λz=>?_,by rw[<- k.length,<- l.length];exact s,λz=>?_,λz t g=>?_⟩))
   ·subst z;exact B (cf.mp k.length)
   ·subst z;have e:=cf.mp l.length;subst e;rw[bj]at h;exact m _ _ _ _ h (by rw[a1D];exact⟨p,n,rfl,o,k⟩) f (.refl _ _)
   ·exact m _ _ _ _ h (by rw[a1D];exact⟨t,n++r,rfl,a0j,Reps.mono (.new g) _ _ (k.append l)⟩) (f.hid g) (.new g)
  |_=>exact aH h
 |ref p=>
  cases b with
  |ref q=>
   subst c d;obtain⟨n,r,o,u,s,h⟩:=h;obtain⟨C,A,k⟩:=f _ _ o;obtain⟨w,v,l⟩:=f _ _ u;exact .inr (.inr (.inr ⟨_,_,C,w,rfl,rfl,A,v,by rw[<- k.length,<- l.length];exact s,λt g=>m _ _ _ _ (h t (f.out g)) (by rw[a0x]) (f.set (.new g) (a1p (k.append l) (.new g))) (.new g)⟩))
  |_=>exact aH h
 |_=>exact aH h
def zI(C:Int->Int->Prop)(g:Int->Int->Z):R3:=λx y G R=>match x,y with
 |.int i,.int j=>C i j/\R (g i j) G
 |_,_=>False
def zI0(g:Int->Int->Z):R3:=λx y G R=>match x,y with
 |.int i,.int j=>R (g i j) G
 |_,_=>False
def oI{g:Int->Int->Int}(h:OpR X f (rI C λi j=>.int (g i j))):OpQ X f (zI C λi j=>.int (g i j)):=a2P h λx y H Q l=>l.un λa b G R d c k h e=>by
 cases a<;>cases b<;>first
  |exact aH h
  | (rw[a0l]at d c;exact⟨_,_,d,c,h.1,e _ _ _ _ h.2 (by rw[a0l]) k (.refl _ _)⟩)
def oI0{g:Int->Int->Int}(h:OpR X f (rI0 λi j=>.int (g i j))):OpQ X f (zI0 λi j=>.int (g i j)):=a2P h λx y H Q l=>l.un λa b G R d c k h e=>by
 cases a<;>cases b<;>first
  |exact aH h
  | (rw[a0l]at d c;exact⟨_,_,d,c,e _ _ _ _ h (by rw[a0l]) k (.refl _ _)⟩)
def c0c:OpQ X (fR .Sub) (zI0 λi j=>.int (i-j)):=oI0 b6T
def c0d:OpQ X (fR .Mult) (zI CMul λi j=>.int (i*j)):=oI b6U
def b7J:OpQ X (fR .FloorDiv) (zI b7i λi j=>.int (i / j)):=oI b16
def c0e:OpQ X (fR .Mod) (zI (λ_ j=>0<j) λi j=>.int (i % j)):=oI b6V
def c0f:OpQ X (fR .Pow) (zI CPow λi j=>.int (i ^ j.toNat)):=oI b6W
def b3E:OpQ X (gK .Add) (zI0 λi j=>.int (i+j)):=oI0 b4t
def zNeg:Z->Hq->K3->Prop:=λx G R=>match x with
 |.int i=>R (.int (-i)) G
 |_=>False
def c0g:UnQ X (iO .USub) zNeg:=b9Y b6X λx H Q c=>c.un λa G R b d h e=>by
 cases a<;>first
  |exact aH h
  | (rw[a0l]at b;exact⟨_,b,e _ _ _ _ h (by rw[a0l]) d (.refl _ _)⟩)
def a96:OpR X (fN .LtE) (λx y H Q=>∃i j,x=.str i/\y=.str j/\Q (.bl (!decide (j.cps.toList<i.cps.toList))) H):=by
 intro b s σ H x y v u Q I a c h;obtain⟨i,j,rfl,rfl,q⟩:=h;obtain⟨t,rfl⟩:=a;obtain⟨d,rfl⟩:=c;exact PySem.P.le_str (a0n I q rfl)
def op_gt_str:OpR X (fN .Gt) (λx y H Q=>∃i j,x=.str i/\y=.str j/\Q (.bl (decide (j.cps.toList<i.cps.toList))) H):=by
 intro b s σ H x y v u Q I a c h;obtain⟨i,j,rfl,rfl,q⟩:=h;obtain⟨t,rfl⟩:=a;obtain⟨d,rfl⟩:=c;exact PySem.P.gt_str (a0n I q rfl)
def zC(f:Int->Int->Bool)(g:Str->Str->Bool):R3:=λx y G R=>match x,y with
 |.int i,.int j=>R (.bl (f i j)) G
 |.str i,.str j=>R (.bl (g i j)) G
 |_,_=>False
def oC(h:OpR X (fN op) (rI0 λi j=>.bl (f i j)))(h':OpR X (fN op) (λx y H Q=>∃i j,x=.str i/\y=.str j/\Q (.bl (g i j)) H)) :
  OpQ X (fN op) (zC f g):=a2P (h.or h') λx y H Q l=>l.un λa b G R c d e h k=>by
 cases a<;>cases b<;>first
  |exact aH h
  | (rw[a0l]at c d;exact .inl ⟨_,_,c,d,k _ _ _ _ h (by rw[a0u]) e (.refl _ _)⟩)
  | (rw[a0s]at c d;exact .inr ⟨_,_,c,d,k _ _ _ _ h (by rw[a0u]) e (.refl _ _)⟩)
abbrev ltS(x y:Str):Bool:=decide (x.cps.toList<y.cps.toList)
def o_lt:OpQ X (fN .Lt) (zC (λi j=>decide (i<j)) λx y=>ltS x y):=oC b9J a9r
def o_le:OpQ X (fN .LtE) (zC (λi j=>decide (i<=j)) λx y=>!ltS y x):=oC b9K a96
def o_gt:OpQ X (fN .Gt) (zC (λi j=>decide (j<i)) λx y=>ltS y x):=oC b9L op_gt_str
def zIs(neg:Bool):R3:=λx y G R=>match y with
 |.non=>R (.bl (if neg then !decide (x=.non) else decide (x=.non))) G
 |.bl b=>match x with
  |.bl a=>neg=false/\R (.bl (a==b)) G
  |_=>False
 |_=>False
def a4E{K:Fg}(r:Rep K H w v):decide (v=.non)=decide (w=.non):=by
 cases w with
 |non=>rw[a0A]at r;subst r;rfl
 |bl _=>rw[a0u]at r;subst r;simp
 |int _=>rw[a0l]at r;subst r;simp
 |str _=>rw[a0s]at r;subst r;simp
 |ref _=>rw[a0x]at r;subst r;simp
 |ty _=>rw[a9V]at r;subst r;simp
 |scr _ _=>rw[a2O]at r;obtain⟨rfl,_⟩:=r;simp
 |tup _=>rw[a1D]at r;obtain⟨_,_,rfl,_⟩:=r;simp
end
mutual
def dZ:Z->PyData
 |.bl b=>.bool b
 |.int i=>.int i
 |.str x=>.str x
 |.tup ws=>.tuple (dZs ws)
 |_=>.none
def dZs:List Z->List PyData
 |[]=>[]
 |w::ws=>dZ w::dZs ws
end
noncomputable def flat:Nat->Z->Bool
 |_,.non=>true
 |_,.int _=>true
 |_,.str x=>PyData.strOk x
 |n+1,.tup ws=>ws.all (flat n)
 |_,_=>false
def b3F:∀(n:Nat)(d:Z),flat n d=true->(dZ d).canLay0=true/\(dZ d).depth<=n:=by
 have f:∀n,(∀d,flat n d=true->(dZ d).canLay0=true/\(dZ d).depth<=n)->∀a:List Z,(∀d∈a,flat n d=true)->PyData.canLayAll0 (dZs a)=true/\PyData.depthAll (dZs a)<=n:=by
  intro n b a
  induction a with
  |nil=>intro _;simp[dZs,PyData.canLayAll0,PyData.depthAll]
  |cons d a hi=>
   intro h;have g:=b d (h d (.head _));have c:=hi λe j=>h e (.tail _ j);simp only[dZs,PyData.canLayAll0,PyData.depthAll,g.1,c.1,Bool.and_self,true_and]
   lia
 intro n
 induction n with
 |zero=>
  intro d h;cases d<;>simp_all[flat,dZ,PyData.canLay0,PyData.depth]
 |succ n b=>
  intro d h;cases d with
  |non=>simp[dZ,PyData.canLay0,PyData.depth]
  |int i=>simp[dZ,PyData.canLay0,PyData.depth]
  |str x=>simp[flat]at h;simp[dZ,PyData.canLay0,PyData.depth,h]
  |tup a=>
   have q:=f n b a (by simpa[flat]using h);simp only[dZ,PyData.canLay0,PyData.depth,q.1,true_and]
   lia
  |_=>simp[flat]at h
def b45(n:Nat)(ds:List Z)(h:ds.all (flat n)=true):PyData.canLayAll0 (dZs ds)=true/\PyData.depthAll (dZs ds)<=n:=by
 have q:=b3F (n+1) (.tup ds) (by simpa[flat]using h);simp only[dZ,PyData.depth]at q;exact⟨q.1,by lia⟩
def a97:∀(n:Nat)(d e:Z)(k:Nat),flat n d=true->flat k e=true->(PyData.eqv (dZ d) (dZ e)=true↔d=e):=by
 have all:∀(n:Nat),(∀d e k,flat n d=true->flat k e=true->(PyData.eqv (dZ d) (dZ e)=true↔d=e))->∀(k:Nat)(ds es:List Z),(∀d∈ds,flat n d=true)->(∀d∈es,flat k d=true) ->
   (PyData.eqvAll (dZs ds) (dZs es)=true↔ds=es):=by
  intro n ih k ds
  induction ds with
  |nil=>intro es _ _;cases es<;>simp[dZs,PyData.eqvAll]
  |cons d ds hi=>
   intro es h1 h2;cases es with
   |nil=>simp[dZs,PyData.eqvAll]
   |cons e es=>
    have q1:=ih d e k (h1 d (.head _)) (h2 e (.head _));have q2:=hi es (λx hx=>h1 x (.tail _ hx)) λx hx=>h2 x (.tail _ hx);simp only[dZs,PyData.eqvAll,bD,q1,q2,cb.injEq]
 intro n
 induction n with
 |zero=>
  intro d e k h1 h2;cases d<;>cases e<;>simp_all[flat,dZ,PyData.eqv]
 |succ n ih=>
  intro d e k h1 h2;cases d with
  |tup ds=>
   cases e with
   |tup es=>
    cases k with
    |zero=>simp[flat]at h2
    |succ k=>
     simp only[dZ,PyData.eqv,Z.tup.injEq];exact all n ih k ds es (by simpa[flat]using h1) (by simpa[flat]using h2)
   |_=>simp_all[flat,dZ,PyData.eqv]
  |_=>cases e<;>simp_all[flat,dZ,PyData.eqv]
def b46(n k:Nat)(ds es:List Z)(h:ds.all (flat n)=true)(h':es.all (flat k)=true):PyData.eqvAll (dZs ds) (dZs es)=true↔ds=es:=by
 have q:=a97 (n+1) (.tup ds) (.tup es) (k+1) (by simpa[flat]using h) (by simpa[flat]using h');simpa only [dZ,PyData.eqv,Z.tup.injEq]using q
section
variable{K:Fg}{H:Hp}
def b2b:∀(n:Nat)(w:Z)(v:V),flat n w=true->Rep K H w v->DV H (dZ w) v:=by
 have g:∀n,(∀w v,flat n w=true->Rep K H w v->DV H (dZ w) v)->∀b c,(∀d∈b,flat n d=true)->Reps K H b c->DVs H (dZs b) c:=by
  intro n f b
  induction b with
  |nil=>intro c _ r;exact r
  |cons w b hi=>
   intro c h r;obtain⟨v,j,e,o,l⟩:=r;exact⟨v,j,e,f w v (h w (.head _)) o,hi j (λd k=>h d (.tail _ k)) l⟩
 intro n
 induction n with
 |zero=>
  intro w v h r;cases w with
  |non=>rw[a0A]at r;exact r
  |int i=>rw[a0l]at r;exact r
  |str x=>rw[a0s]at r;exact r
  |_=>simp[flat]at h
 |succ n f=>
  intro w v h r;cases w with
  |non=>rw[a0A]at r;exact r
  |int i=>rw[a0l]at r;exact r
  |str x=>rw[a0s]at r;exact r
  |tup b=>
   obtain⟨a,c,e,p,m⟩:=r;exact⟨a,c,e,p,g n f b c (by simpa[flat]using h) m⟩
  |_=>simp[flat]at h
def a98(n:Nat):∀(ws:List Z)(vs:List V),ws.all (flat n)=true->Reps K H ws vs->DVs H (dZs ws) vs:=by intro z0;induction z0 with
 |nil=>intro vs _ r;rw[a0m]at r;simp only[dZs];unfold DVs;exact r
 |cons w ws I0=>
  intro vs h r;obtain⟨v,a,e,b,c⟩:=r;rw[bY,bD]at h;exact⟨v,a,e,b2b n w v h.1 b,I0 a h.2 c⟩
end
def a16(h:flat n w=true)(hn:n<=64):SeqAt.shaped (dZ w)=true:=by
 have q:=b3F n w h;unfold SeqAt.shaped;rw[q.1,bM];exact decide_eq_true (by omega)
def a17(h:ws.all (flat n)=true)(hn:n<=63):SeqAt.shaped (.list (dZs ws))=true:=by
 have q:=b45 n ws h;unfold SeqAt.shaped;simp only[PyData.canLay0,PyData.depth,q.1];exact decide_eq_true (by lia)
def a6G{p:Prop}[Decidable p](h:a=true↔p):a=decide p:=by
 cases a with
 |true=>exact (decide_eq_true (h.mp rfl)).symm
 |false=>exact (decide_eq_false λq=>by cases h.mpr q).symm
def a0w{p q:Prop}[Decidable p][Decidable q](h:p=q):decide p=decide q:=by grind
def zEq(f:Bool->Bool):R3:=λx y G R=>match x,y with
 |.bl a,.bl b=>R (.bl (f (a==b))) G
 |.int a,.int b=>R (.bl (f (decide (a=b)))) G
 |.str a,.str b=>R (.bl (f (decide (a=b)))) G
 |.ref p,.ref q=>∃xs ys,G p=some (.lst xs)/\G q=some (.lst ys)/\xs.all (flat 8)=true/\ys.all (flat 8)=true/\R (.bl (f (decide (xs=ys)))) G
 |x,y=>flat 8 x=true/\flat 8 y=true/\R (.bl (f (decide (x=y)))) G
section
variable{X:Cx}
def b3G{K:Fg}(h:low2 K (zEq f) x y H Q) :
    (scal x y=true/\Q (.bl (f (decide (x=y)))) H)\/∃d e,DV H d x/\DV H e y/\SeqAt.shaped d=true/\SeqAt.shaped e=true/\Q (.bl (f (PyData.eqv d e))) H:=by
  obtain⟨a,b,G,R,g,c,i,h,j⟩:=h;have p:flat 8 a=true/\flat 8 b=true/\R (.bl (f (decide (a=b)))) G->∃d e,DV H d x/\DV H e y/\SeqAt.shaped d=true/\SeqAt.shaped e=true/\Q (.bl (f (PyData.eqv d e))) H:=by
    rintro⟨n,m,w⟩;refine⟨dZ a,dZ b,b2b 8 _ _ n g,b2b 8 _ _ m c,a16 n (by simp),a16 m (by simp),?_⟩;rw[a6G (a97 8 a b 8 n m)];exact j _ _ _ _ w (by rw[a0u]) i (.refl _ _)
  cases a<;>cases b<;>first
    |exact .inr (p h)
    | (rw[a0u]at g c;subst g c;exact .inl ⟨rfl,by rw[a9o];exact j _ _ _ _ h (by rw[a0u]) i (.refl _ _)⟩)
    | (rw[a0l]at g c;subst g c;exact .inl ⟨rfl,by rw[a0w (V.int.injEq _ _)];exact j _ _ _ _ h (by rw[a0u]) i (.refl _ _)⟩)
    | (rw[a0s]at g c;subst g c;exact .inl ⟨rfl,by rw[a0w (V.str.injEq _ _)];exact j _ _ _ _ h (by rw[a0u]) i (.refl _ _)⟩)
    | (rw[a0x]at g c
       subst g c;obtain⟨r,s,t,z,k,l,h⟩:=h;obtain⟨u,q,v⟩:=i _ _ t;obtain⟨B,o,A⟩:=i _ _ z;refine .inr ⟨.list _,.list _,?_,?_,a17 k (by simp),a17 l (by simp),?_⟩;exact⟨_,u,rfl,q,a98 8 _ _ k v⟩;exact⟨_,B,rfl,o,a98 8 _ _ l A⟩
       · simp only[PyData.eqv]
         rw[a6G (b46 8 8 r s k l)];exact j _ _ _ _ h (by rw[a0u]) i (.refl _ _))
def o_eq(hu:X.A.units+66<cLine):OpQ X (fN .Eq) (zEq id):=a2P (op_eq.or (b7f hu)) λx y H Q h=>b3G h
def o_ne(hu:X.A.units+66<cLine):OpQ X (fN .NotEq) (zEq not):=a2P (op_ne.or (b7g hu)) λx y H Q h=>b3G h
def zIn(f:Bool->Bool):R3:=λx y G R=>match x,y with
 |.str a,.str b=>R (.bl (f (!(fO.Str.occurrences b a 0 b.length 1).isEmpty))) G
 |x,.ref q=>∃ws,G q=some (.lst ws)/\flat 8 x=true/\ws.all (flat 8)=true/\R (.bl (f (decide (x∈ws)))) G
 |x,.tup ws=>flat 8 x=true/\ws.all (flat 8)=true/\R (.bl (f (decide (x∈ws)))) G
 |_,_=>False
def b47(x:Z)(hx:flat 8 x=true):∀ws:List Z,ws.all (flat 8)=true->((dZs ws).any λy=>PyData.eqv y (dZ x))=decide (x∈ws):=by intro z0;induction z0 with
 |nil=>intro _;simp[dZs]
 |cons w ws I0=>
  intro h;rw[bY,bD]at h;simp only[dZs,cw];rw[I0 h.2,a6G (a97 8 w x 8 h.1 hx)]
  by_cases e:w=x
  ·simp_all
  ·have:¬ x=w:=λz=>e z.symm
   simp[e,this]
def b3H(hf:∀b,f b=if neg=true then !b else b){K:Fg}(h:low2 K (zIn f) x y H Q) :
  (∃i j,x=.str i/\y=.str j/\Q (.bl (f (!(fO.Str.occurrences j i 0 j.length 1).isEmpty))) H)\/rInD neg x y H Q:=by
 obtain⟨a,b,G,R,o,m,r,h,t⟩:=h;have s:∀p c d,y=.ref p->_->Reps K H c d->flat 8 a=true->c.all _=true->R _ G->rInD neg x y H Q:=λp c d e w n k g h=>by
  refine⟨dZ a,p,dZs c,d,b2b 8 _ _ k o,e,w,a98 8 _ _ g n,a16 k (by simp),a17 g (by simp),?_⟩;rw[b47 a k c g,<- hf];exact t _ _ _ _ h (by rw[a0u]) r (.refl _ _)
 cases b with
 |str j=>
  cases a with
  |str i=>rw[a0s]at o m;exact .inl ⟨_,_,o,m,t _ _ _ _ h (by rw[a0u]) r (.refl _ _)⟩
  |_=>exact aH h
 |ref q=>
  have l:∃c,G q=some (.lst c)/\flat 8 a=true/\c.all (flat 8)=true/\R (.bl (f (decide (a∈c)))) G:=by cases a<;>exact h
  obtain⟨c,e,k,g,l⟩:=l;obtain⟨d,u,n⟩:=r q _ e;exact .inr (s q c d m (.inl u) n k g l)
 |tup c=>
  obtain⟨q,d,e,v,n⟩:=m;have l:flat 8 a=true/\c.all (flat 8)=true/\R (.bl (f (decide (a∈c)))) G:=by cases a<;>exact h
  obtain⟨k,g,l⟩:=l;exact .inr (s q c d e (.inr v) n k g l)
 |_=>cases a<;>exact aH h
def o_in(hu:X.A.units+66<cLine):OpQ X (fN .In) (zIn id):=a2P (op_in_str.or (b7h hu)) λx y H Q h=>b3H (λb=>by simp) h
def b48(hu:X.A.units+66<cLine):OpQ X (fN .NotIn) (zIn not):=a2P (op_notin_str.or (a9T hu)) λx y H Q h=>b3H (λb=>by simp) h
end
end L3
namespace L2
open PySem PySem.Spec PyProof.Rows
noncomputable def Its(x:Str):It:=⟨λi _=>i<x.cps.size,λi H v H'=>H'=H/\∃c,x.cps[i]?=some c/\v=.str ⟨#[c]⟩,λi _=>i=x.cps.size⟩
theorem a7x{P:fK}{w:World}{K:Fg}{tg:Expr}{it:Addr}{ty:String}{x:Str}{t:Tok}
  (hty:["enumerate","zip","dict_itemiterator","dict_reverseitemiterator","odict_iterator","itertools.zip_longest","itertools.pairwise"].contains ty=false)
  (W:∀A':Around,A'.handled=none->Walks P w A' it [it] [it] x.cps.size (SignAt x) (λi h=>h.IsStrIter it ty x t i))
  (hself:∀(A:Around)(i:Nat)(s:Shared)(Q:Value->Shared->Prop)(E:Value->Shared->Prop),s.heap.IsStrIter it ty x t i->Q (.ref it) s->wpAny (model P w) A (pyIter (.ref it)) Q E s) :
  Turn P w K tg (Its x) [it] it (λi h=>h.IsStrIter it ty x t i) where
 mem:=by simp
 obj:=λi h st b hb=>by
  have e:b=it:=by simpa using hb
  subst e;obtain⟨o,e,c,d⟩:=st;exact⟨o,e,λv z=>by rw[d]at z;cases z⟩
 keep:=λi h h' st k=>let ⟨o,e,r⟩:=st;⟨o,k it (by simp) o e,r⟩
 item:=by
  intro X hP hw hK hc i pins s σ H E I hf st hg;subst hP hw hK;obtain⟨f0,f1,f2,f3,f4,f5⟩:=hf it (by simp);refine (W X.A (I.ok.hd hc)).item i s _ _ hg st λv h' tk ⟨c,u,hx,e⟩ st' k=>?_;subst e;have I1:Inv X pins σ H { s with heap:=h',toks:=tk }:=I.turned (t':=tk) (λb o hb e=>k b o (by simpa using hb) e) f0 f1 f3 f4 f5;obtain⟨o,e,cl,d⟩:=id st';exact⟨_,rfl,a8h (s:={ s with heap:=h',toks:=tk }) e cl d hty ⟨.str ⟨#[c]⟩,H,I1,⟨_,rfl⟩,⟨rfl,c,hx,rfl⟩,st',λb hb=>(hf b hb).1⟩⟩
 done:=by
  intro X hP hw hK hc i pins s σ H E I hf st hg;subst hP hw hK;obtain⟨f0,f1,f2,f3,f4,f5⟩:=hf it (by simp);have hg':i=x.cps.size:=hg;subst hg';exact (W X.A (I.ok.hd hc)).done s _ _ st λh' tk k=>⟨rfl,I.turned (t':=tk) (λb o hb e=>k b o (by simpa using hb) e) f0 f1 f3 f4 f5⟩
 self:=hself
def iStr(tl:TE):TI:=fun σ H R=>tl σ H λv H1=>∃x,v=.str x/\R (Its x) H1
def b7K(hl:PE X l tl):PI X tg l (iStr tl):=by
 intro c s σ H R I h;refine thn (hl c s σ H _ I h) λv a ⟨x,f,d,p,m⟩=>?_;obtain⟨y,e,q⟩:=m;subst e;obtain⟨t,rfl⟩:=p;have j:∀(o:Obj),∀b∈[a.heap.objs.size],FpOk X c f b:=λo b k=>by
  have e:b=a.heap.objs.size:=by simpa using k
  subst e;exact d.fpOk (aC _) (d.hok.fresh (aC _))
 cases ha:y.cps.all _
 ·refine wpAny_pyIter_wide ha ?_;exact⟨a.heap.objs.size,[a.heap.objs.size],_,_,f,rfl,d.kept (λb o e=>Heap.get?_push_of_some _ e),a7x (by decide) (λn i=>Walks.strWide i _ y t) (λ_ _ _ _ _ g h=>wpAny_pyIter_striter_wide g h),
   ⟨_,Heap.get?_push_size _ rfl,rfl,rfl⟩,j default,q⟩
 ·refine wpAny_pyIter_ascii ha ?_;exact⟨a.heap.objs.size,[a.heap.objs.size],_,_,f,rfl,d.kept (λb o e=>Heap.get?_push_of_some _ e),a7x (by decide) (λn i=>Walks.strAscii i _ y t) (λ_ _ _ _ _ g h=>wpAny_pyIter_striter_ascii g h),
   ⟨_,Heap.get?_push_size _ rfl,rfl,rfl⟩,j default,q⟩
theorem Vals.tog:∀{xs:List V}{us:List Value}{i:Nat}{u:Value},Vals xs us->us[i]?=some u->∃x,xs[i]?=some x/\RelV x u
 |_,_,_,_,.nil,e=>by simp at e
 |_,_,0,_,.cons r _,e=>by simp at e;subst e;exact⟨_,rfl,r⟩
 |_,_,i+1,u,.cons _ t,e=>by
  obtain⟨x,a,b⟩:=Vals.tog t (by simpa using e);exact⟨x,by simpa using a,b⟩
def a8x:∀{ys:List Str}{us:List Value},Vals (ys.map V.str) us->ip us ys:=by intro z0;induction z0 with
 |nil=>intro us r;rw[aX]at r;cases r;exact .nil
 |cons y ys I0=>
  intro us r;cases r with
  |cons r1 r2=>
   obtain⟨t,e⟩:=r1;subst e;exact .cons y t (I0 r2)
def a99(bs:List Bool):(bI bs.length).all (λi=>bs.getD i false)=bs.all id:=by
 rw[cB];simp only[bX,dI,id]
 constructor
 ·intro h b c;obtain⟨i,a,e⟩:=List.getElem_of_mem c
  have:=h i a
  rw[cH,aN a]at this;rw[<- e];exact this
 ·intro h i a;rw[cH,aN a];exact h _ (bO a)
section
variable{X:Cx}
def b0a(hc:X.calm=true):CallR X (.builtin "all") (λxs H Q=>∃(p:Addr)(bs:List Bool),xs=[.ref p]/\SqL X.K H p (bs.map V.bl)/\Q (.bl (bs.all id)) H):=by
 intro n s σ H M R Q I r h;obtain⟨p,a,rfl,E,q⟩:=h;obtain⟨u,rfl,y⟩:=a2L r;cases y;obtain⟨d,l,g,_⟩:=I.list E;have B:p<s.heap.objs.size:=by obtain⟨o,_,e,_⟩:=g;exact Heap.lt_size e
 refine call_all_walk (iA g.isList ?_);have D:X.A.in1.handled=none:=I.ok.hd hc;have t:(s.heap.push { cls:=.type "list_iterator",data:=.fields #[.ref p,rawInt 0] }).IsList p d.toArray:=by
  obtain⟨o,e,c⟩:=g.isList;exact⟨o,Heap.get?_push_of_some _ e,c⟩
 refine⟨_,_,_,_,_,_,λi=>a.getD i false,rfl,Walks.list D s.heap.objs.size p (aQ B) d.toArray,⟨⟨_,Heap.get?_push_size _ rfl,rfl,rfl⟩,t⟩,?_,?_⟩
 ·intro i v N L J C j;obtain⟨x,f,w⟩:=Vals.tog l (by simpa using C);rw[aK]at f;cases hb:a[i]? with
  |none=>rw[hb]at f;cases f
  |some b=>
   rw[hb]at f;cases f;cases w;refine gH ?_
   have:a.getD i false=b:=by simp_all
   dsimp only at j;rw[this]at j;exact j
 ·intro G F k;have e:(bI d.toArray.size).all (λi=>a.getD i false)=a.all id:=by
   have z:d.toArray.size=a.length:=by rw[bB,<- l.length,aB]
   rw[z];exact a99 a
  rw[e];exact⟨.bl _,H,I.kept (λb o m=>k b o (by simpa using aQ (Heap.lt_size m)) (Heap.get?_push_of_some _ m)),rfl,q⟩
def b7L:OpR X (fN .Is) (λx y H Q=>∃a b,x=.bl a/\y=.bl b/\Q (.bl (a==b)) H):=by
 intro d s σ H x y v u Q I c e h;obtain⟨a,b,rfl,rfl,q⟩:=h;cases c;cases e;exact wpAny_is_plain rfl (a0n I q (by cases a<;>cases b<;>rfl))
def b49:MtR X "str.join" (λx vs H Q=>∃(z:Str)(p:Addr)(ys:List Str),x=.str z/\vs=[.ref p]/\SqL X.K H p (ys.map V.str)/\(ys.map (·.length)).sum+ys.length*z.length<=16777216/\Q (.str (Txt.join z ys)) H):=by
 intro c s σ H x m v n Q I a g h;obtain⟨z,p,o,rfl,rfl,d,i,q⟩:=h;obtain⟨t,rfl⟩:=a;obtain⟨u,rfl,f⟩:=a2L g;cases f;obtain⟨j,b,e,_⟩:=I.list d;exact join_list e.isList (by simpa using a8x b) i λl k=>⟨.str _,H,I.tok k,⟨_,rfl⟩,q⟩
def rSlS:V->Option Int->Option Int->Hp->VK->Prop:=λx lo hi H Q=>∃z,x=.str z/\z.length<=fH/\Q (.str (Txt.slice z lo hi)) H
def b7M:SlR X rSlS:=by
 intro g s σ H x v A B f b C Q I w p y m h;obtain⟨z,rfl,r,q⟩:=h;obtain⟨t,rfl⟩:=w;obtain⟨o,e,c,d⟩:=p;have a:∀f b,Q _ H->(Txt.slice z f b).length<=fH/\∀n k,EP X g σ Q (.str (Txt.slice z f b) n) { s with toks:=k }:=λf b q=>
  ⟨aM (Txt.slice_le z _ _) r,λn k=>⟨.str _,H,I.tok k,⟨_,rfl⟩,q⟩⟩
 cases y with
 |none=>
  cases m with
  |none=>exact⟨"str",_,F.slot_str_getitem.lookup,h7 _ _ _,iV (l:=none) (u:=none) (st:=none) ⟨o,e,c,d⟩ rfl (iW (a _ _ q))⟩
  |int j u=>exact⟨"str",_,F.slot_str_getitem.lookup,h7 _ _ _,iV (l:=none) (u:=some (j,u)) (st:=none) ⟨o,e,c,d⟩ rfl (iW (a _ _ q))⟩
 |int i v=>
  cases m with
  |none=>exact⟨"str",_,F.slot_str_getitem.lookup,h7 _ _ _,iV (l:=some (i,v)) (u:=none) (st:=none) ⟨o,e,c,d⟩ rfl (iW (a _ _ q))⟩
  |int j u=>exact⟨"str",_,F.slot_str_getitem.lookup,h7 _ _ _,iV (l:=some (i,v)) (u:=some (j,u)) (st:=none) ⟨o,e,c,d⟩ rfl (iW (a _ _ q))⟩
end
end L2
namespace L3
open PySem PySem.Spec PyProof.Rows L2
section
variable{X:Cx}
def o_is:OpQ X (fN .Is) (zIs false):=a2P (op_isN.or b7L) λx y H Q g=>g.un λa b G R d c e h f=>by
 cases b with
 |non=>rw[a0A]at c;exact .inl ⟨c,by rw[a4E d];exact f _ _ _ _ h (by rw[a0u];rfl) e (.refl _ _)⟩
 |bl b=>
  cases a with
  |bl a=>rw[a0u]at d c;exact .inr ⟨_,_,d,c,f _ _ _ _ h.2 (by rw[a0u]) e (.refl _ _)⟩
  |_=>exact aH h
 |_=>exact aH h
def b5a:OpQ X (fN .IsNot) (zIs true):=a2P b4u λx y H Q d=>d.un λa b G R g c e h f=>by
 cases b with
 |non=>rw[a0A]at c;exact⟨c,by rw[a4E g];exact f _ _ _ _ h (by rw[a0u];rfl) e (.refl _ _)⟩
 |bl b=>
  cases a with
  |bl a=>exact nomatch h.1
  |_=>exact aH h
 |_=>exact aH h
def zIx:R3:=λx y G R=>match x,y with
 |.ref p,.int i=>∃ws w,G p=some (.lst ws)/\atI ws i=some w/\R w G
 |.scr _ ns,.int i=>∃n,atI ns i=some n/\R (.int n) G
 |.tup ws,.int i=>∃w,atI ws i=some w/\R w G
 |.str z,.int i=>∃c,z.length<=fH/\atI z.cps.toList i=some c/\R (.str ⟨#[c]⟩) G
 |_,_=>False
def b0b{K:Fg}(r:Reps K H ws vs)(h:atI ws i=some w):∃v,atI vs i=some v/\Rep K H w v:=by
 unfold atI at h ⊢;rw[<- r.length];cases e:ixN ws.length i with
 |none=>rw[e]at h;cases h
 |some j=>
  rw[e]at h;exact r.get h
def b5b{α β:Type}{f:α->β}{xs:List α}{x:α}(h:atI xs i=some x):atI (xs.map f) i=some (f x):=by
 unfold atI at h ⊢;rw[aB];cases e:ixN xs.length i with
 |none=>rw[e]at h;cases h
 |some j=>
  rw[e]at h;have a:xs[j]?=some x:=h
  show _[j]?=some _
  rw[aK,a];rfl
def x_ix:IxQ X zIx:=b4L b65 λx y H Q s=>s.un λa b G R d f g h i=>by
  cases a<;>cases b<;>first
    |exact aH h
    | (rw[a0x]at d
       obtain⟨z,w,e,m,h⟩:=h;obtain⟨q,k,j⟩:=g _ _ e;obtain⟨v,o,l⟩:=b0b j m;exact .inl ⟨_,_,_,v,d,f,SqL.of k,o,i _ _ _ _ h l g (.refl _ _)⟩)
    | (rw[a2O]at d
       obtain⟨n,u,h⟩:=h;exact .inl ⟨_,_,_,_,d.1,f,d.2.sq,b5b u,i _ _ _ _ h (by rw[a0l]) g (.refl _ _)⟩)
    | (rw[a1D]at d
       obtain⟨p,q,e,k,j⟩:=d;obtain⟨w,m,h⟩:=h;obtain⟨v,o,l⟩:=b0b j m;exact .inr (.inl ⟨p,q,_,v,e,f,SqT.of k,o,i _ _ _ _ h l g (.refl _ _)⟩))
    | (rw[a0s]at d
       obtain⟨c,r,t,h⟩:=h;exact .inr (.inr ⟨_,_,c,d,f,r,t,i _ _ _ _ h (by rw[a0s]) g (.refl _ _)⟩))
noncomputable def cutZ{α:Type}(xs:List α)(lo hi:Option Int):List α:=(xs.drop (HT.sIx xs.length 0 lo)).take (HT.sIx xs.length xs.length hi-HT.sIx xs.length 0 lo)
def b5c(xs:List V)(lo hi:Option Int):cutV xs lo hi=cutZ xs lo hi:=rfl
def a6H{α:Type}(xs:List α)(lo hi:Option Int):(cutZ xs lo hi).length<=xs.length:=by
 unfold cutZ;rw[aR,bt];omega
def Reps.cut{K:Fg}(r:Reps K H ws vs)(lo hi:Option Int):Reps K H (cutZ ws lo hi) (cutV vs lo hi):=by
 unfold cutZ cutV;rw[<- r.length];exact (r.drop _).take _
def b2c{α β:Type}(f:α->β)(xs:List α)(lo hi:Option Int):cutZ (xs.map f) lo hi=(cutZ xs lo hi).map f:=by
 unfold cutZ;rw[aB,List.map_take,List.map_drop]
def zSl:L3r:=λx lo hi G R=>match x with
 |.ref p=>∃ws,G p=some (.lst ws)/\∀t,G t=none->R (.ref t) (put G t (.lst (cutZ ws lo hi)))
 |.scr _ ns=>∀t,G t=none->R (.ref t) (put G t (.lst ((cutZ ns lo hi).map Z.int)))
 |.tup ws=>¬ (HT.sIx ws.length 0 lo=0/\HT.sIx ws.length ws.length hi=ws.length)/\R (.tup (cutZ ws lo hi)) G
 |.str z=>z.length<=fH/\R (.str (Txt.slice z lo hi)) G
 |_=>False
def x_sl:SlQ X zSl:=b96 (sl_list.or (sl_tup.or b7M)) λx l k H Q m=>m.un λa G R c d h g=>by
 cases a with
 |ref p=>
  obtain⟨n,e,h⟩:=h;obtain⟨j,i,f⟩:=d _ _ e;exact .inl ⟨p,j,c,SqL.of i,λt b=>g _ _ _ _ (h t (d.out b)) (by rw[a0x]) (d.set (.new b) (a1p (f.cut l k) (.new b))) (.new b)⟩
 |scr p ns=>
  refine .inl ⟨p,_,c.1,c.2.sq,λt b=>?_⟩;rw[b5c,b2c];exact g _ _ _ _ (h t (d.out b)) (by rw[a0x]) (d.set (.new b) (a1p (a3F _) (.new b))) (.new b)
 |tup n=>
  obtain⟨p,j,e,i,f⟩:=c;exact .inr (.inl ⟨p,j,e,SqT.of i,by rw[<- f.length];exact h.1,λt b=>g _ _ _ _ h.2 (by rw[a1D];exact⟨t,_,rfl,a0j,(f.cut l k).mono (.new b)⟩) (d.hid b) (.new b)⟩)
 |str z=>
  exact .inr (.inr ⟨z,c,h.1,g _ _ _ _ h.2 (by rw[a0s]) d (.refl _ _)⟩)
 |_=>exact aH h
def zSet:Z3:=λo i v G R=>match o,i with
 |.ref p,.int k=>∃ws j,G p=some (.lst ws)/\ixN ws.length k=some j/\R (put G p (.lst (ws.set j v)))
 |_,_=>False
def c0h:SetQ X zSet:=b3B b1W λo i v H Q p=>p.un λa b w G R f g l k h q=>by
  cases a<;>cases b<;>first
    |exact aH h
    | (rw[a0x]at f
       obtain⟨r,j,e,m,h⟩:=h;obtain⟨n,c,d⟩:=k _ _ e;exact⟨_,n,_,j,f,g,c,by rw[<- d.length];exact m,q _ _ h (k.set (.lst c) (a1p (d.set l j) (.lst c))) (.lst c)⟩)
def zLen:List Z->Hq->K3->Prop:=λxs G R=>match xs with
 |[.str z]=>z.length<=fH/\R (.int z.length) G
 |[.ref p]=>∃ws,G p=some (.lst ws)/\R (.int ws.length) G
 |[.tup ws]=>R (.int ws.length) G
 |[.scr _ ns]=>R (.int ns.length) G
 |_=>False
def c0i:a14 X (.builtin "len") zLen:=a1n b1O λl H Q k=>k.un λj G R c a h d=>by
 match j,h with
 |[.str z],h=>
  obtain⟨v,rfl,r⟩:=c.one;exact⟨v,z.length,rfl,by rw[r];exact⟨h.1,rfl⟩,d _ _ _ _ h.2 (by rw[a0l]) a (.refl _ _)⟩
 |[.ref p],h=>
  obtain⟨v,rfl,r⟩:=c.one;obtain⟨i,e,h⟩:=h;obtain⟨g,f,b⟩:=a _ _ e;exact⟨v,i.length,rfl,by rw[r];exact .inl ⟨g,SqL.of f,b.length⟩,d _ _ _ _ h (by rw[a0l]) a (.refl _ _)⟩
 |[.tup i],h=>
  obtain⟨v,rfl,r⟩:=c.one;obtain⟨p,g,e,f,b⟩:=r;exact⟨v,i.length,rfl,by rw[e];exact .inr ⟨g,SqT.of f,b.length⟩,d _ _ _ _ h (by rw[a0l]) a (.refl _ _)⟩
 |[.scr p ns],h=>
  obtain⟨v,rfl,r⟩:=c.one;exact⟨v,ns.length,rfl,by rw[r.1];exact .inl ⟨_,r.2.sq,(aB ..).symm⟩,d _ _ _ _ h (by rw[a0l]) a (.refl _ _)⟩
def zMM(f:Int->Int->Int):List Z->Hq->K3->Prop:=λxs G R=>match xs with
 |[.int i,.int j]=>R (.int (f i j)) G
 |_=>False
def bMM{id:String}(hf:CallR X (.builtin id) (λxs H Q=>∃i j,xs=[.int i,.int j]/\Q (.int (f i j)) H)):a14 X (.builtin id) (zMM f):=a1n hf λl H Q d=>d.un λc G R e b h g=>by
 match c,h with
 |[.int i,.int j],h=>
  obtain⟨v,k,rfl,r,a⟩:=e.two;exact⟨i,j,by rw[r,a],g _ _ _ _ h (by rw[a0l]) b (.refl _ _)⟩
def c0j(hc:X.calm=true):a14 X (.builtin "max") (zMM λi j=>if j > i then j else i):=bMM (a9u hc)
def c0k(hc:X.calm=true):a14 X (.builtin "min") (zMM λi j=>if j<i then j else i):=bMM (a9v hc)
def zAll:List Z->Hq->K3->Prop:=λxs G R=>match xs with
 |[.ref p]=>∃bs:List Bool,G p=some (.lst (bs.map Z.bl))/\R (.bl (bs.all id)) G
 |_=>False
def b2d{K:Fg}:∀{bs:List Bool}{vs:List V},Reps K H (bs.map Z.bl) vs->vs=bs.map V.bl:=by intro z0;induction z0 with
 |nil=>intro vs h;rw[aX,a0m]at h;subst h;rfl
 |cons n ns I0=>
  intro vs h;obtain⟨v,r,rfl,a,b⟩:=h;rw[a,I0 b];rfl
def a3J{K:Fg}:∀{bs:List Str}{vs:List V},Reps K H (bs.map Z.str) vs->vs=bs.map V.str:=by intro z0;induction z0 with
 |nil=>intro vs h;rw[aX,a0m]at h;subst h;rfl
 |cons n ns I0=>
  intro vs h;obtain⟨v,r,rfl,a,b⟩:=h;rw[a,I0 b];rfl
def b7N(hc:X.calm=true):a14 X (.builtin "all") zAll:=a1n (b0a hc) λl H Q f=>f.un λd G R c a h j=>by
 match d,h with
 |[.ref p],h=>
  obtain⟨v,rfl,r⟩:=c.one;obtain⟨g,e,h⟩:=h;obtain⟨k,i,b⟩:=a _ _ e
  have:=b2d b
  subst this;exact⟨p,g,by rw[r],SqL.of i,j _ _ _ _ h (by rw[a0u]) a (.refl _ _)⟩
noncomputable def kit0(n T:String):Option Bool:=if (Value.type n==Value.type T)=true then some true else if PySem.W.kitMeta T=true then (PySem.fastBuiltinMro n).map (·.contains (.type T)) else none
def b7O{K:Fg}:PySem.W.kitOne K (.type n) (.type T)=kit0 n T:=rfl
noncomputable def tyN(G:Hq):Z->Option String
 |.non=>some "NoneType"
 |.bl _=>some "bool"
 |.int _=>some "int"
 |.str _=>some "str"
 |.tup _=>some "tuple"
 |.ref p=>match G p with
  |some (.lst _)=>some "list"
  |some (.dK _)=>some "dict"
  |_=>none
 |_=>none
def zIsT:List Z->Hq->K3->Prop:=λxs G R=>match xs with
 |[x,.ty T]=>∃n b,tyN G x=some n/\kit0 n T=some b/\R (.bl b) G
 |_=>False
def b2e{K:Fg}(h:tyN G x=some n)(r:Rep K H x v)(hg:RH K G H):TyOf K H v (.type n):=by
 cases x with
 |non=>rw[a0A]at r;subst r;cases h;exact .non
 |bl _=>rw[a0u]at r;subst r;cases h;exact .bl _
 |int _=>rw[a0l]at r;subst r;cases h;exact .int _
 |str _=>rw[a0s]at r;subst r;cases h;exact .str _
 |tup ws=>rw[a1D]at r;obtain⟨a,c,rfl,e,_⟩:=r;cases h;exact .tup e
 |ref p=>
  subst r;cases e:G p with
  |none=>simp[tyN,e]at h
  |some o=>
   cases o with
   |lst ws=>simp[tyN,e]at h;subst h;obtain⟨c,b,_⟩:=hg _ _ e;exact .lst b
   |dK kvs=>simp[tyN,e]at h;subst h;obtain⟨c,b,_⟩:=hg _ _ e;exact .dK b
   |ins C dx fs=>simp[tyN,e]at h
   |dF kvs=>simp[tyN,e]at h
   |dT ks=>simp[tyN,e]at h
 |ty _=>cases h
 |scr _ _=>cases h
def c0l:a14 X (.builtin "isinstance") zIsT:=a1n b17 λl H Q g=>g.un λf G R d a h i=>by
 match f,h with
 |[x,.ty T],h=>
  obtain⟨v,j,rfl,r,c⟩:=d.two;obtain⟨n,b,e,k,h⟩:=h;exact⟨v,T,.type n,b,by rw[c],b2e e r a,by rw[b7O];exact k,i _ _ _ _ h (by rw[a0u]) a (.refl _ _)⟩
def a45:Z->List Z->Hq->K3->Prop:=λx xs G R=>match x,xs with
 |.ref p,[y]=>∃ws,G p=some (.lst ws)/\ws.length<fH/\R .non (put G p (.lst (ws++[y])))
 |_,_=>False
def a7y:MtQ X "list.append" a45:=a6B a5I λx n H Q j=>j.un λw k G R c f d h l=>by
 match w,k,h with
 |.ref p,[y],h=>
  obtain⟨v,rfl,r⟩:=f.one;obtain⟨m,e,g,h⟩:=h;obtain⟨i,a,b⟩:=d _ _ e;exact⟨p,i,v,c,rfl,a,by rw[<- b.length];exact g,l _ _ _ _ h (by rw[a0A]) (d.set (.lst a) (a1p (b.append (.cons r .nil)) (.lst a))) (.lst a)⟩
def b0c:Z->List Z->Hq->K3->Prop:=λx xs G R=>match x,xs with
 |.ref p,[.ref q]=>∃ws ys,G p=some (.lst ws)/\G q=some (.lst ys)/\ws.length+ys.length<=fH/\R .non (put G p (.lst (ws++ys)))
 |_,_=>False
def b2f:MtQ X "list.extend" b0c:=a6B a9I λx u H Q m=>m.un λw n G R d i f h s=>by
 match w,n,h with
 |.ref p,[.ref q],h=>
  obtain⟨v,rfl,r⟩:=i.one;obtain⟨t,y,e,k,j,h⟩:=h;obtain⟨l,a,c⟩:=f _ _ e;obtain⟨o,g,b⟩:=f _ _ k;exact⟨p,q,l,o,d,by rw[r],a,g,by rw[<- c.length,<- b.length];exact j,s _ _ _ _ h (by rw[a0A]) (f.set (.lst a) (a1p (c.append b) (.lst a))) (.lst a)⟩
def b7P:Z->List Z->Hq->K3->Prop:=λx xs G R=>match x,xs with
 |.str z,[.ref p]=>∃ys:List Str,G p=some (.lst (ys.map Z.str))/\(ys.map (·.length)).sum+ys.length*z.length<=16777216/\R (.str (Txt.join z ys)) G
 |_,_=>False
def b3I:MtQ X "str.join" b7P:=a6B b49 λx n H Q i=>i.un λw f G R a j b h l=>by
 match w,f,h with
 |.str z,[.ref p],h=>
  obtain⟨v,rfl,r⟩:=j.one;obtain⟨g,e,k,h⟩:=h;obtain⟨m,d,c⟩:=b _ _ e
  have:=a3J c
  subst this;exact⟨z,p,g,a,by rw[r],SqL.of d,k,l _ _ _ _ h (by rw[a0s]) b (.refl _ _)⟩
def b7Q:E3:=λ_ G R=>∀p,G p=none->R (.ref p) (put G p (.dK []))
def b3J:QE X (.Dict [] [] pos) b7Q:=⟨a0X b11 fun τ H Q ⟨σ,G,R,d,b,h,c⟩ p a=>c _ _ _ _ (h p (b.out a)) (by rw[a0x]) (b.set (.new a) ⟨[],a0j,rfl,.nil⟩) (.new a)⟩
noncomputable def a3e(x:Str):List Z:=x.cps.toList.map λc=>.str ⟨#[c]⟩
def wkS(x:Z)(G:Hq)(R:List Z->(Hq->Prop)->Hq->Prop):Prop:=match x with
 |.str z=>R (a3e z) (λ_=>True) G
 |_=>False
def iS(tl:E3):I3:=fun σ G R=>tl σ G λx G1=>wkS x G1 R
def b0d{K:Fg}:a4i K (a3e x) (λ_=>True) (Its x) H0:=λi G H f t j k=>by
 have e:(a3e x).length=x.cps.size:=by unfold a3e;rw[aB,bL]
 refine⟨λh=>by rw[h,e];rfl,λw a=>?_⟩;unfold a3e at a;rw[aK]at a;cases hc:x.cps.toList[i]? with
 |none=>rw[hc]at a;cases a
 |some c=>
  rw[hc]at a;cases a;have b:x.cps[i]?=some c:=by simp_all
  refine⟨(Array.getElem?_eq_some_iff.mp b).1,?_⟩;rintro v l ⟨rfl,g,d,rfl⟩;rw[b]at d;cases d;exact⟨by rw[a0s],f,.refl _ _⟩
def b7R(hl:QE X l tl):QI X tg l (iS tl):=a5L (b7K hl.p) fun τ H j g=>g.un fun σ G R f e h i=>by
 refine⟨σ,G,_,f,e,h,λw m v k a c b d=>?_⟩;cases w with
 |str x=>
  exact⟨x,c,i _ _ _ _ _ a b0d b d⟩
 |_=>exact aH a
end
section
variable{σ:S3}{G:Hq}{R:K3}{Rb:Bool->Hq->Prop}{Ra:List Z->Hq->Prop}{nx bk ct:C3}{rt:K3}{t u:X3}{te ta tb tc to ti:E3}{c d:T3}{al:A3}{r r':R3}{w x y:Z}{i:Nat}
def c0m(e:σ[i]?=some (some w))(h:R w G):uVar i σ G R:=⟨w,e,h⟩
def i_c(h:R w G):uC w σ G R:=h
def i_op(h:ta σ G λx G1=>tb σ G1 λy G2=>r x y G2 R):uOp r ta tb σ G R:=h
def i_un{r:Z->Hq->K3->Prop}(h:ta σ G λx G1=>r x G1 R):uUn r ta σ G R:=h
def b7S(h:ta σ G λx G1=>∃k,x=.bl k/\Rb k G1):a9Z ta σ G Rb:=h
def b5d(h:ta σ G λx G1=>tb σ G1 λy G2=>r x y G2 λz G3=>∃k,z=.bl k/\(if k=true then tc σ G3 λw G4=>r' y w G4 R else R (.bl false) G3)):a7w r r' ta tb tc σ G R:=h
def c0n(h:c σ G λk G1=>if k=true then d σ G1 Rb else Rb false G1):uAnd c d σ G Rb:=h
def i_or(h:c σ G λk G1=>if k=true then Rb true G1 else d σ G1 Rb):uOr c d σ G Rb:=h
def c0o(h:c σ G λk G1=>Rb (!k) G1):uNot c σ G Rb:=h
def b7T(h:ta σ G λx G1=>∃c,x=.bl c/\if c=true then tb σ G1 R else R (.bl false) G1):b7q ta tb σ G R:=h
def c0p(h:ta σ G λx G1=>∃c,x=.bl c/\if c=true then R (.bl true) G1 else tb σ G1 R):uOrV ta tb σ G R:=h
def i_if(h:c σ G λk G1=>if k=true then ta σ G1 R else tb σ G1 R):uIf c ta tb σ G R:=h
def c0q(h:ta σ G λx G1=>tru x G1 Rb):uTru ta σ G Rb:=h
def b3K(e:G p=some (.lst ws))(h:Rb (!ws.isEmpty) G):tru (.ref p) G Rb:=.inl ⟨ws,e,h⟩
def i_sl{r:L3r}(h:te σ G λx G1=>tl σ G1 λl G2=>th σ G2 λu G3=>r x l u G3 R):uSl r te tl th σ G R:=h
def b2g(h:Ro none G):a90 σ G Ro:=h
def b7U(h:te σ G λx G1=>∃i,x=.int i/\Ro (some i) G1):b7u te σ G Ro:=h
def c0r(h:Ra [] G):uNil σ G Ra:=h
def b7V(h:ta σ G λx G1=>al σ G1 λxs G2=>Ra (x::xs) G2):b4S ta al σ G Ra:=h
def c0s(h:al σ G λxs G1=>xs.length<=fH/\R (.tup xs) G1):uTup al σ G R:=h
def c0t(h:al σ G λxs G1=>xs.length<=fH/\∀p,G1 p=none->R (.ref p) (put G1 p (.lst xs))):uLst al σ G R:=h
def i_cb{r:List Z->Hq->K3->Prop}(h:al σ G λws G1=>r ws G1 R):uCB r al σ G R:=h
def i_bm{r:Z->List Z->Hq->K3->Prop}(h:to σ G λx G1=>tyZ T x G1/\al σ G1 λxs G2=>r x xs G2 R):uBM T r to al σ G R:=h
def b7W(h:al σ G λws G1=>sp ws G1 R):b4V sp al σ G R:=h
def b7X(h:nx σ G):b4W nx rt bk ct σ G:=h
def c0u(h:t (u nx rt bk ct) rt bk ct σ G):uSeq t u nx rt bk ct σ G:=h
def b7Y(h:te σ G λ_ G1=>nx σ G1):b7D te nx rt bk ct σ G:=h
def c0v(h:te σ G rt):uRet te nx rt bk ct σ G:=h
def c0w(h:c σ G λb G1=>if b=true then t nx rt bk ct σ G1 else u nx rt bk ct σ G1):uIfS c t u nx rt bk ct σ G:=h
def c0x(h:te σ G λx G1=>∃σ',a3H pt x σ=some σ'/\nx σ' G1):uAsg te pt nx rt bk ct σ G:=h
def c0y{r:Z3}(h:te σ G λw G1=>to σ G1 λo G2=>ti σ G2 λi G3=>r o i w G3 λG4=>nx σ G4):uPut te to ti r nx rt bk ct σ G:=h
def c0z(e:σ[i]?=some (some x))(h:te σ G λy G1=>r x y G1 λz G2=>nx (σ.set i (some z)) G2):uAug i te r nx rt bk ct σ G:=⟨x,e,h⟩
def a6I(M:C3)(h:t M rt bk ct σ G)(h':∀σ' G',M σ' G'->u nx rt bk ct σ' G'):uCut t u nx rt bk ct σ G:=⟨M,h,h'⟩
def b7Z(h:R (.int (a+b)) G):zAdd (.int a) (.int b) G R:=h
def a7z(z:a.length+b.length<=fH)(h:R (.str (a++b)) G):zAdd (.str a) (.str b) G R:=⟨z,h⟩
def a5N(e:xs≠[])(z:xs.length+ys.length<=fH)(h:R (.tup (xs++ys)) G):zAdd (.tup xs) (.tup ys) G R:=⟨e,z,h⟩
def a5O(e:G p=some (.lst xs))(e':G q=some (.lst ys))(z:xs.length+ys.length<=fH)(h:∀t,G t=none->R (.ref t) (put G t (.lst (xs++ys)))):zAdd (.ref p) (.ref q) G R:=⟨xs,ys,e,e',z,h⟩
def i_I(k:C a b)(h:R (g a b) G):zI C g (.int a) (.int b) G R:=⟨k,h⟩
def i_I0(h:R (g a b) G):zI0 g (.int a) (.int b) G R:=h
def c0A(h:R (.int (-a)) G):zNeg (.int a) G R:=h
def i_CI(h:R (.bl (f a b)) G):zC f g (.int a) (.int b) G R:=h
def i_CS(h:R (.bl (g a b)) G):zC f g (.str a) (.str b) G R:=h
def b5e(h:R (.bl (decide (x=.non))) G):zIs false x .non G R:=h
def b70(h:R (.bl (!decide (x=.non))) G):zIs true x .non G R:=h
def b71(h:R (.bl (f (decide (a=b)))) G):zEq f (.int a) (.int b) G R:=h
def c0B(h:R (.bl (f (decide (a=b)))) G):zEq f (.str a) (.str b) G R:=h
def b2h(e:G p=some (.lst xs))(e':G q=some (.lst ys))(f1:xs.all (flat 8)=true)(f2:ys.all (flat 8)=true)(h:R (.bl (f (decide (xs=ys)))) G):zEq f (.ref p) (.ref q) G R:=⟨xs,ys,e,e',f1,f2,h⟩
def a1i(e:G p=some (.lst ws))(a:atI ws k=some w)(h:R w G):zIx (.ref p) (.int k) G R:=⟨ws,w,e,a,h⟩
def c0C(a:atI ns k=some n)(h:R (.int n) G):zIx (.scr p ns) (.int k) G R:=⟨n,a,h⟩
def a18(a:atI ws k=some w)(h:R w G):zIx (.tup ws) (.int k) G R:=⟨w,a,h⟩
def b0e(l:z.length<=fH)(a:atI z.cps.toList k=some ch)(h:R (.str ⟨#[ch]⟩) G):zIx (.str z) (.int k) G R:=⟨ch,l,a,h⟩
def b72{lo hi:Option Int}(l:z.length<=fH)(h:R (.str (Txt.slice z lo hi)) G):zSl (.str z) lo hi G R:=⟨l,h⟩
def c0D{lo hi:Option Int}(e:G p=some (.lst ws))(h:∀t,G t=none->R (.ref t) (put G t (.lst (cutZ ws lo hi)))):zSl (.ref p) lo hi G R:=⟨ws,e,h⟩
def c0E{lo hi:Option Int}(h:∀t,G t=none->R (.ref t) (put G t (.lst ((cutZ ns lo hi).map Z.int)))):zSl (.scr p ns) lo hi G R:=h
def a8y{lo hi:Option Int}(n:¬ (HT.sIx ws.length 0 lo=0/\HT.sIx ws.length ws.length hi=ws.length))(h:R (.tup (cutZ ws lo hi)) G):zSl (.tup ws) lo hi G R:=⟨n,h⟩
def c0F(e:G p=some (.lst ws))(a:ixN ws.length k=some j)(h:Rg (put G p (.lst (ws.set j w)))):zSet (.ref p) (.int k) w G Rg:=⟨ws,j,e,a,h⟩
def b73(h:∀p,G p=none->R (.ref p) (put G p (.dK []))):b7Q σ G R:=h
def b0f(l:z.length<=fH)(h:R (.int z.length) G):zLen [.str z] G R:=⟨l,h⟩
def a5P(e:G p=some (.lst ws))(h:R (.int ws.length) G):zLen [.ref p] G R:=⟨ws,e,h⟩
def b74(h:R (.int ns.length) G):zLen [.scr p ns] G R:=h
def i_mm(h:R (.int (f a b)) G):zMM f [.int a,.int b] G R:=h
def c0G{bs:List Bool}(e:G p=some (.lst (bs.map Z.bl)))(h:R (.bl (bs.all id)) G):zAll [.ref p] G R:=⟨bs,e,h⟩
def a0F(e:G p=some (.lst ws))(z:ws.length<fH)(h:R .non (put G p (.lst (ws++[y])))):a45 (.ref p) [y] G R:=⟨ws,e,z,h⟩
def b2i(e:G p=some (.lst ws))(e':G q=some (.lst ys))(z:ws.length+ys.length<=fH)(h:R .non (put G p (.lst (ws++ys)))):b0c (.ref p) [.ref q] G R:=⟨ws,ys,e,e',z,h⟩
def b75(e:G p=some (.lst (ys.map Z.str)))(l:(ys.map (·.length)).sum+ys.length*z.length<=16777216)(h:R (.str (Txt.join z ys)) G):b7P (.str z) [.ref p] G R:=⟨ys,e,l,h⟩
def c0H{P:Prop}(h:P):tyZ "str" (.str z) G/\P:=⟨rfl,h⟩
def a1H{P:Prop}(e:G p=some (.lst ws))(h:P):tyZ "list" (.ref p) G/\P:=⟨.inl ⟨rfl,ws,e⟩,h⟩
def i_nm(h:nx (σ.set j (some w)) G):∃σ',a3H (.nm j) w σ=some σ'/\nx σ' G:=⟨_,rfl,h⟩
def c0I(e:G q=some (.lst ws))(f1:flat 8 x=true)(f2:ws.all (flat 8)=true)(h:R (.bl (f (decide (x∈ws)))) G):zIn f x (.ref q) G R:=by cases x<;>exact⟨ws,e,f1,f2,h⟩
def b76{tb:X3}(h:wi σ G λws ok G1=>FORB ws ok pt tb nx rt σ G1):uFor wi pt tb nx rt bk ct σ G:=h
def c0J(h:wi σ G λws ok G1=>∀D,G1 D=none->LCB ws ok cap pt tt te σ R D G1):uLC wi cap pt tt te σ G R:=h
variable{Ri:List Z->(Hq->Prop)->Hq->Prop}
def i_iL(h:te σ G λx G1=>wkL x G1 Ri):iL te σ G Ri:=h
def i_iT(h:te σ G λx G1=>wkT x G1 Ri):iT te σ G Ri:=h
def i_iS(h:te σ G λx G1=>wkS x G1 Ri):iS te σ G Ri:=h
def c0K(h:al σ G λws G1=>∃j:Int,ws=[.int j]/\-(2 ^ 62)<=j/\j<2 ^ 62/\Ri (rng 0 j.toNat) (λ_=>True) G1):iR1 al σ G Ri:=h
def c0L(h:al σ G λws G1=>∃i j:Int,ws=[.int i,.int j]/\(-(2 ^ 62)<=i/\i<2 ^ 62/\-(2 ^ 62)<=j/\j<2 ^ 62)/\Ri (rng i (j-i).toNat) (λ_=>True) G1):iR2 al σ G Ri:=h
def a0E(e:G p=some (.lst ws))(h:Ri ws (λG=>G p=some (.lst ws)) G):wkL (.ref p) G Ri:=⟨ws,e,h⟩
def c0M(h:Ri ws (λ_=>True) G):wkT (.tup ws) G Ri:=h
def c0N(h:Ri (a3e z) (λ_=>True) G):wkS (.str z) G Ri:=h
def i_tt(h:Rb true G):uTT σ G Rb:=h
end
def ifD{p A B:Prop}[Decidable p](h1:p->A)(h2:¬ p->B):if decide p=true then A else B:=by simp_all
def ifN{p A B:Prop}[Decidable p](h1:¬ p->A)(h2:p->B):if (!decide p)=true then A else B:=by simp_all
def ifB{A B:Prop}(h1:b=true->A)(h2:b=false->B):if b=true then A else B:=by simp_all
def ifNB{A B:Prop}(h1:b=false->A)(h2:b=true->B):if (!b)=true then A else B:=by grind
def ifT{A B:Prop}(h:A):if true=true then A else B:=by rw[if_pos rfl];exact h
def ifF{A B:Prop}(h:B):if false=true then A else B:=by rw[if_neg (by decide)];exact h
def ifNN{A B:Prop}(h:A):if decide (Z.non=Z.non)=true then A else B:=by simp_all
def ifNI{A B:Prop}(h:B):if decide (Z.int i=Z.non)=true then A else B:=by rw[if_neg (by simp)];exact h
def ifMN{A B:Prop}(h:B):if (!decide (Z.non=Z.non))=true then A else B:=by rw[if_neg (by simp)];exact h
def ifMI{A B:Prop}(h:A):if (!decide (Z.int i=Z.non))=true then A else B:=by rw[if_pos (by simp)];exact h
def ifMU{A B:Prop}(h:A):if (!decide (Z.tup i=Z.non))=true then A else B:=by rw[if_pos (by simp)];exact h
def at0{α:Type}{a:α}{r:List α}:atI (a::r) 0=some a:=a1f (j:=0) rfl
def at1{α:Type}{a b:α}{r:List α}:atI (a::b::r) 1=some b:=a1f (j:=1) rfl
def at2{α:Type}{a b c:α}{r:List α}:atI (a::b::c::r) 2=some c:=a1f (j:=2) rfl
def Sm(G G':Hq):Prop:=∀b o,G b=some o->G' b=some o
def Sm.refl(G:Hq):Sm G G:=λ_ _ h=>h
def Sm.trans(a:Sm G G1)(b:Sm G1 G2):Sm G G2:=λc o h=>b c o (a c o h)
def Sm.get(s:Sm G G')(h:G b=some o):G' b=some o:=s b o h
def Sm.new(h:G p=none):Sm G (put G p o):=λ_ _ e=>a0b e h
def Sm.free(s:Sm G G')(h:G' p=none):G p=none:=by
 cases e:G p with
 |none=>rfl
 |some o=>rw[s p o e]at h;cases h
def Kq(r:Addr)(G G':Hq):Prop:=∀b o,G b=some o->b≠r->G' b=some o
def Kq.refl(r:Addr)(G:Hq):Kq r G G:=λ_ _ h _=>h
def Kq.trans(a:Kq r G G1)(b:Kq r G1 G2):Kq r G G2:=λc o h n=>b c o (a c o h n) n
def Kq.new(h:G p=none):Kq r G (put G p o):=λ_ _ e _=>a0b e h
def Kq.at:Kq r G (put G r o):=λ_ _ e n=>by rw[a0e n];exact e
def Sm.kq(s:Sm G G'):Kq r G G':=λb o e _=>s b o e
noncomputable def Sm.put(s:Sm G G')(h:G p=none):Sm G (put G' p o):=λb u e=>by rw[a0e (a0d e h)];exact s b u e
end L3
set_option maxHeartbeats 4000000
namespace Tim
open PySem PyProof.Rows
abbrev KF:=Keyed->Int
noncomputable def Kk(κ:KF)(xs:Array Keyed)(i:Nat):Int:=match xs[i]? with
 |some p=>κ p
 |none=>0
section
variable{κ:KF}{xs ys:Array Keyed}{i j:Nat}{p:Keyed}
def a6J(h:xs[i]?=some p):Kk κ xs i=κ p:=by unfold Kk;rw[h]
def a3K(h:xs[i]?=ys[j]?):Kk κ xs i=Kk κ ys j:=by unfold Kk;rw[h]
end
def LtOk(M:Model)(A:Around)(E:Value->Shared->Prop)(s:Shared)(κ:KF)(k0:gi)(ajj:Array Keyed):Prop:=
 ∀x y,x∈ajj.toList->y∈ajj.toList->∀(st:SortSt)(Q:Option Bool->SortSt->Prop),kindOf st=k0->Q (some (decide (κ x<κ y))) st->wpS M A E s (lt' x y) Q st
structure TB (k0:gi) (ajj:Array Keyed) (st:SortSt):Prop where
 pm:(arrOf st).Perm ajj
 kd:kindOf st=k0
 fl:gb st=none
def TB.sz{st:SortSt}(h:TB k0 ajj st):(arrOf st).size=ajj.size:=h.pm.size_eq
def TB.mem{st:SortSt}(h:TB k0 ajj st){i:Nat}(e:(arrOf st)[i]?=some p):p∈ajj.toList:=by
 have a:p∈(arrOf st).toList:=by rw[eD];exact Array.mem_of_getElem? e
 exact (cU.mp h.pm).mem_iff.mp a
def TB.arr{st:SortSt}(h:TB k0 ajj st)(hp:xs.Perm (arrOf st)):TB k0 ajj (setArr st xs):=⟨hp.trans h.pm,h.kd,h.fl⟩
section
variable{M:Model}{A:Around}{E:Value->Shared->Prop}{s:Shared}{κ:KF}{k0:gi}{ajj:Array Keyed}{st:SortSt}
def a0D(e:arr[i]?=some p)(h:Q p st):wpS M A E s (elem' arr i) Q st:=by
 rw[elem'_eq,e];exact fJ h
def a5Q(L:LtOk M A E s κ k0 ajj)(B:TB k0 ajj st)(hi:i<ajj.size)(hj:j<ajj.size)
  (h:Q (some (decide (Kk κ (arrOf st) i<Kk κ (arrOf st) j))) st):wpS M A E s (ltAt' i j) Q st:=by
 have b:_[i]?=some ((arrOf st)[i]'(B.sz▸hi)):=getElem?_pos ..;have a:(arrOf st)[j]?=some ((arrOf st)[j]'(B.sz▸hj)):=getElem?_pos ..;refine fI (gj (fI (a0D b (fI (a0D a (L _ _ (B.mem b) (B.mem a) st Q B.kd ?_))))));rw[a6J b,a6J a]at h;exact h
end
noncomputable def a1I:Bool->Keyed->Array Keyed->Nat->Nat->Nat->StateT SortSt Sem (Option Nat):=sortPriv% PySem.Builtin.gallop
noncomputable def bey(lft:Bool)(ky:Keyed)(ar:Array Keyed)(bs:Nat)(q:Nat):StateT SortSt Sem (Option Bool):=do
  let z <- elem' ar (bs+q)
  if lft then lt' z ky else return (<- lt' ky z).map (!·)
def a8z(lft:Bool)(ky:Keyed)(ar:Array Keyed)(bs n hnt:Nat):a1I lft ky ar bs n hnt=(do
 let mut lst:=0
 let mut oo:=1
 let mut l:=0
 let mut h:=0
 let some rgt <- bey lft ky ar bs hnt |return none
 if rgt then
  let mx:=n-hnt
  for _ in [0:n] do
   if oo>=mx then break
   let some mo <- bey lft ky ar bs (hnt+oo) |return none
   if !mo then break
   lst:=oo
   oo:=2*oo+1
  l:=hnt+lst+1
  h:=hnt+min oo mx
 else
  let mx:=hnt+1
  for _ in [0:n] do
   if oo>=mx then break
   let some fo <- bey lft ky ar bs (hnt-oo) |return none
   if fo then break
   lst:=oo
   oo:=2*oo+1
  l:=hnt+1-min oo mx
  h:=hnt-lst
 for _ in [0:n] do
  if l>=h then break
  let m:=l+(h-l) / 2
  let some mo <- bey lft ky ar bs m |return none
  if mo then l:=m+1 else h:=m
 return some h):=rfl
noncomputable def bq(lft:Bool)(k x:Int):Bool:=if lft then decide (x<k) else !decide (k<x)
section
variable{M:Model}{A:Around}{E:Value->Shared->Prop}{s:Shared}{κ:KF}{k0:gi}{ajj:Array Keyed}{st:SortSt}
def b0g(L:LtOk M A E s κ k0 ajj)(hk:kindOf st=k0)(hm:ky∈ajj.toList)(ha:∀p∈ar.toList,p∈ajj.toList)(hq:bs+q<ar.size)
  (h:Q (some (bq lft (κ ky) (Kk κ ar (bs+q)))) st):wpS M A E s (bey lft ky ar bs q) Q st:=by
 have b:ar[bs+q]?=some (ar[bs+q]'hq):=getElem?_pos ..;have a:ar[bs+q]∈ajj.toList:=ha _ (by simp);refine fI (a0D b ?_);rw[a6J b]at h;cases lft with
 |true=>
  exact L _ _ a hm st Q hk h
 |false=>
  exact fI (L _ _ hm a st _ hk (fJ h))
def a1P(L:LtOk M A E s κ k0 ajj)(hk:kindOf st=k0)(hm:ky∈ajj.toList)(ha:∀p∈ar.toList,p∈ajj.toList)
  (hn:bs+n<=ar.size) (hh:hnt<n) (mono:∀i j,i<=j->j<n->Kk κ ar (bs+i)<=Kk κ ar (bs+j))
  (h:∀h,h<=n->(∀i,i<h->bq lft (κ ky) (Kk κ ar (bs+i))=true)->(∀i,h<=i->i<n->bq lft (κ ky) (Kk κ ar (bs+i))=false)->Q (some h) st):wpS M A E s (a1I lft ky ar bs n hnt) Q st:=by
 have t:∀i j,i<=j->j<n->bq lft (κ ky) (Kk κ ar (bs+j))=true->bq lft (κ ky) (Kk κ ar (bs+i))=true:=λi j C F H=>by
  have:=mono i j C F
  unfold bq at *;cases lft<;>simp at *<;>lia
 have D:∀i j,i<=j->j<n->bq lft (κ ky) (Kk κ ar (bs+i))=false->bq lft (κ ky) (Kk κ ar (bs+j))=false:=λi j C F H=>by grind
 rw[a8z];refine fI (b0g L hk hm ha (by lia) ?_);dsimp only;cases e0:bq lft (κ ky) (Kk κ ar (bs+hnt)) with
 |true=>
  rw[if_pos rfl];refine fI (f7 (fY (I:=λx c d=>d=st/\∃a b,c=(none,a,b)/\a<b/\x+1<=b/\hnt+a<n/\bq lft (κ ky) (Kk κ ar (bs+(hnt+a)))=true)
   (Q:=λc d=>d=st/\∃a b,c=(none,a,b)/\a<b/\hnt+a<n/\bq lft (κ ky) (Kk κ ar (bs+(hnt+a)))=true/\(n-hnt<=b\/(hnt+b<n/\bq lft (κ ky) (Kk κ ar (bs+(hnt+b)))=false))) ?step ?fin ?init) ?post)
  case init=>exact⟨rfl,0,1,rfl,by lia,by lia,by lia,e0⟩
  case fin=>
   rintro c d ⟨rfl,a,b,rfl,m,k,o,f⟩;exact⟨rfl,a,b,rfl,m,o,f,.inl (by lia)⟩
  case step=>
   rintro x c d _ G ⟨rfl,a,b,rfl,m,k,o,f⟩;dsimp only
   by_cases hge:b>=n-hnt
   ·rw[if_pos hge];exact fJ ⟨rfl,a,b,rfl,m,o,f,.inl hge⟩
   ·rw[if_neg hge];refine fI (b0g L hk hm ha (by lia) ?_);cases e:bq lft (κ ky) (Kk κ ar (bs+(hnt+b))) with
    |true=>
     dsimp only;rw[if_neg (by decide)];exact fJ ⟨rfl,b,2*b+1,rfl,by lia,by lia,by lia,e⟩
    |false=>
     dsimp only;rw[if_pos (show (!false)=true from rfl)];exact fJ ⟨rfl,a,b,rfl,m,o,f,.inr ⟨by lia,e⟩⟩
  case post=>
   rintro c d ⟨y,a,b,rfl,m,o,f,g⟩;have y:=y.symm;subst y;dsimp only;have q:hnt+a+1<=hnt+min b (n-hnt):=by lia
   have w:hnt+min b (n-hnt)<=n:=by lia
   have v:∀i,i<hnt+a+1->bq lft (κ ky) (Kk κ ar (bs+i))=true:=λi J=>t i _ (by lia) (by lia) f;have u:∀i,hnt+min b (n-hnt)<=i->i<n->bq lft (κ ky) (Kk κ ar (bs+i))=false:=λi B z=>by grind
   generalize hnt+a+1=l0 at q v ⊢;generalize hnt+min b (n-hnt)=h0 at q w u ⊢;refine fI (f7 (fY (I:=λx c d=>d=st/\∃l r,c=(none,l,r)/\l<=r/\r<=n/\r-l<=n-x/\(∀i,i<l->bq lft (κ ky) (Kk κ ar (bs+i))=true)/\(∀i,r<=i->i<n->bq lft (κ ky) (Kk κ ar (bs+i))=false))
    (Q:=λc d=>d=st/\∃l,c=(none,l,l)/\l<=n/\(∀i,i<l->bq lft (κ ky) (Kk κ ar (bs+i))=true)/\(∀i,l<=i->i<n->bq lft (κ ky) (Kk κ ar (bs+i))=false)) ?st2 ?fi2 ?in2) ?po2)
   case in2=>exact⟨rfl,l0,h0,rfl,q,w,by lia,v,u⟩
   case fi2=>
    rintro c d ⟨rfl,l,r,rfl,m,k,o,f,g⟩
    have:l=r:=by lia
    subst this;exact⟨rfl,l,rfl,k,f,g⟩
   case st2=>
    rintro x c d _ G ⟨rfl,l,r,rfl,m,k,o,f,g⟩;dsimp only
    by_cases hge:l>=r
    ·rw[if_pos hge]
     have:l=r:=by lia
     subst this;exact fJ ⟨rfl,l,rfl,k,f,g⟩
    ·rw[if_neg hge];refine fI (b0g L hk hm ha (by lia) ?_);cases e:bq lft (κ ky) (Kk κ ar (bs+(l+(r-l) / 2))) with
     |true=>
      dsimp only;rw[if_pos rfl];exact fJ ⟨rfl,_,r,rfl,by lia,k,by lia,λi J=>t i _ (by lia) (by lia) e,g⟩
     |false=>
      dsimp only;rw[if_neg (by decide)];exact fJ ⟨rfl,l,_,rfl,by lia,by lia,by lia,f,λi B z=>D _ i B z e⟩
   case po2=>
    rintro c d ⟨rfl,l,rfl,k,f,g⟩;exact fJ (h l k f g)
 |false=>
  rw[if_neg (by decide)];refine fI (f7 (fY (I:=λx c d=>d=st/\∃a b,c=(none,a,b)/\a<b/\x+1<=b/\a<=hnt/\bq lft (κ ky) (Kk κ ar (bs+(hnt-a)))=false)
   (Q:=λc d=>d=st/\∃a b,c=(none,a,b)/\a<b/\a<=hnt/\bq lft (κ ky) (Kk κ ar (bs+(hnt-a)))=false/\(hnt+1<=b\/(b<=hnt/\bq lft (κ ky) (Kk κ ar (bs+(hnt-b)))=true))) ?step ?fin ?init) ?post)
  case init=>exact⟨rfl,0,1,rfl,by lia,by lia,by lia,e0⟩
  case fin=>
   rintro c d ⟨rfl,a,b,rfl,m,k,o,f⟩;exact⟨rfl,a,b,rfl,m,o,f,.inl (by lia)⟩
  case step=>
   rintro x c d _ G ⟨rfl,a,b,rfl,m,k,o,f⟩;dsimp only
   by_cases hge:b>=hnt+1
   ·rw[if_pos hge];exact fJ ⟨rfl,a,b,rfl,m,o,f,.inl hge⟩
   ·rw[if_neg hge];refine fI (b0g L hk hm ha (by lia) ?_);cases e:bq lft (κ ky) (Kk κ ar (bs+(hnt-b))) with
    |true=>
     dsimp only;rw[if_pos rfl];exact fJ ⟨rfl,a,b,rfl,m,o,f,.inr ⟨by lia,e⟩⟩
    |false=>
     dsimp only;rw[if_neg (by decide)];exact fJ ⟨rfl,b,2*b+1,rfl,by lia,by lia,by lia,e⟩
  case post=>
   rintro c d ⟨y,a,b,rfl,m,o,f,g⟩;have y:=y.symm;subst y;dsimp only;have q:hnt+1-min b (hnt+1)<=hnt-a:=by lia
   have w:hnt-a<=n:=by lia
   have v:∀i,i<hnt+1-min b (hnt+1)->bq lft (κ ky) (Kk κ ar (bs+i))=true:=λi J=>by grind
   have u:=λi B z=>D _ i B z f;generalize hnt+1-min b (hnt+1)=l0 at q v ⊢;generalize hnt-a=h0 at q w u ⊢;refine fI (f7 (fY (I:=λx c d=>d=st/\∃l r,c=(none,l,r)/\l<=r/\r<=n/\r-l<=n-x/\(∀i,i<l->bq lft (κ ky) (Kk κ ar (bs+i))=true)/\(∀i,r<=i->i<n->bq lft (κ ky) (Kk κ ar (bs+i))=false))
    (Q:=λc d=>d=st/\∃l,c=(none,l,l)/\l<=n/\(∀i,i<l->bq lft (κ ky) (Kk κ ar (bs+i))=true)/\(∀i,l<=i->i<n->bq lft (κ ky) (Kk κ ar (bs+i))=false)) ?st2 ?fi2 ?in2) ?po2)
   case in2=>exact⟨rfl,l0,h0,rfl,q,w,by lia,v,u⟩
   case fi2=>
    rintro c d ⟨rfl,l,r,rfl,m,k,o,f,g⟩
    have:l=r:=by lia
    subst this;exact⟨rfl,l,rfl,k,f,g⟩
   case st2=>
    rintro x c d _ G ⟨rfl,l,r,rfl,m,k,o,f,g⟩;dsimp only
    by_cases hge:l>=r
    ·rw[if_pos hge]
     have:l=r:=by lia
     subst this;exact fJ ⟨rfl,l,rfl,k,f,g⟩
    ·rw[if_neg hge];refine fI (b0g L hk hm ha (by lia) ?_);cases e:bq lft (κ ky) (Kk κ ar (bs+(l+(r-l) / 2))) with
     |true=>
      dsimp only;rw[if_pos rfl];exact fJ ⟨rfl,_,r,rfl,by lia,k,by lia,λi J=>t i _ (by lia) (by lia) e,g⟩
     |false=>
      dsimp only;rw[if_neg (by decide)];exact fJ ⟨rfl,l,_,rfl,by lia,by lia,by lia,f,λi B z=>D _ i B z e⟩
   case po2=>
    rintro c d ⟨rfl,l,rfl,k,f,g⟩;exact fJ (h l k f g)
end
noncomputable def b0h:Nat->StateT SortSt Sem Unit:=sortPriv% PySem.Builtin.setMinGallop
def a46(g:Nat):b0h g=modify λs=>SortSt.mk' (kindOf s) (arrOf s) (fP s) g (gb s):=rfl
noncomputable def a47:Array Keyed->Array Keyed->StateT SortSt Sem (Array Keyed):=sortPriv% PySem.Builtin.mergeLo
abbrev dnA(a b o:Array Keyed)(i j:Nat):Array Keyed:=o++a.extract i a.size++b.extract j b.size
abbrev dnB(a b o:Array Keyed)(i j:Nat):Array Keyed:=o++b.extract j b.size++a.extract i a.size
section
variable{κ:KF}{A B o:List Keyed}{i j:Nat}{p:Keyed}
abbrev Srt(κ:KF)(l:List Keyed):Prop:=l.Pairwise λx y=>κ x<=κ y
structure MW (κ:KF) (A B o:List Keyed) (i j:Nat):Prop where
 ia:i<=A.length
 jb:j<=B.length
 pm:(o++(A.drop i++B.drop j)).Perm (A++B)
 so:Srt κ o
 ba:∀x∈o,∀y∈A.drop i,κ x<=κ y
 bb:∀x∈o,∀y∈B.drop j,κ x<=κ y
theorem MW.size(W:MW κ A B o i j):o.length=i+j:=by
 have:=W.pm.length_eq
 have b:=W.ia;have a:=W.jb;simp at this
 lia
def drop_get{l:List Keyed}(h:l[n]?=some p):l.drop n=p::l.drop (n+1):=by
 obtain⟨a,e⟩:=aI.mp h;rw[cV a,e]
def a7A(h:Srt κ l)(hb:∀x∈l,κ x<=κ p):Srt κ (l++[p]):=by
 refine aY.mpr ⟨h,dP _ _,λx b y a=>?_⟩;rw[aJ.mp a];exact hb x b
def a02(h:Srt κ l)(n:Nat):Srt κ (l.drop n):=bd.sublist (dQ n l) h
def MW.pushA(W:MW κ A B o i j)(sa:Srt κ A)(hp:A[i]?=some p)(hb:∀y∈B.drop j,κ p<=κ y):MW κ A B (o++[p]) (i+1) j:=by
 have c:=drop_get hp;refine⟨((aI.mp hp).1),W.jb,?_,a7A W.so λx b=>W.ba x b p (by simp_all),λx b y a=>?_,λx b y a=>?_⟩
 ·have:=W.pm
  rw[c]at this;simpa using this
 ·rcases aE.mp b with h |h
  ·exact W.ba x h y (by simp_all)
  ·rw[aJ.mp h];exact (aT.mp (c▸a02 sa i)).1 y a
 ·rcases aE.mp b with h |h
  ·exact W.bb x h y a
  ·rw[aJ.mp h];exact hb y a
def MW.pushB(W:MW κ A B o i j)(sb:Srt κ B)(hp:B[j]?=some p)(hb:∀y∈A.drop i,κ p<=κ y):MW κ A B (o++[p]) i (j+1):=by
 have c:=drop_get hp;refine⟨W.ia,((aI.mp hp).1),?_,a7A W.so λx b=>W.bb x b p (by simp_all),λx b y a=>?_,λx b y a=>?_⟩
 ·have:=W.pm
  rw[c]at this;refine bm.trans ?_ this;rw[be];exact bm.append_left o (show (p::(A.drop i++B.drop _)).Perm _ from du.symm)
 ·rcases aE.mp b with h |h
  ·exact W.ba x h y a
  ·rw[aJ.mp h];exact hb y a
 ·rcases aE.mp b with h |h
  ·exact W.bb x h y (by simp_all)
  ·rw[aJ.mp h];exact (aT.mp (c▸a02 sb j)).1 y a
def take_snoc{l:List Keyed}(h:l[n+k]?=some p):(l.drop n).take (k+1)=(l.drop n).take k++[p]:=by
 rw[b6,cI,h];rfl
def MW.runA(W:MW κ A B o i j)(sa:Srt κ A):∀k,i+k<=A.length->(∀q z,i<=q->q<i+k->A[q]?=some z->∀y∈B.drop j,κ z<=κ y)->MW κ A B (o++(A.drop i).take k) (i+k) j:=by intro z0;induction z0 with
 |zero=>intro _ _;simpa using W
 |succ k I0=>
  intro hk hz;have e:A[i+k]?=some A[i+k]:=aN (by lia);rw[take_snoc e,<- be];exact (I0 (by lia) λq z a c=>hz q z a (by lia)).pushA sa e (hz _ _ (by lia) (by lia) e)
def MW.runB(W:MW κ A B o i j)(sb:Srt κ B):∀k,j+k<=B.length->(∀q z,j<=q->q<j+k->B[q]?=some z->∀y∈A.drop i,κ z<=κ y)->MW κ A B (o++(B.drop j).take k) i (j+k):=by intro z0;induction z0 with
 |zero=>intro _ _;simpa using W
 |succ k I0=>
  intro hk hz;have e:B[j+k]?=some B[j+k]:=aN (by lia);rw[take_snoc e,<- be];exact (I0 (by lia) λq z a c=>hz q z a (by lia)).pushB sb e (hz _ _ (by lia) (by lia) e)
def Mgd(κ:KF)(A B r:List Keyed):Prop:=r.Perm (A++B)/\Srt κ r
def MW.doneA(W:MW κ A B o i j)(sa:Srt κ A)(sb:Srt κ B)(h:i=A.length\/j=B.length):Mgd κ A B (o++A.drop i++B.drop j):=by
 refine⟨by rw[be];exact W.pm,?_⟩;rw[be];refine aY.mpr ⟨W.so,aY.mpr ⟨a02 sa i,a02 sb j,λx a y b=>?_⟩,λx a y b=>?_⟩
 ·rcases h with rfl |rfl
  ·simp_all
  ·simp_all
 ·rcases aE.mp b with h |h
  ·exact W.ba x a y h
  ·exact W.bb x a y h
def MW.doneB(W:MW κ A B o i j)(sa:Srt κ A)(sb:Srt κ B)(h:i+1=A.length)(hl:∀z,A[A.length-1]?=some z->∀y∈B,κ y<=κ z):Mgd κ A B (o++B.drop j++A.drop i):=by
 refine⟨?_,?_⟩
 ·rw[be];exact bm.trans (bm.append_left o eK) W.pm
 ·rw[be];have e:A[i]?=some A[i]:=aN (by omega);have c:A.drop i=[A[i]]:=by rw[drop_get e,cW (by omega)]
  refine aY.mpr ⟨W.so,aY.mpr ⟨a02 sb j,a02 sa i,λx b y a=>?_⟩,λx b y a=>?_⟩
  ·rw[c]at a;rw[aJ.mp a];exact hl _ (by rw[show A.length-1=i by omega];exact e) x (dv b)
  ·rcases aE.mp a with h |h
   ·exact W.bb x b y h
   ·exact W.ba x b y h
def a1q(h:Srt κ l)(hp:l[n]?=some p):∀y∈l.drop n,κ p<=κ y:=λy a=>by
 have b:=a02 h n;rw[drop_get hp]at b a;rcases aD.mp a with rfl |a
 ·exact bE _
 ·exact (aT.mp b).1 y a
end
abbrev SM:=StateT SortSt Sem
abbrev T1:=Option (Array Keyed)×Array Keyed×Nat×Nat×Nat×Nat
abbrev T2:=Option (Array Keyed)×Array Keyed×Nat×Nat×Nat×Nat×Nat
noncomputable def lo1(a b:Array Keyed)(g:Nat)(o:Array Keyed)(i j ac bc:Nat):SM (ForInStep T1):=do
 let y <- elem' b j
 let x <- elem' a i
 let r <- lt' y x
 match r with
 |some bw=>
  if bw=true then do
   let y <- elem' b j
   if (j+1==b.size)=true then pure (.done (some (dnA a b (o.push y) i (j+1)),o.push y,i,j+1,0,bc+1))
   else if bc+1>=g then pure (.done (none,o.push y,i,j+1,0,bc+1)) else pure (.yield (none,o.push y,i,j+1,0,bc+1))
  else do
   let x <- elem' a i
   if (i+1+1==a.size)=true then pure (.done (some (dnB a b (o.push x) (i+1) j),o.push x,i+1,j,ac+1,0))
   else if ac+1>=g then pure (.done (none,o.push x,i+1,j,ac+1,0)) else pure (.yield (none,o.push x,i+1,j,ac+1,0))
 |_=>pure (.done (some (dnA a b o i j),o,i,j,ac,bc))
noncomputable def lo5(a b:Array Keyed)(o:Array Keyed)(i j g ac bc:Nat):SM (ForInStep T2):=do
 let x <- elem' a i
 if (i+1+1==a.size)=true then pure (.done (some (dnB a b (o.push x) (i+1) j),o.push x,i+1,j,g,ac,bc))
 else if (decide (ac<7)&&decide (bc<7))=true then pure (.done (none,o.push x,i+1,j,g,ac,bc)) else pure (.yield (none,o.push x,i+1,j,g,ac,bc))
noncomputable def lo4(a b:Array Keyed)(o:Array Keyed)(i j g ac bc:Nat):SM (ForInStep T2):=do
 let y <- elem' b j
 if (j+1==b.size)=true then pure (.done (some (dnA a b (o.push y) i (j+1)),o.push y,i,j+1,g,ac,bc))
 else do
  let x <- elem' a i
  let r <- a1I true x b (j+1) (b.size-(j+1)) 0
  match r with
  |some k=>
   if k > 0 then
    if (j+1+k==b.size)=true then pure (.done (some (dnA a b (o.push y++b.extract (j+1) (j+1+k)) i (j+1+k)),o.push y++b.extract (j+1) (j+1+k),i,j+1+k,g,ac,k))
    else lo5 a b (o.push y++b.extract (j+1) (j+1+k)) i (j+1+k) g ac k
   else lo5 a b (o.push y) i (j+1) g ac k
  |_=>pure (.done (some (dnA a b (o.push y) i (j+1)),o.push y,i,j+1,g,ac,bc))
noncomputable def lo3(a b:Array Keyed)(o:Array Keyed)(i j g ac bc:Nat):SM (ForInStep T2):=do
 b0h g
 let y <- elem' b j
 let r <- a1I false y a i (a.size-i) 0
 match r with
 |some k=>
  if k > 0 then
   if (i+k+1==a.size)=true then pure (.done (some (dnB a b (o++a.extract i (i+k)) (i+k) j),o++a.extract i (i+k),i+k,j,g,k,bc))
   else if (i+k==a.size)=true then pure (.done (some (dnA a b (o++a.extract i (i+k)) (i+k) j),o++a.extract i (i+k),i+k,j,g,k,bc))
   else lo4 a b (o++a.extract i (i+k)) (i+k) j g k bc
  else lo4 a b o i j g k bc
 |_=>pure (.done (some (dnA a b o i j),o,i,j,g,ac,bc))
noncomputable def lo2(a b:Array Keyed)(o:Array Keyed)(i j g ac bc:Nat):SM (ForInStep T2):=
 if g > 1 then lo3 a b o i j (g-1) ac bc else lo3 a b o i j g ac bc
def a5R(a b:Array Keyed):a47 a b=(do
  liftM (rule "list.sort.merge-lo")
  let y <- elem' b 0
  if (1==b.size)=true then pure (dnA a b #[y] 0 1)
  else if (0+1==a.size)=true then pure (dnB a b #[y] 0 1)
  else do
   let st <- get
   let c <- forIn [0:a.size+b.size] ((none,#[y],0,1,gallopOf st):Option (Array Keyed)×Array Keyed×Nat×Nat×Nat) λ_ c=>do
    let c1 <- forIn [0:a.size+b.size] ((none,c.2.1,c.2.2.1,c.2.2.2.1,0,0):T1) λ_ c1=>lo1 a b c.2.2.2.2 c1.2.1 c1.2.2.1 c1.2.2.2.1 c1.2.2.2.2.1 c1.2.2.2.2.2
    match c1.1 with
    |some r=>pure (ForInStep.done (some r,c1.2.1,c1.2.2.1,c1.2.2.2.1,c.2.2.2.2))
    |none=>do
     liftM (rule "list.sort.gallop")
     let c2 <- forIn [0:a.size+b.size] ((none,c1.2.1,c1.2.2.1,c1.2.2.2.1,c.2.2.2.2+1,c1.2.2.2.2.1,c1.2.2.2.2.2):T2) λ_ c2=>lo2 a b c2.2.1 c2.2.2.1 c2.2.2.2.1 c2.2.2.2.2.1 c2.2.2.2.2.2.1 c2.2.2.2.2.2.2
     match c2.1 with
     |some r=>pure (ForInStep.done (some r,c2.2.1,c2.2.2.1,c2.2.2.2.1,c2.2.2.2.2.1))
     |none=>do
      b0h (c2.2.2.2.2.1+1)
      pure (ForInStep.yield (none,c2.2.1,c2.2.2.1,c2.2.2.2.1,c2.2.2.2.2.1+1))
   match c.1 with
   |some r=>pure r
   |none=>jq "internal:list.sort.merge-bound"):=by
 kernel_rfl
structure SG (st st':SortSt):Prop where
 kd:kindOf st'=kindOf st
 ar:arrOf st'=arrOf st
 pe:fP st'=fP st
 fl:gb st'=gb st
def SG.refl(st:SortSt):SG st st:=⟨rfl,rfl,rfl,rfl⟩
def SG.trans(p:SG x y)(q:SG y z):SG x z:=⟨q.kd.trans p.kd,q.ar.trans p.ar,q.pe.trans p.pe,q.fl.trans p.fl⟩
section
variable{κ:KF}{a b o:Array Keyed}{i j:Nat}
def a2l:(dnA a b o i j).toList=o.toList++a.toList.drop i++b.toList.drop j:=by
 simp[b7]
def a3o:(dnB a b o i j).toList=o.toList++b.toList.drop j++a.toList.drop i:=by
 simp[b7]
def a7B:(o++a.extract i (i+k)).toList=o.toList++(a.toList.drop i).take k:=by
 simp[dw]
def a0L(h:i<a.size):a.toList[i]?=some a[i]:=by simp[h]
def a0R(h:i<a.size):Kk κ a i=κ a[i]:=a6J (getElem?_pos ..)
def a2m(h:Srt κ a.toList)(hn:i+n<=a.size):∀p q,p<=q->q<n->Kk κ a (i+p)<=Kk κ a (i+q):=λp q b c=>by
 rw[a0R (show i+p<a.size by lia),a0R (show i+q<a.size by lia)]
 by_cases e:p=q
 ·simp_all
 ·have:=cy.mp h (i+p) (i+q) (by simp;lia) (by simp;lia) (by lia)
  simpa using this
end
structure MC (M:Model) (A:Around) (E:Value->Shared->Prop) (s:Shared) (κ:KF) (k0:gi) (ajj a b:Array Keyed):Prop where
 L:LtOk M A E s κ k0 ajj
 ha:∀p∈a.toList,p∈ajj.toList
 hb:∀p∈b.toList,p∈ajj.toList
 sa:Srt κ a.toList
 sb:Srt κ b.toList
 h0:0<a.size
 h1:0<b.size
 hf:∀y∈a.toList,Kk κ b 0<=κ y
 hl:∀z,a.toList[a.toList.length-1]?=some z->∀y∈b.toList,κ y<=κ z
structure Rdy (κ:KF) (a b o:Array Keyed) (i j:Nat):Prop where
 w:MW κ a.toList b.toList o.toList i j
 hi:i+1<a.size
 hj:j<b.size
section
variable{M:Model}{A:Around}{E:Value->Shared->Prop}{s:Shared}{κ:KF}{k0:gi}{ajj a b o:Array Keyed}{st:SortSt}{i j g ac bc:Nat}
def a4F{α:Type}{f:Unit->SM α}{Q:α->SortSt->Prop}(h:wpS M A E s (f ()) Q st):wpS M A E s ((liftM (rule w):SM Unit) >>= f) Q st:=
 fI (jr (gG ⟨rfl,h⟩))
def a0Y(a:Array Keyed):a.toList.length=a.size:=by simp
def c0O(C:MC M A E s κ k0 ajj a b)(hk:kindOf st=k0)(R:Rdy κ a b o i j)
  (dn:∀r c,Mgd κ a.toList b.toList r.toList->Q (.done (some r,c)) st)
  (br:∀o' i' j' x y,Rdy κ a b o' i' j'->i'+j'=i+j+1->Q (.done (none,o',i',j',x,y)) st)
  (go:∀o' i' j' x y,Rdy κ a b o' i' j'->i'+j'=i+j+1->Q (.yield (none,o',i',j',x,y)) st):wpS M A E s (lo1 a b g o i j ac bc) Q st:=by
 have q:=R.hi;have n:=R.hj;have p:b[j]?=some b[j]:=getElem?_pos ..;have m:a[i]?=some a[i]:=getElem?_pos ..;have h:=a0L n;have l:=a0L (a:=a) (i:=i) (by lia);unfold lo1;refine fI (a0D p (fI (a0D m (fI (C.L _ _ (C.hb _ (aS h)) (C.ha _ (aS l)) st _ hk ?_)))));dsimp only
 by_cases c:κ b[j]<κ a[i]
 ·rw[if_pos (decide_eq_true c)];refine fI (a0D p ?_);have d:=R.w.pushB C.sb h λy k=>bn (bR c) (a1q C.sa l y k);rw[<- bG]at d
  by_cases e:j+1=b.size
  ·rw[if_pos (by simpa using e)];exact fJ (dn _ _ (by rw[a2l];exact d.doneA C.sa C.sb (.inr (by rw[a0Y];exact e))))
  ·rw[if_neg (by simpa using e)];have f:Rdy κ a b (o.push b[j]) i (j+1):=⟨d,q,by lia⟩
   split
   ·exact fJ (br _ _ _ _ _ f (by lia))
   ·exact fJ (go _ _ _ _ _ f (by lia))
 ·rw[if_neg (by simpa using c)];refine fI (a0D m ?_);have d:=R.w.pushA C.sa l λy k=>bn (dy.mp c) (a1q C.sb h y k);rw[<- bG]at d
  by_cases e:i+1+1=a.size
  ·rw[if_pos (by simpa using e)];exact fJ (dn _ _ (by rw[a3o];exact d.doneB C.sa C.sb (by rw[a0Y];exact e) C.hl))
  ·rw[if_neg (by simpa using e)];have f:Rdy κ a b (o.push a[i]) (i+1) j:=⟨d,by lia,n⟩
   split
   ·exact fJ (br _ _ _ _ _ f (by lia))
   ·exact fJ (go _ _ _ _ _ f (by lia))
structure G2 (st:SortSt) (κ:KF) (a b:Array Keyed) (n:Nat) (Q:ForInStep T2->SortSt->Prop):Prop where
 dn:∀r c st',SG st st'->Mgd κ a.toList b.toList r.toList->Q (.done (some r,c)) st'
 br:∀o' i' j' x y z st',SG st st'->Rdy κ a b o' i' j'->n<i'+j'->Q (.done (none,o',i',j',x,y,z)) st'
 go:∀o' i' j' x y z st',SG st st'->Rdy κ a b o' i' j'->n<i'+j'->Q (.yield (none,o',i',j',x,y,z)) st'
def b77(C:MC M A E s κ k0 ajj a b)(R:Rdy κ a b o i j)(hle:∀y∈b.toList.drop j,Kk κ a i<=κ y)(H:G2 st κ a b n Q)(hn:n<=i+j):wpS M A E s (lo5 a b o i j g ac bc) Q st:=by
 have l:=R.hi;have h:a[i]?=some a[i]:=getElem?_pos ..;rw[a0R (show i<a.size by lia)]at hle;unfold lo5;refine fI (a0D h ?_);have c:=R.w.pushA C.sa (a0L (a:=a) (i:=i) (by lia)) hle;rw[<- bG]at c
 by_cases e:i+1+1=a.size
 ·rw[if_pos (by simpa using e)];exact fJ (H.dn _ _ _ (SG.refl _) (a3o▸c.doneB C.sa C.sb (by rw[a0Y];exact e) C.hl))
 ·rw[if_neg (by simpa using e)];have d:Rdy κ a b (o.push a[i]) (i+1) j:=⟨c,by lia,R.hj⟩
  split
  ·exact fJ (H.br _ _ _ _ _ _ _ (SG.refl _) d (by lia))
  ·exact fJ (H.go _ _ _ _ _ _ _ (SG.refl _) d (by lia))
def a19{l:List Keyed}(h:y∈l.drop n):∃q,n<=q/\q<l.length/\l[q]?=some y:=by
 obtain⟨m,a⟩:=bH h;rw[cI]at a;exact⟨n+m,by lia,(aI.mp a).1,a⟩
def a3L(h:a.toList[q]?=some z):Kk κ a q=κ z:=a6J (by simp_all)
def b78(C:MC M A E s κ k0 ajj a b)(hk:kindOf st=k0)(R:Rdy κ a b o i j)(hle:∀y∈a.toList.drop i,Kk κ b j<=κ y)(H:G2 st κ a b n Q)(hn:n<=i+j):wpS M A E s (lo4 a b o i j g ac bc) Q st:=by
 have m:=R.hi;have t:=R.hj;have x:b[j]?=some b[j]:=getElem?_pos ..;have F:a[i]?=some a[i]:=getElem?_pos ..;have p:=a0L (a:=a) (i:=i) (by lia);rw[a0R t]at hle;unfold lo4;refine fI (a0D x ?_);have d:=R.w.pushB C.sb (a0L t) hle;rw[<- bG]at d
 by_cases e:j+1=b.size
 ·rw[if_pos (by simpa using e)];exact fJ (H.dn _ _ _ (SG.refl _) (a2l▸d.doneA C.sa C.sb (.inr (by rw[a0Y];exact e))))
 ·rw[if_neg (by simpa using e)];refine fI (a0D F (fI (a1P C.L hk (C.ha _ (aS p)) C.hb (by lia) (by lia) (a2m C.sb (by lia)) λk G v r=>?_)));dsimp only;have c:∀y∈b.toList.drop (j+1+k),Kk κ a i<=κ y:=λy h=>by
   obtain⟨q,B,u,l⟩:=a19 h;rw[a0Y]at u
   have:=r (q-(j+1)) (by lia) (by lia)
   rw[show j+1+(q-(j+1))=q by lia,a3L l]at this;simp[bq]at this;rw[a0R (show i<a.size by lia)]
   lia
  split
  ·have f:=d.runB C.sb k (by rw[a0Y];lia) λq z B u l y h=>by
    have:=v (q-(j+1)) (by lia)
    rw[show j+1+(q-(j+1))=q by lia,a3L l]at this;simp[bq]at this;exact bn (bR this) (a1q C.sa p y h)
   rw[<- a7B]at f
   by_cases e2:j+1+k=b.size
   ·rw[if_pos (by simpa using e2)];exact fJ (H.dn _ _ _ (SG.refl _) (a2l▸f.doneA C.sa C.sb (.inr (by rw[a0Y];exact e2))))
   ·rw[if_neg (by simpa using e2)];exact b77 C ⟨f,m,by lia⟩ c H (by lia)
  ·have:k=0:=by lia
   subst this;exact b77 C ⟨d,m,by lia⟩ c H (by lia)
def c0P(C:MC M A E s κ k0 ajj a b)(hk:kindOf st=k0)(R:Rdy κ a b o i j)(H:G2 st κ a b n Q)(hn:n<=i+j):wpS M A E s (lo3 a b o i j g ac bc) Q st:=by
 have I:=R.hi;have h:=R.hj;have G:b[j]?=some b[j]:=getElem?_pos ..;have B:=a0L h;unfold lo3;rw[a46];refine fI (gm ?_);have m:SG st (SortSt.mk' _ (arrOf st) _ g _):=⟨rfl,rfl,rfl,rfl⟩;have e:kindOf (SortSt.mk' _ (arrOf st) (fP st) g (gb st))=k0:=hk;generalize SortSt.mk' (kindOf st) (arrOf st) (fP st) g (gb st)=st1 at m e;have l:G2 st1 κ a b n Q:=⟨λr c d g=>H.dn r c d (m.trans g),λ_ _ _ _ _ _ d g=>H.br _ _ _ _ _ _ d (m.trans g),λ_ _ _ _ _ _ d g=>H.go _ _ _ _ _ _ d (m.trans g)⟩;refine fI (a0D G (fI (a1P C.L e (C.hb _ (aS B)) C.ha (by lia) (by lia) (a2m C.sa (by lia)) λk J D x=>?_)));dsimp only;have f:∀y∈a.toList.drop (i+k),Kk κ b j<=κ y:=λy t=>by
  obtain⟨q,F,v,u⟩:=a19 t;rw[a0Y]at v
  have:=x (q-i) (by lia) (by lia)
  rw[show i+(q-i)=q by lia,a3L u]at this;simp[bq]at this;rw[a0R h]
  lia
 split
 ·have p:=R.w.runA C.sa k (by rw[a0Y];lia) λq z F v u y t=>by
   have:=D (q-i) (by lia)
   rw[show i+(q-i)=q by lia,a3L u]at this;simp[bq]at this;exact bn this (a1q C.sb B y t)
  rw[<- a7B]at p
  by_cases e1:i+k+1=a.size
  ·rw[if_pos (by simpa using e1)];exact fJ (l.dn _ _ _ (SG.refl _) (a3o▸p.doneB C.sa C.sb (by rw[a0Y];exact e1) C.hl))
  ·rw[if_neg (by simpa using e1)]
   by_cases e2:i+k=a.size
   ·rw[if_pos (by simpa using e2)];exact fJ (l.dn _ _ _ (SG.refl _) (a2l▸p.doneA C.sa C.sb (.inl (by rw[a0Y];exact e2))))
   ·rw[if_neg (by simpa using e2)];exact b78 C e ⟨p,by lia,h⟩ f l (by lia)
 ·have:k=0:=by lia
  subst this;exact b78 C e ⟨R.w,I,h⟩ f l (by lia)
def c0Q(C:MC M A E s κ k0 ajj a b)(hk:kindOf st=k0)(R:Rdy κ a b o i j)(H:G2 st κ a b n Q)(hn:n<=i+j):wpS M A E s (lo2 a b o i j g ac bc) Q st:=by
 unfold lo2
 split<;>exact c0P C hk R H hn
def b2j(C:MC M A E s κ k0 ajj a b):MW κ a.toList b.toList [b[0]'C.h1] 0 1:=by
 have e:MW κ a.toList b.toList [] 0 0:=⟨aW _,aW _,by simp,.nil,λx h=>by simp at h,λx h=>by simp at h⟩;exact e.pushB C.sb (a0L C.h1) λy d=>by rw[<- a0R (κ:=κ) C.h1];exact C.hf y (by simp_all)
def b0i(C:MC M A E s κ k0 ajj a b)(hk:kindOf st=k0)
  (h:∀r st',SG st st'->Mgd κ a.toList b.toList r.toList->Q r st'):wpS M A E s (a47 a b) Q st:=by
 have h0:=C.h0;have h1:=C.h1;rw[a5R];refine a4F (fI (a0D (getElem?_pos b 0 C.h1) ?_));have w0:=b2j C
 by_cases e1:1=b.size
 ·rw[if_pos (by simpa using e1)];exact fJ (h _ _ (SG.refl _) (a2l▸w0.doneA C.sa C.sb (.inr (by grind))))
 rw[if_neg (by simpa using e1)]
 by_cases e2:0+1=a.size
 ·rw[if_pos (by simpa using e2)];exact fJ (h _ _ (SG.refl _) (a3o▸w0.doneB C.sa C.sb (by rw[a0Y];exact e2) C.hl))
 rw[if_neg (by simpa using e2)];refine fI (gj ?_);have R0:Rdy κ a b #[b[0]] 0 1:=⟨w0,by lia,by lia⟩;refine fI (f7 (fY (I:=λx c e=>∃o i j g,c=(none,o,i,j,g)/\SG st e/\Rdy κ a b o i j/\x<i+j)
  (Q:=λc e=>∃r F,c=(some r,F)/\SG st e/\Mgd κ a.toList b.toList r.toList) ?step ?fin ⟨_,_,_,_,rfl,SG.refl _,R0,by lia⟩) ?post)
 case post=>
  rintro c e ⟨r,F,rfl,H,m⟩;exact fJ (h r e H m)
 case fin=>
  rintro c e ⟨o,i,j,g,rfl,H,R,hx⟩
  have:=R.hi
  have:=R.hj
  lia
 case step=>
  rintro x c e _ hx ⟨o,i,j,g,rfl,H,R,hxi⟩;dsimp only;refine fI (f7 (fY (I:=λy c f=>∃D l k J T,c=(none,D,l,k,J,T)/\f=e/\Rdy κ a b D l k/\i+j+y<=l+k)
   (Q:=λc f=>f=e/\((∃r F,c=(some r,F)/\Mgd κ a.toList b.toList r.toList)\/∃D l k J T,c=(none,D,l,k,J,T)/\Rdy κ a b D l k/\i+j<=l+k)) ?st1 ?fi1 ⟨_,_,_,_,_,rfl,rfl,R,by lia⟩) ?po1)
  case fi1=>
   rintro c f ⟨D,l,k,J,T,rfl,rfl,L,hy⟩
   have:=L.hi
   have:=L.hj
   lia
  case st1=>
   rintro y c f _ hy ⟨D,l,k,J,T,rfl,rfl,L,hyi⟩;dsimp only;refine c0O C (H.kd.trans hk) L (λr c m=>⟨rfl,.inl ⟨r,c,rfl,m⟩⟩) (λo2 i2 j2 u v X V=>⟨rfl,.inr ⟨_,_,_,_,_,rfl,X,by lia⟩⟩) λo2 i2 j2 u v X V=>⟨_,_,_,_,_,rfl,rfl,X,by lia⟩
  case po1=>
   rintro c f ⟨rfl,⟨r,F,rfl,m⟩ |⟨D,l,k,J,T,rfl,L,hij⟩⟩
   ·exact fJ ⟨r,_,rfl,H,m⟩
   ·dsimp only;refine a4F ?_;refine fI (f7 (fY (I:=λy c B=>∃G q p S z t,c=(none,G,q,p,S,z,t)/\SG st B/\Rdy κ a b G q p/\l+k+y<=q+p)
     (Q:=λc B=>SG st B/\((∃r F,c=(some r,F)/\Mgd κ a.toList b.toList r.toList)\/∃G q p S z t,c=(none,G,q,p,S,z,t)/\Rdy κ a b G q p/\l+k<q+p)) ?f ?fi2 ⟨_,_,_,_,_,_,rfl,H,L,by lia⟩) ?po2)
    case fi2=>
     rintro c B ⟨G,q,p,S,z,t,rfl,d,N,hy⟩
     have:=N.hi
     have:=N.hj
     lia
    case f=>
     rintro y c B _ hy ⟨G,q,p,S,z,t,rfl,d,N,hyi⟩;dsimp only;refine c0Q C (d.kd.trans hk) N ⟨λr c W U m=>⟨d.trans U,.inl ⟨r,c,rfl,m⟩⟩,λo4 i4 j4 u v w W U Y V=>⟨d.trans U,.inr ⟨_,_,_,_,_,_,rfl,Y,by lia⟩⟩,λo4 i4 j4 u v w W U Y V=>⟨_,_,_,_,_,_,rfl,d.trans U,Y,by lia⟩⟩ (aC _)
    case po2=>
     rintro c B ⟨d,⟨r,F,rfl,m⟩ |⟨G,q,p,S,z,t,rfl,N,V⟩⟩
     ·exact fJ ⟨r,_,rfl,d,m⟩
     ·dsimp only;exact fI (gm (fJ ⟨_,_,_,_,rfl,⟨d.kd,d.ar,d.pe,d.fl⟩,N,by lia⟩))
end
noncomputable def a48:Array Keyed->Array Keyed->SM (Array Keyed):=sortPriv% PySem.Builtin.mergeHi
abbrev hnA(a b o:Array Keyed)(u v:Nat):Array Keyed:=a.extract 0 u++b.extract 0 v++o.reverse
abbrev hnB(a b o:Array Keyed)(u v:Nat):Array Keyed:=b.extract 0 v++a.extract 0 u++o.reverse
abbrev H1:=Option (Array Keyed)×Nat×Nat×Array Keyed×Nat×Nat
abbrev H2:=Option (Array Keyed)×Nat×Nat×Array Keyed×Nat×Nat×Nat
noncomputable def hi1(a b:Array Keyed)(g u v:Nat)(o:Array Keyed)(ac bc:Nat):SM (ForInStep H1):=do
 let y <- elem' b (v-1)
 let x <- elem' a (u-1)
 let r <- lt' y x
 match r with
 |some aw=>
  if aw=true then do
   let x <- elem' a (u-1)
   if (u-1==0)=true then pure (.done (some (hnA a b (o.push x) (u-1) v),u-1,v,o.push x,ac+1,0))
   else if ac+1>=g then pure (.done (none,u-1,v,o.push x,ac+1,0)) else pure (.yield (none,u-1,v,o.push x,ac+1,0))
  else do
   let y <- elem' b (v-1)
   if (v-1==1)=true then pure (.done (some (hnB a b (o.push y) u (v-1)),u,v-1,o.push y,0,bc+1))
   else if bc+1>=g then pure (.done (none,u,v-1,o.push y,0,bc+1)) else pure (.yield (none,u,v-1,o.push y,0,bc+1))
 |_=>pure (.done (some (hnA a b o u v),u,v,o,ac,bc))
noncomputable def hi5(a b:Array Keyed)(u v:Nat)(o:Array Keyed)(g ac bc:Nat):SM (ForInStep H2):=do
 let x <- elem' a (u-1)
 if (u-1==0)=true then pure (.done (some (hnA a b (o.push x) (u-1) v),u-1,v,o.push x,g,ac,bc))
 else if (decide (ac<7)&&decide (bc<7))=true then pure (.done (none,u-1,v,o.push x,g,ac,bc)) else pure (.yield (none,u-1,v,o.push x,g,ac,bc))
noncomputable def hi4(a b:Array Keyed)(u v:Nat)(o:Array Keyed)(g ac bc:Nat):SM (ForInStep H2):=do
 let y <- elem' b (v-1)
 if (v-1==1)=true then pure (.done (some (hnB a b (o.push y) u (v-1)),u,v-1,o.push y,g,ac,bc))
 else do
  let x <- elem' a (u-1)
  let r <- a1I true x b 0 (v-1) (v-1-1)
  match r with
  |some p=>
   if v-1-p > 0 then
    if (p==1)=true then pure (.done (some (hnB a b (o.push y++(b.extract p (v-1)).reverse) u p),u,p,o.push y++(b.extract p (v-1)).reverse,g,ac,v-1-p))
    else if (p==0)=true then pure (.done (some (hnA a b (o.push y++(b.extract p (v-1)).reverse) u p),u,p,o.push y++(b.extract p (v-1)).reverse,g,ac,v-1-p))
    else hi5 a b u p (o.push y++(b.extract p (v-1)).reverse) g ac (v-1-p)
   else hi5 a b u (v-1) (o.push y) g ac (v-1-p)
  |_=>pure (.done (some (hnA a b (o.push y) u (v-1)),u,v-1,o.push y,g,ac,bc))
noncomputable def hi3(a b:Array Keyed)(u v:Nat)(o:Array Keyed)(g ac bc:Nat):SM (ForInStep H2):=do
 b0h g
 let y <- elem' b (v-1)
 let r <- a1I false y a 0 u (u-1)
 match r with
 |some p=>
  if u-p > 0 then
   if (p==0)=true then pure (.done (some (hnA a b (o++(a.extract p u).reverse) p v),p,v,o++(a.extract p u).reverse,g,u-p,bc))
   else hi4 a b p v (o++(a.extract p u).reverse) g (u-p) bc
  else hi4 a b u v o g (u-p) bc
 |_=>pure (.done (some (hnA a b o u v),u,v,o,g,ac,bc))
noncomputable def hi2(a b:Array Keyed)(u v:Nat)(o:Array Keyed)(g ac bc:Nat):SM (ForInStep H2):=
 if g > 1 then hi3 a b u v o (g-1) ac bc else hi3 a b u v o g ac bc
def a5S(a b:Array Keyed):a48 a b=(do
  liftM (rule "list.sort.merge-hi")
  let x <- elem' a (a.size-1)
  if (a.size-1==0)=true then pure (hnA a b #[x] (a.size-1) b.size)
  else if (b.size==1)=true then pure (hnB a b #[x] (a.size-1) b.size)
  else do
   let st <- get
   let c <- forIn [0:a.size+b.size] ((none,a.size-1,b.size,#[x],gallopOf st):Option (Array Keyed)×Nat×Nat×Array Keyed×Nat) λ_ c=>do
    let c1 <- forIn [0:a.size+b.size] ((none,c.2.1,c.2.2.1,c.2.2.2.1,0,0):H1) λ_ c1=>hi1 a b c.2.2.2.2 c1.2.1 c1.2.2.1 c1.2.2.2.1 c1.2.2.2.2.1 c1.2.2.2.2.2
    match c1.1 with
    |some r=>pure (ForInStep.done (some r,c1.2.1,c1.2.2.1,c1.2.2.2.1,c.2.2.2.2))
    |none=>do
     liftM (rule "list.sort.gallop")
     let c2 <- forIn [0:a.size+b.size] ((none,c1.2.1,c1.2.2.1,c1.2.2.2.1,c.2.2.2.2+1,c1.2.2.2.2.1,c1.2.2.2.2.2):H2) λ_ c2=>hi2 a b c2.2.1 c2.2.2.1 c2.2.2.2.1 c2.2.2.2.2.1 c2.2.2.2.2.2.1 c2.2.2.2.2.2.2
     match c2.1 with
     |some r=>pure (ForInStep.done (some r,c2.2.1,c2.2.2.1,c2.2.2.2.1,c2.2.2.2.2.1))
     |none=>do
      b0h (c2.2.2.2.2.1+1)
      pure (ForInStep.yield (none,c2.2.1,c2.2.2.1,c2.2.2.2.1,c2.2.2.2.2.1+1))
   match c.1 with
   |some r=>pure r
   |none=>jq "internal:list.sort.merge-bound"):=by
 kernel_rfl
section
variable{κ:KF}{A B o:List Keyed}{u v:Nat}{p:Keyed}
structure MH (κ:KF) (A B o:List Keyed) (u v:Nat):Prop where
 ia:u<=A.length
 jb:v<=B.length
 pm:(A.take u++B.take v++o.reverse).Perm (A++B)
 so:Srt κ o.reverse
 ba:∀x∈o,∀y∈A.take u,κ y<=κ x
 bb:∀x∈o,∀y∈B.take v,κ y<=κ x
def a6K{l:List Keyed}(h:l[n]?=some p):l.take (n+1)=l.take n++[p]:=by
 rw[b6,h];rfl
def a1r(h:Srt κ l)(n:Nat):Srt κ (l.take n):=bd.sublist (cR n l) h
def a1Q(h:Srt κ l)(e:l[n]?=some p):∀y∈l.take (n+1),κ y<=κ p:=λy a=>by
 have b:=a1r h (n+1);rw[a6K e]at b a;rcases aE.mp a with a |a
 ·exact (aY.mp b).2.2 y a p (by simp)
 ·simp_all
def MH.pushA(W:MH κ A B o (u+1) v)(sa:Srt κ A)(hp:A[u]?=some p)(hb:∀y∈B.take v,κ y<=κ p):MH κ A B (o++[p]) u v:=by
 have c:=a6K hp;have d:=(aI.mp hp).1;refine⟨by lia,W.jb,?_,?_,λx b y a=>?_,λx b y a=>?_⟩
 ·have:=W.pm
  rw[c]at this;refine bm.trans ?_ this;rw[cq,cz];simp;exact bm.append_left _ du
 ·rw[cq,cz,dz];refine aT.mpr ⟨λx b=>?_,W.so⟩;exact W.ba x (by simpa using b) p (by rw[c];simp)
 ·rcases aE.mp b with h |h
  ·exact W.ba x h y (by simp_all)
  ·rw[aJ.mp h];exact a1Q sa hp y (by simp_all)
 ·rcases aE.mp b with h |h
  ·exact W.bb x h y a
  ·simp_all
def MH.pushB(W:MH κ A B o u (v+1))(sb:Srt κ B)(hp:B[v]?=some p)(hb:∀y∈A.take u,κ y<=κ p):MH κ A B (o++[p]) u v:=by
 have c:=a6K hp;have d:=(aI.mp hp).1;refine⟨W.ia,by omega,?_,?_,λx b y a=>?_,λx b y a=>?_⟩
 ·have:=W.pm
  rw[c]at this;refine bm.trans ?_ this;rw[cq,cz];simp only[be];exact bm.refl _
 ·rw[cq,cz,dz];refine aT.mpr ⟨λx b=>?_,W.so⟩;exact W.bb x (by simp_all) p (by simp_all)
 ·rcases aE.mp b with h |h
  ·exact W.ba x h y a
  ·rw[aJ.mp h];exact hb y a
 ·rcases aE.mp b with h |h
  ·exact W.bb x h y (by simp_all)
  ·rw[aJ.mp h];exact a1Q sb hp y (by simp_all)
def MH.runA(sa:Srt κ A):∀(k:Nat){o:List Keyed},MH κ A B o (u+k) v->(∀q z,u<=q->q<u+k->A[q]?=some z->∀y∈B.take v,κ y<=κ z)->MH κ A B (o++((A.drop u).take k).reverse) u v:=by intro z0;induction z0 with
 |zero=>intro o W _;simpa using W
 |succ k I0=>
  intro o W hz;have a:u+k<A.length:=by have:=W.ia;lia
  have e:=aN a;rw[take_snoc e,cq,cz,<- be];exact (I0 (MH.pushA W sa e (hz _ _ (by simp) (by simp) e)) λq z c f=>hz q z c (by lia))
def MH.runB(sb:Srt κ B):∀(k:Nat){o:List Keyed},MH κ A B o u (v+k)->(∀q z,v<=q->q<v+k->B[q]?=some z->∀y∈A.take u,κ y<=κ z)->MH κ A B (o++((B.drop v).take k).reverse) u v:=by intro z0;induction z0 with
 |zero=>intro o W _;simpa using W
 |succ k I0=>
  intro o W hz;have a:v+k<B.length:=by have:=W.jb;lia
  have e:=aN a;rw[take_snoc e,cq,cz,<- be];exact (I0 (MH.pushB W sb e (hz _ _ (by simp) (by simp) e)) λq z c f=>hz q z c (by lia))
def MH.doneA(W:MH κ A B o u v)(sa:Srt κ A)(sb:Srt κ B)(h:u=0\/v=0):Mgd κ A B (A.take u++B.take v++o.reverse):=by
 refine⟨W.pm,?_⟩;refine aY.mpr ⟨aY.mpr ⟨a1r sa u,a1r sb v,λx b y c=>?_⟩,W.so,λx b y c=>?_⟩
 ·rcases h with rfl |rfl
  ·simp_all
  ·simp_all
 ·have a:y∈o:=by simpa using c
  rcases aE.mp b with h |h
  ·exact W.ba y a x h
  ·exact W.bb y a x h
def MH.doneB(W:MH κ A B o u 1)(sa:Srt κ A)(sb:Srt κ B)(hf:∀z,B[0]?=some z->∀y∈A,κ z<=κ y):Mgd κ A B (B.take 1++A.take u++o.reverse):=by
 refine⟨?_,?_⟩
 ·refine bm.trans ?_ W.pm;exact bm.append_right _ eK
 ·refine aY.mpr ⟨aY.mpr ⟨a1r sb 1,a1r sa u,λx a y c=>?_⟩,W.so,λx a y c=>?_⟩
  ·cases B with
   |nil=>simp at a
   |cons z B=>
    have:x=z:=by simpa using a
    subst this;exact hf x rfl y (bS c)
  ·have b:y∈o:=by simpa using c
   rcases aE.mp a with h |h
   ·exact W.bb y b x h
   ·exact W.ba y b x h
end
section
variable{κ:KF}{a b o:Array Keyed}{u v:Nat}
def a2n:(hnA a b o u v).toList=a.toList.take u++b.toList.take v++o.toList.reverse:=by
 simp
def a3p:(hnB a b o u v).toList=b.toList.take v++a.toList.take u++o.toList.reverse:=by
 simp
def a7C:(o++(a.extract p u).reverse).toList=o.toList++((a.toList.drop p).take (u-p)).reverse:=by
 simp[dw]
end
structure RdH (κ:KF) (a b o:Array Keyed) (u v:Nat):Prop where
 w:MH κ a.toList b.toList o.toList u v
 hu:1<=u
 hv:2<=v
section
variable{M:Model}{A:Around}{E:Value->Shared->Prop}{s:Shared}{κ:KF}{k0:gi}{ajj a b o:Array Keyed}{st:SortSt}{u v g ac bc:Nat}
def RdH.ua(R:RdH κ a b o u v):u<=a.size:=by have:=R.w.ia;rwa [a0Y]at this
def RdH.vb(R:RdH κ a b o u v):v<=b.size:=by have:=R.w.jb;rwa [a0Y]at this
def MC.first(C:MC M A E s κ k0 ajj a b):∀z,b.toList[0]?=some z->∀y∈a.toList,κ z<=κ y:=λz c y d=>by
 have:=C.hf y d
 rwa [a3L c]at this
def c0R(C:MC M A E s κ k0 ajj a b)(hk:kindOf st=k0)(R:RdH κ a b o (u+1) (v+1))
  (dn:∀r c,Mgd κ a.toList b.toList r.toList->Q (.done (some r,c)) st)
  (br:∀o' u' v' x y,RdH κ a b o' u' v'->u'+v'=u+v+1->Q (.done (none,u',v',o',x,y)) st)
  (go:∀o' u' v' x y,RdH κ a b o' u' v'->u'+v'=u+v+1->Q (.yield (none,u',v',o',x,y)) st):wpS M A E s (hi1 a b g (u+1) (v+1) o ac bc) Q st:=by
 have q:=R.ua;have t:=R.vb;have p:=R.hv;have l:b[v]?=some b[v]:=getElem?_pos ..;have n:a[u]?=some a[u]:=getElem?_pos ..;have j:=a0L (a:=b) (i:=v) (by lia);have k:=a0L (a:=a) (i:=u) (by lia);unfold hi1;simp only[dR];refine fI (a0D l (fI (a0D n (fI (C.L _ _ (C.hb _ (aS j)) (C.ha _ (aS k)) st _ hk ?_)))));dsimp only
 by_cases c:κ b[v]<κ a[u]
 ·rw[if_pos (decide_eq_true c)];refine fI (a0D n ?_);have d:=R.w.pushA C.sa k λy h=>bn (a1Q C.sb j y h) (bR c);rw[<- bG]at d
  by_cases e:u=0
  ·rw[if_pos (by simpa using e)];exact fJ (dn _ _ (a2n▸d.doneA C.sa C.sb (.inl e)))
  ·rw[if_neg (by simpa using e)];have f:RdH κ a b (o.push a[u]) u (v+1):=⟨d,by lia,p⟩
   split
   ·exact fJ (br _ _ _ _ _ f (by lia))
   ·exact fJ (go _ _ _ _ _ f (by lia))
 ·rw[if_neg (by simpa using c)];refine fI (a0D l ?_);have d:=R.w.pushB C.sb j λy h=>bn (a1Q C.sa k y h) (dy.mp c);rw[<- bG]at d
  by_cases e:v=1
  ·rw[if_pos (by simpa using e)];subst e;exact fJ (dn _ _ (a3p▸d.doneB C.sa C.sb C.first))
  ·rw[if_neg (by simpa using e)];have f:RdH κ a b (o.push b[v]) (u+1) v:=⟨d,R.hu,by lia⟩
   split
   ·exact fJ (br _ _ _ _ _ f (by lia))
   ·exact fJ (go _ _ _ _ _ f (by lia))
structure HG (st:SortSt) (κ:KF) (a b:Array Keyed) (n:Nat) (Q:ForInStep H2->SortSt->Prop):Prop where
 dn:∀r c st',SG st st'->Mgd κ a.toList b.toList r.toList->Q (.done (some r,c)) st'
 br:∀o' u' v' x y z st',SG st st'->RdH κ a b o' u' v'->u'+v'<n->Q (.done (none,u',v',o',x,y,z)) st'
 go:∀o' u' v' x y z st',SG st st'->RdH κ a b o' u' v'->u'+v'<n->Q (.yield (none,u',v',o',x,y,z)) st'
def b79(C:MC M A E s κ k0 ajj a b)(R:RdH κ a b o (u+1) v)(hle:∀y∈b.toList.take v,κ y<=Kk κ a u)(H:HG st κ a b n Q)(hn:u+v<n):wpS M A E s (hi5 a b (u+1) v o g ac bc) Q st:=by
 have k:=R.ua;have j:a[u]?=some a[u]:=getElem?_pos ..;rw[a0R (show u<a.size by lia)]at hle;unfold hi5;simp only[dR];refine fI (a0D j ?_);have c:=R.w.pushA C.sa (a0L (a:=a) (i:=u) (by lia)) hle;rw[<- bG]at c
 by_cases e:u=0
 ·rw[if_pos (by simpa using e)];exact fJ (H.dn _ _ _ (SG.refl _) (a2n▸c.doneA C.sa C.sb (.inl e)))
 ·rw[if_neg (by simpa using e)];have d:RdH κ a b _ u v:=⟨c,by lia,R.hv⟩
  split
  ·exact fJ (H.br _ _ _ _ _ _ _ (SG.refl _) d (by lia))
  ·exact fJ (H.go _ _ _ _ _ _ _ (SG.refl _) d (by lia))
def a2a{l:List Keyed}(h:y∈l.take n):∃q,q<n/\l[q]?=some y:=by
 obtain⟨m,a⟩:=bH h;have b:=(aI.mp a).1;rw[dA]at a
 split at a
 ·exact⟨m,by omega,a⟩
 ·grind
def b8a(C:MC M A E s κ k0 ajj a b)(hk:kindOf st=k0)(R:RdH κ a b o (u+1) (v+1))(hle:∀y∈a.toList.take (u+1),κ y<=Kk κ b v)(H:HG st κ a b n Q)(hn:u+v<n):wpS M A E s (hi4 a b (u+1) (v+1) o g ac bc) Q st:=by
 have I:=R.ua;have G:=R.vb;have F:=R.hv;have B:b[v]?=some b[v]:=getElem?_pos ..;have t:a[u]?=some a[u]:=getElem?_pos ..;have r:=a0L (a:=a) (i:=u) (by lia);rw[a0R (show v<b.size by lia)]at hle;unfold hi4;simp only[dR];refine fI (a0D B ?_);have d:=R.w.pushB C.sb (a0L (a:=b) (i:=v) (by lia)) hle;rw[<- bG]at d
 by_cases e:v=1
 ·rw[if_pos (by simpa using e)];subst e;exact fJ (H.dn _ _ _ (SG.refl _) (a3p▸d.doneB C.sa C.sb C.first))
 ·rw[if_neg (by simpa using e)];refine fI (a0D t (fI (a1P C.L hk (C.ha _ (aS r)) C.hb (by lia) (by lia) (a2m C.sb (by lia)) λp D j h=>?_)));dsimp only;simp only[dB]at j h;have c:∀y∈b.toList.take p,κ y<=Kk κ a u:=λy k=>by
   obtain⟨q,m,l⟩:=a2a k
   have:=j q m
   rw[a3L l]at this;simp[bq]at this;rw[a0R (show u<a.size by lia)]
   lia
  split
  ·have f:=MH.runB C.sb (v-p) (by rw[show p+(v-p)=v by lia];exact d) λq z m J l y k=>by
    have:=h q m (by lia)
    rw[a3L l]at this;simp[bq]at this;exact bn (a1Q C.sa r y k) this
   rw[<- a7C]at f
   by_cases e1:p=1
   ·rw[if_pos (by simpa using e1)];subst e1;exact fJ (H.dn _ _ _ (SG.refl _) (a3p▸f.doneB C.sa C.sb C.first))
   ·rw[if_neg (by simpa using e1)]
    by_cases e2:p=0
    ·rw[if_pos (by simpa using e2)];exact fJ (H.dn _ _ _ (SG.refl _) (a2n▸f.doneA C.sa C.sb (.inr e2)))
    ·rw[if_neg (by simpa using e2)];exact b79 C ⟨f,by lia,by lia⟩ c H (by lia)
  ·have:p=v:=by lia
   subst this;exact b79 C ⟨d,by lia,by lia⟩ c H (by lia)
def c0S(C:MC M A E s κ k0 ajj a b)(hk:kindOf st=k0)(R:RdH κ a b o (u+1) (v+1))(H:HG st κ a b n Q)(hn:u+v<n):wpS M A E s (hi3 a b (u+1) (v+1) o g ac bc) Q st:=by
 have S:=R.ua;have N:=R.vb;have I:b[v]?=some b[v]:=getElem?_pos ..;have D:=a0L (a:=b) (i:=v) (by lia);unfold hi3;rw[a46];refine fI (gm ?_);have h:SG st (SortSt.mk' _ _ _ g _):=⟨rfl,rfl,rfl,rfl⟩;have e:kindOf (SortSt.mk' _ (arrOf st) (fP st) g (gb st))=k0:=hk;generalize SortSt.mk' _ (arrOf st) (fP st) g (gb st)=st1 at h e;have l:HG st1 κ a b n Q:=⟨λr c d g=>H.dn r c d (h.trans g),λ_ _ _ _ _ _ d g=>H.br _ _ _ _ _ _ d (h.trans g),λ_ _ _ _ _ _ d g=>H.go _ _ _ _ _ _ d (h.trans g)⟩;refine fI (a0D I (fI (a1P C.L e (C.hb _ (aS D)) C.ha (by lia) (by lia) (a2m C.sa (by lia)) λp J k j=>?_)));dsimp only;simp at k j;have f:∀y∈a.toList.take p,κ y<=Kk κ b v:=λy m=>by
  obtain⟨q,B,x⟩:=a2a m
  have:=k q B
  rw[a3L x]at this;simp[bq]at this;rw[a0R _];omega
 split
 ·have t:=MH.runA C.sa _ (show p+(u+1-p)=u+1 by lia▸R.w) λq z B T x y m=>by
   have:=j q B (by lia)
   rw[a3L x]at this;simp[bq]at this;exact bn (a1Q C.sb D y m) (bR this)
  rw[<- a7C]at t
  by_cases e1:p=0
  ·rw[if_pos (by simpa using e1)];exact fJ (l.dn _ _ _ (SG.refl _) (a2n▸t.doneA C.sa C.sb (.inl e1)))
  ·rw[if_neg (by simpa using e1)];obtain⟨G,rfl⟩:∃G,p=G+1:=⟨p-1,by lia⟩;exact b8a C e ⟨t,by lia,R.hv⟩ f l (by lia)
 ·have:p=u+1:=by lia
  subst this;exact b8a C e R f l (by lia)
def c0T(C:MC M A E s κ k0 ajj a b)(hk:kindOf st=k0)(R:RdH κ a b o (u+1) (v+1))(H:HG st κ a b n Q)(hn:u+v<n):wpS M A E s (hi2 a b (u+1) (v+1) o g ac bc) Q st:=by
 unfold hi2
 split<;>exact c0S C hk R H hn
def b2k(C:MC M A E s κ k0 ajj a b):MH κ a.toList b.toList [a[a.size-1]'(by have:=C.h0;omega)] (a.size-1) b.size:=by
 have f:=C.h0;have d:MH κ a.toList b.toList [] (a.size-1+1) b.size:=⟨by rw[a0Y];lia,by rw[a0Y];lia,by rw[b7 (by rw[a0Y];lia),b7 (by rw[a0Y];lia)];simp,.nil,λx h=>by simp at h,λx h=>by simp at h⟩;exact d.pushA C.sa (a0L (a:=a) (i:=a.size-1) (by lia)) λy e=>C.hl _ (by simp) y (bS e)
def b0j(C:MC M A E s κ k0 ajj a b)(hk:kindOf st=k0)
  (h:∀r st',SG st st'->Mgd κ a.toList b.toList r.toList->Q r st'):wpS M A E s (a48 a b) Q st:=by
 have h0:=C.h0;have h1:=C.h1;rw[a5S];refine a4F (fI (a0D (getElem?_pos a (a.size-1) (by lia)) ?_));have V:=b2k C
 by_cases e1:a.size-1=0
 ·rw[if_pos (by simpa using e1)];exact fJ (h _ _ (SG.refl _) (a2n▸V.doneA C.sa C.sb (.inl e1)))
 rw[if_neg (by simpa using e1)]
 by_cases e2:b.size=1
 ·rw[if_pos (by simpa using e2)];refine fJ (h _ _ (SG.refl _) ?_);rw[e2]at V;rw[a3p,e2];exact V.doneB C.sa C.sb C.first
 rw[if_neg (by simpa using e2)];refine fI (gj ?_);have R0:RdH κ a b #[a[a.size-1]] (a.size-1) b.size:=⟨V,by lia,by lia⟩;refine fI (f7 (fY (I:=λx c e=>∃o u v g,c=(none,u,v,o,g)/\SG st e/\RdH κ a b o u v/\x+(u+v)<a.size+b.size)
  (Q:=λc e=>∃r G,c=(some r,G)/\SG st e/\Mgd κ a.toList b.toList r.toList) ?step ?fin ⟨_,_,_,_,rfl,SG.refl _,R0,by lia⟩) ?post)
 case post=>
  rintro c e ⟨r,G,rfl,L,m⟩;exact fJ (h r e L m)
 case fin=>
  rintro c e ⟨o,u,v,g,rfl,L,R,hx⟩
  lia
 case step=>
  rintro x c e _ hx ⟨o,u,v,g,rfl,L,R,hxi⟩;dsimp only;have hk1:kindOf e=k0:=L.kd.trans hk;refine fI (f7 (fY (I:=λy c l=>∃D f i S J,c=(none,f,i,D,S,J)/\l=e/\RdH κ a b D f i/\f+i+y<=u+v)
   (Q:=λc l=>l=e/\((∃r G,c=(some r,G)/\Mgd κ a.toList b.toList r.toList)\/∃D f i S J,c=(none,f,i,D,S,J)/\RdH κ a b D f i/\f+i<=u+v)) ?st1 ?fi1 ⟨_,_,_,_,_,rfl,rfl,R,by lia⟩) ?po1)
  case fi1=>
   rintro c l ⟨D,f,i,S,J,rfl,rfl,H,Y⟩;exact⟨rfl,.inr ⟨_,_,_,_,_,rfl,H,by lia⟩⟩
  case st1=>
   rintro y c l _ Y ⟨D,f,i,S,J,rfl,rfl,H,hyi⟩;dsimp only;have hu1:=H.hu;have hv1:=H.hv;obtain⟨f,rfl⟩:∃z,f=z+1:=⟨f-1,by lia⟩;obtain⟨i,rfl⟩:∃z,i=z+1:=⟨i-1,by lia⟩;refine c0R C hk1 H (λr c m=>⟨rfl,.inl ⟨r,c,rfl,m⟩⟩) (λo2 i2 j2 u v R2 U=>⟨rfl,.inr ⟨_,_,_,_,_,rfl,R2,by lia⟩⟩) λo2 i2 j2 u v R2 U=>⟨_,_,_,_,_,rfl,rfl,R2,by lia⟩
  case po1=>
   rintro c l ⟨rfl,⟨r,G,rfl,m⟩ |⟨D,f,i,S,J,rfl,H,hij⟩⟩
   ·exact fJ ⟨r,_,rfl,L,m⟩
   ·dsimp only;refine a4F ?_;refine fI (f7 (fY (I:=λy c p=>∃B k j N q t,c=(none,k,j,B,N,q,t)/\SG st p/\RdH κ a b B k j/\k+j+y<=f+i)
     (Q:=λc p=>SG st p/\((∃r G,c=(some r,G)/\Mgd κ a.toList b.toList r.toList)\/∃B k j N q t,c=(none,k,j,B,N,q,t)/\RdH κ a b B k j/\k+j<f+i)) ?l ?fi2 ⟨_,_,_,_,_,_,rfl,L,H,by lia⟩) ?po2)
    case fi2=>
     rintro c p ⟨B,k,j,N,q,t,rfl,d,F,Y⟩;exact⟨d,.inr ⟨_,_,_,_,_,_,rfl,F,by have:=F.hu;lia⟩⟩
    case l=>
     rintro y c p _ Y ⟨B,k,j,N,q,t,rfl,d,F,hyi⟩;dsimp only;have hu1:=F.hu;have hv1:=F.hv;obtain⟨k,rfl⟩:∃z,k=z+1:=⟨k-1,by lia⟩;obtain⟨j,rfl⟩:∃z,j=z+1:=⟨j-1,by lia⟩;refine c0T (n:=k+1+(j+1)) C (d.kd.trans hk) F ⟨λr c W T m=>⟨d.trans T,.inl ⟨r,c,rfl,m⟩⟩,λo4 i4 j4 u v w W T X U=>⟨d.trans T,.inr ⟨_,_,_,_,_,_,rfl,X,by lia⟩⟩,λo4 i4 j4 u v w W T X U=>⟨_,_,_,_,_,_,rfl,d.trans T,X,by lia⟩⟩ (by lia)
    case po2=>
     rintro c p ⟨d,⟨r,G,rfl,m⟩ |⟨B,k,j,N,q,t,rfl,F,U⟩⟩
     ·exact fJ ⟨r,_,rfl,d,m⟩
     ·dsimp only;rw[a46];exact fI (gm (fJ ⟨_,_,_,_,rfl,⟨d.kd,d.ar,d.pe,d.fl⟩,F,by lia⟩))
end
def SR(κ:KF)(xs:Array Keyed)(lo n:Nat):Prop:=∀i j,i<=j->j<n->Kk κ xs (lo+i)<=Kk κ xs (lo+j)
def NR(κ:KF)(xs:Array Keyed)(lo n:Nat):Prop:=∀i j,i<=j->j<n->Kk κ xs (lo+j)<=Kk κ xs (lo+i)
structure Ar (st st':SortSt) (lo:Nat):Prop where
 pm:(arrOf st').Perm (arrOf st)
 pre:∀i,i<lo->(arrOf st')[i]?=(arrOf st)[i]?
 kd:kindOf st'=kindOf st
 pe:fP st'=fP st
 fl:gb st'=gb st
section
variable{M:Model}{A:Around}{E:Value->Shared->Prop}{s:Shared}{κ:KF}{k0:gi}{ajj:Array Keyed}{st st':SortSt}{lo:Nat}
def Ar.refl(st:SortSt)(lo:Nat):Ar st st lo:=⟨dS.refl _,λ_ _=>rfl,rfl,rfl,rfl⟩
def Ar.trans(p:Ar x y lo)(q:Ar y z lo):Ar x z lo:=⟨q.pm.trans p.pm,λi h=>(q.pre i h).trans (p.pre i h),q.kd.trans p.kd,q.pe.trans p.pe,q.fl.trans p.fl⟩
def Ar.tb(q:Ar st st' lo)(B:TB k0 ajj st):TB k0 ajj st':=⟨q.pm.trans B.pm,q.kd.trans B.kd,q.fl.trans B.fl⟩
def b3L(hs:src<xs.size)(hd:d<=src)(k:Nat) :
  Kk κ (bubble xs src d) k=if k=src-d then Kk κ xs src else if src-d<k/\k<=src then Kk κ xs (k-1) else Kk κ xs k:=by
 have q:=getElem?_bubble hs d hd k
 by_cases h1:k=src-d
 ·rw[if_pos h1]at q ⊢;exact a3K q
 ·rw[if_neg h1]at q ⊢
  by_cases h2:src-d<k/\k<=src
  ·rw[if_pos h2]at q ⊢;exact a3K q
  ·rw[if_neg h2]at q ⊢;exact a3K q
def Ar.bub(hs:src<(arrOf st).size)(hd:d<=src)(h:lo<=src-d):Ar st (setArr st (bubble (arrOf st) src d)) lo:=
 ⟨bubble_perm _ _ _,λi a=>by
  rw[getElem?_bubble hs d hd,if_neg (by lia),if_neg (by lia)],rfl,rfl,rfl⟩
def b0k(hj:j<=xs.size)(k:Nat):Kk κ (mirror xs i j ((j-i) / 2)) k=if i<=k/\k<j then Kk κ xs (i+j-1-k) else Kk κ xs k:=by
 have q:=getElem?_mirror_all (i:=i) hj k
 by_cases h1:i<=k/\k<j
 ·rw[if_pos h1]at q ⊢;exact a3K q
 ·rw[if_neg h1]at q ⊢;exact a3K q
def a3M(hj:j<=xs.size)(hq:∀k,i<=k->k<j->Kk κ xs k=Kk κ xs (j-1))(k:Nat):Kk κ (mirror xs i j ((j-i) / 2)) k=Kk κ xs k:=by
 rw[b0k hj]
 split
 ·grind
 ·rfl
def Ar.mir(hj:j<=(arrOf st).size)(h:lo<=i):Ar st (setArr st (mirror (arrOf st) i j ((j-i) / 2))) lo:=
 ⟨mirror_perm _ _ _ _,λk a=>by
  rw[getElem?_mirror_all hj,if_neg (by lia)],rfl,rfl,rfl⟩
def b2l(L:LtOk M A E s κ k0 ajj)(B:TB k0 ajj st)(hn:lo+n<=ajj.size)(hok:ok<=n)(hs:SR κ (arrOf st) lo ok)
  (h:∀st',Ar st st' lo->SR κ (arrOf st') lo n->Q true st'):wpS M A E s (binarySort' lo n ok) Q st:=by
 rw[binarySort'_eq];refine fI (f7 (fY (I:=λk c z=>c=(none,())/\Ar st z lo/\SR κ (arrOf z) lo (min k n)) (Q:=λc z=>c=(none,())/\Ar st z lo/\SR κ (arrOf z) lo n) ?step ?fin ?init) ?post)
 case post=>
  rintro c z ⟨rfl,r1,r2⟩;exact fJ (h z r1 r2)
 case init=>
  refine⟨rfl,Ar.refl _ _,λi j hij hj=>?_⟩
  by_cases h1:ok=0
  ·have:i=j:=by lia
   rw[this];exact bE _
  ·exact hs i j hij (by lia)
 case fin=>
  rintro c z ⟨hc,r1,r2⟩;refine⟨hc,r1,?_⟩
  rwa [show min (max (max ok 1) n) n=n by lia]at r2
 case step=>
  rintro k c z hak hkn ⟨rfl,r1,r2⟩;rw[show min k n=k by lia]at r2;have B1:=r1.tb B;refine fI (f7 (fY (I:=λx c y=>y=z/\∃p q,c=(none,p,q)/\p<=q/\q<=k/\q-p<=k-x/\(∀i,i<p->Kk κ (arrOf z) (lo+i)<=Kk κ (arrOf z) (lo+k))/\(∀i,q<=i->i<k->Kk κ (arrOf z) (lo+k)<Kk κ (arrOf z) (lo+i)))
   (Q:=λc y=>y=z/\∃p q,c=(none,p,q)/\p<=k/\(∀i,i<p->Kk κ (arrOf z) (lo+i)<=Kk κ (arrOf z) (lo+k))/\(∀i,p<=i->i<k->Kk κ (arrOf z) (lo+k)<Kk κ (arrOf z) (lo+i))) ?istep ?ifin ?iinit) ?ipost)
  case iinit=>exact⟨rfl,0,k,rfl,by lia,by lia,by lia,λi hi=>by lia,λi h1 h2=>by lia⟩
  case ifin=>
   rintro c y ⟨rfl,p,q,rfl,u1,u2,u3,u4,u5⟩
   have:p=q:=by lia
   subst this;exact⟨rfl,p,p,rfl,u2,u4,u5⟩
  case istep=>
   rintro x c y _ hxk ⟨rfl,p,q,rfl,u1,u2,u3,u4,u5⟩;dsimp only
   by_cases hge:p>=q
   ·rw[if_pos hge]
    have:p=q:=by lia
    subst this;exact fJ ⟨rfl,p,p,rfl,u2,u4,u5⟩
   ·rw[if_neg hge];refine fI (a5Q L B1 (by lia) (by lia) ?_)
    by_cases hless:Kk κ (arrOf y) (lo+k)<Kk κ (arrOf y) (lo+(p+q) / 2)
    ·simp only[hless,decide_true,if_true];refine fJ ⟨rfl,p,(p+q) / 2,rfl,by lia,by lia,by lia,u4,λi h1 h2=>?_⟩;exact Int.lt_of_lt_of_le hless (r2 _ _ h1 h2)
    ·simp only[hless,decide_false,cX,if_false];refine fJ ⟨rfl,(p+q) / 2+1,q,rfl,by lia,by lia,by lia,λi h1=>?_,u5⟩;exact bn (r2 i ((p+q) / 2) (by lia) (by lia)) (dy.mp hless)
  case ipost=>
   rintro c y ⟨rfl,p,q,rfl,u2,u4,u5⟩
   show wpS _ _ _ _ (do moveDown' (lo+k) (lo+p);pure (ForInStep.yield (none,()))) _ _
   rw[moveDown'_eq];have hks:lo+k<(arrOf y).size:=by rw[B1.sz];lia
   refine fI (gm (fJ ⟨rfl,r1.trans (Ar.bub hks (by lia) (by lia)),?_⟩));rw[show min (k+1) n=k+1 by lia];intro i j hij hj
   show Kk κ (bubble (arrOf y) (lo+k) (lo+k-(lo+p))) (lo+i)<=Kk κ (bubble (arrOf y) (lo+k) (lo+k-(lo+p))) (lo+j)
   rw[b3L hks (by lia),b3L hks (by lia),show lo+k-(lo+k-(lo+p))=lo+p by lia];have ek:∀t,1<=t->lo+t-1=lo+(t-1):=λt ht=>by lia
   repeat' split
   all_goals first
    | (exfalso;lia)
    |exact bE _
    |exact u4 _ (by lia)
    | (rw[ek _ (by lia)];exact u4 _ (by lia))
    |exact bR (u5 _ (by lia) (by lia))
    | (rw[ek _ (by lia)];exact bR (u5 _ (by lia) (by lia)))
    |exact r2 _ _ (by lia) (by lia)
    | (rw[ek j (by lia)];exact r2 _ _ (by lia) (by lia))
    | (rw[ek i (by lia)];exact r2 _ _ (by lia) (by lia))
    | (rw[ek i (by lia),ek j (by lia)];exact r2 _ _ (by lia) (by lia))
end
abbrev U1:=Option (Option Nat)×Nat
abbrev U2:=Option (Option Nat)×Nat×Nat
noncomputable def rise(lo p nr:Nat):SM U1:=forIn [p:nr] ((none,p):U1) λ_ c=>do
 let x <- ltAt' (lo+c.2) (lo+c.2-1)
 match x with
 |some sm=>if sm=true then pure (.done (none,c.2)) else pure (.yield (none,c.2+1))
 |_=>pure (.done (some none,c.2))
noncomputable def fin3(lo n nr:Nat):SM (Option Nat):=do
 iH lo (lo+n)
 let c <- rise lo n nr
 match c.1 with
 |some r=>pure r
 |none=>pure (some c.2)
noncomputable def fall(lo n nr:Nat):SM U2:=forIn [n:nr] ((none,n,0):U2) λ_ c=>do
 let x <- ltAt' (lo+c.2.1) (lo+c.2.1-1)
 match x with
 |some sm=>
  if sm=true then
   if c.2.2 > 0 then do
    iH (lo+c.2.1-(c.2.2+1)) (lo+c.2.1)
    pure (.yield (none,c.2.1+1,0))
   else pure (.yield (none,c.2.1+1,0))
  else do
   let x <- ltAt' (lo+c.2.1-1) (lo+c.2.1)
   match x with
   |some lg=>if lg=true then pure (.done (none,c.2.1,c.2.2)) else pure (.yield (none,c.2.1+1,c.2.2+1))
   |_=>pure (.done (some none,c.2.1,c.2.2))
 |_=>pure (.done (some none,c.2.1,c.2.2))
noncomputable def part(lo n nr:Nat):SM (Option Nat):=do
 liftM (rule "list.sort.descending-run")
 let c <- fall lo (n+1) nr
 match c.1 with
 |some r=>pure r
 |none=>
  if c.2.2 > 0 then do
   iH (lo+c.2.1-(c.2.2+1)) (lo+c.2.1)
   fin3 lo c.2.1 nr
  else fin3 lo c.2.1 nr
def a49(lo nr:Nat):countRun' lo nr=(do
  let c <- rise lo 1 nr
  match c.1 with
  |some r=>pure r
  |none=>
   if (c.2==nr)=true then pure (some c.2)
   else if c.2 > 1 then do
    let x <- ltAt' lo (lo+c.2-1)
    match x with
    |some up=>if up=true then pure (some c.2) else do
      iH lo (lo+c.2)
      part lo c.2 nr
    |_=>pure none
   else part lo c.2 nr):=by
 kernel_rfl
section
variable{M:Model}{A:Around}{E:Value->Shared->Prop}{s:Shared}{κ:KF}{k0:gi}{ajj:Array Keyed}{st:SortSt}{lo nr:Nat}
def b2m{α:Type}{f:Unit->SM α}{Q:α->SortSt->Prop}(h:wpS M A E s (f ()) Q (setArr st (mirror (arrOf st) i j ((j-i) / 2)))):wpS M A E s (iH i j >>= f) Q st:=fI (gm h)
def SR.one:SR κ xs lo 1:=by grind [SR]
def SR.snoc(h:SR κ xs lo n)(h1:1<=n)(c:Kk κ xs (lo+n-1)<=Kk κ xs (lo+n)):SR κ xs lo (n+1):=λi j a b=>by
 by_cases hjn:j<n
 ·exact h i j a hjn
 ·have e:j=n:=by lia
  subst e
  by_cases e2:i=j
  ·rw[e2];exact bE _
  ·refine bn (h i (j-1) (by lia) (by lia)) ?_;rw[show lo+(j-1)=lo+j-1 by lia];exact c
def NR.snoc(h:NR κ xs lo n)(h1:1<=n)(c:Kk κ xs (lo+n)<=Kk κ xs (lo+n-1)):NR κ xs lo (n+1):=λi j a b=>by
 by_cases hjn:j<n
 ·exact h i j a hjn
 ·have e:j=n:=by lia
  subst e
  by_cases e2:i=j
  ·simp_all
  ·refine bn ?_ (h i (j-1) (by lia) (by lia));rw[show lo+(j-1)=lo+j-1 by lia];exact c
def NR.congr(h:NR κ xs lo n)(e:∀k,Kk κ ys k=Kk κ xs k):NR κ ys lo n:=λi j b a=>by rw[e,e];exact h i j b a
def b3M(L:LtOk M A E s κ k0 ajj)(B:TB k0 ajj st)(hn:lo+nr<=ajj.size)(hp:1<=p)(hpn:p<=nr)(hs:SR κ (arrOf st) lo p)
  (h:∀n,p<=n->n<=nr->SR κ (arrOf st) lo n->(n=nr\/Kk κ (arrOf st) (lo+n)<Kk κ (arrOf st) (lo+n-1))->Q (none,n) st):wpS M A E s (rise lo p nr) Q st:=by
 refine fY (I:=λx c z=>z=st/\c=(none,x)/\SR κ _ lo x) ?step ?fin ⟨rfl,rfl,hs⟩
 case fin=>
  rintro c z ⟨rfl,rfl,a⟩;rw[show max p nr=nr by lia]at a ⊢;exact h nr hpn (aC _) a (.inl rfl)
 case step=>
  rintro x c z b d ⟨rfl,rfl,a⟩;refine fI (a5Q L B (by lia) (by lia) ?_)
  by_cases q:Kk κ (arrOf z) (lo+x)<Kk κ (arrOf z) (lo+x-1)
  ·simp only[q];exact fJ (h x b (by lia) a (.inr q))
  ·simp only[q];exact fJ ⟨rfl,rfl,a.snoc (by lia) (dy.mp q)⟩
def b3N(L:LtOk M A E s κ k0 ajj)(B:TB k0 ajj st)(hn:lo+nr<=ajj.size)(h1:1<=n)(hnn:n<=nr)(hs:NR κ (arrOf st) lo n)
  (h:∀m z,Ar st z lo->1<=m->m<=nr->SR κ (arrOf z) lo m->Q (some m) z):wpS M A E s (fin3 lo n nr) Q st:=by
 have a:lo+n<=(arrOf st).size:=by rw[B.sz];lia
 refine b2m ?_;have b:Ar st _ lo:=Ar.mir a (aC _);refine fI (b3M L (b.tb B) hn h1 hnn ?_ λm g d c _=>fJ (h m _ b (by lia) d c));intro i j e f;rw[b0k a,b0k a,if_pos (by lia),if_pos (by lia),show lo+_-1-_=lo+(n-1-i) by lia,show lo+_-1-_=lo+(n-1-j) by lia];exact hs _ _ (by lia) (by lia)
def b8b(L:LtOk M A E s κ k0 ajj)(B:TB k0 ajj st)(hn:lo+nr<=ajj.size)(h1:1<=n)(hnn:n<=nr)(hs:NR κ (arrOf st) lo n)
  (h:∀m e z,Ar st z lo->n<=m->m<=nr->NR κ (arrOf z) lo m->e+1<=m->(∀i,lo+m-(e+1)<=i->i<lo+m->Kk κ (arrOf z) i=Kk κ (arrOf z) (lo+m-1))->Q (none,m,e) z):wpS M A E s (fall lo n nr) Q st:=by
 unfold fall;refine fY (I:=λx c z=>∃e,c=(none,x,e)/\Ar st z lo/\NR κ (arrOf z) lo x/\e+1<=x/\(∀i,lo+x-(e+1)<=i->i<lo+x->Kk κ (arrOf z) i=Kk κ (arrOf z) (lo+x-1))) ?step ?fin ⟨0,rfl,Ar.refl _ _,hs,by lia,λi l a=>by congr 1;lia⟩
 case fin=>
  rintro c z ⟨e,rfl,b,a,f,d⟩;rw[show max n nr=nr by lia]at a f d ⊢;exact h nr e z b hnn (aC _) a f d
 case step=>
  rintro x c z p r ⟨e,rfl,b,a,f,d⟩;dsimp only;have k:=b.tb B;have j:lo+x<=(arrOf z).size:=by rw[k.sz];lia
  refine fI (a5Q L k (by lia) (by lia) ?_)
  by_cases q:Kk κ (arrOf z) (lo+x)<Kk κ (arrOf z) (lo+x-1)
  ·simp only[q,decide_true,if_true];have o:=a.snoc (by lia) (bR q)
   by_cases g:e > 0
   ·rw[if_pos g];exact b2m (fJ ⟨0,rfl,b.trans (Ar.mir j (by lia)),o.congr (a3M j d),by lia,λi l a=>by congr 1;lia⟩)
   ·rw[if_neg g];exact fJ ⟨0,rfl,b,o,by lia,λi l a=>by congr 1;lia⟩
  ·simp only[q,decide_false,if_false];refine fI (a5Q L k (by lia) (by lia) ?_)
   by_cases q2:Kk κ (arrOf z) (lo+x-1)<Kk κ (arrOf z) (lo+x)
   ·simp only[q2,decide_true,if_true];exact fJ (h x e z b p (by lia) a f d)
   ·simp only[q2,decide_false,if_false];have g:Kk κ (arrOf z) (lo+x)=Kk κ (arrOf z) (lo+x-1):=by lia
    refine fJ ⟨e+1,rfl,b,a.snoc (by lia) (by lia),by lia,λi l a=>?_⟩;rw[show lo+(x+1)-1=lo+x by lia]
    by_cases hix:i=lo+x
    ·rw[hix]
    ·grind
def b3O(L:LtOk M A E s κ k0 ajj)(B:TB k0 ajj st)(hn:lo+nr<=ajj.size)(hnn:n+1<=nr)(hs:NR κ (arrOf st) lo (n+1))
  (h:∀m z,Ar st z lo->1<=m->m<=nr->SR κ (arrOf z) lo m->Q (some m) z):wpS M A E s (part lo n nr) Q st:=by
 refine a4F (fI (b8b L B hn (by simp) hnn hs λm e z c l i g o j=>?_));dsimp only;have f:=c.tb B;have a:lo+m<=(arrOf z).size:=by rw[f.sz];lia
 by_cases he:e > 0
 ·rw[if_pos he];have d:Ar st (setArr z (mirror (arrOf z) (lo+m-(e+1)) _ _)) lo:=c.trans (Ar.mir a (by lia));exact b2m (b3N L (d.tb B) hn (by lia) i (g.congr (a3M a j)) λk w b=>h k w (d.trans b))
 ·rw[if_neg he];exact b3N L f hn (by lia) i g λk w b=>h k w (c.trans b)
def b5f(L:LtOk M A E s κ k0 ajj)(B:TB k0 ajj st)(hn:lo+nr<=ajj.size)(h1:1<=nr)
  (h:∀m z,Ar st z lo->1<=m->m<=nr->SR κ (arrOf z) lo m->Q (some m) z):wpS M A E s (countRun' lo nr) Q st:=by
 rw[a49];refine fI (b3M L B hn (aC 1) h1 SR.one λn e l b t=>?_);dsimp only
 by_cases hnn:n=nr
 ·rw[if_pos (by simpa using hnn)];exact fJ (h n st (Ar.refl _ _) e l b)
 ·rw[if_neg (by simpa using hnn)];have d:=t.resolve_left hnn;have c:lo+n<=(arrOf st).size:=by rw[B.sz];lia
  by_cases hgt:n > 1
  ·rw[if_pos hgt];refine fI (a5Q L B (by lia) (by lia) ?_)
   by_cases q:Kk κ (arrOf st) lo<Kk κ (arrOf st) (lo+n-1)
   ·simp only[q,decide_true,if_true];exact fJ (h n st (Ar.refl _ _) e l b)
   ·simp only[q,if_false];have a:∀k,lo<=k->k<lo+n->Kk κ (arrOf st) k=Kk κ (arrOf st) (lo+n-1):=λk y x=>by
     have g:=b 0 (k-lo) (by lia) (by lia);have f:=b (k-lo) (n-1) (by lia) (by lia);rw[show lo+(k-lo)=k by lia]at g f;rw[show lo+(n-1)=lo+n-1 by lia]at f;rw[dU]at g
     lia
    have o:Ar st _ lo:=Ar.mir c (aC _);have u:NR κ (arrOf st) lo (n+1):=by
     refine NR.snoc (λi j p r=>?_) (by lia) (bR d);rw[a (lo+i) (by lia) (by lia),a (lo+j) (by lia) (by lia)];exact bE _
    exact b2m (b3O L (o.tb B) hn (by lia) (u.congr (a3M c a)) λk w v=>h k w (o.trans v))
  ·rw[if_neg hgt]
   have:n=1:=by lia
   subst this;refine b3O L B hn (by lia) ?_ h;refine NR.snoc (λi j p r=>?_) (by lia) (bR d)
   have:i=j:=by lia
   rw[this];exact bE _
end
def a6L(i:Nat):jt i=(do
 let z <- get
 let (some (p,n,w),some (q,m,_)):=((fP z)[i]?,(fP z)[i+1]?) |jq "internal:list.sort.pending"
 set (iI z (((fP z).setIfInBounds i (p,n+m,w)).eraseIdxIfInBounds (i+1)))
 let some k <- a1I false (<- elem' (arrOf z) q) (arrOf z) p n 0 |return false
 let (p,n):=(p+k,n-k)
 if n==0 then return true
 let some m <- a1I true (<- elem' (arrOf z) (p+n-1)) (arrOf z) q m (m-1) |return false
 if m==0 then return true
 let x:=(arrOf z).extract p q
 let y:=(arrOf z).extract q (q+m)
 let mg <- if n<=m then a47 x y else a48 x y
 modify λz=>setArr z (mg.toList.zipIdx.foldl (λa (v,j)=>a.setIfInBounds (p+j) v) (arrOf z))
 return (gb (<- get)).isNone):=rfl
def b2n(bs:Nat):∀(l:List Keyed)(k:Nat)(xs:Array Keyed),bs+k+l.length<=xs.size ->
  ((l.zipIdx k).foldl (λa (pj:Keyed×Nat)=>a.setIfInBounds (bs+pj.2) pj.1) xs).toList=xs.toList.take (bs+k)++(l++xs.toList.drop (bs+k+l.length)):=by intro z0;induction z0 with
 |nil=>intro k xs _;simp
 |cons x l I0=>
  intro k xs h;rw[aL]at h;rw[eM,List.foldl_cons,I0 _ _ (by grind)];have e:(xs.setIfInBounds (bs+k) x).toList=xs.toList.set (bs+k) x:=by simp
  rw[e,show bs+_=bs+k+1 by lia,List.drop_set_of_lt (by lia),aL,show bs+k+1+l.length=bs+k+(l.length+1) by lia]
  have:(xs.toList.set (bs+k) x).take (bs+k+1)=xs.toList.take (bs+k)++[x]:=by
   rw[b6,List.take_set_of_le (aC _),dJ (by grind)]
   rfl
  rw[this];simp
section
variable{M:Model}{A:Around}{E:Value->Shared->Prop}{s:Shared}{κ:KF}{k0:gi}{ajj:Array Keyed}{st:SortSt}
def c0U(h:Q ⟨⟩ z):wpS M A E s (set z:SM PUnit) Q st:=fG ⟨rfl,h⟩
def b3P(e:xs.toList=P++(X++R))(hi:i<X.length):Kk κ xs (P.length+i)=κ X[i]:=by
 refine a3L ?_;rw[e,cv (by simp),cD (by lia),show P.length+i-P.length=i by lia];exact aN hi
def a2o(h:Srt κ X)(hij:i<=j)(hj:j<X.length):κ (X[i]'(by omega))<=κ X[j]:=by
 by_cases e:i=j
 ·subst e;exact bE _
 ·exact cy.mp h i j (by lia) hj (by lia)
def a7D{X:List Keyed}(h:x∈X):∃i,∃(hi:i<X.length),X[i]=x:=eN.mp h
def a5T{X:List Keyed}(h:x∈X.take k):∃i,∃(hi:i<X.length),i<k/\X[i]=x:=by
 obtain⟨q,a,d⟩:=a2a h;obtain⟨b,c⟩:=aI.mp d;exact⟨q,b,a,c⟩
def a7E{X:List Keyed}(h:x∈X.drop k):∃i,∃(hi:i<X.length),k<=i/\X[i]=x:=by
 obtain⟨q,b,e,d⟩:=a19 h;obtain⟨c,a⟩:=aI.mp d;exact⟨q,c,b,a⟩
def b0l(L:LtOk M A E s κ k0 ajj)(B:TB k0 ajj st)(e1:(fP st)[i]?=some (sa,na,pw))(e2:(fP st)[i+1]?=some (sb,nb,pw2))
  (ea:(arrOf st).toList=P++(X++(Y++S))) (hP:P.length=sa) (hX:X.length=na) (hsb:sb=sa+na) (hY:Y.length=nb) (sX:Srt κ X) (sY:Srt κ Y) (h1:0<na) (h2:0<nb)
  (h:∀st' Z,TB k0 ajj st'->(arrOf st').toList=P++(Z++S)->Z.length=na+nb->Srt κ Z->fP st'=((fP st).setIfInBounds i (sa,na+nb,pw)).eraseIdxIfInBounds (i+1)->Q true st'):wpS M A E s (jt i) Q st:=by
 have hsz:(arrOf st).size=sa+na+nb+S.length:=by
  rw[<- a0Y,ea];simp;omega
 have hmem:∀p∈(arrOf st).toList,p∈ajj.toList:=λp hp=>(cU.mp B.pm).mem_iff.mp hp;have eb:(arrOf st).toList=(P++X)++(Y++S):=by rw[ea,be]
 have kX:∀i,(hi:i<X.length)->Kk κ (arrOf st) (sa+i)=κ X[i]:=λi hi=>by rw[<- hP];exact b3P ea hi
 have kY:∀i,(hi:i<Y.length)->Kk κ (arrOf st) (sb+i)=κ Y[i]:=λi hi=>by
  rw[hsb,<- hP,<- hX,<- aG];exact b3P eb hi
 rw[a6L];refine fI (gj ?_);rw[e1,e2];dsimp only;refine fI (c0U ?_);have B1:TB k0 ajj (iI st (((fP st).setIfInBounds i (sa,na+nb,pw)).eraseIdxIfInBounds (i+1))):=⟨B.pm,B.kd,B.fl⟩;have hs1:arrOf (iI st (((fP st).setIfInBounds i (sa,na+nb,pw)).eraseIdxIfInBounds (i+1)))=arrOf st:=rfl;have hp1:fP (iI st (((fP st).setIfInBounds i (sa,na+nb,pw)).eraseIdxIfInBounds (i+1)))=((fP st).setIfInBounds i (sa,na+nb,pw)).eraseIdxIfInBounds (i+1):=rfl;generalize iI st (((fP st).setIfInBounds i (sa,na+nb,pw)).eraseIdxIfInBounds (i+1))=st1 at B1 hs1 hp1;have hy0:sb<(arrOf st).size:=by omega
 have ey:(arrOf st)[sb]?=some (arrOf st)[sb]:=getElem?_pos ..;have hky:κ (arrOf st)[sb]=κ Y[0]:=by
  have:=kY 0 (by omega)
  rw[dU,a6J ey]at this;exact this
 have hmy:(arrOf st)[sb]∈ajj.toList:=hmem _ (by simp);refine fI (a0D ey (fI ?_));refine a1P L B1.kd hmy hmem (by omega) (by omega) (λp q hp hq=>by rw[kX p (by omega),kX q (by omega)];exact a2o sX hp (by omega)) λk hkn hlt hge=>?_;dsimp only;have lo:∀q,(hq:q<X.length)->q<k->κ X[q]<=κ Y[0]:=λq hq hqk=>by
  have:=hlt q hqk
  rw[kX q hq,hky]at this;simpa[bq]using this
 have up:∀q,(hq:q<X.length)->k<=q->κ Y[0]<κ X[q]:=λq hq hqk=>by
  have:=hge q hqk (by omega)
  rw[kX q hq,hky]at this;simpa[bq]using this
 have whole:(∀x∈X,∀y∈Y,κ x<=κ y)->Q true st1:=λhxy=>by
  refine h st1 (X++Y) B1 (by rw[hs1,ea,be]) (by rw[aG,hX,hY]) ?_ hp1;exact aY.mpr ⟨sX,sY,hxy⟩
 by_cases c1:na-k=0
 ·rw[if_pos (by simpa using c1)];refine fJ (whole λx hx y hy=>?_);obtain⟨q,hq,rfl⟩:=a7D hx;obtain⟨r,hr,rfl⟩:=a7D hy;exact bn (lo q hq (by omega)) (a2o sY (aW _) hr)
 rw[if_neg (by simpa using c1)];have hl:sa+k+(na-k)-1<(arrOf st).size:=by omega
 have ex:(arrOf st)[sa+k+(na-k)-1]?=some (arrOf st)[sa+k+(na-k)-1]:=getElem?_pos ..;have hkx:κ (arrOf st)[sa+k+(na-k)-1]=κ X[na-1]:=by
  have:=kX (na-1) (by omega)
  rw[show sa+(na-1)=sa+k+(na-k)-1 by omega,a6J ex]at this;exact this
 have hmx:(arrOf st)[sa+k+(na-k)-1]∈ajj.toList:=hmem _ (by simp);refine fI (a0D ex (fI ?_));refine a1P L B1.kd hmx hmem (by omega) (by omega) (λp q hp hq=>by rw[kY p (by omega),kY q (by omega)];exact a2o sY hp (by omega)) λm hmn hlt2 hge2=>?_;dsimp only;have lo2:∀q,(hq:q<Y.length)->q<m->κ Y[q]<κ X[na-1]:=λq hq hqk=>by
  have:=hlt2 q hqk
  rw[kY q hq,hkx]at this;simpa[bq]using this
 have up2:∀q,(hq:q<Y.length)->m<=q->κ X[na-1]<=κ Y[q]:=λq hq hqk=>by
  have:=hge2 q hqk (by omega)
  rw[kY q hq,hkx]at this;simpa[bq]using this
 by_cases c2:m=0
 ·rw[if_pos (by simpa using c2)];refine fJ (whole λx hx y hy=>?_);obtain⟨q,hq,rfl⟩:=a7D hx;obtain⟨r,hr,rfl⟩:=a7D hy;exact bn (a2o sX (by omega) (by omega)) (up2 r hr (by omega))
 rw[if_neg (by simpa using c2)];have lx:((arrOf st).extract (sa+k) sb).toList=X.drop k:=by
  rw[eO,dw,ea,dW,<- hP,cW (by omega),cY,show P.length+k-P.length=k by omega,eP (by omega),dC (by rw[bt];omega),b7 (by rw[bt];omega)]
 have ly:((arrOf st).extract sb (sb+m)).toList=Y.take m:=by
  rw[eO,dw,eb,dW,cW (by rw[aG];omega),cY,show sb-(P++X).length=0 by rw[aG];omega,List.drop_zero,dC (by omega),show sb+m-sb=m by omega]
 have C:MC M A E s κ k0 ajj ((arrOf st).extract (sa+k) sb) ((arrOf st).extract sb (sb+m)):=by
  refine⟨L,λp hp=>?_,λp hp=>?_,?_,?_,?_,?_,λy hy=>?_,λz hz y hy=>?_⟩
  ·rw[lx]at hp;exact hmem p (by rw[ea];simp[dv hp])
  ·rw[ly]at hp;exact hmem p (by rw[ea];simp[bS hp])
  ·rw[lx];exact a02 sX k
  ·rw[ly];exact a1r sY m
  ·rw[<- a0Y,lx,bt];omega
  ·rw[<- a0Y,ly,aR];omega
  ·rw[lx]at hy;obtain⟨q,hq,hk,rfl⟩:=a7E hy;rw[a3L (z:=Y[0]) (by rw[ly,dA,if_pos (by omega)];exact aN _)];exact bR (up q hq hk)
  ·rw[ly]at hy;rw[lx,bt,cI,show k+(X.length-k-1)=na-1 by omega,aN (show na-1<X.length by omega)]at hz;cases hz;obtain⟨q,hq,hk,rfl⟩:=a5T hy;exact bR (lo2 q hq hk)
 have fin:∀(r:Array Keyed)(st2:SortSt),SG st1 st2->Mgd κ ((arrOf st).extract (sa+k) sb).toList ((arrOf st).extract sb (sb+m)).toList r.toList ->
   wpS M A E s (do
    modify λz=>setArr z (r.toList.zipIdx.foldl (λa (pj:Keyed×Nat)=>a.setIfInBounds (sa+k+pj.2) pj.1) (arrOf z))
    return (gb (<- get)).isNone) Q st2:=by
  intro r st2 g2 mg;rw[lx,ly]at mg;have hrl:r.toList.length=na-k+m:=by rw[mg.1.length_eq,aG,bt,aR];omega
  refine fI (gm (fI (gj (fJ ?_))));have ha2:arrOf st2=arrOf st:=g2.ar.trans hs1;have ef:=b2n (sa+k) r.toList 0 (arrOf st2) (by rw[ha2];omega);have el:(r.toList.zipIdx.foldl (λa (pj:Keyed×Nat)=>a.setIfInBounds (sa+k+pj.2) pj.1) (arrOf st2)).toList=P++((X.take k++r.toList++Y.drop m)++S):=by
   rw[ef,ha2,dU,hrl];have t1:(arrOf st).toList.take (sa+k)=P++X.take k:=by
    rw[ea,List.take_append,b7 (by omega),<- hP,show P.length+k-P.length=k by omega,dC (by omega)]
   have t2:(arrOf st).toList.drop (sa+k+(na-k+m))=Y.drop m++S:=by
    rw[eb,dW,cW (by rw[aG];omega),cY,show sa+k+(na-k+m)-(P++X).length=m by rw[aG];omega,eP (by omega)]
   rw[t1,t2];simp
  generalize hgz:r.toList.zipIdx.foldl (λa (pj:Keyed×Nat)=>a.setIfInBounds (sa+k+pj.2) pj.1) (arrOf st2)=ar at el;have hperm:(X.take k++r.toList++Y.drop m).Perm (X++Y):=by
   have:(X.take k++r.toList++Y.drop m).Perm (X.take k++(X.drop k++Y.take m)++Y.drop m):=(bm.append_left _ mg.1).append_right _
   refine this.trans ?_;have e:X.take k++(X.drop k++Y.take m)++Y.drop m=X++Y:=by
    rw[<- be,cJ,be,cJ]
   rw[e]
  have pm:ar.Perm (arrOf st):=by
   rw[cU,el,ea];refine bm.append_left _ ?_;rw[<- be (as:=X)];exact hperm.append_right _
  have hfl:gb (setArr st2 ar)=none:=g2.fl.trans B1.fl;have B2:TB k0 ajj (setArr st2 ar):=⟨pm.trans B.pm,g2.kd.trans B1.kd,hfl⟩;rw[hfl];refine h _ _ B2 el (by rw[hperm.length_eq,aG,hX,hY]) ?_ (g2.pe.trans hp1);have hr:∀w∈r.toList,w∈X.drop k\/w∈Y.take m:=λw hw=>aE.mp (mg.1.mem_iff.mp hw);refine aY.mpr ⟨aY.mpr ⟨a1r sX k,mg.2,λx hx w hw=>?_⟩,a02 sY m,λx hx y hy=>?_⟩
  ·obtain⟨q,hq,hk,rfl⟩:=a5T hx;rcases hr w hw with hw |hw
   ·obtain⟨p,hp,hk2,rfl⟩:=a7E hw;exact a2o sX (by omega) hp
   ·obtain⟨p,hp,hk2,rfl⟩:=a5T hw;exact bn (lo q hq hk) (a2o sY (aW _) hp)
  ·obtain⟨p,hp,hk2,rfl⟩:=a7E hy;rcases aE.mp hx with hx |hx
   ·obtain⟨q,hq,hk,rfl⟩:=a5T hx;exact bn (lo q hq hk) (a2o sY (aW _) hp)
   ·rcases hr x hx with hx |hx
    ·obtain⟨q,hq,hk,rfl⟩:=a7E hx;exact bn (a2o sX (by omega) (by omega)) (up2 p hp hk2)
    ·obtain⟨q,hq,hk,rfl⟩:=a5T hx;exact a2o sY (by omega) hp
 split
 ·exact fI (b0i C B1.kd λr st2 g2 mg=>fin r st2 g2 mg)
 ·exact fI (b0j C B1.kd λr st2 g2 mg=>fin r st2 g2 mg)
end
noncomputable def pr(p:Nat×Nat×Nat):Nat×Nat:=(p.1,p.2.1)
noncomputable def offs:Nat->List (List Keyed)->List (Nat×Nat)
 |_,[]=>[]
 |o,R::Rs=>(o,R.length)::offs (o+R.length) Rs
def a2b:∀(o:Nat)(U V:List (List Keyed)),offs o (U++V)=offs o U++offs (o+U.flatten.length) V:=by intro z0 y0;induction y0 generalizing z0 with
 |nil=>intro V;simp[offs]
 |cons R U I0=>
  intro V;rw[cZ,offs,offs,I0,cZ,eQ,aG,dX]
def a1s:∀(o:Nat)(U:List (List Keyed)),(offs o U).length=U.length:=by intro z0 y0;induction y0 generalizing z0 with
 |nil=>exact rfl
 |cons R U I0=>rw[offs,aL,aL,I0]
def b0m{α:Type}{q p1 p2:α}{pv:List α}:∀pu:List α,((pu++p1::p2::pv).set pu.length q).eraseIdx (pu.length+1)=pu++q::pv:=by intro z0;induction z0 with
 |nil=>exact rfl
 |cons x pu I0=>rw[cZ,aL,List.set_cons_succ,dY,I0,cZ]
theorem a5U{α β:Type}{f:α->β}:∀(l:List α)(k:Nat),(l.map f).eraseIdx k=(l.eraseIdx k).map f
 |[],_=>by simp
 |x::l,0=>by simp
 |x::l,k+1=>by rw[aO,dY,dY,aO,a5U l k]
def b2o:∀{Rs:List (List Keyed)},(∀R∈Rs,R≠[])->Rs.length<=Rs.flatten.length:=by intro z0;induction z0 with
 |nil=>intro _;simp
 |cons R Rs I0=>
  intro h
  have:=I0 λR a=>h R (.tail _ a)
  have b:=cL.mpr (h R (.head _));rw[eQ,aG,aL]
  lia
def Runs(κ:KF)(st:SortSt)(lo:Nat)(rest:List Keyed):Prop:=∃Rs:List (List Keyed),(arrOf st).toList=Rs.flatten++rest/\(∀R∈Rs,Srt κ R/\R≠[])/\Rs.flatten.length=lo/\(fP st).toList.map pr=offs 0 Rs
section
variable{M:Model}{A:Around}{E:Value->Shared->Prop}{s:Shared}{κ:KF}{k0:gi}{ajj:Array Keyed}{st:SortSt}
def a2c{i lo:Nat}(L:LtOk M A E s κ k0 ajj)(B:TB k0 ajj st)(R:Runs κ st lo rest)(hi:i+1<(fP st).size)
  (h:∀st',TB k0 ajj st'->Runs κ st' lo rest->(fP st').size+1=(fP st).size->Q true st'):wpS M A E s (jt i) Q st:=by
 obtain⟨Rs,t,f,r,b⟩:=R;have m:(fP st).size=Rs.length:=by
  have:=congrArg bf b
  rw[aB,a1s]at this;simpa using this
 obtain⟨U,X,Y,V,rfl,D⟩:∃U X Y V,Rs=U++X::Y::V/\U.length=i:=by
  refine⟨Rs.take i,Rs[i]'(by lia),Rs[i+1]'(by lia),Rs.drop (i+2),?_,by rw[aR];lia⟩;rw[<- cV,<- cV,cJ]
 have n:=f X (by simp);have q:=f Y (by simp);rw[a2b]at b;simp only[offs,dB]at b;have k:∀(j:Nat)(x:Nat×Nat),(offs 0 U++_::_::offs _ V)[j]?=some x->∃w,(fP st)[j]?=some (x.1,x.2,w):=λj x d=>by
  rw[<- b,aK]at d;rw[<- bT];cases e:(fP st).toList[j]? with
  |none=>rw[e]at d;cases d
  |some p=>
   rw[e]at d;cases d;exact⟨p.2.2,rfl⟩
 have c:(offs 0 U).length=i:=by rw[a1s,D]
 obtain⟨J,G⟩:=k i _ (by rw[cv (by lia),c,Nat.sub_self];rfl);obtain⟨I,y⟩:=k (i+1) (U.flatten.length+X.length,Y.length) (by simp_all);have C:(arrOf st).toList=U.flatten++(X++(Y++(V.flatten++rest))):=by rw[t];simp
 refine b0l L B G y C rfl rfl rfl rfl n.1 q.1 (cL.mpr n.2) (cL.mpr q.2) λl Z H F o v u=>?_;have g:(fP l).toList.map pr=offs 0 (U++Z::V):=by
  rw[u,Array.toList_eraseIdxIfInBounds,Array.toList_setIfInBounds,<- a5U,List.map_set,b,<- c,b0m,a2b];simp only[offs,dB,pr];rw[o,dX]
 refine h l H ⟨U++Z::V,by rw[F];simp,λR a=>?_,?_,g⟩ ?_
 ·rcases aE.mp a with a |a
  ·exact f R (by simp[a])
  ·rcases aD.mp a with rfl |a
   ·exact⟨v,λz=>by rw[z]at o;have:=cL.mpr n.2;simp at o;lia⟩
   ·exact f R (by simp[a])
 ·rw[<- r];simp
  lia
 ·grind
def Runs.ar{lo n:Nat}(R:Runs κ st lo rest)(q:Ar st st' lo)(hs:SR κ (arrOf st') lo n)(hn:lo+n<=(arrOf st').size)(h1:1<=n):∃X rest',Srt κ X/\X.length=n/\Runs κ st' lo (X++rest'):=by
 obtain⟨Rs,g,f,c,e⟩:=R;have b:(arrOf st').toList.take lo=Rs.flatten:=by
  refine d4 λi=>?_
  by_cases a:i<lo
  ·rw[dA,if_pos a,bT,q.pre i a,<- bT,g,cD (by lia)]
  ·grind
 refine⟨((arrOf st').toList.drop lo).take n,((arrOf st').toList.drop lo).drop n,?_,by rw[aR,bt,a0Y];lia,Rs,?_,f,c,by rw[q.pe];exact e⟩
 ·refine cy.mpr λi j a d k=>?_;rw[aR,bt,a0Y]at a d
  have:=hs i j (by lia) (by lia)
  rw[a0R _,a0R _]at this;simpa using this
 ·rw[cJ,<- b,cJ]
def Runs.push{lo n:Nat}(R:Runs κ st lo (X++rest))(sX:Srt κ X)(hX:X.length=n)(h1:1<=n)(ha:arrOf st'=arrOf st)(hp:(fP st').toList.map pr=(fP st).toList.map pr++[(lo,n)]):Runs κ st' (lo+n) rest:=by
 obtain⟨Rs,e,d,b,c⟩:=R;refine⟨Rs++[X],by rw[ha,e];simp,λR a=>?_,by simp[b,hX],?_⟩
 ·rcases aE.mp a with a |a
  ·exact d R a
  ·rw[aJ.mp a];exact⟨sX,λz=>by rw[z]at hX;simp at hX;lia⟩
 ·rw[hp,c,a2b,dB,b];simp[offs,hX]
def a8A(L:LtOk M A E s κ k0 ajj)(B:TB k0 ajj st)(hp:fP st=#[])
  (h:∀st',TB k0 ajj st'->Srt κ (arrOf st').toList->Q () st'):wpS M A E s sortRuns' Q st:=by
 rw[sortRuns'_eq];refine fI (gj ?_);dsimp only;rw[B.sz];generalize minRun' ajj.size ajj.size 0=mr;refine fI (f7 (fY (I:=λx c z=>∃d e,c=(none,d)/\TB k0 ajj z/\Runs κ z d e/\x<=d)
  (Q:=λc z=>∃d e,c=(none,d)/\TB k0 ajj z/\Runs κ z d e/\ajj.size<=d) ?step ?fin ⟨0,(arrOf st).toList,rfl,B,⟨[],by simp,λR h=>by simp at h,rfl,by rw[hp];rfl⟩,aC _⟩) ?post)
 case fin=>
  rintro c z ⟨d,e,rfl,t,u,hx⟩;exact⟨d,e,rfl,t,u,by lia⟩
 case step=>
  rintro x c z _ hx ⟨d,e,rfl,t,u,hxl⟩;dsimp only
  by_cases c1:d>=ajj.size
  ·rw[if_pos c1];exact fJ ⟨d,e,rfl,t,u,c1⟩
  rw[if_neg c1];refine fI (b5f L t (by lia) (by lia) λm z2 Y m1 m2 m3=>?_);dsimp only
  by_cases c2:m<mr
  ·rw[if_pos c2];refine a4F (fI (b2l L (Y.tb t) (by lia) (by lia) m3 λS C D=>?_));rw[if_neg (by decide)];have C:=Y.trans C;have v:1<=min (ajj.size-d) mr:=by lia
   have V:d+min (ajj.size-d) mr<=ajj.size:=by lia
   generalize min (ajj.size-d) mr=n at v V D ⊢;have r:=C.tb t;obtain⟨X,f,J,G,R3⟩:=u.ar C D (by rw[r.sz];lia) v;refine fI (gj ?_);cases hb:(fP S).back? with
   |none=>
    dsimp only;exact fI (gm (fJ ⟨d+n,f,rfl,⟨r.pm,r.kd,r.fl⟩,R3.push J G v rfl (by show (((fP S).push (d,n,0)).toList).map pr=_;rw[bG,aP];rfl),by lia⟩))
   |some p=>
    obtain⟨w,o,w1⟩:=p;dsimp only;generalize power' ajj.size (2*w+o) (2*w+o+o+n) ajj.size=pw;refine fI (f7 (fY (I:=λ_ c y=>c=(none,())/\TB k0 ajj y/\Runs κ y d (X++f)) ?w (λ_ _ hh=>hh) ⟨rfl,r,R3⟩) ?p1)
    case w=>
     rintro x c y _ _ ⟨rfl,g,j⟩;refine fI (gj ?_)
     by_cases hgt:(fP y).size > 1
     ·rw[if_pos hgt];have eo:(fP y)[(fP y).size-2]?=some (fP y)[(fP y).size-2]:=getElem?_pos ..;rw[eo];dsimp only
      split
      ·exact fJ ⟨rfl,g,j⟩
      ·refine fI (a2c L g j (by lia) λy2 N H _=>?_);rw[if_neg (by decide)];exact fJ ⟨rfl,N,H⟩
     ·rw[if_neg hgt];exact fJ ⟨rfl,g,j⟩
    case p1=>
     rintro c y ⟨rfl,g,j⟩;dsimp only;refine fI (gm (fI (gm (fJ ⟨d+n,f,rfl,⟨g.pm,g.kd,g.fl⟩,j.push J G v rfl ?_,by lia⟩))));have em:∀(q:Array (Nat×Nat×Nat))(k:Nat),(q.modify k λ(a,b,_)=>(a,b,pw)).toList.map pr=q.toList.map pr:=λq k=>by
      refine d4 λi=>?_;rw[aK,aK,bT,bT,eR]
      split
      ·cases q[i]? with
       |none=>rfl
       |some p=>rfl
      ·rfl
     rw[bG,aP,em]
     rfl
  ·rw[if_neg c2];have V:d+m<=ajj.size:=by lia
   have v:=m1;have D:=m3;have C:=Y;generalize m=n at v V D ⊢;generalize z2=S at C D ⊢;have r:=C.tb t;obtain⟨X,f,J,G,R3⟩:=u.ar C D (by rw[r.sz];lia) v;refine fI (gj ?_);cases hb:(fP S).back? with
   |none=>
    dsimp only;exact fI (gm (fJ ⟨d+n,f,rfl,⟨r.pm,r.kd,r.fl⟩,R3.push J G v rfl (by show (((fP S).push (d,n,0)).toList).map pr=_;rw[bG,aP];rfl),by lia⟩))
   |some p=>
    obtain⟨w,o,w1⟩:=p;dsimp only;generalize power' ajj.size (2*w+o) (2*w+o+o+n) ajj.size=pw;refine fI (f7 (fY (I:=λ_ c y=>c=(none,())/\TB k0 ajj y/\Runs κ y d (X++f)) ?w (λ_ _ hh=>hh) ⟨rfl,r,R3⟩) ?p1)
    case w=>
     rintro x c y _ _ ⟨rfl,g,j⟩;refine fI (gj ?_)
     by_cases hgt:(fP y).size > 1
     ·rw[if_pos hgt];have eo:(fP y)[(fP y).size-2]?=some (fP y)[(fP y).size-2]:=getElem?_pos ..;rw[eo];dsimp only
      split
      ·exact fJ ⟨rfl,g,j⟩
      ·refine fI (a2c L g j (by lia) λy2 N H _=>?_);rw[if_neg (by decide)];exact fJ ⟨rfl,N,H⟩
     ·rw[if_neg hgt];exact fJ ⟨rfl,g,j⟩
    case p1=>
     rintro c y ⟨rfl,g,j⟩;dsimp only;refine fI (gm (fI (gm (fJ ⟨d+n,f,rfl,⟨g.pm,g.kd,g.fl⟩,j.push J G v rfl ?_,by lia⟩))));have em:∀(q:Array (Nat×Nat×Nat))(k:Nat),(q.modify k λ(a,b,_)=>(a,b,pw)).toList.map pr=q.toList.map pr:=λq k=>by
      refine d4 λi=>?_;rw[aK,aK,bT,bT,eR]
      split
      ·cases q[i]? with
       |none=>rfl
       |some p=>rfl
      ·rfl
     rw[bG,aP,em]
     rfl
 case post=>
  rintro c z ⟨d,e,rfl,t,u,hlo⟩;dsimp only;have hsz:∀y,Runs κ y d e->(fP y).size<=d:=by
   rintro y ⟨Rs,T,F,e3,U⟩;have l:=congrArg bf U;rw[aB,a1s]at l;have h2:=b2o λR hR=>(F R hR).2;simp at l
   lia
  have W:d=ajj.size:=by
   obtain⟨Rs,T,F,e3,U⟩:=u
   have:=congrArg bf T
   rw[a0Y,t.sz,aG]at this
   lia
  subst W;refine fI (f7 (fY (I:=λx c y=>c=(none,())/\TB k0 ajj y/\Runs κ y ajj.size e/\((fP y).size<=1\/(fP y).size+x<=ajj.size)) (Q:=λc y=>c=(none,())/\TB k0 ajj y/\Runs κ y ajj.size e/\(fP y).size<=1) ?s2 ?f2 ⟨rfl,t,u,.inr (hsz z u)⟩) ?p2)
  case f2=>
   rintro c y ⟨rfl,g,j,hc⟩;exact⟨rfl,g,j,by lia⟩
  case s2=>
   rintro x c y _ hx ⟨rfl,g,j,hc⟩;refine fI (gj ?_)
   by_cases l:(fP y).size<=1
   ·rw[if_pos l];exact fJ ⟨rfl,g,j,l⟩
   ·rw[if_neg l];refine fI (a2c L g j ?_ λy2 N H hy2=>?_)
    ·repeat' split
     all_goals lia
    ·rw[if_neg (by decide)];exact fJ ⟨rfl,N,H,.inr (by lia)⟩
  case p2=>
   rintro c y ⟨rfl,g,j,hc⟩;obtain⟨Rs,T,F,e3,U⟩:=j;have l:=congrArg bf U;rw[aB,a1s]at l;have h2:=congrArg bf T;rw[a0Y,g.sz,aG,e3]at h2;have hr:e=[]:=cf.mp (by lia);refine fJ (h y g ?_);rw[T,hr,bj]
   match Rs,F,l with
   |[],_,_=>exact .nil
   |[R],F,_=>simpa using (F R (by simp)).1
   |_::_::_,_,l=>simp at l;lia
end
abbrev kN:KF:=λp=>numOf p.1
def b8c(xs:Array Keyed)(i:Nat):K xs i=Kk kN xs i:=rfl
def b8d(h:Srt kN xs.toList)(hn:n=xs.size):SortedTo xs n:=λi j a b=>by
 rw[b8c,b8c]
 have:=a2m (i:=0) h (n:=xs.size) (by simp) i j a (by lia)
 simpa using this
section
variable{prog:fK}{w:World}{A:Around}{E:Value->Shared->Prop}{s:Shared}{ajj:Array Keyed}
def b5g(h0:IntKeys ajj):LtOk (model prog w) A E s kN oneType' ajj:=λx y c d g Q e h=>by
 obtain⟨n,t,b⟩:=h0 x c;obtain⟨m,u,a⟩:=h0 y d;have f:Q (some (decide (n<m))) g:=by
  have:kN x<kN y↔n<m:=by show numOf x.1<numOf y.1↔n<m;rw[b,a];rfl
  rw[decide_eq_decide.mpr this]at h;exact h
 rw[lt'_eq];refine fI (gj ?_);rw[e,keyLt'_oneType,b,a];exact fI (jr (g6 (oneLt_int ⟨rfl,fJ f⟩)))
end
section
variable{prog:fK}{w:World}{A:Around}{E:Value->Shared->Prop}{s:Shared}{κ:KF}{k0:gi}
noncomputable def a1t(h:Heap)(a:Addr)(vs:List Value):Heap:=((h.update a (Obj.mapSeq λ_=>#[])).push (seqObj "tuple" vs.toArray 0)).push (seqObj "list" #[] 0)
def b3Q(hb:b≠a)(e:h.get? b=some o):(a1t h a vs).get? b=some o:=by
 refine Heap.get?_push_of_some _ (Heap.get?_push_of_some _ ?_);rw[Heap.get?_update_ne _ _ _ _ hb];exact e
def b0n(ho:s.heap.get? a=some (seqObj "list" vs.toArray n))(hz:vs.length<=100000)
  (hK:2<=vs.length->∀Q:gi->Shared->Prop,Q k0 { s with heap:=a1t s.heap a vs }->wpAny (model prog w) A (keyKind' vs.toArray) Q E { s with heap:=a1t s.heap a vs })
  (hL:2<=vs.length->LtOk (model prog w) A E { s with heap:=a1t s.heap a vs } κ k0 (ic vs))
  (h:∀ps:List Keyed,ps.Perm (ic vs).toList->Srt κ ps->P (.done (.ret .none)) { s with heap:=ju s.heap a vs (ps.map (·.2)).toArray }):wpAny (model prog w) A (fO.«list.sort» ⟨[.ref a],[]⟩) P E s:=by
 have i:vs.length<=sizeLine:=by rw[fV];lia
 have o:vs.toArray.size<=sizeLine:=by simpa using i
 have t:=Heap.lt_size ho;rw[list_sort_plain];refine fF (listItems_at ho rfl (fF (jv ho rfl ?_ o (by simp))));obtain⟨u,m⟩:∃u,(s.heap.update a (Obj.mapSeq λ_=>#[])).get? a=some (seqObj "list" #[] u):=⟨_,get?_update_seq ho λ_=>#[]⟩;refine fF (jw m rfl (fF (iJ ?_ (by simpa using i))));refine fF (iX (fZ ?_));have g:(((s.heap.update a (Obj.mapSeq λ_=>#[])).push (seqObj "tuple" vs.toArray 0)).push (seqObj "list" #[] 0)).get? a=some (seqObj "list" #[] u):=by
  rw[Heap.get?_push_ne,Heap.get?_push_ne]
  ·exact m
  ·rw[Heap.size_update];exact aQ t
  ·rw[size_push',Heap.size_update];exact aQ (cx t)
 dsimp only;have f:=λy p q=>by
  have:=h (arrOf y).toList (cU.mp p) q
  rw[<- Array.toList_map,Array.toArray_toList]at this;exact this
 have b:∀y:SortSt,(arrOf y).Perm (ic vs)->((arrOf y).map (·.2)).size<=fH+1:=λy p=>by
  rw[Array.size_map,p.size_eq,pairsOf_size];lia
 by_cases c:vs.toArray.size<2
 ·rw[if_pos c,if_pos c];refine fF (fG ?_);rw[StateT.run_pure];refine fF (fG ?_);dsimp only;have x:(arrOf (SortSt.mk' general' _ #[] 7 none)).Perm (ic vs):=dS.refl _;refine fF (jw g rfl (fF (jv g rfl ?_ (by simp) (b _ x))));simp only[bne_self_eq_false,cX,if_false];refine fG (f _ x ?_)
  show Srt κ (ic vs).toList
  rw[jx]
  have:vs.length<2:=by simpa using c
  match vs,this with
  |[],_=>exact .nil
  |[v],_=>exact dP _ _
 ·rw[if_neg c,if_neg c];have r:2<=vs.length:=by simpa using c
  refine fF (hK r _ ?_);refine fF (fS (a8A
   (Q:=λ_ y=>(arrOf y).Perm (ic vs)/\gb y=none/\Srt κ (arrOf y).toList) (hL r) ⟨dS.refl _,rfl,rfl⟩ rfl λy d j=>⟨d.pm,d.fl,j⟩) ?_ λ_ _ e=>e)
  rintro⟨⟨⟩,y⟩ l ⟨rfl,d,j,q3⟩;dsimp only;refine fF (jw g rfl (fF (jv g rfl ?_ (by simp) (b y d))));rw[j];simp only[bne_self_eq_false,cX,if_false];exact fG (f y d q3)
def sort_any{a:Addr}{vs:List Value}{ns:List Int}{n:Nat}{P:Fin->Shared->Prop}(ho:s.heap.get? a=some (seqObj "list" vs.toArray n))(hI:f9 vs ns)(hz:vs.length<=1000)
  (h:∀(out:Array Value)(ms:List Int),f9 out.toList ms->ms.Perm ns->ms.Pairwise (·<=·)->P (.done (.ret .none)) { s with heap:=ju s.heap a vs out }):wpAny (model prog w) A (fO.«list.sort» ⟨[.ref a],[]⟩) P E s:=by
 refine b0n (κ:=kN) (k0:=oneType') ho (by omega) (λh2 Q hq=>?_) (λ_=>b5g hI.intKeys) λps p q=>?_
 ·match vs,h2 with
  |v1::v2::vr,_=>rw[keyKind_ints hI];exact fG hq
 ·have p':ps.toArray.Perm (ic vs):=cU.mpr p;obtain⟨ms,m1,m2,m3⟩:=sorted_out hI p' (b8d q p'.size_eq.symm)
  have:=h _ ms m1 m2 m3
  simpa using this
end
end Tim
namespace Tim
open PySem PyProof.Rows PySem.W
abbrev Pz:=Sum (Option Int) Str
def PtIs:Pz->Value->Prop
 |.inl none,v=>v=.none
 |.inl (some i),v=>∃t,v=.int i t
 |.inr s,v=>∃t,v=.str s t
def PtsAre:List Pz->List Value->Prop
 |[],[]=>True
 |x::xs,v::vs=>PtIs x v/\PtsAre xs vs
 |_,_=>False
noncomputable def lt1:Pz->Pz->Bool
 |.inl (some i),.inl (some j)=>decide (i<j)
 |.inr a,.inr b=>decide (a.cps.toList<b.cps.toList)
 |_,_=>false
noncomputable def cmp1:Pz->Pz->Bool
 |.inl (some _),.inl (some _)=>true
 |.inr _,.inr _=>true
 |_,_=>false
noncomputable def ltT:List Pz->List Pz->Bool
 |x::xs,y::ys=>if x=y then ltT xs ys else lt1 x y
 |_,_=>false
noncomputable def cmpT:List Pz->List Pz->Bool
 |x::xs,y::ys=>if x=y then cmpT xs ys else cmp1 x y
 |[],[]=>true
 |_,_=>false
def b5h:∀x:Pz,lt1 x x=false:=by
 intro x;rcases x with (_ |i) |a
 ·rfl
 ·exact decide_eq_false (Int.lt_irrefl _)
 ·exact decide_eq_false (eS _)
def b0o:∀{x y z:Pz},lt1 x y=true->lt1 y z=true->lt1 x z=true:=by
 intro x y z h k;rcases x with (_ |i) |a
 ·cases h
 ·rcases y with (_ |j) |b
  ·cases h
  ·rcases z with (_ |l) |c
   ·cases k
   ·exact decide_eq_true (Int.lt_trans (of_decide_eq_true h) (of_decide_eq_true k))
   ·cases k
  ·cases h
 ·rcases y with _ |b
  ·cases h
  ·rcases z with _ |c
   ·cases k
   ·exact decide_eq_true (List.lt_trans (of_decide_eq_true h) (of_decide_eq_true k))
def ltT_irr:∀xs:List Pz,ltT xs xs=false:=by intro z0;induction z0 with
 |nil=>exact rfl
 |cons x xs I0=>unfold ltT;rw[if_pos rfl];exact I0
theorem a3N:∀{xs ys zs:List Pz},ltT xs ys=true->ltT ys zs=true->ltT xs zs=true
 |[],_,_,h1,_=>by simp[ltT]at h1
 |_::_,[],_,h1,_=>by simp[ltT]at h1
 |_::_,_::_,[],_,h2=>by simp[ltT]at h2
 |x::xs,y::ys,z::zs,h1,h2=>by
  unfold ltT at *
  by_cases c1:x=y
  ·subst c1;rw[if_pos rfl]at h1
   by_cases c2:x=z
   ·subst c2;rw[if_pos rfl]at h2 ⊢;exact a3N h1 h2
   ·rw[if_neg c2]at h2 ⊢;exact h2
  ·rw[if_neg c1]at h1
   by_cases c2:y=z
   ·simp_all
   ·rw[if_neg c2]at h2;have a:=b0o h1 h2;rw[if_neg (λe=>by rw[e,b5h]at a;cases a)];exact a
def b5i:∀{x y:Pz},cmp1 x y=true->x≠y->lt1 x y=true\/lt1 y x=true:=by
 intro x y k h;rcases x with (_ |i) |a
 ·cases k
 ·rcases y with (_ |j) |b
  ·cases k
  ·rcases eT i j with l |l |l
   ·exact .inl (decide_eq_true l)
   ·exact absurd (by rw[l]) h
   ·exact .inr (decide_eq_true l)
  ·cases k
 ·rcases y with _ |b
  ·cases k
  ·by_cases c1:a.cps.toList<b.cps.toList
   ·exact .inl (decide_eq_true c1)
   ·by_cases c2:b.cps.toList<a.cps.toList
    ·exact .inr (decide_eq_true c2)
    ·exact absurd (eU (List.not_lt.mp c2) (List.not_lt.mp c1)) λe=>h (by
      cases b;cases (Array.toList_inj.mp e);rfl)
theorem ltT_tot:∀{xs ys:List Pz},cmpT xs ys=true->xs≠ys->ltT xs ys=true\/ltT ys xs=true
 |[],[],_,h=>absurd rfl h
 |[],_::_,h,_=>by simp[cmpT]at h
 |_::_,[],h,_=>by simp[cmpT]at h
 |x::xs,y::ys,h,hn=>by
  unfold cmpT at h;unfold ltT
  by_cases c:x=y
  ·subst c;rw[if_pos rfl]at h;rw[if_pos rfl,if_pos rfl];exact ltT_tot h λe=>hn (by rw[e])
  ·rw[if_neg c]at h;rw[if_neg c,if_neg (Ne.symm c)];exact b5i h c
noncomputable def rk(rows:List (List Pz))(x:List Pz):Nat:=rows.countP λq=>ltT q x
theorem b3R(h:ltT x y=true):∀{l:List (List Pz)},x∈l->l.countP (λq=>ltT q x)<l.countP λq=>ltT q y
 |q::l,hm=>by
  have b:l.countP _<=l.countP λq=>ltT q y:=List.countP_mono_left λq _ e=>a3N e h;rw[eV,eV];have a:(if ltT q x=true then 1 else 0)<=(if ltT q y=true then 1 else 0):=by
   by_cases c:ltT q x=true
   ·rw[if_pos c,if_pos (a3N c h)];exact aC _
   ·rw[if_neg c];exact aW _
  rcases aD.mp hm with e |hm
  ·subst e;rw[ltT_irr,h];simp;lia
  ·have:=b3R h hm
   lia
def b5j(hx:x∈rows)(h:ltT x y=true):rk rows x<rk rows y:=b3R h hx
def b8e(hx:x∈rows)(hy:y∈rows)(hc:cmpT x y=true):rk rows x<rk rows y↔ltT x y=true:=by
 refine⟨λh=>?_,b5j hx⟩
 by_cases e:x=y
 ·grind
 ·rcases ltT_tot hc e with q |q
  ·grind
  ·have:=b5j hy q;lia
def RowIn(h:Heap)(v:Value)(xs:List Pz):Prop:=∃a o its n,v=.ref a/\h.get? a=some o/\o.cls=.type "tuple"/\o.data=.seq its n/\PtsAre xs its.toList
def PtIs.uniq:∀{x y:Pz}{v:Value},PtIs x v->PtIs y v->x=y:=by
 intro x y v h k;rcases x with (_ |i) |a
 ·rw[show v=Value.none from h]at k;rcases y with (_ |j) |b
  ·rfl
  ·obtain⟨_,k⟩:=k;cases k
  ·obtain⟨_,k⟩:=k;cases k
 ·obtain⟨t,rfl⟩:=h;rcases y with (_ |j) |b
  ·cases k
  ·obtain⟨_,k⟩:=k;cases k;rfl
  ·obtain⟨_,k⟩:=k;cases k
 ·obtain⟨t,rfl⟩:=h;rcases y with (_ |j) |b
  ·cases k
  ·obtain⟨_,k⟩:=k;cases k
  ·obtain⟨_,k⟩:=k;cases k;rfl
theorem PtsAre.uniq:∀{xs ys:List Pz}{vs:List Value},PtsAre xs vs->PtsAre ys vs->xs=ys
 |[],[],[],_,_=>rfl
 |x::xs,y::ys,v::vs,⟨a,b⟩,⟨c,d⟩=>by rw[a.uniq c,PtsAre.uniq b d]
 |[],_::_,[],_,h=>h.elim
 |[],_,_::_,h,_=>h.elim
 |_::_,_,[],h,_=>h.elim
 |_::_,[],_::_,_,h=>h.elim
def RowIn.uniq(r:RowIn h v xs)(q:RowIn h v ys):xs=ys:=by
 obtain⟨a,o,k,n,rfl,j,_,g,d⟩:=r;obtain⟨p,m,f,l,e,b,_,c,i⟩:=q;cases e;rw[j]at b;cases b;rw[g]at c;cases c;exact d.uniq i
open Classical in
noncomputable def a8B(h:Heap)(v:Value):List Pz:=if e:∃xs,RowIn h v xs then e.choose else []
def a1c(r:RowIn h v xs):a8B h v=xs:=by
 unfold a8B;have e:∃xs,RowIn h v xs:=⟨xs,r⟩;rw[dif_pos e];exact e.choose_spec.uniq r
noncomputable def kT(h:Heap)(rows:List (List Pz)):KF:=λp=>(rk rows (a8B h p.1):Int)
section
variable{prog:fK}{w:World}{A:Around}{E:Value->Shared->Prop}{s:Shared}{ajj:Array Keyed}{b:Bool}{Q:Bool->Shared->Prop}
def a6M(h:Q true s):wpAny (model prog w) A (eqBool .none .none) Q E s:=fF (gG (fG h))
def b8f:∀{x y:Pz}{p q:Value}{c:Bool},PtIs x p->PtIs y q->cmp1 x y=true->Q (lt1 x y) s->wpAny (model prog w) A (oneLt' c p q) Q E s:=by
 intro x y p q c a b k h;rcases x with (_ |i) |u
 ·cases k
 ·rcases y with (_ |j) |v
  ·cases k
  ·obtain⟨t,rfl⟩:=a;obtain⟨t',rfl⟩:=b;cases c with
   |true=>exact oneLt_int h
   |false=>exact kat_one _ _ (PyProof.Rows.lt_int h)
  ·cases k
 ·rcases y with _ |v
  ·cases k
  ·obtain⟨t,rfl⟩:=a;obtain⟨t',rfl⟩:=b;cases c with
   |true=>exact oneLt_str h
   |false=>exact kat_one _ _ (PyProof.Rows.lt_str h)
def b5k:∀{x y:Pz}{p q:Value},PtIs x p->PtIs y q->(x=y\/cmp1 x y=true)->Q (decide (x=y)) s->wpAny (model prog w) A (eqBool p q) Q E s:=by
 intro x y p q a b k h;have k:cmp1 x y=true\/x=.inl none/\y=.inl none:=by
  rcases k with rfl |k
  ·rcases x with (_ |i) |u
   ·exact .inr ⟨rfl,rfl⟩
   ·exact .inl rfl
   ·exact .inl rfl
  ·exact .inl k
 rcases k with k |⟨rfl,rfl⟩
 ·rcases x with (_ |i) |u
  ·cases k
  ·rcases y with (_ |j) |v
   ·cases k
   ·obtain⟨t,rfl⟩:=a;obtain⟨t',rfl⟩:=b;refine wpAny_eqBool_int ?_
    have:(i==j)=decide ((Sum.inl (some i):Pz)=.inl (some j)):=by grind
    rw[this];exact h
   ·cases k
  ·rcases y with _ |v
   ·cases k
   ·obtain⟨t,rfl⟩:=a;obtain⟨t',rfl⟩:=b;exact wpAny_eqBool_str (by simp_all)
 ·rw[show p=Value.none from a,show q=Value.none from b];exact a6M (by simp_all)
theorem b3S:∀{xs ys:List Pz}{vs us:List Value}{i:Nat},PtsAre xs vs->PtsAre ys us->cmpT xs ys=true->Q (ltT xs ys) s->KatLex prog w A b false Q (vs.zip us) i s
 |[],[],[],[],_,_,_,_,h=>h
 |x::xs,y::ys,p::vs,q::us,i,⟨a,c⟩,⟨d,e⟩,hc,h=>by
  unfold cmpT at hc;unfold ltT at h
  by_cases exy:x=y
  ·rw[if_pos exy]at hc h;refine kat_cons (b5k a d (.inl exy) ?_);rw[decide_eq_true exy];exact kat_yes (b3S c e hc h)
  ·rw[if_neg exy]at hc h;refine kat_cons (b5k a d (.inr hc) ?_);rw[decide_eq_false exy];exact kat_no (b8f a d hc h)
 |[],_::_,_,_,_,_,_,hc,_=>by simp[cmpT]at hc
 |_::_,[],_,_,_,_,_,hc,_=>by simp[cmpT]at hc
 |[],[],_::_,_,_,h,_,_,_=>h.elim
 |[],[],[],_::_,_,_,h,_,_=>h.elim
 |_::_,_::_,[],_,_,h,_,_,_=>h.elim
 |_::_,_::_,_::_,[],_,_,h,_,_=>h.elim
theorem a3O:∀{xs:List Pz}{vs:List Value},PtsAre xs vs->vs.length=xs.length
 |[],[],_=>rfl
 |_::_,_::_,⟨_,h⟩=>by rw[aL,aL,a3O h]
 |[],_::_,h=>h.elim
 |_::_,[],h=>h.elim
def b5l(h0:∀p∈ajj.toList,∃x∈rows,RowIn s.heap p.1 x)(hm:∀x∈rows,x.length=m)(hc:∀x∈rows,∀y∈rows,cmpT x y=true):LtOk (model prog w) A E s (kT s.heap rows) (tuples' b) ajj:=λp q L I u Q J h=>by
 obtain⟨x,d,i⟩:=h0 p L;obtain⟨y,c,g⟩:=h0 q I;have B:Q (some (ltT x y)) u:=by
  have e:decide (kT s.heap rows p<kT s.heap rows q)=ltT x y:=by
   unfold kT;rw[a1c i,a1c g]
   have:=b8e d c (hc x d y c)
   cases e:ltT x y
   ·grind
   ·grind
  rw[e]at h;exact h
 obtain⟨a,o,j,n,D,H,M,C,t⟩:=i;obtain⟨T,S,f,N,G,v,R,F,r⟩:=g;rw[lt'_eq];refine fI (gj ?_);rw[J,D,G];refine fI (jr (g6 (kat_lt H C v F ?_)));have k:=a3O t;have l:=a3O r;rw[hm x d]at k;rw[hm y c]at l;rw[bL]at k l;rw[decide_eq_false (by lia)];exact b3S t r (hc x d y c) ⟨rfl,fJ B⟩
end
def a7F{α:Type}:∀vs:List α,vs.zip vs=vs.map λv=>(v,v):=by intro z0;induction z0 with
 |nil=>exact rfl
 |cons v vs I0=>rw[List.zip_cons_cons,aO,I0]
def RowsIn(h:Heap):List Value->List (List Pz)->Prop
 |[],[]=>True
 |v::vs,x::xs=>RowIn h v x/\RowsIn h vs xs
 |_,_=>False
theorem RowsIn.len:∀{vs:List Value}{rows:List (List Pz)},RowsIn h vs rows->vs.length=rows.length
 |[],[],_=>rfl
 |_::_,_::_,⟨_,r⟩=>by rw[aL,aL,RowsIn.len r]
 |[],_::_,r=>r.elim
 |_::_,[],r=>r.elim
theorem RowsIn.mem:∀{vs:List Value}{rows:List (List Pz)},RowsIn h vs rows->∀v∈vs,∃x∈rows,RowIn h v x
 |v::vs,x::xs,⟨r,q⟩,u,hu=>by
  rcases aD.mp hu with rfl |hu
  ·exact⟨x,.head _,r⟩
  ·obtain⟨y,b,a⟩:=q.mem u hu;exact⟨y,.tail _ b,a⟩
 |[],[],_,u,hu=>by simp at hu
 |[],_::_,r,_,_=>r.elim
 |_::_,[],r,_,_=>r.elim
theorem RowsIn.map:∀{vs:List Value}{rows:List (List Pz)},RowsIn h vs rows->vs.map (a8B h)=rows
 |[],[],_=>rfl
 |v::vs,x::xs,⟨r,q⟩=>by rw[aO,a1c r,q.map]
 |[],_::_,r=>r.elim
 |_::_,[],r=>r.elim
def RowIn.mid{vs ws:List Value}(ho:h.get? a=some (seqObj "list" ws.toArray n))(r:RowIn h v x):RowIn (a1t h a vs) v x:=by
 obtain⟨b,o,d,m,i,c,e,g,f⟩:=r;refine⟨b,o,d,m,i,b3Q (λz=>?_) c,e,g,f⟩;rw[z,ho]at c;cases c;simp at e
theorem RowsIn.mid{us ws:List Value}(ho:h.get? a=some (seqObj "list" ws.toArray n)):∀{vs:List Value}{rows:List (List Pz)},RowsIn h vs rows->RowsIn (a1t h a us) vs rows
 |[],[],_=>trivial
 |_::_,_::_,⟨r,q⟩=>⟨r.mid ho,q.mid ho⟩
 |[],_::_,r=>r.elim
 |_::_,[],r=>r.elim
def a2p(rows:List (List Pz)):Prop:=∀x∈rows,∃(s:Str)(r:List Pz),x=.inr s::r
def a3q(rows:List (List Pz)):Prop:=∀x∈rows,∃(i:Int)(r:List Pz),x=.inl (some i)::r
theorem RowsIn.kat{T:Pz->Prop}:∀{vs:List Value}{rows:List (List Pz)},RowsIn h vs rows->(∀x∈rows,∃f r,x=f::r/\T f)->∃fs:List Value,KatTups h vs fs/\fs.length=vs.length/\∀v∈fs,∃f,T f/\PtIs f v
 |[],[],_,_=>⟨[],trivial,rfl,λv a=>by simp at a⟩
 |v::vs,x::xs,⟨r,q⟩,hf=>by
  obtain⟨j,k,p,g⟩:=q.kat λy d=>hf y (.tail _ d);obtain⟨y,t,rfl,d⟩:=hf x (.head _);obtain⟨b,o,e,m,rfl,s,l,n,c⟩:=r;cases hi:e.toList with
  |nil=>rw[hi]at c;exact c.elim
  |cons f fr=>
   rw[hi]at c;obtain⟨i,_⟩:=c;refine⟨f::j,KatTups.cons s l n (by rw[<- bT,hi];rfl) k,by rw[aL,aL,p],λv a=>?_⟩;rcases aD.mp a with rfl |a
   ·exact⟨y,d,i⟩
   ·simp_all
 |[],_::_,r,_=>r.elim
 |_::_,[],r,_=>r.elim
section
variable{prog:fK}{w:World}{A:Around}{E:Value->Shared->Prop}{s:Shared}
def sort_tups(ho:s.heap.get? a=some (seqObj "list" vs.toArray n))(hz:vs.length<=100000)(hr:RowsIn s.heap vs rows)(hf:a2p rows\/a3q rows)
  (hm:∀x∈rows,x.length=m) (hc:∀x∈rows,∀y∈rows,cmpT x y=true)
  (h:∀(out:List Value)(os:List (List Pz)),out.Perm vs->os=out.map (a8B s.heap)->os.Perm rows->os.Pairwise (λx y=>ltT y x=false)->P (.done (.ret .none)) { s with heap:=ju s.heap a vs out.toArray }):wpAny (model prog w) A (fO.«list.sort» ⟨[.ref a],[]⟩) P E s:=by
 have k:RowsIn (a1t s.heap a vs) vs rows:=hr.mid ho;refine b0n (k0:=tuples' true) ho hz (λW Q H=>?_) (λW=>b5l (λp i=>?_) hm hc) λB i Y=>?_
 ·rcases hf with hf |hf
  ·obtain⟨R,o,N,u⟩:=k.kat (T:=λf=>∃x,f=.inr x) λx C=>by obtain⟨y,r,e⟩:=hf x C;exact⟨_,r,e,y,rfl⟩
   refine kat_kind (T:=.type "str") o (by lia) (λv d=>?_) (by rfl) H;obtain⟨_,⟨x,rfl⟩,t,rfl⟩:=u v d;exact .now
  ·obtain⟨R,o,N,u⟩:=k.kat (T:=λf=>∃x,f=.inl (some x)) λx C=>by obtain⟨y,r,e⟩:=hf x C;exact⟨_,r,e,y,rfl⟩
   refine kat_kind (T:=.type "int") o (by lia) (λv d=>?_) (by rfl) H;obtain⟨_,⟨x,rfl⟩,t,rfl⟩:=u v d;exact .now
 ·rw[jx,a7F]at i;obtain⟨v,d,rfl⟩:=aF.mp i;exact k.mem v d
 ·rw[jx,a7F]at i;have G:(B.map (·.2)).Perm vs:=by
   have:=i.map (·.2)
   rw[aU,show (_∘λv:Value=>(v,v))=id from rfl,dD]at this;exact this
  have j:∀p∈B,p.1=p.2/\p.2∈vs:=λp l=>by
   obtain⟨v,d,rfl⟩:=aF.mp (i.mem_iff.mp l);exact⟨rfl,d⟩
  have V:((B.map (·.2)).map (a8B s.heap)).Perm rows:=by
   rw[<- hr.map];exact G.map _
  refine h _ _ G rfl V ?_;rw[bo,bo];refine bd.imp_of_mem (λ{p q} l D F=>?_) Y;obtain⟨U,S⟩:=j p l;obtain⟨M,X⟩:=j q D;obtain⟨x,x1,J⟩:=hr.mem _ S;obtain⟨y,L,I⟩:=hr.mem _ X;rw[a1c J,a1c I];unfold kT at F;rw[U,M,a1c (J.mid ho),a1c (I.mid ho)]at F;cases e:ltT y x with
  |false=>rfl
  |true=>have:=b5j L e;lia
end
end Tim
namespace SetW
open PySem
def Up(xs:Array Nat):Prop:=xs.toList.Pairwise (·<·)
structure TOk (led:Bool) (t:fM):Prop where
 up:Up t.place
 dm:t.dummies=#[]
 ld:t.led=led
def b2p(h:Up xs)(hij:i<j)(hj:j<xs.size):xs[i]'(by omega)<xs[j]:=by
 have:=cy.mp h i j (by simp;omega) (by omega) hij
 simpa using this
def b2q(h:Up xs)(j:Nat):∀(fuel lo hi:Nat),hi-lo<=fuel->lo<=hi->hi<=xs.size->(∀i,(hi':i<xs.size)->i<lo->xs[i]<j)->(∀i,(hi':i<xs.size)->hi<=i->j<=xs[i]) ->
  fM.below.go xs j fuel lo hi<=xs.size/\(∀i,(hi':i<xs.size)->i<fM.below.go xs j fuel lo hi->xs[i]<j)/\(∀i,(hi':i<xs.size)->fM.below.go xs j fuel lo hi<=i->j<=xs[i]):=by intro z0;induction z0 with
 |zero=>
  intro lo hi hf h1 h2 h3 h4
  have:lo=hi:=by lia
  subst this;unfold fM.below.go;exact⟨h2,h3,h4⟩
 |succ fuel I0=>
  intro lo hi hf h1 h2 h3 h4;unfold fM.below.go
  split
  ·next hlt=>
   have b:(lo+hi) / 2<xs.size:=by lia
   have f:xs.getD ((lo+hi) / 2) j=xs[(lo+hi) / 2]:=by simp[Array.getD,b]
   dsimp only;rw[f]
   split
   ·next c=>
    refine I0 _ _ (by lia) (by lia) h2 (λi a d=>?_) h4
    by_cases e:i=(lo+hi) / 2
    ·subst e;exact c
    ·exact cT (b2p h (by lia) b) c
   ·next c=>
    refine I0 _ _ (by lia) (by lia) (by lia) h3 λi a d=>?_
    by_cases e:i=(lo+hi) / 2
    ·subst e;lia
    ·have:=b2p h (show (lo+hi) / 2<i by lia) a;lia
  ·next hlt=>
   have:lo=hi:=by lia
   subst this;exact⟨h2,h3,h4⟩
def a7G(h:Up xs)(j:Nat):fM.below xs j<=xs.size/\(∀i,(hi':i<xs.size)->i<fM.below xs j->xs[i]<j)/\(∀i,(hi':i<xs.size)->fM.below xs j<=i->j<=xs[i]):=
 b2q h j xs.size 0 xs.size (by simp) (by simp) (aC _) nofun λi b a=>by lia
def a6N{α:Type}{xs:Array α}{x:α}:(fM.insertAt xs p x).toList=xs.toList.take p++x::xs.toList.drop p:=by
 unfold fM.insertAt;simp[b7]
def b8g(h:Up xs)(hn:xs[fM.below xs j]?≠some j):Up (fM.insertAt xs (fM.below xs j) j):=by
 obtain⟨w,s,i⟩:=a7G h j;unfold Up at h ⊢;rw[a6N];refine aY.mpr ⟨bd.sublist (cR _ _) h,aT.mpr ⟨λy d=>?_,bd.sublist (dQ _ _) h⟩,λx r y d=>?_⟩
 ·obtain⟨m,a⟩:=bH d;rw[cI]at a;obtain⟨l,e⟩:=aI.mp a;have b:fM.below xs j+m<xs.size:=by simpa using l
  have f:=i _ b (by lia);have o:xs[fM.below xs j+m]=y:=by simpa using e
  by_cases c:y=j
  ·subst c;exfalso
   by_cases hm0:m=0
   ·simp_all
   ·have t:=b2p h (show fM.below xs y<fM.below xs y+m by lia) b;have z:=i _ (by lia) (aC _)
    lia
  ·lia
 ·obtain⟨m,a⟩:=bH r;have g:=(aI.mp a).1;rw[aR]at g;rw[dA,if_pos (by lia)]at a;obtain⟨l,e⟩:=aI.mp a;have b:m<xs.size:=by simpa using l
  have f:=s m b (by lia);have o:xs[m]=x:=by simpa using e
  rw[o]at f;rcases aD.mp d with rfl |d
  ·exact f
  ·obtain⟨k,q⟩:=bH d;rw[cI]at q;obtain⟨p,u⟩:=aI.mp q;have n:fM.below xs j+k<xs.size:=by simpa using p
   have t:=i _ n (by lia);have v:xs[fM.below xs j+k]=y:=by simpa using u
   lia
def b0p(j:Nat):fM.has #[] j=false:=by unfold fM.has;simp
def b2r(hd:t.dummies=#[]):∀(fuel:Nat)(p:fM.Probe)(j:Nat)(d:Option Nat),p.dummy=none->fM.probe.go t ha h fuel p=some (.empty j d)->d=none/\t.slot j=.empty:=by intro z0;induction z0 with
 |zero=>intro p j d _ e;unfold fM.probe.go at e;cases e
 |succ fuel I0=>
  intro p j d a e;have b:∀p:fM.Probe,p.dummy=none->(t.advance p).dummy=none:=λp a=>by
   unfold fM.advance
   split
   ·omega
   ·omega
  unfold fM.probe.go at e;cases hs:t.slot p.j with
  |empty=>
   rw[hs]at e;simp at e;obtain⟨rfl,rfl⟩:=e;exact⟨a,hs⟩
  |dummy=>
   unfold fM.slot at hs;dsimp only at hs;rw[hd,b0p]at hs
   split at hs
   ·cases hs
   ·simp_all
  |live i=>
   rw[hs]at e;dsimp only at e
   split at e
   ·grind
   ·exact I0 _ j d (b p a) e
def a8C{t:fM}(h:t.slot j=.empty):t.place[fM.below t.place j]?≠some j:=λe=>by
 unfold fM.slot at h;dsimp only at h;rw[e]at h;simp at h
set_option tactic.hygienic true in
def b5m{t:fM}(hd:t.dummies=#[])(e:t.freeSlot h=some (j,b)):b=false/\t.place[fM.below t.place j]?≠some j:=by
 unfold fM.freeSlot at e
 split at e
 ·next j' d hp=>
  obtain⟨rfl,a⟩:=b2r hd _ _ j' d rfl hp;simp at e;obtain⟨rfl,rfl⟩:=e;exact⟨rfl,a8C a⟩
 ·cases e
def TOk.standIn(h:TOk led t)(n:Nat):TOk led (t.standIn n):=by
 refine⟨?_,rfl,h.ld⟩
 show Up (Array.range n)
 unfold Up;rw[Array.toList_range];exact eW
def TOk.orStandIn(h:TOk led t)(n:Nat):TOk led (t.orStandIn n):=by
 unfold fM.orStandIn
 split
 ·omega
 ·exact h.standIn n
def TOk.layNew(h:TOk led t)(es:Array (Int×Value))(hh:Int)(x:Value):TOk led (layNew t es hh x).2.1:=by
 unfold PySem.layNew;cases e:t.freeSlot hh with
 |none=>exact h.standIn _
 |some p=>
  obtain⟨j,b⟩:=p;obtain⟨_,a⟩:=b5m h.dm e
  have:TOk led (t.put j).1:=by
   unfold fM.put;refine⟨b8g h.up a,?_,h.ld⟩;rw[h.dm,b0p];rfl
  exact this.orStandIn _
def b5n(f:Nat->Option Nat):(((bI n).filterMap λj=>(f j).map (j,·)).map (·.1)).Pairwise (·<·):=by
 have e:∀l:List Nat,l.Pairwise (·<·)->((l.filterMap λj=>(f j).map (j,·)).map (·.1)).Pairwise (·<·)/\∀x∈(l.filterMap λj=>(f j).map (j,·)).map (·.1),x∈l:=by
  intro l
  induction l with
  |nil=>intro _;exact⟨.nil,λx c=>by simp at c⟩
  |cons a l ih=>
   intro m;obtain⟨i,h⟩:=aT.mp m;obtain⟨g,d⟩:=ih h;rw[bJ];cases f a with
   |none=>exact⟨g,λx c=>.tail _ (d x c)⟩
   |some b=>
    exact⟨aT.mpr ⟨λy k=>i y (d y k),g⟩,λx c=>by
     rcases aD.mp c with rfl |c
     ·exact .head _
     ·exact .tail _ (d x c)⟩
 exact (e _ eW).1
def TOk.relay(h:TOk led t)(es:Array (Int×Value))(n:Nat):TOk led (iq t es n).2.1:=by
 unfold iq;cases e:t.relaid _ n with
 |none=>exact h.standIn _
 |some p=>
  dsimp only
  split
  ·unfold fM.relaid fM.laid at e;cases ho:fM.layClean _ _ with
   |none=>rw[ho]at e;cases e
   |some owner=>
    rw[ho]at e;obtain⟨rfl,_⟩:=e;refine⟨?_,rfl,h.ld⟩;exact b5n _
  ·exact h.standIn _
end SetW
namespace SetW
open PySem PyProof.Rows
noncomputable def byT(w:World):Bool:=w.params.followText "set-order"
inductive KsAre {prog:fK}{w:World}{K:Type}[DecidableEq K] (kd:KeyKind prog w K):List Value->List K->Prop
 |nil:KsAre kd [] []
 |cons {v:Value} {k:K} {vs:List Value} {ks:List K} (h:kd.is k v=true) (t:KsAre kd vs ks):KsAre kd (v::vs) (k::ks)
structure SO {prog:fK}{w:World}{K:Type}[DecidableEq K] (kd:KeyKind prog w K) (h:Heap) (a:Addr) (es:Array (Int×Value)) (ep:Nat) (t:fM) (ms:List K):Prop where
 at_:∃o,h.get? a=some o/\o.ExactSet/\o.data=.set es ep t
 el:ElemsOf kd es.toList
 nums:KsAre kd (es.toList.map (·.2)) ms
 sc:es.size<gR
 fit:t.fits es.size=true
 ok:TOk (!byT w) t
def SI{prog:fK}{w:World}{K:Type}[DecidableEq K](kd:KeyKind prog w K)(h:Heap)(a:Addr)(ms:List K):Prop:=∃es ep t,SO kd h a es ep t ms
section
variable{prog:fK}{w:World}{K:Type}[DecidableEq K]{kd:KeyKind prog w K}
def b0q(h:KsAre kd vs ns):vs.length=ns.length:=by
 induction h with
 |nil=>rfl
 |cons _ _ ih=>rw[aL,aL,ih]
def a1R(h:KsAre kd vs ns)(p:vs'.Perm vs):∃ns',KsAre kd vs' ns'/\ns'.Perm ns:=by
 induction p generalizing ns with
 |nil=>exact⟨ns,h,.refl _⟩
 |cons x _ ih=>
  cases h with
  |cons h1 h2=>
   obtain⟨i,a,b⟩:=ih h2;exact⟨_,.cons h1 a,b.cons _⟩
 |swap x y l=>
  cases h with
  |cons h1 h2=>
   cases h2 with
   |cons h3 h4=>exact⟨_,.cons h3 (.cons h1 h4),.swap ..⟩
 |trans _ _ ih1 ih2=>
  obtain⟨j,c,d⟩:=ih2 h;obtain⟨g,e,f⟩:=ih1 c;exact⟨g,e,f.trans d⟩
def b5o(h:KsAre kd vs ns)(hk:kd.is k v=true):KsAre kd (vs++[v]) (ns++[k]):=by
 induction h with
 |nil=>exact .cons hk .nil
 |cons h1 _ ih=>exact .cons h1 ih
def b8h(h:KsAre kd vs ns):(∃v∈vs,kd.is k v=true)↔k∈ns:=by
 induction h with
 |nil=>simp
 | @cons v n vs ns h1 _ ih=>
  rw[aD,<- ih]
  constructor
  ·rintro⟨u,a,b⟩;rcases aD.mp a with rfl |a
   ·exact .inl (kd.inj _ _ _ b h1)
   ·exact .inr ⟨u,a,b⟩
  ·rintro (rfl |⟨u,a,b⟩)
   ·exact⟨v,.head _,h1⟩
   ·exact⟨u,.tail _ a,b⟩
def c0V(h:KsAre kd vs ns):∀{i:Nat}{v:Value},vs[i]?=some v->∃k,ns[i]?=some k/\kd.is k v=true:=by
 induction h with
 |nil=>intro i v e;simp at e
 |cons h1 _ ih=>
  intro i v e;cases i with
  |zero=>cases e;exact⟨_,rfl,h1⟩
  |succ i=>exact ih (by simpa using e)
end
section
variable{prog:fK}{w:World}{A:Around}{E:Value->Shared->Prop}{s:Shared}{a:Addr}{es:Array (Int×Value)}{ep:Nat}{t:fM}{K:Type}[DecidableEq K]{kd:KeyKind prog w K}{ms:List K}{k:K}{v:Value}
def SO.mem(S:SO kd s.heap a es ep t ms):(∃e∈es.toList,kd.is k e.2=true)↔k∈ms:=by
 rw[<- b8h S.nums]
 constructor
 ·rintro⟨e,c,b⟩;exact⟨e.2,bh c,b⟩
 ·rintro⟨u,d,b⟩;obtain⟨e,c,rfl⟩:=aF.mp d;exact⟨e,c,b⟩
def SO.stored{h:Heap}(ho:h.get? a=some o)(hx:o.ExactSet)(hd:o.data=.set es ep t)(hel:ElemsOf kd es'.toList)(hi:KsAre kd (es'.toList.map (·.2)) ms')(hs:es'.size<gR)(hf:t'.fits es'.size=true)(hk:TOk (!byT w) t') :
  (h.update a (Obj.putSet es' t')).get? a=some { o with data:=.set es' (ep+1) t' }/\SO kd (h.update a (Obj.putSet es' t')) a es' (ep+1) t' ms':=by
 have b:(h.update a (Obj.putSet es' t')).get? a=some { o with data:=.set es' (ep+1) t' }:=by
  have q:=Heap.get?_update_self (Obj.putSet es' t') ho (by rw[putSet_of es' t' hd];rfl);rw[putSet_of es' t' hd]at q;exact q
 exact⟨b,⟨⟨_,b,hx,rfl⟩,hel,hi,hs,hf,hk⟩⟩
def a8D(h:t.fits n=true):({ t with plain:=b }:fM).fits n=true:=by cases t;exact h
def TOk.plain(h:TOk led t):TOk led ({ t with plain:=b }:fM):=⟨h.up,h.dm,h.ld⟩
def b5p(hkey:kd.is k v=true)(hsv:v.scannable=true)(S:SO kd s.heap a es ep t ms)(hr:ms.length+1<gR)
  (h:∀h' ms' b,Heap.SameBut a s.heap h'->SI kd h' a ms'->ms'.Perm (if k∈ms then ms else ms++[k])->Q b { s with heap:=h' }) :
  wpAny (model prog w) A (setAddHashed a v (kd.hash k)) Q E s:=by
 obtain⟨⟨o,C,hx,D⟩,n,l,V,x,hok⟩:=id S;have M:es.size=ms.length:=by
  simpa using (b0q l)
 unfold setAddHashed jy;refine fZ (fF (ir C D x ?_));dsimp only;rw[byScan_of hsv V n];simp only[↓reduceIte];unfold setAddByScan;refine fF (fF (gG (fF (wpAny_setScan_of hkey C D x n ?_))));cases hf:eX (λe=>kd.is k e.2) es.toList with
 |some j=>
  dsimp only;obtain⟨hj,T,_⟩:=List.findIdx?_eq_some_iff_getElem.mp hf;have g:k∈ms:=S.mem.mp ⟨_,bO hj,T⟩;exact fG (fG (h s.heap ms false (Heap.SameBut.refl a s.heap) ⟨es,ep,t,S⟩ (by rw[if_pos g])))
 |none=>
  dsimp only;have g:k∉ms:=λz=>by
   obtain⟨e,he,T⟩:=S.mem.mpr z;have q:=List.findIdx?_eq_none_iff.mp hf e he;rw[T]at q;cases q
  have i:=layNew_perm t es (kd.hash k) v;have p:=layNew_fits t es (kd.hash k) v;have y:=hok.layNew es (kd.hash k) v;generalize layNew t es (kd.hash k) v=L at i p y ⊢;obtain⟨c,t1,wd,gv⟩:=L;dsimp only at i p y ⊢;rw[bG]at i;have F:=(n.push hkey hsv).perm i;have sz1:c.size=ms.length+1:=by rw[<- bL,i.length_eq,aG,bL,M];rfl
  obtain⟨X,I,J⟩:=a1R (vs':=c.toList.map (·.2)) (b5o l hkey) (by
   have q:=i.map (·.2);rw[aP]at q;exact q)
  have G:c.size<scanBound:=by lia
  have H:∀(d:fM),d.fits c.size=true->TOk (!byT w) d->wpAny (model prog w) A (do
    jz a c d
    if (!wd&&d.tooFull)=true then do
     (match (iq d c (fM.grown c.size)).2.2 with |true=>rule "set.scan.the-table-gave-way" |false=>pure ())
     jz a (iq d c (fM.grown c.size)).1 (iq d c (fM.grown c.size)).2.1
     pure (some true)
    else pure (some true)) (λr U=>wpAny (model prog w) A (match r with |some added=>pure added |none=>jy a v (kd.hash k) 99999) Q E U) E s:=by
   intro d f2 k2;refine fF (wpAny_storeSet_of C D ?_ (fits_of_scanBound G));obtain⟨Y,S1⟩:=SO.stored C hx D F I G f2 k2;have b1:=Heap.SameBut.update s.heap a (Obj.putSet c d)
   split
   ·have B:=relayAll_perm d c (fM.grown c.size);have N:=relayAll_fits d c (fM.grown c.size);have R:=k2.relay c (fM.grown c.size);generalize iq d c (fM.grown c.size)=W at B N R ⊢;obtain⟨m,t3,g3⟩:=W;dsimp only at B N R ⊢;have sz2:m.size=c.size:=by rw[<- bL,B.length_eq,bL]
    obtain⟨ms2,im2,pm2⟩:=a1R I (B.map (·.2));refine fF ?_;have u:wpAny (model prog w) A (jz a m t3 >>= λ_=>pure (some true)) (λr U=>wpAny (model prog w) A (match r with |some added=>pure added |none=>jy a v (kd.hash k) 99999) Q E U) E { s with heap:=s.heap.update a (Obj.putSet c d) }:=by
     refine fF (wpAny_storeSet_of Y rfl ?_ (fits_of_scanBound (by lia)));obtain⟨_,S2⟩:=SO.stored (t:=d) Y hx rfl (F.perm B) im2 (by lia) N R;exact fG (fG (h _ ms2 true (b1.trans (Heap.SameBut.update _ a _)) ⟨m,_,t3,S2⟩ (if_neg g▸pm2.trans J)))
    cases g3 with
    |true=>exact gG u
    |false=>exact fG u
   ·exact fG (fG (h _ X true b1 ⟨c,_,d,S1⟩ (if_neg g▸J)))
  have gw:∀{β:Type}{f:Unit->Sem β}{Q':β->Shared->Prop},wpAny (model prog w) A (f ()) Q' E s->wpAny (model prog w) A ((match gv with |true=>rule "set.scan.the-table-gave-way" |false=>pure ()) >>= f) Q' E s:=λhq=>by
   cases gv with
   |true=>exact fF (gG hq)
   |false=>exact fF (fG hq)
  refine gw ?_
  split
  ·refine fF ?_;rw[hashByValue_scannable 8 hsv];refine fG ?_;refine H _ ?_ ?_<;>cases plainKind v<;>first |exact p |exact a8D p |exact y |exact y.plain
  ·refine fF (fG ?_);simp only[↓reduceIte];exact H t1 p y
end
def SI.at{K:Type}[DecidableEq K]{kd:KeyKind prog w K}{ms:List K}(S:SI kd h a ms)(k:∀o,h.get? a=some o->h'.get? a=some o):SI kd h' a ms:=by
 obtain⟨l,i,t,⟨o,g,x,d⟩,f,j,e,c,b⟩:=S;exact⟨l,i,t,⟨o,k o g,x,d⟩,f,j,e,c,b⟩
def Met{K:Type}(val:Nat->K)(i:Nat)(ms:List K):Prop:=ms.Nodup/\ms.length<=i/\∀x,x∈ms↔∃j,j<i/\val j=x
def Met.step{K:Type}[DecidableEq K]{val:Nat->K}{ms ms':List K}(h:Met val i ms)(p:ms'.Perm (if val i∈ms then ms else ms++[val i])):Met val (i+1) ms':=by
 obtain⟨d,k,b⟩:=h;have a:∀x,(∃j,j<i+1/\val j=x)↔(∃j,j<i/\val j=x)\/x=val i:=λx=>by grind
 by_cases c:val i∈ms
 ·rw[if_pos c]at p;refine⟨p.nodup_iff.mpr d,by rw[p.length_eq];lia,λx=>?_⟩;rw[p.mem_iff,a,b];exact⟨.inl,λz=>z.elim id λe=>(b x).mp (e▸c)⟩
 ·rw[if_neg c]at p;refine⟨p.nodup_iff.mpr ?_,by rw[p.length_eq];simp;exact k,λx=>?_⟩
  ·rw[cg];exact⟨d,by simp,λx g y f=>by rw[aJ.mp f];rintro rfl;exact c g⟩
  ·rw[p.mem_iff,a,aE,b,aJ]
section
variable{prog:fK}{w:World}{A:Around}{R:Result->Shared->Prop}{I:Addr}{fp wr:List Addr}{G:Array iY->Array iY->Prop}{n:Nat}{P:Nat->Value->Prop}{St:Nat->Shared->Prop}{K:Type}[DecidableEq K]{kd:KeyKind prog w K}
def b2s(W:WalksS prog w A.in1 I fp wr G n P St)(S:Addr)(hSf:S∉fp)(val:Nat->K)(hv:∀i v,P i v->kd.is (val i) v=true/\v.scannable=true)(hb:n+1<gR) :
  ∀(k i:Nat)(s:Shared)(ms:List K),n-i=k->i<=n->St i s->SI kd s.heap S ms->Met val i ms ->
   (∀s' ms',Moved (S::wr) G s s'->SI kd s'.heap S ms'->Met val n ms'->R (.ok (.ret .none)) s') ->
   gf (model prog w) A (.builtin "set.update.loop" ⟨[.ref S,.ref I],[]⟩) R s:=by
 have C:=λz=>hSf (W.sub _ z);have E:∀b∈wr,b∈S::wr:=λb z=>bU _ z;intro k
 induction k with
 |zero=>
  intro i s p Q U l r f m;have e:i=n:=by lia
  subst e;refine g7 PyProof.Rows.F.entry_set_update_loop ?_;rw[Around.under_plainId PyProof.Rows.F.plain_set_update_loop _];exact fF (W.done s _ _ l λa d=>(fG (m a p (d.mono E) (r.at λo g=>d.heap S o C g) f)))
 |succ k ih=>
  intro i s p Q U l r f m;refine g7 PyProof.Rows.F.entry_set_update_loop ?_;rw[Around.under_plainId PyProof.Rows.F.plain_set_update_loop _];refine fF (W.item i s _ _ (by lia) l λv a M H d=>?_);obtain⟨j,x⟩:=hv i v M;obtain⟨Y,V,t,S1⟩:=r.at λo g=>d.heap S o C g;refine fF (fZ (fZ (fF (kd.pyHash j (b5p j x S1 (by have:=f.2.1;lia) λh' J b h y N=>(fG ⟨ie PyProof.Rows.F.plain_set_update_loop _,ih (i+1) _ J (by lia) (by lia) (W.frame _ a _ _ H (cC _) λc q o g=>?_) y (f.step N) λT X B u D=>?_⟩))))))
  ·rw[h.2 c λz=>hSf (z▸q)];exact g
  ·refine m T X (Moved.trans W.gtrans ((d.mono E).then_heap (cC _) λc o q g=>?_) B) u D;rw[h.2 c λz=>q (by grind)];exact g
end
section
variable{prog:fK}{w:World}{A:Around}{E:Value->Shared->Prop}{s:Shared}{K:Type}[DecidableEq K]{kd:KeyKind prog w K}
abbrev a0T(w:World):Obj:={ cls:=.type "set",dict:=none,data:=.set #[] 0 (.fresh 0 0 (!byT w)) }
def SI.fresh(g:h.get? a=some (a0T w)):SI kd h a []:=
 ⟨#[],0,.fresh 0 0 _,⟨_,g,⟨rfl,rfl,rfl⟩,rfl⟩,λe b=>by simp at b,.nil,by decide,rfl,⟨.nil,rfl,rfl⟩⟩
def b5q(a:Value)(h:Q (.ref s.heap.objs.size) { s with heap:=s.heap.push (a0T w) }) :
  gf (model prog w) A (.call (.builtin "set.__new__") ⟨[.type "set",a],[]⟩) (wants Q E) s:=by
 refine codeAny_of_tree ?_
 show wpAny _ A.in1 (do jA "set.__new__" ⟨[.type "set",a],[]⟩;again (.builtin "set.__new__" ⟨[.type "set",a],[]⟩)) _ _ s
 refine fF (jB (PySem.F.newCall_set_1 a) (fG ⟨ie PySem.F.plain_set_new _,g7 PySem.F.entry_set_new ?_⟩));rw[Around.under_plainId PySem.F.plain_set_new _];unfold fO.«set.__new__» fO.Frozenset.newClass;have sub:=sub_set_self;obtain⟨hp,g,d,tk,os⟩:=s;dsimp only
 wp_walk
 refine jC (fG ?_);dsimp only;simp only[newObj];exact fF (wpAny_alloc (fG (fG h)))
set_option maxHeartbeats 3200000 in
def call_set(hh:A.handled=none)(hl:s.heap.IsList l items)(hi:KsAre kd items.toList ns)(hsv:∀v∈items.toList,v.scannable=true)(hb:items.size+1<gR)
  (h:∀(h':Heap)(tk:Nat)(ms:List K),SI kd h' s.heap.objs.size ms->Met (λi=>ns.getD i k0) items.size ms->(∀b o,b<s.heap.objs.size->s.heap.get? b=some o->h'.get? b=some o)->Q (.ref s.heap.objs.size) { s with heap:=h',toks:=tk }) :
  wpAny (model prog w) A (call (.type "set") [.ref l]) Q E s:=by
 obtain⟨mc,mt,mro⟩:=PySem.F.called_set.mro;have md:=PySem.F.called_set.made;have sb:=PySem.F.called_set.sub;refine ji (codeAny_of_tree ?_)
 show wpAny _ _ (callAny (.type "set") _) _ _ _
 refine fG ⟨Code.quiet_builtin _ (by decide +kernel),g7 PySem.F.entry_type_call ?_⟩;rw[Around.under_plain (weight_type_call_type "set" [.ref l] []) rfl];have nt:=PySem.F.called_set.notType;have cc:=PySem.F.called_set.canCreate;have tc:=PySem.F.typeCall_set_1 (.ref l)
 repeat (any_goals (first |assumption |wp_step))
 refine hZ (b5q (w:=w) (.ref l) (E:=E) (Q:=λobj s1=>obj=.ref s.heap.objs.size/\s1={ s with heap:=s.heap.push (a0T w) }) ⟨rfl,rfl⟩) λr s1 hr=>?_;cases r with
 |error e=>exact hr
 |ok fl=>
  cases fl with
  |ret obj=>
   obtain⟨rfl,rfl⟩:=hr;have gS:(s.heap.push (a0T w)).get? s.heap.objs.size=some (a0T w):=Heap.get?_push_size _ rfl;have tS:Shared.TypeIs { s with heap:=s.heap.push (a0T w) } (.ref s.heap.objs.size) "set":=⟨_,gS,rfl⟩;have li:=PySem.F.called_set.init.lookup;have bi:=PySem.F.called_set.init.bind (.ref s.heap.objs.size)
   repeat (any_goals (first |assumption |wp_step))
   refine hZ (codeAny_call_builtin (R:=wants (λr s2=>r=.none/\∃h' tk ms,s2={ s with heap:=h',toks:=tk }/\SI kd h' s.heap.objs.size ms/\Met (λi=>ns.getD i k0) items.size ms /\
     (∀b o,b<s.heap.objs.size->s.heap.get? b=some o->h'.get? b=some o)) E) PySem.F.called_set.init.plain PySem.F.entry_set_init (check_set_init_1 tS ?_)) λr2 s2 hr2=>?_
   ·obtain⟨ol,gl,cl,nl,dl⟩:=hl;obtain⟨oc,od,ob,osl⟩:=ol;simp only at cl dl;subst cl dl;have gl':(s.heap.push (a0T w)).get? l=some { cls:=.type "list",dict:=od,data:=.seq items nl,slots:=osl }:=Heap.get?_push_of_some _ gl;have s1:=PySem.F.sub_list_set;have s2:=PySem.F.sub_list_frozenset;have ne:(Value.type "list"==Value.type "dict")=false:=by decide
    have il:(s.heap.push (a0T w)).IsList l items:=⟨_,gl',rfl,nl,rfl⟩;unfold fO.«set.__init__» noKeywords fO.Frozenset.updateFrom;generalize hPI:pyIter=PI
    wp_walk
    subst hPI;refine iA il (fF (wpAny_runValue ?_));have ll:l<s.heap.objs.size:=Heap.lt_size gl;have h3:A.in1.in1.in1.handled=none:=by simp[hh]
    have nI:l≠(s.heap.push (a0T w)).objs.size:=by rw[Heap.size_push];exact aQ (cx ll)
    have nf:s.heap.objs.size∉[(s.heap.push (a0T w)).objs.size,l]:=by
     rw[Heap.size_push];simp only[aD,aJ,ci,or_false,not_or];exact⟨aQ (dk _),cu ll⟩
    refine b2s ((Walks.list h3 _ l nI items).toS) s.heap.objs.size nf (λi=>ns.getD i k0) (λi v e=>by
     have e':items.toList[i]?=some v:=by rw[bT];exact e
     obtain⟨k,h1,h2⟩:=c0V hi e';exact⟨by rw[cH,h1];exact h2,hsv v (aS e')⟩) hb (items.size-0) 0 _ [] (by omega) (aW _)
     ⟨⟨_,Heap.get?_push_size _ rfl,rfl,rfl⟩,(il.push _)⟩ (SI.fresh (Heap.get?_push_of_some _ gS)) ⟨.nil,aC _,λx=>by simp⟩ λs' ms mv hS hM=>?_
    obtain⟨h',g',d',tk',os'⟩:=s';have eg:g'=s.gens:=mv.gens;have ed:d'=s.drawn:=mv.drawn;have eo:os'=s.os:=mv.os;subst eg ed eo
    show wpAny _ _ _ _ _ _
    refine fG ?_
    show wpAny _ _ (ret Value.none) _ _ _
    refine fG ⟨rfl,h',tk',ms,rfl,hS,hM,λb o hb e=>?_⟩;refine mv.heap b o ?_ (Heap.get?_push_of_some _ (Heap.get?_push_of_some _ e));simp only[aD,aJ,ci,or_false,not_or];exact⟨aQ hb,by rw[Heap.size_push];exact aQ (cx hb)⟩
   ·cases r2 with
    |error e=>exact hr2
    |ok f2=>
     cases f2 with
     |ret r=>
      obtain⟨rfl,h',tk,ms,rfl,hS,hM,hk⟩:=hr2
      repeat (any_goals (first |assumption |wp_step))
      exact h _ _ _ hS hM hk
     |_=>exact hr2.elim
  |_=>exact hr.elim
end
def sit_next:Slot "set_iterator" "__next__" "set_iterator.__next__":=.of (owner:="set_iterator") (n:="__next__") (by rw[typeLookup_type,builtinLookup_eq_fast];kernel_rfl) (by decide +kernel) (by decide +kernel) (by decide +kernel) (by first |exact .inl (by decide +kernel) |exact .inr (by decide +kernel)) (by rw[jD];kernel_rfl)
def a0U:iZ table "set_iterator.__next__"=some fO.«set_iterator.__next__»:=entryFor_of_tree (by kernel_rfl)
def a7H:Slot "set_iterator" "__iter__" "set_iterator.__iter__":=.of (owner:="set_iterator") (n:="__iter__") (by rw[typeLookup_type,builtinLookup_eq_fast];kernel_rfl) (by decide +kernel) (by decide +kernel) (by decide +kernel) (by first |exact .inl (by decide +kernel) |exact .inr (by decide +kernel)) (by rw[jD];kernel_rfl)
def a4j:iZ table "set_iterator.__iter__"=some fO.«dict_keyiterator.__iter__»:=entryFor_alias (id':="dict_keyiterator.__iter__") (by kernel_rfl) rfl (by decide +kernel) (by kernel_rfl)
def a4k:iZ table "set.__iter__"=some fO.«frozenset.__iter__»:=entryFor_alias (id':="frozenset.__iter__") (by kernel_rfl) rfl (by decide +kernel) (by kernel_rfl)
def a5V:Manifest.owners.lookup (String.ofList ['r','o','t','a','r','e','t','i','_','t','e','s'].reverse)=some Manifest.sig_set_iterator:=by kernel_rfl
def a03(a:Value):argsOk "set_iterator.__next__" ⟨[a],[]⟩:=by unfold argsOk;rw[signature?_of (n:=['_','_','t','x','e','n','_','_']) (by kernel_rfl) a5V];kernel_rfl
def a5a(a:Value):argsOk "set_iterator.__iter__" ⟨[a],[]⟩:=by unfold argsOk;rw[signature?_of (n:=['_','_','r','e','t','i','_','_']) (by kernel_rfl) a5V];kernel_rfl
def SetIt(h:Heap)(it a:Addr)(first:Value)(i n ep:Nat):Prop:=∃o,h.get? it=some o/\o.cls=.type "set_iterator"/\o.data=.fields #[first,.int i 0,.ref a,.int n 0,.int ep 0]
def SetIt.ty{s:Shared}(x:SetIt s.heap it a f i n ep):s.TypeIs (.ref it) "set_iterator":=let ⟨o,g,c,_⟩:=x;⟨o,g,c⟩
def SetIt.at(x:SetIt h it a f i n ep)(e:∀o,h.get? it=some o->h'.get? it=some o):SetIt h' it a f i n ep:=let ⟨o,g,r⟩:=x;⟨o,e _ g,r⟩
section
variable{prog:fK}{w:World}{A:Around}{E:Value->Shared->Prop}{s:Shared}{it a:Addr}{f:Value}{i n ep:Nat}{o:Obj}{es:Array (Int×Value)}{t:fM}
def a5b(x:SetIt s.heap it a f i n ep)(h:Q (.ref it) s):wpAny (model prog w) A (pyIter (.ref it)) Q E s:=by
 refine wpAny_pyIter_slot x.ty a7H (gg a7H x.ty a4j ?_ (a5a _));exact fG ⟨_,rfl,"set_iterator",_,x.ty,sit_next.lookup,h⟩
def a7I(hh:A.handled=none)(hQ:∀h':Heap,(∀b o,s.heap.get? b=some o->h'.get? b=some o)->Q none { s with heap:=h' }) :
  wpAny (model prog w) A.in1 (newExc (.type "StopIteration") [] >>= λe=>(raiseNew e:Sem Final)) (λ_ _=>False) (λe s'=>wpAny (model prog w) A (do if <- isInstance e (.type "StopIteration") then pure (none:Option Value) else throw e) Q E s') s:=by
 refine fF (fF (g5 ?_ (by size_fits)));refine fF (jB (by first |rfl | (simp;rfl)) (g5 ?_ (by size_fits)))
 refine fF (wpAny_handled ?_);rw[hh];refine fF (fG (wpAny_throw ?_));refine fF (i3 ⟨_,Heap.get?_push_size _ rfl,rfl⟩ isSubtype_stop ?_);exact fG (hQ _ λb o e=>Heap.get?_push_of_some _ (Heap.get?_push_of_some _ e))
end
section
variable{prog:fK}{w:World}{A:Around}{E:Value->Shared->Prop}{s:Shared}{it a:Addr}{f:Value}{i n ep k:Nat}{o:Obj}{es:Array (Int×Value)}{t:fM}{K:Type}[DecidableEq K]{kd:KeyKind prog w K}{ms:List K}
def a5W(S:SO kd s.heap a es ep t ms)(hT:byT w=true)(h:Q (((gF (w.params.setOrder a ep) es)[i]?).map λe=>(e.2,k)) s) :
  wpAny (model prog w) A (i5 a k i ep) Q E s:=by
 obtain⟨⟨o,f,n,d⟩,l,g,j,b,m⟩:=id S;refine fF (ir f d b (iw (λ_=>?_) λc=>absurd hT c));simp;refine fF (fF (ir f d b (iw (λ_=>?_) λc=>absurd hT c)));exact fF (jC (fG (fG h)))
def a4G(S:SO kd s.heap a es ep t ms)(hT:byT w=false)(hp:(!t.plain&&decide (es.size > 1))=false)
  (h:Q (match es[fM.below t.place k]?,t.place[fM.below t.place k]? with |some (_,x),some j=>some (x,j+1) |_,_=>none) s) :
  wpAny (model prog w) A (i5 a k i ep) Q E s:=by
 obtain⟨⟨o,g,n,f⟩,m,e,l,b,d⟩:=id S;refine fF (ir g f b (iw (λc=>by rw[show (model prog w).w.params.followText "set-order"=byT w from rfl,hT]at c;cases c) λ_=>?_))
 show wpAny _ _ (if (!t.plain&&decide _)=true then _ else _) _ _ _
 rw[hp]
 show wpAny _ _ ((if _=true then _ else _) >>= _) _ _ _
 rw[d.ld,hT];exact fF (fG (fG h))
def a5X(x:SetIt s.heap it a (.int k 0) i es.size ep)(S:SO kd s.heap a es ep t ms)
  (hnx:∀(B:Around)(F:Value->Shared->Prop)(R:Option (Value×Nat)->Shared->Prop),R (some (v,nx)) s->wpAny (model prog w) B (i5 a k i ep) R F s)
  (hQ:∀h',SetIt h' it a (.int nx 0) (i+1) es.size ep->Heap.SameBut it s.heap h'->Q (some v) { s with heap:=h' }):wpAny (model prog w) A (pyNext (.ref it)) Q E s:=by
 obtain⟨u,e,n,b⟩:=id x;obtain⟨⟨o,l,C,j⟩,r,h,y,c,z⟩:=id S;refine fF (g6 (wpAny_callSpecial?_slot x.ty sit_next (gg sit_next x.ty a0U ?_ (a03 _))));refine fF (fG (fF (i6 e b (fF (iK l j c ?_)))));simp;refine fF (hnx _ _ _ (fF (iu e b (by simp) ?_)));have f:=Heap.get?_update_self (Obj.mapFields (·.setIfInBounds 0 (rawInt nx))) e (Obj.isFreed_of_fields (Obj.data_mapFields b _));have d:=Obj.data_mapFields b (·.setIfInBounds 0 (rawInt nx));refine fF (iu f d (by simp) ?_);have q:=Obj.data_mapFields d (·.setIfInBounds 1 (rawInt (i+1)));have p:SetIt _ it a (.int nx 0) (i+1) es.size ep:=
  ⟨_,(Heap.get?_update_self (Obj.mapFields (·.setIfInBounds 1 (rawInt (i+1)))) f (Obj.isFreed_of_fields (Obj.data_mapFields d _))),(Obj.cls_mapFields ..).trans ((Obj.cls_mapFields ..).trans n),by rw[q];simp[rawInt]⟩
 refine fG ⟨_,rfl,?_⟩;exact fG (hQ _ p ((Heap.SameBut.update ..).trans (Heap.SameBut.update ..)))
def a7J(hh:A.handled=none)(x:SetIt s.heap it a (.int k 0) i es.size ep)(S:SO kd s.heap a es ep t ms)
  (hnx:∀(B:Around)(F:Value->Shared->Prop)(R:Option (Value×Nat)->Shared->Prop),R none s->wpAny (model prog w) B (i5 a k i ep) R F s)
  (hQ:∀h',(∀b o,b≠it->s.heap.get? b=some o->h'.get? b=some o)->Q none { s with heap:=h' }):wpAny (model prog w) A (pyNext (.ref it)) Q E s:=by
 obtain⟨u,d,G,f⟩:=id x;obtain⟨⟨o,g,C,p⟩,v,h,r,c,y⟩:=id S;refine fF (g6 (wpAny_callSpecial?_slot x.ty sit_next (gg sit_next x.ty a0U ?_ (a03 _))));refine fF (fG (fF (i6 d f (fF (iK g p c ?_)))));simp;refine fF (hnx _ _ _ (fF (iu d f (by simp) (fS (a7I hh λj n=>?_) (λ_ _ z=>z.elim) λe D z=>z))));exact (hQ j λb o l e=>n b o ((Heap.SameBut.update s.heap it _).extBut b o l e))
end
theorem a2R{α:Type}:∀(l:List α){i:Nat}(h:i<l.length),l.Perm (l[i]::l.eraseIdx i)
 |x::l,0,_=>by simp
 |x::l,i+1,h=>by
  exact (bm.cons x (a2R l (by simpa using h))).trans (bm.swap _ _ _)
def b5r{α:Type}(next:Nat->Nat):∀(fuel k:Nat)(left:List α)(out:Array α),fuel=left.length->(gF.go next fuel k left out).toList.Perm (out.toList++left):=by intro z0;induction z0 with
 |zero=>
  intro k left out h
  have:=cf.mp h.symm
  subst this;unfold gF.go;simp
 |succ fuel I0=>
  intro k left out h;unfold gF.go;have a:next k % left.length<left.length:=Nat.mod_lt _ (by lia);rw[aN a];refine (I0 _ _ _ (by grind)).trans ?_;rw[bG,be];exact bm.append_left _ (a2R left a).symm
def a5Y{α:Type}(next:Nat->Nat)(xs:Array α):(gF next xs).toList.Perm xs.toList:=by
 have:=b5r next xs.size 0 xs.toList #[] (by simp)
 simpa[gF]using this
noncomputable def a2q(t:fM):Nat->Nat
 |0=>0
 |j+1=>t.place.getD j 0+1
def a4H(h:TOk led t)(hi:i<=t.place.size):fM.below t.place (a2q t i)=i:=by
 obtain⟨f,a,d⟩:=a7G h.up (a2q t i);cases i with
 |zero=>
  by_cases c:fM.below t.place (a2q t 0)=0
  ·grind
  ·have:=a 0 (by lia) (by lia)
   have z:a2q t 0=0:=rfl
   lia
 |succ j=>
  have b:j<t.place.size:=by lia
  have e:a2q t (j+1)=t.place[j]+1:=by show t.place.getD j 0+1=_;rw[eY,cj b];rfl
  rcases Nat.lt_trichotomy (fM.below t.place (a2q t (j+1))) (j+1) with c |c |c
  ·grind
  ·lia
  ·have q:=a (j+1) (by lia) c;have r:=b2p h.up (show j<j+1 by lia) (by lia)
   lia
def SO.at{K:Type}[DecidableEq K]{kd:KeyKind prog w K}{ms:List K}(S:SO kd h a es ep t ms)(k:∀o,h.get? a=some o->h'.get? a=some o):SO kd h' a es ep t ms:=by
 obtain⟨⟨o,g,x,d⟩,i,f,e,b,c⟩:=S;exact⟨⟨o,k o g,x,d⟩,i,f,e,b,c⟩
section
variable{prog:fK}{w:World}{A:Around}{E:Value->Shared->Prop}{s:Shared}{it a T:Addr}{f:Value}{i n ep k:Nat}{o:Obj}{es:Array (Int×Value)}{t:fM}{K:Type}[DecidableEq K]{kd:KeyKind prog w K}{ms:List K}{ps:List Nat}
noncomputable def b2t(w:World)(a:Addr)(ep:Nat)(es:Array (Int×Value)):List Value:=(gF (w.params.setOrder a ep) es).toList.map (·.2)
def b0r(hh:A.handled=none)(hne:a≠it)(hT:byT w=true):Walks prog w A it [it,a] [it] es.size (λi v=>(b2t w a ep es)[i]?=some v) (λi h=>SetIt h it a (.int (0:Nat) 0) i es.size ep/\SO kd h a es ep t ms):=by
 have p:(gF (w.params.setOrder a ep) es).size=es.size:=by rw[<- bL,(a5Y _ es).length_eq,bL]
 refine⟨λb d=>by simp at d;simp[d],λ_ _ _ c m=>⟨c.1.at λo e=>m it (by simp) o e,c.2.at λo e=>m a (by simp) o e⟩,λi s Q E q c f=>?_,λs Q E c f=>?_,λ_ _ _ _ c f=>a5b c.1 f⟩
 ·have l:(gF (w.params.setOrder a ep) es)[i]?=some ((gF (w.params.setOrder a ep) es)[i]'(by lia)):=cj _;refine a5X (v:=((gF (w.params.setOrder a ep) es)[i]'(by lia)).2) (nx:=0) c.1 c.2 (λB F R g=>a5W c.2 hT ?_) λj x k=>?_
  ·simp_all
  ·refine f _ j s.toks ?_ ⟨x,c.2.at λo e=>k.extBut a o hne e⟩ λb o d e=>k.extBut b o (λz=>d (by simp[z])) e;unfold b2t;rw[aK,bT,l]
   rfl
 ·refine a7J hh c.1 c.2 (λB F R g=>a5W c.2 hT ?_) λj n=>f j s.toks λb o d e=>n b o (λz=>d (by simp[z])) e;rw[eZ (by lia)];exact g
def a8E(hh:A.handled=none)(hne:a≠it)(hT:byT w=false)(hp:(!t.plain&&decide (es.size > 1))=false)(hf:t.fits es.size=true)(ok:TOk (!byT w) t) :
  Walks prog w A it [it,a] [it] es.size (λi v=>(es.toList.map (·.2))[i]?=some v) (λi h=>SetIt h it a (.int (a2q t i) 0) i es.size ep/\SO kd h a es ep t ms):=by
 have q:t.place.size=es.size:=by
  simp only[fM.fits,bD,beq_iff_eq]at hf;exact hf.1
 refine⟨λb d=>by simp at d;simp[d],λ_ _ _ c m=>⟨c.1.at λo e=>m it (by simp) o e,c.2.at λo e=>m a (by simp) o e⟩,λi s Q E n c f=>?_,λs Q E c f=>?_,λ_ _ _ _ c f=>a5b c.1 f⟩
 ·have j:i<t.place.size:=by lia
  refine a5X (v:=es[i].2) (nx:=a2q t (i+1)) c.1 c.2 (λB F R g=>a4G c.2 hT hp ?_) λk x l=>?_
  ·rw[a4H ok (by lia),cj n,cj j];have e:a2q t (i+1)=t.place[i]+1:=by show t.place.getD i 0+1=_;rw[eY,cj j];rfl
   rw[e]at g;exact g
  ·refine f _ k s.toks ?_ ⟨x,c.2.at λo e=>l.extBut a o hne e⟩ λb o d e=>l.extBut b o (λz=>d (by simp[z])) e;rw[aK,bT,cj n]
   rfl
 ·refine a7J hh c.1 c.2 (λB F R g=>a4G c.2 hT hp ?_) λk p=>f k s.toks λb o d e=>p b o (λz=>d (by simp[z])) e;rw[a4H ok (by lia),eZ (by lia)];exact g
end
section
variable{prog:fK}{w:World}{A:Around}{E:Value->Shared->Prop}{s:Shared}{it a T:Addr}{f:Value}{i n ep k:Nat}{o:Obj}{es:Array (Int×Value)}{t:fM}{K:Type}[DecidableEq K]{kd:KeyKind prog w K}{ms:List K}{ps:List Nat}
def b5s(hn:n≠0)(h:∀i d',i<n->Q i { s with drawn:=d' }):wpAny (model prog w) A (choose src n) Q E s:=
 λ_ _ _=>⟨hn,h _ _ (Nat.mod_lt _ (Nat.pos_of_ne_zero hn))⟩
theorem a7K{α:Type}:∀(n:Nat)(xs:List α)(s:Shared)(Q:List α->Shared->Prop),xs.length=n->(∀ys d',ys.Perm xs->Q ys { s with drawn:=d' })->wpAny (model prog w) A (drawOrder n xs) Q E s
 |0,xs,s,Q,hl,h=>by
  have:=cf.mp hl
  subst this;exact fG (h [] s.drawn .nil)
 |n+1,[],s,Q,hl,h=>by cases hl
 |n+1,x::xs,s,Q,hl,h=>by
  refine fF (b5s (by simp) λi e a=>?_);rw[aN a];exact fF (a7K n _ _ _ (by grind) λd c b=>(fG (h _ c ((bm.cons _ b).trans (a2R _ a).symm))))
def PlacesAt(h:Heap)(T:Addr)(ps:List Nat):Prop:=∃o c,h.get? T=some o/\o.data=.seq (ps.map λ(i:Nat)=>rawInt i).toArray c
def PlacesAt.at(x:PlacesAt h T ps)(k:∀o,h.get? T=some o->h'.get? T=some o):PlacesAt h' T ps:=by obtain⟨o,c,g,d⟩:=x;exact⟨o,c,k _ g,d⟩
def a8F(x:SetIt s.heap it a (.ref T) i es.size ep)(S:SO kd s.heap a es ep t ms)(y:PlacesAt s.heap T ps)(hp:ps[i]?=some p)(he:es[p]?=some e)
  (hQ:∀h',SetIt h' it a (.ref T) (i+1) es.size ep->Heap.SameBut it s.heap h'->Q (some e.2) { s with heap:=h' }):wpAny (model prog w) A (pyNext (.ref it)) Q E s:=by
 obtain⟨u,f,k,d⟩:=id x;obtain⟨⟨o,h,G,g⟩,D,n,B,b,C⟩:=id S;obtain⟨F,c,q,v⟩:=y;refine fF (g6 (wpAny_callSpecial?_slot x.ty sit_next (gg sit_next x.ty a0U ?_ (a03 _))));refine fF (fG (fF (i6 f d (fF (iK h g b ?_)))));rw[if_neg (by simp)];refine fF (fF (iz q ?_));rw[v];refine fG ?_;dsimp only;have r:(ps.map λ(i:Nat)=>rawInt i).toArray[(i:Int).toNat]?=some (rawInt p):=by simp_all
 rw[r]
 show wpAny _ _ (setNextDrawn a (p:Int).toNat (ep:Int).toNat >>= _) _ _ _
 refine fF (fF (ir h g b ?_));simp;rw[he];refine fG (fF (iu f d (by simp) ?_));have j:=Obj.data_mapFields d (·.setIfInBounds 1 (rawInt ((i:Int)+1)));have z:SetIt _ it a (.ref T) (i+1) es.size ep:=
  ⟨_,(Heap.get?_update_self (Obj.mapFields (·.setIfInBounds 1 (rawInt ((i:Int)+1)))) f (Obj.isFreed_of_fields (Obj.data_mapFields d _))),(Obj.cls_mapFields ..).trans k,by rw[j];simp[rawInt]⟩
 refine fG ⟨_,rfl,?_⟩;exact fG (hQ _ z (Heap.SameBut.update ..))
def b0s(hh:A.handled=none)(x:SetIt s.heap it a (.ref T) i es.size ep)(S:SO kd s.heap a es ep t ms)(y:PlacesAt s.heap T ps)(hp:ps[i]?=none)
  (hQ:∀h',(∀b o,b≠it->s.heap.get? b=some o->h'.get? b=some o)->Q none { s with heap:=h' }):wpAny (model prog w) A (pyNext (.ref it)) Q E s:=by
 obtain⟨u,f,I,d⟩:=id x;obtain⟨⟨o,k,J,C⟩,G,p,H,g,F⟩:=id S;obtain⟨L,c,j,l⟩:=y;refine fF (g6 (wpAny_callSpecial?_slot x.ty sit_next (gg sit_next x.ty a0U ?_ (a03 _))));refine fF (fG (fF (i6 f d (fF (iK k C g ?_)))));rw[if_neg (by simp)];refine fF (fF (iz j ?_));rw[l];refine fG ?_;dsimp only;have v:(ps.map λ(i:Nat)=>rawInt i).toArray[(i:Int).toNat]?=none:=by simp_all
 rw[v];dsimp only;refine fF (iu f d (by simp) ?_);have r:=Obj.data_mapFields d (·.setIfInBounds 0 (rawInt 0));refine fF (iu (Heap.get?_update_self (Obj.mapFields (·.setIfInBounds 0 (rawInt 0))) f (Obj.isFreed_of_fields (Obj.data_mapFields d _))) r (by simp) ?_);refine fS (a7I hh λB h=>?_) (λ_ _ z=>z.elim) λe M z=>z;exact (hQ B λb o n e=>h b o (((Heap.SameBut.update s.heap it _).trans (Heap.SameBut.update _ it _)).extBut b o n e))
noncomputable def a5Z(es:Array (Int×Value))(ps:List Nat):List Value:=ps.map λp=>((es[p]?).getD (0,.none)).2
def a8G(hh:A.handled=none)(hne:a≠it)(hnT:T≠it)(hps:ps.Perm (bI es.size)) :
  Walks prog w A it [it,a,T] [it] es.size (λi v=>(a5Z es ps)[i]?=some v) (λi h=>SetIt h it a (.ref T) i es.size ep/\SO kd h a es ep t ms/\PlacesAt h T ps):=by
 have q:ps.length=es.size:=by rw[hps.length_eq,d6]
 refine⟨λb d=>by simp at d;simp[d],λ_ _ _ c l=>⟨c.1.at λo e=>l it (by simp) o e,c.2.1.at λo e=>l a (by simp) o e,c.2.2.at λo e=>l T (by simp) o e⟩,λi s Q E r c f=>?_,λs Q E c f=>?_,λ_ _ _ _ c f=>a5b c.1 f⟩
 ·have g:i<ps.length:=by lia
  have m:=dI.mp (hps.mem_iff.mp (bO g));refine a8F c.1 c.2.1 c.2.2 (aN g) (cj m) λj x k=>?_;refine f _ j s.toks ?_ ⟨x,c.2.1.at λo e=>k.extBut a o hne e,c.2.2.at λo e=>k.extBut T o hnT e⟩ λb o d e=>k.extBut b o (λz=>d (by simp[z])) e;unfold a5Z;rw[aK,aN g,cG,cj m]
  rfl
 ·exact b0s hh c.1 c.2.1 c.2.2 (d7 (by lia)) λj n=>f j s.toks λb o d e=>n b o (λz=>d (by simp[z])) e
end
section
variable{prog:fK}{w:World}{A:Around}{E:Value->Shared->Prop}{s:Shared}{it a T:Addr}{f:Value}{i n ep k:Nat}{o:Obj}{es:Array (Int×Value)}{t:fM}{K:Type}[DecidableEq K]{kd:KeyKind prog w K}{ms:List K}{ps:List Nat}
def b0t{α:Type}(d:α)(l:Array α):(bI l.size).map (λp=>(l[p]?).getD d)=l.toList:=by
 refine e7 (by simp) λi b a=>?_
 have:i<l.size:=by omega
 simp[this]
def a8H(hps:ps.Perm (bI es.size)):(a5Z es ps).Perm (es.toList.map (·.2)):=by
 have q:=hps.map λp=>((es[p]?).getD (0,Value.none)).2;refine q.trans (bm.of_eq ?_);rw[<- b0t (0,Value.none) es,aU]
 rfl
def SO.ty(S:SO kd s.heap a es ep t ms):s.TypeIs (.ref a) "set":=by obtain⟨o,g,x,_⟩:=S.at_;exact⟨o,g,x.1⟩
def SO.len(S:SO kd s.heap a es ep t ms):es.size=ms.length:=by
 have q:=b0q S.nums;simpa using q
abbrev b8i(f:Value)(a:Addr)(n ep:Nat):Obj:={ cls:=.type "set_iterator",data:=.fields #[f,.int (0:Nat) 0,.ref a,.int n 0,.int ep 0] }
def a3P{h:Heap}:SetIt (h.push (b8i f a n ep)) h.objs.size a f 0 n ep:=⟨_,Heap.get?_push_size _ rfl,rfl,rfl⟩
def b2u(hh:A.handled=none)(S:SI kd s.heap a ms)
  (h:∀(I:Addr)(fp:List Addr)(g:Heap)(d':Drawn)(vs:List Value)(ns:List K)(St:Nat->Heap->Prop),(∀b o,s.heap.get? b=some o->g.get? b=some o)->s.heap.objs.size<=I->(∀b∈fp,b=a\/s.heap.objs.size<=b) ->
   KsAre kd vs ns->ns.Perm ms->Walks prog w A I fp [I] vs.length (λi v=>vs[i]?=some v) St->St 0 g->Q (.ref I) { s with heap:=g,drawn:=d' }) :
  wpAny (model prog w) A (pyIter (.ref a)) Q E s:=by
 obtain⟨es,ep,t,S⟩:=S;obtain⟨⟨o,p,hx,y⟩,hel,n,N,f,L⟩:=id S;have G:a<s.heap.objs.size:=Heap.lt_size p;refine wpAny_pyIter_slot S.ty PySem.F.slot_set_iter (gg PySem.F.slot_set_iter S.ty a4k ?_ (PySem.F.args_set_iter_1 _));unfold fO.«frozenset.__iter__» fO.Frozenset.slot0 fO.Frozenset.sizeOf;refine fF (fF (fG (fG (fF (fF (iK p y f (fG ?_)))))));unfold setDrawn setsByText;refine fF (fF (ir p y f (fF (fF (jC (fG ?_))))));dsimp only;refine fG ?_
 show wpAny _ _ (if (!byT w&&(!t.plain&&decide (es.size > 1)))=true then _ else _) _ _ _
 have B:(es.toList.map (·.2)).length=es.size:=by simp
 by_cases c:(!byT w&&(!t.plain&&decide (es.size > 1)))=true
 ·rw[if_pos c];refine fF (a7K es.size (bI es.size) _ _ (by simp) λx d' q=>?_);have r:x.length=es.size:=by rw[q.length_eq,d6]
  have sb:gR<=16777216:=by decide
  refine fF (iJ ?_ (by rw[aB,r,fV];lia));refine fF (wpAny_setEpoch_of (Heap.get?_push_of_some _ p) y f ?_);unfold newFields;refine fF (g5 (fG ⟨_,rfl,"set_iterator",_,⟨_,Heap.get?_push_size _ rfl,rfl⟩,sit_next.lookup,?_⟩));obtain⟨D,C,H⟩:=a1R n (a8H (es:=es) q);have k:s.heap.objs.size<(s.heap.push { cls:=.type "tuple",data:=.seq (x.map λ(i:Nat)=>rawInt i).toArray }).objs.size:=by rw[Heap.size_push];exact dk _
  have j:=a8G (kd:=kd) (A:=A) (t:=t) (ms:=ms) (ep:=ep) (a:=a) hh (aQ (cT G k)) (aQ k) q;have e:(a5Z es x).length=es.size:=by unfold a5Z;rw[aB,r]
  rw[<- e]at j;refine h _ _ _ _ _ D _ (λb o g=>Heap.get?_push_of_some _ (Heap.get?_push_of_some _ g)) (b2 k) (λb u=>?_) C H j ⟨?_,S.at λo g=>Heap.get?_push_of_some _ (Heap.get?_push_of_some _ g),⟨_,_,Heap.get?_push_of_some _ (Heap.get?_push_size _ rfl),rfl⟩⟩
  ·simp only[aD,ci,or_false]at u;rcases u with rfl |rfl |rfl
   ·exact .inr (b2 k)
   ·exact .inl rfl
   ·exact .inr (aC _)
  ·rw[e];exact a3P
 ·rw[if_neg c];refine fF (fG (fF (wpAny_setEpoch_of p y f ?_)));unfold newFields;refine fF (g5 (fG ⟨_,rfl,"set_iterator",_,⟨_,Heap.get?_push_size _ rfl,rfl⟩,sit_next.lookup,?_⟩));have z:∀b∈[s.heap.objs.size,a],b=a\/s.heap.objs.size<=b:=λb u=>by grind
  cases k:byT w with
  |true=>
   have J:(b2t w a ep es).Perm (es.toList.map (·.2)):=(a5Y _ es).map _;obtain⟨D,C,H⟩:=a1R n J;have j:=b0r (kd:=kd) (A:=A) (t:=t) (ms:=ms) (ep:=ep) (es:=es) (a:=a) hh (aQ G) k;have e:(b2t w a ep es).length=es.size:=by rw[J.length_eq,B]
   rw[<- e]at j;refine h _ _ _ _ _ D _ (λb o g=>Heap.get?_push_of_some _ g) (aC _) z C H j ⟨?_,S.at λo g=>Heap.get?_push_of_some _ g⟩;rw[e];exact a3P
  |false=>
   have M:(!t.plain&&decide (es.size > 1))=false:=by
    rw[k]at c;simpa using c
   have j:=a8E (kd:=kd) (A:=A) (t:=t) (ms:=ms) (ep:=ep) (es:=es) (a:=a) hh (aQ G) k M f L;rw[<- B]at j;refine h _ _ _ _ _ ms _ (λb o g=>Heap.get?_push_of_some _ g) (aC _) z n (bm.refl _) j ⟨?_,S.at λo g=>Heap.get?_push_of_some _ g⟩;rw[B];exact a3P
end
section
variable{prog:fK}{w:World}{A:Around}{E:Value->Shared->Prop}{s:Shared}{a:Addr}{K:Type}[DecidableEq K]{kd:KeyKind prog w K}{ms:List K}
def b2v(y:s.TypeIs (.ref a) "set")(h:Q false s):wpAny (model prog w) A (fO.List.listLengthHint (.ref a)) Q E s:=by
 refine fF (wpAny_specialOf y PySem.F.slot_set_len.lookup ?_);generalize e0:_=z;exact fF (i3 (b:=true) y (by rw[jD];kernel_rfl) (fF (iR y (fG h))))
def b2w(h:ItemsOf (λi v=>vs[i]?=some v) acc vs.length):acc.toList=vs:=by
 obtain⟨a,b⟩:=h;refine e7 (by omega) λi d c=>?_;have e:i<acc.size:=by omega
 have:vs[i]?=some acc[i]:=b i acc[i] (cj e)
 rw[aN c]at this;simpa using this.symm
def a8I(hh:A.handled=none)(S:SI kd s.heap a ms)(L:Addr)(hL:L≠a)(res:Value)(c0:Nat)(gL:s.heap.get? L=some { cls:=.type "list",data:=.seq #[] c0 })
  (hR:∀g tk d' acc c' ns,(∀b o,b≠L->s.heap.get? b=some o->g.get? b=some o)->g.get? L=some { cls:=.type "list",dict:=none,data:=.seq acc c',slots:=#[] }->KsAre kd acc.toList ns->ns.Perm ms->R (.ok (.ret res)) { s with heap:=g,drawn:=d',toks:=tk }) :
  wpAny (model prog w) A.in1 (fO.List.listExtendWith (.ref L) (.ref a) res)
   (λfin s'=>match fin with |.done f=>R (.ok f) s' |.again c'=>c'.quiet=true/\gf (model prog w) A c' R s') (λe s'=>R (.error e) s') s:=by
 have ty:s.TypeIs (.ref a) "set":=by obtain⟨_,_,_,S'⟩:=S;exact S'.ty
 have small:ms.length<=sizeLine:=by
  obtain⟨es,ep,t,S'⟩:=S;have q1:=S'.len;have q2:=S'.sc;have sb:gR<=16777216:=by decide
  rw[fV];lia
 have lL:=Heap.lt_size gL;unfold fO.List.listExtendWith;refine fF (iR ty ?_);have n1:fO.List.listSameRef (.ref L) (.ref a)=false:=by simp[fO.List.listSameRef,hL]
 have n2:(Value.type "set"==Value.type "list")=false:=by decide
 have n3:(Value.type "set"==Value.type "tuple")=false:=by decide
 simp only[n1,n2,n3,Bool.or_false,cX,if_false];refine fF (b2u hh S λI fp g d' vs ns St kp hI hfp i1 i2 wk st=>?_);have nf:L∉fp:=λz=>(hfp L z).elim hL λq=>ca _ (aZ lL q);have hz:vs.length<=sizeLine:=by
  have q:=b0q i1;rw[i2.length_eq]at q
  lia
 have key:∀(d:Heap)(c1:Nat),St 0 d->(∀b o,b≠L->g.get? b=some o->d.get? b=some o)->d.get? L=some { cls:=.type "list",data:=.seq #[] c1 } ->
   gf (model prog w) A (.builtin "list.extend.loop" ⟨[.ref L,.ref I,res],[]⟩) R { s with heap:=d,drawn:=d' }:=by
  intro d c1 st2 k2 gL2;refine codeAny_extend_loopS wk.toS hz L nf res vs.length 0 _ #[] c1 rfl (aW _) st2 gL2 (ItemsOf.nil _) λs3 acc c3 mv g3 hacc=>?_;rw[Moved.eq_with mv];refine hR s3.heap s3.toks d' acc c3 ns (λb o i e=>mv.heap b o (λhm=>?_) (k2 b o i (kp b o e))) g3 (b2w hacc▸i1) i2;rcases aD.mp hm with q |q
  ·exact i q
  ·rw[aJ.mp q]at e;exact ca _ (aZ (Heap.lt_size e) hI)
 have h:=kp L _ gL;refine fF (fZ (b2v (by obtain⟨o,e,c⟩:=ty;exact⟨o,kp _ _ e,c⟩) (iw (λ_=>?_) λ_=>fG ⟨ie PySem.F.plain_extend_loop _,key _ c0 st (λb o _ e=>e) h⟩)));refine fF (gG (fF ?_))
 show wpAny _ _ (updateSeq L (·.push .none) >>= λ_=>updateSeq L (·.pop)) _ _ _
 refine fF (jE h rfl ?_);have d:=Heap.get?_update_self (Obj.mapSeq (·.push Value.none)) h rfl;refine jE d rfl ?_;have j:∀b o,b≠L->g.get? b=some o->((g.update L (Obj.mapSeq (·.push Value.none))).update L (Obj.mapSeq (·.pop))).get? b=some o:=λb o i e=>
  (Heap.get?_update_other _ _ (Ne.symm i)).trans ((Heap.get?_update_other _ _ (Ne.symm i)).trans e)
 exact fG ⟨ie PySem.F.plain_extend_loop _,key _ _ (wk.frame 0 _ _ st λb hb o e=>j b o (λq=>nf (q▸hb)) e) j (Heap.get?_update_self (Obj.mapSeq (·.pop)) d rfl)⟩
def collect_set(hh:A.handled=none)(S:SI kd s.heap a ms)
  (h:∀(g:Heap)(tk:Nat)(d':Drawn)(vs:List Value)(ns:List K),(∀b o,s.heap.get? b=some o->g.get? b=some o)->KsAre kd vs ns->ns.Perm ms->R vs { s with heap:=g,drawn:=d',toks:=tk }) :
  wpAny (model prog w) A (collect (.ref a)) R E s:=by
 have C:=let ⟨_,_,_,S'⟩:=S;let ⟨_,g,_⟩:=S'.at_;Heap.lt_size g
 refine fF (wpAny_runValue (g7 PySem.F.entry_proto_collect ?_));rw[Around.under_plainId PySem.F.plain_proto_collect _];refine fF (g5 (fG ⟨ie PySem.F.plain_list_iadd _,g7 PySem.F.entry_list_iadd ?_⟩));rw[Around.under_plainId PySem.F.plain_list_iadd _];have z:(s.heap.push { cls:=.type "list",data:=.seq ([]).toArray }).get? s.heap.objs.size=some { cls:=.type "list",data:=.seq #[] }:=Heap.get?_push_size _ rfl;have u:=a8I (s:={ s with heap:=s.heap.push { cls:=.type "list",data:=.seq ([]).toArray } })
  (R:=λq t=>∃(g:Heap)(j:Nat)(i:Drawn)(c:Array Value)(n:Nat)(d:List K),q=.ok _/\t={ s with heap:=g,drawn:=i,toks:=j } /\
   (∀b o,s.heap.get? b=some o->g.get? b=some o)/\g.get? s.heap.objs.size=some { cls:=.type "list",dict:=none,data:=.seq c n,slots:=#[] }/\KsAre kd c.toList d/\d.Perm ms)
  hh (S.at λo e=>Heap.get?_push_of_some _ e) s.heap.objs.size (cu C) (.ref s.heap.objs.size) 0 z
  λg j i c n d m r p k=>⟨g,j,i,c,n,d,rfl,rfl,λb o e=>m b o (aQ (Heap.lt_size e)) (Heap.get?_push_of_some _ e),r,p,k⟩
 refine fS u (λv t x=>?_) λe t x=>?_
 ·cases v with
  |done f=>
   obtain⟨g,j,i,c,n,d,e,rfl,m,r,p,k⟩:=x;cases e;exact fF (iz r (fG (h g j i _ d m p k)))
  |again c1=>
   refine⟨x.1,hZ x.2 λq D y=>?_⟩;obtain⟨g,j,i,c,n,d,rfl,rfl,m,r,p,k⟩:=y;exact fF (iz r (fG (h g j i _ d m p k)))
 ·obtain⟨_,_,_,_,_,_,B,_⟩:=x;cases B
end
end SetW
namespace L2
open PySem PySem.Spec PyProof.Rows
def a7L:∀{vs:List Value}{ns:List Int},f9 vs ns->vs.length=ns.length:=by intro z0 y0 x0;induction x0 with
 |nil=>exact rfl
 |cons n t h I0=>rw[aL,aL,I0]
def b0u:∀{vs:List Value}{ns:List Int},f9 vs ns->Vals (ns.map V.int) vs:=by intro z0 y0 x0;induction x0 with
 |nil=>exact .nil
 |cons n t h I0=>exact .cons ⟨t,rfl⟩ (I0)
section
variable{P:fK}{w:World}{A:Around}{E:Value->Shared->Prop}{s:Shared}
def b0v(hmx:ns.length<=1000)
  (hcol:∀R:List Value->Shared->Prop,(∀(g:Heap)(tk:Nat)(d:Drawn)(vs:List Value)(ks:List Int),(∀b o,s.heap.get? b=some o->g.get? b=some o)->f9 vs ks->ks.Perm ns->R vs { s with heap:=g,drawn:=d,toks:=tk })->wpAny (model P w) A.in1 (collect (.ref r)) R E s)
  (h:∀(g g':Heap)(tk:Nat)(d:Drawn)(out:List Value)(n:Nat)(ms:List Int),(∀b o,s.heap.get? b=some o->g.get? b=some o)->(∀b o,g.get? b=some o->g'.get? b=some o)->g'.get? g.objs.size=some { cls:=.type "list",data:=.seq out.toArray n } ->
   f9 out ms->ms.Perm ns->ms.Pairwise (·<=·)->Q (.ref g.objs.size) { s with heap:=g',drawn:=d,toks:=tk }):wpAny (model P w) A (call (.builtin "sorted") [.ref r]) Q E s:=by
 refine Calls.call_function_entry jF jG jH (jI _) (fF (fG (fF (hcol _ λg t d f ks p l k=>?_))));have hl:=(a7L l).trans k.length_eq;have v:f.length<=sizeLine:=by rw[fV];lia
 refine fF (iX ?_ v);have j:(g.push _).get? g.objs.size=some (seqObj "list" f.toArray 0):=Heap.get?_push_size _ rfl;refine fF (fZ (gg jJ ⟨_,j,rfl⟩ jK (Tim.sort_any j l (by lia) λout u y x q=>⟨_,rfl,?_⟩) (jL _)));have c:=jM (out:=out) j;obtain⟨n,c⟩:=c;refine fG ⟨_,rfl,h g _ t d out.toList n u p (λb o e=>?_) (by omega) y (x.trans k) q⟩;have i:=Heap.lt_size e;rw[jN (aQ i) (by rw[Heap.size_push];exact cx i)];exact Heap.get?_push_of_some _ e
end
section
variable{X:Cx}
def Inv.drew(I:Inv X pins σ H s)(d:Drawn):Inv X pins σ H { s with drawn:=d }:=
 I.step (ch:=[]) (λb a=>nomatch a) (λb o _ _ _ e _=>e) (λb o _ _ _ e _=>⟨o.slots,e⟩) (λ_ _ _ _ n=>n) (λb o _ e=>⟨o,e⟩) (λ_ _ e=>e) (λ_ _ _ e=>e) (λb f e=>⟨#[],by rw[e];simp⟩) (λm c=>c) I.hok I.bare
end
structure Zs where
 it:Addr
 l:Addr
def Zs.At(z:Zs)(k:Nat)(h:Heap):Prop:=h.IsListIter z.it z.l k
def Zs.Has(z:Zs)(h:Heap)(xs:Array Value):Prop:=h.IsList z.l xs
def Zs.At.keep{z:Zs}(a:z.At k h)(q:∀o,h.get? z.it=some o->h'.get? z.it=some o):z.At k h':=Heap.IsListIter.at a q
def Zs.Has.keep{z:Zs}(a:z.Has h xs)(q:∀o,h.get? z.l=some o->h'.get? z.l=some o):z.Has h' xs:=let ⟨o,ho,r⟩:=a;⟨o,q o ho,r⟩
def Zs.At.obj{z:Zs}(a:z.At k h):∃o,h.get? z.it=some o/\∀v,o.data≠.cell v:=by obtain⟨o,e,_,d⟩:=a;exact⟨o,e,λv q=>by rw[d]at q;cases q⟩
section
variable{P:fK}{w:World}{A:Around}{E:Value->Shared->Prop}{s:Shared}
def b5t{z:Zs}(a:z.At i s.heap)(b:z.Has s.heap xs)(hx:xs[i]?=some x)
  (q:∀g,z.At (i+1) g->Heap.SameBut z.it s.heap g->Q x { s with heap:=g }):wpAny (model P w) A (fO.SmallTypes.nextOf (.ref z.it)) Q E s:=wpAny_nextOf_list_item a b hx q
def b8j{z:Zs}(hh:A.handled=none)(a:z.At i s.heap)(b:z.Has s.heap xs)(hx:xs[i]?=none)
  (q:∀g e,Heap.ExtBut z.it s.heap g->(∃o,g.get? e=some o/\o.cls=.type "StopIteration")->E (.ref e) { s with heap:=g }):wpAny (model P w) A (fO.SmallTypes.nextOf (.ref z.it)) Q E s:=wpAny_nextOf_list_end hh a b hx q
end
abbrev IsTu(h:Heap)(T:Addr)(xs:Array Value):Prop:=h.get? T=some { cls:=.type "tuple",data:=.seq xs }
structure ZAp (z TI TO:Addr) (zs:List Zs):Prop where
 nd:(zs.map (·.it)).Nodup
 a1:TI≠z
 a2:TO≠z
 a3:TI≠TO
 its:∀y∈zs,y.it≠z/\y.it≠TI/\y.it≠TO
 ls:∀y∈zs,y.l≠z/\y.l≠TO/\∀x∈zs,y.l≠x.it
section
variable{P:fK}{w:World}{A:Around}{E:Value->Shared->Prop}{s:Shared}
def b3T{z TI TO:Addr}{olds:List Value}{arr:Zs->Array Value}{Q:Value->Shared->Prop}(hh:A.handled=none)(D:ZAp z TI TO zs)(hne:zs≠[])(hsm:zs.length<=1000)
  (hz:IsZip s.heap z TI TO .none) (hI:IsTu s.heap TI (zs.map λy=>Value.ref y.it).toArray) (hO:IsTu s.heap TO olds.toArray) (hol:olds.length=zs.length)
  (hat:∀y∈zs,y.At k s.heap) (hhas:∀y∈zs,y.Has s.heap (arr y))
  (hQ:∀(g:Heap)(T:Addr)(vs:List Value),vs.length=zs.length->(∀(i:Nat) y,zs[i]?=some y->∃v,vs[i]?=some v/\(arr y)[k]?=some v)->T=s.heap.objs.size->IsZip g z TI TO (rawInt T)->IsTu g TI (zs.map λy=>Value.ref y.it).toArray->IsTu g TO vs.toArray->IsTu g T vs.toArray ->
   (∀y∈zs,y.At (k+1) g)->(∀c o,c≠z->c≠TO->(∀y∈zs,c≠y.it)->s.heap.get? c=some o->g.get? c=some o)->Q (.ref T) { s with heap:=g })
  (hE:(∃y∈zs,(arr y)[k]?=none)->∀g e,(∀c o,c≠z->c≠TO->(∀y∈zs,c≠y.it)->s.heap.get? c=some o->g.get? c=some o)->(∃o,g.get? e=some o/\o.cls=.type "StopIteration")->E (.ref e) { s with heap:=g }) :
  wpAny (model P w) A (fO.«zip.__next__» ⟨[.ref z],[]⟩) (λfin s'=>∃v,fin=.done (.ret v)/\Q v s') E s:=by
 show wpAny (model P w) _ (field (.ref z) 2 >>= _) _ _ _
 refine fF (gO hz rfl (x:=.bool false) rfl ?_)
 show wpAny (model P w) _ (field (.ref z) 3 >>= _) _ _ _
 refine fF (gO hz rfl (x:=.ref TI) rfl (fF (jO hI rfl ?_)));have he:(zs.map λy=>Value.ref y.it).toArray.isEmpty=false:=by
  cases zs with
  |nil=>exact absurd rfl hne
  |cons _ _=>rfl
 dsimp only;rw[he]
 show wpAny (model P w) _ (fO.SmallTypes.ownedTupleIsFree (.ref z) >>= _) _ _ _
 refine fF ?_;unfold fO.SmallTypes.ownedTupleIsFree;refine fF (gO hz rfl (x:=.none) rfl (fG ?_));simp only[if_true];refine fF (gG (fF (gO hz rfl (x:=.ref TO) rfl (fF (i7 hz (by simp) λg1 z1 N=>?_)))))
 replace z1:IsZip g1 z TI TO .ellipsis:=z1
 refine fF ?_;refine jP _ (λL b s'=>b.1=none/\∃(j n:List Zs)(d h:List Value)(g:Heap),zs=j++n/\L=(n.map λy=>Value.ref y.it).zipIdx j.length/\d.length=j.length/\h.length=n.length/\s'={ s with heap:=g } /\
  (∀(i:Nat) y,j[i]?=some y->∃v,d[i]?=some v/\(arr y)[k]?=some v)/\IsZip g z TI TO .ellipsis/\IsTu g TO (d++h).toArray/\(∀y∈j,y.At (k+1) g)/\(∀y∈n,y.At k g)/\g.objs.size=s.heap.objs.size /\
  (∀c o,c≠z->c≠TO->(∀y∈zs,c≠y.it)->s.heap.get? c=some o->g.get? c=some o)) _ ?_ ?_ _ _ ?_
 ·rintro x L b s' ⟨hb,j,n,d,h,g,r,R,I,U,rfl,ev,S,X,ad,F,sg,J⟩;cases n with
  |nil=>simp at R
  |cons y n=>
   cases h with
   |nil=>simp at U
   |cons o h=>
   rw[aO,eM]at R;cases R;have a:y∈zs:=by rw[r];simp
   have hyl:=λo q=>J _ o (D.ls y a).1 (D.ls y a).2.1 (D.ls y a).2.2 q;dsimp only;refine fF (wpAny_onRaise ?_)
   show wpAny (model P w) _ (fO.SmallTypes.nextOf (.ref y.it) >>= _) _ _ _
   cases hx:(arr y)[k]? with
   |none=>
    refine fF (b8j (z:=y) hh (F y (.head _)) ((hhas y a).keep hyl) hx λH e x2 he=>?_);obtain⟨oe,V,he2⟩:=he;have Y:IsZip H z TI TO .ellipsis:=x2 _ _ (D.its y a).1.symm S;have hez:e≠z:=λq=>by subst q;rw[Y]at V;cases V;simp at he2
    exact i7 Y (by simp) λg3 _ p=>hE ⟨y,a,hx⟩ g3 e (λc u m G t q=>p.extBut _ _ m (x2 _ _ (t y a) (J c u m G t q))) ⟨oe,p.extBut _ _ hez V,he2⟩
   |some v=>
    refine fF (b5t (z:=y) (F y (.head _)) ((hhas y a).keep hyl) hx λH a2 C=>fG ?_);have o2:IsTu H TO (d++o::h).toArray:=C.extBut _ _ (D.its y a).2.2.symm X;refine fF (jO o2 rfl ?_);have W:(d++o::h).length=zs.length:=by rw[r];simp[I];simpa using U
    refine fF (jE o2 rfl ?_ (by rw[bB,W,fV];lia) (by rw[Array.size_setIfInBounds,bB,W,fV];lia));refine fF (wpAny_letGo (fG ?_));have nd:(j.map (·.it)++y.it::n.map (·.it)).Nodup:=by have:=D.nd;rw[r]at this;simpa using this
    have p:Heap.SameBut TO H (H.update TO (Obj.mapSeq (·.setIfInBounds j.length v))):=Heap.SameBut.update ..;have o3:IsTu (H.update TO (Obj.mapSeq (·.setIfInBounds j.length v))) TO ((d++[v])++h).toArray:=by
     show Heap.get? _ _=_
     rw[Heap.get?_update_self _ o2 rfl]
     have:(d++o::h).set d.length v=(d++[v])++h:=by simp
     simp[Obj.mapSeq,<- I]
    refine⟨rfl,j++[y],n,d++[v],h,_,by rw[r];simp,by simp,by simp[I],by simpa using U,rfl,?_,p.extBut _ _ D.a2.symm (C.extBut _ _ (D.its y a).1.symm S),o3,?_,?_,by rw[p.1,C.1,sg],?_⟩
    ·intro i x B
     by_cases hlt:i<j.length
     ·rw[cD hlt]at B;obtain⟨v',q1,q2⟩:=ev i x B;exact⟨v',by rw[cD (by lia)];exact q1,q2⟩
     ·rw[cv (by lia)]at B;have h0:i-j.length=0:=by
       have:=(aI.mp B).1
       simp at this;lia
      rw[h0]at B;simp at B;subst B;exact⟨v,by rw[cv (by lia),show i-d.length=0 by lia];rfl,hx⟩
    ·intro x f;rcases aE.mp f with f |f
     ·have M:x∈zs:=by rw[r];simp[f]
      refine (ad x f).keep λu q=>p.extBut _ _ (D.its x M).2.2 (C.extBut _ _ (λz=>?_) q);rw[cg]at nd;exact nd.2.2 x.it (bh f) y.it (by simp) z
     ·rw[aJ.mp f];exact a2.keep λu q=>p.extBut _ _ (D.its y a).2.2 q
    ·intro x f;have M:x∈zs:=by rw[r];simp[f]
     refine (F x (.tail _ f)).keep λu q=>p.extBut _ _ (D.its x M).2.2 (C.extBut _ _ (λz=>?_) q);rw[cg]at nd;exact (bx.mp nd.2.1).1 (z▸bh f)
    ·intro c u m G t q;exact p.extBut _ _ G (C.extBut _ _ (t y a) (J c u m G t q))
 ·rintro b s' ⟨hb,j,n,d,h,g,r,R,I,U,rfl,ev,S,X,ad,F,sg,J⟩;have htd:n=[]:=by
   cases n with
   |nil=>rfl
   |cons _ _=>simp at R
  subst htd;have hos:h=[]:=by simpa using U
  subst hos;rw[bj]at r X;subst r;obtain⟨N,C⟩:=b;subst hb;dsimp only;refine fF (jO X rfl (fF (iJ ?_ (by show d.toArray.toList.length<=fH;simp only[I,fV];lia))))
  show wpAny (model P w) _ (fO.SmallTypes.ownedTupleHandOut (.ref z) (.ref g.objs.size) >>= _) _ _ _
  refine fF ?_;unfold fO.SmallTypes.ownedTupleHandOut;have hzl:=Heap.lt_size S;have Y:IsZip (g.push { cls:=.type "tuple",data:=.seq d.toArray.toList.toArray }) z TI TO .ellipsis:=Heap.get?_push_of_some _ S;refine fF (i7 Y (by simp) λg3 z3 p=>?_)
  replace z3:IsZip g3 z TI TO (rawInt g.objs.size):=z3
  refine i7 z3 (by simp) λg4 z4 b4=>?_
  replace z4:IsZip g4 z TI TO (rawInt g.objs.size):=z4
  have up:∀c o,c≠z->g.get? c=some o->g4.get? c=some o:=λc o m q=>b4.extBut _ _ m (p.extBut _ _ m (Heap.get?_push_of_some _ q));have t4:IsTu g4 g.objs.size d.toArray:=b4.extBut _ _ (cu hzl) (p.extBut _ _ (cu hzl) (by simpa using Heap.get?_push_size _ rfl));refine fG ⟨_,rfl,?_⟩;refine hQ g4 g.objs.size d I ev sg z4 (up _ _ D.a1 (J _ _ D.a1 D.a3 (λy a=>(D.its y a).2.1.symm) hI)) (up _ _ D.a2 X) t4 (λy a=>(ad y a).keep λo q=>up _ o (D.its y a).1 q) λc o m G t q=>up c o m (J c o m G t q)
 ·refine⟨rfl,[],zs,[],olds,g1,rfl,by simp,rfl,hol,rfl,λi y q=>by simp at q,z1,by simpa using N.extBut _ _ D.a2 hO,λy q=>by simp at q,λy a=>(hat y a).keep λo q=>N.extBut _ _ (D.its y a).1 q,N.1,λc o m _ _ q=>N.extBut _ _ m q⟩
end
section
variable{X:Cx}{pins:List (Addr×Obj)}{σ:St}{H:Hp}{s:Shared}{h':Heap}
def Inv.turnedN{ch:List Addr}(I:Inv X pins σ H s)(hf:∀b∈ch,FpOk X pins H b)(k:∀b o,b∉ch->s.heap.get? b=some o->h'.get? b=some o):Inv X pins σ H { s with heap:=h',toks:=t' }:=by
 have d:∀b u,H b=some u->b∉ch:=λb u e z=>by rw[(hf b z).1]at e;cases e
 refine I.step (λb i=>?_) (λb o _ _ a e _=>k b o a e) (λb o _ _ a e _=>⟨o.slots,k b o a e⟩) (λ_ _ _ _ n=>n)
  (λb o a e=>⟨o,k b o a e⟩) (λ_ _ e=>e) (λ_ _ _ e=>e) (λb x e=>⟨#[],by rw[e];simp⟩) (λm j=>?_) (λb u e=>?_) I.bare
 ·obtain⟨_,t,_,g,w,l⟩:=hf b i;exact⟨g,t,w,l⟩
 ·obtain⟨o,h,f,p,r⟩:=j;exact⟨o,h,f,k _ o (λz=>(hf _ z).2.1 rfl) p,r⟩
 ·refine (I.hok b u e).stay (λc v a q=>k c v ?_ q) (λ_ q=>q) λ_ _ q=>q;rcases a with z |z
  ·simp_all
  ·simp_all
def Inv.turnedT{ch:List Addr}(I:Inv X pins σ H s)(hf:∀b∈ch,FpOk X pins H b)(k:∀b o,b∉ch->s.heap.get? b=some o->h'.get? b=some o)
  (hT:s.heap.objs.size<=T) (r:Vals vs us) (hz:vs.length<=fH) (ht:IsTup h' T us.toArray):Inv X pins σ (upd H T (.tup vs)) { s with heap:=h',toks:=t' }:=by
 have g:∀b u,H b=some u->b∉ch:=λb u e z=>by rw[(hf b z).1]at e;cases e
 have d:=I.hok.fresh hT;have y:∀b o,s.heap.get? b=some o->b≠T:=λb o e=>aQ (aZ (Heap.lt_size e) hT);refine I.step (λb f=>?_) (λb o _ _ a e _=>k b o a e) (λb o _ _ a e _=>⟨o.slots,k b o a e⟩) (λb o _ e n=>by rw[a0g (y b o e)];exact n)
  (λb o a e=>⟨o,k b o a e⟩) (λb l e=>by rw[a0g (a0y e d)];exact e) (λb _ _ e=>by rw[a0g (a0y e d)];exact e) (λb B e=>⟨#[],by rw[a0g (a0y e d),e];simp⟩) (λm x=>?_) (λb u e=>?_) I.bare
 ·obtain⟨_,j,_,p,A,t⟩:=hf b f;exact⟨p,j,A,t⟩
 ·obtain⟨o,i,w,h,r⟩:=x;exact⟨o,i,w,k _ o (λz=>(hf _ z).2.1 rfl) h,r⟩
 ·by_cases f:b=T
  ·subst f;rw[a0j]at e;cases e;exact⟨hz,us,r,ht⟩
  ·rw[a0g f]at e;refine (I.hok b u e).stay (λc v a q=>k c v ?_ q) (λc q=>by rw[a0g (a0y q d)];exact q) λc l q=>by rw[a0g (a0y q d)];exact q
   rcases a with z |z
   ·simp_all
   ·simp_all
end
noncomputable def SrcV.has{y:Zs}(I:Inv X pins σ H s)(h:SqL X.K H y.l xs):∃its:List Value,Vals xs its/\y.Has s.heap its.toArray:=by obtain⟨its,r,p,_⟩:=I.list h;exact⟨its,r,p.isList⟩
def SrcV.inj{y:Zs}(I:Inv X pins σ H s)(h:SqL X.K H y.l xs)(h':SqL X.K H y.l xs'):xs=xs':=I.list_inj h h'
noncomputable def Itz(K:Fg)(zs:List Zs):It:=
  ⟨λi H=>∀y∈zs,∃xs x,SqL K H y.l xs/\xs[i]?=some x,
   λi H x H'=>∃T vs,H T=none/\x=.ref T/\H'=upd H T (.tup vs)/\vs.length=zs.length/\∀(j:Nat) y xs,zs[j]?=some y->SqL K H y.l xs->∃v,vs[j]?=some v/\xs[i]?=some v,
   λi H=>(∀y∈zs,∃xs,SqL K H y.l xs)/\∃y∈zs,∃xs,SqL K H y.l xs/\xs.length<=i⟩
def TnZ(z TI TO:Addr)(zs:List Zs)(i:Nat)(h:Heap):Prop:=IsZip h z TI TO .none/\IsTu h TI (zs.map λy=>Value.ref y.it).toArray/\(∃olds:List Value,olds.length=zs.length/\IsTu h TO olds.toArray)/\∀y∈zs,y.At i h
theorem Vals.of_get:∀{vs:List V}{us:List Value},vs.length=us.length->(∀(i:Nat) v u,vs[i]?=some v->us[i]?=some u->RelV v u)->Vals vs us
 |[],[],_,_=>.nil
 |[],_::_,h,_=>by simp at h
 |_::_,[],h,_=>by simp at h
 |v::vs,u::us,h,q=>.cons (q 0 v u rfl rfl) (Vals.of_get (by simpa using h) λi v u a b=>q (i+1) v u (by simpa using a) (by simpa using b))
theorem b2x{P:fK}{w:World}{K:Fg}{elts:List Expr}{x1}{pos:Pos}{z TI TO:Addr}{zs:List Zs}(D:∀(X:Cx) pins σ H s,X.K=K->Inv X pins σ H s->(∀b∈z::TI::TO::zs.map (·.it),H b=none)->(∀y∈zs,∃xs,SqL K H y.l xs)->ZAp z TI TO zs)(hne:zs≠[])(hsm:zs.length<=1000) :
  Turn P w K (.Tuple elts x1 pos) (Itz K zs) (z::TI::TO::zs.map (·.it)) z (TnZ z TI TO zs) where
 mem:=by simp
 obj:=λi h ⟨t1,t2,⟨olds,_,t3⟩,t4⟩ b hb=>by
  rcases aD.mp hb with rfl |hb
  ·exact⟨_,t1,λv q=>by have q':Data.fields _=Data.cell v:=q;cases q'⟩
  rcases aD.mp hb with rfl |hb
  ·exact⟨_,t2,λv q=>by have q':Data.seq _ _=Data.cell v:=q;cases q'⟩
  rcases aD.mp hb with rfl |hb
  ·exact⟨_,t3,λv q=>by have q':Data.seq _ _=Data.cell v:=q;cases q'⟩
  obtain⟨y,hy,rfl⟩:=aF.mp hb;exact (t4 y hy).obj
 keep:=λi h h' ⟨t1,t2,⟨olds,t0,t3⟩,t4⟩ k=>⟨k z (by simp) _ t1,k TI (by simp) _ t2,⟨olds,t0,k TO (by simp) _ t3⟩,λy hy=>(t4 y hy).keep λo q=>k y.it (by simp;exact .inr (.inr (.inr ⟨y,hy,rfl⟩))) o q⟩
 item:=by
  intro X hP hw hK hc i pins s σ H E I hf st hg;subst hP hw hK;obtain⟨t1,t2,⟨olds,t0,t3⟩,t4⟩:=st;have Da:=D X pins σ H s rfl I (λb hb=>(hf b hb).1) λy hy=>let ⟨xs,_,q,_⟩:=hg y hy;⟨xs,q⟩
  have ex:∀y:Zs,∃its:List Value,y∈zs->∃xs,SqL X.K H y.l xs/\Vals xs its/\y.Has s.heap its.toArray/\∃x,xs[i]?=some x:=λy=>by
   by_cases hy:y∈zs
   ·obtain⟨xs,x,q1,q2⟩:=hg y hy;obtain⟨its,r,p⟩:=SrcV.has I q1;exact⟨its,λ_=>⟨xs,q1,r,p,x,q2⟩⟩
   ·exact⟨[],λq=>absurd q hy⟩
  obtain⟨arr,harr⟩:=Classical.axiomOfChoice ex;have hT:s.TypeIs (.ref z) "zip":=⟨_,t1,rfl⟩;unfold pyNext;refine fF (g6 (wpAny_callSpecial?_slot (name:=Str.ofString "__next__") hT PySem.F.slot_zip_next (gg PySem.F.slot_zip_next hT PySem.F.entry_zip_next ?_ (PySem.F.args_zip_next_1 _))));refine b3T (arr:=λy=>(arr y).toArray) (k:=i) (I.ok.hd hc) Da hne hsm t1 t2 t3 t0 t4 (λy hy=>let ⟨_,_,_,p,_⟩:=harr y hy;p) ?_ ?_
  ·intro g T us hl hv hT' z2 ti2 to2 tt2 at2 kp;refine fG ⟨_,rfl,?_⟩;refine wpAny_letOwnedTupleGo_zip (s:={ s with heap:=g }) z2 λg3 z3 b3=>?_;have zl:=Heap.lt_size t1;have hTz:T≠z:=by rw[hT'];exact cu zl
   have k3:∀b o,b∉z::TI::TO::zs.map (·.it)->s.heap.get? b=some o->g3.get? b=some o:=λb o hb q=>by
    simp only[aD,not_or]at hb;exact b3.extBut _ _ hb.1 (kp b o hb.1 hb.2.2.1 (λy hy e=>hb.2.2.2 (by rw[e];exact bh hy)) q)
   have exv:∀j:Nat,∃v:V,∀y xs,zs[j]?=some y->SqL X.K H y.l xs->xs[i]?=some v:=λj=>by
    cases hj:zs[j]? with
    |none=>exact⟨.non,λy xs e=>nomatch e⟩
    |some y=>
     obtain⟨xs,q1,_,_,x,q2⟩:=harr y (aS hj);exact⟨x,λy' xs' e q=>by cases e;rw[SrcV.inj I q q1];exact q2⟩
   obtain⟨val,hval⟩:=Classical.axiomOfChoice exv;have hlv:((bI zs.length).map val).length=zs.length:=by rw[aB,d6]
   have gv:∀(j:Nat) y,zs[j]?=some y->((bI zs.length).map val)[j]?=some (val j):=λj y e=>by
    rw[aK,List.getElem?_range (aI.mp e).1];rfl
   have rv:Vals ((bI zs.length).map val) us:=Vals.of_get (by rw[hlv,hl]) λj v u e1 e2=>by
    have hj:j<zs.length:=by rw[<- hl];exact (aI.mp e2).1
    have hz':=aN hj;rw[gv j _ hz']at e1;cases e1;obtain⟨xs,q1,q2,_,_⟩:=harr _ (bO hj);have q3:=hval j _ xs hz' q1;obtain⟨u',e3,e4⟩:=hv j _ hz';rw[e2]at e3;cases e3;obtain⟨u2,e5,e6⟩:=q2.get q3;have e4':(arr zs[j])[i]?=some u:=by simpa using e4
    rw[e5]at e4';cases e4';exact e6
   have tt3:IsTup g3 T us.toArray:=⟨_,b3.extBut _ _ hTz tt2,rfl,_,rfl⟩;refine⟨.ref T,_,I.turnedT (t':=s.toks) hf k3 (by rw[hT'];exact aC _) rv (by rw[hlv];exact b2 (a0h hsm)) tt3,rfl,⟨T,_,I.hok.fresh (by rw[hT'];exact aC _),rfl,rfl,hlv,λj y xs e q=>⟨_,gv j y e,hval j y xs e q⟩⟩,⟨z3,b3.extBut _ _ Da.a1 ti2,⟨us,hl,b3.extBut _ _ Da.a2 to2⟩,λy hy=>(at2 y hy).keep λo q=>b3.extBut _ _ (Da.its y hy).1 q⟩,λb hb=>?_⟩;have hbo:∃o,s.heap.get? b=some o:=by
    rcases aD.mp hb with rfl |hb
    ·exact⟨_,t1⟩
    rcases aD.mp hb with rfl |hb
    ·exact⟨_,t2⟩
    rcases aD.mp hb with rfl |hb
    ·exact⟨_,t3⟩
    obtain⟨y,hy,rfl⟩:=aF.mp hb;obtain⟨o,q,_⟩:=(t4 y hy).obj;exact⟨o,q⟩
   obtain⟨o,q⟩:=hbo;rw[a0g (by rw[hT'];exact aQ (Heap.lt_size q))];exact (hf b hb).1
  ·rintro⟨y,hy,q⟩;obtain⟨xs,_,r,_,x,q2⟩:=harr y hy;obtain⟨u,e,_⟩:=r.get q2;have q':(arr y)[i]?=none:=by simpa using q
   rw[e]at q';cases q'
 done:=by
  intro X hP hw hK hc i pins s σ H E I hf st hg;subst hP hw hK;obtain⟨t1,t2,⟨olds,t0,t3⟩,t4⟩:=st;obtain⟨hall,y0,hy0,xs0,hx0,hl0⟩:=hg;have Da:=D X pins σ H s rfl I (λb hb=>(hf b hb).1) hall;have ex:∀y:Zs,∃its:List Value,y∈zs->∃xs,SqL X.K H y.l xs/\Vals xs its/\y.Has s.heap its.toArray:=λy=>by
   by_cases hy:y∈zs
   ·obtain⟨xs,q1⟩:=hall y hy;obtain⟨its,r,p⟩:=SrcV.has I q1;exact⟨its,λ_=>⟨xs,q1,r,p⟩⟩
   ·exact⟨[],λq=>absurd q hy⟩
  obtain⟨arr,harr⟩:=Classical.axiomOfChoice ex;have hT:s.TypeIs (.ref z) "zip":=⟨_,t1,rfl⟩;unfold pyNext;refine fF (g6 (wpAny_callSpecial?_slot (name:=Str.ofString "__next__") hT PySem.F.slot_zip_next (gg PySem.F.slot_zip_next hT PySem.F.entry_zip_next ?_ (PySem.F.args_zip_next_1 _))));refine b3T (arr:=λy=>(arr y).toArray) (k:=i) (I.ok.hd hc) Da hne hsm t1 t2 t3 t0 t4 (λy hy=>let ⟨_,_,_,p⟩:=harr y hy;p) ?_ ?_
  ·intro g T us hl hv _ _ _ _ _ _ _;exfalso;obtain⟨j,hj⟩:=bH hy0;obtain⟨v,_,e⟩:=hv j y0 hj;obtain⟨xs,q1,r,_⟩:=harr y0 hy0;have e':(arr y0)[i]?=some v:=by simpa using e
   have:=(aI.mp e').1
   rw[<- r.length,SrcV.inj I q1 hx0]at this;omega
  ·rintro _ g e kp ⟨o,ho,hcl⟩;refine fF (i3 (T:="StopIteration") (b:=true) (s:={ s with heap:=g }) ⟨o,ho,hcl⟩ isSubtype_stop ?_);refine fG ⟨rfl,I.turnedN (t':=s.toks) hf λb o hb q=>?_⟩;simp only[aD,not_or]at hb;exact kp b o hb.1 hb.2.2.1 (λy hy e=>hb.2.2.2 (by rw[e];exact bh hy)) q
 self:=λ_ _ _ _ _ st h=>wpAny_pyIter_zip st.1 h
noncomputable def mkZs(b:Nat):List Addr->List Zs
 |[]=>[]
 |p::r=>⟨b,p⟩::mkZs (b+1) r
def a06:∀(b:Nat)(l:List Addr),(mkZs b l).length=l.length:=by intro z0 y0;induction y0 generalizing z0 with
 |nil=>exact rfl
 |cons _ r I0=>simp[mkZs,I0 _]
def a3Q:∀(b:Nat)(l r:List Addr),mkZs b (l++r)=mkZs b l++mkZs (b+l.length) r:=by intro z0 y0;induction y0 generalizing z0 with
 |nil=>intro _;simp[mkZs]
 |cons p l I0=>
  intro r
  have:=I0 (z0+1) r
  simp[mkZs,this]
  congr 1
  omega
def a1u:∀{b:Nat}{l:List Addr}{y:Zs},y∈mkZs b l->@LE.le Nat _ b y.it/\@LT.lt Nat _ y.it (b+l.length)/\y.l∈l:=by intro z0 y0;induction y0 generalizing z0 with
 |nil=>intro _ h;simp[mkZs]at h
 |cons p l I0=>
  intro y h;rcases aD.mp h with rfl |h
  ·simp
  ·obtain⟨d,c,a⟩:=I0 h;exact⟨by lia,by rw[aL,<- dX,Nat.add_right_comm];exact c,.tail _ a⟩
def a8J:∀(b:Nat)(l:List Addr),((mkZs b l).map (·.it)).Nodup:=by intro z0 y0;induction y0 generalizing z0 with
 |nil=>simp[mkZs]
 |cons p l I0=>
  show (z0::(mkZs _ l).map _).Nodup
  refine bx.mpr ⟨λh=>?_,I0 _⟩;obtain⟨y,a,e⟩:=aF.mp h
  have:=(a1u a).1
  lia
def HasS(p:Addr)(h:Heap):Prop:=∃xs,h.IsList p xs
def a8K(srcs:List Addr)(hsm:srcs.length<=1000) :
  Meets (fO.«zip.__new__» ⟨.type "zip"::srcs.map Value.ref,[]⟩) (λ_ R s=>(∀p∈srcs,HasS p s.heap)/\∀(g:Heap),(∀b o,s.heap.get? b=some o->g.get? b=some o) ->
   g.objs.size=s.heap.objs.size+srcs.length+3->TnZ (s.heap.objs.size+srcs.length+2) (s.heap.objs.size+srcs.length) (s.heap.objs.size+srcs.length+1) (mkZs s.heap.objs.size srcs) 0 g->R (.ok (.ret (.ref (s.heap.objs.size+srcs.length+2)))) { s with heap:=g }):=
 .of_wp λU w A R s h=>by
  obtain⟨T,h⟩:=h;unfold fO.«zip.__new__»;have C:fO.SmallTypes.newClass "zip" ⟨.type "zip"::srcs.map Value.ref,[]⟩=pure (.type "zip",srcs.map Value.ref):=by
   unfold fO.SmallTypes.newClass;simp only[isType,sub_zip,pure_bind,Bool.not_true,cX,if_false]
  refine fF (jB C ?_);dsimp only;rw[if_neg (by simp)];refine fF ?_;unfold fO.SmallTypes.iterAll;refine fF ?_;refine jP _ (λm l B=>∃(f e:List Addr)(g:Heap),srcs=f++e/\m=e.map Value.ref/\l=((mkZs s.heap.objs.size f).map λy=>Value.ref y.it).toArray/\B={ s with heap:=g }/\g.objs.size=s.heap.objs.size+f.length /\
   (∀b o,s.heap.get? b=some o->g.get? b=some o)/\∀y∈mkZs s.heap.objs.size f,y.At 0 g) _ ?_ ?_ _ _ ?_
  ·rintro x m l B ⟨f,e,g,t,n,rfl,rfl,j,u,k⟩;cases e with
   |nil=>simp at n
   |cons p e=>
    rw[aO]at n;cases n;obtain⟨W,V⟩:=T p (by rw[t];simp);refine fF (fZ ?_);have Q:∀z:Obj,Zs.At ⟨g.objs.size,p⟩ 0 (g.push z)->∃(dn' td':List Addr)(g':Heap),srcs=dn'++td'/\e.map Value.ref=td'.map Value.ref/\(((mkZs s.heap.objs.size f).map λy=>Value.ref y.it).toArray.push (.ref g.objs.size))=((mkZs s.heap.objs.size dn').map λy=>Value.ref y.it).toArray /\
      ({ s with heap:=g.push z }:Shared)={ s with heap:=g' }/\g'.objs.size=s.heap.objs.size+dn'.length/\(∀b o,s.heap.get? b=some o->g'.get? b=some o)/\∀y∈mkZs s.heap.objs.size dn',y.At 0 g':=λz S=>by
     refine⟨f++[p],e,g.push z,by rw[t];simp,rfl,?_,rfl,by rw[Heap.size_push,j];simp;lia,λb o q=>Heap.get?_push_of_some _ (u b o q),λy d=>?_⟩
     ·rw[a3Q];simp[mkZs,j]
     ·rw[a3Q]at d;rcases aE.mp d with d |d
      ·exact (k y d).keep λo q=>Heap.get?_push_of_some _ q
      ·simp[mkZs]at d;subst d;rw[<- j];exact S
    exact iA (by obtain⟨o,ho,r⟩:=V;exact⟨o,u _ _ ho,r⟩) (fG (Q _ ⟨_,Heap.get?_push_size _ rfl,rfl,rfl⟩))
  ·rintro l B ⟨f,e,g,t,n,rfl,rfl,j,u,k⟩;have L:e=[]:=by
    cases e with
    |nil=>rfl
    |cons _ _=>simp at n
   subst L;rw[bj]at t;subst t;refine fG (fF (iJ ?_ (by show ((mkZs s.heap.objs.size srcs).map λy=>Value.ref y.it).toArray.toList.length<=fH;simp[a06];exact b2 (a0h hsm))));refine fF (iJ ?_ (by rw[aB];show ((mkZs s.heap.objs.size srcs).map λy=>Value.ref y.it).toArray.toList.length<=fH;simp[a06];exact b2 (a0h hsm)));refine fF ?_;unfold fO.SmallTypes.newRecord;refine g5 ?_ (by simp[sizeOk,fO.SmallTypes.ownedTupleFields,fV]);have J:∀(a c i:Obj),a={ cls:=.type "tuple",data:=.seq ((mkZs s.heap.objs.size srcs).map λy=>Value.ref y.it).toArray }->c={ cls:=.type "tuple",data:=.seq (((mkZs s.heap.objs.size srcs).map λ_=>Value.none)).toArray } ->
     i={ cls:=.type "zip",data:=.fields #[.none,.bool false,.bool false,.ref g.objs.size,.ref (g.push a).objs.size] }->R (.ok (.ret (.ref ((g.push a).push c).objs.size))) { s with heap:=((g.push a).push c).push i }:=λa c i N D v=>by
    have H:(g.push a).objs.size=s.heap.objs.size+srcs.length+1:=by rw[Heap.size_push,j]
    have E:((g.push a).push c).objs.size=s.heap.objs.size+srcs.length+2:=by rw[Heap.size_push,H]
    have G:(((g.push a).push c).push i).get? g.objs.size=some a:=Heap.get?_push_of_some _ (Heap.get?_push_of_some _ (Heap.get?_push_size _ (by rw[N];rfl)));have F:(((g.push a).push c).push i).get? (g.push a).objs.size=some c:=Heap.get?_push_of_some _ (Heap.get?_push_size _ (by rw[D];rfl));have M:(((g.push a).push c).push i).get? ((g.push a).push c).objs.size=some i:=Heap.get?_push_size _ (by rw[v];rfl);have I:∀b o,g.get? b=some o->(((g.push a).push c).push i).get? b=some o:=λb o q=>Heap.get?_push_of_some _ (Heap.get?_push_of_some _ (Heap.get?_push_of_some _ q));rw[H]at F v;rw[E]at M ⊢;rw[j]at G v;refine h _ (λb o q=>I b o (u b o q)) (by rw[Heap.size_push,E]) ⟨M.trans (congrArg some v),G.trans (congrArg some N),⟨(mkZs s.heap.objs.size srcs).map λ_=>Value.none,by rw[aB],F.trans (congrArg some D)⟩,λy d=>(k y d).keep λo q=>I _ o q⟩
   exact fG ⟨_,rfl,J _ _ _ (by simp) (by simp) rfl⟩
  ·exact⟨[],srcs,s.heap,rfl,rfl,by simp[mkZs],rfl,rfl,λ_ _ q=>q,λy d=>by simp[mkZs]at d⟩
def b5u(a b c d:Value):checkTypeCall "zip" ⟨[a,b,c,d],[]⟩=pure ():=by kernel_rfl
def b5v(a b c d:Value):jA "zip.__new__" ⟨[.type "zip",a,b,c,d],[]⟩=pure ():=by kernel_rfl
def b2y(o a b c d:Value):argsOk "object.__init__" ⟨[o,a,b,c,d],[]⟩:=by
 unfold argsOk;rw[signature?_of (n:=['_','_','t','i','n','i','_','_']) (by kernel_rfl) PySem.F.owner_object]
 kernel_rfl
def a50(us:List Value):Prop:=checkTypeCall "zip" ⟨us,[]⟩=pure ()/\jA "zip.__new__" ⟨.type "zip"::us,[]⟩=pure ()/\∀o,argsOk "object.__init__" ⟨o::us,[]⟩
def b8k(a b c d:Value):a50 [a,b,c,d]:=⟨b5u a b c d,b5v a b c d,λo=>b2y o a b c d⟩
def b0w(hk:a50 (srcs.map Value.ref))(hsm:srcs.length<=1000)(hs:∀p∈srcs,HasS p s.heap)
  (h:∀g:Heap,(∀b o,s.heap.get? b=some o->g.get? b=some o)->TnZ (s.heap.objs.size+srcs.length+2) (s.heap.objs.size+srcs.length) (s.heap.objs.size+srcs.length+1) (mkZs s.heap.objs.size srcs) 0 g->Q (.ref (s.heap.objs.size+srcs.length+2)) { s with heap:=g }) :
  wpAny (model P w) A (call (.type "zip") (srcs.map Value.ref)) Q E s:=
 callType_new PySem.F.called_zip (by decide) hk.1 hk.2.1 hk.2.2 PySem.F.entry_zip_new (a8K srcs hsm) ⟨hs,λg c _ a=>⟨⟨_,a.1,rfl⟩,h g c a⟩⟩
noncomputable def ItzP(K:Fg)(ps:List Addr):It:=
  ⟨λi H=>∀y∈ps,∃xs x,SqL K H y xs/\xs[i]?=some x,
   λi H x H'=>∃T vs,H T=none/\x=.ref T/\H'=upd H T (.tup vs)/\vs.length=ps.length/\∀(j:Nat) y xs,ps[j]?=some y->SqL K H y xs->∃v,vs[j]?=some v/\xs[i]?=some v,
   λi H=>(∀y∈ps,∃xs,SqL K H y xs)/\∃y∈ps,∃xs,SqL K H y xs/\xs.length<=i⟩
def b2z:∀(b:Nat)(l:List Addr),(mkZs b l).map (·.l)=l:=by intro z0 y0;induction y0 generalizing z0 with
 |nil=>exact rfl
 |cons p r I0=>simp[mkZs,I0 _]
def a7M{j:Nat}(h:l[j]?=some p):∃y,(mkZs b l)[j]?=some y/\y.l=p:=by
 have:=congrArg (·[j]?) (b2z b l)
 simp only[aK,h]at this;cases e:(mkZs b l)[j]? with
 |none=>rw[e]at this;cases this
 |some y=>rw[e]at this;exact⟨y,rfl,by simpa using this⟩
theorem Turn.imp{P:fK}{w:World}{K:Fg}{tg:Expr}{J J':It}{fp:List Addr}{it:Addr}{tn:Nat->Heap->Prop}(t:Turn P w K tg J fp it tn)(g:∀i H,J'.go i H->J.go i H)(y:∀i H x H',J'.go i H->J.yld i H x H'->J'.yld i H x H')(s:∀i H,J'.stop i H->J.stop i H):Turn P w K tg J' fp it tn where
 mem:=t.mem
 obj:=t.obj
 keep:=t.keep
 item:=λX h1 h2 h3 h4 i pins s σ H E I hf st hg=>fS (t.item X h1 h2 h3 h4 i pins s σ H E I hf st (g i H hg)) (λr s1 ⟨u,e,q⟩=>⟨u,e,fS q (λ_ s2 ⟨x,H',a,b,c,d,e⟩=>⟨x,H',a,b,y i H x H' hg c,d,e⟩) λ_ _ z=>z⟩) λ_ _ z=>z
 done:=λX h1 h2 h3 h4 i pins s' σ H E I hf st hg=>t.done X h1 h2 h3 h4 i pins s' σ H E I hf st (s i H hg)
 self:=t.self
def a2r(h:@Ne Nat a b):a≠b:=h
def c0W(K:Fg)(n:Nat)(ta:TA):TI:=fun σ H R=>ta σ H λvs H1=>∃ps:List Addr,vs=ps.map V.ref/\ps≠[]/\ps.length=n/\(∀p∈ps,∃xs,SqL K H1 p xs)/\R (ItzP K ps) H1
def b5w:∀{ps:List Addr}{us:List Value},Vals (ps.map V.ref) us->us=ps.map Value.ref:=by intro z0;induction z0 with
 |nil=>intro us r;rw[aX]at r;cases r;rfl
 |cons p ps I0=>
  intro us r;cases r with
  |cons r1 r2=>rw[I0 r2,r1];rfl
def b8l(hg:Gl X "zip")(hm:X.mg "zip"=none)(hok:∀us:List Value,us.length=n->a50 us)(hn:n<=1000)(ha:PA X (e::es) ta)
  (he:fL (e::es) X.env=(false,eval e X.env)::fL es X.env) (hpl:(backTo pos (fL es X.env)).any (·.1)=false):PI X (.Tuple elts x1 tpos) (.Call (.Name "zip" p) (e::es) [] pos) (c0W X.K n ta):=by
 intro r s σ H R I h;refine Call_ (a3x I hg hm (show gc "zip"=some (.type "zip") by decide +kernel) (PyProof.Rows.callWith_type1 (thn (ha pos r s σ H _ I h) λus c ⟨vs,H1,t,r1,q1⟩=>?_) he hpl));obtain⟨f,rfl,hne,hl,v,q⟩:=q1;have hsm:f.length<=1000:=by omega
 have e:=b5w r1;subst e;have hnz:mkZs c.heap.objs.size f≠[]:=λz=>hne (cf.mp (by rw[<- a06 c.heap.objs.size f,z];rfl));refine b0w (hok _ (by rw[aB,hl])) hsm (λp B=>?_) λg kp tn=>?_
 ·obtain⟨A,d⟩:=v p B;obtain⟨its,_,h⟩:=SrcV.has (y:=⟨0,p⟩) t d;exact⟨_,h⟩
 ·refine wpAny_pyIter_zip (s:={ c with heap:=g }) tn.1 ?_;have I2:Inv X r σ H1 { c with heap:=g }:=t.kept (t':=c.toks) kp;refine⟨_,_,_,_,H1,rfl,I2,(b2x (K:=X.K) (zs:=mkZs c.heap.objs.size f) ?_ hnz (by rw[a06];exact hsm)).imp ?_ ?_ ?_,tn,λb k=>?_,q⟩
  ·intro X' pins' σ' C s' hK I' u hall;have w:∀y∈mkZs c.heap.objs.size f,∀b,C b=none->b∈(c.heap.objs.size+f.length+2)::(c.heap.objs.size+f.length+1)::(mkZs c.heap.objs.size f).map (·.it)->y.l≠b:=by
    intro y a b k hm z;obtain⟨hb1,hb2,hb3⟩:=a1u a;obtain⟨A,d⟩:=v _ hb3;obtain⟨its,_,hh⟩:=SrcV.has (y:=y) t d
    have:@LT.lt Nat _ y.l c.heap.objs.size:=by
     obtain⟨o,ho,_⟩:=hh;exact Heap.lt_size ho
    rcases aD.mp hm with e |hm
    ·exact absurd (z.trans e) (a2r (by omega))
    rcases aD.mp hm with e |hm
    ·exact absurd (z.trans e) (a2r (by omega))
    obtain⟨x,d,e⟩:=aF.mp hm
    have:=(a1u d).1
    exact absurd (z.trans e.symm) (a2r (by omega))
   refine⟨a8J _ _,a2r (by omega),a2r (by omega),a2r (by omega),λy a=>?_,λy a=>?_⟩
   ·have:=a1u a
    exact⟨a2r (by omega),a2r (by omega),a2r (by omega)⟩
   ·exact⟨w y a _ (u _ (by simp)) (by simp),w y a _ (u _ (by simp)) (by simp),λx d=>w y a _ (u _ (by simp;exact .inr (.inr (.inr ⟨x,d,rfl⟩)))) (by simp;exact .inr (.inr ⟨x,d,rfl⟩))⟩
  ·intro i C hgo y a;exact hgo y.l (a1u a).2.2
  ·rintro i C x H2 _ ⟨T,vs,a1,a2,a3,a4,a5⟩;refine⟨T,vs,a1,a2,a3,by rw[a4,a06],λj p A B d=>?_⟩;obtain⟨y,a,e⟩:=a7M (b:=c.heap.objs.size) B;subst e;exact a5 j y A a d
  ·rintro i C ⟨a1,p,B,A,d,hl⟩;obtain⟨j,hj⟩:=bH B;obtain⟨y,a,e⟩:=a7M (b:=c.heap.objs.size) hj;subst e;exact⟨λy a=>a1 y.l (a1u a).2.2,y,aS a,A,d,hl⟩
  ·have hb':@LE.le Nat _ c.heap.objs.size b:=by
    rcases aD.mp k with rfl |k
    ·omega
    rcases aD.mp k with rfl |k
    ·omega
    rcases aD.mp k with rfl |k
    ·omega
    obtain⟨x,d,rfl⟩:=aF.mp k;exact (a1u d).1
   exact t.fpOk hb' (t.hok.fresh hb')
noncomputable def Itv(K:Fg)(a:Addr)(n:Nat):It:=
 ⟨λi H=>i<n/\∃xs,SqL K H a xs/\xs.length=n,λi H x H'=>H'=H/\∀xs,SqL K H a xs->xs[n-1-i]?=some x,λi _=>i=n⟩
theorem b2A{P:fK}{w:World}{K:Fg}{tg:Expr}(a it:Addr)(n:Nat):Turn P w K tg (Itv K a n) [it] it (λi h=>i<=n/\h.IsRevIter it a ((n:Int)-1-(i:Nat))) where
 mem:=by simp
 obj:=λi h st b hb=>by
  have e:b=it:=by simpa using hb
  subst e;obtain⟨o,e,c,d⟩:=st.2;exact⟨o,e,λv z=>by rw[d]at z;cases z⟩
 keep:=λi h h' st k=>⟨st.1,st.2.at λo e=>k it (by simp) o e⟩
 item:=by
  intro X hP hw hK hc i pins s σ H E I hf st hg;subst hP hw hK;obtain⟨hi,xs,hq,hx⟩:=hg;obtain⟨its,rv,p,hz⟩:=I.list hq;have hx':=aN (show n-1-i<xs.length by omega);obtain⟨u,hu,ru⟩:=rv.get hx';obtain⟨f0,f1,f2,f3,f4,f5⟩:=hf it (by simp);have st':=st.2;have e1:(n:Int)-1-(i:Nat)=((n-1-i:Nat):Int):=by omega
  rw[e1]at st';refine wpAny_pyNext_rev_item st' p.isList (x:=u) (by simpa using hu) λh' s2 sb=>?_;have I1:Inv X pins σ H { s with heap:=h' }:=I.turned (t':=s.toks) (λb o hb e=>(sb.2 b hb).trans e) f0 f1 f3 f4 f5;obtain⟨o,e,c,d⟩:=id s2;refine⟨u,rfl,a8h (s:={ s with heap:=h' }) e c d (by decide) ⟨xs[n-1-i],H,I1,ru,⟨rfl,λys hy=>by rw[I.list_inj hy hq];exact hx'⟩,⟨by omega,?_⟩,λb hb=>(hf b hb).1⟩⟩;have e2:(n:Int)-1-((i+1:Nat):Int)=((n-1-i:Nat):Int)-1:=by omega
  rw[e2];exact s2
 done:=by
  intro X hP hw hK hc i pins s σ H E I hf st hg;subst hP hw hK;obtain⟨f0,f1,f2,f3,f4,f5⟩:=hf it (by simp);have hi:i=n:=hg;have st':=st.2;have e1:(n:Int)-1-(i:Nat)=-1:=by omega
  rw[e1]at st';exact wpAny_pyNext_rev_end (I.ok.hd hc) st' λh' eb=>⟨rfl,I.turned (t':=s.toks) (λb o hb e=>eb b o hb e) f0 f1 f3 f4 f5⟩
 self:=λ_ _ _ _ _ st h=>wpAny_pyIter_revIter st.2 h
def c0X(K:Fg)(ta:TA):TI:=fun σ H R=>ta σ H λvs H1=>∃a xs,vs=[.ref a]/\SqL K H1 a xs/\R (Itv K a xs.length) H1
def b8m(hg:Gl X "reversed")(hm:X.mg "reversed"=none)(ha:PA X [e] ta)
  (he:fL [e] X.env=(false,eval e X.env)::fL [] X.env):PI X tg (.Call (.Name "reversed" p) [e] [] pos) (c0X X.K ta):=by
 intro i s σ H R I h;refine Call_ (a3x I hg hm boot_reversed (PyProof.Rows.callWith_type1 (thn (ha pos i s σ H _ I h) λy c ⟨A,v,f,k,l⟩=>?_) he rfl));obtain⟨a,d,rfl,n,q⟩:=l;obtain⟨u,rfl,r⟩:=a2L k;cases r;obtain⟨j,m,w,z⟩:=f.list n;have x:j.toArray.size=d.length:=by rw[bB,m.length]
 refine call_reversed_list w.isList ?_;rw[x];have g:(c.heap.push (revObj a ((d.length)-1))).IsRevIter c.heap.objs.size a ((d.length)-1-0):=⟨_,Heap.get?_push_size _ rfl,rfl,by simp[revObj]⟩;refine wpAny_pyIter_revIter g ⟨c.heap.objs.size,[c.heap.objs.size],_,_,v,rfl,f.kept λb o e=>Heap.get?_push_of_some _ e,b2A a _ d.length,⟨aW _,g⟩,λb t=>?_,q⟩;have e:b=c.heap.objs.size:=by simp_all
 subst e;exact f.fpOk (aC _) (f.hok.fresh (aC _))
section
variable{X:Cx}
noncomputable def a8L(x y:Str):Int:=match fO.Str.occurrences x y 0 x.length 1 with
 |i::_=>(i:Int)
 |[]=>-1
def b5x:MtR X "str.find" (λx vs H Q=>∃(z y:Str),x=.str z/\vs=[.str y]/\Q (.int (a8L z y)) H):=by
 intro c s σ H x f v g Q I b d h;obtain⟨z,y,rfl,rfl,q⟩:=h;obtain⟨t,rfl⟩:=b;obtain⟨u,rfl,e⟩:=a2L d;obtain⟨a,rfl⟩:=e;exact call_gives PySem.F.slot_str_find (h7 _ _ _) PySem.F.entry_str_find (PySem.F.args_str_find_2 _ _) (gives_str_find z y t a) ⟨.int _,H,I.tok _,⟨_,rfl⟩,q⟩
end
end L2
namespace L3
open PySem PySem.Spec PyProof.Rows L2
section
variable{X:Cx}
def b8n:Z->List Z->Hq->K3->Prop:=λx xs G R=>match x,xs with
 |.str z,[.str y]=>R (.int (a8L z y)) G
 |_,_=>False
def b8o:MtQ X "str.find" b8n:=a6B b5x λx g H Q e=>e.un λw c G R a b d h f=>by
 match w,c,h with
 |.str z,[.str y],h=>
  obtain⟨v,rfl,r⟩:=b.one;exact⟨z,y,a,by rw[r],f _ _ _ _ h (by rw[a0l]) d (.refl _ _)⟩
def b8p(h:R (.int (a8L z y)) G):b8n (.str z) [.str y] G R:=h
noncomputable def putZ(kvs:List (Key×Z))(k:Key)(v:Z):List (Key×Z):=
 if (kvs.any λkv=>decide (kv.1=k))=true then kvs.map (λkv=>if kv.1=k then (kv.1,v) else kv) else kvs++[(k,v)]
theorem b0x{α β:Type}:∀{kvs:List (Key×α)}{us:List (Key×β)},us.map (·.1)=kvs.map (·.1)->(us.any λkv=>decide (kv.1=k))=kvs.any λkv=>decide (kv.1=k)
 |[],[],_=>rfl
 |[],_::_,h=>by simp at h
 |_::_,[],h=>by simp at h
 |p::ps,q::qs,h=>by
  rw[aO,aO]at h;injection h with h1 h2
  rw[cw,cw,b0x h2,h1]
def a5c{K:Fg}(rv:Rep K H w v)(hk:us.map (·.1)=kvs.map (·.1))(hr:Reps K H (kvs.map (·.2)) (us.map (·.2))) :
  (putK us k v).map (·.1)=(putZ kvs k w).map (·.1)/\Reps K H ((putZ kvs k w).map (·.2)) ((putK us k v).map (·.2)):=by
 unfold putK putZ;rw[b0x hk]
 split
 ·have l:∀{d:List _}{f:List _},f.map (·.1)=d.map (·.1)->Reps K H (d.map (·.2)) (f.map (·.2))->((f.map λc=>if c.1=k then (c.1,v) else c).map (·.1)=(d.map λc=>if c.1=k then (c.1,w) else c).map (·.1)/\Reps K H ((d.map λc=>if c.1=k then (c.1,w) else c).map (·.2)) ((f.map λc=>if c.1=k then (c.1,v) else c).map (·.2))):=by
   intro d
   induction d with
   |nil=>intro f g h;cases f with
    |nil=>exact⟨rfl,.nil⟩
    |cons _ _=>simp at g
   |cons p ps ih=>
    intro f g h;cases f with
    |nil=>simp at g
    |cons q qs=>
     rw[aO,aO]at g h;injection g with h3 h4
     obtain⟨a,b,e,j,m⟩:=h;injection e with e1 e2
     subst e1 e2;have i:=ih h4 m;simp only[aO]
     by_cases e:p.1=k
     ·rw[if_pos e,if_pos (h3.trans e)];exact⟨by rw[i.1,h3],.cons rv i.2⟩
     ·rw[if_neg e,if_neg (λz=>e (h3.symm.trans z))];exact⟨by rw[i.1,h3],.cons j i.2⟩
  exact l hk hr
 ·rw[aP,aP,hk,aP,aP];exact⟨rfl,hr.append (.cons rv .nil)⟩
noncomputable def keyZ:Z->Option Key
 |.non=>some (.inl none)
 |.int i=>some (.inl (some i))
 |.str x=>some (.inr x)
 |_=>none
def b8q:Z3:=λo i v G R=>match o with
 |.ref p=>∃kvs k,G p=some (.dK kvs)/\keyZ i=some k/\kvs.length<fH/\R (put G p (.dK (putZ kvs k v)))
 |_=>False
def a1v{K:Fg}(h:keyZ i=some k)(r:Rep K H i v):v=kV k:=by
 cases i with
 |non=>rw[a0A]at r;cases h;exact r
 |int j=>rw[a0l]at r;cases h;exact r
 |str j=>rw[a0s]at r;cases h;exact r
 |_=>cases h
def b2B(hu:X.A.units+66<cLine):PSet X (λo i v H Q=>∃a H',o=.ref a/\DPut H a i v H'/\Q H'):=by
 intro e s σ H o i v j l u Q I d f b h;obtain⟨a,H',rfl,g,q⟩:=h;cases (d);exact a9O (by lia) I g f b λk c=>⟨H',c,q⟩
def b0y{α β:Type}{kvs:List (Key×α)}{us:List (Key×β)}(h:us.map (·.1)=kvs.map (·.1)):us.length=kvs.length:=by
 rw[<- aB,h,aB]
def b8r(hu:X.A.units+66<cLine):SetQ X b8q:=b3B (b2B hu) λo i v H Q r=>r.un λa b w G R g q f d h u=>by
 cases a with
 |ref p=>
  obtain⟨j,k,e,n,t,h⟩:=h;obtain⟨x,c,m,s⟩:=d _ _ e;have l:=a5c (k:=k) f m s;refine⟨p,_,g,?_,u _ _ h (d.set (.dK c) ⟨_,a0j,l.1,l.2.mono (.dK c)⟩) (.dK c)⟩;rw[a1v n q];exact DPut.k c (b0y m▸t)
 |_=>exact aH h
def b8s(e:G p=some (.dK kvs))(a:keyZ i=some k)(z:kvs.length<fH)(h:Rg (put G p (.dK (putZ kvs k w)))):b8q (.ref p) i w G Rg:=⟨kvs,k,e,a,z,h⟩
variable{tg:Expr}{t:A3}
def iRev(t:A3):I3:=fun σ G R=>t σ G λws G1=>∃a xs,ws=[.ref a]/\G1 a=some (.lst xs)/\R xs.reverse (λG=>G a=some (.lst xs)) G1
def b0z{K:Fg}:a4i K ws.reverse (λG=>G a=some (.lst ws)) (Itv K a ws.length) H0:=λi G H g t l m=>by
 obtain⟨f,e,d⟩:=g a _ l;rw[e8]at m ⊢;refine⟨λh=>h,λw c=>?_⟩;have b:i<ws.length:=by
  have:=(aI.mp c).1
  rwa [e8]at this
 rw[List.getElem?_reverse b]at c;obtain⟨v,j,k⟩:=d.get c;refine⟨⟨b,f,SqL.of e,d.length.symm⟩,?_⟩;rintro x n ⟨rfl,y⟩
 have:=y f (SqL.of e)
 rw[j]at this;cases this;exact⟨k,g,.refl _ _⟩
def a6O(hg:Gl X "reversed")(hm:X.mg "reversed"=none)(ha:QA X [e] t)
  (he:fL [e] X.env=(false,eval e X.env)::fL [] X.env:=by rfl):QI X tg (.Call (.Name "reversed" p) [e] [] pos) (iRev t):=a5L (b8m hg hm ha.p he) fun τ H R2 i=>i.un fun σ G R k hg h o=>by
 refine⟨σ,G,_,k,hg,h,λws G1 vs H1 ⟨a,xs,e,f,l⟩ g b j=>?_⟩;subst e;obtain⟨v,rfl,r⟩:=g.one;subst r;obtain⟨m,n,d⟩:=b a _ f;exact⟨a,m,rfl,SqL.of n,by rw[<- d.length];exact o _ _ _ _ _ l b0z b j⟩
noncomputable def srcZ(G:Hq):Z->Option (List Z)
 |.ref a=>match G a with
  |some (.lst ws)=>some ws
  |_=>none
 |_=>none
noncomputable def zipZ:List (List Z)->List Z
 |[]=>[]
 |[xs]=>xs.map λx=>.tup [x]
 |xs::rest=>List.zipWith (λx r=>match r with |.tup ws=>.tup (x::ws) |r=>r) xs (zipZ rest)
def iZip(n:Nat)(t:A3):I3:=fun σ G R=>t σ G λws G1=>∃xss:List (List Z),ws.map (srcZ G1)=xss.map some/\xss≠[]/\ws.length=n/\R (zipZ xss) (λG=>ws.map (srcZ G)=xss.map some) G1
theorem a1S:∀(xss:List (List Z)),xss≠[]->∀(i:Nat)(w:Z),(zipZ xss)[i]?=some w↔∃vs:List Z,w=.tup vs/\xss.map (·[i]?)=vs.map some
 |[],h,_,_=>absurd rfl h
 |[xs],_,i,w=>by
  simp only[zipZ,aK,aO,aX]
  constructor
  ·intro h;cases e:xs[i]? with
   |none=>rw[e]at h;cases h
   |some x=>rw[e]at h;cases h;exact⟨[x],rfl,rfl⟩
  ·rintro⟨a,rfl,h⟩
   match a,h with
   |[v],h=>rw[aO,aX]at h;injection h with h _;rw[h];rfl
   |[],h=>cases h
   |_::_::_,h=>simp at h
 |xs::ys::rest,_,i,w=>by
  have b:=a1S (ys::rest) (by simp)
  show (List.zipWith _ xs _)[i]?=some w↔_
  rw[List.getElem?_zipWith]
  constructor
  ·intro h;cases e1:xs[i]? with
   |none=>rw[e1]at h;cases h
   |some x=>
    cases e2:(zipZ (ys::rest))[i]? with
    |none=>rw[e1,e2]at h;cases h
    |some r=>
     rw[e1,e2]at h;obtain⟨a,rfl,c⟩:=(b i r).mp e2;cases h;exact⟨x::a,rfl,by rw[aO,c,e1];rfl⟩
  ·rintro⟨a,rfl,h⟩
   match a,h with
   |[],h=>simp at h
   |v::a,h=>
    rw[aO,aO]at h;injection h with h1 h2
    have:=(b i _).mpr ⟨a,rfl,h2⟩
    rw[h1,this]
def a7N{K:Fg}(h:srcZ G w=some ws)(r:Rep K H w v)(hg:RH K G H):∃p,v=.ref p/\∃vs,SqL K H p vs/\Reps K H ws vs:=by
 cases w with
 |ref a=>
  cases q:G a with
  |none=>simp[srcZ,q]at h
  |some o=>
   cases o with
   |lst us=>
    simp[srcZ,q]at h;subst h;obtain⟨b,d,c⟩:=hg _ _ q;exact⟨a,r,b,SqL.of d,c⟩
   |_=>simp[srcZ,q]at h
 |_=>cases h
theorem a7O{K:Fg}(hg:RH K G H):∀{ws:List Z}{vs:List V}{xss:List (List Z)},ws.map (srcZ G)=xss.map some->Reps K H ws vs->∃ps:List Addr,vs=ps.map V.ref/\ps.length=ws.length/\∀p∈ps,∃us,SqL K H p us
 |[],vs,xss,_,r=>by rw[a0m]at r;subst r;exact⟨[],rfl,rfl,λp h=>by simp at h⟩
 |w::ws,vs,[],h,_=>by simp at h
 |w::ws,vs,xs::xss,h,r=>by
  injection h with h1 h2
  obtain⟨v,j,rfl,d,g⟩:=r;obtain⟨p,rfl,e,c,_⟩:=a7N h1 d hg;obtain⟨b,rfl,f,i⟩:=a7O hg h2 g;refine⟨p::b,rfl,by simp[f],λa h=>?_⟩;rcases aD.mp h with rfl |h
  ·grind
  ·simp_all
def b0A{K:Fg}(h:srcZ G w=some ws)(r:Rep K H0 w (.ref p))(t:TK K H0 H)(hg:RH K G H):∃vs,SqL K H p vs/\Reps K H ws vs:=by
 obtain⟨q,e,a⟩:=a7N h (r.mono t) hg;cases e;exact a
theorem a1J{α:Type}{β:Type}{f:α->Option β}:∀{l:List α}{m:List β}{j:Nat}{x:α},l.map f=m.map some->l[j]?=some x->∃y,m[j]?=some y/\f x=some y
 |[],_,_,_,_,e=>by simp at e
 |a::l,[],_,_,h,_=>by simp at h
 |a::l,b::m,j,x,h,e=>by
  injection h with h1 h2
  cases j with
  |zero=>simp at e;subst e;exact⟨b,rfl,h1⟩
  |succ j=>simpa using a1J h2 (by simp_all)
def b0B{K:Fg}(hne:xss≠[])(hv:vs=ps.map V.ref)(hl:ps.length=ws.length)(rs:Reps K H0 ws vs) :
  a4i K (zipZ xss) (λG=>ws.map (srcZ G)=xss.map some) (ItzP K ps) H0:=λi G H R t M hi=>by
 have A:xss.length=ws.length:=by rw[<- aB (as:=ws),M,aB]
 have o:∀j p,ps[j]?=some p->∃b a,xss[j]?=some b/\SqL K H p a/\Reps K H b a:=λj p e=>by
  have d:j<ws.length:=hl▸(aI.mp e).1;have X:=aN d;obtain⟨b,k,n⟩:=a1J M X;obtain⟨v,m,s⟩:=rs.get X;rw[hv,aK,e]at m;cases m;obtain⟨a,r,E⟩:=b0A n s t R;exact⟨b,a,k,r,E⟩
 refine⟨λh=>⟨λp F=>?_,?_⟩,λw hw=>?_⟩
 ·obtain⟨j,d⟩:=bH F;obtain⟨b,a,_,k,_⟩:=o j p d;exact⟨a,k⟩
 ·refine Classical.byContradiction λno=>?_;have all:∀b∈xss,i<b.length:=λb J=>by
   obtain⟨j,d⟩:=bH J;have D:j<ps.length:=by rw[hl,<- A];exact (aI.mp d).1
   obtain⟨xs',a,k,n,m⟩:=o j _ (aN D);rw[d]at k;cases k;refine Classical.byContradiction λc=>no ⟨_,bO D,a,n,?_⟩;rw[<- m.length]
   lia
  have:(zipZ xss)[i]?=some (.tup (xss.map λb=>b.getD i .non)):=(a1S xss hne i _).mpr ⟨_,rfl,by
   rw[aU];refine cm λb J=>?_
   have:=all b J
   simp[aN this]⟩
  have:=(aI.mp this).1
  lia
 ·obtain⟨g,rfl,hz⟩:=(a1S xss hne i w).mp hw;have U:g.length=ps.length:=by rw[<- aB,<- hz,aB,A,hl]
  have C:∀j b,xss[j]?=some b->∃z,g[j]?=some z/\b[i]?=some z:=λj b d=>a1J (f:=λl:List Z=>l[i]?) hz d;refine⟨λp F=>?_,?_⟩
  ·obtain⟨j,d⟩:=bH F;obtain⟨b,a,I,k,n⟩:=o j p d;obtain⟨z,m,s⟩:=C j b I;obtain⟨v,r,_⟩:=n.get s;exact⟨a,v,k,r⟩
  ·rintro x H' ⟨T,a,N,rfl,rfl,B,hat⟩;have tT:TK K H (upd H T (.tup a)):=.new N;refine⟨?_,R.hid N,tT⟩;refine⟨T,a,rfl,a0j,?_⟩;have go:∀{g:List Z}{a:List V},g.length=a.length->(∀(j:Nat) z u,g[j]?=some z->a[j]?=some u->Rep K H z u)->Reps K H g a:=by
    intro g
    induction g with
    |nil=>intro a h _;cases a with
     |nil=>exact .nil
     |cons _ _=>simp at h
    |cons z g ih=>intro a h q;cases a with
     |nil=>simp at h
     |cons u a=>exact .cons (q 0 z u rfl rfl) (ih (by simp_all) λj z u L y=>q (j+1) z u (by simpa using L) (by simpa using y))
   refine (go (by grind) λj z u L y=>?_).mono tT;have d:j<ps.length:=B▸(aI.mp y).1;obtain⟨b,Q,I,k,n⟩:=o j _ (aN d);obtain⟨z',m,s⟩:=C j b I;rw[L]at m;cases m;obtain⟨v,r,E⟩:=n.get s;obtain⟨u',S,Y⟩:=hat j _ Q (aN d) k;rw[y]at S;cases S;rw[r]at Y;cases Y;exact E
def b5y(hok:∀us:List Value,us.length=n->a50 us)(hn:n<=1000)(hg:Gl X "zip")(hm:X.mg "zip"=none)(ha:QA X (e::es) t)
  (he:fL (e::es) X.env=(false,eval e X.env)::fL es X.env:=by rfl) (hpl:(backTo pos (fL es X.env)).any (·.1)=false:=by rfl):QI X (.Tuple elts x1 tpos) (.Call (.Name "zip" p) (e::es) [] pos) (iZip n t):=a5L (b8l hg hm hok hn ha.p he hpl) fun τ H R2 a=>a.un fun σ G R o hg h r=>by
 refine⟨σ,G,_,o,hg,h,λws G1 vs H1 ⟨c,a,d,l,s⟩ j b q=>?_⟩;obtain⟨m,e,g,ha⟩:=a7O b a j;refine⟨m,e,?_,by rw[g,l],ha,r _ _ _ _ _ s (b0B d e g j) b q⟩;rintro rfl
 have:c.length=0:=by rw[<- aB,<- a,aB,<- g];rfl
 exact d (cf.mp this)
def zok4(us:List Value)(h:us.length=4):a50 us:=by
 cases us with
 |nil=>cases h
 |cons a us=>cases us with
  |nil=>cases h
  |cons b us=>cases us with
   |nil=>cases h
   |cons c us=>cases us with
    |nil=>cases h
    |cons d us=>cases us with
     |nil=>exact b8k a b c d
     |cons e us=>cases h
def b8t(h:t σ G λws G1=>∃a xs,ws=[.ref a]/\G1 a=some (.lst xs)/\Ri xs.reverse (λG=>G a=some (.lst xs)) G1):iRev t σ G Ri:=h
def b8u(h:t σ G λws G1=>∃xss:List (List Z),ws.map (srcZ G1)=xss.map some/\xss≠[]/\ws.length=n/\Ri (zipZ xss) (λG=>ws.map (srcZ G)=xss.map some) G1):iZip n t σ G Ri:=h
end
noncomputable def putQ(f:Str)(y:Z):List (Str×Z)->List (Str×Z)
 |[]=>[(f,y)]
 | (g,x)::r=>if g=f then (g,y)::r else (g,x)::putQ f y r
section
variable{K:Fg}{H:Hp}
theorem a2s:∀{fs:List (Str×Z)}{gs:List (Str×V)},gs.map (·.1)=fs.map (·.1)->Reps K H (fs.map (·.2)) (gs.map (·.2))->(fs.lookup f=none->gs.lookup f=none)/\∀z,fs.lookup f=some z->∃v,gs.lookup f=some v/\Rep K H z v
 |[],[],_,_=>⟨λ_=>rfl,λ_ h=>by cases h⟩
 |[],_::_,h,_=>by simp at h
 |_::_,[],h,_=>by simp at h
 | (k,x)::fs,(k',v)::gs,h,r=>by
  simp at h;obtain⟨rfl,h⟩:=h;obtain⟨i,g,e,d,b⟩:=r;obtain⟨rfl,rfl⟩:=cb.inj e;rw[bW,bW];cases c:f==k' with
  |true=>
   refine⟨λe=>?_,λz e=>?_⟩
   ·cases e
   ·simp_all
  |false=>exact (a2s (f:=f) h b)
theorem a6P(ry:Rep K H y u):∀{fs:List (Str×Z)}{gs:List (Str×V)},gs.map (·.1)=fs.map (·.1)->Reps K H (fs.map (·.2)) (gs.map (·.2))->(putF f u gs).map (·.1)=(putQ f y fs).map (·.1)/\Reps K H ((putQ f y fs).map (·.2)) ((putF f u gs).map (·.2))
 |[],[],_,_=>⟨rfl,by show Reps K H [y] [u];rw[a0K];exact⟨u,[],rfl,ry,by rw[a0m]⟩⟩
 |[],_::_,h,_=>by simp at h
 |_::_,[],h,_=>by simp at h
 | (k,x)::fs,(k',v)::gs,h,r=>by
  simp at h;obtain⟨rfl,h⟩:=h;obtain⟨i,g,e,d,b⟩:=r;obtain⟨rfl,rfl⟩:=cb.inj e;have a:=a6P (f:=f) ry h b;unfold putQ putF
  by_cases c:k'=f
  ·rw[if_pos c,if_pos c];exact⟨by simp[h],by show Reps K H (y::fs.map _) _;rw[a0K];exact⟨u,_,rfl,ry,b⟩⟩
  ·rw[if_neg c,if_neg c];exact⟨by simp[a.1],by show Reps K H (x::(putQ f y fs).map _) _;rw[a0K];exact⟨v,_,rfl,d,a.2⟩⟩
end
section
variable{X:Cx}{C f:Addr}{fd:f8}{ps:List Str}{sp:P3}{k:Nat}{a m x:Str}{p pos pos' tpos apos:Pos}{e o value:Expr}{es:List Expr}{te to:E3}{t:A3}
def uFld(C:Addr)(te:E3)(a:Str):E3:=fun σ G R=>te σ G λx G1=>∃q dx fs v,x=.ref q/\G1 q=some (.ins C dx fs)/\fs.lookup a=some v/\R v G1
def a3f(hc:Cls X.K C)(hn:NoAttr X.K C a)(he:QE X e te)(hb:iB e a X.env (eval e X.env)=eval e X.env:=by rfl):QE X (.Attribute e a pos) (uFld C te a):=⟨a0X (b60 he.p hb) fun τ H Q x=>x.un fun σ G R s t h k=>
 ⟨σ,G,_,s,t,h,by
  rintro w D v B ⟨q,r,E,z,i,A,j,d⟩ c b l;subst i;obtain⟨u,m,g,y⟩:=b _ _ A;obtain⟨o,f,n⟩:=(a2s g y).2 _ j;exact⟨q,C,r,u,o,c,m,hc,hn,f,k _ _ _ _ d n b l⟩⟩⟩
def b0C(C:Addr)(to te:E3)(a:Str):X3:=λnx _ _ _ σ G=>te σ G λy G1=>to σ G1 λx G2=>∃q dx fs,x=.ref q/\G2 q=some (.ins C dx fs)/\fs.length<1000/\nx σ (put G2 q (.ins C dx (putQ a y fs)))
def b8v(hc:Cls X.K C)(hn:NoAttr X.K C a)(ho:QE X o to)(hv:QE X value te)(hs:gI value (some (.Attribute o a pos')) pos.line X.env=pure false:=by rfl):QS X (.Assign [.Attribute o a pos'] value pos) (b0C C to te a):=⟨a1Y (b61 ho.p hv.p hs) λD τ H J=>J.un fun σ G nx rt bk ct hs x h F u2 u3 u4=>
 ⟨σ,G,_,hs,x,h,λy A u H1 E t r e=>⟨σ,A,_,hs.mono e,r,E,by
  rintro w G2 v i ⟨q,j,fs,z,ea,hl,B⟩ k d g;subst z;obtain⟨n,l,m,I⟩:=d _ _ ea;have b:TK X.K i (L2.upd i q (.ins C j (putF a u n))):=.ins l;have s:=a6P (f:=a) (t.mono g) m I;exact⟨q,C,j,n,k,l,hc,hn,by have:=congrArg bf m;simp at this;lia,F _ _ _ _ B (hs.mono ((e.trans g).trans b)) (d.set b ⟨_,a0j,s.1,s.2.mono b⟩) ((e.trans g).trans b)⟩⟩⟩⟩
def b0D(C:Addr)(to te:E3)(r:R3)(a:Str):X3:=λnx _ _ _ σ G=>to σ G λx G1=>∃q dx fs v,x=.ref q/\G1 q=some (.ins C dx fs)/\fs.lookup a=some v/\te σ G1 λy G2=>r v y G2 λz G3=>∃dx' fs',G3 q=some (.ins C dx' fs')/\fs'.length<1000/\nx σ (put G3 q (.ins C dx' (putQ a z fs')))
def b2C(hc:Cls X.K C)(hn:NoAttr X.K C a)(ho:QE X o to)(hv:QE X value te)(hop:OpQ X (gK op) r):QS X (.AugAssign (.Attribute o a tpos) op value pos) (b0D C to te r a):=⟨a1Y (a9y ho.p hv.p hop) λD τ H hx=>hx.un fun σ G nx rt bk ct j Q h u1 u2 u3 u4=>
 ⟨σ,G,_,j,Q,h,by
  rintro w R v H1 ⟨q,I,fs,z,ew,J,S,hq⟩ l e s;subst ew;obtain⟨Y,e1,e2,M⟩:=e _ _ J;obtain⟨v',L,r'⟩:=(a2s e2 M).2 _ S;refine⟨q,C,I,Y,v',l,e1,hc,hn,L,σ,R,_,j.mono s,e,hq,λy T u H2 U V t F=>⟨z,y,T,_,r'.mono F,V,t,U,λz2 G3 v3 n ⟨g,fs',x,hl,B⟩ N b W=>?_⟩⟩;obtain⟨c,d,i,m⟩:=b _ _ x;have k:TK X.K n (L2.upd n q (.ins C g (putF a v3 c))):=.ins d;have A:=a6P (f:=a) N i m;have E:=((s.trans F).trans W).trans k;exact⟨g,c,d,by have:=congrArg bf i;simp at this;lia,u1 _ _ _ _ B (j.mono E) (b.set k ⟨_,a0j,A.1,A.2.mono k⟩) E⟩⟩⟩
def a8M(C:Addr)(m:Str)(sp:P3)(to:E3)(t:A3):E3:=fun σ G R=>to σ G λx G1=>∃q dx fs,x=.ref q/\G1 q=some (.ins C dx fs)/\fs.lookup m=none/\t σ G1 λws G2=>sp (.ref q::ws) G2 R
def b2D(h:low X.K (a8M C m sp to t) τ H Q)(h1:o'=low X.K to)(h2:t'=lowA X.K t):b4B C m (lowP X.K sp) [] E o' t' τ H Q:=by
 subst h1 h2;obtain⟨σ,G,R,f,s,h,D⟩:=h;refine⟨σ,G,_,f,s,h,λw B v H1 ⟨q,r,fs,y,n,A,x⟩ b a e=>?_⟩;subst y;obtain⟨u,g,z,p⟩:=a _ _ n;refine⟨q,r,u,b,g,(a2s z p).1 A,σ,B,_,f.mono e,a,x,λj o k H2 h2 i c l=>?_⟩;exact⟨.ref q::j,o,R,by rw[bj,a0K];exact⟨v,k,rfl,by rw[a0x];exact b,i⟩,c,h2,D.mono (e.trans l)⟩
def b8w(ho:QE X o to)(c:Cls X.K C)(hm:Meth X.K C m f)(F:FnOk X.prog X.w X.K X.mg X.base CX0 k f fd ps (lowP X.K sp))(hr:Room k X.A)(hb:Binds X.K fd ps [])(ha:QA X (e::es) t)
  (hst:fL (e::es) X.env=(false,eval e X.env)::fL es X.env) (hpl:(backTo pos (fL es X.env)).any (·.1)=false)
  (ht:eval (.Call (.Attribute o m apos) (e::es) [] pos) X.env=(do
   let ov <- eval o X.env
   gx apos.atName
   let (f,first) <- f6 [ov] (gU ov m pl)
   ij pos f first (backTo pos (fL (e::es) X.env)) (gZ pos (g0 [] X.env)))):QE X (.Call (.Attribute o m apos) (e::es) [] pos) (a8M C m sp to t):=
 ⟨a0X (b4D ho.p c hm F hr hb .nil b1Z ha.p hst hpl ht) λ_ _ _ h=>b2D h rfl rfl⟩
def b5z(ho:QE X o to)(c:Cls X.K C)(hm:Meth X.K C m f)(F:FnOk X.prog X.w X.K X.mg X.base CX0 k f fd ps (lowP X.K sp))(hr:Room k X.A)(hb:Binds X.K fd ps [])
  (ht:eval (.Call (.Attribute o m apos) [] [] pos) X.env=(do
   let ov <- eval o X.env
   gx apos.atName
   let (f,first) <- f6 [ov] (gU ov m pl)
   ij pos f first (backTo pos (fL [] X.env)) (gZ pos (g0 [] X.env)))):QE X (.Call (.Attribute o m apos) [] [] pos) (a8M C m sp to uNil):=
 ⟨a0X (b1R ho.p c hm F hr hb .nil b1Z ht) fun τ H Q z=>z.un fun σ G R r u h j=>by
  refine⟨σ,G,_,r,u,h,λw s v D ⟨q,e,E,i,x,y,l⟩ b a n=>?_⟩;subst i;obtain⟨t,d,B,g⟩:=a _ _ x;exact⟨q,e,t,b,d,(a2s B g).1 y,[.ref q],s,R,by rw[bj,a0K];exact⟨v,[],rfl,by rw[a0x];exact b,by rw[a0m]⟩,a,l,j.mono n⟩⟩
def b5A(C:Addr)(sp:P3)(t:A3):E3:=fun σ G R=>t σ G λws G1=>∀q dx,G1 q=none->sp (.ref q::ws) (put G1 q (.ins C dx [])) λv G2=>v=.non/\R (.ref q) G2
def made(h1:∀q dx,G1 q=none->sp (.ref q::ws) (put G1 q (.ins C dx [])) λv G2=>v=.non/\R (.ref q) G2)(rs:Reps X.K H1 ws vs)(hg1:RH X.K G1 H1)(up:UpV X.K H1 R Q)(q dx:Addr)(n1:H1 q=none)(n2:H1 dx=none)(ne:dx≠q) :
  lowP X.K sp (.ref q::(vs++[])) (L2.upd (L2.upd H1 dx (.own q)) q (.ins C dx [])) (λv H2=>v=.non/\Q (.ref q) H2) E:=by
 have a:L2.upd H1 dx (.own q) q=none:=(a0g (Ne.symm ne))▸n1;have d:TK X.K H1 (L2.upd _ q (.ins C dx [])):=(TK.new n2).trans (TK.new a);refine⟨.ref q::ws,put G1 q (.ins C dx []),_,?_,?_,h1 q dx (hg1.out n1),?_⟩
 ·rw[bj,a0K];exact⟨_,vs,rfl,by rw[a0x],rs.mono d⟩
 ·exact (hg1.hid n2).set (TK.new a) ⟨[],a0j,rfl,by rw[aX,a0m];rfl⟩
 ·rintro w h v i ⟨f,g⟩ b c e;subst f;exact⟨b,up _ _ _ _ g (by rw[a0x]) c (d.trans e)⟩
def b5B(M:Mk X.K C f)(F:FnOk X.prog X.w X.K X.mg X.base CX0 k f fd ps (lowP X.K sp))(hr:Room (k+1) X.A)(hg:Gl X x)(hm:X.mg x=some (.ref C))(hb:Binds X.K fd ps [])
  (hdb:(x==("__debug__":Str))=false):QE X (.Call (.Name x p) [] [] pos) (b5A C sp uNil):=
 ⟨a0X (b1T M F hr hg hm hb .nil b1Z hdb) fun τ H Q ⟨σ,G,R,hs,hg,h,g⟩ q c d e b=>made h (by rw[a0m]) hg g q c d e b⟩
variable{σ:S3}{G:Hq}{R:K3}{nx bk ct:C3}{rt:K3}{q dx:Addr}{fs:List (Str×Z)}{v:Z}{Ra:List Z->Hq->Prop}
def b8x(h:te σ G λx G1=>∃q dx fs v,x=.ref q/\G1 q=some (.ins C dx fs)/\fs.lookup a=some v/\R v G1):uFld C te a σ G R:=h
def b8y(h:te σ G λy G1=>to σ G1 λx G2=>∃q dx fs,x=.ref q/\G2 q=some (.ins C dx fs)/\fs.length<1000/\nx σ (put G2 q (.ins C dx (putQ a y fs)))):b0C C to te a nx rt bk ct σ G:=h
def b5C(h:to σ G λx G1=>∃q dx fs,x=.ref q/\G1 q=some (.ins C dx fs)/\fs.lookup m=none/\t σ G1 λws G2=>sp (.ref q::ws) G2 R):a8M C m sp to t σ G R:=h
def b5D(h:t σ G λws G1=>∀q dx,G1 q=none->sp (.ref q::ws) (put G1 q (.ins C dx [])) λv G2=>v=.non/\R (.ref q) G2):b5A C sp t σ G R:=h
def b8z(h:to σ G λx G1=>∃q dx fs v,x=.ref q/\G1 q=some (.ins C dx fs)/\fs.lookup a=some v/\te σ G1 λy G2=>r v y G2 λz G3=>∃dx' fs',G3 q=some (.ins C dx' fs')/\fs'.length<1000/\nx σ (put G3 q (.ins C dx' (putQ a z fs')))):b0D C to te r a nx rt bk ct σ G:=h
end
end L3
namespace L2
open PySem PySem.Spec PyProof.Rows
section
variable{X:Cx}{pins:List (Addr×Obj)}{σ:St}{H:Hp}{s:Shared}{a:Addr}{kvs:List (Key×V)}{k:Key}{d:V}{u r:Value}{A:Around}{E:Value->Shared->Prop}
def b8A(I:Inv X pins σ H s)(e:H a=some (.dK kvs))(ry:RelV (kV k) u)(rd:RelV d r)(hz:kvs.length<fH)
  (h1:∀v w' s',valV kvs k=some v->Inv X pins σ H s'->RelV v w'->Q w' s') (h2:valV kvs k=none->∀s',Inv X pins σ (upd H a (.dK (putK kvs k d))) s'->Q r s') :
  wpAny (model X.prog X.w) A (call (.builtin "dict.setdefault") [.ref a,u,r]) Q E s:=by
 obtain⟨z,f,n,b,h⟩:=b10 I.hok e;have l:(putK kvs k d).length<=sizeLine:=by have:=a05 kvs k d;lia
 refine iF PySem.F.slot_dict_setdefault h.typeIs PySem.F.entry_dict_setdefault (PySem.F.args_dict_setdefault_3 _ _ _) (kt_meets_setdefault _ a (a4g ry) f r) ⟨n,h,by rw[<- b.length];exact z,λm i=>?_,λx p c o=>?_⟩
 ·cases hv:valV kvs k with
  |none=>
   have:=(b.val k).isSome_eq
   rw[hv,i]at this;cases this
  |some v=>
   have g:=b.val k;rw[hv,i]at g;exact h1 v m _ hv (I.tok _) g
 ·have j:valV kvs k=none:=by
   have:=(b.val k).isSome_eq
   rw[x]at this;cases hv:valV kvs k with
   |none=>rfl
   |some v=>rw[hv]at this;cases this
  have t:∃q,p.get? a=some q:=by obtain⟨q,_,_,hq,_⟩:=c;exact⟨q,hq⟩
  exact h2 j _ (a6z I (e▸True.intro) o t (b3x l f (b.put k rd) c))
end
section
variable{X:Cx}
def b5E(hu:X.A.units+66<cLine):MtR X "dict.get" (λx vs H Q=>∃a y d o,x=.ref a/\vs=[y,d]/\DGet H a y o/\Q (o.getD d) H):=by
 intro f s σ H x m v t Q I c k ⟨a,y,d,o,h,e,g,q⟩;subst h e;cases c;obtain⟨u,r,rfl,j,l⟩:=a9t k;exact b7d (by lia) I g j l λn p i b=>⟨_,H,i,b,q⟩
def b2E(hu:X.A.units+66<cLine):MtR X "dict.get" (λx vs H Q=>∃a y o,x=.ref a/\vs=[y]/\DGet H a y o/\Q (o.getD .non) H):=by
 intro i s σ H x m v n Q I f e ⟨a,y,o,c,d,g,q⟩;subst c d;cases f;obtain⟨u,rfl,h⟩:=a2L e;exact b7c (by lia) I g h λl k j b=>⟨_,H,j,b,q⟩
def b5F:MtR X "dict.setdefault" (λx vs H Q=>∃a kvs k d,x=.ref a/\vs=[kV k,d]/\H a=some (.dK kvs)/\kvs.length<fH/\(∀v,valV kvs k=some v->Q v H)/\(valV kvs k=none->Q d (upd H a (.dK (putK kvs k d))))):=by
 intro m s σ H x z v B Q I i p ⟨a,y,k,d,n,j,e,q,g,t⟩;subst n j;cases i;obtain⟨u,r,rfl,o,f⟩:=a9t p;exact b8A I e o f q (λv A w l b c=>⟨v,H,b,c,g v l⟩) λh w b=>⟨d,_,b,f,t h⟩
def b5G:IxR X (λx y H Q=>∃a kvs k v,x=.ref a/\y=kV k/\H a=some (.dK kvs)/\valV kvs k=some v/\Q v H):=by
 intro h i b s σ H x y v u Q I n B ⟨a,D,k,w,p,m,e,l,q⟩ t;subst p m;cases n;obtain⟨z,E,j,g,c⟩:=b10 I.hok e;obtain⟨d,A,f⟩:=RelO.some_of (l▸g.val k);exact iU c.typeIs PySem.F.slot_dict_getitem.lookup (wpAny_getItem_of (a4g B) c.mapOf A ⟨rfl,w,H,I.tok _,f,q⟩) t
def b8B(hu:X.A.units+66<cLine):OpR X (fN .In) (λx y H Q=>∃a o,y=.ref a/\DGet H a x o/\Q (.bl o.isSome) H):=by
 intro f s σ H x y u v Q I e b ⟨a,o,d,g,q⟩;subst d;cases b;exact d_in (by lia) I g e λh c=>⟨.bl o.isSome,H,c,rfl,q⟩
def b0E(hu:X.A.units+66<cLine):OpR X (fN .NotIn) (λx y H Q=>∃a o,y=.ref a/\DGet H a x o/\Q (.bl (!o.isSome)) H):=by
 intro d s σ H x y u v Q I c f ⟨a,o,b,g,q⟩;subst b;cases f;exact b4J (by lia) I g c λh e=>⟨.bl _,H,e,rfl,q⟩
end
end L2
namespace L3
open PySem PySem.Spec PyProof.Rows L2
noncomputable def valZ(kvs:List (Key×Z))(k:Key):Option Z:=(kvs.find? λkv=>decide (kv.1=k)).map (·.2)
theorem a0G{K:Fg}:∀{kvs:List (Key×Z)}{us:List (Key×V)},us.map (·.1)=kvs.map (·.1)->Reps K H (kvs.map (·.2)) (us.map (·.2))->(valZ kvs k=none->valV us k=none)/\∀z,valZ kvs k=some z->∃v,valV us k=some v/\Rep K H z v
 |[],[],_,_=>⟨λ_=>rfl,λ_ h=>by cases h⟩
 |[],_::_,h,_=>by simp at h
 |_::_,[],h,_=>by simp at h
 | (c,x)::fs,(c',v)::gs,h,r=>by
  simp at h;obtain⟨rfl,h⟩:=h;obtain⟨g,f,e,d,a⟩:=r;obtain⟨rfl,rfl⟩:=cb.inj e;unfold valZ valV;rw[bQ,bQ];cases q:decide (c'=k) with
  |true=>
   refine⟨λe=>?_,λz e=>?_⟩
   ·cases e
   ·cases e;exact⟨v,rfl,d⟩
  |false=>exact (a0G (k:=k) h a)
section
variable{X:Cx}
def b5H:Z->List Z->Hq->K3->Prop:=λx xs G R=>match x,xs with
 |.ref p,[y,d]=>∃kvs k,(G p=some (.dK kvs)\/G p=some (.dF kvs))/\keyZ y=some k/\R ((valZ kvs k).getD d) G
 |_,_=>False
def a7P(hu:X.A.units+66<cLine):MtQ X "dict.get" b5H:=a6B (b5E hu) λx E H Q m=>m.un λw B G R j s i h l=>by
 match w,B,h with
 |.ref p,[y,d],h=>
  obtain⟨v,q,rfl,t,o⟩:=s.two;obtain⟨g,k,e,D,h⟩:=h;obtain⟨a,f,c,b⟩:∃a,Rd H p (.dK a)/\a.map _=g.map _/\Reps X.K H _ (a.map _):=by
   rcases e with e |e
   ·obtain⟨a,f,c,b⟩:=i _ _ e;exact⟨a,.inl f,c,b⟩
   ·obtain⟨C,a,f,c,b⟩:=i _ _ e;exact⟨a,.inr ⟨C,f⟩,c,b⟩
  refine⟨p,v,q,valV a k,j,rfl,by rw[a1v D t];exact .inl ⟨a,k,f,rfl,rfl⟩,?_⟩;cases hz:valZ g k with
  |none=>
   rw[hz]at h;rw[(a0G c b).1 hz];exact l _ _ _ _ h o i (.refl _ _)
  |some z=>
   rw[hz]at h;obtain⟨u,r,n⟩:=(a0G c b).2 z hz;rw[r];exact l _ _ _ _ h n i (.refl _ _)
def b8C:Z->List Z->Hq->K3->Prop:=λx xs G R=>match x,xs with
 |.ref p,[y]=>∃kvs k,G p=some (.dK kvs)/\keyZ y=some k/\R ((valZ kvs k).getD .non) G
 |_,_=>False
def b5I(hu:X.A.units+66<cLine):MtQ X "dict.get" b8C:=a6B (b2E hu) λx t H Q n=>n.un λw l G R a j b h g=>by
 match w,l,h with
 |.ref p,[y],h=>
  obtain⟨v,rfl,m⟩:=j.one;obtain⟨c,k,e,q,h⟩:=h;obtain⟨r,s,d,f⟩:=b _ _ e;refine⟨p,v,valV r k,a,rfl,by rw[a1v q m];exact DGet.k s,?_⟩;cases hz:valZ c k with
  |none=>
   rw[hz]at h;rw[(a0G d f).1 hz];exact g _ _ _ _ h (by rw[dN,a0A];rfl) b (.refl _ _)
  |some z=>
   rw[hz]at h;obtain⟨u,i,o⟩:=(a0G d f).2 z hz;rw[i];exact g _ _ _ _ h o b (.refl _ _)
def b8D:Z->List Z->Hq->K3->Prop:=λx xs G R=>match x,xs with
 |.ref p,[y,d]=>∃kvs k,G p=some (.dK kvs)/\keyZ y=some k/\kvs.length<fH/\(∀z,valZ kvs k=some z->R z G)/\(valZ kvs k=none->R d (put G p (.dK (putZ kvs k d))))
 |_,_=>False
def a28:MtQ X "dict.setdefault" b8D:=a6B b5F λx M H Q C=>C.un λw t G R i F l h r=>by
 match w,t,h with
 |.ref p,[y,d],h=>
  obtain⟨v,E,rfl,B,q⟩:=F.two;obtain⟨b,k,e,L,A,s,J⟩:=h;obtain⟨D,c,f,g⟩:=l _ _ e;refine⟨p,D,k,E,i,by rw[a1v L B],c,by rw[b0y f];exact A,λu a=>?_,λa=>?_⟩
  ·cases hq:valZ b k with
   |none=>rw[(a0G f g).1 hq]at a;cases a
   |some z=>
    obtain⟨I,j,m⟩:=(a0G f g).2 z hq;rw[j]at a;cases a;exact r _ _ _ _ (s z hq) m l (.refl _ _)
  ·cases hq:valZ b k with
   |some z=>
    obtain⟨I,j,m⟩:=(a0G f g).2 z hq;rw[j]at a;cases a
   |none=>
    have n:=a5c (k:=k) q f g;exact r _ _ _ _ (J hq) (q.mono (.dK c)) (l.set (.dK c) ⟨_,a0j,n.1,n.2.mono (.dK c)⟩) (.dK c)
def zDIx:R3:=λx y G R=>match x with
 |.ref p=>∃kvs k z,G p=some (.dK kvs)/\keyZ y=some k/\valZ kvs k=some z/\R z G
 |_=>False
def c0Y:IxQ X zDIx:=b4L b5G λx y H Q f=>f.un λa b G R d q c h j=>by
 cases a with
 |ref p=>
  obtain⟨u,k,z,e,t,i,h⟩:=h;obtain⟨n,r,m,l⟩:=c _ _ e;obtain⟨s,o,g⟩:=(a0G m l).2 z i;exact⟨p,n,k,s,d,a1v t q,r,o,j _ _ _ _ h g c (.refl _ _)⟩
 |_=>exact aH h
def b0F(e:G p=some (.dK kvs))(a:keyZ y=some k)(h:R ((valZ kvs k).getD d) G):b5H (.ref p) [y,d] G R:=⟨kvs,k,.inl e,a,h⟩
def b0G(e:G p=some (.dK kvs)\/G p=some (.dF kvs))(a:keyZ y=some k)(h:R ((valZ kvs k).getD d) G):b5H (.ref p) [y,d] G R:=⟨kvs,k,e,a,h⟩
def b3U(e:G p=some (.dK kvs))(a:keyZ y=some k)(z:kvs.length<fH)(h1:∀z,valZ kvs k=some z->R z G)(h2:valZ kvs k=none->R d (put G p (.dK (putZ kvs k d)))):b8D (.ref p) [y,d] G R:=⟨kvs,k,e,a,z,h1,h2⟩
def c0Z(e:G p=some (.dK kvs))(a:keyZ y=some k)(v:valZ kvs k=some w)(h:R w G):zDIx (.ref p) y G R:=⟨kvs,k,w,e,a,v,h⟩
def b0H{P:Prop}(e:G p=some (.dK kvs))(h:P):tyZ "dict" (.ref p) G/\P:=⟨.inr ⟨rfl,kvs,.inl e⟩,h⟩
def b8E{P:Prop}(e:G p=some (.dK kvs)\/G p=some (.dF kvs))(h:P):tyZ "dict" (.ref p) G/\P:=⟨.inr ⟨rfl,kvs,e⟩,h⟩
end
noncomputable def keysOf:List (Z×Z)->Option (List (Key×Z))
 |[]=>some []
 | (x,y)::r=>match keyZ x,keysOf r with
  |some k,some kvs=>some ((k,y)::kvs)
  |_,_=>none
noncomputable def a29(kvs more:List (Key×Z)):List (Key×Z):=more.foldl (λacc kv=>putZ acc kv.1 kv.2) kvs
def PReps(K:Fg)(H:Hp):List (Z×Z)->List (V×V)->Prop:=Paired λp q=>Rep K H p.1 q.1/\Rep K H p.2 q.2
def PReps.mono{K:Fg}(t:TK K H H'):∀{ps:List (Z×Z)}{vs:List (V×V)},PReps K H ps vs->PReps K H' ps vs:=by intro z0 y0 x0;induction x0 with
 |nil=>exact .nil
 |cons r s I0=>exact .cons ⟨r.1.mono t,r.2.mono t⟩ (I0)
section
variable{X:Cx}
def zDIn(f:Bool->Bool):R3:=λx y G R=>match y with
 |.ref p=>∃kvs k,G p=some (.dK kvs)/\keyZ x=some k/\R (.bl (f (valZ kvs k).isSome)) G
 |_=>False
def b2F{K:Fg}(hn:us.map (·.1)=kvs.map (·.1))(rr:Reps K H (kvs.map (·.2)) (us.map (·.2))):(valV us k).isSome=(valZ kvs k).isSome:=by
 cases hz:valZ kvs k with
 |none=>rw[(a0G hn rr).1 hz];rfl
 |some z=>obtain⟨u,a,_⟩:=(a0G hn rr).2 z hz;rw[a];rfl
def c00(hu:X.A.units+66<cLine):OpQ X (fN .In) (zDIn id):=a2P (b8B hu) λx y H Q n=>n.un λa b G R m c d h o=>by
 cases b with
 |ref p=>
  obtain⟨q,k,e,f,h⟩:=h;obtain⟨i,j,g,l⟩:=d _ _ e;exact⟨p,valV i k,c,by rw[a1v f m];exact DGet.k j,o _ _ _ _ h (by rw[a0u,b2F g l];rfl) d (.refl _ _)⟩
 |_=>exact aH h
end
end L3
namespace L3
theorem ln0{α:Type}{C:List α->Prop}(h:C []):∀us:List α,us.length=0->C us
 |[],_=>h
theorem lnS{α:Type}{C:List α->Prop}(h:∀a,∀us:List α,us.length=n->C (a::us)):∀us:List α,us.length=n+1->C us
 |a::us,e=>h a us (Nat.succ.inj e)
end L3
namespace L2
open PySem PySem.Spec PyProof.Rows
section
variable{X:Cx}
def b5J:∀{vs:List Value}{ns:List Int},f9 vs ns->SetW.KsAre (iy P w) vs ns:=by intro z0 y0 x0;induction x0 with
 |nil=>exact .nil
 |cons n t h I0=>exact .cons (intKind_is _ _ _ _) (I0)
def b5K(h:SetW.KsAre (iy P w) vs ns):f9 vs ns:=by
 induction h with
 |nil=>exact .nil
 | @cons v k vs ks h _ ih=>
  cases v<;>simp[iy,Value.isInt]at h
  subst h;exact .cons _ _ ih
def b0I:∀{vs:List Value}{ns:List Int},f9 vs ns->∀v∈vs,v.scannable=true:=by
 intro vs ns h
 induction h with
 |nil=>intro v hv;cases hv
 |cons n t h ih=>
  intro v hv;rcases aD.mp hv with rfl |hv
  ·rfl
  ·exact ih v hv
noncomputable def setO(X:Cx)(t:Addr)(ms:List Int):HO:=.ext λh=>SetW.SI (iy X.prog X.w) h t ms
def b8F(X:Cx):List V->Hp->VK->Prop:=λxs H Q=>∃(p:Addr)(ns:List Int),xs=[.ref p]/\SqL X.K H p (ns.map V.int)/\ns.length<=1000 /\
 ∀(t:Addr)(ms:List Int),H t=none->SetW.Met (λi=>ns.getD i 0) ns.length ms->Q (.ref t) (upd H t (setO X t ms))
def a8N(hc:X.calm=true):CallR X (.type "set") (b8F X):=by
 intro c s σ H xs us Q I r h;obtain⟨p,ns,rfl,n,hz,q⟩:=h;obtain⟨u,rfl,v⟩:=a2L r;cases v;obtain⟨j,m,z,_⟩:=I.list n;have f:=a8p m;have A:=a7L f;have sb:1001<scanBound:=by decide
 have i:j.toArray.size=ns.length:=by grind
 refine SetW.call_set (ns:=ns) (k0:=0) (I.ok.hd hc) z.isList (by simpa using b5J f) (by simpa using b0I f) (by grind) λg l d S M k=>?_;rw[i]at M;have t:=
  I.laid (t':=l) (λb o e=>k b o (Heap.lt_size e) e) (aC _) (show ObjOk X.prog X.w _ g _ (setO X s.heap.objs.size d) from ⟨S,by obtain⟨_,_,_,S'⟩:=S;exact by obtain⟨o,e,_⟩:=S'.at_;exact⟨o,e⟩,λ_ _ x y=>x.at y⟩)
 exact⟨.ref s.heap.objs.size,_,t,rfl,q _ d (I.hok.fresh (aC _)) M⟩
def b2G(X:Cx):List V->Hp->VK->Prop:=λxs H Q=>∃(p:Addr)(ms:List Int),xs=[.ref p]/\H p=some (setO X p ms)/\ms.length<=1000 /\
 ∀(t:Addr)(ks:List Int),H t=none->ks.Perm ms->ks.Pairwise (·<=·)->Q (.ref t) (upd H t (.lst (ks.map V.int)))
def a51(hc:X.calm=true):CallR X (.builtin "sorted") (b2G X):=by
 intro c s σ H xs us Q I r h;obtain⟨p,ns,rfl,y,B,q⟩:=h;obtain⟨u,rfl,t⟩:=a2L r;cases t;refine b0v B (λR E=>SetW.collect_set (I.ok.hd hc) ((I.hok p _ y).1) λg a d m F J l C=>E g a d m F J (b5K l) C) λg v a d j n i x D e z k o=>?_;have f:Inv X c σ H { s with heap:=g,drawn:=d,toks:=a }:=(I.drew d).kept x;exact⟨.ref g.objs.size,_,f.laid D (aC _) (show ObjOk X.prog X.w _ v _ (.lst _) from ⟨by rw[aB,k.length_eq,fV];lia,j,n,b0u z,e⟩),rfl,q _ i (f.hok.fresh (aC _)) k o⟩
end
end L2
namespace L3
open PySem PySem.Spec PyProof.Rows L2
def b5L{ns ms:List Int}(h:SetW.Met (λi=>ns.getD i 0) ns.length ms):∀x,x∈ms↔x∈ns:=λx=>by
 rw[h.2.2 x]
 constructor
 ·rintro⟨j,a,e⟩;have e:ns.getD j 0=x:=e;rw[cH,aN a]at e;exact e▸bO a
 ·intro b;obtain⟨j,a,e⟩:=eN.mp b;exact⟨j,a,by show ns.getD j 0=x;rw[cH,aN a];exact e⟩
def b0J:∀{ks:List Int},ks.Nodup->ks.Pairwise (·<=·)->ks.Pairwise (·<·):=by intro z0;induction z0 with
 |nil=>intro _ _;exact .nil
 |cons k ks I0=>
  intro h1 h2;obtain⟨b,c⟩:=bx.mp h1;obtain⟨f,d⟩:=aT.mp h2;refine aT.mpr ⟨λx a=>?_,I0 c d⟩;have h:=f x a;have g:k≠x:=λe=>b (e▸a)
  lia
section
variable{X:Cx}{e:Expr}{es:List Expr}{t:A3}{x y:Str}{p p2 pos pos2:Pos}
def uSS(t:A3):E3:=fun σ G R=>t σ G λws G1=>∃(p:Addr)(ns:List Int),ws=[.ref p]/\G1 p=some (.lst (ns.map Z.int))/\ns.length<=1000 /\
 ∀(t:Addr)(ks:List Int),G1 t=none->ks.Pairwise (·<·)->(∀x,x∈ks↔x∈ns)->ks.length<=ns.length->R (.ref t) (put G1 t (.lst (ks.map Z.int)))
def i_ss{p:Addr}{ns:List Int}{R:K3}(e:G p=some (.lst (ns.map Z.int)))(z:ns.length<=1000)
  (h:∀(t:Addr)(ks:List Int),G t=none->ks.Pairwise (·<·)->(∀x,x∈ks↔x∈ns)->ks.length<=ns.length->R (.ref t) (put G t (.lst (ks.map Z.int)))) :
  ∃(q:Addr)(ns':List Int),[Z.ref p]=[.ref q]/\G q=some (.lst (ns'.map Z.int))/\ns'.length<=1000 /\
   ∀(t:Addr)(ks:List Int),G t=none->ks.Pairwise (·<·)->(∀x,x∈ks↔x∈ns')->ks.length<=ns'.length->R (.ref t) (put G t (.lst (ks.map Z.int))):=⟨p,ns,rfl,e,z,h⟩
def q_ss(hc:X.calm=true)(hg:Gl X x)(hm:X.mg x=none)(hv:gc x=some (.builtin "sorted"))(hg2:Gl X y)(hm2:X.mg y=none)(hv2:gc y=some (.type "set"))(ha:QA X (e::es) t)
  (he:fL (e::es) X.env=(false,eval e X.env)::fL es X.env) (hpl:(backTo pos2 (fL es X.env)).any (·.1)=false)
  (hn:x≠"__name__":=by decide) (hdb:(x==("__debug__":Str))=false:=by decide) (hn2:y≠"__name__":=by decide) (hdb2:(y==("__debug__":Str))=false:=by decide) :
  QE X (.Call (.Name x p) [.Call (.Name y p2) (e::es) [] pos2] [] pos) (uSS t):=⟨a0X (a7r (a51 hc) hg hm hv (a9A (a5G (a8N hc) hg2 hm2 hv2 ha.p hn2 hdb2 he hpl) b3v rfl) hn hdb rfl rfl) fun τ H Q n=>n.un fun σ G R hs hg h s=>
 ⟨σ,G,_,hs,hg,h,λws G1 vs H1 f rs c w=>by
  obtain⟨p,B,rfl,A,z,f⟩:=f;obtain⟨v,rfl,r⟩:=rs.one;obtain⟨vs',o,k⟩:=c _ _ A
  have:=a9W k
  subst this;refine⟨p,B,by rw[r],SqL.of o,z,λa j ha M=>⟨a,j,rfl,a0j,aM M.2.1 z,λu q b g m=>?_⟩⟩;have l:=c.hid (u:=setO X a j) ha;exact s _ _ _ _ (f u q (l.out b) (b0J (g.nodup_iff.mpr M.1) m) (λx=>by rw[g.mem_iff];exact b5L M x) (g.length_eq▸M.2.1)) (by rw[a0x]) (l.set (.new b) (a1p (a3F _) (.new b))) (w.trans ((TK.new ha).trans (.new b)))⟩⟩
end
section
variable{X:Cx}
end
end L3
namespace L2
open PySem PySem.Spec PyProof.Rows
section
variable{X:Cx}
def KD(X:Cx)(a:Addr)(kvs:List (Key×V)):Prop:=kvs.length<=fH/\(a==gy)=false/\∃vs,KV kvs vs/\∀h:Heap,X.K.In h->h.DictOf (a0v X.prog X.w) a vs
end
end L2
namespace L3
open PySem PySem.Spec PyProof.Rows L2
section
variable{X:Cx}
noncomputable def zV:Z->V
 |.str x=>.str x
 |.ref a=>.ref a
 |.int i=>.int i
 |_=>.non
noncomputable def b8G:Z->Bool
 |.str _=>true
 |.ref _=>true
 |.int _=>true
 |_=>false
def KDZ(X:Cx)(a:Addr)(kvs:List (Key×Z)):Prop:=(∀kv∈kvs,b8G kv.2=true)/\KD X a (kvs.map λkv=>(kv.1,zV kv.2))
def KTup(K:Fg)(a:Addr)(ss:List Str):Prop:=∃(o:Obj)(its:Array Value)(n:Nat),K.lookup a=some o/\o.cls=.type "tuple"/\o.data=.seq its n/\its.size<=fH/\Vals (ss.map V.str) its.toList
def KTup.sq{K:Fg}(h:KTup K a ss):SqT K H a (ss.map V.str):=.inr h
variable{t:A3}
end
def KDk(w:World)(K:Fg)(a:Addr)(kvs:List (Key×Z)):Prop:=(∀kv∈kvs,b8G kv.2=true)/\kvs.length<=fH/\(a==gy)=false/\∃vs:List (Key×Value),KV (kvs.map λkv=>(kv.1,zV kv.2)) vs/\∀(P:fK)(h:Heap),K.In h->h.DictOf (a0v P w) a vs
def KDk.at(h:KDk X.w X.K a kvs):KDZ X a kvs:=⟨h.1,by rw[aB];exact h.2.1,h.2.2.1,by obtain⟨vs,r,q⟩:=h.2.2.2;exact⟨vs,r,q X.prog⟩⟩
end L3
namespace L2
open PySem PySem.W
end L2
namespace L2
open PySem PySem.Spec PyProof.Rows
section
variable{X:Cx}{e:Addr}{oe:Obj}{C:Addr}
end
end L2
namespace L3
open PySem PySem.Spec PyProof.Rows L2
abbrev PX3:=List Z->Hq->K3->(Addr->Hq->Prop)->Prop
def UpX(K:Fg)(H:Hp)(EE:Addr->Hq->Prop)(E:XK):Prop:=∀C G H',EE C G->RH K G H'->TK K H H'->E (.ref C) none H'
def c01{K:Fg}(t:TKs H H'):TK K H H':=⟨t.tup,λa b h=>by
 rcases h with ⟨o,h⟩ |h
 ·exact .inl ⟨o,t.frz _ _ _ h⟩
 ·exact .inr h,t.frz⟩
def UpN(K:Fg)(EE:Addr->Hq->Prop)(E:XK):Prop:=∀C G H',EE C G->RH K G H'->E (.ref C) none H'
def UpX.since{K:Fg}(h:UpX K H EE E):UpN K EE (since H E):=λC G a q r t=>h C G a q r (c01 t)
section
variable{X:Cx}{E:XK}{EE:Addr->Hq->Prop}{e e0:Expr}{es:List Expr}{x n:Str}{p pos np cpos hpos tpos:Pos}{t:A3}{te:E3}{k:Nat}{f C D:Addr}{fd:f8}{ps:List Str}{sp:PX3}
variable{o:Expr}{m:Str}{apos:Pos}{to:E3}{PC:Addr->Prop}
end
section
variable{X:Cx}{EW:XK}{N':List Str}{sc:Scope}{cap:List (Option Nat)}{tg iter elt:Expr}{ifs:List Expr}{wi:I3}{pt:Pt}{tt:T3}{te:E3}{pos:Pos}
end
section
variable{P:fK}{w:World}{K:Fg}{mg:Str->Option Value}{base:Heap}
end
mutual
def DZ(G:Hq):PyData->Z->Prop
 |.none,x=>x=.non
 |.bool b,x=>x=.bl b
 |.int i,x=>x=.int i
 |.str s,x=>x=.str s
 |.list ds,x=>∃p ws,x=.ref p/\G p=some (.lst ws)/\DZs G ds ws
 |.tuple ds,x=>∃ws,x=.tup ws/\DZs G ds ws
 |.dict _,_=>False
def DZs(G:Hq):List PyData->List Z->Prop
 |[],ws=>ws=[]
 |d::ds,ws=>∃w r,ws=w::r/\DZ G d w/\DZs G ds r
end
mutual
theorem DZ.sm{G G':Hq}(s:Sm G G'):∀{d:PyData}{w:Z},DZ G d w->DZ G' d w
 |.none,w,q=>by unfold DZ at q ⊢;exact q
 |.bool b,w,q=>by unfold DZ at q ⊢;exact q
 |.int i,w,q=>by unfold DZ at q ⊢;exact q
 |.str _,w,q=>by unfold DZ at q ⊢;exact q
 |.list ds,w,q=>by
  unfold DZ at q ⊢;obtain⟨p,ws,e,hp,q⟩:=q;exact⟨p,ws,e,s _ _ hp,DZs.sm s q⟩
 |.tuple ds,w,q=>by
  unfold DZ at q ⊢;obtain⟨ws,e,q⟩:=q;exact⟨ws,e,DZs.sm s q⟩
 |.dict _,w,q=>by unfold DZ at q;exact q.elim
theorem DZs.sm{G G':Hq}(s:Sm G G'):∀{ds:List PyData}{ws:List Z},DZs G ds ws->DZs G' ds ws
 |[],ws,q=>by unfold DZs at q ⊢;exact q
 |d::ds,ws,q=>by
  unfold DZs at q ⊢;obtain⟨w,r,e,q1,q2⟩:=q;exact⟨w,r,e,DZ.sm s q1,DZs.sm s q2⟩
end
section
variable{X:Cx}
end
end L3
namespace L2
open PySem PySem.Spec PyProof.Rows
end L2
namespace L3
open PySem PySem.Spec PyProof.Rows L2
section
variable{X:Cx}{E:XK}{e:Expr}{es:List Expr}{x n:Str}{p pos np hpos tpos:Pos}{t:A3}{k:Nat}{f D:Addr}{fd:f8}{ps:List Str}{sp:PX3}
end
end L3
namespace L2
open PySem PySem.Spec PyProof.Rows
noncomputable def ItD(o:Obj)(a:Addr)(kvs:List (Key×V)):It:=
 ⟨λi H=>H a=some (.frz o (.dK kvs))/\i<kvs.length,λi H x H'=>H'=H/\∃p,kvs[i]?=some p/\x=kV p.1,λi H=>H a=some (.frz o (.dK kvs))/\kvs.length<=i⟩
def c02(h:(a0v P w).is k u=true):RelV (kV k) u:=by
 rcases a0r h with ⟨i,t,rfl,rfl⟩ |⟨x,t,rfl,rfl⟩ |⟨rfl,rfl⟩
 ·exact⟨t,rfl⟩
 ·exact⟨t,rfl⟩
 ·rfl
def b0K:∀{kvs:List (Key×V)}{vs:List (Key×Value)},KV kvs vs->vs.length=kvs.length:=by intro z0;induction z0 with
 |nil=>intro vs h;cases h;rfl
 |cons p kvs I0=>
  intro vs h;cases h with
  |cons h1 h2=>rw[aL,aL,I0 h2]
theorem b3V:∀{kvs:List (Key×V)}{vs:List (Key×Value)}{i:Nat}{p:Key×V},KV kvs vs->kvs[i]?=some p->∃q,vs[i]?=some q/\p.1=q.1
 |[],vs,i,p,h,e=>by simp at e
 |p0::kvs,vs,i,p,h,e=>by
  cases h with
  |cons h1 h2=>
   cases i with
   |zero=>cases e;exact⟨_,rfl,h1.1⟩
   |succ i=>exact b3V (i:=i) h2 (by simpa using e)
theorem b0L{P:fK}{w:World}{K:Fg}{tg:Expr}(a it:Addr){o:Obj}(kvs:List (Key×V)){es:Array jg}{ep:Nat}(hd:o.data=.dict es ep):Turn P w K tg (ItD o a kvs) [it] it (λi h=>h.IsKeyIter it a i kvs.length ep) where
 mem:=by simp
 obj:=λi h st b hb=>by
  have e:b=it:=by simpa using hb
  subst e;obtain⟨o,e,c,d⟩:=st;exact⟨o,e,λv z=>by rw[d]at z;cases z⟩
 keep:=λi h h' st k=>st.at λo e=>k it (by simp) o e
 item:=by
  intro X hP hw hK hc i pins s σ H E I hf st hg;subst hP hw hK;obtain⟨ha,hi⟩:=hg;obtain⟨g,hz,hsm,vs,kv,dof⟩:=(show ObjOk X.prog X.w H s.heap a (.frz o (.dK kvs)) from I.hok a _ ha);obtain⟨f0,f1,f2,f3,f4,f5⟩:=hf it (by simp);have hl:=b0K kv;have dat:s.heap.DictAt (a0v X.prog X.w) a vs ep:=by
   obtain⟨o',es',ep',h1,h2,h3,h4⟩:=dof;rw[g]at h1;cases h1;rw[hd]at h3;cases h3;exact⟨o,es,g,h2,hd,h4⟩
  obtain⟨p,hp⟩:∃p,kvs[i]?=some p:=⟨kvs[i],aN hi⟩;obtain⟨⟨k,v⟩,hq,e1⟩:=b3V kv hp;refine wpAny_pyNext_dict_item (by rw[hl];exact st) dat hq λkey h' hk st' sb=>?_;have I1:Inv X pins σ H { s with heap:=h' }:=I.turned (t':=s.toks) (λb o hb e=>(sb.2 b hb).trans e) f0 f1 f3 f4 f5;rw[hl]at st';obtain⟨oi,e,c,d⟩:=id st';exact⟨key,rfl,a8h (s:={ s with heap:=h' }) e c d (by decide) ⟨kV p.1,H,I1,by rw[e1];exact c02 hk,⟨rfl,p,hp,rfl⟩,st',λb hb=>(hf b hb).1⟩⟩
 done:=by
  intro X hP hw hK hc i pins s σ H E I hf st hg;subst hP hw hK;obtain⟨ha,hi⟩:=hg;obtain⟨g,hz,hsm,vs,kv,dof⟩:=(show ObjOk X.prog X.w H s.heap a (.frz o (.dK kvs)) from I.hok a _ ha);obtain⟨f0,f1,f2,f3,f4,f5⟩:=hf it (by simp);have hl:=b0K kv;have dat:s.heap.DictAt (a0v X.prog X.w) a vs ep:=by
   obtain⟨o',es',ep',h1,h2,h3,h4⟩:=dof;rw[g]at h1;cases h1;rw[hd]at h3;cases h3;exact⟨o,es,g,h2,hd,h4⟩
  exact wpAny_pyNext_dict_end (I.ok.hd hc) (by rw[hl];exact st) dat (d7 (by omega)) λh' eb=>⟨rfl,I.turned (t':=s.toks) (λb o hb e=>eb b o hb e) f0 f1 f3 f4 f5⟩
 self:=λ_ _ _ _ _ st h=>wpAny_pyIter_keyiter st h
section
variable{X:Cx}{pins:List (Addr×Obj)}{σ:St}{H:Hp}{s:Shared}{a:Addr}{kvs:List (Key×V)}{tg:Expr}
def Inv.freeze(I:Inv X pins σ H s)(e:H a=some (.dK kvs)):∃o,Inv X pins σ (upd H a (.frz o (.dK kvs))) s:=by
 obtain⟨p,k,t,x,h⟩:=(I.hok a _ e);have i:=h;obtain⟨o,C,B,g,r⟩:=i;refine⟨o,?_⟩;have l:∀b,H b=none->b≠a:=λb q z=>by rw[z,e]at q;cases q
 have j:∀b d,H b=some (.tup d)->b≠a:=λb d q z=>by rw[z,e]at q;cases q
 have A:∀b o u,H b=some (.frz o u)->b≠a:=λb o u q z=>by rw[z,e]at q;cases q
 have y:∀b f,H b=some (.tbl f)->b≠a:=λb f q z=>by rw[z,e]at q;cases q
 have m:∀b c,H b=some (.own c)->b≠a:=λb c q z=>by rw[z,e]at q;cases q
 refine I.un ⟨λb o q _ _ _=>q,λb o q _ _ _=>⟨o.slots,q⟩,λb o q n _=>by rw[a0g (l b n)];exact n,λb o q _=>⟨o,q⟩,λb d q=>by rw[a0g (j b d q)];exact q,λb o u q=>by rw[a0g (A b o u q)];exact q,λb f q=>⟨#[],by rw[a0g (y b f q),Array.append_empty];exact q⟩⟩ λb u q=>?_
 by_cases hb:b=a
 ·subst hb;rw[a0j]at q;cases q;exact⟨g,p,k,t,x,h⟩
 ·rw[a0g hb]at q;exact (I.hok b u q).stay (λc v _ r=>r) (λc r=>by rw[a0g (m c b r)];exact r) λc d r=>by rw[a0g (j c d r)];exact r
def iDct(tl:TE):TI:=fun σ H R=>tl σ H λx H1=>∃a kvs,x=.ref a/\((H1 a=some (.dK kvs)/\∀o,R (ItD o a kvs) (upd H1 a (.frz o (.dK kvs))))\/∃o,H1 a=some (.frz o (.dK kvs))/\R (ItD o a kvs) H1)
def b5M(hl:PE X l tl):PI X tg l (iDct tl):=by
 intro c s σ H R I h;refine thn (hl c s σ H _ I h) λv d ⟨x,B,r,C,E⟩=>?_;obtain⟨a,f,e,q⟩:=E;subst e;cases C;have k:∀o i,Inv X c σ i d->i a=some (.frz o (.dK f))->R _ i->wpAny _ X.A _ (PIE X c σ tg R) X.xe d:=λo i j m q=>by
  obtain⟨g,M,t,L,D,y⟩:=(j.hok a _ m);obtain⟨N,n⟩:=y.dictAt;have p:=n;obtain⟨J,G,u,_,F,_⟩:=p;rw[g]at u;cases u;refine wpAny_pyIter_dict t n ⟨d.heap.objs.size,[d.heap.objs.size],_,_,i,rfl,j.kept λb o e=>Heap.get?_push_of_some _ e,b0L a _ f F,⟨_,Heap.get?_push_size _ rfl,rfl,by rw[b0K D];rfl⟩,λb z=>?_,q⟩;have e:b=d.heap.objs.size:=by grind
  subst e;exact j.fpOk (aC _) (j.hok.fresh (aC _))
 rcases q with ⟨m,q⟩ |⟨o,m,q⟩
 ·obtain⟨o,j⟩:=r.freeze m;exact k o _ j a0j (q o)
 ·exact k o B r m q
end
end L2
namespace L3
open PySem PySem.Spec PyProof.Rows L2
noncomputable def keyW:Key->Z
 |.inl (some i)=>.int i
 |.inl none=>.non
 |.inr s=>.str s
theorem b2H{K:Fg}:∀k:Key,Rep K H (keyW k) (kV k)
 |.inl (some i)=>by show Rep K H (.int i) (.int i);rw[a0l]
 |.inl none=>by show Rep K H .non .non;rw[a0A]
 |.inr s=>by show Rep K H (.str s) (.str s);rw[a0s]
def wkD(x:Z)(G:Hq)(R:List Z->(Hq->Prop)->Hq->Prop):Prop:=match x with
 |.ref a=>∃kvs,(G a=some (.dK kvs)\/G a=some (.dF kvs))/\R (kvs.map λp=>keyW p.1) (λ_=>True) (put G a (.dF kvs))
 |_=>False
def iD(tl:E3):I3:=fun σ G R=>tl σ G λx G1=>wkD x G1 R
def a4I{K:Fg}{kvs:List (Key×Z)}(e:H0 a=some (.frz o (.dK us)))(hn:us.map (·.1)=kvs.map (·.1)):a4i K (kvs.map λp=>keyW p.1) (λ_=>True) (ItD o a us) H0:=λi G H g t n j=>by
 have d:=t.frd _ _ _ e;have l:us.length=kvs.length:=by have:=congrArg bf hn;simpa using this
 rw[aB]at j;refine⟨λh=>⟨d,by rw[aB]at h;lia⟩,λw b=>?_⟩;rw[aK]at b;cases hk:kvs[i]? with
 |none=>rw[hk]at b;cases b
 |some p=>
  rw[hk]at b;cases b;have k:=(aI.mp hk).1;refine⟨⟨d,by lia⟩,?_⟩;rintro x m ⟨rfl,q,f,rfl⟩
  have:q.1=p.1:=by
   have c:(us.map (·.1))[i]?=some q.1:=by rw[aK,f];rfl
   rw[hn,aK,hk]at c;exact (bv.inj c).symm
  rw[this];exact⟨b2H _,g,.refl _ _⟩
section
variable{X:Cx}{tg l:Expr}{tl:E3}
def a3R(hl:QE X l tl):QI X tg l (iD tl):=a5L (b5M hl.p) fun τ H B u=>u.un fun σ G R z A h t=>by
 refine⟨σ,G,_,z,A,h,λw r v q d k c s=>?_⟩;cases w with
 |ref a=>
  obtain⟨j,e,d⟩:=d;rcases e with e |e
  ·obtain⟨g,f,i,n⟩:=c _ _ e;refine⟨a,g,k,.inl ⟨f,λo=>?_⟩⟩;have m:TK X.K q (L2.upd q a (.frz o (.dK g))):=.dK f;exact t _ _ _ _ _ d (a4I a0j i) (c.set m ⟨o,g,a0j,i,n.mono m⟩) (s.trans m)
  ·have x:=e;obtain⟨o,g,f,i,n⟩:=c _ _ e;refine⟨a,g,k,.inr ⟨o,f,?_⟩⟩;have y:put r a (.dF j)=r:=by
    funext b
    unfold put
    split
    ·simp_all
    ·rfl
   rw[y]at d;exact t _ _ _ _ _ d (a4I f i) c s
 |_=>exact aH d
def i_iD(h:tl σ G λx G1=>wkD x G1 R):iD tl σ G R:=h
def b0M(e:G p=some (.dK kvs)\/G p=some (.dF kvs))(h:R (kvs.map λp=>keyW p.1) (λ_=>True) (put G p (.dF kvs))):wkD (.ref p) G R:=⟨kvs,e,h⟩
end
end L3
namespace L2
open PySem PySem.Spec PyProof.Rows
def b5N:∀{ss:List Str}{us:List Value},Vals (ss.map V.str) us->ip us ss:=by intro z0;induction z0 with
 |nil=>intro us r;rw[aX]at r;cases r;exact .nil
 |cons s ss I0=>
  intro us r;cases r with
  |cons r1 r2=>obtain⟨t,rfl⟩:=r1;exact .cons s t (I0 r2)
def a52:∀{vs:List Value}{ss:List Str},ip vs ss->Vals (ss.map V.str) vs:=by intro z0 y0 x0;induction x0 with
 |nil=>exact .nil
 |cons s t h I0=>exact .cons ⟨t,rfl⟩ (I0)
def b2I(K:Fg):List V->Hp->VK->Prop:=λxs H Q=>∃(p:Addr)(ss:List Str),xs=[.ref p]/\SqL K H p (ss.map V.str)/\ss.length<64 /\
 ∀(t:Addr)(ts:List Str),H t=none->ts.Perm ss->ig ts=true->Q (.ref t) (upd H t (.lst (ts.map V.str)))
def a53:CallR X (.builtin "sorted") (b2I X.K):=by
 intro k s σ H y z Q I r h;obtain⟨p,x,rfl,g,t,q⟩:=h;obtain⟨u,rfl,i⟩:=a2L r;cases i;obtain⟨c,n,m,_⟩:=I.list g;have f:=b5N n;have v:=f.length;refine sorted_strs m.isList f (by lia) λa b o d l=>?_;obtain⟨e,j⟩:=sortedAll_at s.heap c a;exact⟨.ref _,_,I.laid (λ_ _=>sortedAll_old) (cC _) (show ObjOk X.prog X.w _ _ _ (.lst _) from ⟨by rw[aB,d.length_eq,fV];lia,a.toList,e,a52 o,by simpa using j⟩),rfl,q _ b (I.hok.fresh (cC _)) d l⟩
end L2
namespace L3
open PySem PySem.Spec PyProof.Rows L2
def a4J{K:Fg}:∀ss:List Str,Reps K H (ss.map Z.str) (ss.map V.str):=by intro z0;induction z0 with
 |nil=>rw[aX,aX,a0m]
 |cons s ss I0=>
  exact⟨_,_,rfl,by rw[a0s],I0⟩
def a8O{K:Fg}:∀{ss:List Str}{vs:List V},Reps K H (ss.map Z.str) vs->vs=ss.map V.str:=by intro z0;induction z0 with
 |nil=>intro vs h;rw[aX,a0m]at h;subst h;rfl
 |cons s ss I0=>
  intro vs h;obtain⟨v,r,rfl,a,b⟩:=h;rw[a,I0 b];rfl
def a7Q:List Z->Hq->K3->Prop:=λxs G R=>match xs with
 |[.ref p]=>∃ss:List Str,G p=some (.lst (ss.map Z.str))/\ss.length<64/\∀(t:Addr)(ts:List Str),G t=none->ts.Perm ss->ig ts=true->R (.ref t) (put G t (.lst (ts.map Z.str)))
 |_=>False
def b0N:a14 X (.builtin "sorted") a7Q:=a1n a53 λu H Q n=>n.un λg G R j b h q=>by
 match g,h with
 |[.ref p],h=>
  obtain⟨v,rfl,r⟩:=j.one;obtain⟨i,e,d,h⟩:=h;obtain⟨s,k,l⟩:=b _ _ e
  have:=a8O l
  subst this;exact⟨p,i,by rw[r],SqL.of k,d,λt a c f m=>q _ _ _ _ (h t a (b.out c) f m) (by rw[a0x]) (b.set (.new c) ⟨_,a0j,a4J a⟩) (.new c)⟩
def b0O(e:G p=some (.lst (ss.map Z.str)))(z:ss.length<64)(h:∀(t:Addr)(ts:List Str),G t=none->ts.Perm ss->ig ts=true->R (.ref t) (put G t (.lst (ts.map Z.str)))):a7Q [.ref p] G R:=⟨ss,e,z,h⟩
end L3
namespace L2
open PySem PySem.Spec PyProof.Rows
structure Cl where
 x:Str
 np:Pos
 b₀:Stmt
 suite:List Stmt
 hp:Pos
noncomputable def Cl.h(n:Str)(c:Cl):ExceptHandler:=.ExceptHandler (some (.Name c.x c.np)) (some n) (c.b₀::c.suite) c.hp
inductive Picks (X:Cx) (C:Addr) (th:Addr->TS):List Cl->Prop
 |here {c:Cl} {cs:List Cl} {D:Addr} (hg:Gl X c.x) (hm:X.mg c.x=some (.ref D)) (hd:(c.x==("__debug__":Str))=false) (hD:PySem.W.exmOne X.K (.ref C) (.ref D)=some true)
   (hh:∀e oe,oe.cls=.ref C->oe.dict=none->PySem.W.notCls oe=true->PSs (X.hnd e oe) (c.b₀::c.suite) (th e)):Picks X C th (c::cs)
 |next {c:Cl} {cs:List Cl} {D:Addr} (hg:Gl X c.x) (hm:X.mg c.x=some (.ref D)) (hd:(c.x==("__debug__":Str))=false) (hD:PySem.W.exmOne X.K (.ref C) (.ref D)=some false) (hp:Picks X C th cs):Picks X C th (c::cs)
section
variable{X:Cx}{n:Str}{pos tpos:Pos}{ce:Expr}
end
end L2
namespace L3
open PySem PySem.Spec PyProof.Rows L2
inductive Alt (X:Cx) (cs:List Cl):List (Addr×(Addr->X3))->Prop
 |nil:Alt X cs []
 |cons {C:Addr} {th:Addr->X3} {l:List (Addr×(Addr->X3))} (h:Picks X C (λe=>lowS X.K (th e)) cs) (hs:Alt X cs l):Alt X cs ((C,th)::l)
theorem Alt.get:∀{l:List (Addr×(Addr->X3))},Alt X cs l->∀p∈l,Picks X p.1 (λe=>lowS X.K (p.2 e)) cs
 |_,.nil,p,h=>by simp at h
 |_,.cons h hs,p,hp=>by
  rcases aD.mp hp with rfl |hp
  ·omega
  ·exact hs.get p hp
section
variable{X:Cx}{e:Expr}{es:List Expr}{n:Str}{p pos tpos:Pos}{t:A3}{k:Nat}{f:Addr}{fd:f8}{ps:List Str}{sp:PX3}
end
end L3
namespace L2
open PySem PySem.W
end L2
namespace L2
open PySem PySem.Spec PyProof.Rows
def Inv.melt(I:Inv X pins σ H s)(e:H a=some (.frz o (.dK kvs)))(n:∀o u,X.H₀ a≠some (.frz o u)):Inv X pins σ (upd H a (.dK kvs)) s:=by
 obtain⟨g,E,j,A,B,t⟩:=(I.hok a _ e);have i:∀b,H b=none->b≠a:=λb q z=>by rw[z,e]at q;cases q
 have k:∀b d,H b=some (.tup d)->b≠a:=λb d q z=>by rw[z,e]at q;cases q
 have D:∀b f,H b=some (.tbl f)->b≠a:=λb f q z=>by rw[z,e]at q;cases q
 have L:∀b c,H b=some (.own c)->b≠a:=λb c q z=>by rw[z,e]at q;cases q
 refine⟨I.ok,I.os,I.bare,⟨I.base.keep,I.base.slot,λb o F C y=>?_,I.base.there,λb d q=>?_,λb o u q=>?_,λb f q=>?_⟩,I.loc,I.cell,?_,λx c q=>?_,λp M=>?_,λb u q=>?_,I.len⟩
 ·have h:=I.base.free b o F C y;rw[a0g (i b h)];exact h
 ·have h:=I.base.tups b d q;rw[a0g (k b d h)];exact h
 ·rw[a0g (λz=>n o u (by simp_all))];exact I.base.frzs b o u q
 ·obtain⟨m,h⟩:=I.base.tbls b f q;exact⟨m,by rw[a0g (D b _ h)];exact h⟩
 ·rw[a0g (i _ I.free)];exact I.free
 ·have h:=I.freeC x c q;rw[a0g (i _ h)];exact h
 ·obtain⟨G,l,J⟩:=I.pin p M;exact⟨G,by rw[a0g (i _ l)];exact l,J⟩
 ·by_cases hb:b=a
  ·subst hb;rw[a0j]at q;cases q;exact⟨E,j,A,B,t⟩
  ·rw[a0g hb]at q;exact (I.hok b u q).stay (λc v _ r=>r) (λc r=>by rw[a0g (L c b r)];exact r) λc d r=>by rw[a0g (k c d r)];exact r
end L2
namespace L3
open PySem PySem.Spec PyProof.Rows L2
section
variable{X:Cx}{K:Fg}{H H1:Hp}{a:Addr}{us us1:List (Key×V)}{o:Obj}{e:Expr}{t:E3}{G:Hq}{kvs:List (Key×Z)}
def a3S(h:H1 a=some (.frz o (.dK us1))):TW K H1 (upd H1 a (.dK us1)):=
 ⟨λc b q=>by rw[a0g (λz=>by rw[z,h]at q;cases q)];exact q,λc b q=>by
  rcases q with ⟨o',q⟩ |q
  ·exact .inl ⟨o',by rw[a0g (λz=>by rw[z,h]at q;cases q)];exact q⟩
  ·exact .inr q⟩
def b5O(h0:H a=some (.dK us))(t:TK K H H1)(h:H1 a=some (.frz o (.dK us1))):TK K H (upd H1 a (.dK us1)):=
 ⟨λc b q=>(a3S (K:=K) h).tup c b (t.tup c b q),λc b q=>(a3S (K:=K) h).frz c b (t.frz c b q),λc d u q=>by
  rw[a0g (λz=>by rw[z,h0]at q;cases q)];exact t.frd c d u q⟩
def c03(t:TW K H H1)(e:H1 b=H b)(h:ROb K H b o'):ROb K H1 b o':=by
 cases o' with
 |lst ws=>obtain⟨a,q,r⟩:=h;exact⟨a,e.trans q,r.monoW t⟩
 |dK kvs=>obtain⟨a,q,n,r⟩:=h;exact⟨a,e.trans q,n,r.monoW t⟩
 |ins C dx fs=>obtain⟨a,q,n,r⟩:=h;exact⟨a,e.trans q,n,r.monoW t⟩
 |dF kvs=>obtain⟨c,a,q,n,r⟩:=h;exact⟨c,a,e.trans q,n,r.monoW t⟩
 |dT ks=>obtain⟨a,q,n⟩:=h;exact⟨a,e.trans q,n⟩
def b5P(g:RH K G H1)(e1:G a=some (.dF kvs)):∃o us1,H1 a=some (.frz o (.dK us1))/\RH K (put G a (.dK kvs)) (upd H1 a (.dK us1)):=by
 obtain⟨o,c,h,d,f⟩:=g _ _ e1;refine⟨o,c,h,λb e q=>?_⟩
 by_cases hb:b=a
 ·subst hb;rw[a0a]at q;cases q;exact⟨c,a0j,d,f.monoW (a3S h)⟩
 ·rw[a0e hb]at q;exact c03 (a3S h) (a0g hb) (g b e q)
def uUnf(t:E3):E3:=fun σ G R=>∃a kvs,G a=some (.dK kvs)/\t σ G λv G'=>G' a=some (.dF kvs)/\R v (put G' a (.dK kvs))
def c04(h:QE X e t):QE X e (uUnf t):=⟨λf s τ H Q I z=>by
 obtain⟨σ,G,R,y,j,⟨a,d,x,A⟩,C⟩:=z;obtain⟨F,k,L,J⟩:=j _ _ x;refine thn (h.p f s τ H (λv c=>∃w b,Rep X.K c w v/\RH X.K b c/\TK X.K H c/\b a=some _/\R w _) I ⟨σ,G,_,y,j,A,λw b v c q r g t=>⟨w,b,r,g,t,q.1,q.2⟩⟩) λu E ⟨v,c,l,m,w,b,r,g,t,n,q⟩=>?_;obtain⟨o,D,i,B⟩:=b5P g n;exact⟨v,_,l.melt i (λo u z=>by have:=I.base.frzs a o u z;rw[k]at this;cases this),m,C w _ v _ q (r.monoW (a3S i)) B (b5O k t i)⟩⟩
def c05(e:G a=some (.dK kvs))(h:t σ G λv G'=>G' a=some (.dF kvs)/\R v (put G' a (.dK kvs))):uUnf t σ G R:=⟨a,kvs,e,h⟩
end
end L3
namespace DictP
open PySem PyProof.Rows
def a4K:iZ table "dict.update.loop"=some fO.«dict.update.loop»:=entryFor_of_tree (by kernel_rfl)
def a2S:plainId "dict.update.loop"=true:=by decide +kernel
def b5Q:typeLookup (.type "list") "keys"=pure none:=am_miss_of_fast (by decide +kernel)
section
variable{prog:fK}{w:World}{A:Around}{E:Value->Shared->Prop}{s:Shared}{a:Addr}{xs:Array Value}{k:Nat}{sl:Array (Option Value)}
def b0P(hx:s.heap.get? a=some { cls:=.type "list",dict:=none,data:=.seq xs k,slots:=sl })(hA:A.handled=none)
  (h:∀h' tk,(∀b ob,s.heap.get? b=some ob->h'.get? b=some ob)->Q none { s with heap:=h',toks:=tk }):wpAny (model prog w) A (getAttr? (.ref a) "keys") Q E s:=by
 obtain⟨hp,g,d,tk,os⟩:=s;have hT:∀tk',(⟨hp,g,d,tk',os⟩:Shared).TypeIs (.ref a) "list":=λ_=>⟨_,hx,rfl⟩;have f1:=sub_AttributeError;have f3:=F.slot_list_getattribute.lookup;have f4:=F.slot_list_getattribute.bind (.ref a);have f5:=am_list_getattr_none;unfold getAttr? getAttrBy? getAttrBy
 repeat (any_goals (first |assumption |exact hT _ | ((with_reducible show wpAny _ _ (call (Value.builtin "list.__getattribute__") _ _) _ _ _);refine jo F.slot_list_getattribute (hT _) am_entry_list_getattribute (F.args_list_getattribute_2 _ _) (meets_getattribute_miss_list a xs k sl "keys" _ b5Q (by decide +kernel)) ⟨hx,hA,λh' tk' e hx'=>?_⟩) |wp_step))
 obtain⟨t',u',he⟩:=hx'.there
 show wpAny _ _ (getattributeRaised _ _ _ _ _ _ _) _ _ _
 unfold getattributeRaised
 repeat (any_goals (first |assumption |wp_step))
 exact h _ _ hx'.keeps
def a8P(g:s.heap.get? t=some o)(hc:o.cls=.type "tuple")(hd:o.data=.seq #[x,y] n)(h:Q [x,y] s):wpAny (model prog w) A (fO.Dict.pairItems (.ref t)) Q E s:=by
 obtain⟨c,a,b,e⟩:=o;simp only at hc hd;subst hc hd
 repeat (any_goals (first |assumption |wp_step))
end
abbrev Sv(h h':Heap):Prop:=∀b o,h.get? b=some o->h'.get? b=some o
section
variable{prog:fK}{w:World}{A:Around}{R:Result->Shared->Prop}{I:Addr}{fp wr:List Addr}{G:Array iY->Array iY->Prop}{n:Nat}{P:Nat->Value->Prop}{St:Nat->Shared->Prop}
def b3W(prog:fK)(w:World)(A:Around)(h0:Heap)(D:Nat->Heap->Prop)(d:Addr)(i:Nat)(v:Value):Prop:=∃t o x y m,v=.ref t/\h0.get? t=some o/\o.cls=.type "tuple"/\o.data=.seq #[x,y] m /\
 ∀(E:Value->Shared->Prop)(s:Shared)(Q:Unit->Shared->Prop),Sv h0 s.heap->D i s.heap->(∀h' tk,s.toks<=tk->D (i+1) h'->Heap.SameBut d s.heap h'->Q () { s with heap:=h',toks:=tk })->wpAny (model prog w) A (dictSet d x y) Q E s
def c06(W:WalksS prog w A.in1 I fp wr G n P St)(d:Addr)(hdf:d∉fp)(dm:∀i h h',D i h->Sv h0 h->Sv h0 h'->(∀o,h.get? d=some o->h'.get? d=some o)->D i h')
  (nw:∀b o,h0.get? b=some o->b≠d/\b∉wr) (hP:∀j v,P j v->b3W prog w A.in1 h0 D d j v) :
  ∀(k i:Nat)(s:Shared),n-i=k->i<=n->St i s->Sv h0 s.heap->D i s.heap->(∀s',Moved (d::wr) G s s'->D n s'.heap->R (.ok (.ret .none)) s') ->
   gf (model prog w) A (.builtin "dict.update.loop" ⟨[.ref d,.ref I,rawInt i,.none],[]⟩) R s:=by
 have r:=λh=>hdf (W.sub _ h);have V:∀b∈wr,b∈d::wr:=λb q=>bU _ q;intro k
 induction k with
 |zero=>
  intro i s hk hi p l F E;have L:i=n:=by lia
  subst L;exact g7 a4K (fF (W.done s _ _ p λa c=>(fF (fG (fG (E a (c.mono V) (dm _ _ _ F l (λb o e=>c.heap b o (nw b o e).2 (l b o e)) λo e=>c.heap d o r e)))))))
 |succ k ih=>
  intro i s hk hi p l F E;refine g7 a4K ?_;rw[Around.under_plainId a2S _];refine fF (W.item i s _ _ (by lia) p λv a M B c=>?_);obtain⟨t,o,x,y,m,rfl,g,hc,X,N⟩:=hP i v M;have f:=λb o e=>c.heap b o (nw b o e).2 (l b o e);refine fF (fZ (fF (wpAny_tryCatch (a8P (f t o g) hc X (fZ (N _ _ _ f (dm _ _ _ F l f λo e=>c.heap d o r e) λS tk J T Q=>?_))))));have u:∀b o,b≠d->a.heap.get? b=some o->S.get? b=some o:=λb o Y e=>by rw[Q.2 b Y];exact e
  refine fG ⟨ie a2S _,?_⟩;exact ih (i+1) { a with heap:=S,toks:=tk } (by lia) (by lia) (W.frame _ a _ _ B J λb q o e=>u b o (λz=>hdf (z▸q)) e) (λb o e=>u b o (nw b o e).1 (f b o e)) T
   λU H C=>E U (Moved.trans W.gtrans ((c.mono V).then_heap J λb o q e=>u b o (λz=>q (z▸b5)) e) H) C
def b0Q(hh:A.handled=none)
  (hl:s.heap.get? l=some { cls:=.type "list",dict:=none,data:=.seq items c,slots:=sl }) (dm:∀i h h',D i h->Sv s.heap h->Sv s.heap h'->(∀o,h.get? s.heap.objs.size=some o->h'.get? s.heap.objs.size=some o)->D i h')
  (d0:D 0 (s.heap.push { cls:=.type "dict",data:=.dict #[] })) (hi:∀(j:Nat) v,items[j]?=some v->b3W prog w A.in1.in1 s.heap D s.heap.objs.size j v)
  (h:∀(h':Heap)(tk:Nat),D items.size h'->Sv s.heap h'->Q (.ref s.heap.objs.size) { s with heap:=h',toks:=tk }) :
  wpAny (model prog w) A (call (.type "dict") [.ref l]) Q E s:=by
 refine callType_codes (Q₁:=λm u=>m=.ref s.heap.objs.size/\u={ s with heap:=s.heap.push { cls:=.type "dict",data:=.dict #[] } }) F.kt_called_dict (F.kt_typeCall_dict_1 _) F.entry_dict_init (kt_code_dict_new _ ⟨rfl,rfl⟩) ?_;rintro m u ⟨rfl,rfl⟩;have f:(s.heap.push { cls:=.type "dict",data:=.dict #[] }).get? l=some { cls:=.type "list",dict:=none,data:=.seq items c,slots:=sl }:=Heap.get?_push_of_some _ hl;have L:Shared.TypeIs { s with heap:=s.heap.push { cls:=.type "dict",data:=.dict #[] } } (.ref l) "list":=⟨_,f,rfl⟩;have H:Shared.TypeIs { s with heap:=s.heap.push { cls:=.type "dict",data:=.dict #[] } } (.ref s.heap.objs.size) "dict":=⟨_,Heap.get?_push_size _ rfl,rfl⟩;refine⟨H,F.args_dict_init_2 _ _,?_⟩;refine fF (fF (wpAny_notOrdered_dict H (fG ?_)))
 show wpAny _ _ (fO.Dict.updateFrom "dict.__init__" s.heap.objs.size (.ref l) [] .none) _ _ _
 refine fF (iR L (fF (b0P f (by lia) λa t1 k=>?_)));have C:a.IsList l items:=⟨_,k l _ f,rfl,c,rfl⟩;refine fF (gG (fF (iA C (fG ⟨ie a2S _,?_⟩))));have t:=Heap.lt_size hl;have p:=Heap.lt_size (k _ _ (Heap.get?_push_size _ rfl));have Y:A.in1.in1.handled=none:=by lia
 have W:s.heap.objs.size∉[a.objs.size,l]:=by grind
 have q:∀b o,s.heap.get? b=some o->b≠s.heap.objs.size/\b∉[a.objs.size]:=λb o e=>by
  have r:=Heap.lt_size e;exact⟨aQ r,λn=>by rw[aJ.mp n]at r;exact ca _ (cT r p)⟩
 have d:∀x,Sv s.heap (a.push x):=λx b o e=>Heap.get?_push_of_some _ ((λb o e=>k b o (Heap.get?_push_of_some _ e)) b o e);refine c06 ((Walks.list Y _ l (aQ (cT t p)) items).toS) s.heap.objs.size W dm q hi (items.size-0) 0 _ (by lia) (aW _)
  ⟨⟨_,Heap.get?_push_size _ rfl,rfl,rfl⟩,C.push _⟩ (d _) (dm 0 _ _ d0 (λb o e=>Heap.get?_push_of_some _ e) (d _) λo e=>Heap.get?_push_of_some _ (k _ o e)) λR g V=>?_
 obtain⟨S,T,J,y,B⟩:=R;have U:T=s.gens:=g.gens;have X:J=s.drawn:=g.drawn;have I:B=s.os:=g.os;subst U X I;refine⟨rfl,h S y V λb o e=>g.heap b o (λn=>?_) (d _ b o e)⟩;rcases aD.mp n with z |z
 ·exact (q b o e).1 z
 ·simp_all
end
section
variable{prog:fK}{w:World}{A:Around}{K:Type}[DecidableEq K]{knd:KeyKind prog w K}
def PairAt(knd:KeyKind prog w K)(h:Heap)(v:Value)(r:K×Value):Prop:=∃t o key m,v=.ref t/\h.get? t=some o/\o.cls=.type "tuple"/\o.data=.seq #[key,r.2] m/\knd.is r.1 key=true
def call_pairs(hh:A.handled=none)
  (hl:s.heap.get? l=some { cls:=.type "list",dict:=none,data:=.seq items c,slots:=sl }) (hi:∀(j:Nat) v,items[j]?=some v->∃r,rows[j]?=some r/\PairAt knd s.heap v r) (hn:items.size=rows.length) (hz:rows.length<=fH)
  (h:∀(h':Heap)(tk:Nat),h'.DictOf knd s.heap.objs.size (merged [] rows)->(∀b o,s.heap.get? b=some o->h'.get? b=some o)->Q (.ref s.heap.objs.size) { s with heap:=h',toks:=tk }) :
  wpAny (model prog w) A (call (.type "dict") [.ref l]) Q E s:=by
 refine b0Q (D:=λi h=>h.DictOf knd s.heap.objs.size (merged [] (rows.take i))) hh hl (by rintro i h d ⟨o,G,C,z,n⟩ _ _ q;exact⟨o,G,C,q _ z,n⟩) (Heap.DictOf.new s.heap) (λj v e=>?_) λd H a F=>h d H (by simp_all) F;obtain⟨r,B,t,o,p,m,rfl,g,y,x,k⟩:=hi j v e;refine⟨t,o,p,r.2,m,rfl,g,y,x,λE J Q I a q=>wpAny_dictSet_pairs k a (λd f u=>q d _ (cC _) (by rw[<- merged_take_succ _ _ _ _ B]at f;exact f) u) ?_⟩
 have:=merged_length_le [] (rows.take j)
 simp at this
 lia
end
end DictP
namespace L2
open PySem PySem.Spec PyProof.Rows
section
variable{X:Cx}
noncomputable def a8Q(rows:List (Addr×Key×V))(acc:List (Key×V)):List (Key×V):=rows.foldl (λacc r=>putK acc r.2.1 r.2.2) acc
def b8H(X:Cx):List V->Hp->VK->Prop:=λxs H Q=>∃(p:Addr)(rows:List (Addr×Key×V)),xs=[.ref p]/\SqL X.K H p (rows.map λr=>V.ref r.1)/\(∀r∈rows,H r.1=some (.tup [kV r.2.1,r.2.2]))/\rows.length<=1000 /\
 ∀t,H t=none->Q (.ref t) (upd H t (.dK (a8Q rows [])))
def b2J(ok:HOk P w H h):∀{rows:List (Addr×Key×V)},(∀r∈rows,H r.1=some (.tup [kV r.2.1,r.2.2]))->∃vs:List (Key×Value),vs.length=rows.length /\
  (∀(j:Nat) r,rows[j]?=some r->∃q,vs[j]?=some q/\DictP.PairAt (a0v P w) h (.ref r.1) q)/\∀acc bcc,KV acc bcc->KV (a8Q rows acc) (merged bcc vs):=by intro z0;induction z0 with
 |nil=>intro _;exact⟨[],rfl,λj r e=>by simp at e,λ_ _ k=>k⟩
 |cons r rows I0=>
  intro hr;obtain⟨m,p,d,l⟩:=I0 λr a=>hr r (.tail _ a);obtain⟨_,y,s,o,i,f,n,t⟩:=(ok _ _ (hr r (.head _)));obtain⟨b,u,rfl,g,c⟩:=Vals.two s;refine⟨(r.2.1,u)::m,by rw[aL,aL,p],λj q e=>?_,λx v k=>l _ _ (k.put r.2.1 c)⟩;cases j with
  |zero=>
   cases e;exact⟨_,rfl,r.1,o,b,n,rfl,i,f,t,a4g g⟩
  |succ j=>exact d j q (by simp_all)
def b0R:∀(rows:List (Addr×Key×V))(acc:List (Key×V)),(a8Q rows acc).length<=acc.length+rows.length:=by intro z0;induction z0 with
 |nil=>intro _;exact aC _
 |cons r rows I0=>
  intro acc
  have:=I0 (putK acc r.2.1 r.2.2)
  have:=a05 acc r.2.1 r.2.2
  show (a8Q rows (putK acc r.2.1 r.2.2)).length<=_
  rw[aL];omega
def a8R(hc:X.calm=true):CallR X (.type "dict") (b8H X):=by
 intro f s σ H xs us Q I r h;obtain⟨p,rows,rfl,T,ht,hz,q⟩:=h;obtain⟨u,rfl,V⟩:=a2L r;cases V;obtain⟨d,z,⟨o,n,F,C,E,B⟩,_⟩:=I.list T;obtain⟨c,dd,dt,sl⟩:=o;subst C E B;obtain⟨A,k,h2,W⟩:=b2J I.hok ht;have G:d.length=rows.length:=by have:=z.length;rw[aB]at this;lia
 have b:A.length<=sizeLine:=by grind
 refine DictP.call_pairs (knd:=a0v X.prog X.w) (I.ok.hd hc) F (λj v e=>?_) (by grind) b λg t M U=>?_
 ·have l:d[j]?=some v:=by simpa using e
  obtain⟨r,D⟩:∃r,rows[j]?=some r:=⟨rows[j]'(by grind),aN _⟩;obtain⟨q,m,pa⟩:=h2 j r D;obtain⟨u,y,N⟩:=z.get (by rw[aK,D];rfl);rw[l]at y;cases y;rw[N];exact⟨q,m,pa⟩
 ·have L:=W [] [] .nil;have Y:=(a4Y (P:=X.prog) (w:=X.w) (H:=λ_=>none) s.heap I.big).2.1;have R:=b0R rows [];have J:=
   I.laid (t':=t) U (aC _) (show ObjOk X.prog X.w _ g _ (.dK _) from ⟨by rw[fV];simp at R;lia,Y,_,L,M⟩)
  exact⟨.ref s.heap.objs.size,_,J,rfl,q _ (I.hok.fresh (aC s.heap.objs.size))⟩
end
section
variable{P:fK}{w:World}{A:Around}{E:Value->Shared->Prop}{s:Shared}
def a8S(h64:ss.length<64)
  (hcol:∀R:List Value->Shared->Prop,(∀(g:Heap)(tk:Nat)(d:Drawn)(vs:List Value)(ks:List Str),(∀b o,s.heap.get? b=some o->g.get? b=some o)->ip vs ks->ks.Perm ss->R vs { s with heap:=g,drawn:=d,toks:=tk })->wpAny (model P w) A.in1 (collect (.ref r)) R E s)
  (h:∀(g g':Heap)(tk:Nat)(d:Drawn)(out:List Value)(n:Nat)(ts:List Str),(∀b o,s.heap.get? b=some o->g.get? b=some o)->(∀b o,g.get? b=some o->g'.get? b=some o)->g'.get? g.objs.size=some { cls:=.type "list",data:=.seq out.toArray n } ->
   ip out ts->ts.Perm ss->ig ts=true->Q (.ref g.objs.size) { s with heap:=g',drawn:=d,toks:=tk }):wpAny (model P w) A (call (.builtin "sorted") [.ref r]) Q E s:=by
 refine Calls.call_function_entry jF jG jH (jI _) (fF (fG (fF (hcol _ λg t d f D x c l=>?_))));have F:=c.length.trans l.length_eq;have z:f.length<=sizeLine:=by rw[fV];lia
 refine fF (iX ?_ z);have k:(g.push _).get? g.objs.size=some (seqObj "list" f.toArray 0):=Heap.get?_push_size _ rfl;refine fF (fZ (gg jJ ⟨_,k,rfl⟩ jK (list_sort_treeK strKind_oneLt k c.keysOf (λH G B e=>keyKind_strs (e▸c)) (by lia) λi p v=>⟨_,rfl,?_⟩) (jL _)));obtain⟨y,u,C,q⟩:=sorted_out_str c p v;have a:=jM (out:=(arrOf i).map (·.2)) k;obtain⟨n,a⟩:=a;refine fG ⟨_,rfl,h g _ t d ((arrOf i).map (·.2)).toList n y x (λb o e=>?_) (by omega) u (C.trans l) q⟩;have j:=Heap.lt_size e;rw[jN (aQ j) (by rw[Heap.size_push];exact cx j)];exact Heap.get?_push_of_some _ e
def b5R(hl:vs.length=ss.length)(h:∀(i:Nat)(v:Value),vs[i]?=some v->∃(x:Str)(t:Tok),ss[i]?=some x/\v=Value.str x t):ip vs ss:=by
 induction vs generalizing ss with
 |nil=>cases ss with
  |nil=>exact .nil
  |cons _ _=>simp at hl
 |cons v vs ih=>cases ss with
  |nil=>simp at hl
  |cons x ss=>
   obtain⟨y,t,a,rfl⟩:=h 0 v rfl;cases a;exact .cons x t (ih (by simpa using hl) λi v e=>by simpa using h (i+1) v (by simpa using e))
end
section
variable{X:Cx}
def b2K(K:Fg):List V->Hp->VK->Prop:=λxs H Q=>∃(p:Addr)(kvs:List (Key×V))(ss:List Str),xs=[.ref p]/\H p=some (.dK kvs)/\kvs.map (·.1)=ss.map (λs=>(Sum.inr s:Key))/\ss.length<64 /\
 ∀(t:Addr)(ts:List Str),H t=none->ts.Perm ss->ig ts=true->Q (.ref t) (upd H t (.lst (ts.map V.str)))
def a54(hc:X.calm=true):CallR X (.builtin "sorted") (b2K X.K):=by
 intro y s σ H xs us Q I r h;obtain⟨p,kvs,ss,rfl,hd,L,F,q⟩:=h;obtain⟨u,rfl,rx⟩:=a2L r;cases rx;refine a8S F (λR U=>?_) λg g' j d E n M k1 k2 e T N a3=>?_
 ·obtain⟨z,lo,B,m,dd⟩:=b10 I.hok hd;obtain⟨ep,C⟩:=dd.dictAt;have D:B.length=ss.length:=by rw[<- m.length,<- aB,L,aB]
  refine PySem.W.kdu_collect (PySem.W.kdl_dict lo) (I.ok.hd hc) C (by rw[D,fV];lia) λg j S Y b=>(U g j s.drawn S.toList ss Y (b5R (by rw[bL,b.1,D]) λi v e=>?_) (.refl _));obtain⟨k,x,e1,e2⟩:=b.2 i v (by simp_all);have l:B.map (·.1)=ss.map λs=>(Sum.inr s):=m.keys▸L;have c:(ss.map λs=>(Sum.inr s))[i]?=some k:=by rw[<- l,aK,e1];rfl
  rw[aK]at c;cases hn:ss[i]? with
  |none=>rw[hn]at c;cases c
  |some n=>
   rw[hn]at c;cases c;obtain⟨t,e4⟩:=Value.isStrOf_shape e2;exact⟨n,t,rfl,e4⟩
 ·have G:Inv X y σ H { s with heap:=g,drawn:=d,toks:=j }:=(I.drew d).kept k1;exact⟨.ref g.objs.size,_,G.laid k2 (aC _) (show ObjOk X.prog X.w _ g' _ (.lst _) from ⟨by rw[aB,N.length_eq,fV];lia,E,n,a52 T,e⟩),rfl,q _ M (G.hok.fresh (aC _)) N a3⟩
end
end L2
namespace L3
open PySem PySem.Spec PyProof.Rows L2
section
variable{X:Cx}{K:Fg}{H:Hp}
def a7R(h:Rep K H (keyW k) v):v=kV k:=by
 match k,h with
 |.inl (some i),h=>rw[show keyW _=.int i from rfl,a0l]at h;exact h
 |.inl none,h=>rw[show keyW _=.non from rfl,a0A]at h;exact h
 |.inr x,h=>rw[show keyW _=.str x from rfl,a0s]at h;exact h
noncomputable def prZ(r:Key×Z):Z:=.tup [keyW r.1,r.2]
def b5S:∀{rows:List (Key×Z)}{vs:List V},Reps K H (rows.map prZ) vs->∃rs:List (Addr×Key×V),vs=rs.map (λr=>V.ref r.1)/\(∀r∈rs,H r.1=some (.tup [kV r.2.1,r.2.2]))/\rs.length=rows.length /\
  ∀acc bcc,bcc.map (·.1)=acc.map (·.1)->Reps K H (acc.map (·.2)) (bcc.map (·.2))->(a8Q rs bcc).map (·.1)=(a29 acc rows).map (·.1)/\Reps K H ((a29 acc rows).map (·.2)) ((a8Q rs bcc).map (·.2)):=by intro z0;induction z0 with
 |nil=>
  intro vs h;exact⟨[],h,λr e=>by simp at e,rfl,λf g b c=>⟨b,c⟩⟩
 |cons r rows I0=>
  intro vs h;obtain⟨v,x,rfl,b,c⟩:=h;obtain⟨t,rfl,l,n,u⟩:=I0 c;obtain⟨a,y,rfl,p,e⟩:=b;obtain⟨z,w,rfl,j,i⟩:=e.two
  have:=a7R j
  subst this;refine⟨(a,r.1,w)::t,rfl,λq d=>?_,by rw[aL,aL,n],λf g b s=>?_⟩
  ·rcases aD.mp d with rfl |d
   ·grind
   ·exact l q d
  ·obtain⟨m,o⟩:=a5c i b s;exact u _ _ m o
def b3X:List Z->Hq->K3->Prop:=λxs G R=>match xs with
 |[.ref p]=>∃rows:List (Key×Z),G p=some (.lst (rows.map prZ))/\rows.length<=1000/\∀t,G t=none->R (.ref t) (put G t (.dK (a29 [] rows)))
 |_=>False
def a6Q(hc:X.calm=true):a14 X (.type "dict") b3X:=a1n (a8R hc) λx H Q n=>n.un λg G R d b h q=>by
 match g,h with
 |[.ref p],h=>
  obtain⟨v,rfl,r⟩:=d.one;obtain⟨c,e,w,h⟩:=h;obtain⟨s,j,l⟩:=b _ _ e;obtain⟨d,rfl,f,u,k⟩:=b5S l;obtain⟨m,i⟩:=k [] [] rfl .nil;exact⟨p,d,by rw[r],SqL.of j,f,by lia,λt a=>q _ _ _ _ (h t (b.out a)) (by rw[a0x]) (b.set (.new a) ⟨_,a0j,m,i.mono (.new a)⟩) (.new a)⟩
def a6R(e:G p=some (.lst (rows.map prZ)))(z:rows.length<=1000)(h:∀t,G t=none->R (.ref t) (put G t (.dK (a29 [] rows)))):b3X [.ref p] G R:=⟨rows,e,z,h⟩
def a7S:List Z->Hq->K3->Prop:=λxs G R=>match xs with
 |[.ref p]=>∃(kvs:List (Key×Z))(ss:List Str),G p=some (.dK kvs)/\kvs.map (·.1)=ss.map (λs=>(Sum.inr s:Key))/\ss.length<64/\∀(t:Addr)(ts:List Str),G t=none->ts.Perm ss->ig ts=true->R (.ref t) (put G t (.lst (ts.map Z.str)))
 |_=>False
def a55(hc:X.calm=true):a14 X (.builtin "sorted") a7S:=a1n (a54 hc) λy H Q l=>l.un λg G R f b h u=>by
 match g,h with
 |[.ref p],h=>
  obtain⟨v,rfl,r⟩:=f.one;obtain⟨w,i,e,m,d,h⟩:=h;obtain⟨q,s,j,x⟩:=b _ _ e;exact⟨p,q,i,by rw[r],s,by rw[j];exact m,d,λt c a n k=>u _ _ _ _ (h t c (b.out a) n k) (by rw[a0x]) (b.set (.new a) ⟨_,a0j,a4J c⟩) (.new a)⟩
def a4L(e:G p=some (.dK kvs))(k:kvs.map (·.1)=ss.map (λs=>(Sum.inr s:Key)))(z:ss.length<64)(h:∀(t:Addr)(ts:List Str),G t=none->ts.Perm ss->ig ts=true->R (.ref t) (put G t (.lst (ts.map Z.str)))):a7S [.ref p] G R:=⟨kvs,ss,e,k,z,h⟩
theorem Reps.dropLast:∀{ws:List Z}{vs:List V},Reps K H ws vs->Reps K H ws.dropLast vs.dropLast
 |[],vs,h=>by rw[a0m]at h;subst h;exact .nil
 |[w],vs,h=>by
  obtain⟨v,rfl,_⟩:=h.one;exact .nil
 |w::w'::ws,vs,h=>by
  obtain⟨v,r,rfl,c,b⟩:=h;have a:=b;obtain⟨e,d,rfl,_,_⟩:=a;exact .cons c (Reps.dropLast b)
end
end L3
namespace L2
open PySem PySem.Spec PyProof.Rows Tim
noncomputable def ptV:Pz->V
 |.inl none=>.non
 |.inl (some i)=>.int i
 |.inr s=>.str s
theorem c07:∀{x:Pz}{u:Value},RelV (ptV x) u->PtIs x u
 |.inl none,_,h=>h
 |.inl (some _),_,h=>h
 |.inr _,_,h=>h
def b0S:∀{xs:List Pz}{us:List Value},Vals (xs.map ptV) us->PtsAre xs us:=by intro z0;induction z0 with
 |nil=>intro us r;rw[aX]at r;cases r;trivial
 |cons x xs I0=>
  intro us r;cases r with
  |cons r1 r2=>exact⟨c07 r1,I0 r2⟩
def b2L:∀{bs:List Addr}{us:List Value},Vals (bs.map V.ref) us->us=bs.map Value.ref:=by intro z0;induction z0 with
 |nil=>intro us r;rw[aX]at r;cases r;rfl
 |cons b bs I0=>
  intro us r;cases r with
  |cons r1 r2=>rw[I0 r2,r1];rfl
def a8T:∀bs:List Addr,Vals (bs.map V.ref) (bs.map Value.ref):=by intro z0;induction z0 with
 |nil=>exact .nil
 |cons b bs I0=>exact .cons rfl (I0)
def a8U:∀{bs:List Addr}{out:List Value},out.Perm (bs.map Value.ref)->∃cs:List Addr,out=cs.map Value.ref:=λ{g a} h=>by
 have:∀v∈a,∃b,v=Value.ref b:=λv f=>by
  obtain⟨b,_,e⟩:=aF.mp (h.mem_iff.mp f);exact⟨b,e.symm⟩
 clear h
 induction a with
 |nil=>exact⟨[],rfl⟩
 |cons v a ih=>
  obtain⟨b,rfl⟩:=this v (.head _);obtain⟨d,rfl⟩:=ih λu c=>this u (.tail _ c);exact⟨b::d,rfl⟩
def a4M(H:Hp)(bs:List Addr)(rows:List (List Pz)):Prop:=bs.length=rows.length/\∀(i:Nat)(b:Addr)(x:List Pz),bs[i]?=some b->rows[i]?=some x->H b=some (.tup (x.map ptV))
theorem a56(I:Inv X pins σ H s):∀{bs:List Addr}{rows:List (List Pz)},a4M H bs rows->RowsIn s.heap (bs.map Value.ref) rows
 |[],[],_=>trivial
 |[],_::_,h=>by have:=h.1;simp at this
 |_::_,[],h=>by have:=h.1;simp at this
 |b::bs,x::rows,h=>by
  refine⟨?_,a56 I ⟨by have:=h.1;simpa using this,λi c y e d=>h.2 (i+1) c y (by simp_all) (by simp_all)⟩⟩;obtain⟨_,j,r,o,g,a,n,f⟩:=(I.hok b _ (h.2 0 b x rfl rfl));exact⟨b,o,_,n,rfl,g,a,f,by simpa using b0S r⟩
def b2M(K:Fg):List V->Hp->VK->Prop:=λxs H Q=>∃(p:Addr)(bs:List Addr)(rows:List (List Pz))(m:Nat),xs=[.ref p]/\SqL K H p (bs.map V.ref)/\a4M H bs rows/\bs.length<=100000/\(a2p rows\/a3q rows)/\(∀x∈rows,x.length=m)/\(∀x∈rows,∀y∈rows,cmpT x y=true) /\
 ∀(t:Addr)(cs:List Addr)(os:List (List Pz)),H t=none->a4M H cs os->os.Perm rows->os.Pairwise (λx y=>ltT y x=false)->Q (.ref t) (upd H t (.lst (cs.map V.ref)))
def a57:CallR X (.builtin "sorted") (b2M X.K):=by
 intro t s σ H xs us Q I r h;obtain⟨p,a,k,m,rfl,hq,C,hbl,hf,hm,hc,q⟩:=h;obtain⟨u,rfl,rx⟩:=a2L r;cases rx;obtain⟨N,rv,pl,_⟩:=I.list hq
 have:=b2L rv
 subst this;have R:(a.map Value.ref).length<=sizeLine:=by rw[aB,fV];omega
 refine Calls.call_function_entry jF jG jH (jI _) ?_;unfold fO.«sorted»;refine fF (fG (fF (collect_list pl.isList ?_ R)));have G:∀b o,s.heap.get? b=some o->((s.heap.push (seqObj "list" #[] 0)).update s.heap.objs.size (Obj.mapSeq (·++(a.map Value.ref).toArray))).get? b=some o:=λb o e=>by
  have d:=Heap.lt_size e;rw[Heap.get?_update_ne _ _ _ _ (aQ d)];exact Heap.get?_push_of_some _ e
 generalize (s.heap.push (seqObj "list" #[] 0)).update s.heap.objs.size (Obj.mapSeq (·++(a.map Value.ref).toArray))=g at G ⊢;have z:=I.kept (t':=s.toks) G;refine fF (iX ?_ R);have D:(g.push _).get? g.objs.size=some (seqObj "list" (a.map Value.ref).toArray 0):=Heap.get?_push_size _ rfl;have U:Inv X t σ H { s with heap:=g.push (seqObj "list" (a.map Value.ref).toArray 0) }:=z.kept (t':=s.toks) λb o e=>Heap.get?_push_of_some _ e;refine fF (fZ (gg jJ ⟨_,D,rfl⟩ jK (Tim.sort_tups D (by rw[aB];omega) (a56 U C) hf hm hc λout S A F a3 a4=>⟨_,rfl,?_⟩) (jL _)));have l:=jM (out:=out.toArray) D;obtain⟨n,l⟩:=l;obtain⟨f,rfl⟩:=a8U A;have hcl:f.length=a.length:=by have:=A.length_eq;simpa using this
 have tc:a4M H f S:=by
  refine⟨by rw[F,aB,aB],λi c x T M=>?_⟩;rw[F,aK,aK,T]at M;cases M;have B:=A.mem_iff.mp (bh (aS T));obtain⟨c',E,e⟩:=aF.mp B;cases e;obtain⟨j,L⟩:=bH E;obtain⟨y,hy⟩:∃y,k[j]?=some y:=⟨k[j]'(by have:=(aI.mp L).1;rw[<- C.1];exact this),by simp⟩;have J:=C.2 j c y L hy;obtain⟨_,N,r,o,Y,W,n,h3⟩:=(U.hok c _ J)
  have:RowIn (g.push (seqObj "list" (a.map Value.ref).toArray 0)) (.ref c) y:=⟨c,o,_,n,rfl,Y,W,h3,by simpa using b0S r⟩
  show H c=some _
  rw[a1c this];exact J
 refine fG ⟨_,rfl,?_⟩;exact⟨.ref g.objs.size,_,z.laid (t':=s.toks) (λb o e=>by
  have d:=Heap.lt_size e;rw[jN (aQ d) (by rw[Heap.size_push];exact cx d)];exact Heap.get?_push_of_some _ e) (aC _) (show ObjOk X.prog X.w _ _ _ (.lst (f.map V.ref)) from ⟨by rw[aB,fV];omega,f.map Value.ref,n,a8T f,by simpa using l⟩),rfl,q _ f S (z.hok.fresh (aC _)) tc a3 a4⟩
end L2
namespace L3
open PySem PySem.Spec PyProof.Rows L2 Tim
noncomputable def ptZ:Pz->Z
 |.inl none=>.non
 |.inl (some i)=>.int i
 |.inr s=>.str s
noncomputable def tupZ(x:List Pz):Z:=.tup (x.map ptZ)
theorem rep_pt{K:Fg}:∀{x:Pz}{v:V},Rep K H (ptZ x) v↔v=ptV x
 |.inl none,v=>by unfold ptZ ptV;rw[a0A]
 |.inl (some _),v=>by unfold ptZ ptV;rw[a0l]
 |.inr _,v=>by unfold ptZ ptV;rw[a0s]
theorem reps_pts{K:Fg}:∀{xs:List Pz}{vs:List V},Reps K H (xs.map ptZ) vs↔vs=xs.map ptV
 |[],vs=>by rw[aX,a0m,aX]
 |x::xs,vs=>by
  rw[aO,a0K,aO]
  constructor
  ·rintro⟨v,r,rfl,a,b⟩;rw[rep_pt.mp a,reps_pts.mp b]
  ·rintro rfl;exact⟨_,_,rfl,rep_pt.mpr rfl,reps_pts.mpr rfl⟩
def b0T{K:Fg}:∀{rows:List (List Pz)}{vs:List V},Reps K H (rows.map tupZ) vs->∃bs:List Addr,vs=bs.map V.ref/\a4M H bs rows:=by intro z0;induction z0 with
 |nil=>
  intro vs h;subst h;exact⟨[],rfl,rfl,λi b x e=>by simp at e⟩
 |cons x rows I0=>
  intro vs h;obtain⟨v,r,rfl,c,m⟩:=h;obtain⟨a,n,rfl,e,k⟩:=c;rw[reps_pts.mp k]at e;obtain⟨l,rfl,j,g⟩:=I0 m;refine⟨a::l,rfl,by rw[aL,aL,j],λi b y d f=>?_⟩;cases i with
  |zero=>cases d;cases f;exact e
  |succ i=>exact g i b y (by simp_all) (by simp_all)
theorem a58{K:Fg}:∀{bs:List Addr}{rows:List (List Pz)},a4M H bs rows->Reps K H (rows.map tupZ) (bs.map V.ref)
 |[],[],_=>by rw[aX,aX,a0m]
 |[],_::_,h=>by have:=h.1;simp at this
 |_::_,[],h=>by have:=h.1;simp at this
 |b::bs,x::rows,h=>by
  refine⟨_,_,rfl,?_,a58 ⟨by have:=h.1;simpa using this,λi c y d a=>h.2 (i+1) c y (by simp_all) (by simp_all)⟩⟩;exact⟨b,_,rfl,h.2 0 b x rfl rfl,reps_pts.mpr rfl⟩
def a5d:List Z->Hq->K3->Prop:=λxs G R=>match xs with
 |[.ref p]=>∃(rows:List (List Pz))(m:Nat),G p=some (.lst (rows.map tupZ))/\rows.length<=100000/\(a2p rows\/a3q rows)/\(∀x∈rows,x.length=m)/\(∀x∈rows,∀y∈rows,cmpT x y=true)/\∀(t:Addr)(os:List (List Pz)),G t=none->os.Perm rows->os.Pairwise (λx y=>ltT y x=false)->R (.ref t) (put G t (.lst (os.map tupZ)))
 |_=>False
def a3T:a14 X (.builtin "sorted") a5d:=a1n a57 λL H Q y=>y.un λn G R B d h J=>by
 match n,h with
 |[.ref p],h=>
  obtain⟨v,rfl,r⟩:=B.one;obtain⟨c,m,e,w,k,I,s,h⟩:=h;obtain⟨M,u,D⟩:=d _ _ e;obtain⟨A,rfl,g⟩:=b0T D;exact⟨p,A,c,m,by rw[r],SqL.of u,g,by rw[g.1];exact w,k,I,s,λt N f a j l E=>J _ _ _ _ (h t f (d.out a) l E) (by rw[a0x]) (d.set (.new a) ⟨_,a0j,a58 ⟨j.1,λi b x C F=>by
   have q:=j.2 i b x C F;rw[a0g (λz=>by rw[z,a]at q;cases q)];exact q⟩⟩) (.new a)⟩
def a59(e:G p=some (.lst (rows.map tupZ)))(z:rows.length<=100000)(hf:a2p rows)(hm:∀x∈rows,x.length=m)(hc:∀x∈rows,∀y∈rows,cmpT x y=true)(h:∀(t:Addr)(os:List (List Pz)),G t=none->os.Perm rows->os.Pairwise (λx y=>ltT y x=false)->R (.ref t) (put G t (.lst (os.map tupZ)))):a5d [.ref p] G R:=⟨rows,m,e,z,.inl hf,hm,hc,h⟩
def b0U(e:G p=some (.lst (rows.map tupZ)))(z:rows.length<=100000)(hf:a3q rows)(hm:∀x∈rows,x.length=m)(hc:∀x∈rows,∀y∈rows,cmpT x y=true)(h:∀(t:Addr)(os:List (List Pz)),G t=none->os.Perm rows->os.Pairwise (λx y=>ltT y x=false)->R (.ref t) (put G t (.lst (os.map tupZ)))):a5d [.ref p] G R:=⟨rows,m,e,z,.inr hf,hm,hc,h⟩
end L3
namespace L2
open PySem PySem.Spec PyProof.Rows
def b2N:IxR X (λx y H Q=>∃a kvs k v,x=.ref a/\y=kV k/\Rd H a (.dK kvs)/\valV kvs k=some v/\Q v H):=by
 intro h i b s σ H x y v u Q I B j ⟨a,D,k,w,A,m,e,l,q⟩ p;subst A m;cases B;obtain⟨z,E,t,d,c⟩:=a8r I.hok e;obtain⟨f,C,g⟩:=RelO.some_of (l▸d.val k);exact iU c.typeIs PySem.F.slot_dict_getitem.lookup (wpAny_getItem_of (a4g j) c.mapOf C ⟨rfl,w,H,I.tok _,g,q⟩) p
end L2
namespace L3
open PySem PySem.Spec PyProof.Rows L2
def b8I:R3:=λx y G R=>match x with
 |.ref p=>∃kvs k z,(G p=some (.dK kvs)\/G p=some (.dF kvs))/\keyZ y=some k/\valZ kvs k=some z/\R z G
 |_=>False
def a3U:IxQ X b8I:=b4L b2N λx y H Q u=>u.un λa b G R l o j h v=>by
 cases a with
 |ref p=>
  obtain⟨i,k,z,e,m,t,h⟩:=h;obtain⟨c,f,d,g⟩:∃c,Rd H p (.dK c)/\c.map _=i.map _/\Reps X.K H _ (c.map _):=by
   rcases e with e |e
   ·obtain⟨c,f,d,g⟩:=j _ _ e;exact⟨c,.inl f,d,g⟩
   ·obtain⟨q,c,f,d,g⟩:=j _ _ e;exact⟨c,.inr ⟨q,f⟩,d,g⟩
  obtain⟨s,n,r⟩:=(a0G d g).2 z t;exact⟨p,c,k,s,l,a1v m o,f,n,v _ _ _ _ h r j (.refl _ _)⟩
 |_=>exact aH h
def a3V(e:G p=some (.dK kvs)\/G p=some (.dF kvs))(a:keyZ y=some k)(v:valZ kvs k=some w)(h:R w G):b8I (.ref p) y G R:=⟨kvs,k,w,e,a,v,h⟩
end L3
namespace L2
open PySem PySem.Spec PyProof.Rows
section
variable{X:Cx}
end
end L2
namespace L3
open PySem PySem.Spec PyProof.Rows L2
section
variable{X:Cx}{e:Expr}{es:List Expr}{t:A3}{x y:Str}{p p2 pos pos2:Pos}
end
end L3
namespace DictP
open PySem PyProof.Rows
section
variable{prog:fK}{w:World}{K:Type}[DecidableEq K]{knd:KeyKind prog w K}
def b0V(x:(gn knd).is h k a)(q:∀o,h.get? a=some o->h'.get? a=some o):(gn knd).is h' k a:=by
 obtain⟨o,b,n,e,r⟩:=x;exact⟨o,b,n,q o e,r⟩
noncomputable def mergedH(acc rows:List (List K×Addr×Value)):List (List K×Addr×Value):=rows.foldl (λacc r=>gJ acc r.1 r.2.1 r.2.2) acc
def a8V{k:List K}(h:x∈gJ xs k a v):x.2.1=a\/∃y∈xs,x.2.1=y.2.1:=by
 unfold gJ at h
 split at h
 ·obtain⟨y,b,rfl⟩:=aF.mp h;refine .inr ⟨y,b,?_⟩;unfold putAt
  split<;>rfl
 ·rcases aE.mp h with h |h
  ·exact .inr ⟨x,h,rfl⟩
  ·rw[aJ.mp h];exact .inl rfl
def a8W{k:List K}:(gJ xs k a v).length<=xs.length+1:=by
 unfold gJ
 split<;>simp
def a6S:∀{rows acc:List (List K×Addr×Value)}{x:List K×Addr×Value},x∈mergedH acc rows->(∃y∈rows,x.2.1=y.2.1)\/∃y∈acc,x.2.1=y.2.1:=by intro z0;induction z0 with
 |nil=>intro acc x h;exact .inr ⟨x,h,rfl⟩
 |cons r rows I0=>
  intro acc x h;rcases I0 h with ⟨y,hy,e⟩ |⟨y,hy,e⟩
  ·exact .inl ⟨y,.tail _ hy,e⟩
  ·rcases a8V hy with e2 |⟨z,hz,e2⟩
   ·exact .inl ⟨r,.head _,e.trans e2⟩
   ·exact .inr ⟨z,hz,e.trans e2⟩
theorem a3W:∀{rows acc:List (List K×Addr×Value)},(mergedH acc rows).length<=acc.length+rows.length
 |[],_=>aC _
 |r::rows,acc=>by
  have c:=a3W (rows:=rows) (acc:=gJ acc r.1 r.2.1 r.2.2);have b:=a8W (xs:=acc) (k:=r.1) (a:=r.2.1) (v:=r.2.2)
  show (mergedH (gJ acc r.1 r.2.1 r.2.2) rows).length<=_
  rw[aL];lia
def a6a{rows:List (List K×Addr×Value)}(h:rows[i]?=some r):mergedH [] (rows.take (i+1))=gJ (mergedH [] (rows.take i)) r.1 r.2.1 r.2.2:=by
 unfold mergedH;rw[b6,h,e9]
 rfl
def b5T{h h':Heap}(D:h.DictOfH (gn knd) d xs)(hd:∀o,h.get? d=some o->h'.get? d=some o)(q:∀x∈xs,∀o,h.get? x.2.1=some o->h'.get? x.2.1=some o):h'.DictOfH (gn knd) d xs:=by
 obtain⟨o,e,j,b,g,f,i,k,c⟩:=D;exact⟨o,e,j,hd o b,g,f,i,λx a=>b0V (k x a) (q x a),c⟩
def PairT(knd:KeyKind prog w K)(h:Heap)(v:Value)(r:List K×Addr×Value):Prop:=∃t o m,v=.ref t/\h.get? t=some o/\o.cls=.type "tuple"/\o.data=.seq #[.ref r.2.1,r.2.2] m/\(gn knd).is h r.1 r.2.1
end
section
variable{prog:fK}{w:World}{A:Around}{K:Type}[DecidableEq K]{knd:KeyKind prog w K}
def call_pairsT(hh:A.handled=none)(hu:A.units+5<cLine)
  (hl:s.heap.get? l=some { cls:=.type "list",dict:=none,data:=.seq items c,slots:=sl }) (hi:∀(j:Nat) v,items[j]?=some v->∃r,rows[j]?=some r/\PairT knd s.heap v r) (hn:items.size=rows.length) (hz:rows.length<=fH)
  (h:∀(h':Heap)(tk:Nat),h'.DictOfH (gn knd) s.heap.objs.size (mergedH [] rows)->(∀b o,s.heap.get? b=some o->h'.get? b=some o)->Q (.ref s.heap.objs.size) { s with heap:=h',toks:=tk }) :
  wpAny (model prog w) A (call (.type "dict") [.ref l]) Q E s:=by
 have G:∀r∈rows,∃o,s.heap.get? r.2.1=some o:=λr p=>by
  obtain⟨j,z⟩:=bH p;have R:=(aI.mp z).1;obtain⟨S,F,t,o,m,_,_,_,_,U,_,_,M,_⟩:=hi j (items[j]'(by lia)) (by simp);rw[z]at F;cases F;exact⟨_,M⟩
 refine b0Q (D:=λi h=>h.DictOfH (gn knd) s.heap.objs.size (mergedH [] (rows.take i))) hh hl (λi h d a n C q=>b5T a q λx N o e=>?_) (Heap.DictOfH.new s.heap) (λj v e=>?_) λd L a H=>h d L (by simp_all) H
 ·rcases a6S N with ⟨y,hy,e'⟩ |⟨y,hy,_⟩
  ·obtain⟨T,B⟩:=G y (bS hy);rw[e']at e ⊢
   have:=n _ _ B
   rw[e]at this;cases this;exact C _ _ B
  ·simp at hy
 ·obtain⟨r,p,t,o,m,rfl,g,J,I,k⟩:=hi j v e;refine⟨t,o,.ref r.2.1,r.2.2,m,rfl,g,J,I,λE V Q n a q=>wpAny_dictSet_heap (im (show A.units+1+1<cLine by lia)) (b0V k λo e=>n _ o e) a (λd f u=>q d _ (Nat.le_add_right _ _) (by rw[<- a6a p]at f;exact f) u) ?_⟩
  have:=a3W (acc:=[]) (rows:=rows.take j)
  simp at this
  lia
end
end DictP
namespace L2
open PySem PySem.Spec PyProof.Rows
section
variable{X:Cx}
noncomputable def a6b(rows:List (Addr×Addr×List Key×V))(acc:List (List Key×V)):List (List Key×V):=rows.foldl (λacc r=>putK acc r.2.2.1 r.2.2.2) acc
def b8J(X:Cx):List V->Hp->VK->Prop:=λxs H Q=>∃(p:Addr)(rows:List (Addr×Addr×List Key×V)),xs=[.ref p]/\SqL X.K H p (rows.map λr=>V.ref r.1)/\(∀r∈rows,H r.1=some (.tup [.ref r.2.1,r.2.2.2])/\H r.2.1=some (.tup (r.2.2.1.map kV)))/\rows.length<=1000 /\
 ∀t,H t=none->Q (.ref t) (upd H t (.dT (a6b rows [])))
def b0W(ok:HOk P w H h):∀{rows:List (Addr×Addr×List Key×V)},(∀r∈rows,H r.1=some (.tup [.ref r.2.1,r.2.2.2])/\H r.2.1=some (.tup (r.2.2.1.map kV)))->∃vs:List (List Key×Addr×Value),vs.length=rows.length /\
  (∀(j:Nat) r,rows[j]?=some r->∃q,vs[j]?=some q/\DictP.PairT (a0v P w) h (.ref r.1) q)/\∀acc bcc,KT H acc bcc->KT H (a6b rows acc) (DictP.mergedH bcc vs):=by intro z0;induction z0 with
 |nil=>intro _;exact⟨[],rfl,λj r e=>by simp at e,λ_ _ k=>k⟩
 |cons r rows I0=>
  intro hr;obtain⟨l,m,t,s⟩:=I0 λr c=>hr r (.tail _ c);obtain⟨b,a⟩:=hr r (.head _);obtain⟨_,z,g,o,f,p,n,x⟩:=(ok _ _ b);obtain⟨d,u,rfl,v,i⟩:=Vals.two g;cases (v);refine⟨(r.2.2.1,r.2.1,u)::l,by rw[aL,aL,m],λj q e=>?_,λA y k=>s _ _ (k.put r.2.2.1 a i)⟩;cases j with
  |zero=>
   cases e;exact⟨_,rfl,r.1,o,n,rfl,f,p,x,a3D ok a⟩
  |succ j=>exact t j q (by simpa using e)
def b0X:∀(rows:List (Addr×Addr×List Key×V))(acc:List (List Key×V)),(a6b rows acc).length<=acc.length+rows.length:=by intro z0;induction z0 with
 |nil=>intro _;exact aC _
 |cons r rows I0=>
  intro acc
  have:=I0 (putK acc r.2.2.1 r.2.2.2)
  have:=a05 acc r.2.2.1 r.2.2.2
  show (a6b rows (putK acc r.2.2.1 r.2.2.2)).length<=_
  rw[aL];omega
def a8X(hc:X.calm=true)(hu:X.A.units+66<cLine):CallR X (.type "dict") (b8J X):=by
 intro k s σ H xs us Q I r h;obtain⟨p,rows,rfl,T,ht,hz,q⟩:=h;obtain⟨u,rfl,rx⟩:=a2L r;cases rx;obtain⟨f,m,⟨o,n,R,D,t,J⟩,_⟩:=I.list T;obtain⟨c,dd,dt,sl⟩:=o;simp only at D t J;subst D t J;obtain⟨B,E,h2,U⟩:=b0W I.hok ht;have hl:f.length=rows.length:=by have:=m.length;rw[aB]at this;lia
 have d:B.length<=sizeLine:=by rw[E,fV];lia
 refine DictP.call_pairsT (knd:=a0v X.prog X.w) (I.ok.hd hc) (by lia) R (λj v e=>?_) (by rw[E,bB];exact hl) d λg G hD kp=>?_
 ·have C:f[j]?=some v:=by simpa using e
  obtain⟨r,z⟩:∃r,rows[j]?=some r:=⟨rows[j]'(by grind),aN _⟩;obtain⟨q,y,pa⟩:=h2 j r z;obtain⟨u,F,V⟩:=m.get (by rw[aK,z];rfl);rw[C]at F;cases F;rw[V];exact⟨q,y,pa⟩
 ·have k0:=U [] [] .nil;have l:=I.hok.fresh (aC s.heap.objs.size);have N:=(a4Y (P:=X.prog) (w:=X.w) (H:=λ_=>none) s.heap I.big).2.1;have S:=b0X rows [];obtain⟨ob,es,ep,M,g2,g3,L,_,Y⟩:=hD;have W:=
   I.laid (t':=G) kp (aC _) (show ObjOk X.prog X.w _ g _ (.dT (a6b rows [])) from ⟨by rw[fV];simp at S;lia,N,_,k0.keeps λb ys e=>by rw[a0g (a0y e l)];exact e,ob,es,ep,M,g2,g3,L,Y⟩)
  exact⟨.ref s.heap.objs.size,_,W,rfl,q _ l⟩
end
end L2
namespace L3
open PySem PySem.Spec PyProof.Rows L2
section
variable{X:Cx}{K:Fg}{H:Hp}
def b0Y:∀{k:List Key}{vs:List V},Reps K H (k.map keyW) vs->vs=k.map kV:=by intro z0;induction z0 with
 |nil=>intro vs h;rw[aX,a0m]at h;exact h
 |cons k ks I0=>
  intro vs h;obtain⟨v,r,rfl,b,a⟩:=h;rw[a7R b,I0 a];rfl
def a7T{k:List Key}(h:Rep K H (.tup (k.map keyW)) v):∃b,v=.ref b/\H b=some (.tup (k.map kV)):=by
 obtain⟨a,e,rfl,d,c⟩:=h;exact⟨a,rfl,by rw[d,b0Y c]⟩
noncomputable def prT(r:List Key×Z):Z:=.tup [.tup (r.1.map keyW),r.2]
def b2O{k j:List Key}:j∈(putK kvs k v).map (·.1)↔j=k\/j∈kvs.map (·.1):=by
 unfold putK
 split
 ·next hc=>
  obtain⟨p,b,c⟩:=cn.mp hc;have e:(kvs.map λa=>if a.1=k then (a.1,v) else a).map (·.1)=kvs.map (·.1):=by
   rw[aU];refine cm λx _=>?_
   show (if x.1=k then _ else x).1=x.1
   split<;>rfl
  rw[e];refine⟨.inr,λh=>h.elim (λz=>?_) id⟩;rw[z,<- of_decide_eq_true c];exact bh b
 ·rw[aP,aE]
  constructor
  ·rintro (h |h)
   ·exact .inr h
   ·exact .inl (by simp_all)
  ·rintro (h |h)
   ·exact .inr (by simp[h])
   ·exact .inl h
def b2P:∀{rows:List (List Key×Z)}{vs:List V},Reps K H (rows.map prT) vs->∃rs:List (Addr×Addr×List Key×V),vs=rs.map (λr=>V.ref r.1)/\(∀r∈rs,H r.1=some (.tup [.ref r.2.1,r.2.2.2])/\H r.2.1=some (.tup (r.2.2.1.map kV)))/\rs.length=rows.length /\
  ∀bcc j,j∈(a6b rs bcc).map (·.1)↔j∈rows.map (·.1)\/j∈bcc.map (·.1):=by intro z0;induction z0 with
 |nil=>
  intro vs h;exact⟨[],h,λr f=>by simp at f,rfl,λc j=>by simp[a6b]⟩
 |cons r rows I0=>
  intro vs h;obtain⟨v,w,rfl,e,k⟩:=h;obtain⟨i,rfl,n,m,p⟩:=I0 k;obtain⟨a,t,rfl,l,f⟩:=e;obtain⟨x,g,rfl,s,u⟩:=f.two;obtain⟨b,rfl,o⟩:=a7T s;refine⟨(a,b,r.1,g)::i,rfl,λq d=>?_,by rw[aL,aL,m],λc j=>?_⟩
  ·rcases aD.mp d with rfl |d
   ·simp_all
   ·exact n q d
  ·show j∈(a6b i _).map _↔_
   rw[p,b2O,aO,aD]
   constructor
   ·rintro (h |h |h)
    ·exact .inl (.inr h)
    ·exact .inl (.inl h)
    ·exact .inr h
   ·rintro ((h |h) |h)
    ·exact .inr (.inl h)
    ·exact .inl h
    ·exact .inr (.inr h)
def b3Y:List Z->Hq->K3->Prop:=λxs G R=>match xs with
 |[.ref p]=>∃rows:List (List Key×Z),G p=some (.lst (rows.map prT))/\rows.length<=1000/\∀t ks,G t=none->(∀j,j∈ks↔j∈rows.map (·.1))->R (.ref t) (put G t (.dT ks))
 |_=>False
def b0Z(hc:X.calm=true)(hu:X.A.units+66<cLine):a14 X (.type "dict") b3Y:=a1n (a8X hc hu) λq H Q i=>i.un λf G R c a h n=>by
 match f,h with
 |[.ref p],h=>
  obtain⟨v,rfl,r⟩:=c.one;obtain⟨g,e,u,h⟩:=h;obtain⟨s,l,k⟩:=a _ _ e;obtain⟨c,rfl,d,w,m⟩:=b2P k;exact⟨p,c,by rw[r],SqL.of l,d,by lia,λt b=>n _ _ _ _ (h t _ (a.out b) λj=>by rw[m [] j];simp) (by rw[a0x]) (a.set (.new b) ⟨_,a0j,rfl⟩) (.new b)⟩
def b00{rows:List (List Key×Z)}(e:G p=some (.lst (rows.map prT)))(z:rows.length<=1000)(h:∀t ks,G t=none->(∀j,j∈ks↔j∈rows.map (·.1))->R (.ref t) (put G t (.dT ks))):b3Y [.ref p] G R:=⟨rows,e,z,h⟩
noncomputable def hasK(ks:List (List Key))(k:List Key):Bool:=ks.any λj=>decide (j=k)
def b2Q:hasK ks k=true↔k∈ks:=by simp[hasK]
def zTIn(f:Bool->Bool):R3:=λx y G R=>match y with
 |.ref p=>∃ks k,G p=some (.dT ks)/\x=.tup (k.map keyW)/\R (.bl (f (hasK ks k))) G
 |_=>False
def b01:(valV kvs k).isSome=hasK (kvs.map (·.1)) k:=by
 rw[<- a7s];unfold hasK;rw[List.any_map]
 rfl
def a7U(hu:X.A.units+66<cLine):OpQ X (fN .NotIn) (zTIn not):=a2P (b0E hu) λx y H Q g=>g.un λa b G R n f d h i=>by
 cases b with
 |ref p=>
  obtain⟨o,k,e,rfl,h⟩:=h;obtain⟨l,j,rfl⟩:=d _ _ e;obtain⟨c,rfl,m⟩:=a7T n;exact⟨p,valV l k,f,DGet.t j m,i _ _ _ _ h (by rw[a0u,b01]) d (.refl _ _)⟩
 |_=>exact aH h
def b8K(e:G p=some (.dT ks))(ex:x=.tup (k.map keyW))(h:R (.bl (f (hasK ks k))) G):zTIn f x (.ref p) G R:=⟨ks,k,e,ex,h⟩
end
def uAny{ι:Type}(u:ι->E3):E3:=fun σ G R=>∃b,u b σ G R
def b8L{ι:Type}{u:ι->E3}(h:∀b,QE X e (u b)):QE X e (uAny u):=⟨by rintro a s τ H Q I ⟨σ,G,R,c,d,⟨b,f⟩,g⟩;exact (h b).p a s τ H Q I ⟨σ,G,R,c,d,f,g⟩⟩
def b5U{ι:Type}{u:ι->E3}(b:ι)(h:u b σ G R):uAny u σ G R:=⟨b,h⟩
end L3
namespace L2
open PySem PySem.Spec PyProof.Rows
end L2
namespace L3
open PySem PySem.Spec PyProof.Rows L2
end L3
namespace Tim
open PySem PyProof.Rows PySem.W
def RowQ(h:Heap)(v:Value)(xs:List Pz):Prop:=∃a o its n ps b,v=.ref a/\h.get? a=some o/\o.cls=.type "tuple"/\o.data=.seq its n/\its.toList=ps++[Value.ref b]/\PtsAre xs ps
def RowQ.uniq(r:RowQ h v xs)(q:RowQ h v ys):xs=ys:=by
 obtain⟨a,o,s,n,x,b,rfl,j,_,m,l,g⟩:=r;obtain⟨z,y,k,u,t,w,i,f,_,d,c,p⟩:=q;cases i;rw[j]at f;cases f;rw[m]at d;cases d;rw[l]at c;have e:=(List.append_inj' c rfl).1;subst e;exact g.uniq p
def RowsQ(h:Heap):List Value->List (List Pz)->Prop
 |[],[]=>True
 |v::vs,x::xs=>RowQ h v x/\RowsQ h vs xs
 |_,_=>False
theorem RowsQ.mem:∀{vs:List Value}{rows:List (List Pz)},RowsQ h vs rows->∀v∈vs,∃x∈rows,RowQ h v x
 |v::vs,x::xs,⟨r,q⟩,u,hu=>by
  rcases aD.mp hu with rfl |hu
  ·exact⟨x,.head _,r⟩
  ·obtain⟨y,a,b⟩:=q.mem u hu;exact⟨y,.tail _ a,b⟩
 |[],[],_,u,hu=>by simp at hu
 |[],_::_,r,_,_=>r.elim
 |_::_,[],r,_,_=>r.elim
theorem RowsQ.inj:∀{vs:List Value}{rows:List (List Pz)},RowsQ h vs rows->rows.Nodup->∀{v u x},v∈vs->u∈vs->RowQ h v x->RowQ h u x->v=u
 |w::vs,y::ys,⟨r,q⟩,nd,v,u,x,hv,hu,e1,e2=>by
  obtain⟨e,g⟩:=bx.mp nd;have c:∀{z},z∈vs->RowQ h z x->RowQ h w x->False:=λf a b=>by
   obtain⟨j,d,i⟩:=q.mem _ f;rw[i.uniq a]at d;rw[b.uniq r]at d;exact e d
  rcases aD.mp hv with c1 |c1
  ·rcases aD.mp hu with c2 |c2
   ·simp_all
   ·rw[c1]at e1;exact (c c2 e2 e1).elim
  ·rcases aD.mp hu with c2 |c2
   ·rw[c2]at e2;exact (c c1 e1 e2).elim
   ·exact q.inj g c1 c2 e1 e2
 |[],[],_,_,_,_,_,hv,_,_,_=>by simp at hv
 |[],_::_,r,_,_,_,_,_,_,_,_=>r.elim
 |_::_,[],r,_,_,_,_,_,_,_,_=>r.elim
def RowQ.mid{vs ws:List Value}(ho:h.get? a=some (seqObj "list" ws.toArray n))(r:RowQ h v x):RowQ (a1t h a vs) v x:=by
 obtain⟨b,o,f,m,i,c,j,d,e,k,g⟩:=r;refine⟨b,o,f,m,i,c,j,b3Q (λz=>?_) d,e,k,g⟩;rw[z,ho]at d;cases d;simp at e
theorem RowsQ.mid{us ws:List Value}(ho:h.get? a=some (seqObj "list" ws.toArray n)):∀{vs:List Value}{rows:List (List Pz)},RowsQ h vs rows->RowsQ (a1t h a us) vs rows
 |[],[],_=>trivial
 |_::_,_::_,⟨r,q⟩=>⟨r.mid ho,q.mid ho⟩
 |[],_::_,r=>r.elim
 |_::_,[],r=>r.elim
theorem RowsQ.kat:∀{vs:List Value}{rows:List (List Pz)},RowsQ h vs rows->a2p rows->∃fs:List Value,KatTups h vs fs/\fs.length=vs.length/\∀v∈fs,∃f:Str,PtIs (.inr f) v
 |[],[],_,_=>⟨[],trivial,rfl,λv a=>by simp at a⟩
 |v::vs,x::xs,⟨r,q⟩,hf=>by
  obtain⟨j,g,s,u⟩:=q.kat λy t=>hf y (.tail _ t);obtain⟨y,z,rfl⟩:=hf x (.head _);obtain⟨b,o,w,m,n,c,rfl,i,p,l,e,d⟩:=r;cases n with
  |nil=>exact d.elim
  |cons f fr=>
   obtain⟨k,_⟩:=d;refine⟨f::j,KatTups.cons i p l (by rw[<- bT,e];rfl) g,by rw[aL,aL,s],λv a=>?_⟩;rcases aD.mp a with rfl |a
   ·exact⟨y,k⟩
   ·simp_all
 |[],_::_,r,_=>r.elim
 |_::_,[],r,_=>r.elim
section
variable{prog:fK}{w:World}{A:Around}{E:Value->Shared->Prop}{s:Shared}{ajj:Array Keyed}{b:Bool}{Q:Bool->Shared->Prop}
end
end Tim
namespace L2
open PySem PySem.Spec PyProof.Rows Tim
end L2
namespace L3
open PySem PySem.Spec PyProof.Rows L2 Tim
end L3
namespace Tim
open PySem PyProof.Rows PySem.W
section
variable{prog:fK}{w:World}{A:Around}{E:Value->Shared->Prop}{s:Shared}
def b8M{ss ts:List Str}(hoa:s.heap.get? a=some oa)(hda:oa.data=.seq xs n)(hob:s.heap.get? b=some ob)(hcb:ob.cls=.type "tuple")(hdb:ob.data=.seq ys m)
  (vx:PtsAre (ss.map Sum.inr) xs.toList) (vy:PtsAre (ts.map Sum.inr) ys.toList) (hl:ss.length=ts.length) (h:P (.done (.ret (.bool (ltT (ts.map Sum.inr) (ss.map Sum.inr))))) s):wpAny (model prog w) A (fO.«tuple.__gt__» ⟨[.ref a,.ref b],[]⟩) P E s:=by
 have M:s.TypeIs (.ref b) "tuple":=⟨_,hob,hcb⟩
 show wpAny _ _ (isInstance (.ref b) (.type "tuple") >>= _) _ _ s
 refine fF (i3 M isSubtype_tuple_tuple ?_);simp;refine fF (wpAny_tupleItemsOf hoa hda (fF (wpAny_tupleItemsOf hob hdb (fF ?_))));have U:xs.size=ys.size:=by
  have J:=a3O vx;have D:=a3O vy;rw[bL,aB]at J D
  lia
 refine jP _
  (λF r I=>r.1=none/\I=s/\∃(d c:List Str)(f i:List Value),F=List.zip f i/\PtsAre (d.map Sum.inr) f/\PtsAre (c.map Sum.inr) i/\d.length=c.length/\ltT (c.map Sum.inr) (d.map Sum.inr)=ltT (ts.map Sum.inr) (ss.map Sum.inr))
  _ ?_ ?_ _ _ ⟨rfl,rfl,ss,ts,xs.toList,ys.toList,rfl,vx,vy,hl,rfl⟩
 ·rintro⟨u,v⟩ F r I ⟨L,rfl,d,c,f,i,G,o,B,H,z⟩;obtain⟨x,y,g,j,t,C,k,l,rfl,rfl,rfl,rfl,N,S⟩:∃x y g j t C k l,d=x::g/\c=y::j/\f=Value.str x t::k/\i=Value.str y C::l/\PtsAre (g.map Sum.inr) k/\PtsAre (j.map Sum.inr) l:=by
   cases d with
   |nil=>
    cases f with
    |nil=>simp at G
    |cons _ _=>exact o.elim
   |cons x g=>
    cases c with
    |nil=>simp at H
    |cons y j=>
     cases f with
     |nil=>exact o.elim
     |cons p k=>
      cases i with
      |nil=>exact B.elim
      |cons q l=>
       obtain⟨⟨t,J⟩,R⟩:=o;obtain⟨⟨C,D⟩,Q⟩:=B;exact⟨x,y,g,j,t,C,k,l,rfl,rfl,by rw[J],by rw[D],R,Q⟩
  ·simp at G;obtain⟨⟨rfl,rfl⟩,rfl⟩:=G;refine fF (b5k (x:=.inr x) (y:=.inr y) ⟨t,rfl⟩ ⟨C,rfl⟩ (.inr rfl) ?_);rw[aO,aO,ltT]at z
   by_cases hk:x=y
   ·subst hk;rw[decide_eq_true rfl];simp;rw[if_pos rfl]at z;exact fG ⟨rfl,rfl,g,j,k,l,rfl,N,S,by simpa using H,z⟩
   ·rw[decide_eq_false (by simpa using hk)];simp only[Bool.not_false,if_true];rw[if_neg (by simpa using Ne.symm hk)]at z;rw[<- z]at h;exact fF (gG (fF (PySem.P.gt_str (fF (fG (fG (fG h)))))))
 ·rintro⟨V,T⟩ I ⟨L,rfl,d,c,f,i,G,o,B,H,z⟩;simp only at L;subst L;refine fG ?_;have e:ltT (ts.map Sum.inr) (ss.map Sum.inr)=false:=by
   rw[<- z];cases d with
   |nil=>cases c<;>rfl
   |cons x g=>
    cases c with
    |nil=>rfl
    |cons y j=>
     cases f with
     |nil=>exact o.elim
     |cons p k=>
      cases i with
      |nil=>exact B.elim
      |cons q l=>simp at G
  have D:fO.Tuple.tupleCompareSizes CmpOp.Gt xs.size ys.size=.bool false:=by
   show Value.bool (decide (xs.size > ys.size))=_
   rw[decide_eq_false (by lia)]
  rw[D];rw[e]at h;exact h
end
end Tim
namespace L2
open PySem PySem.Spec PyProof.Rows Tim
def a7V:∀{ss:List Str}{us:List Value},Vals (ss.map V.str) us->PtsAre (ss.map Sum.inr) us:=by intro z0;induction z0 with
 |nil=>intro us r;rw[aX]at r;cases r;trivial
 |cons s ss I0=>
  intro us r;cases r with
  |cons r1 r2=>exact⟨r1,I0 r2⟩
def b02(hu:X.A.units<cLine):OpR X (fN .Gt) (λx y H Q=>∃(a b:Addr)(ss ts:List Str),x=.ref a/\y=.ref b/\H a=some (.tup (ss.map V.str))/\H b=some (.tup (ts.map V.str))/\ss.length=ts.length/\Q (.bl (ltT (ts.map Sum.inr) (ss.map Sum.inr))) H):=by
 intro m s σ H x y v u Q I k D h;obtain⟨a,b,t,j,rfl,rfl,B,z,l,q⟩:=h;cases k;cases D;obtain⟨_,G,r,o,f,g,n,E⟩:=(I.hok a _ B);obtain⟨_,p,C,J,d,c,L,i⟩:=(I.hok b _ z)
 show wpAny _ _ (richCompare .Gt _ _) _ _ _
 refine wpAny_richCompare_same_room ⟨_,f,g⟩ ⟨_,d,c⟩ F.slot_tuple_gt (gg F.slot_tuple_gt ⟨_,f,g⟩ F.entry_tuple_gt (b8M f E d c i (by simpa using a7V r) (by simpa using a7V C) l ⟨_,rfl,(λe=>nomatch e),?_⟩) (F.args_tuple_gt_2 _ _)) hu;exact a0n I q rfl
end L2
namespace L3
open PySem PySem.Spec PyProof.Rows L2 Tim
variable{X:Cx}
def zGtT:R3:=λx y G R=>match x,y with
 |.str i,.str j=>R (.bl (ltS j i)) G
 |.tup us,.tup vs=>∃ss ts:List Str,us=ss.map Z.str/\vs=ts.map Z.str/\ss.length=ts.length/\R (.bl (ltT (ts.map Sum.inr) (ss.map Sum.inr))) G
 |_,_=>False
def c08(hu:X.A.units+66<cLine):OpQ X (fN .Gt) zGtT:=a2P (op_gt_str.or (b02 (by lia))) λx y H Q o=>o.un λa b G R d c g h f=>by
 match a,b,h with
 |.str i,.str j,h=>rw[a0s]at d c;exact .inl ⟨_,_,d,c,f _ _ _ _ h (by rw[a0u]) g (.refl _ _)⟩
 |.tup us,.tup vs,h=>
  obtain⟨q,m,rfl,rfl,p,h⟩:=h;obtain⟨l,t,rfl,e,n⟩:=d;obtain⟨s,u,rfl,k,r⟩:=c;rw[a3J n]at e;rw[a3J r]at k;exact .inr ⟨l,s,q,m,rfl,rfl,e,k,p,f _ _ _ _ h (by rw[a0u]) g (.refl _ _)⟩
end L3
namespace L3
open PySem PySem.Spec PyProof.Rows L2
abbrev NsG(K:Fg)(x:Str)(v:Option Value):Prop:=PySem.W.nsIn K fX x=some v
def Br(K:Fg)(mg:Str->Option Value):Prop:=∀x v,NsG K x v->mg x=v
def c09{K:Fg}(X:K.In h)(G:h.Ns fX mg):Br K mg:=λ_ v e=>match v,e with
 |some _,e=>PySem.W.mg_of X G e
 |none,e=>PySem.W.mg_none_of X G e
def FX(K:Fg)(x:Str)(st:Stmt):Prop:=∃f d,NsG K x (some (.ref f))/\Fun K x x st f d
def MX(K:Fg)(C:Addr)(m q:Str)(st:Stmt):Prop:=∃f d,Meth K C m f/\Fun K m q st f d
def AllF(K:Fg)(tp:Nat->Stmt)(l:List (Str×Nat)):Prop:=∀(i:Nat)(r:Str×Nat),l[i]?=some r->FX K r.1 (tp r.2)
def AllM(K:Fg)(tp:Nat->Stmt)(C:Addr)(l:List (Str×Str×Nat×Nat)):Prop:=∀(i:Nat)(r:Str×Str×Nat×Nat),l[i]?=some r->MX K C r.1 r.2.1 (a3C (tp r.2.2.1) r.2.2.2)
def AllB(K:Fg)(l:List Str):Prop:=∀(i:Nat) x,l[i]?=some x->NsG K x none
def AllN(K:Fg)(C:Addr)(l:List Str):Prop:=∀(i:Nat) x,l[i]?=some x->NoAttr K C x
section
variable{K:Fg}{tp:Nat->Stmt}{x m q:Str}{n j:Nat}{f C:Addr}{oc:Value}{od an:Option Addr}{osl:Array (Option Value)}{kV doc pm cdv ct:Value}
def af0:AllF K tp []:=λ_ _ h=>nomatch h
def af1(a:PySem.W.nsIn K fX x=some (some (.ref f)))(e:K.lookup f=some ⟨oc,od,.func (PySem.W.fnOf x x (a12 (tp n)) (a1g (tp n)) (a0t (tp n)) .none kV doc pm an cdv ct),osl⟩)
  (c:PySem.W.codeIn K cdv x=true) (k:PySem.W.keepIn K (.ref f)=true) (t:AllF K tp l):AllF K tp ((x,n)::l):=λi r h=>by
 cases i with
 |zero=>cases h;exact⟨f,_,a,b3w e c k⟩
 |succ i=>exact t i r h
def ab0:AllB K []:=λ_ _ h=>nomatch h
def ab1(a:PySem.W.nsIn K fX x=some none)(t:AllB K l):AllB K (x::l):=λi y h=>by
 cases i with
 |zero=>cases h;exact a
 |succ i=>exact t i y h
def an0:AllN K C []:=λ_ _ h=>nomatch h
def an1(a:PySem.W.findIn K (.ref C) x=some none)(t:AllN K C l):AllN K C (x::l):=λi y h=>by
 cases i with
 |zero=>cases h;exact a
 |succ i=>exact t i y h
def am0:AllM K tp C []:=λ_ _ h=>nomatch h
def am1(a:PySem.W.findIn K (.ref C) m=some (some (.ref f)))(g:PySem.W.isFn K (.ref f)=true)
  (e:K.lookup f=some ⟨oc,od,.func (PySem.W.fnOf m q (a12 (a3C (tp n) j)) (a1g (a3C (tp n) j)) (a0t (a3C (tp n) j)) .none kV doc pm an cdv ct),osl⟩)
  (c:PySem.W.codeIn K cdv q=true) (k:PySem.W.keepIn K (.ref f)=true) (t:AllM K tp C l):AllM K tp C ((m,q,n,j)::l):=λi r h=>by
 cases i with
 |zero=>cases h;exact⟨f,_,⟨a,g,k⟩,b3w e c k⟩
 |succ i=>exact t i r h
end
section
variable{P:fK}{w:World}{K:Fg}{mg:Str->Option Value}{base:Heap}{x q:Str}{st:Stmt}{f C:Addr}{d:f8}{N:List Str}{k n:Nat}
def Fd(P:fK)(w:World)(K:Fg)(mg:Str->Option Value)(base:Heap)(CX:CXT)(k:Nat)(f:Addr)(s:Sp):Prop:=∃d ps,FnOk P w K mg base CX k f d ps s/\Binds K d ps []
structure Cal (P:fK) (w:World) (K:Fg) (mg:Str->Option Value) (base:Heap) (CX:CXT) (k:Nat) (x:Str) (s:Sp):Prop where
 ex:∃f,Fd P w K mg base CX k f s/\mg x=some (.ref f)/\PySem.W.keepIn K (.ref f)=true
def Mal(P:fK)(w:World)(K:Fg)(mg:Str->Option Value)(base:Heap)(CX:CXT)(k:Nat)(C:Addr)(x:Str)(s:Sp):Prop:=∃f,Fd P w K mg base CX k f s/\Meth K C x f
abbrev Bd0(P:fK)(w:World)(K:Fg)(mg:Str->Option Value)(base:Heap)(N:List Str)(q:Str)(st:Stmt)(k:Nat)(sp:P3):Prop:=∀(f:Addr)(cdv:Value)(A:Around)(outer:List Env)(s:Shared)(H:Hp)(E:XK)(ws:List Z)(G:Hq)(R:K3),Room k (A.deeper (envOfC q (a0t st) s.heap.objs.size f cdv))->N.Nodup->sp ws G R ->
 ∃t,QSs (cxOf CX0 P w K mg base N q (a0t st) f cdv A outer s H E).nox (a1g st) t/\t (λ_ G'=>R .non G') R (λ_ _=>False) (λ_ _=>False) (a3G N ws) G
abbrev Pl(x q:Str)(st:Stmt)(ps:List Str):Prop:=∀(kV doc pm:Value)(an:Option Addr)(cdv ct:Value)(us:List Value),us.length=ps.length->jh (PySem.W.fnOf x q (a12 st) (a1g st) (a0t st) .none kV doc pm an cdv ct) ⟨us,[]⟩=pure (ps.zip us)
def fnd(F:Fun K x q st f d)(b:Bd0 P w K mg base N q st k sp)(S:FnScope N (N.take n) (a0t st))(len:∀ws G R,sp ws G R->ws.length=(N.take n).length):FnOk P w K mg base CX0 (k+1) f d (N.take n) (lowP K sp):=
 fn3 F S len λc A a s H E e G R g h=>b f c A a s H E e G R g S.nd h
def fnc(n:Nat)(B:Br K mg)(F:FX K x st)(b:Bd0 P w K mg base N x st k sp)(len:∀ws G R,sp ws G R->ws.length=(N.take n).length:=by intro ws G R h;repeat' first | (obtain⟨rfl,_⟩:=h;rfl) | (cases h<;>rename_i h))(S:FnScope N (N.take n) (a0t st):=by exact⟨rfl,rfl,rfl,by decide +kernel,rfl,by decide +kernel,by decide +kernel⟩)(pl:Pl x x st (N.take n):=by intro _ _ _ _ _ _;(repeat refine lnS λ_=>?_);exact ln0 rfl):Cal P w K mg base CX0 (k+1) x (lowP K sp):=by
 obtain⟨f,d,e,F⟩:=F;exact⟨⟨f,⟨d,_,fnd F b S len,F.binds pl⟩,B _ _ e,F.kp⟩⟩
def fnm(n:Nat)(F:MX K C x q st)(b:Bd0 P w K mg base N q st k sp)(len:∀ws G R,sp ws G R->ws.length=(N.take n).length:=by intro ws G R h;repeat' first | (obtain⟨rfl,_⟩:=h;rfl) | (cases h<;>rename_i h))(S:FnScope N (N.take n) (a0t st):=by exact⟨rfl,rfl,rfl,by decide +kernel,rfl,by decide +kernel,by decide +kernel⟩)(pl:Pl x q st (N.take n):=by intro _ _ _ _ _ _;(repeat refine lnS λ_=>?_);exact ln0 rfl):Mal P w K mg base CX0 (k+1) C x (lowP K sp):=by
 obtain⟨f,d,e,F⟩:=F;exact⟨f,⟨d,_,fnd F b S len,F.binds pl⟩,e⟩
end
noncomputable def nst:Expr->Bool
 |.Starred _ _=>false
 |_=>true
def se_(h:nst e=true):fL (e::es) env=(false,eval e env)::fL es env:=by cases e<;>first |rfl |cases h
def hp_:∀{es:List Expr},es.all nst=true->(backTo pos (fL es env)).any (·.1)=false:=by intro z0;induction z0 with
 |nil=>intro _;exact b7t
 |cons e es I0=>
  intro h;rw[bY,bD]at h;exact b4Q (se_ h.1) (I0 h.2)
def s1_(h:(e::es).all nst=true):fL (e::es) env=(false,eval e env)::fL es env:=se_ (by simp_all)
def h1_(h:(e::es).all nst=true):(backTo pos (fL es env)).any (·.1)=false:=hp_ (by rw[bY,bD]at h;exact h.2)
section
variable{X:Cx}{e o:Expr}{es:List Expr}{t:A3}{te to:E3}{x m:Str}{k j:Nat}{C:Addr}{p pos apos:Pos}{sp:P3}{sq:PX3}{E:XK}{EE:Addr->Hq->Prop}{pl:Sem Bool}
def q_c(c:Cal X.prog X.w X.K X.mg X.base CX0 k x (lowP X.K sp))(hr:Room j X.A)(ha:QA X (e::es) t)(hn:(e::es).all nst=true:=by rfl)(hk:k<=j:=by decide)(hg:Gl X x:=by rfl)
  (hdb:(x==("__debug__":Str))=false:=by decide):QE X (.Call (.Name x p) (e::es) [] pos) (b4V sp t):=by
 obtain⟨f,⟨d,h,F,b⟩,g,a⟩:=c.ex;exact b7y F (hr.mono hk) hg g a b ha hdb (s1_ hn) (h1_ hn)
def q_m(ho:QE X o to)(c:Cls X.K C)(M:Mal X.prog X.w X.K X.mg X.base CX0 k C m (lowP X.K sp))(hr:Room j X.A)(ha:QA X (e::es) t)(hn:(e::es).all nst=true:=by rfl)(hk:k<=j:=by decide)
  (ht:eval (.Call (.Attribute o m apos) (e::es) [] pos) X.env=(do
   let ov <- eval o X.env
   gx apos.atName
   let (f,first) <- f6 [ov] (gU ov m pl)
   ij pos f first (backTo pos (fL (e::es) X.env)) (gZ pos (g0 [] X.env))):=by rfl):QE X (.Call (.Attribute o m apos) (e::es) [] pos) (a8M C m sp to t):=by
 obtain⟨f,⟨d,g,F,a⟩,b⟩:=M;exact b8w ho c b F (hr.mono hk) a ha (s1_ hn) (h1_ hn) ht
def q_m0(ho:QE X o to)(c:Cls X.K C)(M:Mal X.prog X.w X.K X.mg X.base CX0 k C m (lowP X.K sp))(hr:Room j X.A)(hk:k<=j:=by decide)
  (ht:eval (.Call (.Attribute o m apos) [] [] pos) X.env=(do
   let ov <- eval o X.env
   gx apos.atName
   let (f,first) <- f6 [ov] (gU ov m pl)
   ij pos f first (backTo pos (fL [] X.env)) (gZ pos (g0 [] X.env))):=by rfl):QE X (.Call (.Attribute o m apos) [] [] pos) (a8M C m sp to uNil):=by
 obtain⟨f,⟨d,e,F,a⟩,b⟩:=M;exact b5z ho c b F (hr.mono hk) a ht
def b8N(mk:PySem.W.makesIn X.K C=true/\PySem.W.keepIn X.K (.ref C)=true)(M:Mal X.prog X.w X.K X.mg X.base CX0 k C "__init__" (lowP X.K sp))(hr:Room j X.A)(hm:X.mg x=some (.ref C))(hk:k+1<=j:=by decide)(hg:Gl X x:=by rfl)
  (hdb:(x==("__debug__":Str))=false:=by decide):QE X (.Call (.Name x p) [] [] pos) (b5A C sp uNil):=by
 obtain⟨f,⟨d,b,F,a⟩,h⟩:=M;exact b5B ⟨mk.1,h.at_,h.fn,mk.2⟩ F (hr.mono hk) hg hm a hdb
def q_k(ha:QE X e te)(hr:QA X es t)(h:nst e=true:=by rfl):QA X (e::es) (b4S te t):=b7w ha hr (se_ h)
def q_B{id:String}(hc:a14 X (.builtin id) r)(hm:X.mg x=none)(ha:QA X (e::es) t)(hv:gc x=some (.builtin id):=by rfl)(hn:(e::es).all nst=true:=by rfl)(hg:Gl X x:=by rfl)(h1:x≠"__name__":=by decide)(h2:(x==("__debug__":Str))=false:=by decide) :
  QE X (.Call (.Name x p) (e::es) [] pos) (uCB r t):=b4T hc hg hm hv ha h1 h2 (s1_ hn) (h1_ hn)
def q_Y{id:String}(hc:a14 X (.type id) r)(hm:X.mg x=none)(ha:QA X (e::es) t)(hv:gc x=some (.type id):=by rfl)(hn:(e::es).all nst=true:=by rfl)(hg:Gl X x:=by rfl)(h1:x≠"__name__":=by decide)(h2:(x==("__debug__":Str))=false:=by decide) :
  QE X (.Call (.Name x p) (e::es) [] pos) (uCB r t):=b2a hc hg hm hv ha h1 h2 (s1_ hn) (h1_ hn)
structure Nm (X:Cx) (x:Str) (i:Nat):Prop where
 nd:X.N.Nodup
 ix:X.N[i]?=some x
 lc:Loc X.env.scope x
 fn:X.fn x=true\/X.env.scope.names.lookup x=some .local
def nmI(i:Nat)(nd:X.N.Nodup)(ix:X.N[i]?=some x:=by rfl)(lc:Loc X.env.scope x:=by first |exact cp rfl |exact bV rfl)(fn:X.fn x=true\/X.env.scope.names.lookup x=some .local:=by first |exact .inl rfl |exact .inr rfl |assumption):Nm X x i:=⟨nd,ix,lc,fn⟩
def z_st(h:Nm X x i)(he:QE X e te)(hs:gI e (some (.Name x pos')) pos.line X.env=pure false:=by rfl):QS X (.Assign [.Name x pos'] e pos) (uAsg te (.nm i)):=b99 h.nd h.ix h.lc he hs h.fn
def z_au(h:Nm X x i)(he:QE X e te)(ho:OpQ X (gK op) r):QS X (.AugAssign (.Name x pos') op e pos) (uAug i te r):=b7H h.nd h.ix h.lc he ho h.fn
def p_nm(h:Nm X x i):QP X (.Name x pos) (.nm i):=a9i h.nd h.ix h.lc h.fn
def QPg(X:Cx)(es:List Expr)(is:List Nat):Prop:=PGs X es (gsOf is)/\(gC es X.env).length=is.length/\(gC es X.env).findIdx? (·.1)=none
def c1a:QPg X [] []:=⟨b4r,rfl,rfl⟩
def b8O(h:Nm X x i)(t:QPg X es is):QPg X (.Name x pos::es) (i::is):=⟨b1J (a9i h.nd h.ix h.lc h.fn) t.1,congrArg Nat.succ t.2.1,by
 show eX _ (_::gC es X.env)=none
 rw[List.findIdx?_cons,if_neg nofun,t.2.2];rfl⟩
def p_tp(hc:X.calm=true)(h:QPg X es is):QP X (.Tuple es c pos) (.tp is):=b6K hc h.1 h.2.1 h.2.2
section
variable{CX:CXT}{P:fK}{w:World}{K:Fg}{mg:Str->Option Value}{base:Heap}{N:List Str}{q:Str}{so:Scope}{f:Addr}{cd:Value}{A:Around}{outer:List Env}{s:Shared}{H:Hp}{E:XK}
def cxN:(cxOf CX P w K mg base N q so f cd A outer s H E).nox.N=N:=rfl
def cxS:(cxOf CX P w K mg base N q so f cd A outer s H E).nox.env.scope=so:=rfl
def cxN':(cxOf CX P w K mg base N q so f cd A outer s H E).N=N:=rfl
def cxS':(cxOf CX P w K mg base N q so f cd A outer s H E).env.scope=so:=rfl
end
def cxcN:(cxC X EW N' sc D s H fp).N=N':=rfl
section
variable{Nj:List Str}{so sc:Scope}{wi:I3}{tg iter elt:Expr}{ifs:List Expr}{tt:T3}{i:Nat}
def q_l(N':List Str)(cap:List (Option Nat))(pt:Pt)(hi:QI X tg iter wi:=by ac_rfl)(ht:∀C s H fp,QIfs (cxC X E0 N' sc C s H fp) ifs tt:=by walk_at "r4")(he:∀C s H fp,QE (cxC X E0 N' sc C s H fp) elt te:=by walk_at "r4")(hg:∀C s H fp,N'.Nodup->QP (cxC X E0 N' sc C s H fp) tg pt:=by walk_at "r5")
  (hNN:X.N=Nj:=by first |exact cxN |exact cxN' |exact cxcN) (hso:X.env.scope=so:=by first |exact cxS |exact cxS' |rfl) (ck:capB Nj so sc N' cap=true:=by first |decide +kernel |rfl) (hp:(pt.slots.all λj=>decide (cap[j]?=some none))=true:=by rfl)
  (nd:N'.Nodup:=by decide +kernel) (hc:X.calm=true:=by rfl) (hs:∀x,gM iter X.env x=pure x:=by intro _;rfl):QE X (.ListComp elt [⟨tg,iter,ifs,0⟩] sc pos) (uLC wi cap pt tt te):=q_lc hc hNN hso ck hp hi (λC s H a=>hg C s H a nd) ht he hs
def z_l(h:Nm X x i)(N':List Str)(cap:List (Option Nat))(pt:Pt)(hi:QI X tg iter wi:=by ac_rfl)(ht:∀C s H fp,QIfs (cxC X E0 N' sc C s H fp) ifs tt:=by walk_at "r4")(he:∀C s H fp,QE (cxC X E0 N' sc C s H fp) elt te:=by walk_at "r4")(hg:∀C s H fp,N'.Nodup->QP (cxC X E0 N' sc C s H fp) tg pt:=by walk_at "r5")
  (hNN:X.N=Nj:=by first |exact cxN |exact cxN' |exact cxcN) (hso:X.env.scope=so:=by first |exact cxS |exact cxS' |rfl) (ck:capB Nj so sc N' cap=true:=by first |decide +kernel |rfl) (hp:(pt.slots.all λj=>decide (cap[j]?=some none))=true:=by rfl)
  (nd:N'.Nodup:=by decide +kernel) (hl:X.env.scope.names.lookup x=some .local:=by rfl) (hsw:gI (.ListComp elt [⟨tg,iter,ifs,0⟩] sc pos) (some (.Name x pos')) spos.line X.env=pure true:=by rfl) (hc:X.calm=true:=by rfl) (hs:∀x,gM iter X.env x=pure x:=by intro _;rfl) :
  QS X (.Assign [.Name x pos'] (.ListComp elt [⟨tg,iter,ifs,0⟩] sc pos) spos) (uAsg (uLC wi cap pt tt te) (.nm i)):=b43 h.nd h.ix hl hc hNN hso ck hp hi (λC s H a=>hg C s H a nd) ht he hsw hs
end
end
def At(N:List Str)(i:Nat)(x:Str):Prop:=N[i]?=some x
def at_0:At (x::l) 0 x:=rfl
def at_1:At (c0::x::l) 1 x:=rfl
def at_2:At (c0::c1::x::l) 2 x:=rfl
def at_3:At (c0::c1::c2::x::l) 3 x:=rfl
def at_4:At (c0::c1::c2::c3::x::l) 4 x:=rfl
def at_5:At (c0::c1::c2::c3::c4::x::l) 5 x:=rfl
def at_6:At (c0::c1::c2::c3::c4::c5::x::l) 6 x:=rfl
def at_7:At (c0::c1::c2::c3::c4::c5::c6::x::l) 7 x:=rfl
def at_8:At (c0::c1::c2::c3::c4::c5::c6::c7::x::l) 8 x:=rfl
def at_9:At (c0::c1::c2::c3::c4::c5::c6::c7::c8::x::l) 9 x:=rfl
def b8P:At (c0::c1::c2::c3::c4::c5::c6::c7::c8::c9::x::l) 10 x:=rfl
def b8Q:At (c0::c1::c2::c3::c4::c5::c6::c7::c8::c9::c10::x::l) 11 x:=rfl
section
variable{X:Cx}{x:Str}{pos:Pos}
def qv(i:Nat)(hN:X.N[i]?=some x:=by rfl)(hv:Vis X.env.scope x:=by first |exact cp rfl |exact bV (cp rfl) |exact bV (bV rfl))(hd:(x==("__debug__":Str))=false:=by decide)
  (hcd:(x==("__classdict__":Str))=false:=by decide):QE X (.Name x pos) (uVar i):=b7l (a9g hN hv hd hcd)
def qw(h:X.N=N)(a:At N i x)(hv:Vis X.env.scope x:=by first |exact cp rfl |exact bV (cp rfl) |exact bV (bV rfl))(hd:(x==("__debug__":Str))=false:=by decide)
  (hcd:(x==("__classdict__":Str))=false:=by decide):QE X (.Name x pos) (uVar i):=b7l (a9g (h▸a) hv hd hcd)
def nwI(h:X.N=N)(a:At N i x)(nd:X.N.Nodup)(lc:Loc X.env.scope x:=by first |exact cp rfl |exact bV rfl)(fn:X.fn x=true\/X.env.scope.names.lookup x=some .local:=by first |exact .inl rfl |exact .inr rfl |assumption):Nm X x i:=⟨nd,by rw[h];exact a,lc,fn⟩
end
end L3
namespace L3
def newK(e:put G a o=G')(h:G a=none):G' a=some o/\Sm G G':=by subst e;exact⟨a0a,Sm.new h⟩
end L3
set_option maxHeartbeats 4000000
namespace L3
set_option genInjectivity false in
inductive Ex4 {α0 α1 α2 α3:Type}(p:α0->α1->α2->α3->Prop):Prop
 |mk (a0:α0) (a1:α1) (a2:α2) (a3:α3) (h:p a0 a1 a2 a3):Ex4 p
set_option genInjectivity false in
inductive Ex5 {α0 α1 α2 α3 α4:Type}(p:α0->α1->α2->α3->α4->Prop):Prop
 |mk (a0:α0) (a1:α1) (a2:α2) (a3:α3) (a4:α4) (h:p a0 a1 a2 a3 a4):Ex5 p
set_option genInjectivity false in
inductive Ex6 {α0 α1 α2 α3 α4 α5:Type}(p:α0->α1->α2->α3->α4->α5->Prop):Prop
 |mk (a0:α0) (a1:α1) (a2:α2) (a3:α3) (a4:α4) (a5:α5) (h:p a0 a1 a2 a3 a4 a5):Ex6 p
set_option genInjectivity false in
inductive Ex7 {α0 α1 α2 α3 α4 α5 α6:Type}(p:α0->α1->α2->α3->α4->α5->α6->Prop):Prop
 |mk (a0:α0) (a1:α1) (a2:α2) (a3:α3) (a4:α4) (a5:α5) (a6:α6) (h:p a0 a1 a2 a3 a4 a5 a6):Ex7 p
set_option genInjectivity false in
inductive Ex8 {α0 α1 α2 α3 α4 α5 α6 α7:Type}(p:α0->α1->α2->α3->α4->α5->α6->α7->Prop):Prop
 |mk (a0:α0) (a1:α1) (a2:α2) (a3:α3) (a4:α4) (a5:α5) (a6:α6) (a7:α7) (h:p a0 a1 a2 a3 a4 a5 a6 a7):Ex8 p
set_option genInjectivity false in
inductive Ex9 {α0 α1 α2 α3 α4 α5 α6 α7 α8:Type}(p:α0->α1->α2->α3->α4->α5->α6->α7->α8->Prop):Prop
 |mk (a0:α0) (a1:α1) (a2:α2) (a3:α3) (a4:α4) (a5:α5) (a6:α6) (a7:α7) (a8:α8) (h:p a0 a1 a2 a3 a4 a5 a6 a7 a8):Ex9 p
set_option genInjectivity false in
inductive Ex10 {α0 α1 α2 α3 α4 α5 α6 α7 α8 α9:Type}(p:α0->α1->α2->α3->α4->α5->α6->α7->α8->α9->Prop):Prop
 |mk (a0:α0) (a1:α1) (a2:α2) (a3:α3) (a4:α4) (a5:α5) (a6:α6) (a7:α7) (a8:α8) (a9:α9) (h:p a0 a1 a2 a3 a4 a5 a6 a7 a8 a9):Ex10 p
end L3
namespace Lw
open PySem L2 L3
noncomputable def top(i:Nat):Stmt:=PySem.Challenge.pw_twotimes_k43_whole_joins_at_each_moment.main.body.getD i (.Pass ⟨0,0,0,0⟩)
def c1b(hr:Room k A):A.units+66<cLine:=by have:=hr.un;omega
noncomputable def tF:List (Str×Nat):=("is_name",8)::("is_moment",9)::("is_stretch",10)::("earlier_end",11)::("common",12)::("is_over",21)::("worths_in",20)::("worth_in",14)::("ahead_of",17)::("with_alike_joined",22)::("from_on",18)::("put_on",15)::("bounds_of",19)::("laid_together",16)::("check_in_reach",35)::("check_name",32)::("run_of",44)::("is_standing",45)::("stands_at",46)::("table_at",24)::("holders_in",26)::("by_key",28)::("held_by_both",30)::("by_worth",29)::("check_moment",33)::("check_stretch",34)::("all_at",37)::("check_telling",39)::("line_behind",40)::("tiled_on",43)::("_law_cell_at",49)::("_law_tumbled",50)::("_law_words",51)::("_law_stretch",52)::("_law_by_digits",53)::("_law_telling",54)::("_law_within",55)::("_law_apart",56)::("_law_joined_right",57)::("law",58)::[]
noncomputable def tB:List Str:=["all","isinstance","str","len","bool","int","min","max","sorted","set","zip","reversed","dict","range"]
noncomputable def a5e:List (Str×Str×Nat×Nat):=("check_knowing","Sheet.check_knowing",41,7)::("line_at","Sheet.line_at",41,5)::("keys_at","Sheet.keys_at",41,6)::("worth_at","Sheet.worth_at",41,4)::("__init__","Sheet.__init__",41,0)::("tell","Sheet.tell",41,1)::("knowings","Sheet.knowings",41,2)::("known_line","Sheet.known_line",41,9)::("keep_line","Sheet.keep_line",41,8)::[]
noncomputable def a5f:List Str:=["last","kept"]
noncomputable def a5g:List (Str×Str×Nat×Nat):=("check_knowing","Sheet.check_knowing",41,7)::("line_at","Sheet.line_at",41,5)::("keys_at","Sheet.keys_at",41,6)::("worth_at","Sheet.worth_at",41,4)::("__init__","Sheet.__init__",41,0)::("tell","Sheet.tell",41,1)::("knowings","Sheet.knowings",41,2)::("known_line","Tiled.known_line",47,2)::("keep_line","Tiled.keep_line",47,1)::[]
noncomputable def a5h:List Str:=["last","kept"]
set_option genInjectivity false in
structure Ad where
 c_Sheet:Addr
 c_Tiled:Addr
structure Txt (K:Fg) (mg:Str->Option Value) (a:Ad):Prop where
 br:Br K mg
 f:AllF K top tF
 b0:AllB K tB
 mg_Sheet:mg "Sheet"=some (.ref a.c_Sheet)
 cl_Sheet:Cls K a.c_Sheet
 m_Sheet:AllM K top a.c_Sheet a5e
 n_Sheet:AllN K a.c_Sheet a5f
 mk_Sheet:PySem.W.makesIn K a.c_Sheet=true/\PySem.W.keepIn K (.ref a.c_Sheet)=true
 mg_Tiled:mg "Tiled"=some (.ref a.c_Tiled)
 cl_Tiled:Cls K a.c_Tiled
 m_Tiled:AllM K top a.c_Tiled a5g
 n_Tiled:AllN K a.c_Tiled a5h
 mk_Tiled:PySem.W.makesIn K a.c_Tiled=true/\PySem.W.keepIn K (.ref a.c_Tiled)=true
 c_LONGEST_NAME:∃t,mg "LONGEST_NAME"=some (.int 8 t)
 c_LAST_MOMENT:∃t,mg "LAST_MOMENT"=some (.int 1000000000000 t)
def Txt.b{K:Fg}{mg:Str->Option Value}{a:Ad}(T:Txt K mg a)(i:Nat){x:Str}(h:tB[i]?=some x:=by rfl):mg x=none:=T.br _ _ (T.b0 i x h)
noncomputable def Ad.cK(a:Ad)(b:Bool):Addr:=cond b a.c_Tiled a.c_Sheet
def clK{K:Fg}{mg:Str->Option Value}{a:Ad}(T:Txt K mg a)(b:Bool):Cls K (a.cK b):=by
 cases b
 ·exact T.cl_Sheet
 ·exact T.cl_Tiled
def naK{K:Fg}{mg:Str->Option Value}{a:Ad}(T:Txt K mg a)(b:Bool)(i:Nat){x:Str}(h:a5f[i]?=some x:=by rfl)(h':a5h[i]?=some x:=by rfl):NoAttr K (a.cK b) x:=by
 cases b
 ·exact T.n_Sheet i x h
 ·exact T.n_Tiled i x h'
def mxK{K:Fg}{mg:Str->Option Value}{a:Ad}(T:Txt K mg a)(b:Bool)(i:Nat){r:Str×Str×Nat×Nat}(h:a5e[i]?=some r:=by rfl)(h':a5g[i]?=some r:=by rfl):MX K (a.cK b) r.1 r.2.1 (a3C (top r.2.2.1) r.2.2.2):=by
 cases b
 ·exact T.m_Sheet i r h
 ·exact T.m_Tiled i r h'
set_option hygiene false in
local macro_rules | `(tactic| walk_at "in")=>`(tactic| (intro f cdv A outer s H E ws G R hr nd h;have hu:=c1b hr))
set_option hygiene false in
local macro_rules | `(tactic| ac_rfl)=>`(tactic| repeat' first
 | ((with_reducible show QE _ _ _);first | ((with_reducible show QE _ (.Name _ _) _);first | exact qw (by first | exact cxN | exact cxcN | exact cxN') (by with_reducible first | exact at_0 | exact at_1 | exact at_2 | exact at_3 | exact at_4 | exact at_5 | exact at_6 | exact at_7 | exact at_8 | exact at_9 | exact b8P | exact b8Q) | exact b3y (a7W rfl T.c_LONGEST_NAME) | exact b3y (a7W rfl T.c_LAST_MOMENT) | exact q_ty (a4T (v:=.ty "str") rfl (T.b 2) rfl rfl) | exact q_ty (a4T (v:=.ty "bool") rfl (T.b 4) rfl rfl) | exact q_ty (a4T (v:=.ty "int") rfl (T.b 5) rfl rfl) | exact q_ty (a4T (v:=.ty "dict") rfl (T.b 12) rfl rfl)) | exact b4M | exact b9Z | exact b7m | exact q_bl | refine' b4R x_sl ?_ ?_ ?_ | refine' q_ix x_ix ?_ ?_ (λ_ _=>rfl) | apply q_op | ((with_reducible show QE _ (.Call (.Name "len" _) _ _ _) _);refine' q_B c0i (T.b 3) ?_ (hv:=PySem.boot_len)) | ((with_reducible show QE _ (.Call (.Name "min" _) _ _ _) _);refine' q_B (c0k rfl) (T.b 6) ?_) | ((with_reducible show QE _ (.Call (.Name "max" _) _ _ _) _);refine' q_B (c0j rfl) (T.b 7) ?_) | ((with_reducible show QE _ (.Call (.Name "all" _) _ _ _) _);refine' q_B (b7N rfl) (T.b 0) ?_) | ((with_reducible show QE _ (.Call (.Name "isinstance" _) _ _ _) _);refine' q_B c0l (T.b 1) ?_) | refine' q_c (by walk_at "c") hr ?_ | apply a8t | apply b7x | ((with_reducible show QE _ (.Call (.Attribute _ "append" _) _ _ _) _);refine' q_bm PySem.F.plainAttrs_list PySem.F.slot_list_append PySem.F.type_list_append a7y ?_ ?_) | ((with_reducible show QE _ (.Call (.Attribute _ "extend" _) _ _ _) _);refine' q_bm PySem.F.plainAttrs_list PySem.F.slot_list_extend PySem.F.type_list_extend b2f ?_ ?_) | ((with_reducible show QE _ (.Call (.Attribute _ "join" _) _ _ _) _);refine' q_bm PySem.F.plainAttrs_str PySem.F.slot_str_join PySem.F.type_str_join b3I ?_ ?_) | ((with_reducible show QE _ (.Call (.Attribute _ "find" _) _ _ _) _);refine' q_bm PySem.F.plainAttrs_str PySem.F.slot_str_find PySem.F.type_str_find b8o ?_ ?_) | ((with_reducible show QE _ (.Call (.Attribute _ "get" _) _ _ _) _);first | refine' q_bm PySem.F.plainAttrs_dict PySem.F.slot_dict_get PySem.F.type_dict_get (a7P hu) ?_ ?_ | refine' q_bm PySem.F.plainAttrs_dict PySem.F.slot_dict_get PySem.F.type_dict_get (b5I hu) ?_ ?_) | ((with_reducible show QE _ (.Call (.Attribute _ "setdefault" _) _ _ _) _);refine' q_bm PySem.F.plainAttrs_dict PySem.F.slot_dict_setdefault PySem.F.type_dict_setdefault a28 ?_ ?_) | apply b90 | refine' b4N ?_ ?_ ?_ ?_ ?_ | apply b94 | refine' q_un c0g ?_ | apply b92 | apply b7r | apply b93 | apply q_if)
 | ((with_reducible show QA _ _ _);first | exact a0z | refine' q_k ?_ ?_)
 | ((with_reducible show OpQ _ _ _);first | ((with_reducible show OpQ _ (fR .Add) _);exact b44) | ((with_reducible show OpQ _ (fN .Eq) _);exact (o_eq hu)) | ((with_reducible show OpQ _ (fR .FloorDiv) _);exact b7J) | ((with_reducible show OpQ _ (fN .Gt) _);exact o_gt) | ((with_reducible show OpQ _ (fN .In) _);exact (o_in hu)) | ((with_reducible show OpQ _ (fN .Is) _);exact o_is) | ((with_reducible show OpQ _ (fN .IsNot) _);exact b5a) | ((with_reducible show OpQ _ (fN .Lt) _);exact o_lt) | ((with_reducible show OpQ _ (fN .LtE) _);exact o_le) | ((with_reducible show OpQ _ (fR .Mod) _);exact c0e) | ((with_reducible show OpQ _ (fR .Mult) _);exact c0d) | ((with_reducible show OpQ _ (fN .NotEq) _);exact (o_ne hu)) | ((with_reducible show OpQ _ (fN .NotIn) _);exact (b48 hu)) | ((with_reducible show OpQ _ (fR .Pow) _);exact c0f) | ((with_reducible show OpQ _ (fR .Sub) _);exact c0c) | ((with_reducible show OpQ _ (gK .Add) _);exact b3E))
 | ((with_reducible show g9 _ _=_);first | exact a3y _ | with_unfolding_all rfl)
 | ((with_reducible show QT _ _ _);first | apply a1Z | refine' b18 ?_ ?_ ?_ ?_ ?_ | refine' QW.qt (e:=.BoolOp _ _ _) ?_ | apply b7p | refine' b95 (a:=.Call _ _ _ _) ?_ | refine' b7s ?_ (λ_=>rfl))
 | ((with_reducible show QW _ _ _);first | apply b3z | apply b7o | apply b4O | apply q_or)
 | ((with_reducible show QO _ _ _);first | exact b19 | apply b7v)
 | ((with_reducible show QI _ _ _ _);first | ((with_reducible show QI _ _ (.Call (.Name "range" _) _ _ _) _);first | refine' a8v rfl (T.b 13) ?_ | refine' a8w rfl (T.b 13) ?_) | apply a1G)
 | ((with_reducible show QP _ _ _);first | apply p_nm | refine' p_tp rfl ?_)
 | ((with_reducible show QPg _ _ _);first | exact c1a | apply b8O)
 | ((with_reducible show Nm _ _ _);exact nwI (by first | exact cxN | exact cxcN | exact cxN') (by with_reducible first | exact at_0 | exact at_1 | exact at_2 | exact at_3 | exact at_4 | exact at_5 | exact at_6 | exact at_7 | exact at_8 | exact at_9 | exact b8P | exact b8Q) nd)
 | ((with_reducible show QS _ _ _);first | apply a1F | refine' z_st ?_ ?_ | refine' a26 ?_ | apply z_if | refine' b7G ?_ ?_ | refine' a15 fW.never rfl ?_ ?_ ?_ | apply z_au | exact b7A | exact b4X | exact b7B | exact b7E)
 | ((with_reducible show QSs _ _ _);first | exact a3c | apply a0B | apply a0c)
 | ((with_reducible show QIfs _ _ _);first | exact b41 | apply a3I)
 | ((with_reducible show Cal _ _ _ _ _ _ _ _ _);walk_at "c")
 | ((with_reducible show _<=_);decide))
local macro_rules | `(tactic| walk_at "r4")=>`(tactic| (intro _ _ _ _;ac_rfl))
set_option hygiene false in
local macro_rules | `(tactic| walk_at "r5")=>`(tactic| (intro _ _ _ _ nd;ac_rfl))
set_option hygiene false in
local macro_rules | `(tactic| walk_at "c")=>`(tactic| first | exact a6l T | exact a4o T | exact a30 T | exact a3h T | exact a7i T | exact a6h T | exact a4m T | exact a2v T | exact a5n T | exact a1A T | exact a6j T | exact a6Y T | exact a4u T | exact a1e T | exact a08 T | exact a37 T | exact a65 T | exact a3k T | exact a4q T | exact a5w T | exact a4b T | exact a7d T | exact a1l T | exact a5y T | exact a21 T | exact a2y T | exact a7k T | exact a2A T | exact a1y T | exact a2B T | exact a8Z T | exact a85 T | exact b3d T | exact a87 T | exact a6p T | exact a89 T | exact b1y T | exact a8c T | exact a4f T)
def a7W(hg:Gl X x)(hm:∃t,X.mg x=some (.int i t))(hd:(x==("__debug__":Str))=false:=by decide):PE X (.Name x pos) (tC (.int i)):=by
 obtain⟨t,h⟩:=hm;exact b4k hg h ⟨t,rfl⟩ hd
def c1c (h:t σ G λws G1=>∃(p:Addr)(ns:List Int),ws=[.ref p]/\G1 p=some (.lst (ns.map Z.int))/\ns.length<=1000 /\
  ∀(t:Addr)(ks:List Int),G1 t=none->ks.Pairwise (·<·)->(∀x,x∈ks↔x∈ns)->ks.length<=ns.length->R (.ref t) (put G1 t (.lst (ks.map Z.int)))):uSS t σ G R:=h
def a7X:P3:=λws G R=>∃a ns,ws=[.scr a ns]/\ns.length<=63/\∀G',R (.bl true) G'
def b03{K:Fg}{H:Hp}{E:XK}(a:Addr)(ns:List Int)(hl:ns.length<=63)(f:Fz K H a (ns.map V.int)):lowP K a7X [.ref a] H (λv _=>v=.bl true) E:=
 ⟨[.scr a ns],λ_=>none,λw _=>w=.bl true,.cons (by rw[a2O];exact⟨rfl,f⟩) .nil,λ_ _ e=>(nomatch e),⟨a,ns,rfl,hl,λ_=>rfl⟩,λw G v H' e r _ _=>by subst e;rw[a0u]at r;exact r⟩
def lenK(h:Nat.ble n 1000=true):n<=sizeLine:=b2 (a0h (Nat.le_of_ble_eq_true h))
def a01(h:n<=1000):n<=sizeLine:=b2 (a0h h)
def b8R(x w:Int):Prop:=w=0\/(w=1/\0<=x/\x<536870909)
abbrev RowO(x w:Int):O:=.lst [.int x,.int w]
def RowAt(G:Hq)(r:Addr):Prop:=∃x w,G r=some (RowO x w)/\b8R x w
local macro_rules | `(tactic| walk_at "sd")=>`(tactic| first | assumption | (exact a01 (by first | decide | omega | (simp;done) | (simp;omega))) | (exact a0h (by first | decide | omega | (simp;done) | (simp;omega))) | decide | omega)
local macro_rules | `(tactic| walk_at "hp")=>`(tactic| first | assumption | exact a0a | (refine a0b ?_ (by assumption);walk_at "hp") | (refine Sm.get (by assumption) ?_;walk_at "hp"))
local macro_rules | `(tactic| walk_at "go1")=>`(tactic| with_reducible (first
 | apply c0u | refine c0m (by with_unfolding_all rfl) ?_ | apply i_c | apply i_op | apply i_un | apply b7S | apply b5d | apply c0n | apply i_or | apply c0o | apply b7T | apply c0p | apply i_notV | apply i_if
 | apply c0q | apply i_truI | apply i_truB | apply i_sl | apply b2g | apply b7U | apply c0r | apply b7V | apply c0s | apply c0t | apply i_cb | apply c1c | apply i_bm0 | apply i_bm | apply b7W
 | apply b7X | apply b7Y | apply c0v | apply i_retN | apply c0w | apply c0x | apply c0y | refine c0z (by with_unfolding_all rfl) ?_ | apply i_break | apply i_cont | apply b76 | apply c0J | apply i_iL | apply i_iT | apply i_iS | apply c0K | apply c0L | apply i_wkC | apply c0M | apply c0N | apply i_tt
 | apply b7Z | apply i_I0 | apply c0A | apply i_CI | apply i_CS | apply b5e | apply i_isB | apply b70 | apply i_eqB | apply b71 | apply c0B | apply i_inS | apply b73 | apply i_nm | refine a18 (by with_unfolding_all rfl) ?_ | apply i_lenT | apply b74 | apply i_mm | apply c0H
 | apply ifT | apply ifF | apply ifNN | apply ifNI | apply ifNS | apply ifNU | apply ifMN | apply ifMI | apply ifMS | apply ifMU | refine a18 at0 ?_ | refine a18 at1 ?_ | refine a18 at2 ?_ | apply b8p | apply b8t | apply i_iR3 | apply b8u | apply b8x | apply b5C | apply b5D | apply b8y | apply b8z | apply i_disp | apply i_pcons | apply i_pnil | refine⟨_,rfl,?_⟩))
local macro_rules | `(tactic| walk_at "go")=>`(tactic| repeat walk_at "go1")
local macro_rules | `(tactic| symm)=>`(tactic| walk_at "go")
def a8Y:P3:=λws G R=>∃p ns k,ws=[.scr p ns,.int k]/\0<=k/\∀i,R (.int i) G
variable{P:fK}{w:World}{K:Fg}{mg:Str->Option Value}{base:Heap}{a:Ad}
set_option tactic.hygienic true in
def a8Z(T:Txt K mg a):Cal P w K mg base CX0 1 "_law_cell_at" (lowP K a8Y):=by
 refine fnc 2 (N:=["script","k"]) T.br (T.f 30 _ rfl) ?_;walk_at "in";refine⟨_,(by ac_rfl),?_⟩;obtain⟨p,e,k,rfl,d,q⟩:=h;symm;refine ifD (λc=>?_) λ_=>?_
 ·obtain⟨j,rfl⟩:=cM d;have f:j<e.length:=by lia
  symm;exact c0C (a1f (aN f)) (q _)
 ·symm;exact q _
def RowAt.new(h:RowAt G r)(n:G p=none):RowAt (put G p o) r:=by
 obtain⟨x,w,e,k⟩:=h;exact⟨x,w,a0b e n,k⟩
def RowAt.at{G:Hq}{r:Addr}{x w:Int}(k:b8R x w):RowAt (put G r (RowO x w)) r:=⟨x,w,a0a,k⟩
structure Rw where
 b:Int
 e:Option Int
 w:List Z
@[reducible] noncomputable def oz:Option Int->Z
 |none=>.non
 |some i=>.int i
def b8S(h:oz x=oz y):x=y:=by
 cases x<;>cases y<;>first |rfl |cases h<;>rfl
noncomputable def Rw.z(r:Rw):Z:=.tup (.int r.b::oz r.e::r.w)
def Rw.z_inj{r s:Rw}(h:r.z=s.z):r=s:=by
 obtain⟨b,e,w⟩:=r;simp only[Rw.z,Z.tup.injEq,cb.injEq,Z.int.injEq]at h;obtain⟨rfl,a,rfl⟩:=h;rw[b8S a]
noncomputable def bef(t:Int):Option Int->Bool
 |none=>true
 |some e=>decide (t<e)
noncomputable def Rw.has(r:Rw)(t:Int):Bool:=decide (r.b<=t)&&bef t r.e
def Rw.good(r:Rw):Prop:=bef r.b r.e=true
noncomputable def val(l:List Rw)(t:Int):Option (List Z):=(l.find? (·.has t)).map (·.w)
def a0Z:val [] t=none:=rfl
def a0k:val (r::l) t=if r.has t=true then some r.w else val l t:=by
 unfold val;rw[bQ];cases h:r.has t<;>simp
def a0J:val (l++m) t=(val l t).or (val m t):=by
 unfold val;rw[fc];cases h:l.find? _<;>simp
def Lt(r s:Rw):Prop:=∃e,r.e=some e/\e<=s.b
def Lt2(r s:Rw):Prop:=∃e,r.e=some e/\e<=s.b/\(e=s.b->r.w≠s.w)
def Rise(l:List Rw):Prop:=(∀r∈l,r.good)/\l.Pairwise Lt
def Can(l:List Rw):Prop:=(∀r∈l,r.good)/\l.Pairwise Lt2
def Lt2.lt{r s:Rw}(h:Lt2 r s):Lt r s:=let ⟨e,a,b,_⟩:=h;⟨e,a,b⟩
noncomputable def Can.rise(h:Can l):Rise l:=⟨h.1,h.2.imp Lt2.lt⟩
def Can.nil:Can []:=⟨λ_ h=>by simp at h,.nil⟩
def Rise.nil:Rise []:=Can.nil.rise
def Can.tail(h:Can (r::l)):Can l:=⟨λs a=>h.1 s (.tail _ a),(aT.mp h.2).2⟩
def Rise.tail(h:Rise (r::l)):Rise l:=⟨λs a=>h.1 s (.tail _ a),(aT.mp h.2).2⟩
def a5i{r:Rw}(h:r.good):r.has r.b=true:=by
 unfold Rw.has;rw[h];simp
noncomputable def Lt.has(h:Lt r s)(a:r.has t=true):s.has t=false:=by
 obtain⟨e,c,d⟩:=h;unfold Rw.has at a ⊢;rw[c]at a;simp only[bef,bD,decide_eq_true_eq]at a
 have:decide (s.b<=t)=false:=decide_eq_false (by lia)
 rw[this,fe]
def Lt.b(g:r.good)(h:Lt r s):r.b<s.b:=by
 obtain⟨e,a,c⟩:=h
 have:bef r.b r.e=true:=g
 rw[a]at this;simp only[bef,decide_eq_true_eq]at this
 lia
def a1T(h:∀r∈l,r.has t=false):val l t=none:=by simp_all[val]
def a5j{l:List Rw}{t:Int}{w:List Z}(h:val l t=some w):∃r∈l,r.has t=true/\r.w=w:=by
 induction l with
 |nil=>cases h
 |cons r l ih=>
  rw[a0k]at h
  split at h
  ·next e=>cases h;exact⟨r,.head _,e,rfl⟩
  ·obtain⟨s,h1,h2⟩:=ih h;exact⟨s,.tail _ h1,h2⟩
def a4N{r:Rw}(h:t<r.b):r.has t=false:=by
 unfold Rw.has;rw[decide_eq_false (by lia),fe]
def b8T(h:Can (r::l))(h':Can (s::m))(q:∀t,val (r::l) t=val (s::m) t):¬ r.b<s.b:=λc=>by
 have d:=q r.b;rw[a0k,a5i (h.1 r (.head _)),if_pos rfl,a1T]at d
 ·grind
 ·intro x a;refine a4N ?_;rcases aD.mp a with rfl |a
  ·omega
  ·have:=(((aT.mp h'.2).1 x a).lt).b (h'.1 s (.head _))
   lia
def b5V(h:Can (r::l))(hb:r.b=s.b)(hw:r.w=s.w)(q:∀t,val (r::l) t=val (s::m) t)(he:r.e=some e):bef e s.e=false:=by
 cases hc:bef e s.e with
 |false=>rfl
 |true=>
  exfalso;have g:bef r.b r.e=true:=h.1 r (.head _)
  rw[he]at g;simp only[bef,decide_eq_true_eq]at g;have c:=q e;have i:s.has e=true:=by unfold Rw.has;rw[hc,decide_eq_true (show s.b<=e by lia)];rfl
  have k:r.has e=false:=by unfold Rw.has;rw[he];simp[bef]
  rw[a0k,a0k,i,k,if_pos rfl,if_neg (by simp)]at c;obtain⟨x,n,a,d⟩:=a5j c;obtain⟨u,f,p,j⟩:=(aT.mp h.2).1 x n;rw[he]at f;cases f;have o:x.b<=e:=by unfold Rw.has at a;simp at a;exact a.1
  exact j (by lia) (by simp_all)
theorem a7Y:∀{l m:List Rw},Can l->Can m->(∀t,val l t=val m t)->l=m
 |[],[],_,_,_=>rfl
 |[],s::m,_,h',q=>by
  have:=q s.b
  rw[a0Z,a0k,a5i (h'.1 s (.head _)),if_pos rfl]at this;cases this
 |r::l,[],h,_,q=>by
  have:=q r.b
  rw[a0Z,a0k,a5i (h.1 r (.head _)),if_pos rfl]at this;cases this
 |r::l,s::m,h,h',q=>by
  have a:r.b=s.b:=by
   have f:=b8T h h' q;have g:=b8T h' h λt=>(q t).symm
   lia
  have c:r.w=s.w:=by
   have f:=q r.b;have g:s.has r.b=true:=a▸a5i (h'.1 s (.head _));rw[a0k,a0k,a5i (h.1 r (.head _)),g,if_pos rfl,if_pos rfl]at f;exact bv.inj f
  have i:r.e=s.e:=by
   cases e1:r.e with
   |none=>
    cases e2:s.e with
    |none=>rfl
    |some e=>
     have:=b5V h' a.symm c.symm (λt=>(q t).symm) e2
     rw[e1]at this;cases this
   |some e=>
    have:=b5V h a c q e1
    cases e2:s.e with
    |none=>rw[e2]at this;cases this
    |some e'=>
     have k:=b5V h' a.symm c.symm (λt=>(q t).symm) e2;rw[e1]at k;rw[e2]at this;simp only[bef,decide_eq_false_iff_not]at this k
     congr 1
     lia
  have j:r=s:=by
   obtain⟨_,_,_⟩:=r;simp only at a c i;rw[a,c,i]
  subst j
  congr 1
  refine a7Y h.tail h'.tail λt=>?_;cases ht:r.has t with
  |true=>
   rw[a1T λx d=>((aT.mp h.2).1 x d).lt.has ht,a1T λx d=>((aT.mp h'.2).1 x d).lt.has ht]
  |false=>
   have:=q t
   rw[a0k,a0k,ht,if_neg (by simp),if_neg (by simp)]at this;exact this
noncomputable def jn(told:List Rw)(p:Rw):List Rw:=match told.getLast? with
 |some l=>if l.e=some p.b/\l.w=p.w then told.dropLast++[⟨l.b,p.e,p.w⟩] else told++[p]
 |none=>told++[p]
noncomputable def join(ps:List Rw):List Rw:=ps.foldl jn []
def a2t{α:Type}{l:List α}{x:α}(h:l.getLast?=some x):l=l.dropLast++[x]:=by
 obtain⟨a,rfl⟩:=List.getLast?_eq_some_iff.mp h;simp
def c1d(h:Can told)(g:p.good)(hlt:∀r∈told,Lt r p):Can (jn told p)/\(∀t,val (jn told p) t=(val told t).or (val [p] t))/\(∀x,(∀r∈told,Lt r x)->Lt p x->∀r∈jn told p,Lt r x)/\(jn told p).length<=told.length+1/\∀r∈jn told p,r.w=p.w\/∃r'∈told,r.w=r'.w:=by
 unfold jn;cases hl:told.getLast? with
 |none=>
  have:told=[]:=ff.mp hl
  subst this;exact⟨⟨λr a=>by simp at a;rw[a];exact g,by simp⟩,λt=>by simp[a0Z],λx _ f r a=>by simp at a;rw[a];exact f,by simp,λr a=>by simp at a;rw[a];exact .inl rfl⟩
 |some l=>
  have d:=a2t hl;generalize told.dropLast=init at d;subst d;have i:l∈init++[l]:=by simp
  have k:=aY.mp h.2;dsimp only
  split
  ·next hc=>
   obtain⟨n,o⟩:=hc;have D:l.b<p.b:=by
    have:bef l.b l.e=true:=h.1 l i
    rw[n]at this;simpa[bef]using this
   have v:(⟨l.b,p.e,p.w⟩:Rw).good:=by
    show bef l.b p.e=true
    have:bef p.b p.e=true:=g
    cases hpe:p.e with
    |none=>rfl
    |some e=>
     rw[hpe]at this;simp only[bef,decide_eq_true_eq]at this ⊢
     lia
   refine⟨⟨λr a=>?_,?_⟩,λt=>?_,λx m f r a=>?_,by simp,λr a=>?_⟩
   ·rcases aE.mp a with a |a
    ·exact h.1 r (by simp[a])
    ·rw[aJ.mp a];exact v
   ·refine aY.mpr ⟨k.1,by simp,λr a s d=>?_⟩;rw[aJ.mp d];obtain⟨e,c,j,A⟩:=k.2.2 r a l (by simp);exact⟨e,c,j,λz=>by rw[<- o];exact A z⟩
   ·rw[a0J,a0J];cases val init t with
    |some w=>rfl
    |none=>
     have y:(⟨l.b,p.e,p.w⟩:Rw).has t=(l.has t||p.has t):=by
      unfold Rw.has;rw[n]
      have:bef p.b p.e=true:=g
      cases hpe:p.e with
      |none=>
       simp only[bef,dE]
       by_cases c1:l.b<=t<;>by_cases c2:t<p.b<;>by_cases c3:p.b<=t<;>simp[c1,c2,c3]<;>lia
      |some e=>
       rw[hpe]at this;simp only[bef,decide_eq_true_eq]at this ⊢
       by_cases c1:l.b<=t<;>by_cases c2:t<p.b<;>by_cases c3:p.b<=t<;>by_cases c4:t<e<;>simp[c1,c2,c3,c4]<;>lia
     simp only[a0k,a0Z,y,o,Option.none_or];cases l.has t<;>cases p.has t<;>simp
   ·rcases aE.mp a with a |a
    ·exact m r (by simp[a])
    ·rw[aJ.mp a];obtain⟨e,c,j⟩:=f;exact⟨e,c,j⟩
   ·rcases aE.mp a with a |a
    ·exact .inr ⟨r,by simp[a],rfl⟩
    ·rw[aJ.mp a];exact .inl rfl
  ·next hc=>
   refine⟨⟨λr a=>?_,?_⟩,λt=>a0J,λx m f r a=>?_,by simp,λr a=>?_⟩
   ·rcases aE.mp a with a |a
    ·exact h.1 r a
    ·rw[aJ.mp a];exact g
   ·refine aY.mpr ⟨h.2,by simp,λr a s d=>?_⟩;rw[aJ.mp d];obtain⟨e,c,j⟩:=hlt r a;refine⟨e,c,j,λz u=>?_⟩;rcases aE.mp a with hr' |hr'
    ·obtain⟨C,q,B,_⟩:=k.2.2 r hr' l (by simp);rw[c]at q;cases q
     have:=(hlt l i).b (h.1 l i)
     lia
    ·simp_all
   ·rcases aE.mp a with a |a
    ·exact m r a
    ·rw[aJ.mp a];exact f
   ·rcases aE.mp a with a |a
    ·exact .inr ⟨r,a,rfl⟩
    ·rw[aJ.mp a];exact .inl rfl
def b5W:∀(ps told:List Rw),Can told->Rise ps->(∀r∈told,∀p∈ps,Lt r p)->Can (ps.foldl jn told)/\(∀t,val (ps.foldl jn told) t=(val told t).or (val ps t))/\(ps.foldl jn told).length<=told.length+ps.length/\∀r∈ps.foldl jn told,∃r'∈told++ps,r.w=r'.w:=by intro z0;induction z0 with
 |nil=>intro told h _ _;exact⟨h,λt=>by simp[a0Z],by simp,λr f=>⟨r,by simpa using f,rfl⟩⟩
 |cons p ps I0=>
  intro told h f hlt;have a:=c1d h (f.1 p (.head _)) λr q=>hlt r q p (.head _);have b:=I0 _ a.1 f.tail λr q x j=>a.2.2.1 x (λg k=>hlt g k x (.tail _ j)) ((aT.mp f.2).1 x j) r q;refine⟨b.1,λt=>?_,?_,λr i=>?_⟩
  ·show val (ps.foldl jn _) t=_
   rw[b.2.1 t,a.2.1 t,show p::ps=[p]++ps from rfl,a0J,Option.or_assoc]
  ·grind
  ·obtain⟨g,c,d⟩:=b.2.2.2 r i;rcases aE.mp c with c |c
   ·rcases a.2.2.2.2 g c with e |⟨r2,e1,e2⟩
    ·exact⟨p,by simp,d.trans e⟩
    ·grind
   ·exact⟨g,by simp[c],d⟩
def a00(h:Rise ps):Can (join ps)/\(∀t,val (join ps) t=val ps t)/\(join ps).length<=ps.length/\∀r∈join ps,∃r'∈ps,r.w=r'.w:=by
 have:=b5W ps [] .nil h λr a=>by simp at a
 unfold join;exact⟨this.1,λt=>by rw[this.2.1 t];rfl,by simpa using this.2.2.1,by simpa using this.2.2.2⟩
noncomputable def emin:Option Int->Option Int->Option Int
 |none,o=>o
 |some e,none=>some e
 |some e,some o=>some (if o<e then o else e)
noncomputable def a10(m:Option Int)(r:Rw):Option Rw:=if bef r.b m=true then some ⟨r.b,emin r.e m,r.w⟩ else none
noncomputable def ahead(m:Option Int)(l:List Rw):List Rw:=l.filterMap (a10 m)
noncomputable def a5k(m:Int)(r:Rw):Option Rw:=if bef m r.e=true then some ⟨if m > r.b then m else r.b,r.e,r.w⟩ else none
noncomputable def fromOn(m:Int)(l:List Rw):List Rw:=l.filterMap (a5k m)
def b3Z(h1:∀r r',f r=some r'->r'.has t=(r.has t&&c)/\r'.w=r.w)(h2:∀r,f r=none->(r.has t&&c)=false):∀l:List Rw,val (l.filterMap f) t=if c=true then val l t else none:=by intro z0;induction z0 with
 |nil=>simp[a0Z]
 |cons r l I0=>
  have a:=I0;rw[bJ];cases hf:f r with
  |none=>
   have:=h2 r hf
   rw[a,a0k];cases c with
   |true=>rw[dE]at this;rw[this];rfl
   |false=>rfl
  |some r'=>
   obtain⟨d,b⟩:=h1 r r' hf;rw[a0k,a,d,b,a0k];cases c<;>cases r.has t<;>rfl
def a3r:bef t (emin x y)=(bef t x&&bef t y):=by
 cases x with
 |none=>cases y<;>simp[bef,emin]
 |some a=>
  cases y with
  |none=>simp[bef,emin]
  |some b=>
   simp only[bef,emin];rw[<- Bool.decide_and];apply a0w;rw[eq_iff_iff]
   split<;>omega
def a6c(m:Option Int)(l:List Rw)(t:Int):val (ahead m l) t=if bef t m=true then val l t else none:=by
 refine b3Z (λr a h=>?_) (λr h=>?_) l
 ·unfold a10 at h
  split at h
  ·cases h;refine⟨?_,rfl⟩;unfold Rw.has;simp only[a3r,Bool.and_assoc]
  ·cases h
 ·unfold a10 at h
  split at h
  ·cases h
  ·next hc=>
   unfold Rw.has;cases m with
   |none=>exact absurd rfl hc
   |some m=>
    simp only[bef,decide_eq_true_eq]at hc ⊢
    by_cases c1:r.b<=t
    ·rw[decide_eq_false (show ¬ t<m by lia),cS]
    ·rw[decide_eq_false c1];rfl
def b2R(m:Int)(l:List Rw)(t:Int):val (fromOn m l) t=if m<=t then val l t else none:=by
 have:(if m<=t then val l t else none)=if decide (m<=t)=true then val l t else none:=by simp
 rw[this];refine b3Z (λr a h=>?_) (λr h=>?_) l
 ·unfold a5k at h
  split at h
  ·cases h;unfold Rw.has
   have:decide ((if m > r.b then m else r.b)<=t)=(decide (r.b<=t)&&decide (m<=t)):=by grind
   rw[this];cases decide (r.b<=t)<;>cases decide (m<=t)<;>simp
  ·cases h
 ·unfold a5k at h
  split at h
  ·cases h
  ·next hc=>
   unfold Rw.has;cases he:r.e with
   |none=>rw[he]at hc;exact absurd rfl hc
   |some e=>
    rw[he]at hc;simp only[bef]at hc ⊢
    by_cases c1:m<=t
    ·grind
    ·simp_all
def a2u(h:x∈ahead m l):∃r∈l,bef r.b m=true/\x=⟨r.b,emin r.e m,r.w⟩:=by
 obtain⟨r,d,a⟩:=bp.mp h;unfold a10 at a
 split at a
 ·next c=>cases a;exact⟨r,d,c,rfl⟩
 ·cases a
def a3s(h:x∈fromOn m l):∃r∈l,bef m r.e=true/\x=⟨if m > r.b then m else r.b,r.e,r.w⟩:=by
 obtain⟨r,d,a⟩:=bp.mp h;unfold a5k at a
 split at a
 ·next c=>cases a;exact⟨r,d,c,rfl⟩
 ·cases a
def b8U(hf:∀r s r' s',R r s->f r=some r'->f s=some s'->R r' s'):∀{l:List Rw},l.Pairwise R->(l.filterMap f).Pairwise R:=by intro z0;induction z0 with
 |nil=>intro _;simp
 |cons r l I0=>
  intro h;have b:=aT.mp h;have c:=I0 b.2;rw[bJ];cases e:f r with
  |none=>exact c
  |some r'=>
   refine aT.mpr ⟨λs i=>?_,c⟩;obtain⟨a,d,g⟩:=bp.mp i;exact hf r a r' s (b.1 a d) e g
def b04{x:Int}{m:Option Int}:∃e,emin (some x) m=some e/\e<=x:=by
 cases m with
 |none=>exact⟨x,rfl,bE _⟩
 |some o=>
  refine⟨_,rfl,?_⟩
  split<;>omega
def a80(m:Option Int)(h:Rise l):Rise (ahead m l):=by
 refine⟨λx j=>?_,b8U (λr s t p d a c=>?_) h.2⟩
 ·obtain⟨r,k,i,rfl⟩:=a2u j
  show bef r.b _=true
  rw[a3r,i,dE];exact h.1 r k
 ·unfold a10 at a c
  split at a
  ·split at c
   ·cases a;cases c;obtain⟨e,g,o⟩:=d;obtain⟨f,n,q⟩:=@b04 e m;exact⟨f,by rw[<- n,<- g],by show f<=s.b;lia⟩
   ·grind
  ·grind
def b05(m:Int)(h:Rise l):Rise (fromOn m l):=by
 refine⟨λx j=>?_,b8U (λr s n k d a c=>?_) h.2⟩
 ·obtain⟨r,f,g,rfl⟩:=a3s j
  split
  ·exact g
  ·exact h.1 r f
 ·unfold a5k at a c
  split at a
  ·split at c
   ·cases a;cases c;obtain⟨e,i,o⟩:=d;exact⟨e,i,by show e<=(if m > s.b then m else s.b);split<;>omega⟩
   ·grind
  ·grind
def a6d(m:Option Int)(l:List Rw):(ahead m l).length<=l.length:=bN _ _
def b2S(m:Int)(l:List Rw):(fromOn m l).length<=l.length:=bN _ _
def b2T(hbe:b<=e):∀{l:List Rw},Rise l->(ahead (some b) l).length+(fromOn e l).length<=l.length+1:=by intro z0;induction z0 with
 |nil=>intro _;simp[ahead,fromOn]
 |cons r l I0=>
  intro h;have i:=I0 h.tail;have c:(ahead (some b) (r::l)).length=(if bef r.b (some b)=true then 1 else 0)+(ahead (some b) l).length:=by
   unfold ahead;unfold a10
   split
   ·grind
   ·grind
  have a:(fromOn e (r::l)).length=(if bef e r.e=true then 1 else 0)+(fromOn e l).length:=by
   unfold fromOn;unfold a5k
   split
   ·grind
   ·grind
  rw[c,a,aL]
  by_cases c1:bef r.b (some b)=true
  ·by_cases c2:bef e r.e=true
   ·have:ahead (some b) l=[]:=by
     unfold ahead;rw[fg];intro s g;unfold a10;obtain⟨j,f,k⟩:=((aT.mp h.2).1) s g;rw[f]at c2;simp only[bef,decide_eq_true_eq]at c1 c2 ⊢;rw[if_neg (by lia)]
    have:=b2S e l
    simp_all
    lia
   ·grind
  ·rw[if_neg c1];split<;>lia
noncomputable def a1x(l:List Rw)(b:Int)(e:Option Int)(w:Option (List Z)):List Rw:=
 ahead (some b) l++(match w with |some w=>[⟨b,e,w⟩] |none=>[])++(match e with |some e=>fromOn e l |none=>[])
def a6e{l:List Rw}{b:Int}{e:Option Int}{w:Option (List Z)}(h:Rise l)(g:bef b e=true):Rise (a1x l b e w)/\(∀t,val (a1x l b e w) t=if (decide (b<=t)&&bef t e)=true then w else val l t)/\(a1x l b e w).length<=l.length+2:=by
 have hA:=a80 (some b) h;have eA:∀r∈ahead (some b) l,∃x,r.e=some x/\x<=b:=λr hr=>by
  obtain⟨r0,_,_,rfl⟩:=a2u hr
  show ∃x,emin r0.e (some b)=some x/\x<=b
  cases r0.e with
  |none=>exact⟨b,rfl,bE _⟩
  |some x=>refine⟨_,rfl,?_⟩;split<;>omega
 have hM:Rise (match w with |some w=>[(⟨b,e,w⟩:Rw)] |none=>[]):=by
  cases w with
  |none=>exact .nil
  |some w=>exact⟨λr hr=>by rw[aJ.mp hr];exact g,by simp⟩
 have mM:∀r∈(match w with |some w=>[(⟨b,e,w⟩:Rw)] |none=>[]),r.b=b/\r.e=e:=λr hr=>by
  cases w with
  |none=>simp at hr
  |some w=>rw[aJ.mp hr];exact⟨rfl,rfl⟩
 have vM:∀t,val (match w with |some w=>[(⟨b,e,w⟩:Rw)] |none=>[]) t=if (decide (b<=t)&&bef t e)=true then w else none:=λt=>by
  cases w with
  |none=>simp[a0Z]
  |some w=>rw[a0k,a0Z];rfl
 have app:∀{A B:List Rw},Rise A->Rise B->(∀r∈A,∀s∈B,Lt r s)->Rise (A++B):=λha hb hab=>⟨λr hr=>(aE.mp hr).elim (ha.1 r) (hb.1 r),aY.mpr ⟨ha.2,hb.2,hab⟩⟩;unfold a1x;cases e with
 |none=>
  dsimp only;rw[bj];refine⟨app hA hM λr hr s hs=>?_,λt=>?_,?_⟩
  ·obtain⟨x,a1,a2⟩:=eA r hr;exact⟨x,a1,by rw[(mM s hs).1];exact a2⟩
  ·rw[a0J,a6c,vM];simp only[bef,dE,decide_eq_true_eq]
   by_cases c:b<=t
   ·rw[if_neg (by omega),if_pos c,if_pos c];rfl
   ·rw[if_pos (by omega),if_neg c,if_neg c];simp
  ·rw[aG]
   have:=a6d (some b) l
   cases w<;>simp<;>omega
 |some e=>
  have hbe:b<e:=by simpa[bef]using g
  have hF:=b05 e h;have bF:∀s∈fromOn e l,e<=s.b:=λs hs=>by
   obtain⟨r0,_,_,rfl⟩:=a3s hs
   show e<=(if e > r0.b then e else r0.b)
   split<;>omega
  dsimp only;refine⟨app (app hA hM λr hr s hs=>?_) hF λr hr s hs=>?_,λt=>?_,?_⟩
  ·obtain⟨x,a1,a2⟩:=eA r hr;exact⟨x,a1,by rw[(mM s hs).1];exact a2⟩
  ·have hs':=bF s hs;rcases aE.mp hr with hr |hr
   ·obtain⟨x,a1,a2⟩:=eA r hr;exact⟨x,a1,by omega⟩
   ·exact⟨e,(mM r hr).2,hs'⟩
  ·rw[a0J,a0J,a6c,vM,b2R];simp only[bef,bD,decide_eq_true_eq]
   by_cases c1:b<=t
   ·by_cases c2:t<e
    ·rw[if_neg (by omega),if_pos ⟨c1,c2⟩,if_neg (by omega),if_pos ⟨c1,c2⟩];simp
    ·rw[if_neg (by omega),if_neg (by omega),if_pos (by omega),if_neg (by omega)];rfl
   ·rw[if_pos (by omega),if_neg (by omega),if_neg (by omega),if_neg (by omega)];simp
  ·rw[aG,aG]
   have:=b2T (b:=b) (e:=e) (by omega) h
   cases w<;>simp<;>omega
noncomputable def pcs(f:Int->Option (List Z)):List Int->List Rw
 |[]=>[]
 |b::bs=>(match f b with |some w=>[⟨b,bs.head?,w⟩] |none=>[])++pcs f bs
def a3X:∀{bs:List Int}{r:Rw},r∈pcs f bs->r.b∈bs/\f r.b=some r.w:=by intro z0;induction z0 with
 |nil=>intro _ h;simp[pcs]at h
 |cons b bs I0=>
  intro r h;rcases aE.mp h with h |h
  ·cases e:f b with
   |none=>rw[e]at h;simp at h
   |some w=>rw[e]at h;rw[aJ.mp h];exact⟨.head _,e⟩
  ·obtain⟨c,a⟩:=I0 h;exact⟨.tail _ c,a⟩
def a4O(f:Int->Option (List Z)):∀bs:List Int,(pcs f bs).length<=bs.length:=by intro z0;induction z0 with
 |nil=>simp[pcs]
 |cons b bs I0=>
  have:=I0
  unfold pcs;cases f b<;>simp<;>omega
def a0M(f:Int->Option (List Z)):∀{bs:List Int},bs.Pairwise (·<·)->Rise (pcs f bs):=by intro z0;induction z0 with
 |nil=>intro _;simp[pcs];exact .nil
 |cons b bs I0=>
  intro h;have g:=aT.mp h;have i:=I0 g.2;unfold pcs;cases e:f b with
  |none=>simpa using i
  |some w=>
   refine⟨λr a=>?_,aY.mpr ⟨by simp,i.2,λr a s j=>?_⟩⟩
   ·rcases aE.mp a with a |a
    ·rw[aJ.mp a]
     show bef b bs.head?=true
     cases bs with
     |nil=>rfl
     |cons c cs=>simpa[bef]using g.1 c (.head _)
    ·exact i.1 r a
   ·rw[aJ.mp a];have d:=(a3X j).1;cases bs with
    |nil=>simp at d
    |cons c cs=>
     refine⟨c,rfl,?_⟩;rcases aD.mp d with q |q
     ·lia
     ·have:=(aT.mp g.2).1 _ q
      lia
def a6T:∀{bs:List Int},bs.Pairwise (·<·)->(∀t b,b∈bs->b<=t->(∀c∈bs,c<=t->c<=b)->f t=f b)->∀t,val (pcs f bs) t=if (bs.any λb=>decide (b<=t))=true then f t else none:=by intro z0;induction z0 with
 |nil=>intro _ _ t;simp[pcs,a0Z]
 |cons b bs I0=>
  intro h hf t;have j:=aT.mp h;have p:=I0 j.2 (λt c a g o=>hf t c (.tail _ a) g λd k l=>by
   rcases aD.mp k with rfl |k
   ·have:=j.1 c a;lia
   ·exact o d k l) t
  unfold pcs;rw[a0J,p,cw]
  by_cases c1:b<=t
  ·rw[decide_eq_true c1,Bool.true_or,if_pos rfl];cases c2:bs.any λb=>decide (b<=t) with
   |true=>
    obtain⟨c,a,g⟩:=cn.mp c2;have g:c<=t:=by simpa using g
    rw[if_pos rfl]
    have:val (match f b with |some w=>[(⟨b,bs.head?,w⟩:Rw)] |none=>[]) t=none:=by
     cases f b with
     |none=>rfl
     |some w=>
      rw[a0k,a0Z];cases bs with
      |nil=>simp at a
      |cons d ds=>
       have k:d<=t:=by
        rcases aD.mp a with rfl |a
        ·exact g
        ·have:=(aT.mp j.2).1 c a;lia
       have n:(⟨b,(d::ds).head?,w⟩:Rw).has t=false:=by
        unfold Rw.has;simp only[fh,bef];rw[decide_eq_false (show ¬ t<d by lia),cS]
       rw[n]
       rfl
    rw[this];rfl
   |false=>
    rw[if_neg (by decide)];have i:∀c∈bs,¬ c<=t:=λc a g=>by grind
    have m:=hf t b (.head _) c1 λc a g=>by
     rcases aD.mp a with rfl |a
     ·lia
     ·exact absurd g (i c a)
    rw[m];cases e:f b with
    |none=>rfl
    |some w=>
     rw[a0k,a0Z]
     have:(⟨b,bs.head?,w⟩:Rw).has t=true:=by
      unfold Rw.has;simp only;rw[decide_eq_true c1];cases bs with
      |nil=>rfl
      |cons d ds=>simp only[fh,bef,bM,decide_eq_true_eq];have:=i d (.head _);lia
     rw[this];rfl
  ·rw[decide_eq_false c1,eG];have i:(bs.any λb=>decide (b<=t))=false:=eC.mpr λc a=>by grind
   rw[i,if_neg (by decide)]
   have:val (match f b with |some w=>[(⟨b,bs.head?,w⟩:Rw)] |none=>[]) t=none:=by
    cases f b with
    |none=>rfl
    |some w=>
     rw[a0k,a0Z,a4N (by show t<b;lia)]
     rfl
   rw[this];rfl
noncomputable def a0f(puts:List Rw)(t:Int):Z:=match puts.reverse.find? (·.has t) with
 |some r=>r.w.headD .non
 |none=>.non
noncomputable def optW(z:Z):Option (List Z):=if z=.non then none else some [z]
def a6U(puts:List Rw)(p:Rw)(t:Int):a0f (puts++[p]) t=if p.has t=true then p.w.headD .non else a0f puts t:=by
 unfold a0f;rw[cq,cE,List.reverse_nil,cY,dz,bQ];cases p.has t<;>rfl
def a4P(rows:List Rw)(bs:List Int):Prop:=bs.Pairwise (·<·)/\∀x,x∈bs↔∃r∈rows,x=r.b\/r.e=some x
def a7Z{r:Rw}(h:b<=t)(h1:r.b<=t->r.b<=b)(h2:∀e,r.e=some e->e<=t->e<=b):r.has t=r.has b:=by
 unfold Rw.has;have a:decide (r.b<=t)=decide (r.b<=b):=a0w (by grind)
 congr 1
 cases he:r.e with
 |none=>rfl
 |some e=>
  have:=h2 e he
  exact a0w (by grind)
def a4Q:∀{l:List Rw},(∀r∈l,f r=g r)->l.find? f=l.find? g:=by intro z0;induction z0 with
 |nil=>intro _;exact rfl
 |cons r l I0=>intro h;rw[bQ,bQ,h r (.head _),I0 λs a=>h s (.tail _ a)]
noncomputable def a6f(l:List Rw)(b:Int)(e:Option Int)(w:Option (List Z)):List Rw:=join (a1x l b e w)
def a70{l:List Rw}{b:Int}{e:Option Int}{w:Option (List Z)}(h:Rise l)(g:bef b e=true):Can (a6f l b e w)/\(∀t,val (a6f l b e w) t=if (decide (b<=t)&&bef t e)=true then w else val l t)/\(a6f l b e w).length<=l.length+2:=by
 have a:=a6e (w:=w) h g;have j:=a00 a.1;exact⟨j.1,λt=>by rw[<- a.2.1 t];exact j.2.1 t,aM j.2.2.1 a.2.2⟩
def okW(w:List Z):Prop:=w≠[]/\w.length<=4/\w.all (flat 4)=true
def OkR(l:List Rw):Prop:=∀r∈l,okW r.w
def a0o:∀{n m:Nat}{z:Z},n<=m->flat n z=true->flat m z=true:=by
 intro n
 induction n with
 |zero=>intro m z _ h;cases z<;>first | (simp[flat]at h;done) | (cases m<;>simp_all[flat])
 |succ n ih=>
  intro m z b h;cases m with
  |zero=>lia
  |succ m=>
   cases z with
   |tup ws=>
    simp only[flat,bX]at h ⊢;exact λx a=>ih (by lia) (h x a)
   |_=>first | (simp[flat];done) | (simp[flat]at h;done) | (simp only[flat]at h ⊢;exact h)
def b2U{ws:List Z}(hm:n<=m)(h:ws.all (flat n)=true):ws.all (flat m)=true:=by
 rw[bX]at h ⊢;exact λx a=>a0o hm (h x a)
def b06:flat n (oz e)=true:=by
 cases e<;>cases n<;>rfl
def a5l:flat n (.int i)=true:=by cases n<;>rfl
def b2V:flat n .non=true:=by cases n<;>rfl
noncomputable def wz:Option (List Z)->Z
 |none=>.non
 |some w=>w.headD .non
def c1e(h:R (.bl (!e.isSome)) G):zIs false (oz e) .non G R:=by
 cases e with
 |none=>exact b5e h
 |some e=>exact b5e h
def b8V(h:R (.bl (decide (e=some b))) G):zEq id (oz e) (.int b) G R:=by
 cases e with
 |none=>
  refine (⟨b2V,a5l,?_⟩)
  have:decide (Z.non=Z.int b)=decide (none=some b):=by simp
  exact h
 |some e=>
  refine b71 ?_
  have:decide (e=b)=decide (some e=some b):=a0w (by simp)
  rw[this];exact h
def c1f(h1:flat 8 (.tup xs)=true)(h2:flat 8 (.tup ys)=true)(h:R (.bl (f (decide (xs=ys)))) G):zEq f (.tup xs) (.tup ys) G R:=by
 refine (⟨h1,h2,?_⟩);rw[a0w (Z.tup.injEq _ _)];exact h
def a3g:P3:=λws G R=>∃x y,ws=[oz x,oz y]/\R (oz (emin x y)) G
set_option tactic.hygienic true in
def a3h(T:Txt K mg a):Cal P w K mg base CX0 1 "earlier_end" (lowP K a3g):=by
 refine fnc 2 (N:=["end","other"]) T.br (T.f 3 _ rfl) ?_;walk_at "in";refine⟨_,(by ac_rfl),?_⟩;obtain⟨x,y,rfl,q⟩:=h;cases x with
 |none=>
  symm;cases y<;>exact q
 |some x=>
  cases y with
  |none=>
   symm;exact q
  |some y=>
   symm;exact q
noncomputable def over(r:Rw)(m:Int):Bool:=match r.e with
 |none=>false
 |some e=>decide (e<=m)
def a6g:P3:=λws G R=>∃r m,ws=[Rw.z r,.int m]/\R (.bl (over r m)) G
set_option tactic.hygienic true in
def a6h(T:Txt K mg a):Cal P w K mg base CX0 1 "is_over" (lowP K a6g):=by
 refine fnc 2 (N:=["stretch","moment"]) T.br (T.f 5 _ rfl) ?_;walk_at "in";refine⟨_,(by ac_rfl),?_⟩;obtain⟨⟨b,e,w⟩,m,rfl,q⟩:=h;cases e with
 |none=>
  symm;exact a18 at1 (by symm;exact q)
 |some e=>
  symm;refine a18 at1 ?_;symm;refine a18 at1 ?_;symm;exact q
def a2T{α β:Type}{l:List α}{g:α->Z}{g':β->Z}(f:α->Option β)(hok:∀ys,ok (put G1 D (.lst ys)))(hz:l.length<=1000)
  (turn:∀x,x∈l->∀(ys:List Z)(K1:K3)(K2:Hq->Prop),(∀y,f x=some y->K1 (g' y) (put G1 D (.lst ys)))->(f x=none->K2 (put G1 D (.lst ys)))->∃σ',a3H pt (g x) (cap3 cap σ)=some σ'/\tt σ' (put G1 D (.lst ys)) λb G4=>if b=true then te σ' G4 K1 else K2 G4)
  (fin:R (.ref D) (put G1 D (.lst ((l.filterMap f).map g')))):LCB (l.map g) ok cap pt tt te σ R D G1:=by
 refine a6F (λi c G=>c=((l.take i).filterMap f).map g'/\G=put G1 D (.lst c)) ⟨by simp,rfl⟩ ?_ ?_ ?_
 ·simp_all
 ·rintro i x c G d ⟨e,rfl⟩;rw[aK]at d;cases hx':l[i]? with
  |none=>rw[hx']at d;cases d
  |some a=>
   rw[hx']at d;cases d;refine turn a (aS hx') c _ _ (λy j=>⟨a0a,?_,?_,?_⟩) λh=>⟨?_,rfl⟩
   ·rw[e,aB];exact dr (aM (bN _ _) (by rw[aR];lia)) (a0h (aC 1000))
   ·rw[a0I hx',j,e,aP];rfl
   ·rw[a1E]
   ·rw[a0I hx',h,e];simp
 ·simp_all
def One(l:List Rw):Prop:=∀r∈l,∃x,r.w=[x]
def a5m:P3:=λws G R=>∃p l m,ws=[.ref p,oz m]/\G p=some (.lst (l.map Rw.z))/\One l/\l.length<=1000/\∀t,G t=none->R (.ref t) (put G t (.lst ((ahead m l).map Rw.z)))
set_option tactic.hygienic true in
def a5n(T:Txt K mg a):Cal P w K mg base CX0 2 "ahead_of" (lowP K a5m):=by
 refine fnc 2 (N:=["line","moment"]) T.br (T.f 8 _ rfl) ?_;walk_at "in";refine⟨_,(a0B (a1F (q_l ["begin","end","worth","moment"] [none,none,none,some 1] (.tp [0,1,2])))),?_⟩;obtain⟨p,l,m,rfl,i,j,o,q⟩:=h;symm;refine a0E i ?_;intro D g;refine a2T (a10 m) (λk=>a0b i g) o ?_ (q D g);intro r hr k t u d s;obtain⟨x,n⟩:=j r hr;obtain⟨b,e,w⟩:=r;cases n;refine⟨_,rfl,?_⟩;cases m with
 |none=>
  symm;refine⟨e,none,rfl,?_⟩;symm;refine⟨lenK rfl,?_⟩;exact d _ rfl
 |some m=>
  symm;refine ifD (λc=>?_) λc=>?_
  ·symm;refine⟨e,some m,rfl,?_⟩;symm;refine⟨lenK rfl,?_⟩;refine d ⟨b,emin e (some m),[x]⟩ ?_;unfold a10;rw[if_pos (by simpa[bef]using c)]
  ·refine s ?_;unfold a10;rw[if_neg (by simpa[bef]using c)]
def a6i:P3:=λws G R=>∃p l m,ws=[.ref p,.int m]/\G p=some (.lst (l.map Rw.z))/\One l/\l.length<=1000/\∀t,G t=none->R (.ref t) (put G t (.lst ((fromOn m l).map Rw.z)))
set_option tactic.hygienic true in
def a6j(T:Txt K mg a):Cal P w K mg base CX0 1 "from_on" (lowP K a6i):=by
 refine fnc 2 (N:=["line","moment"]) T.br (T.f 10 _ rfl) ?_;walk_at "in";refine⟨_,(a0B (a1F (q_l ["begin","end","worth","moment"] [none,none,none,some 1] (.tp [0,1,2])))),?_⟩;obtain⟨p,l,m,rfl,g,j,s,q⟩:=h;symm;refine a0E g ?_;intro D i;refine a2T (a5k m) (λn=>a0b g i) s ?_ (q D i);intro r hr n u t d o;obtain⟨x,k⟩:=j r hr;obtain⟨b,e,w⟩:=r;cases k;refine⟨_,rfl,?_⟩;cases e with
 |none=>
  symm;refine⟨lenK rfl,?_⟩;exact d ⟨if m > b then m else b,none,[x]⟩ rfl
 |some e=>
  symm;refine ifD (λc=>?_) λc=>?_
  ·symm;refine⟨lenK rfl,?_⟩;refine d ⟨if m > b then m else b,some e,[x]⟩ ?_;unfold a5k;rw[if_pos (by simpa[bef]using c)]
  ·refine o ?_;unfold a5k;rw[if_neg (by simpa[bef]using c)]
def b07(h:0<n):ixN n (-1)=some (n-1):=by grind [ixN]
def a6V{α:Type}{l:List α}{x:α}(h:l.getLast?=some x):atI l (-1)=some x:=by
 have a:l≠[]:=λz=>by subst z;simp at h
 unfold atI;rw[b07 (cL.mpr a)]
 show l[l.length-1]?=some x
 rw[<- List.getLast?_eq_getElem?];exact h
def b2W{α:Type}{l:List α}{x y:α}(h:l.getLast?=some x):l.set (l.length-1) y=l.dropLast++[y]:=by
 have a:=a2t h;generalize l.dropLast=i at a;subst a;simp
def sIx2{a b:Z}{w:List Z}:HT.sIx (a::b::w).length 0 (some 2)=2:=by
 have:=HT.sIx_nat (a::b::w).length 0 2
 rw[show ((2:Nat):Int)=2 from rfl]at this;rw[this];simp
def cut2{a b:Z}{w:List Z}:cutZ (a::b::w) (some 2) none=w:=by
 unfold cutZ;rw[sIx2,HT.sIx_none];simp
def b08{a b:Z}{w:List Z}:¬ (HT.sIx (a::b::w).length 0 (some 2)=0/\HT.sIx (a::b::w).length (a::b::w).length none=(a::b::w).length):=by
 rw[sIx2];intro h;exact absurd h.1 (by decide)
def a0Q:P3:=λws G R=>∃p ps,ws=[.ref p]/\G p=some (.lst (ps.map Rw.z))/\OkR ps/\ps.length<=1000/\∀t,G t=none->R (.ref t) (put G t (.lst ((join ps).map Rw.z)))
def b5X{G:Hq}{R:K3}{a b:Z}{w:List Z}(h:R (.tup w) G):zSl (.tup (a::b::w)) (some 2) none G R:=a8y b08 (by rw[cut2];exact h)
def b09{w:List Z}(h:okW w):flat 8 (.tup w)=true:=b2U (n:=4) (m:=7) (by decide) h.2.2
set_option tactic.hygienic true in
def b2X:∀(ps told:List Rw),OkR told->OkR ps->OkR (ps.foldl jn told):=by intro z0;induction z0 with
 |nil=>intro _ h _;exact h
 |cons p ps I0=>
  intro told h h';refine I0 _ (λr a=>?_) λr a=>h' r (.tail _ a);unfold jn at a
  split at a
  ·next l hl=>
   split at a
   ·rcases aE.mp a with a |a
    ·exact h r (fi _ a)
    ·rw[aJ.mp a];exact h' p (.head _)
   ·rcases aE.mp a with a |a
    ·exact h r a
    ·rw[aJ.mp a];exact h' p (.head _)
  ·rcases aE.mp a with a |a
   ·exact h r a
   ·rw[aJ.mp a];exact h' p (.head _)
def b8W(told:List Rw)(p:Rw):(jn told p).length<=told.length+1:=by
 unfold jn
 split
 ·split<;>simp
 ·simp
def b2Y:∀(ps told:List Rw),(ps.foldl jn told).length<=told.length+ps.length:=by intro z0;induction z0 with
 |nil=>intro told;simp
 |cons p ps I0=>
  intro told;have b:=I0 (jn told p);have a:=b8W told p
  show (ps.foldl jn (jn told p)).length<=_
  rw[aL]
  lia
def b1a{ps:List Rw}(h:ps[i]?=some p):(ps.take (i+1)).foldl jn []=jn ((ps.take i).foldl jn []) p:=by
 rw[b6,h];simp
set_option tactic.hygienic true in
def a1A(T:Txt K mg a):Cal P w K mg base CX0 1 "with_alike_joined" (lowP K a0Q):=by
 refine fnc 1 (N:=["pieces","told","piece"]) T.br (T.f 9 _ rfl) ?_;walk_at "in";refine⟨_,(a0c (by ac_rfl)
  (a0c (a15 (pt:=(.nm 2)) fW.never rfl (by ac_rfl) (p_nm (nmI 2 nd))
  (a0B (z_if (by ac_rfl)
  (a0B (b3C (by ac_rfl) (qv 1) (by ac_rfl) c0h))
  (by ac_rfl))))
  (by ac_rfl))),?_⟩
 obtain⟨p,ps,rfl,hp,hok,hz,q⟩:=h;symm;refine⟨lenK rfl,λt ht=>?_⟩;symm;refine a0E (a0b hp ht) ?_;refine a0P (λi σ G'=>∃v,σ=[some (.ref p),some (.ref t),v]/\G'=put G t (.lst (((ps.take i).foldl jn []).map Rw.z))) ⟨_,rfl,by simp⟩ (by rintro i σ G' _ ⟨v,_,e⟩;exact by rw[e];exact a0b hp ht) ?_ ?_
 ·rintro i x σ G' hx ⟨v,rfl,rfl⟩;rw[aK]at hx;cases hx':ps[i]? with
  |none=>rw[hx']at hx;cases hx
  |some r=>
   rw[hx']at hx;cases hx;have hr:=hok r (aS hx');have hot:OkR ((ps.take i).foldl jn []):=b2X _ _ (λr hr=>by simp at hr) λr hr=>hok r (bS hr);have hlt:=b2Y (ps.take i) [];rw[aR]at hlt;have hi:=(aI.mp hx').1;rw[b1a hx'];generalize (ps.take i).foldl jn []=told at hot hlt ⊢;simp only[fj]at hlt;refine⟨_,rfl,?_⟩;have app:∀G',G'=put G t (.lst (told.map Rw.z))->jn told r=told++[r]->a45 (.ref t) [r.z] G' (λ_ G1=>∃v,([some (.ref p),some (.ref t),some r.z]:S3)=[some (.ref p),some (.ref t),v]/\G1=put G t (.lst ((jn told r).map Rw.z))):=by
    rintro _ rfl e;refine a0F a0a (by rw[aB];exact a0h (by omega)) ⟨_,rfl,?_⟩;rw[a1E,e,aP]
    rfl
   symm;refine b3K a0a ?_;cases hl:told.getLast? with
   |none=>
    have e0:told=[]:=ff.mp hl;subst e0;refine ifF ?_;symm;refine a1H a0a ?_;symm;exact app _ rfl (by unfold jn;rw[hl])
   |some k=>
    have hne:told≠[]:=λz=>by subst z;simp at hl
    have hlm:(told.map Rw.z).getLast?=some k.z:=by rw[List.getLast?_map,hl];rfl
    have he:(told.map Rw.z).isEmpty=false:=by cases told with |nil=>exact absurd rfl hne |cons _ _=>rfl
    have hk:=hot k (List.mem_of_getLast? hl);rw[he];refine ifT ?_;symm;refine a1i a0a (a6V hlm) ?_;symm;refine a18 at1 ?_;symm;refine a18 at0 ?_;refine b8V ?_;symm;refine ifD (λc1=>?_) λc1=>?_
    ·symm;refine a1i a0a (a6V hlm) ?_;symm;refine b5X ?_;symm;refine b5X ?_;refine c1f (b09 hk) (b09 hr) ?_;symm;refine ifD (λc2=>?_) λc2=>?_
     ·symm;refine a1i a0a (a6V hlm) ?_;symm;refine a18 at0 ?_;symm;refine a18 at1 ?_;symm;refine⟨lenK rfl,?_⟩;symm;refine b5X ?_;refine a5N (by simp) (a01 (by have:=hr.2.1;simp;omega)) ?_;symm;refine c0F a0a (b07 (by rw[aB];exact cL.mpr hne)) ?_;refine⟨_,rfl,?_⟩;rw[a1E,b2W hlm]
      congr 1
      unfold jn;rw[hl];dsimp only;rw[if_pos ⟨c1,c2⟩,aP,List.map_dropLast]
      rfl
     ·symm;refine a1H a0a ?_;symm;exact app _ rfl (by unfold jn;rw[hl];dsimp only;rw[if_neg λz=>c2 z.2])
    ·refine ifF ?_;symm;refine a1H a0a ?_;symm;exact app _ rfl (by unfold jn;rw[hl];dsimp only;rw[if_neg λz=>c1 z.1])
 ·rintro σ G' ⟨v,rfl,rfl⟩;symm;rw[aB,bu];exact q t ht
def b2Z(h:over r m=true):r.has m=false:=by
 unfold over at h;unfold Rw.has;cases he:r.e with
 |none=>rw[he]at h;cases h
 |some e=>
  rw[he]at h;simp at h;simp only[bef];rw[decide_eq_false (show ¬ m<e by lia),cS]
def b1b(h:m<=m')(o:over r m=true):over r m'=true:=by
 unfold over at o ⊢;cases he:r.e with
 |none=>rw[he]at o;cases o
 |some e=>rw[he]at o;simp at o ⊢;lia
theorem a71:∀{l:List Rw}{m:Int}{k:Nat},(∀(i:Nat) r,i<k->l[i]?=some r->over r m=true)->val l m=val (l.drop k) m
 |l,m,0,_=>rfl
 |[],m,k+1,_=>rfl
 |r::l,m,k+1,h=>by
  rw[a0k,b2Z (h 0 r (by simp) rfl),if_neg (by simp),List.drop_succ_cons];exact a71 λi s a e=>h (i+1) s (by lia) (by grind)
def b20(h:Rise (r::l))(o:over r m=false):val (r::l) m=if r.b<=m then some r.w else none:=by
 rw[a0k];have d:bef m r.e=true:=by
  unfold over at o;cases he:r.e with
  |none=>rfl
  |some e=>rw[he]at o;simp at o;simp only[bef,decide_eq_true_eq];omega
 by_cases c:r.b<=m
 ·have:r.has m=true:=by unfold Rw.has;rw[d,decide_eq_true c];rfl
  rw[this,if_pos rfl,if_pos c]
 ·rw[a4N (by lia),if_neg (by simp),if_neg c];refine a1T λs a=>a4N ?_
  have:=((aT.mp h.2).1 s a).b (h.1 r (.head _))
  lia
def Rise.drop(h:Rise l)(k:Nat):Rise (l.drop k):=⟨λr a=>h.1 r (dv a),h.2.sublist (dQ _ _)⟩
def drop_get{α:Type}{l:List α}{x:α}(h:l[k]?=some x):l.drop k=x::l.drop (k+1):=by
 obtain⟨b,a⟩:=aI.mp h;rw[cV b,a]
def a4l:P3:=λws G R=>Ex4 λ(p q:Addr) (l:List Rw) (ms:List Int)=>ws=[.ref p,.ref q]/\G p=some (.lst (l.map Rw.z))/\G q=some (.lst (ms.map Z.int))/\Rise l/\OkR l/\l.length<=1000/\ms.Pairwise (·<=·)/\ms.length<=1000 /\
 ∀t,G t=none->R (.ref t) (put G t (.lst (ms.map λm=>wz (val l m))))
def a6W{l:List Rw}{k:Nat}(h:l[k]?=some r):atI (l.map Rw.z) (k:Int)=some r.z:=a1f (by simp_all)
def take_snoc{α:Type}{l:List α}{x:α}(h:l[i]?=some x):l.take (i+1)=l.take i++[x]:=by rw[b6,h];rfl
set_option tactic.hygienic true in
def a4m(T:Txt K mg a):Cal P w K mg base CX0 2 "worths_in" (lowP K a4l):=by
 refine fnc 2 (N:=["line","moments","worths","at","moment"]) T.br (T.f 6 _ rfl) ?_;walk_at "in";refine⟨_,(a0c (by ac_rfl)
  (a0c (by ac_rfl)
  (a0c (a15 (pt:=(.nm 4)) fW.never rfl (by ac_rfl) (p_nm (nmI 4 nd))
  (a6C (b4Y fW.never (by ac_rfl)
  (by ac_rfl))
  (by ac_rfl)))
  (by ac_rfl)))),?_⟩
 obtain⟨p,q,l,u,rfl,hp,Q,hr,R,hz,hm,hmz,V⟩:=h;symm;refine⟨lenK rfl,λt H=>?_⟩;symm;refine a0E (a0b Q H) ?_;refine a0P (λi σ d=>∃(k:Nat)(v:Option Z),k<=l.length/\(∀(j:Nat) r m,j<k->l[j]?=some r->u[i]?=some m->over r m=true)/\σ=[some (.ref p),some (.ref q),some (.ref t),some (.int k),v]/\d=put G t (.lst ((u.take i).map λm=>wz (val l m)))) ⟨0,_,aW _,λj r m F=>by lia,rfl,by simp⟩ (by rintro i σ d _ ⟨_,_,_,_,_,e⟩;exact by rw[e];exact a0b Q H) ?_ ?_
 ·rintro i x σ d E ⟨k,v,hk,L,rfl,rfl⟩;rw[aK]at E;cases hx':u[i]? with
  |none=>rw[hx']at E;cases E
  |some m=>
   rw[hx']at E;cases E;refine⟨_,rfl,?_⟩;symm;have g:put G t (.lst ((u.take i).map λm=>wz (val l m))) p=some (.lst (l.map Rw.z)):=a0b hp H;generalize hG:put G t (.lst ((u.take i).map λm=>wz (val l m)))=G1 at g ⊢;refine a6I (fun σ' d=>∃b:Nat,b<=l.length/\(∀(j:Nat) r,j<b->l[j]?=some r->over r m=true)/\(∀r,l[b]?=some r->over r m=false)/\σ'=[some (.ref p),some (.ref q),some (.ref t),some (.int b),some (.int m)]/\G1=d) ?_ ?_
   ·refine⟨λn σ' d=>∃b:Nat,n+b=l.length/\(∀(j:Nat) r,j<b->l[j]?=some r->over r m=true)/\σ'=[some (.ref p),some (.ref q),some (.ref t),some (.int b),some (.int m)]/\G1=d,⟨l.length-k,k,by lia,λj r F e=>L j r m F e hx',rfl,rfl⟩,?_⟩;rintro n σ' d ⟨b,S,B,rfl,rfl⟩;symm;refine a5P g ?_;symm;refine ifD (λc=>?_) λc=>?_
    ·rw[aB]at c;have A:b<l.length:=by lia
     have o:=aN A;symm;refine a1i g (a6W o) ?_;symm;refine⟨_,_,rfl,?_⟩;symm;refine ifB (λy=>?_) λy=>?_
     ·symm;refine⟨n-1,by lia,b+1,by lia,λj r F e=>?_,rfl,rfl⟩
      by_cases hjk:j<b
      ·exact B j r hjk e
      ·have:j=b:=by lia
       subst this;rw[o]at e;cases e;exact y
     ·exact⟨b,by lia,B,λr e=>by rw[o]at e;cases e;exact y,rfl,rfl⟩
    ·rw[aB]at c;refine ifF ?_;exact⟨b,by lia,B,λr e=>by have:=(aI.mp e).1;lia,rfl,rfl⟩
   ·rintro σ' d ⟨b,J,B,S,rfl,rfl⟩;have M:val l m=val (l.drop b) m:=a71 B;have D:∀w:Z,w=wz (val l m)->a45 (.ref t) [w] G1 (λ_ X=>∃(k:Nat)(v:Option Z),k<=l.length/\(∀(j:Nat) r m,j<k->l[j]?=some r->u[i+1]?=some m->over r m=true)/\([some (.ref p),some (.ref q),some (.ref t),some (.int b),some (.int m)]:S3)=[some (.ref p),some (.ref q),some (.ref t),some (.int k),v]/\X=put G t (.lst ((u.take (i+1)).map λm=>wz (val l m)))):=by
     rintro w rfl;subst hG;have hi:=(aI.mp hx').1;refine a0F a0a (by rw[aB,aR];exact a0h (by lia)) ⟨b,_,J,λj r m' F e e'=>b1b ?_ (B j r F e),rfl,?_⟩
     ·obtain⟨h1,Y⟩:=aI.mp hx';obtain⟨h2,e2⟩:=aI.mp e';rw[<- Y,<- e2];exact cy.mp hm _ _ h1 h2 (by lia)
     ·rw[a1E,take_snoc hx',aP];rfl
    have s:∃ws,G1 t=some (.lst ws):=by rw[<- hG];exact⟨_,a0a⟩
    obtain⟨wt,s⟩:=s;symm;refine a5P g ?_;symm;refine ifD (λc=>?_) λc=>?_
    ·rw[aB]at c;have A:b<l.length:=by lia
     have o:=aN A;have C:=b20 (by rw[<- drop_get o];exact hr.drop b) (S _ o);rw[<- drop_get o,<- M]at C;symm;refine a1i g (a6W o) ?_;symm;refine a18 at0 ?_;symm;refine ifD (λy=>?_) λy=>?_
     ·symm;refine a1H s ?_;symm;refine a1i g (a6W o) ?_;symm;have hw:=R _ (bO A);obtain⟨x,I,U⟩:∃x I,(l[b]).w=x::I:=by
       cases e:(l[b]).w with
       |nil=>exact absurd e hw.1
       |cons x I=>exact⟨x,I,rfl⟩
      refine a18 (w:=x) (by show atI (_::_::(l[b]).w) 2=some x;rw[U];exact at2) ?_;symm;refine D x ?_;rw[C,if_pos y,U];rfl
     ·symm;refine a1H s ?_;symm;refine D .non ?_;rw[C,if_neg y];rfl
    ·rw[aB]at c;refine ifF ?_;symm;refine a1H s ?_;symm;refine D .non ?_;rw[M,cW (by lia)];rfl
 ·rintro σ d ⟨k,v,_,_,rfl,rfl⟩;symm;rw[aB,bu];exact V t H
def a5o:P3:=λws G R=>∃p l m,ws=[.ref p,.int m]/\G p=some (.lst (l.map Rw.z))/\Rise l/\OkR l/\l.length<=1000/\∀G',Sm G G'->R (wz (val l m)) G'
set_option tactic.hygienic true in
def a2v(T:Txt K mg a):Cal P w K mg base CX0 3 "worth_in" (lowP K a5o):=by
 refine fnc 2 (N:=["line","moment"]) T.br (T.f 7 _ rfl) ?_;walk_at "in";refine⟨_,(by ac_rfl),?_⟩;obtain⟨p,l,m,rfl,j,c,d,i,q⟩:=h;symm;refine⟨lenK rfl,λa e=>?_⟩;symm;refine⟨p,a,l,[m],rfl,a0b j e,a0a,c,d,i,by simp,by simp,λt k=>?_⟩;symm;exact a1i a0a at0 (q _ ((Sm.new e).trans (Sm.new k)))
def b1c(h:OkR l):OkR (ahead m l):=λx a=>by
 obtain⟨r,b,_,rfl⟩:=a2u a;exact h r b
def b21(h:OkR l):OkR (fromOn m l):=λx a=>by
 obtain⟨r,b,_,rfl⟩:=a3s a;exact h r b
def okV(z:Z):Prop:=flat 4 z=true
def b8X(h:okV z):okW [z]:=⟨by simp,by simp,by rw[bY,h];rfl⟩
def a81(h:OkR l)(hz:okV z):OkR (a1x l b e (optW z)):=by
 intro r a;rcases aE.mp a with a |a
 ·rcases aE.mp a with a |a
  ·exact b1c h r a
  ·unfold optW at a
   split at a
   ·next w e=>
          split at e
          ·cases e
          ·cases e;rw[aJ.mp a];exact b8X hz
   ·simp_all
 ·cases e with
  |none=>simp at a
  |some e=>exact b21 h r a
def a6X:P3:=λws G R=>Ex5 λp l b e z=>ws=[.ref p,.int b,oz e,z]/\G p=some (.lst (l.map Rw.z))/\Rise l/\OkR l/\One l/\l.length<=900/\bef b e=true/\okV z /\
 ∀t G',G t=none->Sm G G'->G' t=some (.lst ((a6f l b e (optW z)).map Rw.z))->R (.ref t) G'
set_option tactic.hygienic true in
def a6Y(T:Txt K mg a):Cal P w K mg base CX0 3 "put_on" (lowP K a6X):=by
 refine fnc 4 (N:=["line","begin","end","worth","pieces"]) T.br (T.f 11 _ rfl) ?_;walk_at "in";refine⟨_,(a0c (by ac_rfl)
  (a6C (by ac_rfl)
  (a6C (by ac_rfl)
  (by ac_rfl)))),?_⟩
 obtain⟨p,l,b,e,z,rfl,n,hr,y,B,F,g,C,q⟩:=h;have E:=(a6e (w:=optW z) hr g).2.2;symm;refine⟨p,l,some b,rfl,n,B,by lia,λt j=>?_⟩;symm;have H:=a6d (some b) l;refine a6I (fun σ' d=>σ'=[some (.ref p),some (.int b),some (oz e),some z,some (.ref t)]/\d=put G t (.lst ((ahead (some b) l++(match optW z with |some w=>[(⟨b,e,w⟩:Rw)] |none=>[])).map Rw.z))) ?_ ?_
 ·symm;refine ifN (λc=>?_) λc=>?_
  ·symm;refine a1H a0a ?_;symm;refine⟨lenK rfl,?_⟩;symm;refine a0F a0a (by rw[aB];exact a0h (by lia)) ⟨rfl,?_⟩;rw[a1E,optW,if_neg c,aP];rfl
  ·symm;refine⟨rfl,?_⟩;rw[optW,if_pos c];simp
 ·rintro σ' d ⟨rfl,rfl⟩;have m:∀o,put G t o p=some (.lst (l.map Rw.z)):=λo=>a0b n j;have v:∀d ,Sm G d->d t=some (.lst ((a1x l b e (optW z)).map Rw.z))->a0Q [.ref t] d R:=λd s i=>by
   refine⟨t,_,rfl,i,a81 y C,by lia,λu hu=>?_⟩;exact q u _ (s.free hu) (s.trans (Sm.new hu)) a0a
  refine a6I (fun σ' d=>σ'=[some (.ref p),some (.int b),some (oz e),some z,some (.ref t)]/\Sm G d/\d t=some (.lst ((a1x l b e (optW z)).map Rw.z))) ?_ ?_
  ·cases e with
   |none=>
    symm;refine⟨rfl,Sm.new j,?_⟩;unfold a1x;rw[bj];exact a0a
   |some e=>
    symm;refine a1H a0a ?_;symm;refine⟨p,l,e,rfl,m _,B,by lia,λu hu=>?_⟩;have x:t≠u:=λz=>by subst z;rw[a0a]at hu;cases hu
    have k:(a1x l b (some e) (optW z)).length=(ahead (some b) l++(match optW z with |some w=>[(⟨b,some e,w⟩:Rw)] |none=>[])).length+(fromOn e l).length:=by
     unfold a1x;exact aG
    generalize hA:(ahead (some b) l++(match optW z with |some w=>[(⟨b,some e,w⟩:Rw)] |none=>[]))=A at hu k ⊢
    have D:put (put G t (.lst (A.map Rw.z))) u (.lst ((fromOn e l).map Rw.z)) t=some (.lst (A.map Rw.z)):=by rw[a0e x];exact a0a
    symm;refine b2i D a0a (by rw[aB,aB];exact a01 (by lia)) ?_;refine⟨rfl,?_,?_⟩
    ·exact ((Sm.new j).trans (Sm.new hu)).put j
    ·rw[a0a,<- aP,<- hA]
     rfl
  ·rintro σ' d ⟨rfl,s,i⟩;symm;exact v d s i
def okS(s:Str):Prop:=s.length<=1000/\PyData.strOk s=true
def Th(G:Hq):Z->Prop
 |.non=>True
 |.bl _=>True
 |.int _=>True
 |.str s=>okS s
 |.tup _=>True
 |.ref p=>(∃ws,G p=some (.lst ws))\/∃kvs,G p=some (.dK kvs)
 |_=>False
def Th.sm(s:Sm G G')(h:Th G x):Th G' x:=by
 cases x with
 |ref p=>
  rcases h with ⟨ws,e⟩ |⟨ws,e⟩
  ·exact .inl ⟨ws,s _ _ e⟩
  ·exact .inr ⟨ws,s _ _ e⟩
 |_=>exact h
structure Kd (G:Hq) (x:Z) (n:String):Prop where
 ty:tyN G x=some n
 is:n="NoneType"\/n="bool"\/n="int"\/n="str"\/n="tuple"\/n="list"\/n="dict"
def Th.kd(h:Th G x):∃n,Kd G x n:=by
 cases x with
 |non=>exact⟨_,rfl,.inl rfl⟩
 |bl _=>exact⟨_,rfl,.inr (.inl rfl)⟩
 |int _=>exact⟨_,rfl,.inr (.inr (.inl rfl))⟩
 |str _=>exact⟨_,rfl,.inr (.inr (.inr (.inl rfl)))⟩
 |tup _=>exact⟨_,rfl,.inr (.inr (.inr (.inr (.inl rfl))))⟩
 |ref p=>
  rcases h with ⟨ws,e⟩ |⟨ws,e⟩
  ·exact⟨"list",by simp[tyN,e],.inr (.inr (.inr (.inr (.inr (.inl rfl)))))⟩
  ·exact⟨"dict",by simp[tyN,e],.inr (.inr (.inr (.inr (.inr (.inr rfl)))))⟩
 |_=>exact aH h
def b5Y(h:n="NoneType"\/n="bool"\/n="int"\/n="str"\/n="tuple"\/n="list"\/n="dict"):kit0 n "str"=some (decide (n="str")):=by
 rcases h with rfl |rfl |rfl |rfl |rfl |rfl |rfl<;>decide +kernel
def b22(h:n="NoneType"\/n="bool"\/n="int"\/n="str"\/n="tuple"\/n="list"\/n="dict"):kit0 n "bool"=some (decide (n="bool")):=by
 rcases h with rfl |rfl |rfl |rfl |rfl |rfl |rfl<;>decide +kernel
def b5Z(h:n="NoneType"\/n="bool"\/n="int"\/n="str"\/n="tuple"\/n="list"\/n="dict"):kit0 n "int"=some (decide (n="int")||decide (n="bool")):=by
 rcases h with rfl |rfl |rfl |rfl |rfl |rfl |rfl<;>decide +kernel
noncomputable def isS:Z->Bool
 |.str _=>true
 |_=>false
noncomputable def isB:Z->Bool
 |.bl _=>true
 |_=>false
noncomputable def isI:Z->Bool
 |.int _=>true
 |.bl _=>true
 |_=>false
def c1g(h:Th G x)(q:R (.bl (isS x)) G):zIsT [x,.ty "str"] G R:=by
 obtain⟨n,k⟩:=h.kd;refine⟨n,_,k.ty,b5Y k.is,?_⟩;have e:decide (n="str")=isS x:=by
  have:=k.ty
  cases x with
  |ref p=>rcases h with ⟨ws,e⟩ |⟨ws,e⟩<;>(simp[tyN,e]at this;subst this;show _=false;decide)
  |_=>first | (cases this;show _=false;decide;done) | (cases this;show _=true;decide;done) |exact aH h
 rw[e];exact q
def b8Y(h:Th G x)(q:R (.bl (isB x)) G):zIsT [x,.ty "bool"] G R:=by
 obtain⟨n,k⟩:=h.kd;refine⟨n,_,k.ty,b22 k.is,?_⟩;have e:decide (n="bool")=isB x:=by
  have:=k.ty
  cases x with
  |ref p=>rcases h with ⟨ws,e⟩ |⟨ws,e⟩<;>(simp[tyN,e]at this;subst this;show _=false;decide)
  |_=>first | (cases this;show _=false;decide;done) | (cases this;show _=true;decide;done) |exact aH h
 rw[e];exact q
def b8Z(h:Th G x)(q:R (.bl (isI x)) G):zIsT [x,.ty "int"] G R:=by
 obtain⟨n,k⟩:=h.kd;refine⟨n,_,k.ty,b5Z k.is,?_⟩;have e:(decide (n="int")||decide (n="bool"))=isI x:=by
  have:=k.ty
  cases x with
  |ref p=>rcases h with ⟨ws,e⟩ |⟨ws,e⟩<;>(simp[tyN,e]at this;subst this;show _=false;decide)
  |_=>first | (cases this;show _=false;decide;done) | (cases this;show _=true;decide;done) |exact aH h
 rw[e];exact q
noncomputable def okC(c:Nat):Bool:=decide (97<=c)&&decide (c<=122)
noncomputable def a2U:Z->Bool
 |.str s=>decide (1<=s.length)&&decide (s.length<=8)&&s.cps.toList.all okC
 |_=>false
noncomputable def momB:Z->Bool
 |.int i=>decide (0<=i)&&decide (i<=1000000000000)
 |_=>false
def a3Y:momB (.int i)=(decide (0<=i)&&decide (i<=1000000000000)):=rfl
noncomputable def strB(x y:Z):Bool:=momB x&&match y with
 |.non=>true
 |.int j=>momB (.int j)&&match x with |.int i=>decide (i<j) |_=>false
 |_=>false
def spB1(f:Z->Bool):P3:=λws G R=>∃x,ws=[x]/\Th G x/\∀G',Sm G G'->R (.bl (f x)) G'
def b80(h:spB1 f ws G R):ws.length=1:=by obtain⟨_,rfl,_⟩:=h;rfl
def spB2(f:Z->Z->Bool):P3:=λws G R=>∃x y,ws=[x,y]/\Th G x/\Th G y/\∀G',Sm G G'->R (.bl (f x y)) G'
def c1h(h:spB2 f ws G R):ws.length=2:=by obtain⟨_,_,rfl,_⟩:=h;rfl
abbrev a6k:P3:=spB1 a2U
abbrev a4n:P3:=spB1 momB
abbrev a3Z:P3:=spB2 strB
def b1d(a b:Nat):ltS ⟨#[a]⟩ ⟨#[b]⟩=decide (a<b):=by
 by_cases h:a<b
 ·rw[decide_eq_true h];exact decide_eq_true (fk.mpr (.inl h))
 ·rw[decide_eq_false h];refine decide_eq_false λq=>?_;rcases fk.mp q with q |q
  ·simp_all
  ·simp_all
def strA:(Str.ofString "a")=⟨#[97]⟩:=by decide +kernel
def strZ:(Str.ofString "z")=⟨#[122]⟩:=by decide +kernel
def b23(x:Str)(g:Nat->Option Z)(f:Z->Option Z)(h:∀c,f (.str ⟨#[c]⟩)=g c):(a3e x).filterMap f=x.cps.toList.filterMap g:=by
 unfold a3e;rw[eF]
 congr 1
 funext c
 exact h c
def b1e(h:x.length<=1000):(a3e x).length<=1000:=by unfold a3e;rw[aB,bL];exact h
def b81(l:List Nat):(l.filterMap λc=>some (Z.bl (okC c)))=(l.map okC).map Z.bl:=by simp
def all_map(l:List Nat):(l.map okC).all id=l.all okC:=by simp
def a3t:a2U (.str s)=(decide (1<=s.length)&&decide (s.length<=8)&&s.cps.toList.all okC):=rfl
def a6l(T:Txt K mg a):Cal P w K mg base CX0 1 "is_name" (lowP K a6k):=by
 refine fnc 1 (N:=["thing"]) T.br (T.f 0 _ rfl) ?_ (len:=λws G R h=>(by exact b80 h));walk_at "in";refine⟨_,(a0c (by ac_rfl)
  (a0c (by ac_rfl)
  (a0B (a1F (q_B (b7N rfl) (T.b 0) (q_k (q_l ["sign"] [none] (.nm 0) (hi:=(b7R (qv 0)))) a0z)))))),?_⟩
 obtain⟨x,rfl,g,q⟩:=h;symm;refine c1g g ?_;symm;refine ifNB (λc=>?_) λc=>?_
 ·symm;have e:a2U x=false:=by cases x<;>first |rfl |cases c
  have:=q G (Sm.refl G)
  rw[e]at this;exact this
 ·obtain⟨s,rfl⟩:∃s,x=.str s:=by cases x<;>first |exact⟨_,rfl⟩ |cases c
  have d:okS s:=g;symm;refine b0f (a01 d.1) ?_;symm;have j:a2U (.str s)=false->R (.bl false) G:=λe=>by have:=q G (Sm.refl G);rw[e]at this;exact this
  refine ifD (λm=>?_) λm=>?_
  ·symm;exact j (by rw[a3t,decide_eq_false (show ¬ 1<=s.length by omega)];rfl)
  ·symm;refine b0f (a01 d.1) ?_;symm;refine ifD (λo=>?_) λo=>?_
   ·symm;exact j (by rw[a3t,decide_eq_false (show ¬ s.length<=8 by omega),cS];rfl)
   ·symm;intro D n;refine b40 (λx=>match x with |.str z=>some (.bl (!ltS z (Str.ofString "a")&&!ltS (Str.ofString "z") z)) |_=>none) (λ_=>True.intro) (b1e d.1) ?_ ?_
    ·intro x i v t p k u;unfold a3e at i;obtain⟨c,_,rfl⟩:=aF.mp i;refine⟨_,rfl,?_⟩;symm;refine ifB (λz=>?_) λz=>?_
     ·symm;refine k _ ?_;dsimp only;rw[z];rfl
     ·refine k _ ?_;dsimp only;rw[z];rfl
    ·have e:(a3e s).filterMap (λx=>match x with |.str z=>some (.bl (!ltS z (Str.ofString "a")&&!ltS (Str.ofString "z") z)) |_=>none)=(s.cps.toList.map okC).map Z.bl:=by
      rw[b23 s (λc=>some (.bl (okC c))) _ λc=>?_,b81];dsimp only;rw[strA,strZ,b1d,b1d];unfold okC
      congr 2
      by_cases h1:c<97<;>by_cases h2:122<c<;>simp[h1,h2]<;>omega
     have l:a2U (.str s)=s.cps.toList.all okC:=by rw[a3t,decide_eq_true (show 1<=s.length by omega),decide_eq_true (show s.length<=8 by omega),bM,bM]
     refine c0G (by rw[e];exact a0a) ?_;rw[all_map,<- l];exact q _ (Sm.new n)
def a4o(T:Txt K mg a):Cal P w K mg base CX0 1 "is_moment" (lowP K a4n):=by
 refine fnc 1 (N:=["thing"]) T.br (T.f 1 _ rfl) ?_ (len:=λws G R h=>(by exact b80 h));walk_at "in";refine⟨_,(by ac_rfl),?_⟩;obtain⟨x,rfl,hx,q⟩:=h;have no:momB x=false->R (.bl false) G:=λe=>by have:=q G (Sm.refl G);rw[e]at this;exact this
 symm;refine b8Y hx ?_;symm;refine ifB (λc=>?_) λc=>?_
 ·symm;exact no (by cases x<;>first |rfl |cases c)
 ·symm;refine b8Z hx ?_;symm;refine ifNB (λc2=>?_) λc2=>?_
  ·symm;exact no (by cases x<;>first |rfl |cases c2)
  ·obtain⟨i,rfl⟩:∃i,x=.int i:=by cases x<;>first |exact⟨_,rfl⟩ | (cases c;done) | (cases c2;done)
   symm;refine ifD (λz=>?_) λz=>?_
   ·symm
    have:=q G (Sm.refl G)
    rw[a3Y,decide_eq_true z,bM]at this;exact this
   ·exact no (by rw[a3Y,decide_eq_false z];rfl)
def a30(T:Txt K mg a):Cal P w K mg base CX0 2 "is_stretch" (lowP K a3Z):=by
 refine fnc 2 (N:=["begin","end"]) T.br (T.f 2 _ rfl) ?_ (len:=λws G R h=>(by exact c1h h));walk_at "in";refine⟨_,(by ac_rfl),?_⟩;obtain⟨x,y,rfl,t,r,q⟩:=h;symm;refine⟨x,rfl,t,λC g=>?_⟩;have m:∀d,Sm G d->strB x y=false->R (.bl false) d:=λd s e=>by have:=q d s;rw[e]at this;exact this
 symm;refine ifNB (λc=>?_) λc=>?_
 ·symm;exact m _ g (by unfold strB;rw[c];rfl)
 ·symm;refine ifD (λz=>?_) λz=>?_
  ·symm
   have:=q _ g
   unfold strB at this;rw[c,z]at this;exact this
  ·symm;refine⟨y,rfl,r.sm g,λB p=>?_⟩;have k:=g.trans p;symm;refine ifB (λf=>?_) λf=>?_
   ·obtain⟨i,rfl⟩:∃i,x=.int i:=by cases x<;>first |exact⟨_,rfl⟩ |cases c
    obtain⟨j,rfl⟩:∃j,y=.int j:=by cases y<;>first |exact⟨_,rfl⟩ |cases f
    symm
    have:=q _ k
    unfold strB at this;rw[c]at this;dsimp only at this;rw[f,bM,bM]at this;exact this
   ·refine m _ k ?_;unfold strB;rw[c,bM];cases y<;>first |rfl |exact absurd rfl z | (dsimp only;rw[f];rfl)
def isL(c:Nat):Prop:=97<=c/\c<=122
def nmOk(s:Str):Prop:=1<=s.cps.toList.length/\s.cps.toList.length<=8/\∀c∈s.cps.toList,isL c
def a2d(s:Str):s.length=s.cps.toList.length:=by rw[bL];rfl
def a72(h:∀c∈s.cps.toList,isL c):PyData.strOk s=true:=by
 unfold PyData.strOk;rw[Array.all_eq_true_iff_forall_mem];intro c a
 have:=(h c (by simp_all)).2
 exact decide_eq_true (by lia)
def a1j(h:nmOk s):flat n (.str s)=true:=by
 have:=a72 h.2.2
 cases n<;>exact this
def b1f(h:nmOk s):Th G (.str s):=⟨by rw[a2d];have:=h.2.1;lia,a72 h.2.2⟩
def nm_b(h:nmOk s):a2U (.str s)=true:=by
 rw[a3t,decide_eq_true (by rw[a2d];exact h.1),decide_eq_true (by rw[a2d];exact h.2.1)];rw[bM,bM,bX];intro c b;obtain⟨a,d⟩:=h.2.2 c b;unfold okC;rw[decide_eq_true a,decide_eq_true d];rfl
noncomputable def T12:Int:=1000000000000
def stOk(b:Int)(e:Option Int):Prop:=0<=b/\b<=T12/\∀x,e=some x->b<x/\x<=T12
noncomputable def stOk.bef(h:stOk b e):bef b e=true:=by
 cases e with
 |none=>rfl
 |some x=>simp only[Lw.bef,decide_eq_true_eq];exact (h.2.2 x rfl).1
def st_b(h:stOk b e):strB (.int b) (oz e)=true:=by
 obtain⟨c,g,a⟩:=h;unfold T12 at *;unfold strB;rw[a3Y,decide_eq_true c,decide_eq_true g];cases e with
 |none=>rfl
 |some x=>
  obtain⟨f,d⟩:=a x rfl
  show (true&&(momB _&&decide _))=true
  rw[a3Y,decide_eq_true (show 0<=x by lia),decide_eq_true d,decide_eq_true f];rfl
def Plain(l:List Rw):Prop:=∀r∈l,∃x,r.w=[x]/\flat 0 x=true
def Plain.one(h:Plain l):One l:=λr a=>by obtain⟨x,e,_⟩:=h r a;exact⟨x,e⟩
def Plain.okR(h:Plain l):OkR l:=λr a=>by
 obtain⟨x,e,f⟩:=h r a;rw[e];exact b8X (a0o (by simp) f)
def Plain.nil:Plain []:=λr hr=>by simp at hr
def a1d(h:Plain puts)(t:Int):flat 0 (a0f puts t)=true:=by
 unfold a0f;cases e:puts.reverse.find? _ with
 |none=>rfl
 |some r=>
  obtain⟨x,a,f⟩:=h r (by have:=cN e;simpa using this)
  show flat 0 (r.w.headD .non)=true
  rw[a];exact f
def a5p(z:Z):wz (optW z)=z:=by
 unfold optW
 split
 ·next h=>rw[h];rfl
 ·rfl
def b1g(h:Plain L)(f:flat 0 z=true):Plain (a6f L b e (optW z)):=λr a=>by
 have m:Plain (a1x L b e (optW z)):=λr a=>by
  rcases aE.mp a with a |a
  ·rcases aE.mp a with a |a
   ·obtain⟨j,i,_,rfl⟩:=a2u a;exact h j i
   ·unfold optW at a
    split at a
    ·next w e=>
           split at e
           ·cases e
           ·cases e;rw[aJ.mp a];exact⟨z,rfl,f⟩
    ·simp_all
  ·cases e with
   |none=>simp at a
   |some e=>
    obtain⟨j,i,_,rfl⟩:=a3s a;exact h j i
 have l:∀d c,Plain c->Plain d->Plain (d.foldl jn c):=by
  intro d
  induction d with
  |nil=>exact λ_ h _=>h
  |cons p d ih=>
   intro c k g;refine ih _ (λr a=>?_) λr a=>g r (.tail _ a)
   have:=g p (.head _)
   unfold jn at a
   split at a
   ·split at a
    ·rcases aE.mp a with a |a
     ·exact k r (fi _ a)
     ·simp_all
    ·rcases aE.mp a with a |a
     ·exact k r a
     ·simp_all
   ·simp_all
 exact l _ [] Plain.nil m r a
def a6Z(h1:flat 8 x=true)(h2:flat 8 y=true)(h:R (.bl (f (decide (x=y)))) G):zEq f x y G R:=by
 cases x<;>cases y<;>first
  |exact⟨h1,h2,h⟩
  | (simp at h1;done)
  | (simp[flat]at h2;done)
  | (rw[a0w (Z.int.injEq _ _)]at h;exact h)
  | (rw[a0w (Z.str.injEq _ _)]at h;exact h)
structure Tl where
 key:Str
 w:Option Str
 b:Int
 e:Option Int
abbrev sPut:Str:=Str.ofString "put"
abbrev b30:Str:=Str.ofString "clear"
noncomputable def Tl.z(τ:Tl):Z:=match τ.w with
 |some w=>.tup [.str sPut,.str τ.key,.str w,.int τ.b,oz τ.e]
 |none=>.tup [.str b30,.str τ.key,.int τ.b,oz τ.e]
noncomputable def Tl.v(τ:Tl):Z:=match τ.w with
 |some w=>.str w
 |none=>.non
structure Tl.Ok (τ:Tl):Prop where
 k:nmOk τ.key
 w:∀s,τ.w=some s->nmOk s
 st:stOk τ.b τ.e
noncomputable def Tl.Ok.v{τ:Tl}(h:τ.Ok):flat 0 τ.v=true:=by
 unfold Tl.v;cases e:τ.w with
 |none=>rfl
 |some w=>exact a1j (h.w w e)
noncomputable def Tl.rw(τ:Tl):Rw:=⟨τ.b,τ.e,[τ.v]⟩
noncomputable def a0i(T:List Tl)(k:Str):List Rw:=(T.filter fun τ=>decide (τ.key=k)).map Tl.rw
def a1U:a0i (T++[τ]) k=a0i T k++(if τ.key=k then [τ.rw] else []):=by
 unfold a0i
 by_cases c:τ.key=k<;>simp[c]
def OkT(T:List Tl):Prop:=∀τ∈T,τ.Ok
def a1V(h:OkT T):Plain (a0i T k):=λr a=>by
 obtain⟨τ,b,rfl⟩:=aF.mp a;exact⟨_,rfl,(h τ (aV.mp b).1).v⟩
structure IsLine (T:List Tl) (k:Str) (L:List Rw):Prop where
 can:Can L
 pl:Plain L
 len:L.length<=2*T.length
 v:∀t,val L t=optW (a0f (a0i T k) t)
def IsLine.nil(h:a0i T k=[]):IsLine T k []:=⟨Can.nil,Plain.nil,by simp,λt=>by rw[h];rfl⟩
def IsLine.snoc(h:IsLine T τ.key L)(o:τ.Ok):IsLine (T++[τ]) τ.key (a6f L τ.b τ.e (optW τ.v)):=by
 have a:=a70 (w:=optW τ.v) h.can.rise o.st.bef;refine⟨a.1,b1g h.pl o.v,by have:=a.2.2;have:=h.len;simp;lia,λt=>?_⟩;rw[a1U,if_pos rfl,a6U,a.2.1 t,h.v t]
 show _=optW (if (decide (τ.b<=t)&&bef t τ.e)=true then τ.v else a0f _ t)
 split<;>rfl
noncomputable def ixF(k:Str):Nat->List Tl->List Int
 |_,[]=>[]
 |n,τ::T=>(if τ.key=k then [(n:Int)+1] else [])++ixF k (n+1) T
noncomputable def ix(T:List Tl)(k:Str):List Int:=ixF k 0 T
def b24:∀(n:Nat)(T:List Tl),ixF k n (T++[τ])=ixF k n T++(if τ.key=k then [(n+T.length:Int)+1] else []):=by intro z0 y0;induction y0 generalizing z0 with
 |nil=>simp[ixF]
 |cons σ T I0=>
  rw[cZ,ixF,I0,ixF,be]
  congr 2
  split
  ·congr 1;rw[aL];lia
  ·rfl
def a1w:ix (T++[τ]) k=ix T k++(if τ.key=k then [(T.length:Int)+1] else []):=by
 unfold ix;rw[b24];simp
def b31:∀{n:Nat}{T:List Tl}{i:Int},i∈ixF k n T->(n:Int)+1<=i/\i<=n+T.length:=by intro z0 y0;induction y0 generalizing z0 with
 |nil=>intro i h;simp[ixF]at h
 |cons τ T I0=>
  intro i h;rw[aL];rcases aE.mp h with h |h
  ·split at h
   ·rw[aJ.mp h];lia
   ·simp_all
  ·have:=I0 h;lia
def b50(h:i∈ix T k):1<=i/\i<=T.length:=by
 have:=b31 h
 simpa using this
def b51:∀(n:Nat)(T:List Tl),(ixF k n T).length<=T.length:=by intro z0 y0;induction y0 generalizing z0 with
 |nil=>simp[ixF]
 |cons τ T I0=>
  have:=I0 (z0+1)
  rw[ixF,aG,aL]
  split<;>simp<;>lia
def b32(T:List Tl)(k:Str):(ix T k).length<=T.length:=b51 0 T
def a82:∀(n:Nat)(T:List Tl),(ixF k n T).Pairwise (·<·):=by intro z0 y0;induction y0 generalizing z0 with
 |nil=>exact .nil
 |cons τ T I0=>
  refine aY.mpr ⟨by split<;>simp,I0 _,λx a y b=>?_⟩
  have:=b31 b
  split at a
  ·rw[aJ.mp a];omega
  ·grind
def a31(T:List Tl)(k:Str):(ix T k).Pairwise (·<·):=a82 0 T
theorem a3u:∀(n:Nat)(T:List Tl)(s q:Nat),s<=q->(∀i∈ixF k n T,(i:Int)<=n+s\/(n+q:Int)<i)->a0i (T.take q) k=a0i (T.take s) k
 |n,[],s,q,_,_=>by simp
 |n,τ::T,s,0,hs,_=>by grind
 |n,τ::T,0,q+1,hs,h=>by
  have d:¬ τ.key=k:=λe=>by
   have:=h (n+1) (by rw[ixF,if_pos e];simp)
   lia
  have a:=a3u (k:=k) (n+1) T 0 q (by lia) λi b=>by
   rcases h i (by rw[ixF];simp[b]) with c |c
   lia
   lia
  rw[d8];unfold a0i at a ⊢;rw[bg,if_neg (by simpa using d),a];simp
 |n,τ::T,s+1,q+1,hs,h=>by
  have a:=a3u (k:=k) (n+1) T s q (by lia) λi b=>by
   rcases h i (by rw[ixF];simp[b]) with c |c
   ·left;lia
   lia
  rw[d8,d8];unfold a0i at a ⊢;rw[bg,bg]
  split
  ·grind
  ·exact a
def IsLine.cut{s q:Nat}(h:IsLine (T.take s) k L)(hs:s<=q)(hi:∀i∈ix T k,i<=(s:Int)\/(q:Int)<i):IsLine (T.take q) k L:=by
 have e:=a3u 0 T s q hs λi h=>by have:=hi i h;simpa using this
 exact⟨h.can,h.pl,by have:=h.len;rw[aR]at this ⊢;lia,λt=>by rw[e];exact h.v t⟩
def a32{q:Nat}(h:∀i∈ix T k,(q:Int)<i):a0i (T.take q) k=[]:=by
 have:=a3u 0 T 0 q (aW _) λi a=>by right;have:=h i a;simpa using this
 rw[this];rfl
def a60(h:Rise l)(hr:r∈l)(ht:r.has t=true):val l t=some r.w:=by
 induction l with
 |nil=>simp at hr
 |cons s l ih=>
  rw[a0k];rcases aD.mp hr with rfl |hr
  ·rw[if_pos ht]
  ·rw[if_neg]
   ·exact ih h.tail hr
   ·intro z
    have:=(db h.2 hr).has z
    rw[ht]at this;cases this
def a2V{T:List Tl}{k:Str}{t:Int}:a0f (a0i T k) t=.non\/∃w,a0f (a0i T k) t=.str w:=by
 unfold a0f;cases e:(a0i T k).reverse.find? _ with
 |none=>exact .inl rfl
 |some r=>
  have:=cN e
  rw[List.mem_reverse]at this;obtain⟨τ,a,rfl⟩:=aF.mp this;unfold Tl.rw Tl.v;cases τ.w with
  |none=>exact .inl rfl
  |some w=>exact .inr ⟨w,rfl⟩
def a2w(h:IsLine T k L)(hr:r∈L):∃w,r.w=[.str w]:=by
 have a:=a60 h.can.rise hr (a5i (h.can.1 r hr));rw[h.v]at a;unfold optW at a
 split at a
 ·cases a
 ·next q=>
  rcases @a2V T k r.b with e |⟨w,e⟩
  ·exact absurd e q
  ·rw[e]at a;injection a with a;exact⟨w,a.symm⟩
structure Ti where
 r:Rw
 s:Int
 u:Option Int
noncomputable def Ti.z(k:Str)(t:Ti):Z:=.tup [.str k,t.r.w.headD .non,.int t.r.b,oz t.r.e,.int t.s,oz t.u]
noncomputable def Ti.at_(t:Ti)(q:Int):Bool:=decide (t.s<=q)&&bef q t.u
noncomputable def hasR(L:List Rw)(r:Rw):Bool:=L.any λx=>decide (x.z=r.z)
def hasR_iff:hasR L r=true↔r∈L:=by
 unfold hasR;rw[cn];exact⟨by rintro⟨x,h,e⟩;exact Rw.z_inj (of_decide_eq_true e)▸h,λh=>⟨r,h,decide_eq_true rfl⟩⟩
def hasR_no:hasR L r=false↔r∉L:=by
 rw[<- hasR_iff,Bool.not_eq_true]
noncomputable def stR(ts:List Ti):List Rw:=(ts.filter (·.u.isNone)).map (·.r)
noncomputable def endR(L:List Rw)(n:Int)(t:Ti):Ti:=if (t.u.isNone&&!hasR L t.r)=true then ⟨t.r,t.s,some n⟩ else t
noncomputable def newR(n:Int)(r:Rw):Ti:=⟨r,n,none⟩
noncomputable def tOn(ts:List Ti)(L:List Rw)(n:Int):List Ti:=ts.map (endR L n)++(L.filter λr=>!hasR (stR ts) r).map (newR n)
noncomputable def a07(ts:List Ti)(q:Int):List Rw:=(ts.filter (·.at_ q)).map (·.r)
def b52:(endR L n t).r=t.r:=by unfold endR;split<;>rfl
def b82:(endR L n t).s=t.s:=by unfold endR;split<;>rfl
def b25:a07 (ts++us) q=a07 ts q++a07 us q:=by simp[a07]
def b33{α β:Type}{f:α->α}{g:α->β}{p p':α->Bool}:∀{l:List α},(∀t∈l,p (f t)=p' t)->(∀t∈l,g (f t)=g t)->((l.map f).filter p).map g=(l.filter p').map g:=by intro z0;induction z0 with
 |nil=>intro _ _;exact rfl
 |cons t l I0=>
  intro h1 h2;have a:=I0 (λt h=>h1 t (.tail _ h)) (λt h=>h2 t (.tail _ h));rw[aO,bg,bg,h1 t (.head _)]
  split
  ·simp_all
  ·omega
def b26(h:q<n):a07 (tOn ts L n) q=a07 ts q:=by
 unfold tOn;rw[b25];have b:a07 ((L.filter λr=>!hasR (stR ts) r).map (newR n)) q=[]:=by
  unfold a07;rw[de,df];intro t a;obtain⟨r,_,rfl⟩:=aF.mp a;unfold Ti.at_ newR;rw[decide_eq_false (by grind)];simp
 rw[b,bj];refine b33 (λt _=>?_) λt _=>b52;unfold Ti.at_;rw[b82]
 congr 1
 unfold endR
 split
 ·next c=>
  rw[bD,Option.isNone_iff_eq_none]at c;rw[c.1];exact decide_eq_true h
 ·rfl
structure TsOk (ts:List Ti) (n:Int):Prop where
 s:∀t∈ts,t.s<=n
 u:∀t∈ts,∀x,t.u=some x->x<=n
def a61(h:TsOk ts n)(hq:n<=q):a07 ts q=stR ts:=by
 unfold a07 stR
 congr 1
 refine fm λt a=>?_;unfold Ti.at_;rw[decide_eq_true (by have:=h.s t a;lia),bM];cases e:t.u with
 |none=>rfl
 |some x=>
  exact decide_eq_false (by have:=h.u t a x e;lia)
def c1i:stR (tOn ts L n)=(stR ts).filter (hasR L)++L.filter λr=>!hasR (stR ts) r:=by
 have f:stR (ts.map (endR L n))=(stR ts).filter (hasR L):=by
  unfold stR
  conv=>rhs;rw[fq,ft]
  refine b33 (λt _=>?_) λt _=>b52;unfold endR;cases e:t.u with
  |none=>cases c:hasR L t.r<;>simp[c,e]
  |some x=>simp[e]
 have g:∀l:List Rw,stR (l.map (newR n))=l:=λl=>by
  unfold stR;rw[List.filter_eq_self.mpr (λt h=>by obtain⟨r,_,rfl⟩:=aF.mp h;rfl),aU];exact dD l
 have d:∀a b:List Ti,stR _=stR a++stR b:=λa b=>by unfold stR;rw[cA,aP]
 unfold tOn;rw[d,f,g]
def b53{S L:List Rw}(hS:S.Nodup)(hL:L.Nodup):(S.filter (hasR L)++L.filter λr=>!hasR S r).Perm L:=by
 refine (dg ?_ hL).mpr λr=>?_
 ·refine cg.mpr ⟨hS.sublist bC,hL.sublist bC,λx b y f e=>?_⟩;subst e;have d:=(aV.mp b).1;have a:=(aV.mp f).2;rw[hasR_iff.mpr d]at a;cases a
 ·rw[aE,aV,aV,hasR_iff]
  constructor
  ·rintro (h |h)
   ·simp_all
   ·exact h.1
  ·intro h
   by_cases c:r∈S
   ·exact .inl ⟨c,h⟩
   ·exact .inr ⟨h,by rw[hasR_no.mpr c];rfl⟩
def c1j(h:TsOk ts m)(hm:m<=n):TsOk (tOn ts L n) n:=by
 refine⟨λt a=>?_,λt a x e=>?_⟩
 ·rcases aE.mp a with a |a
  ·obtain⟨c,b,rfl⟩:=aF.mp a;rw[b82];have:=h.s c b;lia
  ·obtain⟨r,_,rfl⟩:=aF.mp a;exact bE _
 ·rcases aE.mp a with a |a
  ·obtain⟨c,b,rfl⟩:=aF.mp a;unfold endR at e
   split at e
   ·grind
   ·have:=h.u c b x e;lia
  ·obtain⟨r,_,rfl⟩:=aF.mp a;cases e
def b83:(tOn ts L n).length<=ts.length+L.length:=by grind [tOn]
noncomputable def TF(es:List (Int×List Rw)):List Ti:=es.foldl (λts e=>tOn ts e.2 e.1) []
noncomputable def a11(es:List (Int×List Rw))(q:Int):List Rw:=match es.reverse.find? (λe=>decide (e.1<=q)) with
 |some e=>e.2
 |none=>[]
def a33:TF (es++[e])=tOn (TF es) e.2 e.1:=by
 unfold TF;rw[e9];rfl
def a34:a11 (es++[e]) q=if e.1<=q then e.2 else a11 es q:=by
 unfold a11;rw[cq,cz,dz,bQ]
 by_cases c:e.1<=q
 ·simp_all
 ·rw[decide_eq_false c,if_neg c]
def a35(h:Can L):L.Nodup:=by
 have:=(bd.and_mem.mp h.2).imp λ{r s} ⟨a,_,q⟩=>q.lt.b (h.1 r a)
 exact this.imp λ{r s} q e=>by subst e;lia
def a62{α:Type}{P:List α->Prop}(h0:P [])(h1:∀l a,P l->P (l++[a]))(l:List α):P l:=by
 rw[<- List.reverse_reverse l]
 induction l.reverse with
 |nil=>exact h0
 |cons a l ih=>rw[cE];exact h1 _ _ ih
structure Run (es:List (Int×List Rw)) (n:Int):Prop where
 ok:TsOk (TF es) n
 p:∀q,(a07 (TF es) q).Perm (a11 es q)
 c:∀q,Can (a11 es q)
def b27:∀{es:List (Int×List Rw)}{n:Int},es.Pairwise (λa b=>a.1<b.1)->(∀e∈es,e.1<=n)->(∀e∈es,Can e.2)->Run es n:=by
 intro j
 induction j using a62 with
 |h0=>exact λ_ _ _=>⟨⟨λt h=>by simp[TF]at h,λt h=>by simp[TF]at h⟩,λq=>.refl _,λq=>Can.nil⟩
 |h1 j e ih=>
  intro n w v k;obtain⟨m,_,r⟩:=aY.mp w;have R:=ih m (λx f=>bR (r x f e (.head _))) λx f=>k x (by simp[f]);have l:=k e (by simp);have g:=v e (by simp);have d:=c1j (L:=e.2) R.ok (bE e.1);refine⟨by rw[a33];exact⟨λt i=>bn (d.s t i) g,λt i x f=>bn (d.u t i x f) g⟩,λq=>?_,λq=>?_⟩
  ·rw[a33,a34]
   by_cases c:e.1<=q
   ·rw[if_pos c,a61 d c,c1i];refine b53 ?_ (a35 l);rw[<- a61 R.ok (bE e.1)];exact (R.p e.1).nodup_iff.mpr (a35 (R.c e.1))
   ·rw[if_neg c,b26 (by lia)];exact R.p q
  ·rw[a34]
   split
   ·lia
   ·exact R.c q
def b84:∀{es:List (Int×List Rw)}{m:Nat},(∀e∈es,e.2.length<=m)->(TF es).length<=es.length*m:=by
 intro a
 induction a using a62 with
 |h0=>exact λ_=>by simp[TF]
 |h1 a e ih=>
  intro m h;have h1:=ih λx c=>h x (by simp[c]);have h2:=b83 (ts:=TF a) (L:=e.2) (n:=e.1);have h3:=h e (by simp);rw[a33,aG,cF,d9,Nat.one_mul]
  lia
def b54(hi:es.map (·.1)=ix T k)(hl:∀e∈es,IsLine (T.take e.1.toNat) k e.2)(q:Nat):IsLine (T.take q) k (a11 es q):=by
 have b:es.reverse.Pairwise (λx y=>y.1<x.1):=by
  have:=a31 T k
  rw[<- hi]at this;rw[fu];exact bo.mp this
 unfold a11;cases e:es.reverse.find? _ with
 |none=>
  refine IsLine.nil (a32 λi h=>?_);rw[<- hi]at h;obtain⟨x,a,rfl⟩:=aF.mp h
  have:=dG.mp e x (by grind)
  simpa using this
 |some x=>
  obtain⟨g,r,s,o,n⟩:=List.find?_eq_some_iff_append.mp e;have a:x∈es:=by simp_all
  have g:=of_decide_eq_true g;refine (hl x a).cut (by lia) λj l=>?_;rw[<- hi]at l;obtain⟨y,m,rfl⟩:=aF.mp l;have d:y∈es.reverse:=by grind
  rw[o]at d b;rcases aE.mp d with c |c
  ·right
   have:=n y c
   simpa using this
  ·left
   rcases aD.mp c with rfl |c
   ·lia
   ·have:=db (aY.mp b).2.1 c
    lia
def b1h{es:List (Int×List Rw)}(hi:es.map (·.1)=ix T k):es.Pairwise (λa b=>a.1<b.1):=by
 have:=a31 T k
 rw[<- hi]at this;exact bo.mp this
noncomputable def rnK(r:Rw):List Key:=[.inl (some r.b),.inl r.e,match r.w with |[.str s]=>.inr s |_=>.inl none]
def b1i{r:Rw}(h:∃w,r.w=[.str w]):.tup ((rnK r).map keyW)=r.z:=by
 obtain⟨w,h⟩:=h;unfold rnK Rw.z;rw[h];cases r.e<;>rfl
def c1k(h:∃w,r.w=[.str w]):L3.tupZ (rnK r)=r.z:=by
 obtain⟨w,h⟩:=h;unfold L3.tupZ rnK Rw.z;rw[h];cases r.e<;>rfl
def b55(h:∃w,r.w=[.str w])(h':∃w,s.w=[.str w])(e:rnK r=rnK s):r=s:=Rw.z_inj (by rw[<- b1i h,<- b1i h',e])
def b28:∀x:List Tim.Pz,Tim.cmpT x x=true:=by intro z0;induction z0 with
 |nil=>exact rfl
 |cons a x I0=>unfold Tim.cmpT;rw[if_pos rfl];exact I0
def b85(h:Can L):∀r∈L,∀s∈L,Tim.cmpT (rnK r) (rnK s)=true:=λr a s f=>by
 have d:=(bd.and_mem.mp h.2).imp λ{r s} ⟨a,_,q⟩=>q.lt.b (h.1 r a)
 by_cases c:r=s
 ·rw[c];exact b28 _
 ·have g:=λe=>c ((bd.forall_of_forall_of_flip (R:=λr s=>r.b=s.b->r=s) (λx _ _=>rfl) (d.imp λ{r s} q e=>by lia) (d.imp λ{r s} q e=>by have:=e;lia)) a f e);unfold rnK Tim.cmpT;rw[if_neg (by simp_all)]
  rfl
def b1j:∀{L M:List Rw},Can L->M.Perm L->(M.map rnK).Pairwise (λx y=>Tim.ltT y x=false)->M=L:=λ{L M} h p s=>by
 have c:=(bd.and_mem.mp h.2).imp λ{r s} ⟨m,_,q⟩=>q.lt.b (h.1 r m);have d:M.Pairwise λr s=>r.b<s.b:=by
  refine (bd.and_mem.mp ((bo.mp s).and (p.nodup_iff.mpr (a35 h)))).imp λ{x y} ⟨i,l,q,j⟩=>?_;have f:x.b≠y.b:=λe=>j ((bd.forall_of_forall_of_flip (R:=λr s=>r.b=s.b->r=s) (λx _ _=>rfl) (c.imp λ{r s} q e=>by lia) (c.imp λ{r s} q e=>by have:=e;lia)) (p.mem_iff.mp i) (p.mem_iff.mp l) e);unfold rnK Tim.ltT at q;rw[if_neg (by simpa using Ne.symm f)]at q
  have:=q
  have:=of_decide_eq_false this
  lia
 exact p.eq_of_pairwise (λa b _ _ n o=>by lia) d c
abbrev a63:Str:=Str.ofString "last"
abbrev b1k:Str:=Str.ofString "kept"
noncomputable def shF(n:Int)(d:Addr):List (Str×Z):=[(a63,.int n),(b1k,.ref d)]
def c1C:¬ (a63=b1k):=by decide +kernel
def b56:putQ b1k (.ref d) [(a63,.int n)]=shF n d:=by
 rfl
def b57:putQ a63 (.int m) (shF n d)=shF m d:=rfl
def a1K:(shF n d).lookup a63=some (.int n):=rfl
def a2W:(shF n d).lookup b1k=some (.ref d):=rfl
def a2e(h1:(m==a63)=false)(h2:(m==b1k)=false):(shF n d).lookup m=none:=by
 unfold shF;rw[bW,h1,bW,h2];rfl
abbrev enZ(e:Int×Addr):Z:=.tup [.int e.1,.ref e.2]
structure Hist (G:Hq) (S:Addr->Prop) (T:List Tl) (k:Str) (h:Addr) (es:List (Int×Addr)):Prop where
 s:S h
 at_:G h=some (.lst (es.map enZ))
 ix:es.map (·.1)=ix T k
 ne:es≠[]
 ln:∀e∈es,S e.2/\∃L,G e.2=some (.lst (L.map Rw.z))/\IsLine (T.take e.1.toNat) k L
structure Tils (G:Hq) (S:Addr->Prop) (T:List Tl) (k:Str) (h:Addr) (es:List (Int×List Rw)):Prop where
 s:S h
 at_:G h=some (.lst ((TF es).map (Ti.z k)))
 ix:es.map (·.1)=ix T k
 ne:es≠[]
 ln:∀e∈es,IsLine (T.take e.1.toNat) k e.2
def Rec(b:Bool)(G:Hq)(S:Addr->Prop)(T:List Tl)(k:Str)(h:Addr):Prop:=cond b (∃es,Tils G S T k h es) (∃es,Hist G S T k h es)
def Rec.keepL(H:Rec b G S T k h)(q:∀x ws,S x->G x=some (.lst ws)->G' x=some (.lst ws)):Rec b G' S T k h:=by
 cases b with
 |false=>
  obtain⟨d,H⟩:=H;exact⟨d,H.s,q _ _ H.s H.at_,H.ix,H.ne,λe f=>by obtain⟨s,L,a,c⟩:=H.ln e f;exact⟨s,L,q _ _ s a,c⟩⟩
 |true=>
  obtain⟨d,H⟩:=H;exact⟨d,H.s,q _ _ H.s H.at_,H.ix,H.ne,H.ln⟩
noncomputable def Rec.at_(H:Rec b G S T k h):S h/\∃ws,G h=some (.lst ws):=by
 cases b with
 |false=>obtain⟨a,H⟩:=H;exact⟨H.s,_,H.at_⟩
 |true=>obtain⟨a,H⟩:=H;exact⟨H.s,_,H.at_⟩
structure ShM (a:Ad) (b:Bool) (G:Hq) (p:Addr) (S:Addr->Prop) (T:List Tl) (n:Int) (dx d:Addr) (kvs:List (Key×Z)):Prop where
 ob:G p=some (.ins (a.cK b) dx (shF n d))
 sp:S p
 sd:S d
 dc:G d=some (.dK kvs)
 len:kvs.length<=T.length
 no:∀k,valZ kvs (.inr k)=none->ix T k=[]
 hs:∀k z,valZ kvs (.inr k)=some z->∃h,z=.ref h/\Rec b G S T k h
 inj:∀k k' z,valZ kvs (.inr k)=some z->valZ kvs (.inr k')=some z->k=k'
 al:∀b,S b->∃o,G b=some o
 nd:(kvs.map (·.1)).Nodup
 sk:∀q∈kvs,∃s,q.1=Sum.inr s
def Sheet(a:Ad)(b:Bool)(G:Hq)(p:Addr)(S:Addr->Prop)(T:List Tl):Prop:=∃dx d kvs,ShM a b G p S T T.length dx d kvs
def KS(S:Addr->Prop)(G G':Hq):Prop:=∀b o,S b->G b=some o->G' b=some o
def KN(S:Addr->Prop)(G G':Hq):Prop:=∀b o,¬ S b->G b=some o->G' b=some o
def Sm.ks(s:Sm G G'):KS S G G':=λb o _ e=>s b o e
def Sm.kn(s:Sm G G'):KN S G G':=λb o _ e=>s b o e
def KN.trans(a:KN S G G1)(b:KN S G1 G2):KN S G G2:=λc o n e=>b c o n (a c o n e)
def ShM.keep{a:Ad}{b:Bool}{G G':Hq}{p:Addr}{S:Addr->Prop}{T:List Tl}{n:Int}{dx d:Addr}{kvs:List (Key×Z)}(H:ShM a b G p S T n dx d kvs)(q:KS S G G'):ShM a b G' p S T n dx d kvs:=
 ⟨q _ _ H.sp H.ob,H.sp,H.sd,q _ _ H.sd H.dc,H.len,H.no,λk z e=>by obtain⟨h,c,g⟩:=H.hs k z e;exact⟨h,c,g.keepL λx ws s e=>q x _ s e⟩,H.inj,(λb hb=>by obtain⟨o,e⟩:=H.al b hb;exact⟨o,q b o hb e⟩),H.nd,H.sk⟩
def Sheet.keep{a:Ad}{b:Bool}{G G':Hq}{p:Addr}{S:Addr->Prop}{T:List Tl}(H:Sheet a b G p S T)(q:KS S G G'):Sheet a b G' p S T:=by obtain⟨dx,d,kvs,h⟩:=H;exact⟨dx,d,kvs,h.keep q⟩
structure ShV (a:Ad) (b:Bool) (G:Hq) (p:Addr) (S:Addr->Prop) (T:List Tl) (n:Int) (dx d:Addr) (kvs:List (Key×Z)):Prop where
 ob:G p=some (.ins (a.cK b) dx (shF n d))
 sp:S p
 sd:S d
 dc:G d=some (.dK kvs)\/G d=some (.dF kvs)
 len:kvs.length<=T.length
 no:∀k,valZ kvs (.inr k)=none->ix T k=[]
 hs:∀k z,valZ kvs (.inr k)=some z->∃h,z=.ref h/\Rec b G S T k h
 al:∀b,S b->∃o,G b=some o
 nd:(kvs.map (·.1)).Nodup
 sk:∀q∈kvs,∃s,q.1=Sum.inr s
noncomputable def ShM.v{a:Ad}{b:Bool}{G:Hq}{p:Addr}{S:Addr->Prop}{T:List Tl}{n:Int}{dx d:Addr}{kvs:List (Key×Z)}(H:ShM a b G p S T n dx d kvs):ShV a b G p S T n dx d kvs:=⟨H.ob,H.sp,H.sd,.inl H.dc,H.len,H.no,H.hs,H.al,H.nd,H.sk⟩
def ShV.keep{a:Ad}{b:Bool}{G G':Hq}{p:Addr}{S:Addr->Prop}{T:List Tl}{n:Int}{dx d:Addr}{kvs:List (Key×Z)}(H:ShV a b G p S T n dx d kvs)(q:KS S G G'):ShV a b G' p S T n dx d kvs:=
 ⟨q _ _ H.sp H.ob,H.sp,H.sd,H.dc.imp (q _ _ H.sd) (q _ _ H.sd),H.len,H.no,λk z e=>by obtain⟨h,c,g⟩:=H.hs k z e;exact⟨h,c,g.keepL λx ws s e=>q x _ s e⟩,(λb hb=>by obtain⟨o,e⟩:=H.al b hb;exact⟨o,q b o hb e⟩),H.nd,H.sk⟩
def SheetV(a:Ad)(b:Bool)(G:Hq)(p:Addr)(S:Addr->Prop)(T:List Tl):Prop:=∃dx d kvs,ShV a b G p S T T.length dx d kvs
noncomputable def Sheet.v{a:Ad}{b:Bool}{G:Hq}{p:Addr}{S:Addr->Prop}{T:List Tl}(H:Sheet a b G p S T):SheetV a b G p S T:=by obtain⟨dx,d,kvs,h⟩:=H;exact⟨dx,d,kvs,h.v⟩
def SheetV.keep{a:Ad}{b:Bool}{G G':Hq}{p:Addr}{S:Addr->Prop}{T:List Tl}(H:SheetV a b G p S T)(q:KS S G G'):SheetV a b G' p S T:=by obtain⟨dx,d,kvs,h⟩:=H;exact⟨dx,d,kvs,h.keep q⟩
def a36(a:Ad):P3:=λws G R=>∃x,ws=[x]/\Th G x/\∀G',Sm G G'->if a2U x=true then R .non G' else False
set_option tactic.hygienic true in
def a37(T:Txt K mg a):Cal P w K mg base CX0 2 "check_name" (lowP K (a36 a)):=by
 refine fnc 1 (N:=["thing"]) T.br (T.f 15 _ rfl) ?_;walk_at "in";refine⟨_,(a0B (z_if (by ac_rfl)
  (a0B a43)
  a3c)),?_⟩
 obtain⟨x,rfl,e,q⟩:=h;symm;refine⟨_,rfl,e,λg d=>?_⟩;have b:=q g d;symm;refine ifNB (λc=>?_) λc=>?_
 ·rw[c]at b
  first |exact aH b | (symm;exact b)
 ·rw[c]at b
  first |exact aH b | (symm;exact b)
def a2x(a:Ad):P3:=λws G R=>∃x y,ws=[x,y]/\Th G x/\Th G y/\∀G',Sm G G'->if strB x y=true then R .non G' else False
set_option tactic.hygienic true in
def a2y(T:Txt K mg a):Cal P w K mg base CX0 3 "check_stretch" (lowP K (a2x a)):=by
 refine fnc 2 (N:=["begin","end"]) T.br (T.f 25 _ rfl) ?_;walk_at "in";refine⟨_,(a0B (z_if (by ac_rfl)
  (a0B a43)
  a3c)),?_⟩
 obtain⟨x,y,rfl,e,i,q⟩:=h;symm;refine⟨_,_,rfl,e,i,λg d=>?_⟩;have b:=q g d;symm;refine ifNB (λc=>?_) λc=>?_
 ·rw[c]at b
  first |exact aH b | (symm;exact b)
 ·rw[c]at b
  first |exact aH b | (symm;exact b)
structure Tel (G:Hq) (z:Z) (h:Z) (nm:List Z) (x y:Z):Prop where
 e:z=.tup (h::(nm++[x,y]))
 l:(∃k,nm=[k])\/∃k w,nm=[k,w]
 n:∀z∈nm,Th G z
 x:Th G x
 y:Th G y
def Tel.sm{x y:Z}(T:Tel G z h nm x y)(s:Sm G G'):Tel G' z h nm x y:=⟨T.e,T.l,λz a=>(T.n z a).sm s,T.x.sm s,T.y.sm s⟩
def a2z(a:Ad):P3:=λws G R=>Ex5 λ(z h:Z) (nm:List Z) (x y:Z)=>ws=[z]/\Tel G z h nm x y/\∀G',Sm G G'->if nm.all a2U=true then (if strB x y=true then R .non G' else False) else False
def c1l:cutZ [h,k,x,y] (some 1) (some (-2))=[k]:=rfl
def c1m{h k w x y:Z}:cutZ [h,k,w,x,y] (some 1) (some (-2))=[k,w]:=rfl
def a6m{l:List Z}(h:x∈l)(c:f x=false):l.all f=false:=List.all_eq_false.mpr ⟨x,h,by rw[c];decide⟩
def a73{l:List Z}(h:(l.take i).all f=true)(e:l[i]?=some x)(c:f x=true):(l.take (i+1)).all f=true:=by
 rw[b6,List.all_append,h,e]
 show (true&&([x].all f))=true
 rw[bY,c];rfl
set_option tactic.hygienic true in
def a2A(T:Txt K mg a):Cal P w K mg base CX0 4 "check_telling" (lowP K (a2z a)):=by
 refine fnc 1 (N:=["telling","name"]) T.br (T.f 27 _ rfl) ?_;walk_at "in";refine⟨_,(a0c (a15 (pt:=(.nm 1)) fW.never rfl (b7I (by ac_rfl)) (p_nm (nmI 1 nd))
  (by ac_rfl))
  (by ac_rfl)),?_⟩
 obtain⟨z,h,nm,x,y,rfl,⟨rfl,hl,hn,hx,hy⟩,q⟩:=h;rcases hl with ⟨k,rfl⟩ |⟨k,w,rfl⟩
 ·show uSeq _ _ _ _ _ _ (a3G _ [.tup [h,k,x,y]]) _
  symm;refine a8y (show ¬ (HT.sIx 4 0 (some 1)=0/\HT.sIx 4 4 (some (-2))=4) by decide) ?_;rw[c1l];symm;refine a0P (λi σ G'=>∃v:Option Z,Sm G G'/\(([k]:List Z).take i).all a2U=true/\σ=[some (.tup [h,k,x,y]),v]) ⟨_,Sm.refl _,rfl,rfl⟩ (λ_ _ _ _ _=>True.intro) ?_ ?_
  ·rintro i u σ G' hu ⟨v,s,ha,rfl⟩;have hm:=aS hu;refine⟨_,rfl,?_⟩;symm;refine⟨u,rfl,(hn u hm).sm s,λG1 s1=>?_⟩;have q':=q G1 (s.trans s1);refine ifB (λc=>?_) λc=>?_
   ·symm;exact⟨_,s.trans s1,a73 ha hu c,rfl⟩
   ·rw[a6m hm c]at q';exact q'
  ·rintro σ G' ⟨v,s,ha,rfl⟩;have ha:([k]:List Z).all a2U=true:=ha;symm;refine⟨x,y,rfl,hx.sm s,hy.sm s,λG1 s1=>?_⟩;have q':=q G1 (s.trans s1);rw[ha]at q';refine ifB (λc=>?_) λc=>?_
   ·rw[c]at q';symm;exact q'
   ·rw[c]at q';exact q'
 ·show uSeq _ _ _ _ _ _ (a3G _ [.tup [h,k,w,x,y]]) _
  symm;refine a8y (show ¬ (HT.sIx 5 0 (some 1)=0/\HT.sIx 5 5 (some (-2))=5) by decide) ?_;rw[c1m];symm;refine a0P (λi σ G'=>∃v:Option Z,Sm G G'/\(([k,w]:List Z).take i).all a2U=true/\σ=[some (.tup [h,k,w,x,y]),v]) ⟨_,Sm.refl _,rfl,rfl⟩ (λ_ _ _ _ _=>True.intro) ?_ ?_
  ·rintro i u σ G' hu ⟨v,s,ha,rfl⟩;have hm:=aS hu;refine⟨_,rfl,?_⟩;symm;refine⟨u,rfl,(hn u hm).sm s,λG1 s1=>?_⟩;have q':=q G1 (s.trans s1);refine ifB (λc=>?_) λc=>?_
   ·symm;exact⟨_,s.trans s1,a73 ha hu c,rfl⟩
   ·rw[a6m hm c]at q';exact q'
  ·rintro σ G' ⟨v,s,ha,rfl⟩;have ha:([k,w]:List Z).all a2U=true:=ha;symm;refine⟨x,y,rfl,hx.sm s,hy.sm s,λG1 s1=>?_⟩;have q':=q G1 (s.trans s1);rw[ha]at q';refine ifB (λc=>?_) λc=>?_
   ·rw[c]at q';symm;exact q'
   ·rw[c]at q';exact q'
def a2f(a:Ad):P3:=λws G R=>∃q n:Int,ws=[.int q,.int n]/\if 0<=q/\q<=n then R .non G else False
set_option tactic.hygienic true in
def a08(T:Txt K mg a):Cal P w K mg base CX0 1 "check_in_reach" (lowP K (a2f a)):=by
 refine fnc 2 (N:=["knowing","last"]) T.br (T.f 14 _ rfl) ?_;walk_at "in";refine⟨_,(a0B (z_if (by ac_rfl)
  (a0B a43)
  a3c)),?_⟩
 obtain⟨q,n,rfl,k⟩:=h;symm;refine ifD (λc=>?_) λc=>?_
 ·rw[if_neg (by lia)]at k;exact k.elim
 ·symm;refine ifD (λb=>?_) λb=>?_
  ·rw[if_neg (by lia)]at k;exact k.elim
  ·rw[if_pos (by lia)]at k;symm;exact k
def a3i:P3:=λws G R=>∃(l:Addr)(L:List Rw)(τ:Tl),ws=[.ref l,τ.z]/\G l=some (.lst (L.map Rw.z))/\Rise L/\Plain L/\L.length<=400/\τ.Ok /\
 ∀t G',G t=none->Sm G G'->G' t=some (.lst ((a6f L τ.b τ.e (optW τ.v)).map Rw.z))->R (.ref t) G'
def c1n:¬ (b30=sPut):=by decide +kernel
set_option tactic.hygienic true in
def a1y(T:Txt K mg a):Cal P w K mg base CX0 4 "line_behind" (lowP K a3i):=by
 refine fnc 2 (N:=["line","telling","worth"]) T.br (T.f 28 _ rfl) ?_;walk_at "in";refine⟨_,(by ac_rfl),?_⟩;obtain⟨l,L,⟨u,w,b,e⟩,rfl,m,f,g,x,k,q⟩:=h;have j:=k.st.bef;have o:=k.v;cases w with
 |none=>
  unfold Tl.z;symm;refine ifD (λc=>absurd c c1n) λ_=>?_;symm;exact⟨l,L,b,e,.non,rfl,m,f,g.okR,g.one,by lia,j,rfl,q⟩
 |some w=>
  unfold Tl.z;symm;refine ifD (λ_=>?_) λc=>absurd rfl c;symm;exact⟨l,L,b,e,.str w,rfl,m,f,g.okR,g.one,by lia,j,a0o (by decide) o,q⟩
def a2X(a:Ad):P3:=λws G R=>∃b p dx,ws=[.ref p]/\G p=some (.ins (a.cK b) dx [])/\∀d G',G d=none->(∀b o,G b=some o->b≠p->G' b=some o)->Sheet a b G' p (λx=>x=p\/x=d) []->R .non G'
set_option tactic.hygienic true in
def a1k(T:Txt K mg a)(β:Bool):Mal P w K mg base CX0 1 (a.cK β) "__init__" (lowP K (a2X a)):=by
 refine fnm 1 (N:=["self"]) (mxK T β 4) ?_;walk_at "in";obtain⟨b,h⟩:=h;refine⟨_,(a0c (b8v (clK T b) (naK T b 0) (qv 0) b4M)
  (a0B (b8v (clK T b) (naK T b 1) (qv 0) b3J))),?_⟩
 obtain⟨p,g,rfl,m,q⟩:=h;symm;refine⟨p,g,[],rfl,m,by decide,?_⟩;symm;intro d i;have c:=a0d a0a i;symm;refine⟨p,g,[(a63,.int 0)],rfl,by rw[a0e c];exact a0a,by decide,?_⟩;rw[b56];symm;have f:G d=none:=by rw[a0e (Ne.symm c)]at i;exact i
 refine q d _ f (λb o e j=>?_) ⟨g,d,[],⟨a0a,.inl rfl,.inr rfl,?_,by simp,λk _=>rfl,(λk z e=>by cases e),(λk x z e=>by cases e),?_,.nil,λq t=>by simp at t⟩⟩
 ·rw[a0e j,a0e (a0d e f),a0e j];exact e
 ·rw[a0e (Ne.symm c)];exact a0a
 ·rintro b (rfl |rfl)
  ·exact⟨_,a0a⟩
  ·exact⟨_,by rw[a0e (Ne.symm c)];exact a0a⟩
def a1B(a:Ad):P3:=λws G R=>∃b:Bool,Ex4 λ(p:Addr) (S:Addr->Prop) (T:List Tl) (q:Int)=>ws=[.ref p,.int q]/\SheetV a b G p S T/\if 0<=q/\q<=T.length then R .non G else False
set_option tactic.hygienic true in
def a0C(T:Txt K mg a)(β:Bool):Mal P w K mg base CX0 2 (a.cK β) "check_knowing" (lowP K (a1B a)):=by
 refine fnm 2 (N:=["self","knowing"]) (mxK T β 0) ?_;walk_at "in";obtain⟨b,h⟩:=h;refine⟨_,(a0B (a26 (q_c (a08 T) hr (q_k (qv 1) (q_k (a3f (clK T b) (naK T b 0) (qv 0)) a0z)) ))),?_⟩;obtain⟨p,S,T',q,rfl,⟨e,d,g,f⟩,k⟩:=h;symm;refine⟨p,e,_,_,rfl,f.ob,a1K,?_⟩;symm;refine⟨q,_,rfl,?_⟩
 by_cases c:0<=q/\q<=T'.length
 ·omega
 ·omega
def a0V(a:Ad)(b:Bool):P3:=λws G R=>Ex9 λ(p:Addr) (S:Addr->Prop) (T:List Tl) (k:Str) (q:Int) (n:Int) (dx d:Addr) (kvs:List (Key×Z))=>ws=[.ref p,.str k,.int q]/\ShV a b G p S T n dx d kvs/\0<=q/\q<=T.length/\T.length<=200 /\
 ∀t L G',G t=none->Sm G G'->G' t=some (.lst (L.map Rw.z))->IsLine (T.take q.toNat) k L->R (.ref t) G'
def a1L{a:Ad}{b:Bool}{ws:List Z}{G:Hq}{R:K3}(h:a0V a b ws G R):ws.length=3:=by obtain⟨_,_,_,_,_,_,_,_,_,rfl,_⟩:=h;rfl
abbrev a2g(a:Ad):P3:=a0V a false
abbrev a2h(a:Ad):P3:=a0V a true
def b58(l:List Rw):l.filterMap (λr=>some r)=l:=by simp
def a2i(T:Txt K mg a):Mal P w K mg base CX0 3 a.c_Sheet "known_line" (lowP K (a2g a)):=by
 refine fnm 3 (N:=["self","key","knowing","since","line"]) (T.m_Sheet 7 _ rfl) ?_ (len:=λws G R h=>(by exact a1L h));walk_at "in";refine⟨_,(a0c (a15 fW.never rfl (a6O rfl (T.b 11) (q_k (q_bm PySem.F.plainAttrs_dict PySem.F.slot_dict_get PySem.F.type_dict_get (a7P hu) (a3f T.cl_Sheet (T.n_Sheet 1 _ rfl) (qv 0)) (by ac_rfl)) a0z)) (by ac_rfl)
  (a0B (z_if (by ac_rfl)
  (a0B (a1F (q_l ["begin","end","worth"] [none,none,none] (.tp [0,1,2]))))
  a3c)))
  (by ac_rfl)),?_⟩
 obtain⟨p,S,T,k,q,n,dx,d,kvs,rfl,V,h0,h1,hT,fin⟩:=h;obtain⟨q,rfl⟩:=cM h0;symm;refine⟨p,dx,_,_,rfl,V.ob,a2W,?_⟩;refine b8E V.dc ?_;symm;refine⟨lenK rfl,λt0 g=>?_⟩;symm;refine b0G (V.dc.imp (λe=>a0b e g) λe=>a0b e g) rfl ?_;have s0:Sm G (put G t0 (.lst [])):=Sm.new g;have I:(∀i∈ix T k,(q:Int)<i)->∀(B u:Option Z)(G1:Hq),Sm G G1->∀t,G1 t=none->R (.ref t) (put G1 t (.lst [])):=λhi _ _ G1 s1 t J=>
  fin t [] _ (s1.free J) (s1.trans (Sm.new J)) a0a (by
   have e:((q:Int)).toNat=q:=by omega
   rw[e];exact IsLine.nil (a32 hi))
 cases hv:valZ kvs (.inr k) with
 |none=>
  symm;refine⟨t0,[],rfl,a0a,?_⟩;refine a0P (λi σ o=>∃B u:Option Z,σ=[some (.ref p),some (.str k),some (.int q),B,u]/\o=put G t0 (.lst [])) ⟨_,_,rfl,rfl⟩ (by rintro i σ o _ ⟨_,_,_,e⟩;rw[e];exact a0a) ?_ ?_
  ·rintro i x σ o A _;simp at A
  ·rintro σ o ⟨B,u,rfl,rfl⟩;symm;refine⟨lenK rfl,λt J=>?_⟩;exact I (λi hi=>by rw[V.no k hv]at hi;simp at hi) B u _ s0 t J
 |some z=>
  obtain⟨h,rfl,Q,H⟩:=V.hs k z hv;symm;refine⟨h,_,rfl,a0b H.at_ g,?_⟩;rw[<- List.map_reverse];refine a0P (λi σ o=>∃B u:Option Z,(∀(j:Nat) e,j<i->Q.reverse[j]?=some e->(q:Int)<e.1)/\σ=[some (.ref p),some (.str k),some (.int q),B,u]/\o=put G t0 (.lst [])) ⟨_,_,λj e E=>by omega,rfl,rfl⟩ (by rintro i σ o _ ⟨_,_,_,_,e⟩;rw[e];exact a0b H.at_ g) ?_ ?_
  ·rintro i x σ o A ⟨B,u,v,rfl,rfl⟩;rw[aK]at A;cases hx':Q.reverse[i]? with
   |none=>rw[hx']at A;cases A
   |some e=>
   rw[hx']at A;cases A;obtain⟨s,l⟩:=e;have X:(s,l)∈Q:=by have:=aS hx';simpa using this
   have hix:s∈ix T k:=by rw[<- H.ix];exact bh (f:=(·.1)) X
   obtain⟨hs1,hs2⟩:=b50 hix;obtain⟨_,L,gl,il⟩:=H.ln _ X;refine⟨_,rfl,?_⟩;symm;refine ifD (λc=>?_) λc=>?_
   ·symm;refine a0E (a0b gl g) ?_;intro D hD;have hone:=il.pl.one;have hll:L.length<=1000:=by have:=il.len;rw[aR]at this;omega
    refine a2T (g':=Rw.z) (λr=>some r) (λys=>a0b (a0b gl g) hD) hll ?_ ?_
    ·intro r hr ys K1 K2 k1 k2;obtain⟨x,A⟩:=hone r hr;obtain⟨b,e,w⟩:=r;cases A;refine⟨_,rfl,?_⟩;symm;refine⟨lenK rfl,?_⟩;exact k1 ⟨b,e,[x]⟩ rfl
    ·rw[b58];refine fin D L _ (s0.free hD) (s0.trans (Sm.new hD)) a0a ?_;have e1:((q:Int)).toNat=q:=by omega
     rw[e1];have il':IsLine (T.take s.toNat) k L:=il;refine il'.cut (by omega) λj E=>?_;rw[<- H.ix]at E;obtain⟨M,Y,rfl⟩:=aF.mp E
     by_cases c2:M.1<=s
     ·left;omega
     ·right
      have U:M∈Q.reverse:=by simpa using Y
      obtain⟨m,C⟩:=bH U
      by_cases hmi:m<i
      ·exact v m M hmi C
      ·exfalso;have hst:(ix T k).Pairwise (·<·):=a31 T k
       rw[<- H.ix]at hst;have hst2:Q.reverse.Pairwise (λx y=>y.1<x.1):=by
        rw[fu];exact bo.mp hst
       by_cases hmi2:m=i
       ·subst hmi2;rw[hx']at C;cases C;omega
       ·obtain⟨l1,e5⟩:=aI.mp hx';obtain⟨l2,e6⟩:=aI.mp C
        have:=cy.mp hst2 i m l1 l2 (by omega)
        rw[e5,e6]at this;simp only at this;omega
   ·symm;refine⟨_,_,λj e E he=>?_,rfl,rfl⟩
    by_cases hji:j<i
    ·exact v j e hji he
    ·grind
  ·rintro σ o ⟨B,u,v,rfl,rfl⟩;symm;refine⟨lenK rfl,λt J=>?_⟩;refine I (λj E=>?_) B u _ s0 t J;rw[<- H.ix]at E;obtain⟨M,Y,rfl⟩:=aF.mp E;have U:M∈Q.reverse:=by simpa using Y
   obtain⟨m,C⟩:=bH U;exact v m M (by rw[aB];exact (aI.mp C).1) C
def Nmd(l:List Rw):Prop:=∀r∈l,∃w,r.w=[.str w]
def NmT(ts:List Ti):Prop:=∀t∈ts,∃w,t.r.w=[.str w]
def a09{α β:Type}{l:List α}{g:α->Z}{g':β->Z}(f:α->Option β)(hok:∀ys,ok (put G1 D (.lst ys)))(hz:l.length<=100000)
  (turn:∀x,x∈l->∀(ys:List Z)(K1:K3)(K2:Hq->Prop),(∀y,f x=some y->K1 (g' y) (put G1 D (.lst ys)))->(f x=none->K2 (put G1 D (.lst ys)))->∃σ',a3H pt (g x) (cap3 cap σ)=some σ'/\tt σ' (put G1 D (.lst ys)) λb G4=>if b=true then te σ' G4 K1 else K2 G4)
  (fin:R (.ref D) (put G1 D (.lst ((l.filterMap f).map g')))):LCB (l.map g) ok cap pt tt te σ R D G1:=by
 refine a6F (λi c G=>c=((l.take i).filterMap f).map g'/\G=put G1 D (.lst c)) ⟨by simp,rfl⟩ ?_ ?_ ?_
 ·simp_all
 ·rintro i x c G d ⟨e,rfl⟩;rw[aK]at d;cases hx':l[i]? with
  |none=>rw[hx']at d;cases d
  |some a=>
   rw[hx']at d;cases d;have k:=(aI.mp hx').1;refine turn a (aS hx') c _ _ (λy j=>⟨a0a,?_,?_,?_⟩) λh=>⟨?_,rfl⟩
   ·rw[e,aB];refine dr (aM (bN _ _) (by rw[aR];lia:_<=99999)) (by decide)
   ·rw[a0I hx',j,e,aP];rfl
   ·rw[a1E]
   ·rw[a0I hx',h,e];simp
 ·simp_all
def a64:P3:=λws G R=>∃(k:Str)(t:Ti),ws=[t.z k]/\(∃w,t.r.w=[.str w])/\R t.r.z G
set_option tactic.hygienic true in
def a65(T:Txt K mg a):Cal P w K mg base CX0 1 "run_of" (lowP K a64):=by
 refine fnc 1 (N:=["tile"]) T.br (T.f 16 _ rfl) ?_;walk_at "in";refine⟨_,(by ac_rfl),?_⟩;obtain⟨k,⟨⟨j,l,g⟩,s,u⟩,rfl,⟨w,b⟩,q⟩:=h;subst b;unfold Ti.z;symm;refine⟨lenK rfl,?_⟩;symm;exact q
def a3j:P3:=λws G R=>∃(k:Str)(t:Ti),ws=[t.z k]/\R (.bl t.u.isNone) G
set_option tactic.hygienic true in
def a3k(T:Txt K mg a):Cal P w K mg base CX0 1 "is_standing" (lowP K a3j):=by
 refine fnc 1 (N:=["tile"]) T.br (T.f 17 _ rfl) ?_;walk_at "in";refine⟨_,(by ac_rfl),?_⟩;obtain⟨k,⟨r,s,u⟩,rfl,q⟩:=h;unfold Ti.z;symm;refine c1e ?_;rw[Option.not_isSome];exact q
def a4p:P3:=λws G R=>∃(k:Str)(t:Ti)(n:Int),ws=[t.z k,.int n]/\R (.bl (t.at_ n)) G
set_option tactic.hygienic true in
def a4q(T:Txt K mg a):Cal P w K mg base CX0 2 "stands_at" (lowP K a4p):=by
 refine fnc 2 (N:=["tile","knowing"]) T.br (T.f 18 _ rfl) ?_;walk_at "in";refine⟨_,(by ac_rfl),?_⟩;obtain⟨k,t,n,rfl,q⟩:=h;unfold Ti.at_ at q;unfold Ti.z;symm;refine ifD (λc=>?_) λc=>?_
 ·rw[decide_eq_true c]at q;symm;refine⟨k,t,rfl,?_⟩;cases e:t.u with
  |none=>
   rw[e]at q;symm;exact q
  |some x=>
   rw[e]at q;symm;rw[if_neg (by simp)];symm;exact q
 ·simp_all
def a5q:P3:=λws G R=>Ex6 λ(p l:Addr) (k:Str) (ts:List Ti) (L:List Rw) (n:Int)=>ws=[.ref p,.str k,.ref l,.int n]/\G p=some (.lst (ts.map (Ti.z k)))/\G l=some (.lst (L.map Rw.z))/\NmT ts/\Nmd L/\ts.length<=90000/\L.length<=900/\(stR ts).length<=900 /\
 ∀t G',G t=none->Sm G G'->G' t=some (.lst ((tOn ts L n).map (Ti.z k)))->R (.ref t) G'
noncomputable def prR(r:Rw):Z:=.tup [r.z,.bl true]
noncomputable def prK(r:Rw):List Key×Z:=(rnK r,.bl true)
def b34(h:Nmd L):L.map prR=(L.map prK).map prT:=by
 rw[aU];refine cm λr a=>?_
 show Z.tup [r.z,.bl true]=.tup [.tup ((rnK r).map keyW),.bl true]
 rw[b1i (h r a)]
def b35(h:Nmd L)(hr:∃w,r.w=[.str w])(hk:∀j,j∈ks↔j∈(L.map prK).map (·.1)):hasK ks (rnK r)=hasR L r:=by
 rw[cB,b2Q,hasR_iff,hk,aU,aF];exact⟨by rintro⟨s,a,e⟩;exact b55 (h s a) hr e▸a,λa=>⟨r,a,rfl⟩⟩
def c1o(ts:List Ti):ts.filterMap (λt=>if t.u.isNone=true then some t.r else none)=stR ts:=by
 unfold stR
 induction ts with
 |nil=>rfl
 |cons t ts ih=>
  rw[bJ,bg];cases t.u.isNone
  ·exact ih
  ·show t.r::_=_
   rw[ih];rfl
def b59{α:Type}(l:List α):l.filterMap (λr=>some r)=l:=by simp
def b1l{α:Type}{p:α->Bool}(l:List α):l.filterMap (λr=>if p r=true then some r else none)=l.filter p:=by
 induction l with
 |nil=>rfl
 |cons r l ih=>
  rw[bJ,bg];cases p r
  ·exact ih
  ·simp_all
def b36{α β:Type}{f:α->β}(l:List α):l.filterMap (λr=>some (f r))=l.map f:=by simp
def cut5{a b c d e f:Z}:cutZ [a,b,c,d,e,f] none (some 5)=[a,b,c,d,e]:=rfl
def b37(h:NmT ts):Nmd (stR ts):=λr b=>by
 obtain⟨t,a,rfl⟩:=aF.mp b;exact h t (aV.mp a).1
set_option tactic.hygienic true in
def a2B(T:Txt K mg a):Cal P w K mg base CX0 2 "tiled_on" (lowP K a5q):=by
 refine fnc 4 (N:=["tiles","key","line","knowing","wanted","standing","begun","ended"]) T.br (T.f 29 _ rfl) ?_;walk_at "in";refine⟨_,(a0c (z_st (nmI 4 nd) (q_Y (b0Z rfl hu) (T.b 12) (q_k (q_l ["run"] [none] (.nm 0)) a0z)))
  (a0c (z_st (nmI 5 nd) (q_Y (b0Z rfl hu) (T.b 12) (q_k (q_l ["tile"] [none] (.nm 0)) a0z)))
  (a0c (z_l (nmI 6 nd) ["run","standing"] [none,some 5] (.nm 0) (ht:=λ_ _ _ _=>(a3I (a1Z (a7U hu) (qv 0) (qv 1) (by with_unfolding_all rfl)))))
  (a0c (z_l (nmI 7 nd) ["tile","wanted","knowing"] [none,some 4,some 3] (.nm 0) (he:=λ_ _ _ _=>(q_if (QW.qt (b7o (by ac_rfl) (b3z (a1Z (a7U hu) (by ac_rfl) (qv 1) (by with_unfolding_all rfl))))) (by ac_rfl) (qv 0))))
  (a0B (a1F (q_op b44 (qv 7) (q_l ["begin","end","worth","key","knowing"] [none,none,none,some 1,some 3] (.tp [0,1,2]))))))))),?_⟩
 obtain⟨p,l,k,ts,L,n,rfl,gp,gl,nt,nl,zt,zl,zs,fin⟩:=h;symm;refine a0E gl ?_;intro D hD;refine a09 (g':=prR) (λr=>some r) (λd=>a0b gl hD) (by omega) ?_ ?_
 ·intro r hr d K1 K2 g k2;refine⟨_,rfl,?_⟩;symm;refine⟨lenK rfl,?_⟩;symm;exact g r rfl
 rw[b59,b34 nl];generalize ee:put G D _=G1;obtain⟨gD,s1⟩:=newK ee hD;symm;refine b00 gD (by rw[aB];omega) λW ks hW hks=>?_;generalize ee:put G1 W _=G2;obtain⟨gW,s2⟩:=newK ee hW;have s2:=s1.trans s2;clear gD s1 hD hW;symm;refine a0E (s2 _ _ gp) ?_;intro E hE;refine a09 (g':=prR) (λt=>if t.u.isNone=true then some t.r else none) (λd=>a0b (s2 _ _ gp) hE) (by omega) ?_ ?_
 ·intro t ht d K1 K2 g k2;refine⟨_,rfl,?_⟩;symm;refine⟨k,t,rfl,?_⟩;refine⟨_,rfl,?_⟩;refine ifB (λc=>?_) λc=>?_
  ·symm;refine⟨k,t,rfl,nt t ht,?_⟩;symm;refine⟨lenK rfl,?_⟩;symm;exact g t.r (if_pos c)
  ·exact k2 (if_neg (by rw[c];simp))
 rw[c1o,b34 (b37 nt)];generalize ee:put G2 E _=G3;obtain⟨gE,s3⟩:=newK ee hE;symm;refine b00 gE (by rw[aB];omega) λV vs hV hvs=>?_;generalize ee:put G3 V _=G4;obtain⟨gV,s4⟩:=newK ee hV;have s4:=s3.trans s4;have gW4:=s4 _ _ gW;have s04:=s2.trans s4;clear gE s3 hE hV s2 s4 gW;symm;refine a0E (s04 _ _ gl) ?_;intro B hB;refine a09 (g':=Rw.z) (λr=>if (!hasR (stR ts) r)=true then some r else none) (λd=>a0b (s04 _ _ gl) hB) (by omega) ?_ ?_
 ·intro r hr d K1 K2 g k2;refine⟨_,rfl,?_⟩;symm;refine b8K (a0b gV hB) (b1i (nl r hr)).symm ?_;rw[b35 (b37 nt) (nl r hr) hvs];refine⟨_,rfl,?_⟩;refine ifB (λc=>?_) λc=>?_
  ·symm;exact g r (if_pos c)
  ·exact k2 (if_neg (by rw[c];simp))
 rw[b1l];generalize ee:put G4 B _=G5;obtain⟨gB,s5⟩:=newK ee hB;have gW5:=s5 _ _ gW4;have s05:=s04.trans s5;symm;refine a0E (s05 _ _ gp) ?_;intro N hN;refine a09 (g':=Ti.z k) (λt=>some (endR L n t)) (λd=>a0b (s05 _ _ gp) hN) (by omega) ?_ ?_
 ·intro t ht d K1 K2 g k2;refine⟨_,rfl,?_⟩;have i:∀t',endR L n t=t'->K1 (t'.z k) (put G5 N (.lst d)):=λt' e=>g t' (by rw[e]);symm;refine⟨k,t,rfl,?_⟩;refine⟨_,rfl,?_⟩;refine ifB (λc=>?_) λc=>?_
  ·symm;refine⟨k,t,rfl,nt t ht,?_⟩;symm;refine b8K (a0b gW5 hN) (b1i (nt t ht)).symm ?_;rw[b35 nl (nt t ht) hks];refine⟨_,rfl,?_⟩;refine ifB (λc2=>?_) λc2=>?_
   ·have i:=i _ (if_pos (by rw[c];exact c2));symm;unfold Ti.z;refine a8y (show ¬ (HT.sIx 6 0 none=0/\HT.sIx 6 6 (some 5)=6) by decide) ?_;rw[cut5];symm;refine⟨lenK rfl,?_⟩;symm;refine a5N (by simp) (lenK rfl) ?_;exact i
   ·have i:=i _ (if_neg (by rw[c,show (!hasR L t.r)=false from c2];simp));symm;exact i
  ·have i:=i _ (if_neg (by rw[c];simp));symm;exact i
 rw[b36];generalize ee:put G5 N _=G6;obtain⟨gN,s6⟩:=newK ee hN;have gB6:=s6 _ _ gB;have s06:=s05.trans s6;symm;refine a0E gB6 ?_;intro M hM;refine a09 (g':=Ti.z k) (λr=>some (newR n r)) (λd=>a0b gB6 hM) (aM (cr _ _) (by omega)) ?_ ?_
 ·intro r hr d K1 K2 g k2;obtain⟨w,hw⟩:=nl r (aV.mp hr).1;obtain⟨rb,re,rw0⟩:=r;simp only at hw;subst hw;refine⟨_,rfl,?_⟩;symm;refine⟨lenK rfl,?_⟩;exact g _ rfl
 rw[b36];refine a5O (a0b gN hM) a0a ?_ λt ht=>?_
 ·rw[aB,aB,aB,aB]
  have:=cr (λr=>!hasR (stR ts) r) L
  exact aM (by omega:_<=91000) (by decide)
 ·have sM:Sm G (put G6 M (.lst (((L.filter λr=>!hasR (stR ts) r).map (newR n)).map (Ti.z k)))):=s06.trans (Sm.new hM);refine fin t _ (sM.free ht) (sM.trans (Sm.new ht)) ?_;rw[a0a];unfold tOn;rw[aP]
def c1p:∀{es:List (Int×List Rw)},(∀e∈es,Nmd e.2)->NmT (TF es):=by
 intro b
 induction b using a62 with
 |h0=>exact λ_ t a=>by simp[TF]at a
 |h1 b e ih=>
  intro h t a;rw[a33]at a;rcases aE.mp a with a |a
  ·obtain⟨f,h0,rfl⟩:=aF.mp a;rw[b52];exact ih (λx d=>h x (by simp[d])) f h0
  ·obtain⟨r,g,rfl⟩:=aF.mp a;exact h e (by simp) r (aV.mp g).1
def b6a(ts:List Ti)(q:Int):ts.filterMap (λt=>if t.at_ q=true then some t.r else none)=a07 ts q:=by
 unfold a07
 induction ts with
 |nil=>rfl
 |cons t ts ih=>
  rw[bJ,bg];cases t.at_ q
  ·exact ih
  ·show t.r::_=_
   rw[ih];rfl
noncomputable def unK:List Key->Rw
 |[.inl (some b),.inl e,.inr s]=>⟨b,e,[.str s]⟩
 |_=>⟨0,none,[]⟩
def b38(h:∃w,r.w=[.str w]):unK (rnK r)=r:=by
 obtain⟨b,e,w⟩:=r;obtain⟨s,h⟩:=h;subst h
 rfl
def b86(h:Nmd l):(l.map rnK).map unK=l:=by
 rw[aU];exact (cm λr a=>b38 (h r a)).trans (dD l)
def b39(h:Nmd l):(l.map rnK).map L3.tupZ=l.map Rw.z:=by
 rw[aU];exact cm λr a=>c1k (h r a)
def b1m{L M:List Rw}{os:List (List Key)}(hc:Can L)(nl:Nmd L)(p:M.Perm L)(ho:os.Perm (M.map rnK))(s:os.Pairwise (λx y=>Tim.ltT y x=false)):os.map L3.tupZ=L.map Rw.z:=by
 have c:=λr a=>nl r (p.mem_iff.mp a);have b:(os.map unK).map rnK=os:=by
  rw[aU];refine (cm λx f=>?_).trans (dD os);obtain⟨r,a,rfl⟩:=aF.mp (ho.mem_iff.mp f)
  show rnK _=rnK r
  rw[b38 (c r a)]
 have d:(os.map unK).Perm L:=by
  have:=ho.map unK
  rw[b86 c]at this;exact this.trans p
 rw[<- b,(b1j hc d (by simp_all)),b39 nl]
structure TsV (T:List Tl) (k:Str) (es:List (Int×List Rw)):Prop where
 ix:es.map (·.1)=ix T k
 ln:∀e∈es,IsLine (T.take e.1.toNat) k e.2
def TsV.le{T:List Tl}{k:Str}{es:List (Int×List Rw)}(h:TsV T k es){e:Int×List Rw}(he:e∈es):1<=e.1/\e.1<=T.length:=b50 (h.ix▸bh he)
def TsV.run(h:TsV T k es):Run es T.length:=b27 (b1h h.ix) (λ_ a=>(h.le a).2) λe a=>(h.ln e a).can
def TsV.nm(h:TsV T k es):NmT (TF es):=c1p λe b r a=>a2w (h.ln e b) a
def TsV.len(h:TsV T k es)(hT:T.length<=200):(TF es).length<=80000:=by
 have d:=b84 (m:=400) λe c=>by
  have:=(h.ln e c).len
  rw[aR]at this
  lia
 have a:es.length<=200:=by
  have b:=congrArg bf h.ix;rw[aB]at b
  have:=b32 T k
  lia
 lia
def TsV.line(h:TsV T k es)(q:Nat):IsLine (T.take q) k (a11 es q):=b54 h.ix h.ln q
def TsV.st(h:TsV T k es):(stR (TF es)).length<=2*T.length:=by
 rw[<- a61 h.run.ok (bE _),(h.run.p _).length_eq]
 have:=(h.line T.length).len
 rw[bu]at this;exact this
def a74{a:Ad}{G:Hq}{p:Addr}{S:Addr->Prop}{T:List Tl}{n:Int}{dx d t0:Addr}{kvs:List (Key×Z)}(sh:ShV a true G p S T n dx d kvs)(ht0:G t0=none)(k:Str) :
  ∃h es,(valZ kvs (.inr k)).getD (.ref t0)=.ref h/\put G t0 (.lst []) h=some (.lst ((TF es).map (Ti.z k)))/\TsV T k es/\(valZ kvs (.inr k)=none->es=[]):=by
 cases hv:valZ kvs (.inr k) with
 |none=>exact⟨t0,[],rfl,a0a,⟨by rw[sh.no k hv];rfl,λe he=>by simp at he⟩,λ_=>rfl⟩
 |some z=>
  obtain⟨h,rfl,es,H⟩:=sh.hs k z hv;exact⟨h,es,rfl,a0b H.at_ ht0,⟨H.ix,H.ln⟩,λe=>by cases e⟩
def a2j(T:Txt K mg a):Mal P w K mg base CX0 3 a.c_Tiled "known_line" (lowP K (a2h a)):=by
 refine fnm 3 (N:=["self","key","knowing"]) (T.m_Tiled 7 _ rfl) ?_ (len:=λws G R h=>(by exact a1L h));walk_at "in";refine⟨_,(a0B (a1F (q_B a3T (T.b 8) (q_k (q_l ["tile","knowing"] [none,some 2] (.nm 0) (hi:=(a1G (q_bm PySem.F.plainAttrs_dict PySem.F.slot_dict_get PySem.F.type_dict_get (a7P hu) (a3f T.cl_Tiled (T.n_Tiled 1 _ rfl) (qv 0)) (by ac_rfl))))) a0z)))),?_⟩;obtain⟨p,S,T,k,q,n,Y,d,kvs,rfl,u,h0,h1,U,M⟩:=h;obtain⟨q,rfl⟩:=cM h0;symm;refine⟨p,Y,_,_,rfl,u.ob,a2W,?_⟩;refine b8E u.dc ?_;symm;refine⟨lenK rfl,λH f=>?_⟩;symm;refine b0G (u.dc.imp (λe=>a0b e f) λe=>a0b e f) rfl ?_;have I:Sm G (put G H (.lst [])):=Sm.new f;obtain⟨h,j,C,A,v,_⟩:=a74 u f k;rw[C];generalize put G H (.lst [])=G1 at I A ⊢;symm;refine a0E A ?_;intro D J;refine a09 (g':=Rw.z) (λt=>if t.at_ (q:Int)=true then some t.r else none) (λys=>a0b A J) (by have:=v.len U;omega) ?_ ?_
 ·intro t o ys K1 K2 X k2;refine⟨_,rfl,?_⟩;symm;refine⟨k,t,_,rfl,?_⟩;refine⟨_,rfl,?_⟩;refine ifB (λc=>?_) λc=>?_
  ·symm;exact⟨k,t,rfl,v.nm t o,X t.r (if_pos c)⟩
  ·exact k2 (if_neg (by rw[c];simp))
 rw[b6a];have l:=v.line q;have L:Nmd (a11 j q):=λr hr=>a2w l hr;have i:=v.run.p q;have Q:Nmd (a07 (TF j) q):=λr hr=>L r (i.mem_iff.mp hr);have E:Sm G (put G1 D (.lst ((a07 (TF j) q).map Rw.z))):=I.trans (Sm.new J);refine b0U (m:=3) (by rw[b39 Q];exact a0a) ?_ ?_ ?_ ?_ λt os o hp B=>?_
 ·rw[aB,i.length_eq]
  have:=l.len
  rw[aR]at this;omega
 ·intro x g;obtain⟨r,hr,rfl⟩:=aF.mp g;exact⟨r.b,_,rfl⟩
 ·intro x g;obtain⟨r,hr,rfl⟩:=aF.mp g
  rfl
 ·intro x g y V;obtain⟨r,hr,rfl⟩:=aF.mp g;obtain⟨s,B,rfl⟩:=aF.mp V;exact b85 l.can r (i.mem_iff.mp hr) s (i.mem_iff.mp B)
 ·rw[b1m l.can L i hp B];refine M t (a11 j q) _ (E.free o) (E.trans (Sm.new o)) a0a ?_;rw[show ((q:Int)).toNat=q by omega];exact l
def a0W:valZ (putZ kvs k v) j=if j=k then some v else valZ kvs j:=by
 unfold putZ
 split
 ·next hc=>
  have m:∀kvs:List (Key×Z),valZ (kvs.map λkv=>if kv.1=k then (kv.1,v) else kv) j=(valZ kvs j).map λx=>if j=k then v else x:=by
   intro kvs
   induction kvs with
   |nil=>rfl
   |cons p r ih=>
    unfold valZ at ih ⊢;rw[aO,bQ,bQ];have h:(if p.1=k then (p.1,v) else p).1=p.1:=by split<;>rfl
    rw[h];cases c:decide (p.1=j) with
    |false=>exact ih
    |true=>
     have d:=of_decide_eq_true c;simp
     by_cases ck:p.1=k
     ·simp_all
     ·simp_all
  rw[m]
  by_cases c:j=k
  ·subst c;obtain⟨p,f,g⟩:=cn.mp hc
   have:(kvs.find? λkv=>decide (kv.1=j)).isSome=true:=fv.mpr ⟨p,f,g⟩
   unfold valZ;cases e:kvs.find? λkv=>decide (kv.1=j) with
   |none=>rw[e]at this;cases this
   |some q=>simp
  ·simp_all
 ·next hc=>
  unfold valZ;rw[fc]
  by_cases c:j=k
  ·subst c
   have:kvs.find? (λkv=>decide (kv.1=j))=none:=by
    rw[dG];intro p i l;exact hc (cn.mpr ⟨p,i,l⟩)
   rw[this];simp
  ·rw[if_neg c]
   have:[(k,v)].find? (λkv=>decide (kv.1=j))=none:=by simp;exact λz=>c z.symm
   rw[this,Option.or_none]
def a75{kvs:List (Key×Z)}{k:Key}{v:Z}:(putZ kvs k v).length<=kvs.length+1:=by
 unfold putZ
 split<;>simp
def Hist.ne_row{L:List Rw}(H:Hist G S T k h es)(e:G x=some (.lst (L.map Rw.z))):x≠h:=λz=>by
 subst z
 have:=e.symm.trans H.at_
 have b:L.map Rw.z=es.map enZ:=by simp_all
 cases es with
 |nil=>exact H.ne rfl
 |cons a es=>
  cases L with
  |nil=>simp at b
  |cons r L=>
   have c:=(cb.inj b).1;simp only[Rw.z,Z.tup.injEq,cb.injEq]at c;obtain⟨i,d,g⟩:=r;have f:=c.2.1;cases d<;>cases f
def a6n(h:valZ kvs k=none):∀q∈kvs,q.1≠k:=λq b e=>by
 unfold valZ at h
 have:(kvs.find? λa=>decide (a.1=k)).isSome=true:=fv.mpr ⟨q,b,decide_eq_true e⟩
 cases e2:kvs.find? λa=>decide (a.1=k) with
 |none=>rw[e2]at this;cases this
 |some x=>rw[e2]at h;cases h
def a66(h:valZ kvs k=none):putZ kvs k v=kvs++[(k,v)]:=by
 unfold putZ;rw[if_neg λz=>?_];obtain⟨q,a,b⟩:=cn.mp z;exact a6n h q a (of_decide_eq_true b)
def b4a(h:valZ kvs k=none)(nd:(kvs.map (·.1)).Nodup):((putZ kvs k v).map (·.1)).Nodup:=by
 rw[a66 h,aP,cg];refine⟨nd,by simp,λx a y c=>?_⟩;obtain⟨q,b,rfl⟩:=aF.mp a
 have:y=k:=by simpa using c
 rw[this];exact a6n h q b
def b4b(sk:∀q∈kvs,∃s,q.1=Sum.inr s):∀q∈putZ kvs (.inr k) v,∃s,q.1=Sum.inr s:=λq a=>by
 unfold putZ at a
 split at a
 ·obtain⟨d,c,e⟩:=aF.mp a;obtain⟨s,b⟩:=sk d c;refine⟨s,?_⟩;rw[<- e]
  split
  ·omega
  ·omega
 ·rcases aE.mp a with a |a
  ·exact sk q a
  ·exact⟨k,by rw[aJ.mp a]⟩
def a04(a:Ad)(b:Bool):P3:=λws G R=>Ex9 λ(p:Addr) (S:Addr->Prop) (T:List Tl) (τ:Tl) (l:Addr) (L:List Rw) (dx d:Addr) (kvs:List (Key×Z))=>ws=[.ref p,.str τ.key,.ref l]/\ShM a b G p S T ((T.length:Int)+1) dx d kvs/\G l=some (.lst (L.map Rw.z))/\¬ S l/\IsLine (T++[τ]) τ.key L/\T.length<=200 /\
 ∀(S':Addr->Prop) G',(∀b,S b->S' b)->(∀b,S' b->S b\/b=l\/G b=none)->KN S G G'->Sheet a b G' p S' (T++[τ])->R .non G'
def a4r{a:Ad}{b:Bool}{ws:List Z}{G:Hq}{R:K3}(h:a04 a b ws G R):ws.length=3:=by obtain⟨_,_,_,_,_,_,_,_,_,rfl,_⟩:=h;rfl
abbrev a2C(a:Ad):P3:=a04 a false
abbrev a2D(a:Ad):P3:=a04 a true
def a2E(h:s∈ix T k):(T++[τ]).take s.toNat=T.take s.toNat:=by
 have:=b50 h
 rw[dC (by lia)]
def a5r:(T++[τ]).take ((T.length:Int)+1).toNat=T++[τ]:=by
 rw[b7];rw[aG,cF]
 lia
set_option tactic.hygienic true in
def a2F(T:Txt K mg a):Mal P w K mg base CX0 3 a.c_Sheet "keep_line" (lowP K (a2C a)):=by
 refine fnm 3 (N:=["self","key","line"]) (T.m_Sheet 8 _ rfl) ?_;walk_at "in";refine⟨_,(a0B (a26 (q_bm PySem.F.plainAttrs_list PySem.F.slot_list_append PySem.F.type_list_append a7y (q_bm PySem.F.plainAttrs_dict PySem.F.slot_dict_setdefault PySem.F.type_dict_setdefault a28 (a3f T.cl_Sheet (T.n_Sheet 1 _ rfl) (qv 0)) (by ac_rfl)) (q_k (a8t (q_k (a3f T.cl_Sheet (T.n_Sheet 0 _ rfl) (qv 0)) (q_k (qv 2) a0z))) a0z)))),?_⟩;obtain⟨p,S,T,τ,l,L,M,d,x,rfl,g,D,nl,il,hT,q⟩:=h;symm;refine⟨p,M,_,_,rfl,g.ob,a2W,?_⟩;refine b0H g.dc ?_;symm;refine⟨lenK rfl,λn m=>?_⟩;symm;have Y:p≠d:=λz=>by have e:=g.ob;rw[z,g.dc]at e;cases e
 have Q:((T++[τ]).length:Int)=(T.length:Int)+1:=by simp
 refine b3U (a0b g.dc m) rfl (a0h (by have:=g.len;omega)) (λz E=>?_) λE=>?_
 ·obtain⟨h,rfl,es,H⟩:=g.hs _ z E;have hpe:p≠h:=λz=>by have e:=g.ob;rw[z,H.at_]at e;cases e
  have hde:d≠h:=λz=>by have e:=g.dc;rw[z,H.at_]at e;cases e
  have hle:l≠h:=λz=>nl (z▸H.s);refine a1H (a0b H.at_ m) ?_;symm;refine⟨p,M,_,_,rfl,a0b g.ob m,a1K,?_⟩;symm;refine⟨lenK rfl,?_⟩;symm;have hel:es.length<=T.length:=by
   have e1:=congrArg bf H.ix;rw[aB]at e1;rw[e1];exact b32 T τ.key
  refine a0F (a0b H.at_ m) (by rw[aB];exact a0h (by omega)) ?_;have i:∀b o,b≠h->G b=some o->put (put G n (.lst [])) h (.lst (es.map enZ++[.tup [.int ((T.length:Int)+1),.ref l]])) b=some o:=λb o C e=>by rw[a0e C];exact a0b e m
  refine q (λb=>S b\/b=l) _ (λb j=>.inl j) (λb j=>j.elim .inl λz=>.inr (.inl z)) (λb o C e=>i b o (λz=>C (z▸H.s)) e) ⟨M,d,x,?_⟩;refine⟨by rw[Q];exact i _ _ hpe g.ob,.inl g.sp,.inl g.sd,i _ _ hde g.dc,by have:=g.len;simp;omega,λk A=>?_,λk z e=>?_,g.inj,(λb j=>?_),g.nd,g.sk⟩
  ·rw[a1w,g.no k A,if_neg]
   ·rfl
   ·rintro rfl;rw[E]at A;cases A
  ·by_cases X:k=τ.key
   ·subst X;rw[E]at e;cases e;refine⟨h,rfl,es++[((T.length:Int)+1,l)],.inl H.s,by rw[a0a,aP];rfl,by rw[aP,H.ix,a1w,if_pos rfl];rfl,by simp,λe t=>?_⟩;rcases aE.mp t with t |t
    ·obtain⟨U,L1,v,J⟩:=H.ln e t;refine⟨.inl U,L1,i _ _ (H.ne_row v) v,?_⟩;rw[a2E (k:=τ.key) (by rw[<- H.ix];exact bh (f:=(·.1)) t)];exact J
    ·rw[aJ.mp t];refine⟨.inr rfl,L,i _ _ hle D,?_⟩;rw[a5r];exact il
   ·obtain⟨u,B,y,H'⟩:=g.hs k z e;have hh:u≠h:=λw=>X (g.inj k τ.key z e (by rw[E,B,w]));refine⟨u,B,y,.inl H'.s,i _ _ hh H'.at_,by rw[H'.ix,a1w,if_neg (Ne.symm X),bj],H'.ne,λe t=>?_⟩;obtain⟨U,L1,v,J⟩:=H'.ln e t;refine⟨.inl U,L1,i _ _ (H.ne_row v) v,?_⟩;rw[a2E (k:=k) (by rw[<- H'.ix];exact bh (f:=(·.1)) t)];exact J
  ·by_cases c:b=h
   ·rw[c];exact⟨_,a0a⟩
   ·rcases j with j |j
    ·obtain⟨o,e⟩:=g.al b j;exact⟨o,i b o c e⟩
    ·rw[j]at c ⊢;exact⟨_,i l _ c D⟩
 ·have V:d≠n:=a0d g.dc m;have hpt:p≠n:=a0d g.ob m;have hlt:l≠n:=a0d D m;have aa:put (put G n (.lst [])) d (.dK (putZ x (.inr τ.key) (.ref n))) n=some (.lst []):=by rw[a0e (Ne.symm V)];exact a0a
  refine a1H aa ?_;symm;refine⟨p,M,_,_,rfl,by rw[a0e Y];exact a0b g.ob m,a1K,?_⟩;symm;refine⟨lenK rfl,?_⟩;symm;refine a0F aa (a0h (by decide)) ?_;have i:∀b o,b≠d->G b=some o->put (put (put G n (.lst [])) d (.dK (putZ x (.inr τ.key) (.ref n)))) n (.lst ([]++[.tup [.int ((T.length:Int)+1),.ref l]])) b=some o:=λb o C e=>by
   rw[a0e (a0d e m),a0e C];exact a0b e m
  have nS:∀u,S u->∀o,G u=some o->u≠n:=λu _ o e=>a0d e m;refine q (λb=>S b\/b=l\/b=n) _ (λb j=>.inl j) (λb j=>j.elim .inl λz=>z.elim (λz=>.inr (.inl z)) λz=>.inr (.inr (by rw[z];exact m))) (λb o C e=>i b o (λz=>C (z▸g.sd)) e) ⟨M,d,putZ x (.inr τ.key) (.ref n),?_⟩;refine⟨by rw[Q];exact i _ _ Y g.ob,.inl g.sp,.inl g.sd,by rw[a0e V];exact a0a,by have h1:=g.len;have h2:=@a75 x (.inr τ.key) (.ref n);simp;omega,λk A=>?_,λk z e=>?_,λk k' z e I=>?_,(λb j=>?_),b4a E g.nd,b4b g.sk⟩
  ·rw[a0W]at A
   split at A
   ·cases A
   ·next c=>
    rw[a1w,g.no k A,if_neg λz=>c (by rw[z])]
    rfl
  ·rw[a0W]at e
   split at e
   ·next c=>
    cases e;have X:k=τ.key:=by simpa using c
    subst X;refine⟨n,rfl,[((T.length:Int)+1,l)],.inr (.inr rfl),by rw[a0a];rfl,by rw[a1w,g.no _ E,if_pos rfl];rfl,by simp,λe t=>?_⟩;rw[aJ.mp t];refine⟨.inr (.inl rfl),L,i _ _ (λz=>by have z':l=d:=z;rw[z',g.dc]at D;cases D) D,?_⟩;rw[a5r];exact il
   ·next c=>
    obtain⟨u,B,y,H'⟩:=g.hs k z e;have hd':u≠d:=λw=>by have e:=H'.at_;rw[w,g.dc]at e;cases e
    refine⟨u,B,y,.inl H'.s,i _ _ hd' H'.at_,by rw[H'.ix,a1w,if_neg λz=>c (by rw[z]),bj],H'.ne,λe t=>?_⟩;obtain⟨U,L1,v,J⟩:=H'.ln e t;refine⟨.inl U,L1,i _ _ (λw=>by rw[w,g.dc]at v;cases v) v,?_⟩;rw[a2E (k:=k) (by rw[<- H'.ix];exact bh (f:=(·.1)) t)];exact J
  ·rw[a0W]at e I
   split at e
   ·next c=>
    split at I
    ·next c'=>simpa using c.trans c'.symm
    ·cases e;obtain⟨u,B,y,H'⟩:=g.hs k' _ I;cases B;exact absurd rfl (nS _ H'.s _ H'.at_)
   ·split at I
    ·cases I;obtain⟨u,B,y,H'⟩:=g.hs k _ e;cases B;exact absurd rfl (nS _ H'.s _ H'.at_)
    ·exact g.inj k k' z e I
  ·by_cases c:b=n
   ·rw[c];exact⟨_,a0a⟩
   ·by_cases c2:b=d
    ·rw[c2];exact⟨_,by rw[a0e V];exact a0a⟩
    ·rcases j with j |j |j
     ·obtain⟨o,e⟩:=g.al b j;exact⟨o,i b o c2 e⟩
     ·rw[j]at c2 ⊢;exact⟨_,i l _ c2 D⟩
     ·exact absurd j c
def b29(h:valZ kvs k≠none):(putZ kvs k v).map (·.1)=kvs.map (·.1):=by
 unfold putZ;rw[if_pos]
 ·rw[aU];refine cm λx _=>?_
  show (if x.1=k then _ else x).1=x.1
  split<;>rfl
 ·rw[cn];unfold valZ at h;cases e:kvs.find? λa=>decide (a.1=k) with
  |none=>rw[e]at h;exact absurd rfl h
  |some x=>
   have:=ei e
   exact⟨x,cN e,this⟩
def b6b(nd:(kvs.map (·.1)).Nodup):((putZ kvs k v).map (·.1)).Nodup:=by
 by_cases h:valZ kvs k=none
 ·exact b4a h nd
 ·rw[b29 h];exact nd
def a2G(T:Txt K mg a):Mal P w K mg base CX0 3 a.c_Tiled "keep_line" (lowP K (a2D a)):=by
 refine fnm 3 (N:=["self","key","line"]) (T.m_Tiled 8 _ rfl) ?_ (len:=λws G R h=>(by exact a4r h));walk_at "in";refine⟨_,(a0B (b3C (q_c (a2B T) hr (q_k (q_bm PySem.F.plainAttrs_dict PySem.F.slot_dict_get PySem.F.type_dict_get (a7P hu) (a3f T.cl_Tiled (T.n_Tiled 1 _ rfl) (qv 0)) (by ac_rfl)) (q_k (qv 1) (q_k (qv 2) (q_k (a3f T.cl_Tiled (T.n_Tiled 0 _ rfl) (qv 0)) a0z)))) ) (a3f T.cl_Tiled (T.n_Tiled 1 _ rfl) (qv 0)) (qv 1) (b8r hu))),?_⟩;obtain⟨p,S,T,τ,l,L,I,d,A,rfl,g,gl,nl,X,hT,q⟩:=h;symm;refine⟨p,I,_,_,rfl,g.ob,a2W,?_⟩;refine b0H g.dc ?_;symm;refine⟨lenK rfl,λt0 C=>?_⟩;symm;refine b0F (a0b g.dc C) rfl ?_;have D:Sm G (put G t0 (.lst [])):=Sm.new C;obtain⟨h,es,Q,gh,y,hno⟩:=a74 g.v C τ.key;rw[Q];generalize put G t0 (.lst [])=G1 at D gh ⊢;symm;refine⟨p,I,_,_,rfl,D _ _ g.ob,a1K,?_⟩;symm;have lL:L.length<=900:=by have:=X.len;rw[aG,cF]at this;omega
 refine⟨h,l,τ.key,TF es,L,_,rfl,gh,D _ _ gl,y.nm,λr hr=>a2w X hr,by have:=y.len hT;omega,lL,by have:=y.st;omega,λt G2 ht s2 H=>?_⟩;have x:=D.trans s2;have M:G t=none:=D.free ht;have npd:p≠d:=λz=>by have e:=g.ob;rw[z,g.dc]at e;cases e
 have J:t≠d:=λz=>by rw[z,x _ _ g.dc]at H;cases H
 have V:((T++[τ]).length:Int)=(T.length:Int)+1:=by simp
 symm;refine⟨p,I,_,_,rfl,x _ _ g.ob,a2W,?_⟩;symm;refine b8s (x _ _ g.dc) rfl (a0h (by have:=g.len;omega)) ?_;have j:∀b o,b≠d->G b=some o->put G2 d (.dK (putZ A (.inr τ.key) (.ref t))) b=some o:=λb o U e=>by rw[a0e U];exact x _ _ e
 have nS:∀z m,z=Z.ref m->S m->z≠.ref t:=λz m e hs n=>by
  rw[e]at n;cases n;obtain⟨o,Y⟩:=g.al _ hs;rw[M]at Y;cases Y
 refine q (λb=>S b\/b=t) _ (λb i=>.inl i) (λb i=>i.elim .inl λz=>.inr (.inr (by rw[z];exact M))) (λb o U e=>j b o (λz=>U (z▸g.sd)) e) ⟨I,d,putZ A (.inr τ.key) (.ref t),?_⟩;refine⟨by rw[V];exact j _ _ npd g.ob,.inl g.sp,.inl g.sd,a0a,by have h1:=g.len;have h2:=@a75 A (.inr τ.key) (.ref t);simp;omega,λk E=>?_,λk z e=>?_,λk k' z e n=>?_,(λb i=>?_),b6b g.nd,b4b g.sk⟩
 ·rw[a0W]at E
  split at E
  ·cases E
  ·next c=>
   rw[a1w,g.no k E,if_neg λz=>c (by rw[z])]
   rfl
 ·rw[a0W]at e
  split at e
  ·next c=>
   cases e;have ck:k=τ.key:=by simpa using c
   subst ck;refine⟨t,rfl,es++[((T.length:Int)+1,L)],.inr rfl,by rw[a0e J,H,a33],by rw[aP,y.ix,a1w,if_pos rfl];rfl,by simp,λe u=>?_⟩;rcases aE.mp u with u |u
   ·have:=y.ln e u
    rw[a2E (k:=τ.key) (by rw[<- y.ix];exact bh (f:=(·.1)) u)];exact this
   ·rw[aJ.mp u]
    show IsLine ((T++[τ]).take ((T.length:Int)+1).toNat) τ.key L
    rw[a5r];exact X
  ·next c=>
   obtain⟨m,B,aa,H'⟩:=g.hs k z e;refine⟨m,B,aa,.inl H'.s,j _ _ (λw=>by have e:=H'.at_;rw[w,g.dc]at e;cases e) H'.at_,by rw[H'.ix,a1w,if_neg λz=>c (by rw[z]),bj],H'.ne,λe u=>?_⟩
   have:=H'.ln e u
   rw[a2E (k:=k) (by rw[<- H'.ix];exact bh (f:=(·.1)) u)];exact this
 ·rw[a0W]at e n
  split at e
  ·next c=>
   split at n
   ·next c'=>simpa using c.trans c'.symm
   ·cases e;obtain⟨m,B,H'⟩:=g.hs k' _ n;exact absurd rfl (nS _ m B H'.at_.1)
  ·split at n
   ·cases n;obtain⟨m,B,H'⟩:=g.hs k _ e;exact absurd rfl (nS _ m B H'.at_.1)
   ·exact g.inj k k' z e n
 ·by_cases c2:b=d
  ·rw[c2];exact⟨_,a0a⟩
  ·rcases i with i |i
   ·obtain⟨o,e⟩:=g.al b i;exact⟨o,j b o c2 e⟩
   ·rw[i];exact⟨_,by rw[a0e J];exact H⟩
def a0N{P:fK}{w:World}{K:Fg}{mg:Str->Option Value}{base:Heap}{a:Ad}(T:Txt K mg a)(b:Bool):Mal P w K mg base CX0 3 (a.cK b) "known_line" (lowP K (a0V a b)):=by
 cases b
 ·exact a2i T
 ·exact a2j T
def a4s{P:fK}{w:World}{K:Fg}{mg:Str->Option Value}{base:Heap}{a:Ad}(T:Txt K mg a)(b:Bool):Mal P w K mg base CX0 3 (a.cK b) "keep_line" (lowP K (a04 a b)):=by
 cases b
 ·exact a2F T
 ·exact a2G T
def a5s(a:Ad):P3:=λws G R=>∃b:Bool,∃(p:Addr)(S:Addr->Prop)(T:List Tl),Sheet a b G p S T/\((∃τ:Tl,ws=[.ref p,τ.z]/\τ.Ok/\T.length<=150 /\
 ∀(S':Addr->Prop) G',(∀b,S b->S' b)->(∀b,S' b->S b\/G b=none)->KN S G G'->Sheet a b G' p S' (T++[τ])->R (.int ((T.length:Int)+1)) G')\/False)
def b87{τ:Tl}:∃ws,τ.z=.tup ws/\atI ws 1=some (.str τ.key):=by
 obtain⟨k,w,b,e⟩:=τ;cases w<;>exact⟨_,rfl,at1⟩
def b88:Th G (oz e):=by cases e<;>exact True.intro
def Tl.Ok.tel{τ:Tl}(ok:τ.Ok):∃(h:Z)(nm:List Z),Tel G τ.z h nm (.int τ.b) (oz τ.e)/\nm.all a2U=true/\strB (.int τ.b) (oz τ.e)=true:=by
 obtain⟨k,w,b,e⟩:=τ;have d:=ok.k;have a:=ok.w;have f:=st_b ok.st;cases w with
 |none=>exact⟨_,[.str k],⟨rfl,.inl ⟨_,rfl⟩,λz c=>by rw[aJ.mp c];exact b1f d,True.intro,b88⟩,by rw[bY,nm_b d];rfl,f⟩
 |some w=>
  have a:=a w rfl;refine⟨_,[.str k,.str w],⟨rfl,.inr ⟨_,_,rfl⟩,λz c=>?_,True.intro,b88⟩,by rw[bY,nm_b d,bY,nm_b a];rfl,f⟩;simp at c;rcases c with rfl |rfl
  ·exact b1f d
  ·exact b1f a
set_option tactic.hygienic true in
def a5t(T:Txt K mg a)(β:Bool):Mal P w K mg base CX0 5 (a.cK β) "tell" (lowP K (a5s a)):=by
 refine fnm 2 (N:=["self","telling","key","line"]) (mxK T β 5) ?_;walk_at "in";obtain⟨b,h⟩:=h;refine⟨_,(a0c (by ac_rfl)
  (a0c (by ac_rfl)
  (a0c (z_st (nmI 3 nd) (q_c (a1y T) hr (q_k (q_m (qv 0) (clK T b) (a0N T b) hr (q_k (qv 2) (q_k (a3f (clK T b) (naK T b 0) (qv 0)) a0z)) ) (q_k (qv 1) a0z)) ))
  (a0c (b2C (clK T b) (naK T b 0) (qv 0) b4M b3E)
  (a0c (a26 (q_m (qv 0) (clK T b) (a4s T b) hr (q_k (qv 2) (q_k (qv 3) a0z)) ))
  (a0B (a1F (a3f (clK T b) (naK T b 0) (qv 0))))))))),?_⟩
 obtain⟨p,S,T,⟨g,d,l,s⟩,⟨τ,rfl,U,hT,q⟩ |⟨⟨⟩⟩⟩:=h
 symm;obtain⟨th,tn,tel,ta,ts⟩:=U.tel (G:=G);refine⟨_,_,_,_,_,rfl,tel,λG1 I=>?_⟩;rw[ta,ts];refine ifT (ifT ?_);have j:=s.keep (Sm.ks I);obtain⟨ws,y,ek⟩:=@b87 τ;symm;rw[y];refine a18 ek ?_;rw[<- y];symm;refine⟨p,g,_,rfl,j.ob,a2e (by decide +kernel) (by decide +kernel),?_⟩;symm;refine⟨p,g,_,_,rfl,j.ob,a1K,?_⟩;symm;refine⟨p,S,T,τ.key,_,_,g,d,l,rfl,j.v,by omega,by omega,by omega,λt L G2 ht X gt m=>?_⟩;rw[show ((T.length:Int)).toNat=T.length by omega,bu]at m;have sh2:=j.keep (Sm.ks X);symm;have hll:=m.len;refine⟨t,L,τ,rfl,gt,m.can.rise,m.pl,by omega,U,λu i hu Y gu=>?_⟩;have f:=sh2.keep (Sm.ks Y);have C:=(I.trans X).trans Y;have B:G u=none:=(I.trans X).free hu;have nu:¬ S u:=λz=>by obtain⟨o,e⟩:=s.al u z;rw[B]at e;cases e
 symm;refine⟨p,g,_,_,rfl,f.ob,a1K,?_⟩;symm;refine⟨g,_,f.ob,by show 2<1000;decide,?_⟩;rw[b57];have hup:u≠p:=λz=>nu (z▸s.sp);have n:ShM a b (put i p (.ins (a.cK b) g (shF ((T.length:Int)+1) d))) p S T ((T.length:Int)+1) g d l:=by
  have V:∀x o,x≠p->i x=some o->put i p (.ins (a.cK b) g (shF ((T.length:Int)+1) d)) x=some o:=λx o J e=>by rw[a0e J];exact e
  refine⟨a0a,f.sp,f.sd,V _ _ (λz=>by have e:=f.dc;rw[z,f.ob]at e;cases e) f.dc,f.len,f.no,λk z e=>?_,f.inj,(λb R=>?_),f.nd,f.sk⟩
  ·obtain⟨h,y,H⟩:=f.hs k z e;exact⟨h,y,H.keepL λx ws _ M=>V _ _ (λz=>by rw[z,f.ob]at M;cases M) M⟩
  ·by_cases c:b=p
   ·rw[c];exact⟨_,a0a⟩
   ·obtain⟨o,e⟩:=f.al b R;exact⟨o,V b o c e⟩
 have F:put i p (.ins (a.cK b) g (shF ((T.length:Int)+1) d)) u=some (.lst ((a6f L τ.b τ.e (optW τ.v)).map Rw.z)):=by rw[a0e hup];exact gu
 have E:KN S G (put i p (.ins (a.cK b) g (shF ((T.length:Int)+1) d))):=λb o J e=>by rw[a0e (show b≠p from λz=>J (by rw[z];exact s.sp))];exact C _ _ e
 have D:∀x,put i p (.ins (a.cK b) g (shF ((T.length:Int)+1) d)) x=none->G x=none:=λx e=>by
  by_cases c:x=p
  ·rw[c,a0a]at e;cases e
  ·rw[a0e c]at e;exact C.free e
 symm;refine⟨p,g,_,rfl,n.ob,a2e (by decide +kernel) (by decide +kernel),?_⟩;symm;refine⟨p,S,T,τ,u,_,g,d,l,rfl,n,F,nu,m.snoc U,by omega,λS' G5 i1 i2 aa A=>?_⟩;have Q:=A;obtain⟨dx5,d5,kvs5,m5⟩:=Q;symm;refine⟨p,dx5,_,_,rfl,m5.ob,a1K,?_⟩;have e:(((T++[τ]).length:Nat):Int)=(T.length:Int)+1:=by simp
 rw[e];refine q S' G5 i1 (λb R=>?_) (E.trans aa) A;rcases i2 b R with h |h |h
 ·exact .inl h
 ·rw[h];exact .inr B
 ·exact .inr (D b h)
local macro_rules | `(tactic| walk_at "go1")=>`(tactic| with_reducible (first | refine i_intB ?_ | refine i_iD ?_))
def ShV.frz{a:Ad}{b:Bool}{G:Hq}{p:Addr}{S:Addr->Prop}{T:List Tl}{n:Int}{dx d:Addr}{kvs:List (Key×Z)}(H:ShV a b G p S T n dx d kvs):ShV a b (put G d (.dF kvs)) p S T n dx d kvs:=by
 have k:∀b o,b≠d->G b=some o->put G d (.dF kvs) b=some o:=λb o r e=>by rw[a0e r];exact e
 have j:∀b f,G b=some (.lst f)->b≠d:=λb f e z=>by
  rw[z]at e;rcases H.dc with c |c<;>(rw[c]at e;cases e)
 refine⟨k _ _ (λz=>?_) H.ob,H.sp,H.sd,.inr a0a,H.len,H.no,λl z e=>?_,λb i=>?_,H.nd,H.sk⟩
 ·have e:=H.ob;rw[z]at e;rcases H.dc with c |c<;>(rw[c]at e;cases e)
 ·obtain⟨h,q,m⟩:=H.hs l z e;exact⟨h,q,m.keepL λx f _ g=>k _ _ (j _ _ g) g⟩
 ·by_cases c:b=d
  ·rw[c];exact⟨_,a0a⟩
  ·obtain⟨o,e⟩:=H.al b i;exact⟨o,k b o c e⟩
def a2Y(a:Ad):P3:=λws G R=>∃b:Bool,∃(p:Addr)(S:Addr->Prop)(T:List Tl),ws=[.ref p]/\Sheet a b G p S T/\R (.int T.length) G
set_option tactic.hygienic true in
def a2Z(T:Txt K mg a)(β:Bool):Mal P w K mg base CX0 1 (a.cK β) "knowings" (lowP K (a2Y a)):=by
 refine fnm 1 (N:=["self"]) (mxK T β 6) ?_;walk_at "in";obtain⟨b,h⟩:=h;refine⟨_,(a0B (a1F (a3f (clK T b) (naK T b 0) (qv 0)))),?_⟩;obtain⟨p,S,T',rfl,⟨e,d,k,g⟩,q⟩:=h;symm;exact⟨p,e,_,_,rfl,g.ob,a1K,q⟩
def inR(T:List Tl)(q:Int):Prop:=0<=q/\q<=T.length
def a3l(a:Ad):P3:=λws G R=>∃b:Bool,Ex5 λ(p:Addr) (S:Addr->Prop) (T:List Tl) (x:Z) (q:Int)=>ws=[.ref p,x,.int q]/\Sheet a b G p S T/\(∀G'',Th G'' x)/\T.length<=200 /\
 ((inR T q/\∃k,x=.str k/\nmOk k/\∀t L G',G t=none->Sm G G'->G' t=some (.lst (L.map Rw.z))->IsLine (T.take q.toNat) k L->R (.ref t) G')\/False)
set_option tactic.hygienic true in
def a3m(T:Txt K mg a)(β:Bool):Mal P w K mg base CX0 4 (a.cK β) "line_at" (lowP K (a3l a)):=by
 refine fnm 3 (N:=["self","key","knowing"]) (mxK T β 1) ?_;walk_at "in";obtain⟨b,h⟩:=h;refine⟨_,(a0c (a26 (q_m (qv 0) (clK T b) (a0C T b) hr (q_k (qv 2) a0z) ))
  (a0c (by ac_rfl)
  (a0B (a1F (q_m (qv 0) (clK T b) (a0N T b) hr (q_k (qv 1) (q_k (qv 2) a0z)) ))))),?_⟩
 obtain⟨p,S,T',x,q,rfl,m,u,s,h⟩:=h;have l:=m;obtain⟨f,d,i,j⟩:=l;symm;refine⟨p,f,_,rfl,j.ob,a2e (by decide +kernel) (by decide +kernel),?_⟩;symm;refine⟨b,p,S,T',q,rfl,m.v,?_⟩;obtain⟨e,k,rfl,y,n⟩ |⟨⟨⟩⟩:=h
 have o:0<=q/\q<=T'.length:=e;rw[if_pos o];symm;refine⟨_,rfl,u _,λE g=>?_⟩;rw[nm_b y];refine ifT ?_;have c:=j.keep (Sm.ks g);symm;refine⟨p,f,_,rfl,c.ob,a2e (by decide +kernel) (by decide +kernel),?_⟩;symm;exact⟨p,S,T',k,q,_,f,d,i,rfl,c.v,e.1,e.2,s,λt L z B C A D=>n t L z (g.free B) (g.trans C) A D⟩
def a20(a:Ad):P3:=λws G R=>∃x,ws=[x]/\Th G x/\∀G',Sm G G'->if momB x=true then R .non G' else False
set_option tactic.hygienic true in
def a21(T:Txt K mg a):Cal P w K mg base CX0 2 "check_moment" (lowP K (a20 a)):=by
 refine fnc 1 (N:=["thing"]) T.br (T.f 24 _ rfl) ?_;walk_at "in";refine⟨_,(a0B (z_if (by ac_rfl)
  (a0B a43)
  a3c)),?_⟩
 obtain⟨x,rfl,g,q⟩:=h;symm;refine⟨_,rfl,g,λd e=>?_⟩;have b:=q d e;symm;refine ifNB (λc=>?_) λc=>?_
 ·rw[c]at b
  first |exact aH b | (symm;exact b)
 ·rw[c]at b
  first |exact aH b | (symm;exact b)
def a22(a:Ad):P3:=λws G R=>∃b:Bool,Ex6 λ(p:Addr) (S:Addr->Prop) (T:List Tl) (x y:Z) (q:Int)=>ws=[.ref p,x,y,.int q]/\Sheet a b G p S T/\(∀G'',Th G'' x)/\(∀G'',Th G'' y)/\T.length<=200 /\
 ((inR T q/\∃k m,x=.str k/\nmOk k/\y=.int m/\momB (.int m)=true/\∀G',Sm G G'->R (a0f (a0i (T.take q.toNat) k) m) G')\/False)
set_option tactic.hygienic true in
def a23(T:Txt K mg a)(β:Bool):Mal P w K mg base CX0 4 (a.cK β) "worth_at" (lowP K (a22 a)):=by
 refine fnm 4 (N:=["self","key","moment","knowing"]) (mxK T β 3) ?_;walk_at "in";obtain⟨b,h⟩:=h;refine⟨_,(a0c (a26 (q_m (qv 0) (clK T b) (a0C T b) hr (q_k (qv 3) a0z) ))
  (a0c (by ac_rfl)
  (a0c (by ac_rfl)
  (a0B (a1F (q_c (a2v T) hr (q_k (q_m (qv 0) (clK T b) (a0N T b) hr (q_k (qv 1) (q_k (qv 3) a0z)) ) (q_k (qv 2) a0z)) )))))),?_⟩
 obtain⟨p,S,T',x,y,q,rfl,j,z,B,E,h⟩:=h;have l:=j;obtain⟨g,d,o,s⟩:=l;symm;refine⟨p,g,_,rfl,s.ob,a2e (by decide +kernel) (by decide +kernel),?_⟩;symm;refine⟨b,p,S,T',q,rfl,j.v,?_⟩;obtain⟨i,k,m,rfl,u,rfl,J,n⟩ |⟨⟨⟩⟩:=h
 rw[if_pos (show 0<=q/\q<=T'.length from i)];symm;refine⟨_,rfl,z _,λU C=>?_⟩;rw[nm_b u];refine ifT ?_;symm;refine⟨_,rfl,B _,λQ F=>?_⟩;rw[J];refine ifT ?_;have f:=C.trans F;have e:=s.keep (Sm.ks f);symm;refine⟨p,g,_,rfl,e.ob,a2e (by decide +kernel) (by decide +kernel),?_⟩;symm;refine⟨p,S,T',k,q,_,g,d,o,rfl,e.v,i.1,i.2,E,λt L R M H G c=>?_⟩;symm;have A:=c.len;rw[aR]at A;refine⟨t,L,m,rfl,G,c.can.rise,c.pl.okR,by omega,λD I=>?_⟩;rw[c.v,a5p];exact n D ((f.trans H).trans I)
def Rec.ne(H:Rec b G S T k h):ix T k≠[]:=λz=>by
 cases b with
 |false=>
  obtain⟨a,H⟩:=H
  have:=H.ix
  rw[z]at this;exact H.ne (de.mp this)
 |true=>
  obtain⟨a,H⟩:=H
  have:=H.ix
  rw[z]at this;exact H.ne (de.mp this)
def NE(T:List Tl)(k:Str):Prop:=∃L,IsLine T k L/\L≠[]
structure KeysAt (T:List Tl) (ts:List Str):Prop where
 so:PyProof.Rows.sortedS ts=true
 nd:ts.Nodup
 is:∀s,s∈ts↔NE T s
def IsLine.uniq(h:IsLine T k L)(g:IsLine T k M):L=M:=a7Y h.can g.can λt=>by rw[h.v,g.v]
def a67(h:ix T k=[])(q:Nat):a0i (T.take q) k=[]:=a32 λi a=>by rw[h]at a;simp at a
def Few(T:List Tl):Prop:=T.length<=200/\∃kn:List Str,kn.length<=63/\∀τ∈T,τ.key∈kn
theorem b4c:∀{xs ys:List Str},xs.Nodup->(∀x∈xs,x∈ys)->xs.length<=ys.length
 |[],_,_,_=>aW _
 |x::xs,ys,h,m=>by
  rw[bx]at h;have b:=m x (.head _)
  have:=b4c (ys:=ys.erase x) h.2 λy a=>(fw (λz=>h.1 (by simp_all))).mpr (m y (.tail _ a))
  rw[fz b]at this
  have:=fA b
  rw[aL];lia
def b89:∀{T:List Tl}{k:Str}{n:Nat},ixF k n T≠[]->∃τ∈T,τ.key=k:=by intro z0;induction z0 with
 |nil=>intro _ _ h;exact absurd rfl h
 |cons τ T I0=>
  intro k n h
  by_cases c:τ.key=k
  ·exact⟨τ,.head _,c⟩
  ·unfold ixF at h;rw[if_neg c,cY]at h;obtain⟨σ,b,a⟩:=I0 h;exact⟨σ,.tail _ b,a⟩
def b9a{ks:List Str}(h:kvs.map (·.1)=ks.map Sum.inr)(m:s∈ks):∃z,valZ kvs (.inr s)=some z:=by
 unfold valZ;cases e2:kvs.find? λc=>decide (c.1=Sum.inr s) with
 |some q=>exact⟨_,rfl⟩
 |none=>
  have a:(Sum.inr s)∈kvs.map (·.1):=h▸bh m;obtain⟨q,b,d⟩:=aF.mp a
  have:=dG.mp e2 q b
  simp[d]at this
def a3n(a:Ad):P3:=λws G R=>∃b:Bool,Ex4 λ(p:Addr) (S:Addr->Prop) (T:List Tl) (q:Int)=>ws=[.ref p,.int q]/\Sheet a b G p S T/\Few T /\
 ((inR T q/\∀t ts G',G t=none->Sm G G'->G' t=some (.lst (ts.map Z.str))->KeysAt (T.take q.toNat) ts->ts.length<=63->R (.ref t) G')\/False)
def b1n:∀{kvs:List (Key×Z)},(∀q∈kvs,∃s,q.1=Sum.inr s)->∃ks:List Str,kvs.map (·.1)=ks.map Sum.inr/\(kvs.map λq=>keyW q.1)=ks.map Z.str:=by intro z0;induction z0 with
 |nil=>intro _;exact⟨[],rfl,rfl⟩
 |cons q kvs I0=>
  intro h;obtain⟨s,a⟩:=h q (.head _);obtain⟨e,c,d⟩:=I0 λq b=>h q (.tail _ b);exact⟨s::e,by rw[aO,aO,c,a],by rw[aO,aO,d,a];rfl⟩
def a68{ks:List Str}(h:kvs.map (·.1)=ks.map Sum.inr)(e:valZ kvs (.inr s)=some z):s∈ks:=by
 unfold valZ at e;cases e2:kvs.find? λg=>decide (g.1=Sum.inr s) with
 |none=>rw[e2]at e;cases e
 |some q=>
  have c:q.1=Sum.inr s:=by have:=ei e2;simpa using this
  have:(Sum.inr s:Key)∈ks.map Sum.inr:=by rw[<- h,<- c];exact bh (cN e2)
  obtain⟨x,b,d⟩:=aF.mp this;cases d;exact b
set_option tactic.hygienic true in
def a1z(T:Txt K mg a)(β:Bool):Mal P w K mg base CX0 4 (a.cK β) "keys_at" (lowP K (a3n a)):=by
 refine fnm 2 (N:=["self","knowing"]) (mxK T β 2) ?_;walk_at "in";obtain⟨b,h⟩:=h;refine⟨_,(a0c (a26 (q_m (qv 0) (clK T b) (a0C T b) hr (q_k (qv 1) a0z) ))
  (a0B (a1F (c04 (q_B b0N (T.b 8) (q_k (q_l ["key","knowing","self"] [none,some 1,some 0] (.nm 0) (hi:=(a3R (a3f (clK T b) (naK T b 1) (qv 0)))) (ht:=λ_ _ _ _=>(a3I (b7s (q_m (qv 2) (clK T b) (a0N T b) hr (q_k (qv 0) (q_k (qv 1) a0z)) ) (λ_=>rfl))))) a0z)))))),?_⟩
 obtain⟨p,S,T',q,rfl,sh,hT,h⟩:=h;have sh':=sh;obtain⟨dx,d,u,f⟩:=sh';symm;refine⟨p,dx,_,rfl,f.ob,a2e (by decide +kernel) (by decide +kernel),?_⟩;symm;refine⟨b,p,S,T',q,rfl,sh.v,?_⟩;obtain⟨hq,fin⟩ |⟨⟨⟩⟩:=h
 rw[if_pos (show 0<=q/\q<=T'.length from hq)];symm;refine c05 f.dc ?_;symm;refine⟨p,dx,_,_,rfl,f.ob,a2W,?_⟩;symm;refine b0M (.inl f.dc) ?_;have smF:=f.v.frz;obtain⟨j,hk1,hk2⟩:=b1n f.sk;have hnd:j.Nodup:=by
  have:=f.nd
  rw[hk1]at this;exact (bo.mp this).imp λh z=>h (by rw[z])
 obtain⟨hT2,kn,kn1,kn2⟩:=hT;have hkl:j.length<=63:=aM (b4c hnd λs hs=>by
  obtain⟨z,ez⟩:=b9a hk1 hs;obtain⟨h,_,hh⟩:=f.hs s z ez;obtain⟨τ,t1,t2⟩:=b89 (T:=T') (k:=s) (n:=0) (λz=>hh.ne z);rw[<- t2];exact kn2 τ t1) kn1
 rw[hk2];intro D hD;refine a6F (λi ys E=>∃l:List Str,ys=l.map Z.str/\l.Nodup/\(∀s,s∈l↔s∈j.take i/\NE (T'.take q.toNat) s)/\l.length<=i/\Sm (put G d (.dF u)) E/\E D=some (.lst ys)) ⟨[],rfl,.nil,λs=>by simp,aC _,Sm.new hD,a0a⟩ (λ_ _ _ _ _=>True.intro) ?_ ?_
 ·rintro i x ys E F ⟨l,rfl,hn,B,hl,s,gD⟩;rw[aK]at F;cases hx':j[i]? with
  |none=>rw[hx']at F;cases F
  |some k=>
  rw[hx']at F;cases F;have hi:=(aI.mp hx').1;have H:j.take (i+1)=j.take i++[k]:=by rw[b6,hx'];rfl
  have nk:k∉j.take i:=λz=>by
   have A:(j.take (i+1)).Nodup:=hnd.sublist (cR _ _);rw[H,cg]at A;exact A.2.2 k z k (by simp) rfl
  have smA:=smF.keep (Sm.ks s);refine⟨_,rfl,?_⟩;symm;refine⟨p,dx,_,rfl,smA.ob,a2e (by decide +kernel) (by decide +kernel),?_⟩;symm;refine⟨p,S,T',k,q,_,dx,d,u,rfl,smA,hq.1,hq.2,by omega,λt L G2 ht s2 gt il=>?_⟩;refine b3K gt ?_;cases hL:L with
  |nil=>
   symm;refine⟨l,rfl,hn,λy=>?_,by omega,s.trans s2,s2 _ _ gD⟩;rw[B,H,aE,aJ]
   constructor
   ·exact by rintro⟨g,m⟩;exact⟨.inl g,m⟩
   ·rintro⟨g |rfl,m⟩
    ·exact⟨g,m⟩
    ·obtain⟨M,m1,m2⟩:=m;exact absurd (m1.uniq il) (by rw[hL];exact m2)
  |cons r L'=>
   symm;refine⟨_,rfl,s2 _ _ gD,by rw[aB];exact a0h (by omega),l++[k],by rw[aP];rfl,?_,λy=>?_,by rw[aG];simp;omega,(s.trans s2).put hD,a0a⟩
   ·rw[cg];exact⟨hn,by simp,λg A b1 h2 z=>nk (by rw[<- aJ.mp h2,<- z];exact ((B g).mp A).1)⟩
   ·rw[aE,B,H,aE,aJ]
    constructor
    ·rintro (⟨g,m⟩ |rfl)
     ·exact⟨.inl g,m⟩
     ·exact⟨.inr rfl,L,il,by rw[hL];simp⟩
    ·rintro⟨g |rfl,m⟩
     ·exact .inl ⟨g,m⟩
     ·exact .inr rfl
 ·rintro ys E ⟨l,rfl,hn,B,hl,s,gD⟩;rw[aB]at B hl;rw[bu]at B;symm;refine b0O gD (by omega) λt us ht hp hs=>?_;have gd:E d=some (.dF u):=s _ _ a0a;have td:t≠d:=Ne.symm (a0d gd ht);have fr:G t=none:=by
   have A:=s.free ht;rw[a0e td]at A;exact A
  have sm2:Sm G (put (put E t (.lst (us.map Z.str))) d (.dK u)):=λb o e=>by
   by_cases c:b=d
   ·rw[c,a0a,<- f.dc,<- c];exact e
   ·rw[a0e c];exact a0b (s _ _ (by rw[a0e c];exact e)) ht
  refine⟨a0b gd ht,fin t us _ fr sm2 (by rw[a0e td];exact a0a) ⟨hs,hp.nodup_iff.mpr hn,λy=>?_⟩ (by rw[hp.length_eq];omega)⟩;rw[hp.mem_iff,B]
  constructor
  ·exact λz=>z.2
  ·intro z;refine⟨?_,z⟩;cases e:valZ u (.inr y) with
   |some w=>exact a68 hk1 e
   |none=>
    obtain⟨L,l1,l2⟩:=z;exact absurd (l1.uniq (IsLine.nil (a67 (f.no y e) _))) l2
def a0q(a b:Str):(a++b).cps.toList=a.cps.toList++b.cps.toList:=by
 show (a.cps++b.cps).toList=_
 rw[Array.toList_append]
def c1q{p:Nat}(h:p<=s.cps.toList.length):(Txt.slice s none (some (p:Int))).cps.toList=s.cps.toList.take p:=by
 have:=eq_of_beq (PyProof.Rows.slice_closes_to (x:=s) (j:=p) ⟨by lia,by lia⟩)
 rw[this];simp
def b6c{p:Nat}(h:p<=s.cps.toList.length):(Txt.slice s (some (p:Int)) none).cps.toList=s.cps.toList.drop p:=by
 have:=PyProof.Rows.slice_from_eq (x:=s) (i:=p) (by simp) (by rw[a2d];lia) rfl
 rw[this,a2d,b7 (by simp)];simp
def b3a(h:nmOk s):s.length<=sizeLine:=a01 (by rw[a2d];have:=h.2.1;lia)
def a24:(10:Int) ^ (12:Int).toNat=1000000000000:=by decide
def b9u:(Str.ofString "abcdefghijklmnopqrstuvwxyz").cps.toList=[97,98,99,100,101,102,103,104,105,106,107,108,109,110,111,112,113,114,115,116,117,118,119,120,121,122]:=by decide +kernel
def a76(h0:0<=k)(h1:k<26):atI (Str.ofString "abcdefghijklmnopqrstuvwxyz").cps.toList k=some (97+k.toNat):=by
 obtain⟨j,rfl⟩:=cM h0;have a:j<26:=by lia
 refine a1f ?_
 have:∀j:Fin 26,([97,98,99,100,101,102,103,104,105,106,107,108,109,110,111,112,113,114,115,116,117,118,119,120,121,122])[j.1]?=some (97+j.1):=by decide
 exact this ⟨j,a⟩
def c1r:∀cs:List Nat,(Txt.join (Str.ofString "") (cs.map λc=>(⟨#[c]⟩:Str))).cps.toList=cs:=by
 intro a;rw[show Txt.join _ _=Str.join _ _ from StrLaws.glued_eq_join _ _,show Str.ofString ""=Str.empty by decide +kernel]
 induction a with
 |nil=>rfl
 |cons c a ih=>
  cases a with
  |nil=>rfl
  |cons d a=>
   show (_++Str.empty++Str.join Str.empty _).cps.toList=_
   rw[a0q,a0q,ih]
   rfl
def a83(cs:List Nat)(h:cs.length<=100):((cs.map λc=>(⟨#[c]⟩:Str)).map (·.length)).sum+(cs.map λc=>(⟨#[c]⟩:Str)).length*(Str.ofString "").length<=16777216:=by
 have e:((cs.map λc=>(⟨#[c]⟩:Str)).map (·.length)).sum=cs.length:=by
  clear h
  induction cs with
  |nil=>rfl
  |cons c cs ih=>
   rw[aO,aO,List.sum_cons,ih,aL]
   show 1+cs.length=_
   omega
 rw[e,show Str.ofString ""=Str.empty by decide +kernel,show Str.empty.length=0 from rfl];omega
noncomputable def tumS(c k:Int):Int:=(c % 1073676287+39916801*(k+1)) % 1073676287
noncomputable def tumV(c k:Int):Int:=tumS c k*tumS c k % 1073676287+5*k
noncomputable def tumF(c k:Int):Int:=tumV c k*(tumV c k+27644437) % 1000000007
def a84:P3:=λws G R=>∃c k:Int,ws=[.int c,.int k]/\0<=k/\k<=1000/\∀r:Int,0<=r->r<1000000007/\r=tumF c k->R (.int r) G
def mM(x:Int):0<=x % 1073676287/\x % 1073676287<1073676287:=⟨bZ _ (by decide),b8 _ (by decide)⟩
def mP(x:Int):0<=x % 1000000007/\x % 1000000007<1000000007:=⟨bZ _ (by decide),b8 _ (by decide)⟩
set_option tactic.hygienic true in
def a85(T:Txt K mg a):Cal P w K mg base CX0 1 "_law_tumbled" (lowP K a84):=by
 refine fnc 2 (N:=["cell","k","stir"]) T.br (T.f 31 _ rfl) ?_;walk_at "in";refine⟨_,(by ac_rfl),?_⟩;obtain⟨c,k,rfl,l,m,q⟩:=h;symm;refine i_I (show (0:Int)<1073676287 by decide) ?_;symm;refine i_I (.inr ⟨by omega,by omega⟩) ?_;symm;refine i_I (show (0:Int)<1073676287 by decide) ?_;symm;have e:=mM (c % 1073676287+39916801*(k+1));generalize hu0:(c % 1073676287+39916801*(k+1)) % 1073676287=u at e ⊢;refine i_I (.inl ⟨by omega,by omega⟩) ?_;symm;refine i_I (show (0:Int)<1073676287 by decide) ?_;symm;have f:=mM (u*u);generalize hv0:u*u % 1073676287=v at f ⊢;refine i_I (.inr ⟨by omega,by omega⟩) ?_;symm;refine i_I (.inl ⟨by omega,by omega⟩) ?_;symm;refine i_I (show (0:Int)<1000000007 by decide) ?_;exact q _ (mP _).1 ⟨(mP _).2,by unfold tumF tumV tumS;rw[hu0,hv0]⟩
def b3b(h:isL c):a8L (Str.ofString "abcdefghijklmnopqrstuvwxyz") ⟨#[c]⟩=(c:Int)-97:=by
 have:∀j:Fin 26,a8L (Str.ofString "abcdefghijklmnopqrstuvwxyz") ⟨#[97+j.1]⟩=(j.1:Int):=by decide +kernel
 obtain⟨b,d⟩:=h;have e:=this ⟨c-97,by lia⟩;have a:97+(c-97)=c:=by lia
 simp only[a]at e;rw[e];lia
def b1o:∀{l:List Nat}{a b:Nat},l++[a]=b::l->a=b:=by intro z0;induction z0 with
 |nil=>intro a b h;simpa using h
 |cons x l I0=>
  intro a b h;injection h with h1 h2
  rw[I0 h2,h1]
def b3c:P3:=λws G R=>∃c:Int,ws=[.int c]/\∀(t:Addr)(ns:List Str)(G':Hq),G t=none->Sm G G'->G' t=some (.lst (ns.map Z.str))->ns.length=4->(∀s∈ns,nmOk s)->ns.Nodup->R (.ref t) G'
set_option tactic.hygienic true in
def b3d(T:Txt K mg a):Cal P w K mg base CX0 2 "_law_words" (lowP K b3c):=by
 refine fnc 1 (N:=["cell","letters","word","at","first","last","moved"]) T.br (T.f 32 _ rfl) ?_;walk_at "in";refine⟨_,(a0c (by ac_rfl)
  (a0c (z_st (nmI 2 nd) (q_bm PySem.F.plainAttrs_str PySem.F.slot_str_join PySem.F.type_str_join b3I b7m (q_k (q_l ["k","letters","cell"] [none,some 1,some 0] (.nm 0)) a0z)))
  (by ac_rfl))),?_⟩
 obtain⟨c,rfl,q⟩:=h;symm;refine⟨c,7,rfl,by decide,by decide,λr r0 r1=>?_⟩;symm;refine i_I (show (0:Int)<7 by decide) ?_;symm;have hn:1<=1+r % 7/\1+r % 7<=7:=by omega
 generalize 1+r % 7=n at hn ⊢;refine⟨by omega,by omega,?_⟩;intro D hD;refine a6F (λi ys G'=>∃cs:List Nat,cs.length=i/\(∀c∈cs,isL c)/\ys=cs.map (λc=>Z.str ⟨#[c]⟩)/\G'=put G D (.lst ys)) ⟨[],rfl,λc h=>by simp at h,rfl,rfl⟩ (by rintro _ _ _ _ _;exact True.intro) ?_ ?_
 ·rintro i x ys G' hx ⟨cs,hl,hc,rfl,rfl⟩;obtain⟨hi,rfl⟩:=a44 hx;refine⟨_,rfl,?_⟩;symm;refine⟨c,_,rfl,by omega,by omega,λf f0 f1=>?_⟩;symm;refine i_I (show (0:Int)<26 by decide) ?_;symm;refine b0e (lenK rfl) (a76 (by omega) (by omega)) ?_;refine⟨a0a,by rw[aB];exact a0h (by omega),cs++[97+(f % 26).toNat],by simp[hl],λd hd=>?_,by rw[aP];rfl,by rw[a1E]⟩;rcases aE.mp hd with hd |hd
  ·exact hc d hd
  ·rw[aJ.mp hd];unfold isL;omega
 ·rintro ys G' ⟨cs,hl,hc,rfl,rfl⟩;rw[a4D]at hl;symm;refine b75 (ys:=cs.map λc=>(⟨#[c]⟩:Str)) (by rw[a0a,aU];rfl) (a83 cs (by omega)) ?_;have el:=c1r cs;generalize Txt.join (Str.ofString "") (cs.map λc=>(⟨#[c]⟩:Str))=s at el ⊢;have ls:s.cps.toList.length=cs.length:=by rw[el]
  have ws:nmOk s:=⟨by omega,by omega,λd hd=>by rw[el]at hd;exact hc d hd⟩;have w7:s.cps.toList.length<=7:=by omega
  symm;refine⟨c,8,rfl,by decide,by decide,λf f0 f1=>?_⟩;symm;refine b0f (b3a ws) ?_;symm;refine i_I (show (0:Int)<(s.length:Int) by rw[a2d];omega) ?_;symm;have ha:0<=f % (s.length:Int)/\f % (s.length:Int)<(s.length:Int):=⟨bZ _ (by rw[a2d];omega),b8 _ (by rw[a2d];omega)⟩;generalize f % (s.length:Int)=at' at ha ⊢;obtain⟨p,rfl⟩:=cM ha.1;have hp:p<s.cps.toList.length:=by rw[<- a2d];omega
  refine⟨c,9,rfl,by decide,by decide,λf2 f20 f21=>?_⟩;symm;refine i_I (show (0:Int)<26 by decide) ?_;symm;refine⟨c,10,rfl,by decide,by decide,λf3 f30 f31=>?_⟩;symm;refine i_I (show (0:Int)<25 by decide) ?_;symm;refine i_I (show (0:Int)<26 by decide) ?_;symm;refine b0e (lenK rfl) (a76 (by omega) (by omega)) ?_;symm;refine b0e (b3a ws) (a1f (aN hp)) ?_;symm;have hfd:=b3b (ws.2.2 _ (bO hp));have lsp:=ws.2.2 _ (bO hp);generalize a8L (Str.ofString "abcdefghijklmnopqrstuvwxyz") ⟨#[s.cps.toList[p]]⟩=fd at hfd ⊢;refine⟨c,11,rfl,by decide,by decide,λf4 f40 f41=>?_⟩;symm;refine i_I (show (0:Int)<25 by decide) ?_;symm;refine i_I (show (0:Int)<26 by decide) ?_;symm;refine b0e (lenK rfl) (a76 (by omega) (by omega)) ?_;have one:∀k:Nat,k<26->nmOk (⟨#[97+k]⟩:Str):=λk hk=>⟨by simp,by simp,λd hd=>by
   have:d=97+k:=by simpa using hd
   unfold isL;omega⟩
  have app:∀{x y:Str},nmOk x->(∀d∈y.cps.toList,isL d)->x.cps.toList.length+y.cps.toList.length<=8->nmOk (x++y):=λ{x y} hx hy hl=>⟨by rw[a0q,aG];have:=hx.1;omega,by rw[a0q,aG];exact hl,λd hd=>by
   rw[a0q]at hd;rcases aE.mp hd with hd |hd
   ·exact hx.2.2 d hd
   ·exact hy d hd⟩
  have k1:((f2 % 26+1+f3 % 25) % 26).toNat<26:=by omega
  have k2:(f2 % 26).toNat<26:=by omega
  have k3:((fd+1+f4 % 25) % 26).toNat<26:=by omega
  have o1:=one _ k1;have o2:=one _ k2;have o3:=one _ k3;have d3:97+((fd+1+f4 % 25) % 26).toNat≠s.cps.toList[p]:=by unfold isL at lsp;omega
  have d1:97+((f2 % 26+1+f3 % 25) % 26).toNat≠97+(f2 % 26).toNat:=by omega
  have lone:∀k:Nat,(⟨#[k]⟩:Str).length=1:=λ_=>rfl;have ltwo:∀k:Nat,(⟨#[k]⟩:Str).cps.toList.length=1:=λ_=>rfl;generalize 97+((fd+1+f4 % 25) % 26).toNat=m3 at o3 d3 ⊢;symm;generalize 97+((f2 % 26+1+f3 % 25) % 26).toNat=m1 at o1 d1 ⊢;refine a7z (a01 (by rw[a2d,lone];omega)) ?_;symm;refine b0e (lenK rfl) (a76 (by omega) (by omega)) ?_;generalize 97+(f2 % 26).toNat=m2 at o2 d1 ⊢;symm;refine a7z (a01 (by rw[a2d s,lone];omega)) ?_;symm;refine b72 (b3a ws) ?_;have e1:=c1q (s:=s) (p:=p) (by omega);have e2:=b6c (s:=s) (p:=p+1) (by omega);symm;refine a7z (a01 (by rw[a2d,e1,aR,lone];omega)) ?_;symm;refine b72 (b3a ws) ?_;rw[show ((p:Int)+1)=((p+1:Nat):Int) by omega];symm;refine a7z (a01 (by rw[a2d,a0q,aG,e1,a2d,e2,aR,bt,ltwo];omega)) ?_;symm;refine⟨lenK rfl,λt ht=>?_⟩;refine q t [s,s++⟨#[m1]⟩,(⟨#[m2]⟩:Str)++s,Txt.slice s none (some (p:Int))++⟨#[m3]⟩++Txt.slice s (some ((p+1:Nat):Int)) none] _ ((Sm.new hD).free ht) ((Sm.new hD).trans (Sm.new ht)) a0a rfl (λw hw=>?_) ?_
  rotate_left
  ·have ne:∀{x y:Str},x.cps.toList≠y.cps.toList->x≠y:=λh z=>h (by rw[z]);have e3:(Txt.slice s none (some (p:Int))++⟨#[m3]⟩++Txt.slice s (some ((p+1:Nat):Int)) none).cps.toList=s.cps.toList.take p++[m3]++s.cps.toList.drop (p+1):=by rw[a0q,a0q,e1,e2]
   have l3:(s.cps.toList.take p++[m3]++s.cps.toList.drop (p+1)).length=s.cps.toList.length:=by rw[aG,aG,aR,bt];simp only[aL,fj];omega
   have n13:s.cps.toList++[m1]≠m2::s.cps.toList:=λz=>d1 (b1o z);have n3:s.cps.toList≠s.cps.toList.take p++[m3]++s.cps.toList.drop (p+1):=λz=>d3 (by
    have h1:s.cps.toList[p]?=some m3:=by
     have hm:(s.cps.toList.take p).length=p:=by rw[aR];omega
     have h2:(s.cps.toList.take p++[m3]++s.cps.toList.drop (p+1))[p]?=some m3:=by
      rw[be,cv (by omega),hm,Nat.sub_self];rfl
     exact (congrArg (·[p]?) z).trans h2
    rw[aN hp]at h1;injection h1 with h1
    exact h1.symm)
   refine bx.mpr ⟨?_,bx.mpr ⟨?_,bx.mpr ⟨?_,bx.mpr ⟨by simp,.nil⟩⟩⟩⟩
   ·simp only[aD,ci,or_false,not_or];refine⟨ne ?_,ne ?_,ne ?_⟩
    ·rw[a0q];exact λz=>absurd (congrArg bf z) (by rw[aG,ltwo];omega)
    ·rw[a0q];exact λz=>absurd (congrArg bf z) (by rw[aG,ltwo];omega)
    ·rw[e3];exact n3
   ·simp only[aD,ci,or_false,not_or];refine⟨ne ?_,ne ?_⟩
    ·rw[a0q,a0q];exact n13
    ·rw[a0q,e3];exact λz=>absurd (congrArg bf z) (by rw[l3,aG,ltwo];omega)
   ·simp only[aD,ci,or_false];refine ne ?_;rw[a0q,e3];exact λz=>absurd (congrArg bf z) (by rw[l3,aG,ltwo];omega)
  simp only[aD,ci,or_false]at hw;rcases hw with rfl |rfl |rfl |rfl
  ·exact ws
  ·exact app ws o1.2.2 (by rw[ltwo];omega)
  ·exact app o2 ws.2.2 (by rw[ltwo];omega)
  ·refine⟨by rw[a0q,a0q,aG,aG,ltwo];omega,by rw[a0q,a0q,aG,aG,ltwo,e1,e2,aR,bt];omega,λd hd=>?_⟩;rw[a0q,a0q,e1,e2]at hd;rcases aE.mp hd with hd |hd
   ·rcases aE.mp hd with hd |hd
    ·exact ws.2.2 d (bS hd)
    ·exact o3.2.2 d hd
   ·exact ws.2.2 d (dv hd)
def a77{ns:List Str}(h:∀s∈ns,nmOk s)(h0:0<=k)(h1:k<(ns.length:Int)):∃s,atI (ns.map Z.str) k=some (.str s)/\s∈ns/\nmOk s:=by
 obtain⟨j,rfl⟩:=cM h0;have a:j<ns.length:=by lia
 exact⟨ns[j],a1f (by simp_all),bO a,h _ (bO a)⟩
def a86:P3:=λws G R=>∃c:Int,ws=[.int c]/\∀(b:Int)(e:Option Int)(G':Hq),Sm G G'->stOk b e->R (.tup [.int b,oz e]) G'
set_option tactic.hygienic true in
def a87(T:Txt K mg a):Cal P w K mg base CX0 2 "_law_stretch" (lowP K a86):=by
 refine fnc 1 (N:=["cell","kind","begin"]) T.br (T.f 33 _ rfl) ?_;walk_at "in";refine⟨_,(a0c (by ac_rfl)
  (a0c (by ac_rfl)
  (a6C (by ac_rfl)
  (a6C (by ac_rfl)
  (by ac_rfl))))),?_⟩
 obtain⟨c,rfl,q⟩:=h;symm;refine⟨c,20,rfl,by decide,by decide,λr V Q=>?_⟩;symm;refine i_I (show (0:Int)<8 by decide) ?_;symm;generalize r % 8=kind;refine⟨c,21,rfl,by decide,by decide,λp H F=>?_⟩;symm;refine i_I (show (0:Int)<12 by decide) ?_;symm;have t:0<=p % 12/\p % 12<12:=by omega
 generalize p % 12=b0 at t ⊢;refine a6I (fun σ' o=>∃b:Int,0<=b/\b<=1000000000000/\o=G/\σ'=[some (.int c),some (.int kind),some (.int b)]) ?_ ?_
 ·symm;refine ifD (λ_=>?_) λ_=>?_
  ·symm;refine⟨c,21,rfl,by decide,by decide,λB v y=>?_⟩;symm;refine i_I (.inl ⟨by omega,by omega⟩) ?_;symm;refine i_I ⟨by decide,by decide,by decide⟩ ?_;rw[a24];symm;refine i_I (show (0:Int)<1000000000000+1 by decide) ?_;symm;exact⟨_,bZ _ (by decide),by have:=b8 (B*1000) (show (0:Int)<1000000000000+1 by decide);omega,rfl,rfl⟩
  ·symm;exact⟨b0,by omega,by omega,rfl,rfl⟩
 ·rintro σ' o ⟨b,l,m,rfl,rfl⟩;symm;refine a6I (fun σ' d=>∃b:Int,0<=b/\b<=1000000000000/\Sm o d/\σ'=[some (.int c),some (.int kind),some (.int b)]) ?_ ?_
  ·symm;refine ifD (λ_=>?_) λ_=>?_
   ·symm;refine i_I ⟨by decide,by decide,by decide⟩ ?_;rw[a24];symm;refine i_I ⟨by decide,by decide,by decide⟩ ?_;rw[a24];symm;refine i_I ⟨by decide,by decide,by decide⟩ ?_;rw[a24];symm;refine⟨lenK rfl,λu hu=>?_⟩;symm;refine i_I (show (0:Int)<4 by decide) ?_;have C:b % 4=0\/b % 4=1\/b % 4=2\/b % 4=3:=by omega
    obtain⟨j,D,n⟩:∃j:Int,atI [Z.int 1000000000000,.int (1000000000000-1),.int 0,.int (1000000000000-7)] (b % 4)=some (.int j)/\0<=j/\j<=1000000000000:=by
     rcases C with e |e |e |e<;>rw[e]
     ·exact⟨_,rfl,by decide,by decide⟩
     ·exact⟨_,rfl,by decide,by decide⟩
     ·exact⟨_,rfl,by decide,by decide⟩
     ·exact⟨_,rfl,by decide,by decide⟩
    refine a1i a0a D ?_;symm;exact⟨j,n.1,n.2,Sm.new hu,rfl⟩
   ·symm;exact⟨b,l,m,Sm.refl _,rfl⟩
  ·rintro σ' d ⟨b,l,m,s,rfl⟩;have g:R (.tup [.int b,.non]) d:=q b none d s ⟨l,m,λx k=>nomatch k⟩;symm;refine⟨c,22,rfl,by decide,by decide,λB v y=>?_⟩;symm;refine i_I (show (0:Int)<5 by decide) ?_;symm;refine ifD (λ_=>?_) λ_=>?_
   ·symm;exact⟨lenK rfl,g⟩
   ·symm;refine i_I ⟨by decide,by decide,by decide⟩ ?_;rw[a24];symm;refine ifD (λ_=>?_) λI=>?_
    ·symm;exact⟨lenK rfl,g⟩
    ·have E:b<1000000000000:=by omega
     symm;refine⟨c,22,rfl,by decide,by decide,λU J L=>?_⟩;symm;refine i_I (show (0:Int)<5 by decide) ?_;symm;refine ifD (λ_=>?_) λ_=>?_
     ·symm;refine⟨c,23,rfl,by decide,by decide,λi A z=>?_⟩;symm;refine i_I (.inl ⟨by omega,by omega⟩) ?_;symm;refine i_I ⟨by decide,by decide,by decide⟩ ?_;rw[a24];symm;refine i_I (show (0:Int)<1000000000000-b by omega) ?_;symm;refine⟨lenK rfl,?_⟩;have M:=bZ (i*1000) (show (1000000000000-b:Int)≠0 by omega);have S:=b8 (i*1000) (show (0:Int)<1000000000000-b by omega);exact q b (some (b+1+i*1000 % (1000000000000-b))) d s ⟨l,m,λx k=>by cases k;unfold T12;omega⟩
     ·symm;refine i_I ⟨by decide,by decide,by decide⟩ ?_;rw[a24];symm;refine⟨c,23,rfl,by decide,by decide,λi A z=>?_⟩;symm;refine i_I (show (0:Int)<6 by decide) ?_;symm;refine⟨lenK rfl,?_⟩;exact q b (some (if b+1+i % 6<1000000000000 then b+1+i % 6 else 1000000000000)) d s ⟨l,m,λx k=>by cases k;unfold T12;split<;>omega⟩
def a6o:P3:=λws G R=>Ex5 λ(c:Int) (ks wsA:Addr) (kn wn:List Str)=>ws=[.int c,.ref ks,.ref wsA]/\G ks=some (.lst (kn.map Z.str))/\G wsA=some (.lst (wn.map Z.str))/\kn.length=4/\wn.length=4/\(∀s∈kn,nmOk s)/\(∀s∈wn,nmOk s) /\
 ∀τ,Tl.Ok τ->τ.key∈kn->R τ.z G
set_option tactic.hygienic true in
def a6p(T:Txt K mg a):Cal P w K mg base CX0 1 "_law_by_digits" (lowP K a6o):=by
 refine fnc 3 (N:=["cell","keys","worths","begin","end"]) T.br (T.f 34 _ rfl) ?_;walk_at "in";refine⟨_,(a0c (by ac_rfl)
  (a0c (by ac_rfl)
  (a6C (by ac_rfl)
  (a6C (by ac_rfl)
  (by ac_rfl))))),?_⟩
 obtain⟨c,ks,wsA,kn,wn,rfl,gk,gw,lk,lw,hk,hw,q⟩:=h;symm;refine i_I ⟨by decide,by decide⟩ ?_;symm;refine i_I ⟨by decide,by decide,by decide⟩ ?_;rw[a24];symm;refine i_I (show (0:Int)<1000000000000+1 by decide) ?_;symm;have b0:=bZ (c / 384) (show (1000000000000+1:Int)≠0 by decide);have b1:=b8 (c / 384) (show (0:Int)<1000000000000+1 by decide);generalize c / 384 % (1000000000000+1)=b at b0 b1 ⊢;refine i_I ⟨by decide,by decide⟩ ?_;symm;refine i_I (show (0:Int)<8 by decide) ?_;symm;have e0:0<=c / 48 % 8/\c / 48 % 8<8:=by lia
 generalize c / 48 % 8=d at e0 ⊢;refine a6I (fun σ' G'=>∃e:Int,b<=e/\G'=G/\σ'=[some (.int c),some (.ref ks),some (.ref wsA),some (.int b),some (.int e)]) ?_ ?_
 ·symm;refine ifD (λ_=>?_) λ_=>?_
  ·symm;refine i_I ⟨by decide,by decide,by decide⟩ ?_;rw[a24];symm;refine ifD (λhlt=>?_) λ_=>?_
   ·symm;refine i_I ⟨by decide,by decide⟩ ?_;symm;refine i_I ⟨by decide,by decide,by decide⟩ ?_;rw[a24];symm;refine i_I ⟨by decide,by decide⟩ ?_;symm;refine i_I ⟨by decide,by decide,by decide⟩ ?_;rw[a24];symm;refine i_I (show (0:Int)<1000000000000-b by lia) ?_;symm;have m0:=bZ (c / 384 / (1000000000000+1)) (show (1000000000000-b:Int)≠0 by lia);exact⟨_,by lia,rfl,rfl⟩
   ·symm;exact⟨_,by lia,rfl,rfl⟩
  ·symm;exact⟨_,by lia,rfl,rfl⟩
 ·rintro σ' G' ⟨e,he,rfl,rfl⟩;symm;refine a6I (fun σ' G''=>∃e:Option Int,stOk b e/\G''=G'/\σ'=[some (.int c),some (.ref ks),some (.ref wsA),some (.int b),some (oz e)]) ?_ ?_
  ·symm;refine ifD (λ_=>?_) λhne=>?_
   ·symm;exact⟨none,⟨b0,by unfold T12;lia,λx hx=>nomatch hx⟩,rfl,rfl⟩
   ·symm;refine i_I ⟨by decide,by decide,by decide⟩ ?_;rw[a24];symm;refine ifD (λ_=>?_) λhle=>?_
    ·symm;exact⟨none,⟨b0,by unfold T12;lia,λx hx=>nomatch hx⟩,rfl,rfl⟩
    ·symm;exact⟨some e,⟨b0,by unfold T12;lia,λx hx=>by cases hx;unfold T12;lia⟩,rfl,rfl⟩
  ·rintro σ' G'' ⟨e,hst,rfl,rfl⟩;obtain⟨kk,ekk,mkk,hkk⟩:=a77 hk (bZ c (show (4:Int)≠0 by decide)) (by have:=b8 c (show (0:Int)<4 by decide);lia);obtain⟨ww,eww,_,hww⟩:=a77 hw (bZ (c / 16) (show (3:Int)≠0 by decide)) (by have:=b8 (c / 16) (show (0:Int)<3 by decide);lia);symm;refine i_I ⟨by decide,by decide⟩ ?_;symm;refine i_I (show (0:Int)<4 by decide) ?_;symm;refine ifD (λ_=>?_) λ_=>?_
   ·symm;refine i_I (show (0:Int)<4 by decide) ?_;symm;refine a1i gk ekk ?_;symm;refine⟨lenK rfl,?_⟩;exact q ⟨kk,none,b,e⟩ ⟨hkk,(λs h=>nomatch h),hst⟩ mkk
   ·symm;refine i_I (show (0:Int)<4 by decide) ?_;symm;refine a1i gk ekk ?_;symm;refine i_I ⟨by decide,by decide⟩ ?_;symm;refine i_I (show (0:Int)<3 by decide) ?_;symm;refine a1i gw eww ?_;symm;refine⟨lenK rfl,?_⟩;exact q ⟨kk,some ww,b,e⟩ ⟨hkk,(λs h=>by cases h;exact hww),hst⟩ mkk
def a88:P3:=λws G R=>Ex5 λ(c:Int) (ks wsA:Addr) (kn wn:List Str)=>ws=[.int c,.ref ks,.ref wsA]/\G ks=some (.lst (kn.map Z.str))/\G wsA=some (.lst (wn.map Z.str))/\kn.length=4/\wn.length=4/\(∀s∈kn,nmOk s)/\(∀s∈wn,nmOk s) /\
 ∀τ G',Sm G G'->Tl.Ok τ->τ.key∈kn->R τ.z G'
set_option tactic.hygienic true in
def a89(T:Txt K mg a):Cal P w K mg base CX0 3 "_law_telling" (lowP K a88):=by
 refine fnc 3 (N:=["cell","keys","worths","key","begin","end"]) T.br (T.f 35 _ rfl) ?_;walk_at "in";refine⟨_,(by ac_rfl),?_⟩;obtain⟨c,ks,wsA,kn,wn,rfl,gk,gw,lk,lw,hk,hw,q⟩:=h;symm;refine i_I (show (0:Int)<2 by decide) ?_;symm;refine ifD (λ_=>?_) λ_=>?_
 ·symm;refine i_I ⟨by decide,by decide⟩ ?_;symm;exact⟨_,ks,wsA,kn,wn,rfl,gk,gw,lk,lw,hk,hw,fun τ ok mk=>q τ G (Sm.refl _) ok mk⟩
 ·symm;refine⟨c,24,rfl,by decide,by decide,λr r0 r1=>?_⟩;symm;refine i_I (show (0:Int)<4 by decide) ?_;obtain⟨kk,ekk,mkk,hkk⟩:=a77 hk (bZ r (show (4:Int)≠0 by decide)) (by have:=b8 r (show (0:Int)<4 by decide);lia);symm;refine a1i gk ekk ?_;symm;refine⟨c,rfl,λb e G1 s1 hst=>?_⟩;symm;refine⟨c,25,rfl,by decide,by decide,λr2 r20 r21=>?_⟩;symm;refine i_I (show (0:Int)<4 by decide) ?_;symm;refine ifD (λ_=>?_) λ_=>?_
  ·symm;refine⟨lenK rfl,?_⟩;exact q ⟨kk,none,b,e⟩ _ s1 ⟨hkk,(λs h=>nomatch h),hst⟩ mkk
  ·symm;refine⟨c,26,rfl,by decide,by decide,λr3 r30 r31=>?_⟩;symm;refine i_I (show (0:Int)<3 by decide) ?_;obtain⟨ww,eww,_,hww⟩:=a77 hw (bZ r3 (show (3:Int)≠0 by decide)) (by have:=b8 r3 (show (0:Int)<3 by decide);lia);symm;refine a1i (s1 _ _ gw) eww ?_;symm;refine⟨lenK rfl,?_⟩;exact q ⟨kk,some ww,b,e⟩ _ s1 ⟨hkk,(λs h=>by cases h;exact hww),hst⟩ mkk
def a4t:P3:=λws G R=>∃(p:Addr)(rows:List Rw),ws=[.ref p]/\G p=some (.lst (rows.map Rw.z))/\One rows/\rows.length<=400/\∀(t:Addr)(ms:List Int)(G':Hq),G t=none->Sm G G'->G' t=some (.lst (ms.map Z.int))->a4P rows ms->ms.length<=2*rows.length->R (.ref t) G'
def a69(h:ms.Pairwise (·<·))(q:∀x,x∈ms↔x∈rows.filterMap (λr=>some r.b)++rows.filterMap (λr=>r.e)):a4P rows ms:=by
 refine⟨h,λx=>?_⟩;rw[q x,aE,bp,bp]
 constructor
 ·rintro (⟨r,a,e⟩ |⟨r,a,e⟩)
  ·exact⟨r,a,.inl (by simpa using e.symm)⟩
  ·exact⟨r,a,.inr e⟩
 ·rintro⟨r,a,e |e⟩
  ·exact .inl ⟨r,a,by rw[e]⟩
  ·exact .inr ⟨r,a,e⟩
set_option tactic.hygienic true in
def a4u(T:Txt K mg a):Cal P w K mg base CX0 1 "bounds_of" (lowP K a4t):=by
 refine fnc 1 (N:=["stretches","begins","ends"]) T.br (T.f 12 _ rfl) ?_;walk_at "in";refine⟨_,(a0c (z_l (nmI 1 nd) ["begin","end","worth"] [none,none,none] (.tp [0,1,2]))
  (a0c (z_l (nmI 2 nd) ["begin","end","worth"] [none,none,none] (.tp [0,1,2]))
  (a0B (a1F (q_ss rfl rfl (T.b 8) rfl rfl (T.b 9) rfl (by ac_rfl) (he:=se_ rfl) (hpl:=hp_ rfl)))))),?_⟩
 obtain⟨p,d,rfl,i,s,H,q⟩:=h;symm;refine a0E i ?_;intro D g;refine a2T (g':=Z.int) (λr=>some r.b) (λm=>a0b i g) (by omega) ?_ ?_
 ·intro r hr m C B l u;obtain⟨x,k⟩:=s r hr;obtain⟨b,e,w⟩:=r;cases k;refine⟨_,rfl,?_⟩;symm;exact l _ rfl
 have E:p≠D:=a0d i g;symm;refine a0E (a0b i g) ?_;intro F j;refine a2T (g':=Z.int) (λr=>r.e) (λm=>a0b (a0b i g) j) (by omega) ?_ ?_
 ·intro r hr m C B l u;obtain⟨x,k⟩:=s r hr;obtain⟨b,e,w⟩:=r;cases k;refine⟨_,rfl,?_⟩;cases e with
  |none=>
   symm;exact u rfl
  |some e=>
   symm;exact l _ rfl
 symm;have I:(d.filterMap λr=>some r.b).length<=d.length:=bN _ _;have G:(d.filterMap λr=>r.e).length<=d.length:=bN _ _;refine a5O (a0b a0a j) a0a (a01 (by rw[aB,aB];omega)) λc n=>?_;symm;refine i_ss (by rw[a0a,aP]) (by rw[aG];omega) λt z o v A y=>?_;exact q t z _ ((((Sm.new g).trans (Sm.new j)).trans (Sm.new n)).free o) ((((Sm.new g).trans (Sm.new j)).trans (Sm.new n)).trans (Sm.new o)) a0a (a69 v A) (by rw[aG]at y;omega)
def b6d{α:Type}{xs:List α}:cutZ xs (some 1) none=xs.drop 1:=by
 cases xs with
 |nil=>rfl
 |cons x xs=>
  unfold cutZ;simp[HT.sIx]
def b3e(hne:xss≠[])(h:∀xs∈xss,n<=xs.length)(h2:∃xs∈xss,xs.length=n):(zipZ xss).length=n:=by
 have b:∀i,(∃w,_[i]?=some w)↔i<n:=λi=>by
  constructor
  ·rintro⟨w,d⟩;obtain⟨vs,rfl,e⟩:=(a1S xss hne i w).mp d;obtain⟨a,f,hl⟩:=h2
   have:a[i]?∈xss.map (·[i]?):=bh f
   rw[e]at this;obtain⟨v,_,k⟩:=aF.mp this
   have:=(aI.mp k.symm).1
   lia
  ·intro hi;refine⟨_,(a1S xss hne i _).mpr ⟨xss.map λa=>a.getD i .non,rfl,?_⟩⟩;rw[aU];refine cm λa f=>?_
   have:=h a f
   rw[Function.comp,cH,aN (by lia)]
   rfl
 have h2:=b n
 by_cases c:(zipZ xss).length<n
 ·grind
 ·by_cases c2:n<(zipZ xss).length
  ·simp_all
  ·lia
def zip4{xs ys zs us:List Z}{i:Nat}{w:Z}(h:(zipZ [xs,ys,zs,us])[i]?=some w):Ex4 λa b c d=>w=.tup [a,b,c,d]/\xs[i]?=some a/\ys[i]?=some b/\zs[i]?=some c/\us[i]?=some d:=by
 obtain⟨vs,rfl,e⟩:=(a1S [xs,ys,zs,us] (by simp) i w).mp h
 match vs,e with
 |[],e=>simp at e
 |[_],e=>simp at e
 |[_,_],e=>simp at e
 |[_,_,_],e=>simp at e
 |[a,b,c,d],e=>
  simp only[aO,aX,cb.injEq,and_true]at e;exact⟨a,b,c,d,rfl,e.1,e.2.1,e.2.2.1,e.2.2.2⟩
 |_::_::_::_::_::_,e=>simp at e
noncomputable def a1a(l o:List Rw)(t:Int):Option (List Z):=if wz (val l t)=.non/\wz (val o t)=.non then none else some [wz (val l t),wz (val o t)]
def a2H(h:Plain l)(t:Int):flat 0 (wz (val l t))=true:=by
 unfold val;cases e:l.find? _ with
 |none=>rfl
 |some r=>
  obtain⟨x,a,f⟩:=h r (cN e)
  show flat 0 (r.w.headD .non)=true
  rw[a];exact f
def b3f(hl:Plain l)(ho:Plain o)(bs:List Int):OkR (pcs (a1a l o) bs):=λr a=>by
 obtain⟨_,e⟩:=a3X a;unfold a1a at e
 split at e
 ·grind
 ·rw[<- bv.inj e];refine⟨by simp,by simp,?_⟩;rw[bY,bY,a0o (by simp) (a2H hl r.b),a0o (by simp) (a2H ho r.b)];rfl
def a2I:P3:=λws G R=>Ex4 λ(p q:Addr) (l o:List Rw)=>ws=[.ref p,.ref q]/\G p=some (.lst (l.map Rw.z))/\G q=some (.lst (o.map Rw.z))/\Rise l/\Plain l/\Rise o/\Plain o/\l.length<=150/\o.length<=150 /\
 ∀(t:Addr)(bs:List Int)(G':Hq),G t=none->Sm G G'->a4P (l++o) bs->G' t=some (.lst ((join (pcs (a1a l o) bs)).map Rw.z))->R (.ref t) G'
def b6e{bs:List Int}(hi:i<bs.length):((bs.map Z.int).drop 1++[Z.non])[i]?=some (oz bs[i+1]?):=by
 by_cases c:i+1<bs.length
 ·rw[cD (by rw[bt,aB];lia),cI,Nat.add_comm 1 i,aK,aN c];rfl
 ·have:i+1=bs.length:=by lia
  rw[cv (by rw[bt,aB];lia),bt,aB,this,d7 (aC _),show i-_=0 by lia]
  rfl
set_option tactic.hygienic true in
def a1e(T:Txt K mg a):Cal P w K mg base CX0 3 "laid_together" (lowP K a2I):=by
 refine fnc 2 (N:=["line","other","bounds","worths","other_worths","ends","pieces","begin","end","worth","other_worth"]) T.br (T.f 13 _ rfl) ?_;walk_at "in";refine⟨_,(a0c (by ac_rfl)
  (a0c (by ac_rfl)
  (a0c (by ac_rfl)
  (a0c (by ac_rfl)
  (a0c (by ac_rfl)
  (a0c (a15 (pt:=(.tp [7,8,9,10])) fW.never rfl (b5y (n:=4) zok4 (by decide) rfl (T.b 10) (q_k (qv 2) (q_k (qv 5) (q_k (qv 3) (q_k (qv 4) a0z)))) (he:=se_ rfl) (hpl:=hp_ rfl)) (by ac_rfl)
  (by ac_rfl))
  (by ac_rfl))))))),?_⟩
 obtain⟨p,q,l,o,rfl,hp,hq,hl,pl,ho,po,zl,zo,fin⟩:=h;symm;refine a5O hp hq (a01 (by rw[aB,aB];omega)) λa ha=>?_;symm;have one:One (l++o):=λr hr=>(aE.mp hr).elim (pl.one r) (po.one r);refine⟨a,l++o,rfl,by rw[a0a,aP],one,by rw[aG];omega,λu g C hu s1 gu hb hbl=>?_⟩;have s1:=(Sm.new ha).trans s1;rw[aG]at hbl;have hpw:g.Pairwise (·<=·):=hb.1.imp λh=>by omega
 symm;refine⟨p,u,l,g,rfl,s1 _ _ hp,gu,hl,pl.okR,by omega,hpw,by omega,λw hw=>?_⟩;symm;refine⟨q,u,o,g,rfl,a0b (s1 _ _ hq) hw,a0b gu hw,ho,po.okR,by omega,hpw,by omega,λv hv=>?_⟩;symm;refine c0D (a0b (a0b gu hw) hv) λc hc=>?_;rw[b6d];symm;refine⟨lenK rfl,λd hd=>?_⟩;symm;refine a5O (a0b a0a hd) a0a (a01 (by rw[bt,aB];show g.length-1+1<=1000;omega)) λe he=>?_;symm;refine⟨lenK rfl,λt D=>?_⟩;have s2:Sm C (put (put (put (put (put (put C w (.lst (g.map λm=>wz (val l m)))) v (.lst (g.map λm=>wz (val o m)))) c (.lst ((g.map Z.int).drop 1))) d (.lst [.non])) e (.lst ((g.map Z.int).drop 1++[Z.non]))) t (.lst [])):=
  (((((Sm.new hw).trans (Sm.new hv)).trans (Sm.new hc)).trans (Sm.new hd)).trans (Sm.new he)).trans (Sm.new D)
 have gw:=a0b (a0b (a0b (a0b (a0b (a0a (G:=C) (a:=w) (o:=.lst (g.map λm=>wz (val l m)))) hv) hc) hd) he) (o:=.lst []) D;have gv:=a0b (a0b (a0b (a0b (a0a (G:=put C w (.lst (g.map λm=>wz (val l m)))) (a:=v) (o:=.lst (g.map λm=>wz (val o m)))) hc) hd) he) (o:=.lst []) D;have ge:=a0b (a0a (a:=e) (o:=.lst ((g.map Z.int).drop 1++[Z.non]))) (o:=.lst []) D;have gt:=a0a (G:=put (put (put (put (put C w (.lst (g.map λm=>wz (val l m)))) v (.lst (g.map λm=>wz (val o m)))) c (.lst ((g.map Z.int).drop 1))) d (.lst [.non])) e (.lst ((g.map Z.int).drop 1++[Z.non]))) (a:=t) (o:=.lst []);have nu:=a0d (a0b (a0b (a0b (a0b (a0b gu hw) hv) hc) hd) he) D;have nw:=a0d (a0b (a0b (a0b (a0b (a0a (G:=C) (a:=w) (o:=.lst (g.map λm=>wz (val l m)))) hv) hc) hd) he) D;have nv:=a0d (a0b (a0b (a0b (a0a (G:=put C w (.lst (g.map λm=>wz (val l m)))) (a:=v) (o:=.lst (g.map λm=>wz (val o m)))) hc) hd) he) D;have ne:=a0d (a0a (a:=e) (o:=.lst ((g.map Z.int).drop 1++[Z.non]))) D;have hGt:G t=none:=s1.free ((((((Sm.new hw).trans (Sm.new hv)).trans (Sm.new hc)).trans (Sm.new hd)).trans (Sm.new he)).free D);generalize put (put (put (put (put (put C w (.lst (g.map λm=>wz (val l m)))) v (.lst (g.map λm=>wz (val o m)))) c (.lst ((g.map Z.int).drop 1))) d (.lst [.non])) e (.lst ((g.map Z.int).drop 1++[Z.non]))) t (.lst [])=G2 at s2 gw gv ge gt ⊢;have gu2:=s2 _ _ gu;have hsrc:∀A:Hq,(∀b y,b≠t->G2 b=some y->A b=some y)->[Z.ref u,Z.ref e,Z.ref w,Z.ref v].map (srcZ A)=[g.map Z.int,(g.map Z.int).drop 1++[Z.non],g.map λm=>wz (val l m),g.map λm=>wz (val o m)].map some:=λA k=>by
  have k1:=k u _ nu gu2;have k2:=k e _ ne ge;have k3:=k w _ nw gw;have k4:=k v _ nv gv;simp only[aO,aX,srcZ,k1,k2,k3,k4]
 have hzl:(zipZ [g.map Z.int,(g.map Z.int).drop 1++[Z.non],g.map λm=>wz (val l m),g.map λm=>wz (val o m)]).length=g.length:=
  b3e (by simp) (λxs hx=>by
   simp only[aD,ci,or_false]at hx;rcases hx with rfl |rfl |rfl |rfl
   ·simp
   ·simp;omega
   ·simp
   ·simp) ⟨_,.head _,by simp⟩
 symm;refine⟨[g.map Z.int,(g.map Z.int).drop 1++[Z.non],g.map λm=>wz (val l m),g.map λm=>wz (val o m)],hsrc G2 λb y _ h=>h,by simp,rfl,?_⟩;refine a0P (λi σ A=>Ex5 λ(j:List Rw) (v1 v2 v3 v4:Option Z)=>j++pcs (a1a l o) (g.drop i)=pcs (a1a l o) g/\j.length<=i/\A t=some (.lst (j.map Rw.z))/\(∀b y,b≠t->G2 b=some y->A b=some y)/\σ=[some (.ref p),some (.ref q),some (.ref u),some (.ref w),some (.ref v),some (.ref e),some (.ref t),v1,v2,v3,v4])
  ⟨[],_,_,_,_,rfl,aC _,gt,λb y _ h=>h,rfl⟩ (by rintro i σ A _ ⟨_,_,_,_,_,_,_,_,k,_⟩;exact hsrc A k) ?_ ?_
 ·rintro i x σ A hx ⟨j,v1,v2,v3,v4,hj,hlen,B,k,rfl⟩;have hi:i<g.length:=by have:=(aI.mp hx).1;omega
  obtain⟨x1,x2,x3,x4,rfl,e1,e2,e3,e4⟩:=zip4 hx;rw[b6e hi]at e2;rw[aK,aN hi]at e1 e3 e4;simp only[cG,bv.injEq]at e1 e2 e3 e4;subst e1 e2 e3 e4;have hdr:g.drop i=g[i]::g.drop (i+1):=cV hi;rw[hdr,pcs,List.head?_drop]at hj;refine⟨_,rfl,?_⟩;have E:wz (val l g[i])=.non->wz (val o g[i])=.non->j++pcs (a1a l o) (g.drop (i+1))=pcs (a1a l o) g:=λc1 c2=>by
   have:a1a l o g[i]=none:=if_pos ⟨c1,c2⟩
   rw[this]at hj;exact hj
  have s:¬ (wz (val l g[i])=.non/\wz (val o g[i])=.non)->(j++[⟨g[i],g[i+1]?,[wz (val l g[i]),wz (val o g[i])]⟩])++pcs (a1a l o) (g.drop (i+1))=pcs (a1a l o) g:=λc=>by
   have:a1a l o g[i]=some [wz (val l g[i]),wz (val o g[i])]:=if_neg c
   rw[this]at hj;rw[be];exact hj
  generalize g[i]=b at E s ⊢;generalize wz (val l b)=y1 at E s ⊢;generalize wz (val o b)=y2 at E s ⊢;generalize g[i+1]?=en at s ⊢;symm;refine ifN (λc1=>?_) λc1=>?_
  ·symm;refine a1H B ?_;symm;refine⟨lenK rfl,?_⟩;symm;refine a0F B (by rw[aB];exact a0h (by omega)) ⟨j++[⟨b,en,[y1,y2]⟩],_,_,_,_,s (λz=>c1 z.1),by rw[aG];show j.length+1<=i+1;omega,?_,λc y nc h=>by rw[a0e nc];exact k c y nc h,rfl⟩;rw[a0a,aP];rfl
  ·symm;refine ifN (λc2=>?_) λc2=>?_
   ·symm;refine a1H B ?_;symm;refine⟨lenK rfl,?_⟩;symm;refine a0F B (by rw[aB];exact a0h (by omega)) ⟨j++[⟨b,en,[y1,y2]⟩],_,_,_,_,s (λz=>c2 z.2),by rw[aG];show j.length+1<=i+1;omega,?_,λc y nc h=>by rw[a0e nc];exact k c y nc h,rfl⟩;rw[a0a,aP];rfl
   ·symm;exact⟨j,_,_,_,_,E c1 c2,by omega,B,k,rfl⟩
 ·rintro σ A ⟨j,v1,v2,v3,v4,hj,hlen,B,k,rfl⟩;rw[hzl,List.drop_length,pcs,bj]at hj;subst hj;symm;refine⟨t,_,rfl,B,b3f pl po g,aM (a4O _ _) (by omega),λz hz=>?_⟩;have s3:Sm G A:=λb y h=>k b y (a0d h hGt) (s2 _ _ (s1 _ _ h));exact fin z g _ (s3.free hz) (s3.trans (Sm.new hz)) hb a0a
def a38(ok:OkT T)(h:NE T s):nmOk s:=by
 obtain⟨L,a,d⟩:=h
 by_cases c:∃τ∈T,τ.key=s
 ·obtain⟨τ,f,e⟩:=c;rw[<- e];exact (ok τ f).k
 ·have:a0i T s=[]:=by
   unfold a0i;rw[de,df];intro τ b;simpa using λz=>c ⟨τ,b,z⟩
  exact absurd (a.uniq (IsLine.nil this)) d
def at_b{τ:Tl}:∃ws,τ.z=.tup ws/\atI ws (-2)=some (.int τ.b)/\atI ws (-1)=some (oz τ.e):=by
 obtain⟨k,w,b,e⟩:=τ;cases w<;>exact⟨_,rfl,rfl,rfl⟩
def inT(x:Int):Prop:=0<=x/\x<=T12
def b9b(h:inT m):momB (.int m)=true:=by
 rw[a3Y,decide_eq_true h.1,decide_eq_true (show m<=1000000000000 from h.2)];rfl
def leS(a b:Str):Prop:=PySem.Spec.ltCps b.cps.toList a.cps.toList=false
def leS_iff{a b:Str}:leS a b↔¬ b.cps.toList<a.cps.toList:=by unfold leS;rw[PyProof.Rows.ltCps_eq];simp
def b1p{a b c:Str}(h:leS a b)(g:leS b c):leS a c:=by
 rw[leS_iff]at *;exact List.le_trans (α:=Nat) h g
def b3g{a b:Str}(h:leS a b)(g:leS b a):a=b:=by
 rw[leS_iff]at *;have e:a.cps.toList=b.cps.toList:=eU (α:=Nat) h g;cases a;cases b;simpa using e
def c1s:∀{l:List Str}{p:Str},PyProof.Rows.risingS p l=true->(p::l).Pairwise leS:=by intro z0;induction z0 with
 |nil=>intro p _;exact dP _ _
 |cons x r I0=>
  intro p h;unfold PyProof.Rows.risingS at h;rw[bD,Bool.not_eq_true']at h;have b:=I0 h.2;refine aT.mpr ⟨λy a=>?_,b⟩;rcases aD.mp a with rfl |a
  ·exact h.1
  ·exact b1p h.1 (db b a)
theorem a5u:∀{l:List Str},PyProof.Rows.sortedS l=true->l.Pairwise leS
 |[],_=>bd.nil
 |_::_,h=>c1s h
theorem a1M:∀{xs ys:List Str},xs.Pairwise leS->ys.Pairwise leS->xs.Perm ys->xs=ys
 |[],ys,_,_,h=>(fB.mp h).symm
 |x::xs,[],_,_,h=>by have:=h.length_eq;simp at this
 |x::xs,y::ys,h1,h2,h=>by
  have e:x=y:=by
   have c:=h.mem_iff.mp (b5);have b:=h.mem_iff.mpr (b5);rcases aD.mp c with e |c
   ·omega
   ·rcases aD.mp b with e |b
    ·simp_all
    ·exact b3g (db h1 b) (db h2 c)
  subst e;rw[a1M (aT.mp h1).2 (aT.mp h2).2 h.cons_inv]
structure Pts (T:List Tl) (ms:List Int):Prop where
 so:ms.Pairwise (·<·)
 z:0∈ms
 b:∀τ∈T,τ.b∈ms
 e:∀τ∈T,∀e,τ.e=some e->e∈ms
def a78(h:r∈a0i T k):∃τ∈T,r.b=τ.b/\r.e=τ.e:=by
 obtain⟨τ,a,rfl⟩:=aF.mp h;exact⟨τ,(aV.mp a).1,rfl,rfl⟩
def a1W(P:Pts T ms)(k:Str)(hbt:b<=t)(hm:∀c∈ms,c<=t->c<=b):a0f (a0i T k) t=a0f (a0i T k) b:=by
 unfold a0f;rw[a4Q λr f=>?_];obtain⟨τ,a,g,d⟩:=a78 (by simpa using f);exact a7Z hbt (λh=>by rw[g]at h ⊢;exact hm _ (P.b τ a) h) λe i h=>hm _ (P.e τ a e (by simp_all)) h
def a4R(ok:OkT T)(k:Str)(h:t<0):a0f (a0i T k) t=.non:=by
 unfold a0f
 have:(a0i T k).reverse.find? (·.has t)=none:=by
  rw[dG];intro r b;obtain⟨τ,a,c,d⟩:=a78 (by simpa using b)
  have:=(ok τ a).st.1
  rw[a4N (by lia)]
  decide
 rw[this]
def a7a(h:IsLine T k [])(m:Int):a0f (a0i T k) m=.non:=by
 have:=h.v m
 unfold optW at this
 split at this
 ·omega
 ·cases this
def b4d{α:Type}{f:Str->List α}:∀{ts:List Str},(∀k∈ts,p k=false->f k=[])->ts.flatMap f=(ts.filter p).flatMap f:=by intro z0;induction z0 with
 |nil=>intro _;exact rfl
 |cons k ts I0=>
  intro h;rw[b9,bg,I0 λj a=>h j (.tail _ a)]
  by_cases c:p k=true
  ·rw[if_pos c,b9]
  ·rw[if_neg c,h k (.head _) (by simpa using c)];rfl
def a7b(k:Str):∀{n:Nat}{T:List Tl},T.length=n->OkT T->∃L,IsLine T k L:=by intro z0;induction z0 with
 |zero=>intro T h _;exact⟨[],by rw[cf.mp h];exact IsLine.nil rfl⟩
 |succ n I0=>
  intro T h ok;obtain⟨U,τ,rfl⟩:∃U τ,T=U++[τ]:=⟨T.dropLast,T.getLast (λz=>by rw[z]at h;cases h),(fC _).symm⟩;obtain⟨L,a⟩:=I0 (by simpa using h) fun σ b=>ok σ (bP _ b)
  by_cases c:τ.key=k
  ·subst c;exact⟨_,a.snoc (ok τ (by simp))⟩
  ·refine⟨L,a.can,a.pl,by have:=a.len;simp;lia,λt=>?_⟩;rw[a1U,if_neg c,bj];exact a.v t
def a3v(ok:OkT T)(ka:KeysAt T ts)(h:k∉ts):IsLine T k []:=by
 obtain⟨L,a⟩:=a7b k rfl ok
 by_cases c:L=[]
 ·simp_all
 ·exact absurd ((ka.is k).mpr ⟨L,a,c⟩) h
local macro_rules | `(tactic| walk_at "go1")=>`(tactic| first | refine i_I (show (0:Int)<_ by decide) ?_ | refine a1i (by assumption) (by with_unfolding_all rfl) ?_ | (refine i_I ⟨by decide,by decide,by decide⟩ ?_;rw[a24]))
noncomputable def bF(T U:List Tl)(k:Str)(t:Int):Option (List Z):=if a0f (a0i T k) t=.non\/a0f (a0i U k) t=.non then none else some [a0f (a0i T k) t,a0f (a0i U k) t]
noncomputable def pW:List Z->Bool
 |[x,y]=>!decide (x=.non)&&!decide (y=.non)
 |_=>false
def b3h:∀{L:List Rw},Rise L->val (L.filter λr=>p r.w) t=(val L t).filter p:=by intro z0;induction z0 with
 |nil=>intro _;exact rfl
 |cons r L I0=>
  intro h;have a:=I0 h.tail;rw[bg,a0k]
  by_cases c:p r.w=true
  ·rw[if_pos c,a0k,a];cases r.has t
   ·rfl
   ·simp[c,ej]
  ·rw[if_neg c,a];cases e:r.has t with
   |false=>rfl
   |true=>
    rw[a1T λs b=>((aT.mp h.2).1 s b).has e];simp[ej,c]
def a6q{bs:List Int}(h:∀r∈l,r.b∈bs/\∀e,r.e=some e->e∈bs)(hbt:b<=t)(hm:∀c∈bs,c<=t->c<=b):val l t=val l b:=by
 unfold val;rw[a4Q λr a=>a7Z hbt (λq=>hm _ (h r a).1 q) λe d q=>hm _ ((h r a).2 e d) q]
def b3i(hb:a4P (l++o) bs)(t:Int):val (join (pcs (a1a l o) bs)) t=a1a l o t:=by
 have j:∀r∈l,r.b∈bs/\∀e,r.e=some e->e∈bs:=λr a=>⟨(hb.2 _).mpr ⟨r,bP _ a,.inl rfl⟩,λe d=>(hb.2 _).mpr ⟨r,bP _ a,.inr d⟩⟩;have f:∀r∈o,r.b∈bs/\∀e,r.e=some e->e∈bs:=λr a=>⟨(hb.2 _).mpr ⟨r,bz _ a,.inl rfl⟩,λe d=>(hb.2 _).mpr ⟨r,bz _ a,.inr d⟩⟩;rw[(a00 (a0M _ hb.1)).2.1,a6T hb.1 λt b _ k g=>by unfold a1a;rw[a6q j k g,a6q f k g]]
 split
 ·rfl
 ·next c=>
  have i:∀{m:List Rw},(∀r∈m,r.b∈bs/\∀e,r.e=some e->e∈bs)->val m t=none:=λ{m} h=>a1T λr a=>a4N (by simp_all);unfold a1a;rw[i j,i f];rfl
def b6f(P:Pts T ms)(Q:Pts U ms)(okT:OkT T)(il:IsLine T k l)(jl:IsLine U k o)(hb:a4P (l++o) bs):(join (pcs (a1a l o) bs)).filter (λr=>pW r.w)=join (pcs (bF T U k) ms):=by
 have a:=a00 (a0M (a1a l o) hb.1);have f:=a00 (a0M (bF T U k) P.so);refine a7Y ⟨λr i=>a.1.1 r (aV.mp i).1,a.1.2.sublist bC⟩ f.1 λt=>?_;rw[b3h a.1.rise,b3i hb,f.2.1,a6T P.so λt b _ d g=>by unfold bF;rw[a1W P k d g,a1W Q k d g]];unfold a1a;rw[il.v,jl.v,a5p,a5p];have e:(if a0f (a0i T k) t=.non/\a0f (a0i U k) t=.non then none else some [a0f (a0i T k) t,a0f (a0i U k) t]).filter pW=bF T U k t:=by
  unfold bF
  by_cases c1:a0f (a0i T k) t=.non<;>by_cases c2:a0f (a0i U k) t=.non<;>simp[c1,c2,ej,pW]
 rw[e]
 split
 ·rfl
 ·next c=>
  unfold bF;rw[a4R okT k (by
   by_cases h:0<=t
   ·exact absurd (cn.mpr ⟨0,P.z,decide_eq_true h⟩) c
   ·lia)]
  exact if_pos (.inl rfl)
def b3j(h:∀t,f t=none):∀ms:List Int,pcs f ms=[]:=by intro z0;induction z0 with
 |nil=>exact rfl
 |cons m ms I0=>unfold pcs;rw[h m,I0];rfl
noncomputable def bK(T U:List Tl)(ms:List Int)(k:Str):List (Str×Rw):=(join (pcs (bF T U k) ms)).map λr=>(k,r)
noncomputable def a2J(v:Str×Rw):Z:=.tup (.str v.1::.int v.2.b::oz v.2.e::v.2.w)
def bF_w{T U:List Tl}{k:Str}{t:Int}{w:List Z}(h:bF T U k t=some w):∃x y,w=[x,y]/\x=a0f (a0i T k) t/\y=a0f (a0i U k) t/\x≠.non/\y≠.non:=by
 unfold bF at h
 split at h
 ·cases h
 ·next c=>
  rw[not_or]at c;injection h with h
  exact⟨_,_,h.symm,rfl,rfl,c.1,c.2⟩
structure TabD (G:Hq) (d:Addr) (T:List Tl) (ts:List Str) (kvs:List (Key×Z)):Prop where
 at_:G d=some (.dK kvs)
 ks:kvs.map (·.1)=ts.map (λs=>(Sum.inr s:Key))
 ka:KeysAt T ts
 ln:∀k∈ts,∃l L,valZ kvs (.inr k)=some (.ref l)/\G l=some (.lst (L.map Rw.z))/\IsLine T k L
 no:∀k,k∉ts->valZ kvs (.inr k)=none
def TabD.keep(h:TabD G d T ts kvs)(s:Sm G G'):TabD G' d T ts kvs:=⟨s _ _ h.at_,h.ks,h.ka,λk e=>by obtain⟨l,L,a,b,c⟩:=h.ln k e;exact⟨l,L,a,s _ _ b,c⟩,h.no⟩
def a39(nd:(rows.map (·.1)).Nodup):a29 [] rows=rows:=by
 have c:∀a b,((b++a).map (·.1)).Nodup->a29 b a=b++a:=by
  intro a
  induction a with
  |nil=>intro b _;simp[a29]
  |cons r a ih=>
   intro b h;have d:valZ b r.1=none:=by
    cases e:valZ b r.1 with
    |none=>rfl
    |some z=>
     unfold valZ at e;cases e2:b.find? λi=>decide (i.1=r.1) with
     |none=>rw[e2]at e;cases e
     |some q=>
      rw[aP,cg]at h;have g:q.1=r.1:=by have:=ei e2;simpa using this
      exact absurd g (h.2.2 q.1 (bh (cN e2)) r.1 (by simp))
   show a29 (putZ b r.1 r.2) a=_
   rw[a66 d,ih _ (by simp_all)];simp
 simpa using c rows [] (by simp_all)
def a79(nd:(kvs.map (·.1)).Nodup)(h:(k,z)∈kvs):valZ kvs k=some z:=by
 induction kvs with
 |nil=>simp at h
 |cons q kvs ih=>
  rw[aO,bx]at nd;unfold valZ;rw[bQ];rcases aD.mp h with rfl |h
  ·simp
  ·have a:¬ q.1=k:=λb=>nd.1 (b▸bh h);rw[decide_eq_false a];exact ih nd.2 h
def Two(l:List Rw):Prop:=∀r∈l,∃x y,r.w=[x,y]/\flat 0 x=true/\flat 0 y=true
def b3k(hl:Plain l)(ho:Plain o)(hb:bs.Pairwise (·<·)):Two (join (pcs (a1a l o) bs)):=λr c=>by
 obtain⟨d,a,b⟩:=(a00 (a0M _ hb)).2.2.2 r c;obtain⟨_,e⟩:=a3X a;unfold a1a at e
 split at e
 ·cases e
 ·exact⟨_,_,b.trans (bv.inj e).symm,a2H hl _,a2H ho _⟩
def b3l(hb:bs.Pairwise (·<·)):(join (pcs (a1a l o) bs)).length<=bs.length:=aM (a00 (a0M _ hb)).2.2.1 (a4O _ _)
noncomputable def begs(ps:List Rw):List Int:=ps.map (·.b)++ps.filterMap (·.e)
def b3m(ps:List Rw):(begs ps).length<=2*ps.length:=by grind [begs]
def a8a(h:r∈ps):r.b∈begs ps/\∀x,r.e=some x->x∈begs ps:=
 ⟨aE.mpr (.inl (aF.mpr ⟨r,h,rfl⟩)),λx a=>aE.mpr (.inr (bp.mpr ⟨r,h,a⟩))⟩
def b1q{α:Type}[BEq α][LawfulBEq α]:∀{l B:List α},l.Nodup->(∀x∈l,x∈B)->l.length<=B.length:=by intro z0;induction z0 with
 |nil=>intro _ _ _;exact aW _
 |cons x l I0=>
  intro B h q;obtain⟨c,d⟩:=bx.mp h;have a:=q x (.head _)
  have:=I0 d λy b=>(fw (show y≠x from λe=>c (e▸b))).mpr (q y (.tail _ b))
  rw[fz a]at this;have f:=fA a;rw[aL]
  lia
def a9a(h:a4P rows bs):bs.length<=2*rows.length:=by
 refine aM (b1q (h.1.imp λ{a b} q=>Int.ne_of_lt q) λx d=>?_) (b3m rows);obtain⟨r,c,e |e⟩:=(h.2 x).mp d
 ·rw[e];exact (a8a c).1
 ·exact (a8a c).2 x e
def b3n{a:Ad}{b:Bool}{G:Hq}{p:Addr}{S:Addr->Prop}{T:List Tl}(h:Sheet a b G p S T):∃dx n d,G p=some (.ins (a.cK b) dx (shF n d)):=by obtain⟨_,_,_,m⟩:=h;exact⟨_,_,_,m.ob⟩
def a5v(a:Ad):P3:=λws G R=>∃b:Bool,Ex4 λ(p:Addr) (S:Addr->Prop) (T:List Tl) (q:Int)=>ws=[.ref p,.int q]/\Sheet a b G p S T/\OkT T/\Few T/\inR T q/\∀d ts kvs G',G d=none->Sm G G'->TabD G' d (T.take q.toNat) ts kvs->ts.length<=63->R (.ref d) G'
set_option tactic.hygienic true in
def a5w(T:Txt K mg a):Cal P w K mg base CX0 5 "table_at" (lowP K (a5v a)):=by
 refine fnc 2 (N:=["sheet","knowing"]) T.br (T.f 19 _ rfl) ?_;walk_at "in";obtain⟨b,h⟩:=h;refine⟨_,(a0B (a1F (q_Y (a6Q rfl) (T.b 12) (q_k (q_l ["key","knowing","sheet"] [none,some 1,some 0] (.nm 0) (hi:=(a1G (q_m (qv 0) (clK T b) (a1z T b) hr (q_k (qv 1) a0z) ))) (he:=λ_ _ _ _=>(a8t (q_k (qv 0) (q_k (q_m (qv 2) (clK T b) (a3m T b) hr (q_k (qv 0) (q_k (qv 1) a0z)) ) a0z))))) a0z)))),?_⟩;obtain⟨p,S,T',q,rfl,Q,ok,F,hq,fin⟩:=h;obtain⟨dx,n,d0,ob⟩:=b3n Q;symm;refine⟨p,dx,_,rfl,ob,a2e (by decide +kernel) (by decide +kernel),?_⟩;symm;refine⟨b,p,S,T',q,rfl,Q,F,.inl ⟨hq,λt u G1 ht I gt R hl=>?_⟩⟩;symm;refine a0E gt ?_;intro D hD;have nd:(u.map (λs=>(Sum.inr s:Key))).Nodup:=bo.mpr (R.nd.imp λh z=>h (by injection z));refine a6F (λi B A=>∃c:List (Key×Z),B=c.map prZ/\c.map (·.1)=(u.take i).map (λs=>(Sum.inr s:Key))/\(∀k∈u.take i,∃l L,((Sum.inr k:Key),Z.ref l)∈c/\l≠D/\A l=some (.lst (L.map Rw.z))/\IsLine (T'.take q.toNat) k L)/\Sm G1 A/\A D=some (.lst B)) ⟨[],rfl,rfl,(λk h=>by simp at h),Sm.new hD,a0a⟩ (by rintro i B A _ ⟨_,_,_,_,s,_⟩;exact s _ _ gt) ?_ ?_
 ·rintro i x B A y ⟨c,rfl,hr,g,s,C⟩;rw[aK]at y;cases hx':u[i]? with
  |none=>rw[hx']at y;cases y
  |some k=>
  rw[hx']at y;cases y;have hi:=(aI.mp hx').1;have r:nmOk k:=a38 (fun τ hτ=>ok τ (bS hτ)) ((R.is k).mp (aS hx'));have H:=Q.keep (Sm.ks (I.trans s));obtain⟨Y,n2,d2,aa⟩:=b3n H;have ab:c.length<=63:=by have:=congrArg bf hr;rw[aB,aB,aR]at this;omega
  refine⟨_,rfl,?_⟩;symm;refine⟨p,Y,_,rfl,aa,a2e (by decide +kernel) (by decide +kernel),?_⟩;symm;refine⟨b,p,S,T',.str k,q,rfl,H,(λ_=>b1f r),F.1,.inl ⟨hq,k,rfl,r,λl L G2 hl2 v gl il=>?_⟩⟩;have G:l≠D:=Ne.symm (a0d C hl2);symm;refine⟨lenK rfl,v _ _ C,by rw[aB];exact a0h (by omega),c++[(.inr k,.ref l)],by rw[aP];rfl,by rw[aP,hr,take_snoc hx',aP];rfl,λj m=>?_,(s.trans v).put hD,a0a⟩;rw[take_snoc hx']at m;rcases aE.mp m with m |m
  ·obtain⟨l',L',X,M,U,V⟩:=g j m;exact⟨l',L',bP _ X,M,by rw[a0e M];exact v _ _ U,V⟩
  ·rw[aJ.mp m];exact⟨l,L,by simp,G,by rw[a0e G];exact gl,il⟩
 ·rintro B G2 ⟨c,rfl,hr,g,s,C⟩;rw[aB,bu]at hr g;have ab:c.length=u.length:=by have:=congrArg bf hr;rw[aB,aB]at this;exact this
  have E:(c.map (·.1)).Nodup:=by rw[hr];exact nd
  symm;refine a6R C (by omega) λd J=>?_;rw[a39 E];have v:=s.trans (Sm.new (o:=.dK c) J);refine fin d u c _ (I.free (s.free J)) (I.trans v) ⟨a0a,hr,R,λk r=>?_,λk r=>?_⟩ hl
  ·obtain⟨l,L,X,M,U,V⟩:=g k r;exact⟨l,L,a79 E X,a0b U J,V⟩
  ·cases e:valZ c (.inr k) with
   |none=>rfl
   |some z=>exact absurd (a68 hr e) r
def a7c(a:Ad):P3:=λws G R=>Ex10 λ(b c:Bool) (p r:Addr) (S V:Addr->Prop) (T U:List Tl) (q u:Int)=>ws=[.ref p,.int q,.ref r,.int u]/\Sheet a b G p S T/\Sheet a c G r V U/\OkT T/\OkT U/\Few T/\Few U/\T.length<=63/\U.length<=63/\inR T q/\inR U u /\
 ∀t ts vs G',G t=none->Sm G G'->KeysAt (T.take q.toNat) ts->ts.length<=63->vs.length<=100000->(∀ms,Pts (T.take q.toNat) ms->Pts (U.take u.toNat) ms->vs=ts.flatMap (bK (T.take q.toNat) (U.take u.toNat) ms))->G' t=some (.lst (vs.map a2J))->R (.ref t) G'
set_option tactic.hygienic true in
def a7d(T:Txt K mg a):Cal P w K mg base CX0 6 "by_key" (lowP K (a7c a)):=by
 refine fnc 4 (N:=["sheet","knowing","other","other_knowing","table","other_table","told","key","begin","end","worth","other_worth"]) T.br (T.f 21 _ rfl) ?_;walk_at "in";refine⟨_,(a0c (by ac_rfl)
  (a0c (by ac_rfl)
  (a0c (by ac_rfl)
  (a0c (a15 (pt:=(.nm 7)) fW.never rfl (a1G (q_B (a55 rfl) (T.b 8) (q_k (qv 4) a0z))) (p_nm (nmI 7 nd))
  (a0B (a15 (pt:=(.tp [8,9,10,11])) fW.never rfl (a1G (q_c (a1e T) hr (q_k (q_ix c0Y (qv 4) (qv 7) (λ_ _=>rfl)) (q_k (by ac_rfl) a0z)) )) (by ac_rfl)
  (by ac_rfl))))
  (by ac_rfl))))),?_⟩
 obtain⟨b,c,p,r,S,V,T',U',q,u,rfl,shp,shr,okT0,okU0,fewT,fewU,hT,hU,hq,hu,fin⟩:=h;symm;refine⟨b,p,S,T',q,rfl,shp,okT0,fewT,hq,λd ts kvs G1 hd s1 n hl1=>?_⟩;symm;refine⟨c,r,V,U',u,rfl,shr.keep (Sm.ks s1),okU0,fewU,hu,λd2 us kvs2 G2 hd2 s2 g hl2=>?_⟩;have n:=n.keep s2;have s02:=s1.trans s2;have lT:(T'.take q.toNat).length<=63:=by rw[aR];omega
 have lU:(U'.take u.toNat).length<=63:=by rw[aR];omega
 have okU:OkT (U'.take u.toNat):=fun τ h=>okU0 τ (bS h);have okT:OkT (T'.take q.toNat):=fun τ h=>okT0 τ (bS h);generalize T'.take q.toNat=T at n fin lT okT;generalize U'.take u.toNat=U at g fin lU okU;clear s1 s2 hd hd2;symm;refine⟨lenK rfl,λW hW=>?_⟩;have hWG:G W=none:=s02.free hW;generalize ee:put G2 W _=G3;obtain⟨gW,s23⟩:=newK ee hW;have n:=n.keep s23;have g:=g.keep s23;symm;refine a4L n.at_ n.ks (by omega) λQ D hQ hperm hsort=>?_;have esk:D=ts:=a1M (a5u hsort) (a5u n.ka.so) hperm;subst esk;have gQ:put G3 Q (.lst (D.map Z.str)) Q=some (.lst (D.map Z.str)):=a0a;have B:=a0b (o:=.lst (D.map Z.str)) gW hQ;have H:Sm G3 (put G3 Q (.lst (D.map Z.str))):=Sm.new hQ;have nQW:Q≠W:=Ne.symm (a0d gW hQ);generalize put G3 Q (.lst (D.map Z.str))=G4 at gQ B H ⊢;have n:=n.keep H;have g:=g.keep H;have s04:=s02.trans (s23.trans H);have ndW:d≠W:=λz=>by rw[z]at n;have:=n.at_;rw[B]at this;cases this
 have nd2W:d2≠W:=λz=>by rw[z]at g;have:=g.at_;rw[B]at this;cases this
 clear s02 s23 H hQ gW hW;symm;refine a0E gQ ?_;refine a0P (λi σ Y=>Ex6 λ(vs:List (Str×Rw)) (v1 J v3 I v5:Option Z)=>(∀s,Pts T s->Pts U s->vs=(D.take i).flatMap (bK T U s))/\vs.length<=600*i/\Kq W G4 Y/\Y W=some (.lst (vs.map a2J))/\σ=[some (.ref p),some (.int q),some (.ref r),some (.int u),some (.ref d),some (.ref d2),some (.ref W),v1,J,v3,I,v5]) ⟨[],_,_,_,_,_,(λs _ _=>by simp),by simp,λ_ _ e _=>e,B,rfl⟩ (by rintro i σ Y _ ⟨_,_,_,_,_,_,_,_,k,_⟩;exact k _ _ gQ nQW) ?_ ?_
 ·rintro i x σ G5 v ⟨vs,v1,J,v3,I,v5,hvs,hvl,F,gW5,rfl⟩;rw[aK]at v;cases hx':D[i]? with
  |none=>rw[hx']at v;cases v
  |some k=>
  rw[hx']at v;cases v;have hi:=(aI.mp hx').1;obtain⟨l,L,hv,gl,il⟩:=n.ln k (aS hx');have nlW:l≠W:=λz=>by
   obtain⟨w,hw1,hw2⟩:∃w,L=w/\w=L:=⟨L,rfl,rfl⟩;have hLe:L=[]:=by
    rw[z,B]at gl;simpa using gl.symm
   obtain⟨M,m1,m2⟩:=(n.ka.is k).mp (aS hx');exact m2 (by rw[m1.uniq il];exact hLe)
  refine⟨_,rfl,?_⟩;symm;refine c0Z (F _ _ n.at_ ndW) rfl hv ?_;symm;refine b0H (F _ _ g.at_ nd2W) ?_;symm;refine⟨lenK rfl,λe he=>?_⟩;generalize ee:put G5 e _=G6;obtain⟨ge,C⟩:=newK ee he;symm;refine b0F (C _ _ (F _ _ g.at_ nd2W)) rfl ?_;obtain⟨R,L2,hval,gl2,jl⟩:∃R L2,(valZ kvs2 (.inr k)).getD (.ref e)=.ref R/\G6 R=some (.lst (L2.map Rw.z))/\IsLine U k L2:=by
   by_cases c:k∈us
   ·obtain⟨R,L2,e1,e2,e3⟩:=g.ln k c;have n2:R≠W:=λz=>by
     have hLe:L2=[]:=by
      rw[z,B]at e2;simpa using e2.symm
     obtain⟨M,m1,m2⟩:=(g.ka.is k).mp c;exact m2 (by rw[m1.uniq e3];exact hLe)
    exact⟨R,L2,by rw[e1];rfl,C _ _ (F _ _ e2 n2),e3⟩
   ·exact⟨e,[],by rw[g.no k c];rfl,ge,a3v okU g.ka c⟩
  rw[hval];have len1:=il.len;have len2:=jl.len;symm;refine⟨l,R,L,L2,rfl,C _ _ (F _ _ gl nlW),gl2,il.can.rise,il.pl,jl.can.rise,jl.pl,by omega,by omega,λt bs G7 ht s67 hb gt=>?_⟩;have two:=b3k il.pl jl.pl hb.1;have Ml:=b3l (l:=L) (o:=L2) hb.1;have bl:=a9a hb;rw[aG]at bl;have eqM:∀s,Pts T s->Pts U s->(join (pcs (a1a L L2) bs)).filter (λr=>pW r.w)=join (pcs (bF T U k) s):=λs P Q=>b6f P Q okT il jl hb;have gW7:=s67 _ _ (C _ _ gW5);have kq7:Kq W G4 G7:=λb o e1 X=>s67 _ _ (C _ _ (F b o e1 X));have ntW:t≠W:=λz=>by rw[z]at ht;rw[C _ _ gW5]at ht;cases ht
  generalize join (pcs (a1a L L2) bs)=M at two Ml eqM gt;symm;refine a0E gt ?_;refine a0P (λj σ Y=>Ex4 λ(J v3 I v5:Option Z)=>Kq W G7 Y/\Y W=some (.lst ((vs++((M.take j).filter λr=>pW r.w).map λr=>(k,r)).map a2J))/\σ=[some (.ref p),some (.int q),some (.ref r),some (.int u),some (.ref d),some (.ref d2),some (.ref W),some (.str k),J,v3,I,v5]) ⟨_,_,_,_,λ_ _ e _=>e,by simpa using gW7,rfl⟩ (by rintro j σ Y _ ⟨_,_,_,_,k,_⟩;exact k _ _ gt ntW) ?_ ?_
  ·rintro j x σ G8 v ⟨J,v3,I,v5,E,A,rfl⟩;rw[aK]at v;cases hr':M[j]? with
   |none=>rw[hr']at v;cases v
   |some m=>
   rw[hr']at v;cases v;have hj:=(aI.mp hr').1;obtain⟨x,y,ew,fx,fy⟩:=two m (aS hr');have hz:m.z=.tup [.int m.b,oz m.e,x,y]:=by unfold Rw.z;rw[ew]
   have lf:((M.take j).filter λr=>pW r.w).length<=600:=aM (cr _ _) (by rw[aR];omega);have tk:(M.take (j+1)).filter (λr=>pW r.w)=(M.take j).filter (λr=>pW r.w)++[m].filter (λr=>pW r.w):=by rw[take_snoc hr',cA]
   rw[hz];refine⟨_,rfl,?_⟩;symm
   by_cases c1:x=.non
   ·subst c1;symm;refine⟨_,_,_,_,E,?_,rfl⟩;rw[tk];simpa[ew,pW]using A
   ·refine ifN (λ_=>?_) λz=>absurd z c1;symm
    by_cases c2:y=.non
    ·subst c2;symm;refine⟨_,_,_,_,E,?_,rfl⟩;rw[tk];simpa[ew,pW]using A
    ·refine ifN (λ_=>?_) λz=>absurd z c2;symm;refine a1H A ?_;symm;refine⟨lenK rfl,?_⟩;symm;refine a0F A ?_ ?_
     ·rw[aB,aG,aB]
      have:600*i<=600*63:=cO (aC _) (by omega)
      exact aZ (by omega:_<40000) (by decide)
     refine⟨_,_,_,_,λb o e1 X=>by rw[a0e X];exact E b o e1 X,?_,rfl⟩;rw[a0a,tk];simp[ew,pW,c1,c2,a2J]
  ·rintro σ G8 ⟨J,v3,I,v5,E,A,rfl⟩;rw[aB,bu]at A;have lf:(M.filter λr=>pW r.w).length<=600:=aM (cr _ _) (by omega);symm;refine⟨_,_,_,_,_,_,λs P Q=>?_,?_,λb o e1 X=>E b o (kq7 b o e1 X) X,A,rfl⟩
   ·rw[take_snoc hx',cP,<- hvs s P Q,eqM s P Q];simp[bK]
   ·rw[aG,aB];omega
 ·rintro σ G5 ⟨vs,v1,J,v3,I,v5,hvs,hvl,F,gW5,rfl⟩;rw[aB,bu]at hvs;symm;exact fin W D vs G5 hWG (λb o e=>F b o (s04 _ _ e) (a0d e hWG)) n.ka hl1 (by rw[aB]at hvl;omega) hvs gW5
noncomputable def cmR(r s:Rw):Option Rw:=if r.w=s.w/\bef (if s.b > r.b then s.b else r.b) (emin r.e s.e)=true then some ⟨if s.b > r.b then s.b else r.b,emin r.e s.e,r.w⟩ else none
def a0S(h:cmR r s=some c):r.w=s.w/\c.w=r.w/\c.good/\r.b<=c.b/\s.b<=c.b/\c.e=emin r.e s.e/\c.b=if s.b > r.b then s.b else r.b:=by
 unfold cmR at h
 by_cases q:r.w=s.w/\bef (if s.b > r.b then s.b else r.b) (emin r.e s.e)=true
 ·rw[if_pos q]at h;injection h with h
  subst h;refine⟨q.1,rfl,q.2,?_,?_,rfl,rfl⟩<;>(simp only;split<;>lia)
 ·simp_all
def b1r(h:cmR r s=some c)(t:Int):c.has t=(r.has t&&s.has t):=by
 obtain⟨_,_,_,f,e,a,d⟩:=a0S h;unfold Rw.has;rw[a,a3r,d]
 by_cases q:s.b > r.b
 ·rw[if_pos q]
  by_cases c1:s.b<=t
  ·simp[c1,show r.b<=t by lia]
  ·simp[c1]
 ·rw[if_neg q]
  by_cases c1:r.b<=t
  ·simp[c1,show s.b<=t by lia]
  ·simp[c1]
def c1t(hw:r.w=s.w)(h1:r.has t=true)(h2:s.has t=true):∃c,cmR r s=some c:=by
 unfold cmR;rw[if_pos]
 ·simp_all
 refine⟨hw,?_⟩;unfold Rw.has at h1 h2;simp at h1 h2
 have:∀{x:Int}{e:Option Int},x<=t->bef t e=true->bef x e=true:=λ{x e} h q=>by
  cases e with
  |none=>rfl
  |some e=>simp only[bef,decide_eq_true_eq]at *;omega
 refine this (by grind) ?_;rw[a3r,h1.2,h2.2];rfl
def b1s{r:Rw}{x:Option Int}{e:Int}(h:r.e=some e):∃e',emin r.e x=some e'/\e'<=e:=by rw[h];exact b04
def a9b{x:Option Int}{e:Int}:∃e',emin x (some e)=some e'/\e'<=e:=by
 cases x with
 |none=>exact⟨e,rfl,bE _⟩
 |some a=>exact⟨_,rfl,by split<;>omega⟩
noncomputable def crs(L M:List Rw):List Rw:=L.flatMap λr=>M.filterMap (cmR r)
def mem_crs:c∈crs L M↔∃r∈L,∃s∈M,cmR r s=some c:=by
 unfold crs;simp
def a7e(hL:Can L)(hM:Can M):Can (crs L M):=by
 refine⟨λc d=>?_,?_⟩
 ·obtain⟨r,_,s,_,h⟩:=mem_crs.mp d;exact (a0S h).2.2.1
 ·unfold crs;rw[cQ];refine⟨λr C=>eq.mpr (hM.2.imp λ{s t} h c d A a=>?_),hL.2.imp λ{r D} h c d A a=>?_⟩
  ·obtain⟨e,g,v,f⟩:=h;obtain⟨n,l,_,u,B,b,_⟩:=a0S d;obtain⟨o,j,_,y,q,w,_⟩:=a0S a;obtain⟨i,k,x⟩:=@a9b r.e e;rw[g,k]at b;refine⟨i,b,by lia,λz=>?_⟩;exact λ_=>f (by lia) (by simp_all)
  ·obtain⟨s,_,p⟩:=bp.mp d;obtain⟨t,_,m⟩:=bp.mp a;obtain⟨e,g,v,f⟩:=h;obtain⟨n,l,_,u,B,b,_⟩:=a0S p;obtain⟨o,j,_,y,q,w,_⟩:=a0S m;obtain⟨i,k,x⟩:=@b1s r s.e e g;rw[k]at b;exact⟨i,b,by lia,λz=>by rw[l,j];exact f (by lia)⟩
def a7f(h:Rise L)(hr:r∈L)(hs:s∈L)(h1:r.has t=true)(h2:s.has t=true):r=s:=by
 induction L with
 |nil=>simp at hr
 |cons x L ih=>
  have a:=aT.mp h.2;rcases aD.mp hr with e1 |hr<;>rcases aD.mp hs with e2 |hs
  ·simp_all
  ·rw[e1]at h1;rw[(a.1 s hs).has h1]at h2;cases h2
  ·rw[e2]at h2;rw[(a.1 r hr).has h2]at h1;cases h1
  ·exact ih h.tail hr hs
def b4e(h:Rise L)(hr:r∈L)(hs:s∈L)(e:r.b=s.b):r=s:=a7f h hr hs (a5i (h.1 r hr)) (e▸a5i (h.1 s hs))
def a9c(h:Rise L):L.Nodup:=by
 refine bd.imp_of_mem (λ{r s} a c q z=>?_) h.2
 have:=q.b (h.1 r a)
 rw[z]at this;lia
structure J where
 w:Str
 k:Str
 j:Str
 b:Int
 e:Option Int
noncomputable def J.r(x:J):Rw:=⟨x.b,x.e,[.str x.w]⟩
noncomputable def J.p4(x:J):List Tim.Pz:=[.inr x.w,.inr x.k,.inr x.j,.inl (some x.b)]
noncomputable def J.p(x:J):List Tim.Pz:=[.inr x.w,.inr x.k,.inr x.j,.inl (some x.b),.inl x.e]
def p4_iff{x y:J}:x.p4=y.p4↔x.w=y.w/\x.k=y.k/\x.j=y.j/\x.b=y.b:=by simp[J.p4]
def J.ext'{x y:J}(h:x.p4=y.p4)(e:x.e=y.e):x=y:=by
 rw[p4_iff]at h;cases x;simp_all
def Un(X:List J):Prop:=∀x∈X,∀y∈X,x.p4=y.p4->x=y
def cmp5{x y:J}(h:x.p4=y.p4->x=y):Tim.cmpT x.p y.p=true:=by
 by_cases c:x=y
 ·subst c;unfold J.p;simp[Tim.cmpT]
 ·have a:=λz=>c (h (p4_iff.mpr z));unfold J.p;simp only[Tim.cmpT,Tim.cmp1]
  split
  ·simp_all
  ·rfl
def lt5{x y:J}(h:x.p4≠y.p4):Tim.ltT x.p y.p=Tim.ltT x.p4 y.p4:=by
 rw[Ne,p4_iff]at h;unfold J.p J.p4;simp only[Tim.ltT]
 split
 ·simp_all
 ·rfl
abbrev Up(x y:J):Prop:=Tim.ltT y.p4 x.p4=false
def b3o{α β:Type}(f:α->β):∀{os:List β}{X:List α},os.Perm (X.map f)->∃Y:List α,os=Y.map f/\Y.Perm X:=by intro z0;induction z0 with
 |nil=>intro X h;exact⟨[],rfl,by have:=fB.mp h;rw[de.mp this]⟩
 |cons o os I0=>
  intro X h;obtain⟨x,b,rfl⟩:=aF.mp (h.mem_iff.mp (.head _));obtain⟨A,B,rfl⟩:=List.append_of_mem b;have c:os.Perm ((A++B).map f):=by
   have:((A++x::B).map f).Perm _:=(du).map f
   exact (h.trans this).cons_inv
  obtain⟨Y,rfl,p⟩:=I0 c;exact⟨x::Y,rfl,(p.cons x).trans du.symm⟩
def MJ(T U:List Tl)(x:J):Prop:=∃L M,IsLine T x.k L/\IsLine U x.j M/\x.r∈crs L M
def b9c(hx:MJ T U x)(hy:MJ T U y)(h:x.p4=y.p4):x=y:=by
 obtain⟨L,M,e,f,g⟩:=hx;obtain⟨L',M',c,b,d⟩:=hy;have a:=p4_iff.mp h;rw[<- a.2.1]at c;rw[<- a.2.2.1]at b;rw[c.uniq e,b.uniq f]at d
 have:=b4e (a7e e.can f.can).rise g d a.2.2.2
 exact J.ext' h (by injection this)
def c1u{X:List J}(hX:∀x∈X,MJ T U x)(h:(X.map J.p).Pairwise λx y=>Tim.ltT y x=false):X.Pairwise Up:=by
 rw[bo]at h;refine bd.imp_of_mem (λ{x y} b a q=>?_) h
 by_cases c:y.p4=x.p4
 ·show Tim.ltT y.p4 x.p4=false
  rw[c];exact Tim.ltT_irr _
 ·rw[lt5 c]at q;exact q
structure Hd where
 k:Str
 b:Int
 e:Option Int
 w:Str
noncomputable def Hd.r(h:Hd):Rw:=⟨h.b,h.e,[.str h.w]⟩
noncomputable def Hd.z(h:Hd):Z:=.tup [.str h.k,.int h.b,oz h.e]
structure TbH (T:List Tl) (A:List Hd):Prop where
 nd:A.Nodup
 is:∀h,h∈A↔∃L,IsLine T h.k L/\h.r∈L
 len:A.length<=2*T.length
def b4f(H:TbH T A)(h1:h∈A)(h2:o∈A)(hk:h.k=o.k)(a1:h.r.has t=true)(a2:o.r.has t=true):h=o:=by
 obtain⟨L,a,d⟩:=(H.is h).mp h1;obtain⟨M,c,b⟩:=(H.is o).mp h2;rw[<- hk]at c;rw[c.uniq a]at b
 have:=a7f a.can.rise d b a1 a2
 cases h;unfold Hd.r at this;simp_all
noncomputable def cmH(h o:Hd):Option J:=(cmR h.r o.r).map λc=>⟨h.w,h.k,o.k,c.b,c.e⟩
def a0O(e:cmH h o=some x):x.w=h.w/\x.w=o.w/\x.k=h.k/\x.j=o.k/\cmR h.r o.r=some x.r:=by
 unfold cmH at e;cases q:cmR h.r o.r with
 |none=>rw[q]at e;cases e
 |some c=>
  rw[q]at e;injection e with e
  subst e;obtain⟨b,a,_⟩:=a0S q
  have:h.w=o.w:=by unfold Hd.r at b;simpa using b
  refine⟨rfl,this,rfl,rfl,?_⟩;simp only[J.r];have a:_=[Z.str h.w]:=a;rw[<- a]
noncomputable def rwP(ws:List Str)(A B:List Hd):List J:=ws.flatMap λw=>(A.filter λh=>decide (h.w=w)).flatMap λh=>(B.filter λo=>decide (o.w=w)).filterMap (cmH h)
def b6g:x∈rwP ws A B↔x.w∈ws/\∃h∈A,∃o∈B,cmH h o=some x:=by
 unfold rwP;simp
 constructor
 ·rintro⟨w,c,h,⟨a,d⟩,o,⟨b,o2⟩,e⟩
  have:=(a0O e).1
  exact⟨by rw[this,d];exact c,h,a,o,b,e⟩
 ·rintro⟨c,h,a,o,b,e⟩;have q:=a0O e;exact⟨x.w,c,h,⟨a,q.1.symm⟩,o,⟨b,q.2.1.symm⟩,e⟩
def b1t(HA:TbH T A)(HB:TbH U B)(hw:∀h∈A,h.w∈ws)(x:J):x∈rwP ws A B↔MJ T U x:=by
 rw[b6g]
 constructor
 ·rintro⟨_,h,z,o,t,e⟩;obtain⟨_,_,p,n,m⟩:=a0O e;obtain⟨L,c,q⟩:=(HA.is h).mp z;obtain⟨M,a,C⟩:=(HB.is o).mp t;exact⟨L,M,by rw[p];exact c,by rw[n];exact a,mem_crs.mpr ⟨_,q,_,C,m⟩⟩
 ·rintro⟨L,M,c,a,l⟩;obtain⟨r,y,s,v,e⟩:=mem_crs.mp l;obtain⟨u,f,_⟩:=a0S e;have i:(⟨x.k,r.b,r.e,x.w⟩:Hd).r=r:=by
   have:r.w=[.str x.w]:=f.symm
   cases r;simp only[Hd.r]at this ⊢;rw[this]
  have d:(⟨x.j,s.b,s.e,x.w⟩:Hd).r=s:=by
   have:s.w=[.str x.w]:=u.symm.trans f.symm
   cases s;simp only[Hd.r]at this ⊢;rw[this]
  have g:=(HA.is _).mpr ⟨L,c,by rw[i];exact y⟩;refine⟨hw _ g,_,g,⟨x.j,s.b,s.e,x.w⟩,(HB.is _).mpr ⟨M,a,by rw[d];exact v⟩,?_⟩;unfold cmH;rw[i,d,e];rfl
def b1u(HA:TbH T A)(HB:TbH U B)(nd:ws.Nodup):(rwP ws A B).Nodup:=by
 have f:∀{h o:Hd}{x:J},cmH h o=some x->h.r.has x.b=true/\o.r.has x.b=true:=λ{h o x} e=>by
  have q:=(a0O e).2.2.2.2
  have:=a5i (a0S q).2.2.1
  rw[b1r q,bD]at this;exact this
 refine cQ.mpr ⟨λw _=>cQ.mpr ⟨λh j=>eq.mpr ?_,?_⟩,nd.imp λ{w u} h x d y c z=>?_⟩
 ·refine bd.imp_of_mem (λ{o l} m i q x d y c z=>?_) (HB.nd.sublist bC);subst z;exact q (b4f HB (aV.mp m).1 (aV.mp i).1 ((a0O d).2.2.2.1.symm.trans (a0O c).2.2.2.1) (f d).2 (f c).2)
 ·refine bd.imp_of_mem (λ{h v} j g q x d y c z=>?_) (HA.nd.sublist bC);subst z;obtain⟨o,_,d⟩:=bp.mp d;obtain⟨l,_,c⟩:=bp.mp c;exact q (b4f HA (aV.mp j).1 (aV.mp g).1 ((a0O d).2.2.1.symm.trans (a0O c).2.2.1) (f d).1 (f c).1)
 ·subst z;simp at d c;obtain⟨a,⟨_,s⟩,_,_,e⟩:=d;obtain⟨b,⟨_,p⟩,_,_,n⟩:=c;exact h (by rw[<- s,<- p,<- (a0O e).1,<- (a0O n).1])
def b1v{α β:Type}{f:α->List β}:∀{l:List α},(∀x∈l,(f x).length<=n)->(l.flatMap f).length<=l.length*n:=by intro z0;induction z0 with
 |nil=>intro _;simp
 |cons x l I0=>
  intro h
  have:=I0 λy a=>h y (.tail _ a)
  have:=h x (.head _)
  rw[b9,aG,aL,d9]
  lia
def b6h{α:Type}(p:α->Bool):∀l:List α,(l.filter p).length+(l.filter λx=>!p x).length=l.length:=by intro z0;induction z0 with
 |nil=>exact rfl
 |cons x l I0=>have:=I0;rw[bg,bg];cases p x<;>simp<;>omega
theorem a7g{α:Type}(f:α->Str):∀{ws:List Str}{l:List α},ws.Nodup->(ws.flatMap λw=>l.filter λh=>decide (f h=w)).length<=l.length
 |[],l,_=>by simp
 |w::ws,l,nd=>by
  obtain⟨g,a⟩:=bx.mp nd;have d:=a7g f (l:=l.filter λh=>!decide (f h=w)) a;have e:(ws.flatMap λv=>(l.filter λh=>!decide (f h=w)).filter λh=>decide (f h=v))=ws.flatMap λv=>l.filter λh=>decide (f h=v):=by
   unfold List.flatMap
   congr 1
   refine cm λv b=>?_;rw[ft];refine fm λh _=>?_
   by_cases c:f h=v
   ·simp[c];exact λz=>g (z▸b)
   ·simp[c]
  rw[e]at d
  have:=b6h (λh=>decide (f h=w)) l
  rw[b9,aG]
  lia
def b6i(nd:ws.Nodup):(rwP ws A B).length<=A.length*B.length:=by
 have:(rwP ws A B).length<=(ws.flatMap λw=>A.filter λh=>decide (h.w=w)).length*B.length:=by
  unfold rwP;clear nd
  induction ws with
  |nil=>simp
  |cons w ws ih=>
   simp only[b9,aG];rw[d9];exact Nat.add_le_add (b1v λh _=>aM (bN _ _) (cr _ _)) ih
 exact aM this (cO (a7g Hd.w nd) (aC _))
def a8b(k:Str):∀{n:Nat}{T:List Tl},T.length=n->OkT T->∃L,IsLine T k L/\L.length<=2*(a0i T k).length:=by intro z0;induction z0 with
 |zero=>intro T h _;exact⟨[],by rw[cf.mp h];exact IsLine.nil rfl,by simp⟩
 |succ n I0=>
  intro T h ok;obtain⟨U,τ,rfl⟩:∃U τ,T=U++[τ]:=⟨T.dropLast,T.getLast (λz=>by rw[z]at h;cases h),(fC _).symm⟩;obtain⟨L,a,d⟩:=I0 (by simpa using h) fun σ f=>ok σ (bP _ f);have b:=ok τ (by simp)
  by_cases c:τ.key=k
  ·subst c;refine⟨_,a.snoc b,?_⟩
   have:=(a70 (w:=optW τ.v) a.can.rise b.st.bef).2.2
   rw[a1U,if_pos rfl,aG];simp
   lia
  ·have e:a0i (U++[τ]) k=a0i U k:=by rw[a1U,if_neg c,bj]
   refine⟨L,⟨a.can,a.pl,by have:=a.len;simp;lia,λt=>?_⟩,by rw[e];exact d⟩;rw[e];exact a.v t
def b3p{ts:List Str}(nd:ts.Nodup):(ts.flatMap λk=>a0i T k).length<=T.length:=by
 have:=a7g Tl.key (l:=T) nd
 unfold a0i;simpa using this
noncomputable def getW(d:Str):List Z->Str
 |[.str s]=>s
 |_=>d
noncomputable def hdOf(k:Str)(r:Rw):Hd:=⟨k,r.b,r.e,getW k r.w⟩
def b4g{k:Str}{r:Rw}{w:Str}(h:r.w=[.str w]):hdOf k r=⟨k,r.b,r.e,w⟩/\(hdOf k r).r=r:=by
 cases r;simp only at h;subst h;exact⟨rfl,rfl⟩
def c1v{α β γ:Type}{f:α->List β}{g:α->List γ}(h:∀x,(f x).length<=2*(g x).length):∀l:List α,(l.flatMap f).length<=2*(l.flatMap g).length:=by intro z0;induction z0 with
 |nil=>simp
 |cons x l I0=>
  have:=I0
  have:=h x
  rw[b9,b9,aG,aG];omega
def b9d{Lf:Str->List Rw}(ka:KeysAt T ts)(hL:∀k,IsLine T k (Lf k)/\(Lf k).length<=2*(a0i T k).length):TbH T (ts.flatMap λk=>(Lf k).map (hdOf k)):=by
 refine⟨cQ.mpr ⟨λk _=>?_,ka.nd.imp λ{k m} h x f y i z=>?_⟩,λh=>?_,?_⟩
 ·have c:=(hL k).1.can.rise;refine bo.mpr (bd.imp_of_mem (λ{r s} a j q z=>q ?_) (a9c c));exact b4e c a j (congrArg Hd.b z)
 ·obtain⟨_,_,rfl⟩:=aF.mp f;obtain⟨_,_,rfl⟩:=aF.mp i;exact h (congrArg Hd.k z)
 ·simp
  constructor
  ·rintro⟨k,_,r,a,rfl⟩;obtain⟨w,l⟩:=a2w (hL k).1 a;exact⟨Lf k,(hL k).1,by rw[(b4g l).2];exact a⟩
  ·rintro⟨L,d,a⟩;rw[(d.uniq (hL h.k).1)]at a;refine⟨h.k,(ka.is h.k).mpr ⟨_,(hL h.k).1,λz=>by rw[z]at a;simp at a⟩,h.r,a,?_⟩
   rfl
 ·refine aM (c1v (λk=>?_) ts) (cO (aC 2) (b3p ka.nd));rw[aB];exact (hL k).2
def a7h:P3:=λws G R=>Ex4 λ(b b':Int) (e e':Option Int)=>ws=[.tup [.int b,oz e],.tup [.int b',oz e']]/\R (if bef (if b' > b then b' else b) (emin e e')=true then .tup [.int (if b' > b then b' else b),oz (emin e e')] else .non) G
set_option tactic.hygienic true in
def a7i(T:Txt K mg a):Cal P w K mg base CX0 2 "common" (lowP K a7h):=by
 refine fnc 2 (N:=["one","other","begin","end"]) T.br (T.f 4 _ rfl) ?_;walk_at "in";refine⟨_,(by ac_rfl),?_⟩;obtain⟨b,b',e,e',rfl,q⟩:=h;symm;refine⟨e,e',rfl,?_⟩;generalize (if b' > b then b' else b)=m at q ⊢;symm;cases he:emin e e' with
 |none=>
  rw[he,if_pos (show bef m none=true from rfl)]at q;symm;refine⟨lenK rfl,?_⟩;exact q
 |some x=>
  rw[he]at q;symm;refine ifD (λc=>?_) λc=>?_
  ·symm;rw[if_neg (by simp[bef];omega)]at q;exact q
  ·symm;refine⟨lenK rfl,?_⟩;rw[if_pos (by simp[bef];lia)]at q;exact q
noncomputable def J.z4(x:J):Z:=.tup [.str x.k,.str x.j,.int x.b,oz x.e]
def b9e(e:h.w=o.w):cmH h o=if bef (if o.b > h.b then o.b else h.b) (emin h.e o.e)=true then some ⟨h.w,h.k,o.k,if o.b > h.b then o.b else h.b,emin h.e o.e⟩ else none:=by
 unfold cmH cmR
 by_cases c:bef (if o.b > h.b then o.b else h.b) (emin h.e o.e)=true
 ·rw[if_pos c,if_pos ⟨by unfold Hd.r;rw[e],c⟩];rfl
 ·rw[if_neg c,if_neg (λz=>c z.2)];rfl
def a25:P3:=λws G R=>Ex5 λ(p r:Addr) (A B:List Hd) (w:Str)=>ws=[.ref p,.ref r]/\G p=some (.lst (A.map Hd.z))/\G r=some (.lst (B.map Hd.z))/\(∀h∈A,h.w=w)/\(∀o∈B,o.w=w)/\A.length<=126/\B.length<=126/\∀t G',G t=none->Sm G G'->G' t=some (.lst ((A.flatMap λh=>B.filterMap (cmH h)).map J.z4))->R (.ref t) G'
set_option tactic.hygienic true in
def a1l(T:Txt K mg a):Cal P w K mg base CX0 3 "held_by_both" (lowP K a25):=by
 refine fnc 2 (N:=["holders","other_holders","told","key","begin","end","other_key","other_begin","other_end","both"]) T.br (T.f 22 _ rfl) ?_;walk_at "in";refine⟨_,(by ac_rfl),?_⟩;obtain⟨p,r,A,B,w,rfl,V,gr,hA,hB,lA,lB,q⟩:=h;symm;refine⟨lenK rfl,λW z=>?_⟩;have X:p≠W:=a0d V z;have E:r≠W:=a0d gr z;generalize ee:put G W _=G1;obtain⟨gW,I⟩:=newK ee z;have H:=I _ _ V;have F:=I _ _ gr;symm;refine a0E H ?_;refine a0P (λi σ v=>Ex7 λ(R Q M s t u m:Option Z)=>Kq W G1 v/\v W=some (.lst (((A.take i).flatMap λh=>B.filterMap (cmH h)).map J.z4))/\σ=[some (.ref p),some (.ref r),some (.ref W),R,Q,M,s,t,u,m]) ⟨_,_,_,_,_,_,_,λ_ _ e _=>e,gW,rfl⟩ (by rintro i σ v _ ⟨_,_,_,_,_,_,_,k,_⟩;exact k _ _ H X) ?_ ?_
 ·rintro i x σ S g ⟨R,Q,M,s,t,u,m,D,l,rfl⟩;rw[aK]at g;cases hx':A[i]? with
  |none=>rw[hx']at g;cases g
  |some h=>
  rw[hx']at g;cases g;have hi:=(aI.mp hx').1;have hw:=hA h (aS hx');have L:((A.take i).flatMap λh=>B.filterMap (cmH h)).length<=126*126:=aM (b1v (n:=126) λh _=>aM (bN _ _) lB) (cO (by rw[aR];omega) (aC _));have U:((A.take (i+1)).flatMap λh=>B.filterMap (cmH h))=((A.take i).flatMap λh=>B.filterMap (cmH h))++B.filterMap (cmH h):=by rw[take_snoc hx',cP];simp
  generalize ((A.take i).flatMap λh=>B.filterMap (cmH h))=P0 at l L U;refine⟨_,rfl,?_⟩;symm;refine a0E (D _ _ F E) ?_;refine a0P (λj σ v=>Ex4 λ(s t u m:Option Z)=>Kq W G1 v/\v W=some (.lst ((P0++(B.take j).filterMap (cmH h)).map J.z4))/\σ=[some (.ref p),some (.ref r),some (.ref W),some (.str h.k),some (.int h.b),some (oz h.e),s,t,u,m]) ⟨_,_,_,_,D,by simpa using l,rfl⟩ (by rintro i σ v _ ⟨_,_,_,_,k,_⟩;exact k _ _ F E) ?_ ?_
  ·rintro j x σ G3 g ⟨s,t,u,m,y,d,rfl⟩;rw[aK]at g;cases ho':B[j]? with
   |none=>rw[ho']at g;cases g
   |some o=>
   rw[ho']at g;cases g;have hj:=(aI.mp ho').1;have e:=b9e (hw.trans (hB o (aS ho')).symm);have lp:(P0++(B.take j).filterMap (cmH h)).length<=126*126+126:=by
    rw[aG]
    have:=bN (cmH h) (B.take j)
    rw[aR]at this;omega
   have C:P0++(B.take (j+1)).filterMap (cmH h)=(P0++(B.take j).filterMap (cmH h))++[o].filterMap (cmH h):=by rw[take_snoc ho',eJ,be]
   generalize P0++(B.take j).filterMap (cmH h)=P1 at d lp C;refine⟨_,rfl,?_⟩;symm;refine⟨lenK rfl,?_⟩;symm;refine⟨lenK rfl,?_⟩;refine⟨h.b,o.b,h.e,o.e,rfl,?_⟩
   by_cases c:bef (if o.b > h.b then o.b else h.b) (emin h.e o.e)=true
   ·rw[if_pos c]at e ⊢;symm;refine a1H d ?_;symm;refine⟨lenK rfl,?_⟩;symm;refine a5N (by simp) (a01 (by simp)) ?_;symm;refine a0F d (by rw[aB];exact aZ (by omega:_<40000) (by decide)) ?_;refine⟨_,_,_,_,λb o e1 Y=>by rw[a0e Y];exact y b o e1 Y,?_,rfl⟩;rw[a0a,C];simp[e,J.z4]
   ·rw[if_neg c]at e ⊢;symm;refine⟨_,_,_,_,y,?_,rfl⟩;rw[C,d];simp[e]
  ·rintro σ G3 ⟨s,t,u,m,y,d,rfl⟩;rw[aB,bu,<- U]at d;symm;exact⟨_,_,_,_,_,_,_,y,d,rfl⟩
 ·rintro σ S ⟨R,Q,M,s,t,u,m,D,l,rfl⟩;rw[aB,bu]at l;symm;exact q W S z (λb o e=>D b o (I _ _ e) (a0d e z)) l
structure HolD (B0 G:Hq) (d:Addr) (A:List Hd) (vs:List Str) (hkv:List (Key×Z)):Prop where
 at_:G d=some (.dK hkv)
 ks:hkv.map (·.1)=vs.map λs=>(Sum.inr s:Key)
 nd:vs.Nodup
 ln:∀w∈vs,∃l,valZ hkv (.inr w)=some (.ref l)/\G l=some (.lst ((A.filter λh=>decide (h.w=w)).map Hd.z))/\B0 l=none
 no:∀w,w∉vs->valZ hkv (.inr w)=none
 al:∀h∈A,h.w∈vs
 inj:∀w v l,valZ hkv (.inr w)=some (.ref l)->valZ hkv (.inr v)=some (.ref l)->w=v
 sm:Sm B0 G
 fr:B0 d=none
def HolD.keep(H:HolD B0 G d A vs hkv)(s:Sm G G'):HolD B0 G' d A vs hkv:=
 ⟨s _ _ H.at_,H.ks,H.nd,λw e=>by obtain⟨l,a,b,c⟩:=H.ln w e;exact⟨l,a,s _ _ b,c⟩,H.no,H.al,H.inj,H.sm.trans s,H.fr⟩
def HolD.len(H:HolD B0 G d A vs hkv):hkv.length=vs.length:=by have:=congrArg bf H.ks;simpa using this
def HolD.old(H:HolD B0 G d A vs hkv)(hw:h.w∈vs)(hl:valZ hkv (.inr h.w)=some (.ref l))(s:Sm G Gx):HolD B0 (put Gx l (.lst ((A.filter λx=>decide (x.w=h.w)).map Hd.z++[h.z]))) d (A++[h]) vs hkv:=by
 obtain⟨r,i,n,j⟩:=H.ln h.w hw;rw[hl]at i;cases i;have g:d≠l:=λz=>by have:=H.at_;rw[z,n]at this;cases this
 refine⟨by rw[a0e g];exact s _ _ H.at_,H.ks,H.nd,λw k=>?_,H.no,λx a=>?_,H.inj,λb o e=>?_,H.fr⟩
 ·obtain⟨m,f,q,p⟩:=H.ln w k
  by_cases c:w=h.w
  ·subst c;rw[hl]at f;refine⟨l,hl,?_,j⟩;rw[a0a,cA];simp
  ·refine⟨m,f,?_,p⟩;rw[a0e λz=>c (H.inj w h.w l (by grind) hl),cA,bg,if_neg (by simpa using λz=>c z.symm)];simpa using s _ _ q
 ·rcases aE.mp a with a |a
  ·exact H.al x a
  ·simp_all
 ·rw[a0e λz=>by rw[z,j]at e;cases e];exact s _ _ (H.sm _ _ e)
def HolD.new(H:HolD B0 G d A vs hkv)(hw:h.w∉vs)(ht:G t=none):HolD B0 (put (put (put G t (.lst [])) d (.dK (putZ hkv (.inr h.w) (.ref t)))) t (.lst [h.z])) d (A++[h]) (vs++[h.w]) (putZ hkv (.inr h.w) (.ref t)):=by
 have E:=H.no h.w hw;have p:∀b o,b≠d->G b=some o->put (put (put G t (.lst [])) d (.dK (putZ hkv (.inr h.w) (.ref t)))) t (.lst [h.z]) b=some o:=λb o F e=>by
  have m:=a0d e ht;rw[a0e m,a0e F,a0e m];exact e
 have m:∀w l,valZ hkv (.inr w)=some (.ref l)->l≠t:=λw l e z=>by
  by_cases c:w∈vs
  ·obtain⟨u,n,k,_⟩:=H.ln w c;rw[e]at n;cases n;rw[z,ht]at k;cases k
  ·rw[H.no w c]at e;cases e
 refine⟨by rw[a0e (a0d H.at_ ht),a0a],by rw[a66 E,aP,H.ks,aP];rfl,?_,λw i=>?_,λw i=>?_,λx j=>?_,λw v l g f=>?_,λb o e=>?_,H.fr⟩
 ·rw[cg];exact⟨H.nd,by simp,λa D b B z=>hw (by simp_all)⟩
 ·by_cases c:w=h.w
  ·subst c;refine⟨t,by rw[a0W,if_pos rfl],?_,(H.sm.free ht)⟩;rw[a0a,cA,df.mpr λx j=>by simpa using λz:x.w=h.w=>hw (z▸H.al x j)];simp
  ·have y:w∈vs:=by
    rcases aE.mp i with q |q
    ·exact q
    ·simp_all
   obtain⟨u,n,k,C⟩:=H.ln w y;refine⟨u,by rw[a0W,if_neg (λz=>c (by injection z))];exact n,?_,C⟩;rw[p _ _ (λz=>by rw[z,H.at_]at k;cases k) k,cA,bg,if_neg (by simpa using λz=>c z.symm)];simp
 ·rw[aE,not_or]at i;rw[a0W,if_neg (λz=>i.2 (by injection z with z;simp[z]))];exact H.no w i.1
 ·rcases aE.mp j with j |j
  ·exact bP _ (H.al x j)
  ·rw[aJ.mp j];simp
 ·rw[a0W]at g f
  split at g<;>split at f
  ·grind
  ·injection g with g;injection g with g;exact absurd g.symm (m _ _ f)
  ·injection f with f;injection f with f;exact absurd f.symm (m _ _ g)
  ·exact H.inj _ _ _ g f
 ·exact p _ _ (λz=>by rw[z,H.fr]at e;cases e) (H.sm _ _ e)
def a4a:P3:=λws G R=>Ex4 λ(d:Addr) (T:List Tl) (ts:List Str) (kvs:List (Key×Z))=>ws=[.ref d]/\TabD G d T ts kvs/\OkT T/\T.length<=63/\ts.length<=63/\∀(t:Addr)(A:List Hd)(vs:List Str)(hkv:List (Key×Z))(G':Hq),G t=none->HolD (put G d (.dF kvs)) G' t A vs hkv->TbH T A->R (.ref t) G'
def b6j{vs:List Str}{A:List Hd}(nd:vs.Nodup)(h:∀w∈vs,∃x∈A,x.w=w):vs.length<=A.length:=by
 have:=b1q nd λw a=>by
  obtain⟨x,b,c⟩:=h w a;exact aF.mpr ⟨x,b,c⟩
 simpa using this
set_option tactic.hygienic true in
def a4b(T:Txt K mg a):Cal P w K mg base CX0 1 "holders_in" (lowP K a4a):=by
 refine fnc 1 (N:=["table","holders","key","begin","end","worth"]) T.br (T.f 20 _ rfl) ?_;walk_at "in";refine⟨_,(a0c (z_st (nmI 1 nd) b3J)
  (a0c (a15 (pt:=(.nm 2)) fW.never rfl (a3R (qv 0)) (p_nm (nmI 2 nd))
  (a0B (a15 (pt:=(.tp [3,4,5])) fW.never rfl (a1G (q_ix a3U (qv 0) (qv 2) (λ_ _=>rfl))) (by ac_rfl)
  (by ac_rfl))))
  (by ac_rfl))),?_⟩
 obtain⟨d,T',u,s,rfl,E,okT,lT,lts,q⟩:=h;obtain⟨Lf,hL⟩:∃Lf:Str->List Rw,∀k,IsLine T' k (Lf k)/\(Lf k).length<=2*(a0i T' k).length:=⟨λk=>(a8b k rfl okT).choose,λk=>(a8b k rfl okT).choose_spec⟩;have tb:=b9d E.ka hL;have tbl:=tb.len;symm;intro D hD;refine⟨_,rfl,?_⟩;have ndD:d≠D:=a0d E.at_ hD;symm;refine b0M (.inl (a0b E.at_ hD)) ?_;have H0:HolD (put G d (.dF s)) (put (put G D (.dK [])) d (.dF s)) D [] [] []:=by
  refine⟨by rw[a0e (Ne.symm ndD),a0a],rfl,.nil,(λw h=>by simp at h),λ_ _=>rfl,(λh hh=>by simp at hh),(λw v l e=>by cases e),λb o e=>?_,by rw[a0e (Ne.symm ndD)];exact hD⟩
  by_cases c:b=d
  ·subst c;rw[a0a]at e ⊢;exact e
  ·rw[a0e c]at e ⊢;exact a0b e hD
 have gB:put G d (.dF s) d=some (.dF s):=a0a;have lnB:∀k∈u,∃l,valZ s (.inr k)=some (.ref l)/\put G d (.dF s) l=some (.lst ((Lf k).map Rw.z)):=λk hk=>by
  obtain⟨l,L,Q,V,e3⟩:=E.ln k hk;refine⟨l,Q,?_⟩;rw[a0e (λz=>by rw[z,E.at_]at V;cases V),V,e3.uniq (hL k).1]
 have ek:(s.map λp=>keyW p.1)=u.map Z.str:=by
  have:=congrArg (dH keyW) E.ks
  simpa[aU,Function.comp_def,keyW]using this
 have q:=λt A m g U X Y h3=>q t A m g U X Y h3;generalize put G d (.dF s)=B0 at H0 gB lnB q;generalize put (put G D (.dK [])) d (.dF s)=G1 at H0 ⊢;rw[ek];refine a0P (λi σ U=>Ex6 λ(m:List Str) (g:List (Key×Z)) (v1 J I M:Option Z)=>HolD B0 U D ((u.take i).flatMap λk=>(Lf k).map (hdOf k)) m g/\(∀w∈m,∃x∈(u.take i).flatMap (λk=>(Lf k).map (hdOf k)),x.w=w)/\σ=[some (.ref d),some (.ref D),v1,J,I,M]) ⟨_,_,_,_,_,_,H0,(λw h=>by simp at h),rfl⟩ (λ_ _ _ _ _=>True.intro) ?_ ?_
 ·rintro i x σ G2 y ⟨m,g,v1,J,I,M,H,n,rfl⟩;rw[aK]at y;cases hx':u[i]? with
  |none=>rw[hx']at y;cases y
  |some k=>
  rw[hx']at y;cases y;have hi:=(aI.mp hx').1;obtain⟨l,hv,gl⟩:=lnB k (aS hx');have tk:((u.take (i+1)).flatMap λk=>(Lf k).map (hdOf k))=((u.take i).flatMap λk=>(Lf k).map (hdOf k))++(Lf k).map (hdOf k):=by rw[take_snoc hx',cP];simp
  have l1:((u.take i).flatMap λk=>(Lf k).map (hdOf k)).length<=126:=by
   have e:u=u.take i++u.drop i:=(cJ i u).symm;rw[e,cP,aG]at tbl;omega
  have l2:(Lf k).length<=126:=by have:=(hL k).1.len;omega
  generalize ((u.take i).flatMap λk=>(Lf k).map (hdOf k))=A0 at H n tk l1;refine⟨_,rfl,?_⟩;symm;refine a3V (.inr (H.sm _ _ gB)) rfl hv ?_;symm;refine a0E (H.sm _ _ gl) ?_;refine a0P (λj σ U=>Ex5 λ(m:List Str) (g:List (Key×Z)) (J I M:Option Z)=>HolD B0 U D (A0++((Lf k).take j).map (hdOf k)) m g/\(∀w∈m,∃x∈A0++((Lf k).take j).map (hdOf k),x.w=w)/\σ=[some (.ref d),some (.ref D),some (.str k),J,I,M]) ⟨_,_,_,_,_,by simpa using H,by simpa using n,rfl⟩ (by rintro i σ U _ ⟨_,_,_,_,_,K,_⟩;exact K.sm _ _ gl) ?_ ?_
  ·rintro j x σ G3 y ⟨m,g,J,I,M,H,n,rfl⟩;rw[aK]at y;cases hr':(Lf k)[j]? with
   |none=>rw[hr']at y;cases y
   |some r=>
   rw[hr']at y;cases y;have hj:=(aI.mp hr').1;obtain⟨w,hw⟩:=a2w (hL k).1 (aS hr');have R:r.z=.tup [.int r.b,oz r.e,.str w]:=by unfold Rw.z;rw[hw]
   have eh:hdOf k r=⟨k,r.b,r.e,w⟩:=(b4g hw).1;have F:A0++((Lf k).take (j+1)).map (hdOf k)=(A0++((Lf k).take j).map (hdOf k))++[⟨k,r.b,r.e,w⟩]:=by rw[take_snoc hr',aP,<- eh];simp
   have l3:(A0++((Lf k).take j).map (hdOf k)).length<=252:=by rw[aG,aB,aR];omega
   generalize A0++((Lf k).take j).map (hdOf k)=A1 at H n F l3;have lv:=b6j H.nd n;have lh:=H.len;rw[R];refine⟨_,rfl,?_⟩;symm;refine b0H H.at_ ?_;symm;refine⟨lenK rfl,λt0 C=>?_⟩;symm;refine b3U (a0b H.at_ C) rfl (a0h (by omega)) (λz R=>?_) λR=>?_
   ·have S:w∈m:=by
     by_cases c:w∈m
     ·exact c
     ·have:=H.no w c;rw[R]at this;cases this
    obtain⟨l',Q,V,_⟩:=H.ln w S;rw[R]at Q;cases Q;refine a1H (a0b V C) ?_;symm;refine⟨lenK rfl,?_⟩;symm;refine a0F (a0b V C) (by rw[aB];exact a0h (by have:=cr (λh:Hd=>decide (h.w=w)) A1;omega)) ?_;refine⟨m,g,_,_,_,?_,λv B=>?_,rfl⟩
    ·rw[F];exact H.old (h:=⟨k,r.b,r.e,w⟩) S R (Sm.new C)
    ·obtain⟨x,X,Y⟩:=n v B;exact⟨x,by rw[F];exact bP _ X,Y⟩
   ·have S:w∉m:=λc=>by
     obtain⟨l',Q,_⟩:=H.ln w c;rw[R]at Q;cases Q
    have ndt:D≠t0:=a0d H.at_ C;have gt0:put (put G3 t0 (.lst [])) D (.dK (putZ g (.inr w) (.ref t0))) t0=some (.lst []):=by rw[a0e (Ne.symm ndt),a0a]
    refine a1H gt0 ?_;symm;refine⟨lenK rfl,?_⟩;symm;refine a0F gt0 (a0h (by simp)) ?_;refine⟨m++[w],putZ g (.inr w) (.ref t0),_,_,_,by rw[F];exact H.new (h:=⟨k,r.b,r.e,w⟩) S C,λv B=>?_,rfl⟩
    ·rw[F];rcases aE.mp B with B |B
     ·obtain⟨x,X,Y⟩:=n v B;exact⟨x,bP _ X,Y⟩
     ·exact⟨_,bz _ (List.mem_singleton_self _),(aJ.mp B).symm⟩
  ·rintro σ G3 ⟨m,g,J,I,M,H,n,rfl⟩;rw[aB,bu]at H n;symm;exact⟨m,g,_,_,_,_,by rw[tk];exact H,by rw[tk];exact n,rfl⟩
 ·rintro σ G2 ⟨m,g,v1,J,I,M,H,n,rfl⟩;rw[aB,bu]at H;symm;exact q D _ m g G2 hD H tb
noncomputable def fivJ(x:J):Z:=L3.tupZ x.p
def a4c(x:J):fivJ x=.tup [.str x.w,.str x.k,.str x.j,.int x.b,oz x.e]:=by
 unfold fivJ L3.tupZ J.p;cases x.e<;>rfl
def a5x(a:Ad):P3:=λws G R=>Ex10 λ(b c:Bool) (p r:Addr) (S V:Addr->Prop) (T U:List Tl) (q u:Int)=>ws=[.ref p,.int q,.ref r,.int u]/\Sheet a b G p S T/\Sheet a c G r V U/\OkT T/\OkT U/\Few T/\Few U/\T.length<=63/\U.length<=63/\inR T q/\inR U u /\
 ∀t (X:List J) G',G t=none->Sm G G'->X.length<=100000->X.Nodup->(∀x,x∈X↔MJ (T.take q.toNat) (U.take u.toNat) x)->X.Pairwise Up->G' t=some (.lst (X.map fivJ))->R (.ref t) G'
def b1w(hd:G d=none)(s:Sm G G1)(s2:Sm (put G1 d (.dF kvs)) G2):Sm G G2:=λb o e=>s2 _ _ (a0e (a0d e hd)▸s _ _ e)
def b3q{vs:List Str}{w:Str}{A B:List Hd}:rwP (vs++[w]) A B=rwP vs A B++(A.filter λh=>decide (h.w=w)).flatMap λh=>(B.filter λo=>decide (o.w=w)).filterMap (cmH h):=by
 unfold rwP;rw[cP];simp
set_option tactic.hygienic true in
def a5y(T:Txt K mg a):Cal P w K mg base CX0 6 "by_worth" (lowP K (a5x a)):=by
 refine fnc 4 (N:=["sheet","knowing","other","other_knowing","holders","other_holders","told","worth","row"]) T.br (T.f 23 _ rfl) ?_;walk_at "in";refine⟨_,(a0c (by ac_rfl)
  (a0c (by ac_rfl)
  (a0c (by ac_rfl)
  (a0c (a15 (pt:=(.nm 7)) fW.never rfl (a3R (qv 4)) (p_nm (nmI 7 nd))
  (a0B (a15 (pt:=(.nm 8)) fW.never rfl (a1G (q_c (a1l T) hr (q_k (q_ix a3U (qv 4) (qv 7) (λ_ _=>rfl)) (q_k (by ac_rfl) a0z)) )) (p_nm (nmI 8 nd))
  (by ac_rfl))))
  (a0B (a1F (q_B a3T (T.b 8) (q_k (qv 6) a0z)))))))),?_⟩
 obtain⟨b,c,p,r,S,V,T',U',q,u,rfl,shp,shr,okT0,okU0,fewT,fewU,hT,hU,hq,hu,fin⟩:=h;symm;refine⟨b,p,S,T',q,rfl,shp,okT0,fewT,hq,λd ts kvs G1 hd s1 tab hl1=>?_⟩;have lT:(T'.take q.toNat).length<=63:=by rw[aR];omega
 have lU:(U'.take u.toNat).length<=63:=by rw[aR];omega
 have okU:OkT (U'.take u.toNat):=fun τ h=>okU0 τ (bS h);have okT:OkT (T'.take q.toNat):=fun τ h=>okT0 τ (bS h);symm;refine⟨d,_,ts,kvs,rfl,tab,okT,lT,hl1,λs A vs F G2 ht1 n v=>?_⟩;have s2:Sm G G2:=b1w hd s1 n.sm;symm;refine⟨c,r,V,U',u,rfl,shr.keep (Sm.ks s2),okU0,fewU,hu,λd2 us kvs2 G3 hd2 s3 tab2 hl2=>?_⟩;symm;refine⟨d2,_,us,kvs2,rfl,tab2,okU,lU,hl2,λt2 B ws2 hkv2 G4 ht2 H2 D=>?_⟩;have s24:Sm G2 G4:=b1w hd2 s3 H2.sm;have n12:s≠t2:=λz=>by
  have e:=H2.fr;rw[<- z,a0e (a0d n.at_ hd2),s3 _ _ n.at_]at e;cases e
 have hG1:G s=none:=s1.free ht1;have n:=n.keep s24;have s04:=s2.trans s24;generalize T'.take q.toNat=T at v fin lT okT;generalize U'.take u.toNat=U at D fin lU okU;clear s1 s2 s3 s24 hd hd2 tab tab2 ht1 ht2;symm;refine⟨lenK rfl,λW hW=>?_⟩;have nW1:s≠W:=a0d n.at_ hW;have nW2:t2≠W:=a0d H2.at_ hW;have hWG:G W=none:=s04.free hW;symm;refine b0M (.inl (a0b n.at_ hW)) ?_;have s46:∀b o,G4 b=some o->b≠s->put (put G4 W (.lst [])) s (.dF F) b=some o:=λb o e nb=>by rw[a0e nb];exact a0b e hW
 have g1:put (put G4 W (.lst [])) s (.dF F) s=some (.dF F):=a0a;have gW6:put (put G4 W (.lst [])) s (.dF F) W=some (.lst []):=by rw[a0e (Ne.symm nW1),a0a]
 generalize put (put G4 W (.lst [])) s (.dF F)=G6 at s46 g1 gW6 ⊢;have g2:=s46 _ _ H2.at_ (Ne.symm n12);have nl:∀l ws,G4 l=some (.lst ws)->l≠s:=λl ws e z=>by rw[z,n.at_]at e;cases e
 have ek:(F.map λp=>keyW p.1)=vs.map Z.str:=by
  have:=congrArg (dH keyW) n.ks
  simpa[aU,Function.comp_def,keyW]using this
 have lenP:∀vs':List Str,vs'.Nodup->(rwP vs' A B).length<=126*126:=λvs' h=>aM (b6i h) (cO (by have:=v.len;omega) (by have:=D.len;omega));rw[ek];refine a0P (λi σ G'=>∃(v1 v2:Option Z),Kq W G6 G'/\G' W=some (.lst ((rwP (vs.take i) A B).map fivJ))/\σ=[some (.ref p),some (.int q),some (.ref r),some (.int u),some (.ref s),some (.ref t2),some (.ref W),v1,v2]) ⟨_,_,λ_ _ e _=>e,gW6,rfl⟩ (λ_ _ _ _ _=>True.intro) ?_ ?_
 ·rintro i x σ G7 g ⟨v1,v2,kq,gW7,rfl⟩;rw[aK]at g;cases hx':vs[i]? with
  |none=>rw[hx']at g;cases g
  |some w=>
  rw[hx']at g;cases g;obtain⟨l,hv,gl,_⟩:=n.ln w (aS hx');have tk:=b3q (vs:=vs.take i) (w:=w) (A:=A) (B:=B);rw[<- take_snoc hx']at tk;have len8:=lenP (vs.take (i+1)) (n.nd.sublist (cR _ _));have hM:∀x∈(A.filter λh=>decide (h.w=w)).flatMap λh=>(B.filter λo=>decide (o.w=w)).filterMap (cmH h),x.w=w:=λx g=>by
   simp only[er,bp,aV,decide_eq_true_eq]at g;obtain⟨h,⟨_,h2⟩,o,_,e⟩:=g;rw[(a0O e).1,h2]
  refine⟨_,rfl,?_⟩;symm;refine a3V (.inr (kq _ _ g1 nW1)) rfl hv ?_;symm;refine b0H (kq _ _ g2 nW2) ?_;symm;refine⟨lenK rfl,λe he=>?_⟩;generalize ee:put G7 e _=G8;obtain⟨ge,H⟩:=newK ee he;symm;refine b0F (H _ _ (kq _ _ g2 nW2)) rfl ?_;obtain⟨l2,hval,gl2⟩:∃l2,(valZ hkv2 (.inr w)).getD (.ref e)=.ref l2/\G8 l2=some (.lst ((B.filter λo=>decide (o.w=w)).map Hd.z)):=by
   by_cases c:w∈ws2
   ·obtain⟨l2,e1,e2,_⟩:=H2.ln w c;exact⟨l2,by rw[e1];rfl,H _ _ (kq _ _ (s46 _ _ e2 (nl _ _ e2)) (a0d e2 hW))⟩
   ·refine⟨e,by rw[H2.no w c];rfl,?_⟩;rw[ge,df.mpr λo ho=>by simpa using λz:o.w=w=>c (by rw[<- z];exact H2.al o ho)]
    rfl
  rw[hval];symm;refine⟨l,l2,A.filter λh=>decide (h.w=w),B.filter λo=>decide (o.w=w),w,rfl,H _ _ (kq _ _ (s46 _ _ gl (nl _ _ gl)) (a0d gl hW)),gl2,(λh hh=>by simpa using (aV.mp hh).2),(λh hh=>by simpa using (aV.mp hh).2),aM (cr _ _) (by have:=v.len;omega),aM (cr _ _) (by have:=D.len;omega),λt3 G9 ht3 s89 gt3=>?_⟩;generalize ((A.filter λh=>decide (h.w=w)).flatMap λh=>(B.filter λo=>decide (o.w=w)).filterMap (cmH h))=M at tk hM gt3;rw[tk,aG]at len8;have nt3:t3≠W:=λz=>by rw[z]at ht3;rw[H _ _ gW7]at ht3;cases ht3
  have kq9:Kq W G6 G9:=λb o e1 nb=>s89 _ _ (H _ _ (kq b o e1 nb));have gW9:=s89 _ _ (H _ _ gW7);generalize rwP (vs.take i) A B=P0 at tk len8 gW9;symm;refine a0E gt3 ?_;refine a0P (λj σ G'=>∃(v2:Option Z),Kq W G9 G'/\G' W=some (.lst ((P0++M.take j).map fivJ))/\σ=[some (.ref p),some (.int q),some (.ref r),some (.int u),some (.ref s),some (.ref t2),some (.ref W),some (.str w),v2]) ⟨_,λ_ _ e _=>e,by simpa using gW9,rfl⟩ (by rintro j σ G' _ ⟨_,k,_⟩;exact k _ _ gt3 nt3) ?_ ?_
  ·rintro j x σ G10 g ⟨v2,kq10,E,rfl⟩;rw[aK]at g;cases hr':M[j]? with
   |none=>rw[hr']at g;cases g
   |some x=>
   rw[hr']at g;cases g;have hj:=(aI.mp hr').1;have hw:=hM x (aS hr');refine⟨_,rfl,?_⟩;symm;refine a1H E ?_;symm;refine⟨lenK rfl,?_⟩;unfold J.z4;symm;refine a5N (by simp) (a01 (by simp)) ?_;symm;refine a0F E ?_ ?_
   ·rw[aB,aG,aR];exact aZ (by omega:_<40000) (by decide)
   refine⟨_,λb o e1 nb=>by rw[a0e nb];exact kq10 b o e1 nb,?_,rfl⟩;rw[a0a,take_snoc hr',<- be,aP (l₂:=[x]),List.map_singleton,a4c,hw]
   rfl
  ·rintro σ G10 ⟨v2,kq10,E,rfl⟩;rw[aB,bu,<- tk]at E;symm;exact⟨_,_,λb o e1 nb=>kq10 b o (kq9 b o e1 nb) nb,E,rfl⟩
 ·rintro σ G7 ⟨v1,v2,kq,gW7,rfl⟩;rw[aB,bu]at gW7;have s07:Sm G G7:=λb o e=>kq b o (s46 b o (s04 _ _ e) (a0d e hG1)) (a0d e hWG);have un:Un (rwP vs A B):=λx g y hy=>b9c ((b1t v D n.al x).mp g) ((b1t v D n.al y).mp hy);have nd:=b1u v D n.nd;symm;refine a59 (rows:=(rwP vs A B).map J.p) (m:=5) (by rw[gW7,aU];rfl) (by rw[aB];exact aM (lenP vs n.nd) (by decide)) ?_ ?_ ?_ λt os ht hp hso=>?_
  ·intro x g;obtain⟨y,_,rfl⟩:=aF.mp g;exact⟨_,_,rfl⟩
  ·intro x g;obtain⟨y,_,rfl⟩:=aF.mp g
   rfl
  ·intro x g y hy;obtain⟨x',hx',rfl⟩:=aF.mp g;obtain⟨y',hy',rfl⟩:=aF.mp hy;exact cmp5 (un x' hx' y' hy')
  ·obtain⟨X,rfl,pX⟩:=b3o J.p hp;have mX:∀x,x∈X↔MJ T U x:=λx=>pX.mem_iff.trans (b1t v D n.al x);exact fin t X _ (s07.free ht) (s07.trans (Sm.new ht)) (by rw[pX.length_eq];exact aM (lenP vs n.nd) (by decide)) (pX.nodup_iff.mpr nd) mX (c1u (λx g=>(mX x).mp g) hso) (by rw[a0a,aU];rfl)
noncomputable def kwZ(v:Str×Z):Z:=.tup [.str v.1,v.2]
noncomputable def a2K(T:List Tl)(m:Int)(ts:List Str):List (Str×Z):=ts.map λk=>(k,a0f (a0i T k) m)
noncomputable def a1N(v:Str×Z):Option (Str×Z):=if decide (v.2=Z.non)=true then none else some v
def a7j(a:Ad):P3:=λws G R=>∃b:Bool,Ex5 λ(p:Addr) (S:Addr->Prop) (T:List Tl) (m q:Int)=>ws=[.ref p,.int m,.int q]/\Sheet a b G p S T/\OkT T/\Few T/\inR T q/\momB (.int m)=true/\∀t ts G',G t=none->Sm G G'->KeysAt (T.take q.toNat) ts->ts.length<=63->G' t=some (.lst (((a2K (T.take q.toNat) m ts).filterMap a1N).map kwZ))->R (.ref t) G'
set_option tactic.hygienic true in
def a7k(T:Txt K mg a):Cal P w K mg base CX0 5 "all_at" (lowP K (a7j a)):=by
 refine fnc 3 (N:=["sheet","moment","knowing","keys","worths"]) T.br (T.f 26 _ rfl) ?_;walk_at "in";obtain⟨b,h⟩:=h;refine⟨_,(a0c (z_st (nmI 3 nd) (q_m (qv 0) (clK T b) (a1z T b) hr (q_k (qv 2) a0z) ))
  (a0c (by ac_rfl)
  (a0c (z_l (nmI 4 nd) ["key","moment","knowing","sheet"] [none,some 1,some 2,some 0] (.nm 0) (he:=λ_ _ _ _=>(a8t (q_k (qv 0) (q_k (q_m (qv 3) (clK T b) (a23 T b) hr (q_k (qv 0) (q_k (qv 1) (q_k (qv 2) a0z))) ) a0z)))))
  (a0B (a1F (q_l ["key","worth"] [none,none] (.tp [0,1]))))))),?_⟩
 obtain⟨p,S,T',m,q,rfl,H,ok,z,J,I,X⟩:=h;obtain⟨dx,n1,d1,ob⟩:=b3n H;symm;refine⟨p,dx,_,rfl,ob,a2e (by decide +kernel) (by decide +kernel),?_⟩;symm;refine⟨b,p,S,T',q,rfl,H,z,.inl ⟨J,λt d G1 ht B gt V hl=>?_⟩⟩;have L:=H.keep (Sm.ks B);symm;refine⟨_,rfl,True.intro,λG2 n=>?_⟩;rw[I];refine ifT ?_;symm;have y:=n _ _ gt;have ab:=L.keep (Sm.ks n);refine a0E y ?_;intro D M;refine a6F (λi e u=>e=((a2K (T'.take q.toNat) m d).take i).map kwZ/\Sm G2 u/\u D=some (.lst e)) ⟨by simp,Sm.new M,a0a⟩ (by rintro i e u _ ⟨_,s,_⟩;exact s _ _ y) ?_ ?_
 ·rintro i x e u j ⟨rfl,s,l⟩;rw[aK]at j;cases hx':d[i]? with
  |none=>rw[hx']at j;cases j
  |some k=>
  rw[hx']at j;cases j;have hi:=(aI.mp hx').1;have R:nmOk k:=a38 (fun τ hτ=>ok τ (bS hτ)) ((V.is k).mp (aS hx'));have A:=ab.keep (Sm.ks s);obtain⟨aa,n3,d3,Q⟩:=b3n A;have tk:(a2K (T'.take q.toNat) m d).take (i+1)=(a2K (T'.take q.toNat) m d).take i++[(k,a0f (a0i (T'.take q.toNat) k) m)]:=by
   unfold a2K;rw[b6,aK,hx'];rfl
  refine⟨_,rfl,?_⟩;symm;refine⟨p,aa,_,rfl,Q,a2e (by decide +kernel) (by decide +kernel),?_⟩;symm;refine⟨b,p,S,T',.str k,.int m,q,rfl,A,(λ_=>b1f R),(λ_=>True.intro),z.1,.inl ⟨J,k,m,rfl,R,rfl,I,λG3 U=>?_⟩⟩;symm;refine⟨lenK rfl,U _ _ l,by rw[aB,aR];exact a0h (by omega),?_,(s.trans U).put M,a0a⟩;rw[tk,aP];rfl
 ·rintro e G3 ⟨rfl,s,l⟩;rw[aB,b7 (by unfold a2K;rw[aB];exact aC _)]at l;symm;refine a0E l ?_;intro E C;refine a2T (g:=kwZ) (g':=kwZ) a1N (λe=>a0b l C) (by unfold a2K;rw[aB];omega) ?_ ?_
  ·rintro⟨k,v⟩ hr e K1 K2 F G;unfold a1N at F G;refine⟨_,rfl,?_⟩;symm;cases c:decide (v=Z.non) with
   |true=>
    rw[c]at G;symm;exact G rfl
   |false=>
    rw[c]at F;symm;exact⟨_,rfl,_,rfl,lenK rfl,F _ rfl⟩
  ·symm;have Y:=(n.trans s).trans (Sm.new (o:=.lst (((a2K (T'.take q.toNat) m d).filterMap a1N).map kwZ)) C);exact X E d _ (B.free (n.free (s.free C))) (B.trans Y) V hl a0a
def b3r(h:Rise L):(L.filter λr=>r.has m).map (·.w)=(val L m).toList:=by
 induction L with
 |nil=>rfl
 |cons r L ih=>
  rw[bg,a0k];cases e:r.has m with
  |false=>exact ih h.tail
  |true=>
   have:(L.filter λr=>r.has m)=[]:=df.mpr λs a=>by
    rw[((aT.mp h.2).1 s a).has e]
    decide
   rw[if_pos rfl,if_pos rfl,this];rfl
def b1x:P3:=λws G R=>∃(b:Int)(e:Option Int)(n:Int),ws=[.int b,oz e,.int n]/\R (.bl (decide (b<=n)&&bef n e)) G
set_option tactic.hygienic true in
def b1y(T:Txt K mg a):Cal P w K mg base CX0 1 "_law_within" (lowP K b1x):=by
 refine fnc 3 (N:=["begin","end","moment"]) T.br (T.f 36 _ rfl) ?_;walk_at "in";refine⟨_,(by ac_rfl),?_⟩;obtain⟨b,e,n,rfl,q⟩:=h;symm;refine ifD (λc=>?_) λc=>?_
 ·rw[decide_eq_true c,bM]at q;cases e with
  |none=>symm;exact q
  |some e=>symm;exact q
 ·rw[decide_eq_false c]at q;exact q
noncomputable def xZ(c:Bool)(l:List Str):Z:=cond c (.tup (l.map Z.str)) (.str (l.headD (Str.ofString "")))
noncomputable def arZ(c:Bool)(x:List Str×Rw):Z:=.tup (xZ c x.1::.int x.2.b::oz x.2.e::x.2.w)
noncomputable def gtL(x y:List Str):Bool:=Tim.ltT (y.map Sum.inr) (x.map Sum.inr)
structure ArR (x y:List Str×Rw):Prop where
 g:gtL x.1 y.1=false
 e:x.1=y.1->∃e,x.2.e=some e/\e<=y.2.b/\(e=y.2.b->x.2.w≠y.2.w)
structure ArO (c:Bool) (n:Nat) (x:List Str×Rw):Prop where
 l:x.1.length=n
 s:∀s∈x.1,flat 0 (.str s)=true
 f:flat 8 (.tup x.2.w)=true
 c:c=false->n=1
def b3s:P3:=λws G R=>Ex4 λ(p:Addr) (c:Bool) (n:Nat) (A:List (List Str×Rw))=>ws=[.ref p]/\G p=some (.lst (A.map (arZ c)))/\(∀x∈A,ArO c n x)/\(∀(i:Nat) x y,A[i]?=some x->A[i+1]?=some y->ArR x y)/\A.length<=100000/\R (.bl true) G
theorem a4d:∀{x y:List Str},x.map Z.str=y.map Z.str->x=y
 |[],[],_=>rfl
 |[],_::_,h=>by simp at h
 |_::_,[],h=>by simp at h
 |a::x,b::y,h=>by
  injection h with h1 h2
  injection h1 with h1
  rw[h1,a4d h2]
def c1w(hx:x.length=n)(hy:y.length=n)(hc:c=false->n=1)(h:R (.bl (gtL x y)) G):L3.zGtT (xZ c x) (xZ c y) G R:=by
 cases c with
 |true=>exact⟨x,y,rfl,rfl,hx.trans hy.symm,h⟩
 |false=>
  have:=hc rfl
  subst this
  match x,y,hx,hy with
  |[a],[b],_,_=>
   have e:gtL [a] [b]=ltS b a:=by
    show (if _=Sum.inr a then Tim.ltT [] [] else Tim.lt1 _ _)=_
    split
    ·next e=>
     injection e with e
     subst e
     show false=decide _
     rw[decide_eq_false];exact eS _
    ·rfl
   rw[e]at h;exact h
def b9f(hx:x.length=n)(hy:y.length=n)(hc:c=false->n=1):xZ c x=xZ c y↔x=y:=by
 refine⟨λh=>?_,λh=>by rw[h]⟩;cases c with
 |true=>
  injection h with h
  exact a4d h
 |false=>
  have:=hc rfl
  subst this
  match x,y,hx,hy with
  |[a],[b],_,_=>
   injection h with h
   rw[show a=b from h]
def b1z(h:∀s∈x,flat 0 (.str s)=true)(hx:c=false->x≠[]):flat 8 (xZ c x)=true:=by
 cases c with
 |true=>
  show ((x.map Z.str).all _)=true
  rw[dh,bX];exact λs b=>a0o (aW _) (h s b)
 |false=>
  cases x with
  |nil=>exact absurd rfl (hx rfl)
  |cons a x=>exact a0o (aW _) (h a (.head _))
def cut3{x y u:Z}{w:List Z}:cutZ (x::y::u::w) (some 3) none=w:=by
 unfold cutZ
 have:HT.sIx (x::y::u::w).length 0 (some ((3:Nat):Int))=min 3 (x::y::u::w).length:=HT.sIx_nat _ _ 3
 rw[show (some (3:Int))=some ((3:Nat):Int) from rfl,this,HT.sIx_none,fD (by simp)];simp
def b9g{G:Hq}{R:K3}{x y u:Z}{w:List Z}(h:R (.tup w) G):zSl (.tup (x::y::u::w)) (some 3) none G R:=a8y (λz=>by
 have e:HT.sIx (x::y::u::w).length 0 (some ((3:Nat):Int))=min 3 (x::y::u::w).length:=HT.sIx_nat _ _ 3;have z1:HT.sIx (x::y::u::w).length 0 (some ((3:Nat):Int))=0:=z.1;rw[e,fD (by simp)]at z1;cases z1) (by rw[cut3];exact h)
set_option tactic.hygienic true in
def a8c(T:Txt K mg a):Cal P w K mg base CX0 1 "_law_apart" (lowP K b3s):=by
 refine fnc 1 (N:=["rows","k","ahead"]) T.br (T.f 37 _ rfl) ?_;walk_at "in";refine⟨_,(a0c (a15 (pt:=(.nm 1)) fW.never rfl (by ac_rfl) (p_nm (nmI 1 nd))
  (a0c (by ac_rfl)
  (a0c (z_if (a1Z (c08 hu) (by ac_rfl) (by ac_rfl) (a3y _))
  (by ac_rfl)
  a3c)
  (by ac_rfl))))
  (by ac_rfl)),?_⟩
 obtain⟨p,c,n,A,rfl,gp,ho,hr,hl,q⟩:=h;symm;refine a5P gp ?_;symm;rw[aB];refine⟨1,_,rfl,⟨by decide,by decide,by omega,by omega⟩,?_⟩;refine a0P (λi σ G'=>∃v w:Option Z,G'=G/\σ=[some (.ref p),v,w]) ⟨_,_,rfl,rfl⟩ (λ_ _ _ _ _=>True.intro) ?_ ?_
 ·rintro i u σ G' hu ⟨v,w,rfl,rfl⟩;obtain⟨hi,rfl⟩:=a44 hu;have hi:i+1<A.length:=by omega
  have hs:A[i]?=some A[i]:=aN (by omega);have hr':A[i+1]?=some A[i+1]:=aN hi;have os:=ho _ (bO (l:=A) (n:=i) (by omega));have or:=ho _ (bO (l:=A) (n:=i+1) hi);have rel:=hr i _ _ hs hr';generalize A[i]=s at hs rel os;generalize A[i+1]=r at hr' rel or;have ar:atI (A.map (arZ c)) (1+(i:Int))=some (arZ c r):=by
   rw[show 1+(i:Int)=((i+1:Nat):Int) by omega];exact a1f (by rw[aK,hr'];rfl)
  have as':atI (A.map (arZ c)) (1+(i:Int)-1)=some (arZ c s):=by
   rw[show 1+(i:Int)-1=(i:Int) by omega];exact a1f (by rw[aK,hs];rfl)
  unfold arZ at ar as';refine⟨_,rfl,?_⟩;symm;refine a1i gp as' ?_;symm;refine a1i gp ar ?_;symm;have ns:c=false->s.1≠[]:=λz e=>by have:=os.l;rw[e,os.c z]at this;cases this
  have nr:c=false->r.1≠[]:=λz e=>by have:=or.l;rw[e,or.c z]at this;cases this
  refine c1w os.l or.l os.c ?_;rw[rel.g];refine⟨_,rfl,ifF ?_⟩;symm;refine a1i gp ar ?_;symm;refine a6Z (b1z os.s ns) (b1z or.s nr) ?_;refine⟨_,rfl,ifD (λce=>?_) λce=>?_⟩
  ·obtain⟨e,e1,e2,e3⟩:=rel.e ((b9f os.l or.l os.c).mp ce);rw[e1];symm;refine a1i gp ar ?_;symm;refine ifD (λz=>absurd z (by omega)) λ_=>?_;symm;refine a1i gp ar ?_;symm;refine ifD (λc2=>?_) λc2=>?_
   ·symm;refine b9g ?_;symm;refine a1i gp ar ?_;symm;refine b9g ?_;symm;refine a6Z os.f or.f ?_;rw[decide_eq_false λz=>e3 c2 (by injection z)];refine⟨_,rfl,ifF ?_⟩;symm;exact⟨_,_,rfl,rfl⟩
   ·symm;exact⟨_,_,rfl,rfl⟩
  ·symm;exact⟨_,_,rfl,rfl⟩
 ·rintro σ G' ⟨v,w,rfl,rfl⟩;symm;exact q
def b6k:∀l:List Int,∃ms:List Int,ms.Pairwise (·<·)/\∀x,x∈ms↔x∈l:=by intro z0;induction z0 with
 |nil=>exact⟨[],.nil,λx=>Iff.rfl⟩
 |cons a l I0=>
  obtain⟨e,f,g⟩:=I0;refine⟨e.filter (λx=>decide (x<a))++a::e.filter (λx=>decide (a<x)),?_,λx=>?_⟩
  ·refine aY.mpr ⟨f.sublist bC,aT.mpr ⟨λy b=>by simpa using (aV.mp b).2,f.sublist bC⟩,λx d y b=>?_⟩;have d:=of_decide_eq_true (aV.mp d).2;rcases aD.mp b with rfl |b
   ·omega
   ·have:=of_decide_eq_true (aV.mp b).2
    omega
  ·rw[aE,aD,aV,aV,aD,<- g x,decide_eq_true_eq,decide_eq_true_eq]
   constructor
   ·rintro (h |h |h)
    ·exact .inr h.1
    ·exact .inl h
    ·exact .inr h.1
   ·rintro (h |h)
    ·exact .inr (.inl h)
    ·rcases eT x a with c |c |c
     ·exact .inl ⟨h,c⟩
     ·exact .inr (.inl c)
     ·exact .inr (.inr ⟨h,c⟩)
def b9h(T U:List Tl):∃ms,Pts T ms/\Pts U ms:=by
 obtain⟨a,d,c⟩:=b6k (0::((T++U).map _++(T++U).filterMap _));have g:∀τ∈T++U,τ.b∈a:=fun τ h=>(c _).mpr (by simp only[aD,aE,aF];exact .inr (.inl ⟨τ,by simpa using h,rfl⟩));have f:∀τ∈T++U,∀e,τ.e=some e->e∈a:=fun τ h e q=>(c _).mpr (by simp only[aD,aE,bp];exact .inr (.inr ⟨τ,by simpa using h,q⟩));have z:=(c _).mpr (.head _);exact⟨a,⟨d,z,fun τ h=>g τ (bP _ h),fun τ h=>f τ (bP _ h)⟩,⟨d,z,fun τ h=>g τ (bz _ h),fun τ h=>f τ (bz _ h)⟩⟩
def b1A(P:Pts T ms)(Q:Pts U ms)(okT:OkT T):val (join (pcs (bF T U k) ms)) t=bF T U k t:=by
 rw[(a00 (a0M (bF T U k) P.so)).2.1,a6T P.so λt b _ a d=>by unfold bF;rw[a1W P k a d,a1W Q k a d]]
 split
 ·rfl
 ·next c=>
  unfold bF;rw[a4R okT k (by
   by_cases h:0<=t
   ·exact absurd (cn.mpr ⟨0,P.z,decide_eq_true h⟩) c
   ·lia)]
  exact (if_pos (.inl rfl)).symm
noncomputable def atM(T U:List Tl)(m:Int)(k:Str):List (Str×List Z):=((bF T U k m).map λw=>(k,w)).toList
def a8d{ts:List Str}(P:Pts T ms)(Q:Pts U ms)(okT:OkT T):((ts.flatMap (bK T U ms)).filter λv=>v.2.has m).map (λv=>(v.1,v.2.w))=ts.flatMap (atM T U m):=by
 induction ts with
 |nil=>rfl
 |cons k ts ih=>
  rw[b9,cA,aP,ih,b9]
  congr 1
  have e:=b3r (m:=m) ((a00 (a0M (bF T U k) P.so)).1.rise);rw[b1A P Q okT]at e;unfold bK atM;rw[fq,aU]
  have:((λv:Str×Rw=>(v.1,v.2.w))∘λr=>(k,r))=(λw=>(k,w))∘λr:Rw=>r.w:=rfl
  rw[this,<- aU]
  show ((List.filter (λr=>r.has m) (join _)).map _).map (λw=>(k,w))=_
  rw[e];cases bF T U k m<;>rfl
noncomputable def a1b(T:List Tl)(m:Int)(ts:List Str):List (Str×Z):=(a2K T m ts).filterMap a1N
noncomputable def a2k(rows:List (Str×Z)):List (Key×Z):=rows.map λv=>(Sum.inr v.1,v.2)
noncomputable def a0p(T:List Tl)(m:Int)(ts:List Str):List Str:=ts.filter λk=>!decide (a0f (a0i T k) m=.non)
theorem a7l:∀{ts:List Str},a1b T m ts=(a0p T m ts).map λk=>(k,a0f (a0i T k) m)
 |[]=>rfl
 |k::ts=>by
  have a:=a7l (T:=T) (m:=m) (ts:=ts);unfold a1b a2K a0p at *;rw[aO,bJ,bg,a];unfold a1N
  by_cases c:a0f (a0i T k) m=.non
  ·simp[c]
  ·simp[c]
def a3a(ok:OkT T)(ka:KeysAt T ts):k∈a0p T m ts↔a0f (a0i T k) m≠.non:=by
 unfold a0p;rw[aV]
 constructor
 ·simp_all
 ·intro h;refine⟨Classical.byContradiction λc=>h (a7a (a3v ok ka c) m),by simpa using h⟩
def b6l(ka:KeysAt T ts):(a0p T m ts).Nodup:=ka.nd.sublist bC
def a1X:(a2k (a1b T m ts)).map (·.1)=(a0p T m ts).map λs=>(Sum.inr s:Key):=by
 rw[a7l];unfold a2k;rw[aU,aU];rfl
def a5z(ka:KeysAt T ts):((a2k (a1b T m ts)).map (·.1)).Nodup:=by
 rw[a1X,et,bo];exact (b6l ka).imp λh z=>h (by injection z)
def a6r(ok:OkT T)(ka:KeysAt T ts)(k:Str):valZ (a2k (a1b T m ts)) (.inr k)=if a0f (a0i T k) m=.non then none else some (a0f (a0i T k) m):=by
 split
 ·next c=>
  cases e:valZ _ _ with
  |none=>rfl
  |some z=>exact absurd c ((a3a ok ka).mp (a68 a1X e))
 ·next c=>
  refine a79 (a5z ka) ?_;rw[a7l];unfold a2k;rw[aU];exact aF.mpr ⟨k,(a3a ok ka).mpr c,rfl⟩
theorem b1B:∀{ts:List Str},(a0p T m ts).filterMap (λk=>if a0f (a0i U k) m=.non then none else some (k,[a0f (a0i T k) m,a0f (a0i U k) m]))=ts.flatMap (atM T U m)
 |[]=>rfl
 |k::ts=>by
  have a:=b1B (T:=T) (U:=U) (m:=m) (ts:=ts);unfold a0p at *;rw[bg,b9,<- a];unfold atM bF
  by_cases c:a0f (a0i T k) m=.non
  ·simp[c]
  ·by_cases c2:a0f (a0i U k) m=.non
   ·simp[c,c2]
   ·simp[c,c2]
noncomputable def swW:List Z->List Z
 |[x,y]=>[y,x]
 |w=>w
noncomputable def swR(r:Rw):Rw:=⟨r.b,r.e,swW r.w⟩
def c1x:bF U T k t=(bF T U k t).map swW:=by
 unfold bF
 by_cases c:a0f (a0i T k) t=.non<;>by_cases c2:a0f (a0i U k) t=.non<;>simp[c,c2,swW]
def b9i:∀{L:List Rw},val (L.map swR) t=(val L t).map swW:=by intro z0;induction z0 with
 |nil=>exact rfl
 |cons r L I0=>
  rw[aO,a0k,a0k,I0]
  have:(swR r).has t=r.has t:=rfl
  rw[this];cases r.has t<;>rfl
def b6m(P:Pts T ms)(Q:Pts U ms)(okT:OkT T)(okU:OkT U):join (pcs (bF U T k) ms)=(join (pcs (bF T U k) ms)).map swR:=by
 have i:=a00 (a0M (bF T U k) P.so);refine a7Y (a00 (a0M (bF U T k) P.so)).1 ⟨λr d=>?_,?_⟩ λt=>?_
 ·obtain⟨s,g,rfl⟩:=aF.mp d;exact i.1.1 s g
 ·rw[bo];refine bd.imp_of_mem (λ{r s} d g h=>?_) i.1.2;obtain⟨e,l,n,m⟩:=h;refine⟨e,l,n,λz w=>m z ?_⟩;have f:∀r∈join _,∃x y,r.w=[x,y]:=λr d=>by
   obtain⟨u,a,b⟩:=i.2.2.2 r d;obtain⟨x,y,c,_⟩:=bF_w (a3X a).2;exact⟨x,y,b.trans c⟩
  obtain⟨x,y,j⟩:=f r d;obtain⟨v,q,o⟩:=f s g;have w:swW r.w=swW s.w:=w;rw[j,o]at w ⊢;injection w with w1 w2
  injection w2 with w2 _
  rw[w1,w2]
 ·rw[b1A Q P okU,b9i,b1A P Q okT,c1x]
def b4h(h:∀t,a0f (a0i T k) t=.non\/a0f (a0i U k) t=.non):bK T U ms k=[]:=by
 unfold bK;rw[b3j λt=>by unfold bF;exact if_pos (h t)]
 rfl
def b6n(P:Pts T ms)(Q:Pts U ms)(okT:OkT T)(okU:OkT U)(ka:KeysAt T ts)(kb:KeysAt U us):us.flatMap (bK U T ms)=(ts.flatMap (bK T U ms)).map λv=>(v.1,swR v.2):=by
 have b:∀k∈ts,decide _=false->bK T U ms k=[]:=λk _ h=>b4h λt=>.inr (a7a (a3v okU kb (of_decide_eq_false h)) t);have a:∀k∈us,decide _=false->bK U T ms k=[]:=λk _ h=>b4h λt=>.inr (a7a (a3v okT ka (of_decide_eq_false h)) t);rw[b4d b,b4d a];have e:(us.filter λk=>decide (k∈ts))=ts.filter λk=>decide (k∈us):=a1M ((a5u kb.so).sublist bC) ((a5u ka.so).sublist bC) ((dg (kb.nd.sublist bC) (ka.nd.sublist bC)).mpr λs=>by
  rw[aV,aV,decide_eq_true_eq,decide_eq_true_eq];exact And.comm)
 rw[e,List.map_flatMap]
 congr 1
 funext k
 unfold bK;rw[b6m P Q okT okU,aU,aU];rfl
def b9j(so:ms.Pairwise (·<·))(ka:KeysAt T ts):((ts.flatMap (bK T U ms)).map λv=>([v.1],v.2)).Pairwise ArR:=by
 rw[bo];refine cQ.mpr ⟨λk _=>?_,?_⟩
 ·unfold bK;rw[bo];refine (a00 (a0M _ so)).1.2.imp λ{r s} h=>⟨?_,λ_=>h⟩;exact Tim.ltT_irr _
 ·refine ((a5u ka.so).and ka.nd).imp λ{k j} h x a y b=>?_;obtain⟨r,_,rfl⟩:=aF.mp a;obtain⟨s,_,rfl⟩:=aF.mp b;refine⟨?_,λz=>absurd (by simp_all) h.2⟩
  show (if _=Sum.inr k then Tim.ltT [] [] else Tim.lt1 _ _)=false
  split
  ·rfl
  ·exact decide_eq_false (leS_iff.mp h.1)
noncomputable def J.p3(x:J):List Tim.Pz:=[.inr x.w,.inr x.k,.inr x.j]
noncomputable def J.tr(x:J):List Str:=[x.w,x.k,x.j]
def b9k(x:J):x.tr.map Sum.inr=x.p3:=rfl
def p3_iff{x y:J}:x.p3=y.p3↔x.w=y.w/\x.k=y.k/\x.j=y.j:=by simp[J.p3]
def lt43{x y:J}(h:Tim.ltT y.p4 x.p4=false):Tim.ltT y.p3 x.p3=false:=by
 unfold J.p4 J.p3 at *;simp only[Tim.ltT]at *
 split
 ·next c1=>
  split
  ·next c2=>
   split
   ·rfl
   ·simp_all
  ·simp_all
 ·simp_all
def c1y{x y:J}(h:Tim.ltT y.p4 x.p4=false)(e:x.p3=y.p3):x.b<=y.b:=by
 obtain⟨d,a,f⟩:=p3_iff.mp e;unfold J.p4 at h;simp only[Tim.ltT]at h;rw[if_pos (by grind),if_pos (by grind),if_pos (by rw[f])]at h
 split at h
 ·grind
 ·have:=of_decide_eq_false h
  lia
def cmp3(x y:J):Tim.cmpT x.p3 y.p3=true:=by
 unfold J.p3;simp only[Tim.cmpT,Tim.cmp1]
 split
 ·simp_all
 ·rfl
def a3w{T:List Tl}{k:Str}{L:List Rw}{m:Int}{w:Str}(il:IsLine T k L):val L m=some [.str w]↔a0f (a0i T k) m=.str w:=by
 rw[il.v]
 constructor
 ·intro h
  have:=congrArg wz h
  rw[a5p]at this;exact this
 ·intro h;rw[h];rfl
def TrM(T U:List Tl)(m:Int)(w k j:Str):Prop:=a0f (a0i T k) m=.str w/\a0f (a0i U j) m=.str w
def c1z(h:MJ T U x)(hm:x.r.has m=true):TrM T U m x.w x.k x.j:=by
 obtain⟨L,M,c,b,i⟩:=h;obtain⟨r,f,s,l,e⟩:=mem_crs.mp i;obtain⟨g,d,_⟩:=a0S e;rw[b1r e,bD]at hm;have a:r.w=[.str x.w]:=d.symm;exact⟨(a3w c).mp (by rw[a60 c.can.rise f hm.1,a]),(a3w b).mp (by rw[a60 b.can.rise l hm.2,<- g,a])⟩
def c1A{T U:List Tl}{m:Int}{w k j:Str}(okT:OkT T)(okU:OkT U)(h:TrM T U m w k j):∃x:J,MJ T U x/\x.r.has m=true/\x.w=w/\x.k=k/\x.j=j:=by
 obtain⟨L,il⟩:=a7b k rfl okT;obtain⟨M,jl⟩:=a7b j rfl okU;obtain⟨r,hr,r1,r2⟩:=a5j ((a3w il).mpr h.1);obtain⟨s,hs,s1,s2⟩:=a5j ((a3w jl).mpr h.2);obtain⟨c,hc⟩:=c1t (r2.trans s2.symm) r1 s1;have ec:(⟨w,k,j,c.b,c.e⟩:J).r=c:=by
  have:c.w=[.str w]:=(a0S hc).2.1.trans r2
  cases c;simp only[J.r]at this ⊢;rw[this]
 exact⟨⟨w,k,j,c.b,c.e⟩,⟨L,M,il,jl,by rw[ec];exact mem_crs.mpr ⟨r,hr,s,hs,hc⟩⟩,by rw[ec,b1r hc,r1,s1];rfl,rfl,rfl,rfl⟩
def b9l(hx:MJ T U x)(hy:MJ T U y)(h1:x.r.has m=true)(h2:y.r.has m=true)(e:x.p3=y.p3):x=y:=by
 obtain⟨j,h,g⟩:=p3_iff.mp e;obtain⟨L,M,c,f,i⟩:=hx;obtain⟨L',M',b,a,d⟩:=hy;rw[<- h]at b;rw[<- g]at a;rw[b.uniq c,a.uniq f]at d
 have:=a7f (a7e c.can f.can).rise i d h1 h2
 cases x;unfold J.r at this;simp_all
def b9m{X:List J}{os:List (List Tim.Pz)}(okT:OkT T)(okU:OkT U)(nd:X.Nodup)(hX:∀x,x∈X↔MJ T U x)(up:X.Pairwise Up)(ndD:D.Nodup)(hD:∀p,p∈D↔∃w k j,p=[.inr w,.inr k,.inr j]/\TrM T U m w k j)(po:os.Perm D)(so:os.Pairwise λx y=>Tim.ltT y x=false):(X.filter λx=>x.r.has m).map J.p3=os:=by
 have d:∀x∈X.filter (λx=>x.r.has m),MJ T U x/\x.r.has m=true:=λx e=>⟨(hX x).mp (aV.mp e).1,(aV.mp e).2⟩;have i:((X.filter λx=>x.r.has m).map J.p3).Nodup:=by
  rw[et,bo];refine bd.imp_of_mem (λ{x y} e l h z=>h ?_) (nd.sublist bC);exact b9l (d x e).1 (d y l).1 (d x e).2 (d y l).2 z
 have n:((X.filter λx=>x.r.has m).map J.p3).Perm os:=by
  refine ((dg i ndD).mpr λp=>?_).trans po.symm;rw[hD,aF]
  constructor
  ·rintro⟨x,e,rfl⟩;exact⟨x.w,x.k,x.j,rfl,c1z (d x e).1 (d x e).2⟩
  ·rintro⟨w,k,j,rfl,h⟩;obtain⟨x,g,f,rfl,rfl,rfl⟩:=c1A okT okU h;exact⟨x,aV.mpr ⟨(hX x).mpr g,f⟩,rfl⟩
 refine n.eq_of_pairwise (λa b o s g f=>?_) (bo.mpr ((up.sublist bC).imp λh=>lt43 h)) so;obtain⟨x,_,rfl⟩:=aF.mp o;obtain⟨y,_,rfl⟩:=aF.mp (n.mem_iff.mpr s)
 by_cases c:x.p3=y.p3
 ·omega
 ·rcases Tim.ltT_tot (cmp3 x y) c with q |q
  ·grind
  ·grind
noncomputable def J.sw(x:J):J:=⟨x.w,x.j,x.k,x.b,x.e⟩
def b1C(a b:Option Int):emin a b=emin b a:=by
 cases a<;>cases b<;>simp[emin]
 split<;>split<;>omega
def b9n(h:cmR r s=some c):cmR s r=some c:=by
 obtain⟨a,d,g,_,_,i,k⟩:=a0S h;have j:(if r.b > s.b then r.b else s.b)=c.b:=by grind
 have f:emin s.e r.e=c.e:=by rw[i,b1C]
 unfold cmR;rw[j,f,if_pos ⟨a.symm,g⟩,<- a,<- d]
def b9o(h:MJ T U x):MJ U T x.sw:=by
 obtain⟨L,M,f,c,b⟩:=h;obtain⟨r,a,s,d,e⟩:=mem_crs.mp b;exact⟨M,L,c,f,mem_crs.mpr ⟨s,d,r,a,b9n e⟩⟩
def b6o{X Y:List J}(nX:X.Nodup)(nY:Y.Nodup)(hX:∀x,x∈X↔MJ T U x)(hY:∀x,x∈Y↔MJ U T x):(X.map J.sw).Perm Y:=by
 refine (dg ?_ nY).mpr λy=>?_
 ·rw[et,bo];refine nX.imp λ{x y} h z=>h ?_
  have:=congrArg J.sw z
  exact this
 ·rw[hY,aF]
  constructor
  ·rintro⟨x,a,rfl⟩;exact b9o ((hX x).mp a)
  ·intro h;exact⟨y.sw,(hX _).mpr (b9o h),rfl⟩
def b9p(h:Can L)(hr:r∈L)(hs:s∈L)(hb:r.b<s.b):Lt2 r s:=by
 have:∀{L:List Rw},(∀r∈L,r.good)->L.Pairwise Lt2->r∈L->s∈L->Lt2 r s:=by
  intro L
  induction L with
  |nil=>intro _ _ h;simp at h
  |cons x L ih=>
   intro g p hr hs;obtain⟨d,e⟩:=aT.mp p;rcases aD.mp hr with e1 |hr
   ·rcases aD.mp hs with e2 |hs
    ·grind
    ·simp_all
   ·rcases aD.mp hs with e2 |hs
    ·have:=(d r hr).lt.b (g x (.head _))
     rw[e2]at hb;lia
    ·exact ih (λy f=>g y (.tail _ f)) e hr hs
 exact this h.1 h.2 hr hs
def b6p{X:List J}(nd:X.Nodup)(hX:∀x,x∈X↔MJ T U x)(up:X.Pairwise Up):(X.map λx=>(x.tr,(⟨x.b,x.e,[]⟩:Rw))).Pairwise ArR:=by
 rw[bo];refine bd.imp_of_mem (λ{x y} u q h=>⟨lt43 h.1,λz=>?_⟩) (up.and nd);have j:x.p3=y.p3:=by
  have z:x.tr=y.tr:=z;rw[<- b9k,<- b9k,z]
 have g:=(hX x).mp u;have f:=(hX y).mp q;have A:=c1y h.1 j;obtain⟨l,m,i⟩:=p3_iff.mp j;have v:x.b≠y.b:=λc=>h.2 (b9c g f (p4_iff.mpr ⟨l,m,i,c⟩));obtain⟨L,M,o,n,p⟩:=g;obtain⟨L',M',a,d,k⟩:=f;rw[<- m]at a;rw[<- i]at d;rw[a.uniq o,d.uniq n]at k;obtain⟨e,s,r,t⟩:=b9p (a7e o.can n.can) p k (show x.b<y.b by omega);refine⟨e,s,r,λc=>absurd ?_ (t c)⟩
 show [Z.str x.w]=[Z.str y.w]
 rw[l]
def b1D(h:KeysAt T ts)(g:KeysAt T us):ts=us:=a1M (a5u h.so) (a5u g.so) ((dg h.nd g.nd).mpr λs=>by rw[h.is,g.is])
structure JI (a:Ad) (G:Hq) (li kl p0 p1:Addr) (S0 S1:Addr->Prop) (T U:List Tl):Prop where
 gl:G li=some (.lst [.ref p0,.ref p1])
 gk:G kl=some (.lst [.int T.length,.int U.length])
 s0:Sheet a false G p0 S0 T
 s1:Sheet a true G p1 S1 U
 oT:OkT T
 oU:OkT U
 fT:Few T
 fU:Few U
 lT:T.length<=63
 lU:U.length<=63
def JI.sm{a:Ad}{G G':Hq}{li kl p0 p1:Addr}{S0 S1:Addr->Prop}{T U:List Tl}(h:JI a G li kl p0 p1 S0 S1 T U)(s:Sm G G'):JI a G' li kl p0 p1 S0 S1 T U:={ h with gl:=s _ _ h.gl,gk:=s _ _ h.gk,s0:=h.s0.keep (Sm.ks s),s1:=h.s1.keep (Sm.ks s) }
def a4e(a:Ad):P3:=λws G R=>Ex9 λ(li kl p0 p1:Addr) (S0 S1:Addr->Prop) (T U:List Tl) (m:Int)=>ws=[.ref li,.ref kl,.int m]/\JI a G li kl p0 p1 S0 S1 T U/\inT m/\∀G',Sm G G'->R (.bl true) G'
theorem b6q{α β:Type}{p:α->Bool}{g:α->β}:∀{l:List α},l.filterMap (λv=>if p v=true then some (g v) else none)=(l.filter p).map g
 |[]=>rfl
 |a::l=>by
  have:=b6q (p:=p) (g:=g) (l:=l)
  rw[bJ,bg,this];cases p a<;>rfl
def a5A{α β:Type}{f:α->β}{l:List α}:l.filterMap (λv=>some (f v))=l.map f:=by simp
def b1E{α:Type}{R:α->α->Prop}{l:List α}(h:l.Pairwise R){x y:α}(hx:l[i]?=some x)(hy:l[i+1]?=some y):R x y:=by
 obtain⟨b,rfl⟩:=aI.mp hx;obtain⟨a,rfl⟩:=aI.mp hy;exact cy.mp h i _ b a (by simp)
noncomputable def triZ(v:Str×List Z):Z:=.tup (.str v.1::v.2)
def b9q{α:Type}{l:List α}{n:Nat}:cutZ l none (some (n:Int))=l.take n:=by
 unfold cutZ
 have:=HT.sIx_nat l.length l.length n
 rw[this,HT.sIx_none];simp
noncomputable def wS:Z->Str
 |.str w=>w
 |_=>Str.ofString ""
noncomputable def triP(T U:List Tl)(m:Int)(js:List Str)(k:Str):List (List Tim.Pz):=js.filterMap λj=>if a0f (a0i U j) m=a0f (a0i T k) m then some [.inr (wS (a0f (a0i T k) m)),.inr k,.inr j] else none
section
variable{T U:List Tl}{m:Int}{ts us:List Str}
def b3t(okT:OkT T)(okU:OkT U)(ka:KeysAt T ts)(kb:KeysAt U us)(p:List Tim.Pz):p∈(a0p T m ts).flatMap (triP T U m (a0p U m us))↔∃w k j,p=[.inr w,.inr k,.inr j]/\TrM T U m w k j:=by
 simp only[er,triP,bp]
 constructor
 ·rintro⟨k,b,j,e,h⟩
  split at h
  ·next c=>
   injection h with h
   rcases a2V with z |⟨w,z⟩
   ·exact absurd z ((a3a okT ka).mp b)
   ·exact⟨w,k,j,by rw[<- h,z];rfl,z,by rw[c,z]⟩
  ·cases h
 ·rintro⟨w,k,j,rfl,a,d⟩;exact⟨k,(a3a okT ka).mpr (by grind),j,(a3a okU kb).mpr (by grind),by rw[if_pos (d.trans a.symm),a];rfl⟩
def b6r(ka:KeysAt T ts)(kb:KeysAt U us):((a0p T m ts).flatMap (triP T U m (a0p U m us))).Nodup:=by
 refine cQ.mpr ⟨λk _=>?_,?_⟩
 ·unfold triP;rw[eq];refine (b6l kb).imp λ{i j} h p d q c e=>h ?_
  split at d
  ·split at c
   ·injection d with d
    injection c with c
    rw[<- d,<- c]at e;simpa using e
   ·grind
  ·grind
 ·refine (b6l ka).imp λ{k f} h x b y a e=>h ?_;obtain⟨i,_,b⟩:=bp.mp b;obtain⟨j,_,a⟩:=bp.mp a
  split at b
  ·split at a
   ·injection b with b
    injection a with a
    rw[<- b,<- a]at e;injection e with _ e
    injection e with e _
    injection e
   ·grind
  ·grind
def b6s(okT:OkT T)(okU:OkT U)(h:MJ T U x):flat 0 (.str x.w)=true/\nmOk x.k/\nmOk x.j:=by
 obtain⟨L,M,b,f,d⟩:=h;obtain⟨r,a,s,i,e⟩:=mem_crs.mp d;refine⟨?_,a38 okT ⟨L,b,fE a⟩,a38 okU ⟨M,f,fE i⟩⟩;obtain⟨y,c,g⟩:=b.pl r a
 have:=(a0S e).2.1
 rw[c]at this;injection this with this
 rw[this];exact g
end
noncomputable def swZ(x:J):Z:=arZ true (x.tr,⟨x.b,x.e,[]⟩)
def a8e(x:J):swZ x=.tup [.tup [.str x.w,.str x.k,.str x.j],.int x.b,oz x.e]:=rfl
def a8f(h:R (.tup [x,y,z]) G):zSl (.tup [x,y,z,u,v]) none (some 3) G R:=a8y (λc=>absurd c.2 (by
 have:HT.sIx [x,y,z,u,v].length [x,y,z,u,v].length _=min 3 [x,y,z,u,v].length:=HT.sIx_nat _ _ 3
 rw[show (some 3)=some ((3:Nat):Int) from rfl,this];simp)) (by rw[show (some 3)=some ((3:Nat):Int) from rfl,b9q];exact h)
set_option tactic.hygienic true in
def a4f(T:Txt K mg a):Cal P w K mg base CX0 7 "_law_joined_right" (lowP K (a4e a)):=by
 refine fnc 3 (N:=["sheets","knowings","moment","rows","worths","others","due","back","pairs","key","there"]) T.br (T.f 38 _ rfl) ?_;walk_at "in";refine⟨_,(a0c (by ac_rfl)
  (a0c (z_st (nmI 4 nd) (q_Y (a6Q rfl) (T.b 12) (by ac_rfl)))
  (a0c (z_st (nmI 5 nd) (q_Y (a6Q rfl) (T.b 12) (by ac_rfl)))
  (a0c (z_l (nmI 6 nd) ["key","worths","others"] [none,some 4,some 5] (.nm 0) (hi:=(a1G (q_B (a55 rfl) (T.b 8) (q_k (qv 4) a0z)))) (ht:=λ_ _ _ _=>(a3I (a1Z (c00 hu) (qv 0) (qv 2) (by with_unfolding_all rfl)))) (he:=λ_ _ _ _=>(a8t (q_k (qv 0) (q_k (q_ix a3U (qv 1) (qv 0) (λ_ _=>rfl)) (q_k (q_ix a3U (qv 2) (qv 0) (λ_ _=>rfl)) a0z))))))
  (a0c (z_if (a1Z (o_ne hu) (q_l ["row","moment"] [none,some 2] (.nm 0)) (qv 6) (a3y _))
  (by ac_rfl)
  a3c)
  (a0c (by ac_rfl)
  (a0c (z_if (QW.qt (q_or (by ac_rfl) (b4O (a1Z (o_ne hu) (qv 7) (q_l ["row"] [none] (.nm 0)) (a3y _)))))
  (by ac_rfl)
  a3c)
  (a0c (by ac_rfl)
  (a0c (by ac_rfl)
  (a0c (a15 (pt:=(.nm 9)) fW.never rfl (a3R (qv 4)) (p_nm (nmI 9 nd))
  (a0B (z_st (nmI 6 nd) (q_op b44 (qv 6) (q_l ["other","key","worths","others"] [none,some 9,some 4,some 5] (.nm 0) (hi:=(a3R (qv 5))) (ht:=λ_ _ _ _=>(a3I (a1Z (o_eq hu) (q_ix a3U (qv 3) (qv 0) (λ_ _=>rfl)) (q_ix a3U (qv 2) (qv 1) (λ_ _=>rfl)) (a3y _)))) (he:=λ_ _ _ _=>(a8t (q_k (q_ix a3U (qv 2) (qv 1) (λ_ _=>rfl)) (q_k (qv 1) (q_k (qv 0) a0z))))))))))
  (a0c (z_if (a1Z (o_ne hu) (q_l ["row","moment"] [none,some 2] (.nm 0)) (q_B a3T (T.b 8) (q_k (qv 6) a0z)) (a3y _))
  (by ac_rfl)
  a3c)
  (a0c (z_st (nmI 7 nd) (q_l ["row"] [none] (.nm 0)))
  (a0c (z_l (nmI 10 nd) ["row"] [none] (.nm 0))
  (a0c (z_if (QW.qt (q_or (by ac_rfl) (b4O (a1Z (o_ne hu) (q_l ["row","back"] [none,some 7] (.nm 0)) (by ac_rfl) (a3y _)))))
  (by ac_rfl)
  a3c)
  (a0B (a1F (q_c (a8c T) hr (q_k (q_l ["row"] [none] (.nm 0)) a0z) ))))))))))))))))),?_⟩
 obtain⟨li,kl,p0,p1,S0,S1,T',U',m,rfl,I,hm,fin⟩:=h;have I0:=I;have hm':=b9b hm;have tk:∀V:List Tl,V.take (V.length:Int).toNat=V:=λV=>by rw[Int.toNat_natCast,bu]
 have inr:∀V:List Tl,inR V (V.length:Int):=λV=>⟨by omega,by omega⟩;have lT:=I.lT;have lU:=I.lU;have gl:=I.gl;have gk:=I.gk;symm;refine⟨false,true,p0,p1,S0,S1,T',U',_,_,rfl,I.s0,I.s1,I.oT,I.oU,I.fT,I.fU,lT,lU,inr _,inr _,λt ts vs G1 ht s1 ka lts lvs hvs gt=>?_⟩;rw[tk]at ka hvs;rw[tk]at hvs;obtain⟨ms,P,Q⟩:=b9h T' U';have evs:=hvs ms P Q
 replace I:=I.sm s1
 replace gl:=I.gl
 replace gk:=I.gk
 symm;refine⟨false,p0,S0,T',m,_,rfl,I.s0,I.oT,I.fT,inr _,hm',λt1 ts1 G2 ht1 s2 ka1 lts1 gt1=>?_⟩;rw[tk]at ka1 gt1;rw[<- b1D ka ka1]at gt1;have e1:((a2K T' m ts).filterMap a1N).map kwZ=(a2k (a1b T' m ts)).map prZ:=by unfold a2k a1b;rw[aU];rfl
 rw[e1]at gt1;have lr:(a2k (a1b T' m ts)).length<=63:=by unfold a2k a1b;rw[aB];exact aM (bN _ _) (by unfold a2K;rw[aB];exact lts)
 symm;refine a6R gt1 (by omega) λd0 hd0=>?_;rw[a39 (a5z ka)];generalize ee:put G2 d0 _=G3;obtain⟨gd0,s3⟩:=newK ee hd0;have s13:=s2.trans s3;have s03:=s1.trans s13;have hd0G:G d0=none:=(s1.trans s2).free hd0
 replace I:=I.sm s13
 replace gl:=I.gl
 replace gk:=I.gk
 replace gt:=s13 _ _ gt
 clear gt1 s2 s3 e1 ka1 lts1 ht1 s1 s13 hd0;symm;refine⟨true,p1,S1,U',m,_,rfl,I.s1,I.oU,I.fU,inr _,hm',λt2 us G4 ht2 s4 kb lus gt2=>?_⟩;rw[tk]at kb gt2;have e1:((a2K U' m us).filterMap a1N).map kwZ=(a2k (a1b U' m us)).map prZ:=by unfold a2k a1b;rw[aU];rfl
 rw[e1]at gt2;have lr2:(a2k (a1b U' m us)).length<=63:=by unfold a2k a1b;rw[aB];exact aM (bN _ _) (by unfold a2K;rw[aB];exact lus)
 symm;refine a6R gt2 (by omega) λd1 hd1=>?_;rw[a39 (a5z kb)];have n01:d0≠d1:=a0d (s4 _ _ gd0) hd1;generalize ee:put G4 d1 _=G5;obtain⟨gd1,s5⟩:=newK ee hd1;have s35:=s4.trans s5;have s05:=s03.trans s35;have hd1G:G d1=none:=(s03.trans s4).free hd1
 replace I:=I.sm s35
 replace gl:=I.gl
 replace gk:=I.gk
 replace gt:=s35 _ _ gt
 replace gd0:=s35 _ _ gd0
 clear gt2 s4 s5 s35 e1 ht2 s03 hd1;have v0:=λk=>a6r (m:=m) I.oT ka k;have v1:=λk=>a6r (m:=m) I.oU kb k;have k0:=a1X (T:=T') (m:=m) (ts:=ts);have k1:=a1X (T:=U') (m:=m) (ts:=us);generalize a2k (a1b T' m ts)=R0 at gd0 v0 k0 lr;generalize a2k (a1b U' m us)=R1 at gd1 v1 k1 lr2;have lk0:(a0p T' m ts).length<=63:=by have:=congrArg bf k0;rw[aB,aB]at this;omega
 symm;refine a4L gd0 k0 (by omega) λq sk hq hp so=>?_;have esk:sk=a0p T' m ts:=a1M (a5u so) ((a5u ka.so).sublist bC) hp;subst esk;generalize ee:put G5 q _=G6;obtain⟨gq,s6⟩:=newK ee hq;symm;refine a0E gq ?_;intro D hD;refine a09 (g':=triZ) (λk=>if a0f (a0i U' k) m=.non then none else some (k,[a0f (a0i T' k) m,a0f (a0i U' k) m])) (λys=>a0b gq hD) (by omega) ?_ ?_
 ·intro k hk ys K1 K2 k1' k2';have hk':=(a3a I.oT ka).mp hk;refine⟨_,rfl,?_⟩;symm;refine⟨R1,.inr k,a0b (s6 _ _ gd1) hD,rfl,?_⟩;rw[v1 k]
  by_cases c:a0f (a0i U' k) m=.non
  ·rw[if_pos c]at k2' ⊢;symm;exact k2' rfl
  ·rw[if_neg c]at k1' ⊢;symm;refine ifT ?_;symm;refine a3V (.inl (a0b (s6 _ _ gd0) hD)) rfl (by rw[v0 k,if_neg hk']) ?_;symm;refine a3V (.inl (a0b (s6 _ _ gd1) hD)) rfl (by rw[v1 k,if_neg c]) ?_;symm;exact⟨lenK rfl,k1' _ rfl⟩
 rw[b1B];generalize ee:put G6 D _=G7;obtain⟨gD,s7⟩:=newK ee hD;have s7:=s6.trans s7
 replace I:=I.sm s7
 replace gl:=I.gl
 replace gk:=I.gk
 replace gt:=s7 _ _ gt
 replace gd0:=s7 _ _ gd0
 replace gd1:=s7 _ _ gd1
 have s07:=s05.trans s7;clear s7 s6 s05 hq gq hD hp so;symm;refine a0E gt ?_;intro E hE;have two:∀v∈vs,∃x y,v.2.w=[x,y]/\flat 0 x=true/\flat 0 y=true/\nmOk v.1:=by
  intro v hv;rw[evs]at hv;obtain⟨k,hk,hv⟩:=er.mp hv;unfold bK at hv;obtain⟨r,hr,rfl⟩:=aF.mp hv;obtain⟨r',h1,h2⟩:=(a00 (a0M (bF T' U' k) P.so)).2.2.2 r hr;obtain⟨x,y,h3,h4,h5,_⟩:=bF_w (a3X h1).2;exact⟨x,y,h2.trans h3,by rw[h4];exact a1d (a1V I.oT) _,by rw[h5];exact a1d (a1V I.oU) _,a38 I.oT ((ka.is k).mp hk)⟩
 refine a09 (g:=a2J) (g':=triZ) (λv=>if v.2.has m=true then some (v.1,v.2.w) else none) (λys=>a0b gt hE) lvs ?_ ?_
 ·rintro⟨k,r⟩ hv ys K1 K2 k1' k2';obtain⟨x,y,ew,fx,fy,nk⟩:=two _ hv;have ew:r.w=[x,y]:=ew;have ez:a2J (k,r)=.tup [.str k,.int r.b,oz r.e,x,y]:=by unfold a2J;rw[ew]
  rw[ez];refine⟨_,rfl,?_⟩;symm;refine⟨r.b,r.e,m,rfl,?_⟩;refine⟨_,rfl,?_⟩
  show if r.has m=true then _ else _
  refine ifB (λc=>?_) λc=>?_
  ·symm;refine⟨lenK rfl,?_⟩
   have:=k1' (k,r.w) (if_pos c)
   unfold triZ at this;rw[ew]at this;exact this
  ·exact k2' (if_neg (by show ¬ r.has m=true;rw[c];decide))
 rw[b6q,evs,a8d P Q I.oT];have fdue:((ts.flatMap (atM T' U' m)).map triZ).all (flat 8)=true:=by
  rw[<- a8d P Q I.oT,<- evs,aU,dh,bX];intro v hv;obtain⟨x,y,ew,fx,fy,nk⟩:=two _ (aV.mp hv).1
  show flat 8 (.tup (.str v.1::v.2.w))=true
  rw[ew]
  show ([Z.str v.1,x,y].all (flat 7))=true
  simp[a1j nk,a0o (aW 7) fx,a0o (aW 7) fy]
 symm;refine b2h a0a (a0b gD hE) fdue fdue ?_;rw[decide_eq_true rfl];generalize ee:put G7 E _=G8;obtain⟨_,s8⟩:=newK ee hE
 replace I:=I.sm s8
 replace gl:=I.gl
 replace gk:=I.gk
 replace gt:=s8 _ _ gt
 replace gd0:=s8 _ _ gd0
 replace gd1:=s8 _ _ gd1
 have s08:=s07.trans s8;clear s8 s07 gD hE fdue;symm;refine ifF ?_;symm;refine⟨true,false,p1,p0,S1,S0,U',T',_,_,rfl,I.s1,I.s0,I.oU,I.oT,I.fU,I.fT,lU,lT,inr _,inr _,λt3 us' vs' G9 ht3 s9 kb' _ lvs' hvs' gt3=>?_⟩;rw[tk]at kb' hvs';rw[tk]at hvs';rw[<- b1D kb kb']at hvs';have evs':=hvs' ms Q P;rw[b6n P Q I.oT I.oU ka kb,<- evs]at evs'
 replace I:=I.sm s9
 replace gl:=I.gl
 replace gk:=I.gk
 replace gt:=s9 _ _ gt
 replace gd0:=s9 _ _ gd0
 replace gd1:=s9 _ _ gd1
 have s09:=s08.trans s9;clear s08 s9 kb' hvs' ht3;symm;refine⟨t,false,1,vs.map λv=>([v.1],v.2),rfl,by rw[gt,aU];rfl,λx hx=>?_,λi x y hx hy=>?_,by rw[aB];exact lvs,?_⟩
 ·obtain⟨v,hv,rfl⟩:=aF.mp hx;obtain⟨x,y,ew,fx,fy,nk⟩:=two _ hv;refine⟨rfl,λs hs=>?_,?_,λ_=>rfl⟩
  ·rw[aJ.mp hs];exact a1j nk
  ·show flat 8 (.tup v.2.w)=true
   rw[ew]
   show ([x,y].all (flat 7))=true
   simp[a0o (aW 7) fx,a0o (aW 7) fy]
 ·rw[evs]at hx hy;exact b1E (b9j P.so ka) hx hy
 symm;refine ifF ?_;symm;refine a0E gt ?_;intro F9 hF9;refine a09 (g:=a2J) (g':=a2J) (λv=>some (v.1,swR v.2)) (λys=>a0b gt hF9) lvs ?_ ?_
 ·rintro⟨k,r⟩ hv ys K1 K2 k1' k2';obtain⟨x,y,ew,fx,fy,nk⟩:=two _ hv;have ew:r.w=[x,y]:=ew;have ez:a2J (k,r)=.tup [.str k,.int r.b,oz r.e,x,y]:=by unfold a2J;rw[ew]
  have ez2:a2J (k,swR r)=.tup [.str k,.int r.b,oz r.e,y,x]:=by unfold a2J swR;rw[ew];rfl
  rw[ez];have k1':=k1' _ rfl;rw[ez2]at k1';refine⟨_,rfl,?_⟩;symm;refine a8f ?_;symm;refine⟨lenK rfl,?_⟩;exact a5N (by simp) (a01 (by simp)) k1'
 rw[a5A,<- evs'];have fb:(vs'.map a2J).all (flat 8)=true:=by
  rw[evs',aU,dh,bX];intro v hv;obtain⟨x,y,ew,fx,fy,nk⟩:=two _ hv
  show flat 8 (.tup (.str v.1::.int v.2.b::oz v.2.e::swW v.2.w))=true
  rw[ew]
  show ([Z.str v.1,.int v.2.b,oz v.2.e,y,x].all (flat 7))=true
  simp[a1j nk,a0o (aW 7) fx,a0o (aW 7) fy,b06,a5l]
 symm;refine b2h (a0b gt3 hF9) a0a fb fb ?_;rw[decide_eq_true rfl];generalize ee:put G9 F9 _=G10;obtain⟨_,s10⟩:=newK ee hF9
 replace I:=I.sm s10
 replace gl:=I.gl
 replace gk:=I.gk
 replace gd0:=s10 _ _ gd0
 replace gd1:=s10 _ _ gd1
 have s010:=s09.trans s10;clear s10 s09 gt3 hF9 fb evs' two gt evs hvs lvs lvs';refine⟨_,rfl,ifF ?_⟩;symm;refine⟨false,true,p0,p1,S0,S1,T',U',_,_,rfl,I.s0,I.s1,I.oT,I.oU,I.fT,I.fU,lT,lU,inr _,inr _,λt5 X G11 ht5 s11 lX nX hX uX gX=>?_⟩;simp only[tk]at hX
 replace gd0:=s11 _ _ gd0
 replace gd1:=s11 _ _ gd1
 have s011:=s010.trans s11;have oT:=I.oT;have oU:=I.oU;clear s010 s11 ht5 I gl gk;symm;refine⟨lenK rfl,λW0 hW0=>?_⟩;generalize ee:put G11 W0 _=G12;obtain⟨gW0,s12⟩:=newK ee hW0
 replace gd0:=s12 _ _ gd0
 replace gd1:=s12 _ _ gd1
 replace gX:=s12 _ _ gX
 have s012:=s011.trans s12;clear s011 s12 hW0;symm;refine b0M (.inl gd0) ?_;have nl:∀{x ws},G12 x=some (.lst ws)->x≠d0/\x≠d1:=λe=>⟨(λz=>by rw[z,gd0]at e;cases e),(λz=>by rw[z,gd1]at e;cases e)⟩;have q0:put G12 d0 (.dF R0) d0=some (.dF R0):=a0a;have q1:put G12 d0 (.dF R0) d1=some (.dK R1):=by rw[a0e (Ne.symm n01)];exact gd1
 have qX:put G12 d0 (.dF R0) t5=some (.lst (X.map fivJ)):=by rw[a0e (nl gX).1];exact gX
 have qW:put G12 d0 (.dF R0) W0=some (.lst []):=by rw[a0e (nl gW0).1];exact gW0
 have nX1:=(nl gX).2;have nW1:=(nl gW0).2;have s013:Sm G (put G12 d0 (.dF R0)):=b1w hd0G s012 (Sm.refl _);generalize put G12 d0 (.dF R0)=G13 at q0 q1 qX qW s013 ⊢;clear nl s012 gd0 gd1 gX gW0;have e0:(R0.map λp=>keyW p.1)=(a0p T' m ts).map Z.str:=by
  have:=congrArg (dH keyW) k0
  simpa[aU,Function.comp_def,keyW]using this
 have e1:(R1.map λp=>keyW p.1)=(a0p U' m us).map Z.str:=by
  have:=congrArg (dH keyW) k1
  simpa[aU,Function.comp_def,keyW]using this
 have lk1:(a0p U' m us).length<=63:=by have:=congrArg bf k1;rw[aB,aB]at this;omega
 have lP:∀k,(triP T' U' m (a0p U' m us) k).length<=63:=λk=>aM (bN _ _) lk1;have lD:∀i,(((a0p T' m ts).take i).flatMap (triP T' U' m (a0p U' m us))).length<=63*63:=λi=>aM (b1v (n:=63) λk _=>lP k) (cO (by rw[aR];omega) (aC _));rw[e0];refine a0P (λi σ G'=>∃(W:Addr)(v9:Option Z),Kq d1 G13 G'/\(G' d1=some (.dK R1)\/G' d1=some (.dF R1))/\W≠d1/\G' W=some (.lst ((((a0p T' m ts).take i).flatMap (triP T' U' m (a0p U' m us))).map L3.tupZ))/\σ=[some (.ref li),some (.ref kl),some (.int m),some (.ref t),some (.ref d0),some (.ref d1),some (.ref W),some (.ref t3),some (.ref t5),v9,none]) ⟨W0,_,λ_ _ e _=>e,.inl q1,nW1,qW,rfl⟩ (λ_ _ _ _ _=>True.intro) ?_ ?_
 ·rintro i x σ G14 hx ⟨W,v9,kq,g1,nW,gW,rfl⟩;rw[aK]at hx;cases hx':(a0p T' m ts)[i]? with
  |none=>rw[hx']at hx;cases hx
  |some k=>
  rw[hx']at hx;cases hx;have hk:=(a3a oT ka).mp (aS hx');have l1:=lD i;have l2:=lP k;have tk2:((a0p T' m ts).take (i+1)).flatMap (triP T' U' m (a0p U' m us))=((a0p T' m ts).take i).flatMap (triP T' U' m (a0p U' m us))++triP T' U' m (a0p U' m us) k:=by rw[take_snoc hx',cP];simp
  generalize ((a0p T' m ts).take i).flatMap (triP T' U' m (a0p U' m us))=P0 at gW l1 tk2;obtain⟨wk,ewk⟩:∃w,a0f (a0i T' k) m=.str w:=by
   rcases a2V (T:=T') (k:=k) (t:=m) with z |z
   ·exact absurd z hk
   ·exact z
  have v0k:valZ R0 (.inr k)=some (.str wk):=by rw[v0 k,if_neg hk,ewk]
  have fwk:flat 0 (.str wk)=true:=by rw[<- ewk];exact a1d (a1V oT) _
  refine⟨_,rfl,?_⟩;symm;refine b0M g1 ?_;rw[e1];have q14:put G14 d1 (.dF R1) d1=some (.dF R1):=a0a;have k14:Kq d1 G13 (put G14 d1 (.dF R1)):=λb o e nb=>by rw[a0e nb];exact kq b o e nb
  have gW14:put G14 d1 (.dF R1) W=some (.lst (P0.map L3.tupZ)):=by rw[a0e nW];exact gW
  generalize put G14 d1 (.dF R1)=G15 at q14 k14 gW14 ⊢;intro D2 hD2;have n2:D2≠d1:=Ne.symm (a0d q14 hD2);refine a09 (g':=L3.tupZ) (λj=>if a0f (a0i U' j) m=a0f (a0i T' k) m then some [.inr (wS (a0f (a0i T' k) m)),.inr k,.inr j] else none) (λys=>True.intro) (by omega) ?_ ?_
  ·intro j hj ys K1 K2 k1' k2';have hj':=(a3a oU kb).mp hj;refine⟨_,rfl,?_⟩;symm;refine a3V (.inr (a0b q14 hD2)) rfl (by rw[v1 j,if_neg hj']) ?_;symm;refine a3V (.inr (a0b (k14 _ _ q0 n01) hD2)) rfl v0k ?_;symm;refine a6Z (a0o (aW _) (a1d (a1V oU) _)) (a0o (aW _) fwk) ?_;refine⟨_,rfl,?_⟩;rw[ewk]at k1' k2';refine ifD (λc=>?_) λc=>?_
   ·symm;refine a3V (.inr (a0b (k14 _ _ q0 n01) hD2)) rfl v0k ?_;symm;exact⟨lenK rfl,k1' _ (if_pos c)⟩
   ·exact k2' (if_neg c)
  ·show zAdd _ _ _ _
   refine a5O (ys:=(triP T' U' m (a0p U' m us) k).map L3.tupZ) (a0b gW14 hD2) a0a (aM (m:=5000) (by rw[aB,aB];omega) (by decide)) λW2 hW2=>?_;symm;have s16:=Sm.new (o:=.lst (P0.map L3.tupZ++(triP T' U' m (a0p U' m us) k).map L3.tupZ)) hW2;refine⟨W2,_,λb o e nb=>s16 _ _ (a0b (k14 b o e nb) hD2),.inr (s16 _ _ (a0b q14 hD2)),Ne.symm (a0d (a0b q14 hD2) hW2),?_,rfl⟩;rw[a0a,tk2,aP]
 ·rintro σ G14 ⟨W,v9,kq,g1,nW,gW,rfl⟩;rw[aB,bu]at gW;have gX:=kq _ _ qX nX1;have s014:Sm G G14:=λb o e=>kq b o (s013 b o e) (a0d e hd1G);have I:=I0.sm s014;have gl:=I.gl;have gk:=I.gk;have lD:=lD (a0p T' m ts).length;rw[bu]at lD;have mD:=b3t (m:=m) oT oU ka kb;have nD:=b6r (m:=m) ka kb;generalize (a0p T' m ts).flatMap (triP T' U' m (a0p U' m us))=Du at gW mD nD lD;have fl:=λx (hx:x∈X)=>b6s oT oU ((hX x).mp hx);clear kq g1 qW q0 q1 qX e0 e1 v0 v1 k0 k1 lP;symm;refine a0E gX ?_;intro E2 hE2;refine a09 (g:=fivJ) (g':=L3.tupZ) (λx=>if x.r.has m=true then some x.p3 else none) (λys=>a0b gX hE2) lX ?_ ?_
  ·rintro x hx ys K1 K2 k1' k2';rw[a4c];refine⟨_,rfl,?_⟩;symm;refine⟨x.b,x.e,m,rfl,?_⟩;refine⟨_,rfl,?_⟩
   show if x.r.has m=true then _ else _
   refine ifB (λc=>?_) λc=>?_
   ·symm;exact a8f (k1' _ (if_pos c))
   ·exact k2' (if_neg (by rw[c];decide))
  rw[b6q];have c3:∀x∈Du,∃y:J,x=y.p3:=λx hx=>by
   obtain⟨w,k,j,rfl,_⟩:=(mD x).mp hx;exact⟨⟨w,k,j,0,none⟩,rfl⟩
  symm;refine a59 (rows:=Du) (m:=3) (a0b gW hE2) (by omega) ?_ ?_ ?_ λt6 os ht6 hp6 so6=>?_
  ·intro x hx;obtain⟨y,rfl⟩:=c3 x hx;exact⟨_,_,rfl⟩
  ·intro x hx;obtain⟨y,rfl⟩:=c3 x hx
   rfl
  ·intro x hx y hy;obtain⟨x',rfl⟩:=c3 x hx;obtain⟨y',rfl⟩:=c3 y hy;exact cmp3 x' y'
  have eos:=b9m (m:=m) oT oU nX hX uX nD mD hp6 so6;have fos:(os.map L3.tupZ).all (flat 8)=true:=by
   rw[<- eos,aU,dh,bX];intro x hx;obtain⟨f1,f2,f3⟩:=fl x (aV.mp hx).1
   show ([Z.str x.w,.str x.k,.str x.j].all (flat 7))=true
   simp[a0o (aW 7) f1,a1j f2,a1j f3]
  rw[eos]at ht6 ⊢;have s16:=(Sm.new (o:=.lst (os.map L3.tupZ)) hE2).trans (Sm.new (o:=.lst (os.map L3.tupZ)) ht6);refine b2h (a0b a0a ht6) a0a fos fos ?_;rw[decide_eq_true rfl];generalize put (put G14 E2 (.lst (os.map L3.tupZ))) t6 (.lst (os.map L3.tupZ))=G16 at s16 ⊢
  replace I:=I.sm s16
  replace gl:=I.gl
  replace gk:=I.gk
  replace gX:=s16 _ _ gX
  replace s014:=s014.trans s16
  clear s16 ht6 hE2 fos eos so6 hp6 c3 mD nD gW lD;refine⟨_,rfl,ifF ?_⟩;symm;refine⟨true,false,p1,p0,S1,S0,U',T',_,_,rfl,I.s1,I.s0,I.oU,I.oT,I.fU,I.fT,lU,lT,inr _,inr _,λt7 Y G17 ht7 s17 lY nY hY _ gY=>?_⟩;simp only[tk]at hY;have pe:=b6o nX nY hX hY
  replace gX:=s17 _ _ gX
  replace s014:=s014.trans s17
  clear s17 I gl gk ht7;symm;refine a0E gY ?_;intro E3 hE3;refine a09 (g:=fivJ) (g':=swZ) (λx=>some x) (λys=>a0b gY hE3) lY ?_ ?_
  ·rintro x hx ys K1 K2 k1' k2';have k1':=k1' _ rfl;rw[a8e]at k1';rw[a4c];refine⟨_,rfl,?_⟩;symm;refine a8f ?_;symm;exact⟨lenK rfl,k1'⟩
  rw[a5A,List.map_id'];generalize ee:put G17 E3 _=G18;obtain⟨gB,s18⟩:=newK ee hE3
  replace gX:=s18 _ _ gX
  replace s014:=s014.trans s18
  clear s18 hE3 gY;symm;refine a0E gX ?_;intro E4 hE4;refine a09 (g:=fivJ) (g':=swZ) (λx=>some x.sw) (λys=>a0b gX hE4) lX ?_ ?_
  ·rintro x hx ys K1 K2 k1' k2';have k1':=k1' _ rfl;rw[a8e]at k1';rw[a4c];refine⟨_,rfl,?_⟩;symm;refine⟨lenK rfl,?_⟩;symm;exact⟨lenK rfl,k1'⟩
  rw[a5A];generalize ee:put G18 E4 _=G19;obtain⟨gT,s19⟩:=newK ee hE4
  replace gX:=s19 _ _ gX
  replace gB:=s19 _ _ gB
  replace s014:=s014.trans s19
  clear s19 hE4;have fls:∀x∈X,flat 8 (swZ x.sw)=true:=λx hx=>by
   obtain⟨f1,f2,f3⟩:=fl x hx;rw[a8e]
   show ([Z.tup [.str x.w,.str x.j,.str x.k],.int x.b,oz x.e].all (flat 7))=true
   have:flat 7 (.tup [.str x.w,.str x.j,.str x.k])=true:=by
    show ([Z.str x.w,.str x.j,.str x.k].all (flat 6))=true
    simp[a0o (aW 6) f1,a1j f2,a1j f3]
   simp[this,b06,a5l]
  have eL:(Y.map swZ).length=((X.map J.sw).map swZ).length:=by rw[aB,aB,pe.length_eq]
  have flY:(Y.map swZ).all (flat 8)=true:=by
   rw[dh,bX];intro y hy;obtain⟨x,hx,rfl⟩:=aF.mp (pe.mem_iff.mpr hy);exact fls x hx
  symm;refine a5P gB ?_;symm;refine a5P gT ?_;symm;rw[eL,decide_eq_true rfl];refine ifF ?_;symm;refine a0E gT ?_;intro E5 hE5;refine a09 (g:=swZ) (g':=swZ) (λ_=>none) (λys=>a0b gT hE5) (by rw[aB];exact lX) ?_ ?_
  ·rintro x hx ys K1 K2 k1' k2';obtain⟨x',hx',rfl⟩:=aF.mp hx;refine⟨_,rfl,?_⟩;symm;refine c0I (a0b gB hE5) (fls x' hx') flY ?_;rw[decide_eq_true (aF.mpr ⟨_,pe.mem_iff.mp hx,rfl⟩)];refine⟨_,rfl,ifF ?_⟩;exact k2' rfl
  rw[show ((X.map J.sw).filterMap λ_=>(none:Option J))=[] from fg.mpr λ_ _=>rfl];generalize ee:put G19 E5 _=G20;obtain⟨gE,s20⟩:=newK ee hE5
  replace gE:G20 E5=some (.lst []):=gE
  replace gX:=s20 _ _ gX
  replace s014:=s014.trans s20
  clear s20 hE5;symm;refine⟨lenK rfl,λE6 hE6=>?_⟩;refine b2h (a0b gE hE6) a0a rfl rfl ?_;rw[decide_eq_true rfl];generalize ee:put G20 E6 _=G21;obtain⟨_,s21⟩:=newK ee hE6
  replace gX:=s21 _ _ gX
  replace s014:=s014.trans s21
  clear s21 hE6;refine⟨_,rfl,ifF ?_⟩;symm;refine a0E gX ?_;intro E7 hE7;refine a09 (g:=fivJ) (g':=swZ) (λx=>some x) (λys=>a0b gX hE7) lX ?_ ?_
  ·rintro x hx ys K1 K2 k1' k2';have k1':=k1' _ rfl;rw[a8e]at k1';rw[a4c];refine⟨_,rfl,?_⟩;symm;refine a8f ?_;symm;exact⟨lenK rfl,k1'⟩
  rw[a5A,List.map_id'];symm;refine⟨E7,true,3,X.map λx=>(x.tr,(⟨x.b,x.e,[]⟩:Rw)),rfl,by rw[a0a,aU];rfl,λy hy=>?_,λi x y hx hy=>b1E (b6p nX hX uX) hx hy,by rw[aB];exact lX,?_⟩
  ·obtain⟨x,hx,rfl⟩:=aF.mp hy;obtain⟨f1,f2,f3⟩:=fl x hx;refine⟨rfl,λs hs=>?_,rfl,λc=>by cases c⟩;simp only[J.tr,aD,ci,or_false]at hs;rcases hs with rfl |rfl |rfl
   ·exact f1
   ·exact a1j f2
   ·exact a1j f3
  exact fin _ (s014.trans (Sm.new hE7))
structure TJ (a:Ad) (H G:Hq) (N:Addr->Prop) (b0 b1:Bool) (p0 p1:Addr) (S0 S1:Addr->Prop) (T U:List Tl):Prop where
 s0:Sheet a b0 G p0 S0 T
 s1:Sheet a b1 G p1 S1 U
 d:∀x,S0 x->¬ S1 x
 f0:∀x,S0 x->N x\/H x=none
 f1:∀x,S1 x->N x\/H x=none
 kp:∀x o,H x=some o->¬ N x->G x=some o
section
variable{a:Ad}{H G G':Hq}{N:Addr->Prop}{b0 b1:Bool}{p0 p1:Addr}{S0 S1 S':Addr->Prop}{T U W:List Tl}
def TJ.sm(h:TJ a H G N b0 b1 p0 p1 S0 S1 T U)(s:Sm G G'):TJ a H G' N b0 b1 p0 p1 S0 S1 T U:={ h with s0:=h.s0.keep (Sm.ks s),s1:=h.s1.keep (Sm.ks s),kp:=λx o e n=>s _ _ (h.kp x o e n) }
def TJ.swap(h:TJ a H G N b0 b1 p0 p1 S0 S1 T U):TJ a H G N b1 b0 p1 p0 S1 S0 U T:=⟨h.s1,h.s0,λx c b=>h.d x b c,h.f1,h.f0,h.kp⟩
def Sheet.al(h:Sheet a b G p S T)(hx:S x)(e:G x=none):False:=by
 obtain⟨_,_,_,m⟩:=h;obtain⟨o,c⟩:=m.al x hx;rw[e]at c;cases c
def TJ.t0(h:TJ a H G N b0 b1 p0 p1 S0 S1 T U)(i2:∀x,S' x->S0 x\/G x=none)(kn:KN S0 G G')(sh:Sheet a b0 G' p0 S' W):TJ a H G' N b0 b1 p0 p1 S' S1 W U:=by
 refine⟨sh,h.s1.keep λx o b e=>kn x o (λz=>h.d x z b) e,λx b c=>?_,λx b=>?_,h.f1,λx o e n=>kn x o (λz=>?_) (h.kp x o e n)⟩
 ·rcases i2 x b with w |w
  ·exact h.d x w c
  ·exact h.s1.al c w
 ·rcases i2 x b with w |w
  ·exact h.f0 x w
  ·by_cases n:N x
   ·simp_all
   ·right
    cases e:H x with
    |none=>rfl
    |some o=>rw[h.kp x o e n]at w;cases w
 ·rcases h.f0 x z with w |w
  ·simp_all
  ·simp_all
def TJ.t1(h:TJ a H G N b0 b1 p0 p1 S0 S1 T U)(i2:∀x,S' x->S1 x\/G x=none)(kn:KN S1 G G')(sh:Sheet a b1 G' p1 S' W):TJ a H G' N b0 b1 p0 p1 S0 S' T W:=(h.swap.t0 i2 kn sh).swap
end
def b1F(h:OkT T)(o:τ.Ok):OkT (T++[τ]):=λu a=>by
 rcases aE.mp a with a |a
 ·exact h u a
 ·simp_all
def b9r(hp:G p=none)(k:∀x o,put G p (.ins C dx []) x=some o->x≠p->G' x=some o):Sm G G':=λx o e=>k x o (a0b e hp) (a0d e hp)
def b9s(hp:G p=none)(hd:put G p (.ins C dx []) d=none)(hx:x=p\/x=d):G x=none:=by
 rcases hx with rfl |rfl
 ·omega
 ·exact (Sm.new hp).free hd
def b6t(M:C3)(h:∀K:C3,(∀σ' G',M σ' G'->K σ' G')->t K rt bk ct σ G)(h':∀σ' G',M σ' G'->u nx rt bk ct σ' G'):uSeq t u nx rt bk ct σ G:=h _ h'
def b9t(T:Txt K mg a)(J:Fun K "law" "law" (top 58) f d):FnOk P w K mg base CX0 8 f d ["script"] (lowP K a7X):=by
 refine fnd (n:=1) (N:=["script","keys","worths","sheets","cell","telling","moment","knowings"]) J ?_ ⟨rfl,rfl,rfl,by decide +kernel,rfl,by decide +kernel,by decide +kernel⟩ λws G R h=>by obtain⟨_,_,rfl,_⟩:=h;rfl
 walk_at "in";refine⟨_,(a0c (by ac_rfl)
  (a0c (by ac_rfl)
  (a0c (z_st (nmI 3 nd) (b7x (q_k (b8N T.mk_Sheet (a1k T false) hr T.mg_Sheet) (q_k (b8N T.mk_Tiled (a1k T true) hr T.mg_Tiled) a0z))))
  (a0c (a15 (pt:=(.nm 4)) fW.never rfl (by ac_rfl) (p_nm (nmI 4 nd))
  (a0c (by ac_rfl)
  (a0c (a26 (b8L λb=>(q_m (by ac_rfl) (clK T b) (a5t T b) hr (q_k (qv 5) a0z) )))
  (a0c (by ac_rfl)
  (a0B (z_if (by ac_rfl)
  (a0c (z_l (nmI 7 nd) ["sheet"] [none] (.nm 0) (he:=λ_ _ _ _=>(b8L λb=>(q_m0 (qv 0) (clK T b) (a2Z T b) hr))))
  (by ac_rfl))
  a3c))))))
  (by ac_rfl))))),?_⟩
 obtain⟨sa,ns,rfl,hl,q⟩:=h;symm;refine⟨sa,ns,0,rfl,by decide,λc0=>?_⟩;symm;refine⟨c0,rfl,λks kn G1 hks s1 gks lk hk nd=>?_⟩;symm;refine⟨sa,ns,1,rfl,by decide,λc1=>?_⟩;symm;refine⟨c1,rfl,λwsA wn G3 hws s2 gws lw hw _=>?_⟩;have gks3:=s2 _ _ gks;clear gks s1 hks s2 hws;symm;intro p0 dx0 hp0;refine⟨false,p0,dx0,rfl,a0a,λd0 H0 hd0 k0 sh0=>⟨rfl,?_⟩⟩;have m0:=b9r hp0 k0;have n0:∀{x},(x=p0\/x=d0)->G3 x=none:=b9s hp0 hd0;clear k0 hp0 hd0;symm;intro p1 dx1 hp1;refine⟨true,p1,dx1,rfl,a0a,λd1 H1 hd1 k1 sh1=>⟨rfl,?_⟩⟩;have m1:=b9r hp1 k1;have n1:∀{x},(x=p1\/x=d1)->H0 x=none:=b9s hp1 hd1;clear k1 hp1 hd1;symm;refine⟨lenK rfl,λli hli=>?_⟩;generalize ee:put H1 li _=H3;obtain⟨gli,m2⟩:=newK ee hli;symm;refine c0E λc hc=>?_;have hcl:(cutZ ns (some 3) (some 123)).length<=63:=aM (a6H ..) hl;generalize cutZ ns (some 3) (some 123)=cs at hcl ⊢;generalize ee:put H3 c _=G6;obtain⟨gc6,m4⟩:=newK ee hc;have no:∀{b p S T}{K K':Hq}{x:Addr},Sheet a b K p S T->Sm K K'->S x->K' x=none->False:=λsh s hx e=>(sh.keep (Sm.ks s)).al hx e;have ndd:∀{K K':Hq}{x:Addr}{o:O},Sm K K'->K x=some o->K' x=none->False:=λs e e'=>by rw[s _ _ e]at e';cases e'
 obtain⟨N,hN⟩:∃N:Addr->Prop,∀x,N x↔(x=p0\/x=d0)\/(x=p1\/x=d1):=⟨_,λ_=>Iff.rfl⟩;have nN:∀{x o},G3 x=some o->¬ N x:=λe z=>by
  rcases (hN _).mp z with z |z
  ·exact ndd (Sm.refl _) e (n0 z)
  ·exact ndd m0 e (n1 z)
 have nK:=nN gks3;have nW:=nN gws;have nN2:∀{x}{K:Hq},Sm H1 K->K x=none->¬ N x:=λs e z=>by
  rcases (hN _).mp z with z |z
  ·exact no sh0 (m1.trans s) z e
  ·exact no sh1 s z e
 have nL:=nN2 (Sm.refl _) hli;have nC:=nN2 m2 hc;have m14:=(m1.trans m2).trans m4;have th:TJ a G6 G6 N false true p0 p1 (λx=>x=p0\/x=d0) (λx=>x=p1\/x=d1) [] []:=
  ⟨sh0.keep (Sm.ks m14),sh1.keep (Sm.ks (m2.trans m4)),λx h1 h2=>no sh0 (Sm.refl _) h1 (n1 h2),λx h=>.inl ((hN x).mpr (.inl h)),λx h=>.inl ((hN x).mpr (.inr h)),λx o e _=>e⟩
 have gk6:=m14 _ _ (m0 _ _ gks3);have gw6:=m14 _ _ (m0 _ _ gws);have gl6:=m4 _ _ gli;clear sh0 sh1 n0 n1 m0 m1 m2 m4 m14 gli hli hc no ndd nN hN gks3 gws nN2;symm;refine a0E gc6 ?_;refine a0P (λi σ G'=>Ex8 λ(S0 S1:Addr->Prop) (T U:List Tl) (v1 v2 v3 v4:Option Z)=>T.length+U.length=i/\OkT T/\OkT U/\(∀τ∈T,τ.key∈kn)/\(∀τ∈U,τ.key∈kn)/\TJ a G6 G' N false true p0 p1 S0 S1 T U/\σ=[some (.scr sa ns),some (.ref ks),some (.ref wsA),some (.ref li),v1,v2,v3,v4])
  ⟨_,_,[],[],_,_,_,_,rfl,(fun τ h=>by simp at h),(fun τ h=>by simp at h),(fun τ h=>by simp at h),(fun τ h=>by simp at h),th,rfl⟩ (by rintro i σ G' _ ⟨_,_,_,_,_,_,_,_,_,_,_,_,_,h,_⟩;exact h.kp _ _ gc6 nC) ?_ ?_
 ·rintro i x σ G' hx ⟨S0,S1,T1,U1,v1,v2,v3,v4,hTl,okT,okU,kmT,kmU,h,rfl⟩;rw[aK]at hx;cases hx':cs[i]? with
  |none=>rw[hx']at hx;cases hx
  |some cl=>
  rw[hx']at hx;cases hx;have hi:=(aI.mp hx').1;refine⟨_,rfl,?_⟩;symm;refine⟨_,ks,wsA,kn,wn,rfl,h.kp _ _ gk6 nK,h.kp _ _ gw6 nW,lk,lw,hk,hw,fun τ Ga sA okτ mk=>?_⟩
  replace h:=h.sm sA
  clear sA;refine⟨_,rfl,?_⟩;refine b6t (fun σ' G'=>Ex4 λ(S0 S1:Addr->Prop) (T U:List Tl)=>T.length+U.length=i+1/\OkT T/\OkT U/\(∀τ∈T,τ.key∈kn)/\(∀τ∈U,τ.key∈kn)/\TJ a G6 G' N false true p0 p1 S0 S1 T U/\σ'=[some (.scr sa ns),some (.ref ks),some (.ref wsA),some (.ref li),some (.int cl),some τ.z,v3,v4]) ?_ ?_
  ·intro K hK;have gl:=h.kp _ _ gl6 nL;have km2:∀{T:List Tl},(∀u∈T,u.key∈kn)->∀u∈T++[τ],u.key∈kn:=λkm u hu=>by
    rcases aE.mp hu with hu |hu
    ·exact km u hu
    ·rw[aJ.mp hu];exact mk
   by_cases c:tumF cl 50 % 2=0
   ·obtain⟨dxa,da,kva,ma⟩:=id h.s0;symm;refine b5U false ?_;symm;refine⟨_,50,rfl,by decide,by decide,λr r0 r1=>?_⟩;symm;rw[show r % 2=0 by rw[r1.2];exact c];symm;refine⟨p0,dxa,_,rfl,ma.ob,a2e (by decide +kernel) (by decide +kernel),?_⟩;symm;refine⟨false,p0,S0,T1,h.s0,.inl ⟨τ,rfl,okτ,by omega,λS' Gd i1 i2 knd shd=>?_⟩⟩;symm;exact hK _ _ ⟨S',S1,T1++[τ],U1,by rw[aG,cF];omega,b1F okT okτ,okU,km2 kmT,kmU,h.t0 i2 knd shd,rfl⟩
   ·obtain⟨dxa,da,kva,ma⟩:=id h.s1;symm;refine b5U true ?_;symm;refine⟨_,50,rfl,by decide,by decide,λr r0 r1=>?_⟩;symm;rw[show r % 2=1 by rw[<- r1.2]at c;omega];symm;refine⟨p1,dxa,_,rfl,ma.ob,a2e (by decide +kernel) (by decide +kernel),?_⟩;symm;refine⟨true,p1,S1,U1,h.s1,.inl ⟨τ,rfl,okτ,by omega,λS' Gd i1 i2 knd shd=>?_⟩⟩;symm;exact hK _ _ ⟨S0,S',T1,U1++[τ],by rw[aG,cF];omega,okT,b1F okU okτ,kmT,km2 kmU,h.t1 i2 knd shd,rfl⟩
  clear h S0 S1 hTl okT okU kmT kmU;rintro σ' Gb ⟨S0,S1,T2,U2,hTl,okT,okU,kmT,kmU,h,rfl⟩;obtain⟨ws,ez,eb,_⟩:=@at_b τ;have hst:=okτ.st;have ixb:∀{R':K3}{G':Hq},R' (.int τ.b) G'->zIx τ.z (.int (-2)) G' R':=λh=>by rw[ez];exact a18 eb h
  symm;refine ixb ?_;symm;refine⟨lenK rfl,λA hA=>?_⟩;generalize ee:put Gb A _=Gd;obtain⟨gA,sA⟩:=newK ee hA;symm;refine⟨_,51,rfl,by decide,by decide,λr3 r30 r31=>?_⟩;symm;obtain⟨y,ey,hy0,hy1⟩:∃y:Int,atI [Z.int 0,.int 0,.int (-1),.int 4] (r3 % 4)=some (.int y)/\-1<=y/\y<=4:=by
   have h4:r3 % 4=0\/r3 % 4=1\/r3 % 4=2\/r3 % 4=3:=by omega
   rcases h4 with e |e |e |e<;>rw[e]
   ·exact⟨0,rfl,by decide,by decide⟩
   ·exact⟨0,rfl,by decide,by decide⟩
   ·exact⟨-1,rfl,by decide,by decide⟩
   ·exact⟨4,rfl,by decide,by decide⟩
  refine a1i gA ey ?_;symm;obtain⟨m,em,hm⟩:∃m:Int,(if (if τ.b+y > 0 then τ.b+y else 0)<1000000000000 then if τ.b+y > 0 then τ.b+y else 0 else 1000000000000)=m/\inT m:=⟨_,rfl,by unfold inT;constructor<;>(try show _<=(1000000000000:Int))<;>split<;>(try split)<;>omega⟩
  rw[em]
  replace h:=h.sm sA
  clear gA sA hA em hy0 hy1 ey;refine⟨_,52,rfl,by decide,by decide,λr4 r40 r41=>?_⟩;symm;refine ifD (λ_=>?_) λ_=>?_
  ·have gl:=h.kp _ _ gl6 nL;symm;refine a0E gl ?_;intro D hD;refine a6F (λj ys G'=>ys=([Z.int T2.length,.int U2.length]:List Z).take j/\Sm Gd G'/\G' D=some (.lst ys)) ⟨rfl,Sm.new hD,a0a⟩ (by rintro j ys G' _ ⟨_,s,_⟩;exact s _ _ gl) ?_ ?_
   ·rintro j x ys Ge hx ⟨rfl,s,gD⟩;have h9:=h.sm s;refine⟨_,rfl,?_⟩;obtain⟨b,pp,S,V,sh,rfl,ev,hl2⟩:Ex4 λ(b:Bool) (pp:Addr) (S:Addr->Prop) (V:List Tl)=>Sheet a b Ge pp S V/\x=.ref pp/\([Z.int T2.length,.int U2.length]:List Z).take (j+1)=([Z.int T2.length,.int U2.length]:List Z).take j++[.int V.length]/\(([Z.int T2.length,.int U2.length]:List Z).take j).length<=2:=by
     match j,hx with
     |0,hx=>exact⟨false,p0,S0,T2,h9.s0,by simpa using hx.symm,rfl,by simp⟩
     |1,hx=>exact⟨true,p1,S1,U2,h9.s1,by simpa using hx.symm,rfl,by simp⟩
     |j+2,hx=>simp at hx
    obtain⟨dxa,da,kva,ma⟩:=id sh;symm;refine b5U b ?_;symm;refine⟨pp,dxa,_,rfl,ma.ob,a2e (by decide +kernel) (by decide +kernel),?_⟩;symm;refine⟨b,pp,S,V,rfl,sh,?_⟩;refine⟨gD,a0h (by omega),ev.symm,s.put hD,a0a⟩
   ·rintro ys Ge ⟨rfl,s,gD⟩
    replace h:=h.sm s
    have gl:=h.kp _ _ gl6 nL;symm;refine⟨li,D,p0,p1,S0,S1,T2,U2,m,rfl,⟨gl,gD,h.s0,h.s1,okT,okU,⟨by omega,kn,by omega,kmT⟩,⟨by omega,kn,by omega,kmU⟩,by omega,by omega⟩,hm,λGf sf=>?_⟩;refine⟨_,rfl,?_⟩;symm;refine ifF ?_;exact⟨S0,S1,T2,U2,_,_,_,_,hTl,okT,okU,kmT,kmU,h.sm sf,rfl⟩
  ·symm;exact⟨S0,S1,T2,U2,_,_,_,_,hTl,okT,okU,kmT,kmU,h,rfl⟩
 ·rintro σ G' ⟨S0,S1,T1,U1,v1,v2,v3,v4,hTl,okT,okU,kmT,kmU,h,rfl⟩;symm;exact q _
def all_mk{l:PySem.W.OpenLaw}{w:World}{K:Fg}{h:Heap}{mg:Str->Option Value}{fa:Addr}(X:K.In h)(G:h.Ns fX mg)(hfa:mg "law"=some (.ref fa))
  {aa ab:Addr}
  {ac ad:Tok}
  (ag:PySem.W.nsIn K fX "Sheet"=some (some (.ref aa)))
  (ah:PySem.W.nsIn K fX "Tiled"=some (some (.ref ab)))
  (ae:PySem.W.nsIn K fX "LONGEST_NAME"=some (some (.int 8 ac)))
  (af:PySem.W.nsIn K fX "LAST_MOMENT"=some (some (.int 1000000000000 ad)))
  (ai:PySem.W.plainGet K aa Str.empty=true)
  (aj:PySem.W.hasDictIn K aa=true)
  (ak:PySem.W.plainOver K aa=true)
  (al:PySem.W.findIn K (.ref aa) "__setattr__"=some (some (.builtin "object.__setattr__")))
  (am:PySem.W.makesIn K aa=true)
  (ao:PySem.W.keepIn K (.ref aa)=true)
  (ap:PySem.W.plainGet K ab Str.empty=true)
  (aq:PySem.W.hasDictIn K ab=true)
  (ar:PySem.W.plainOver K ab=true)
  (au:PySem.W.findIn K (.ref ab) "__setattr__"=some (some (.builtin "object.__setattr__")))
  (av:PySem.W.makesIn K ab=true)
  (aw:PySem.W.keepIn K (.ref ab)=true)
  (F:AllF K top tF)
  (B:AllB K tB)
  (ax:AllM K top aa a5e)
  (ay:AllN K aa a5f)
  (az:AllM K top ab a5g)
  (aA:AllN K ab a5h) :
  ∃fd:f8,(∀(s:Shared)(v:Value),ii s fd ⟨[v],[]⟩ [("script",v)])/\∀base:Heap,K.In base->base.Ns fX mg->FnOk l.prog w K mg base CX0 8 fa fd ["script"] (lowP K a7X):=by
 have br:=c09 X G;obtain⟨f,d,e,J⟩:=F 39 _ rfl;have e:=hfa.symm.trans (br _ _ e);cases e
 let a:Ad:=⟨aa,ab⟩
 have T:Txt K mg a:=⟨br,F,B,br _ _ ag,⟨ai,aj,ak,al⟩,ax,ay,⟨am,ao⟩,br _ _ ah,⟨ap,aq,ar,au⟩,az,aA,⟨av,aw⟩,⟨ac,br _ _ ae⟩,⟨ad,br _ _ af⟩⟩;have hb:=λP base=>b9t (P:=P) (w:=w) (base:=base) T J;obtain⟨oc,od,kV,doc,pm,an,cdv,ct,osl,rfl,lk,hcd⟩:=J.ex;exact⟨_,λs v=>.of_eq rfl,λbase _ _=>hb l.prog base⟩
def walk{l:PySem.W.OpenLaw}{K:Params->Fg}(hn:l.most=some 63)(hdf:d.params.defaults=[])
  (hY:∀(w:World)(h:Heap),YP w h->(K w.params).In h)
  (F:∀(w:World)(mg:Str->Option Value)(fa:Addr)(h:Heap),(K w.params).In h->h.Ns fX mg->mg d.name=some (.ref fa) ->
   ∃fd:f8,(∀(s:Shared)(u:Value),ii s fd ⟨[u],[]⟩ [("script",u)])/\∀base:Heap,(K w.params).In base->base.Ns fX mg->FnOk l.prog w (K w.params) mg base CX0 8 fa fd ["script"] (lowP (K w.params) a7X)) :
  PySem.W.WalkO q loose XP YP l.row.toRowW d [] (λf vs=>PySem.call f vs):=
 L2.walk_of hn (by decide) hdf ⟨rfl,by decide,by decide⟩ hY F (λ_ _ a c e b g=>b03 a c e (Fz.of b g)) λ_ _ _ _ _ z=>z
end Lw
end
open PySem PySem.W PyProof.Rows
set_option maxRecDepth 100000 in
set_option maxHeartbeats 0 in
theorem PySem.Challenge.cw_twotimes_k43_whole_joins_at_each_moment_holds : PySem.Challenge.rw_twotimes_k43_whole_joins_at_each_moment.Holds := by
 w_on;o_law;k_head;(case hw=>w_witness2)
 k_fill
 refine Lw.walk (l:=PySem.Challenge.rw_twotimes_k43_whole_joins_at_each_moment) rfl rfl (fun w h Y=>PySem.W.kIn_of Y) ?F
 case F=>
  intro w mg fa h KX G hmg;refine' Lw.all_mk KX G hmg ?aa ?ab ?ac ?ad ?ae ?af ?ag ?ah ?ai ?aj ?ak ?al ?am ?an ?ao ?ap ?F ?aq ?ar ?au ?av ?aw
  all_goals try k_is
  all_goals (repeat first |exact L3.af0 |exact L3.am0 |exact L3.ab0 |exact L3.an0 | (first |refine' L3.af1 ?_ ?_ ?_ ?_ ?_ |refine' L3.am1 ?_ ?_ ?_ ?_ ?_ ?_ |refine' L3.ab1 ?_ ?_ |refine' L3.an1 ?_ ?_)<;>try k_is)
