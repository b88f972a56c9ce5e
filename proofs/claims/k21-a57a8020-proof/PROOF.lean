import PyProof.Rows.All
import Wide.All
import OpenK.AllK
import Wide.FinOn
import Lean
import PyProof.EqAt
import PyProof.EqKinds
import PyProof.TupleCall
import PyProof.CompFree
import PyProof.P3In
import PyProof.RaisesMany
import PyProof.StationsW
import PyProof.ExcClass3
import PyProof.ExcBaseAll.ValueError
import PyProof.RulesTry
import PyProof.RulesAs
import PyProof.NsDelKeeps
import KE.KTryMore
import PyProof.ExcArgs
import KE.RegKIsAll
import PyProof.Rows.EqDataRows
import KE.KIntText
import KE.KDictOf
import PyProof.StrBlockH
import KE.KWords
import PyProof.CallStr
import PyProof.StrLawsTight
import PyProof.StrLawsChain
import PyProof.AttrMissHeap
import KE.KSortTup
import Wide.Seal
import PySem.Challenge.RW_twotimes_k21_tiles_told
set_option Elab.async false
set_option linter.all false
set_option maxRecDepth 100000
set_option compiler.extract_closed false
set_option bootstrap.genMatcherCode false
noncomputable section
open List renaming length_map→dY,mem_append→ei,mem_map→eq,mem_singleton→et,length_cons→eu,length_append→eB,mem_cons→eC,map_append→eD,getElem?_map→eE,map_cons→eG,getElem?_eq_getElem→eI,length_take→eK,getElem?_eq_some_iff→eL,replicate→eM,map_map→eO,mem_of_getElem?→eP,map_nil→eQ,append_nil→eR,pairwise_append→eS,append_assoc→eT,mem_map_of_mem→eU,pairwise_cons→eW,pairwise_map→eZ,mem_filter→fb,Nodup→fc,take_length→ff,length→fh,Pairwise→fk,Perm→fm,map_congr_left→fq,take_of_length_le→ft,size_toArray→fv,filter_cons→fw,mem_cons_self→fA,mem_cons_of_mem→fB,length_drop→fC,lookup_cons→fD,mem_of_mem_take→fF,filterMap_cons→fG,mem_append_right→fH,find?_cons→fK,all_eq_true→fL,all_cons→fM,take_add_one→fN,nodup_append→fP,range→fR,cons→fU,getElem_mem→fV,reverse_append→fW,any_eq_true→fX,filter_sublist→fZ,nodup_cons→gb,nil_append→gc,reverse_singleton→gi,take_append_of_le_length→gj,reverse_cons→gq,any_cons→gr,pairwise_iff_getElem→gy,getElem?_of_mem→gz,length_pos_iff→gA,map_id→gC,mem_filterMap→gG,getElem?_append_right→gI,getElem?_append_left→gJ,flatten_cons→gL,length_filterMap_le→gO,take_append_drop→gS,cons_append→gT,rel_of_pairwise_cons→gU,map_eq_nil_iff→gX,flatMap_cons→gY,getElem?_set_ne→gZ,lookup→g5,take_sublist→g6,replicate_succ→g7,length_singleton→g8,lookup_append→hZ,drop_eq_getElem_cons→h9,pairwise_singleton→ib,drop_eq_nil_of_le→ic,mem_of_mem_drop→ie,extract_eq_take_drop→ig,singleton_append→ij,perm_ext_iff_of_nodup→io,find?_eq_none→ir,mem_range→iy,mem_append_left→iz,getElem?_set_self→iA,of_mem_zip→iB,length_eq_zero_iff→iE,getElem_of_mem→iF,getElem?_drop→iG,getElem?_take→iI,drop_append→iK,eraseIdx_cons_succ→iM,ext_getElem?→iN,length_zip→iO,find?_append→iP,dropLast_subset→iQ,take_succ_cons→iR,mem_of_find?_eq_some→iU,filter_eq_nil_iff→iV,length_filter_le→iW,flatten→iY,mem_flatMap→iZ,getElem?_eq_none_iff→i5,filterMap_map→ja,foldl_cons→jd,getD_eq_getElem?_getD→jg,drop_sublist→jh,perm_middle→ji,perm_append_comm→jj,drop_append_of_le_length→jl,le_antisymm→jq,countP_cons→jr,length_reverse→js,foldl_append→jt,append_inj'→jv,getElem_zip→jw,getLast?_eq_none_iff→jy,cons_lt_cons_iff→jz,filter_append→jA,pairwise_reverse→jB,find?_isSome→jC,find?_some→jD,not_mem_nil→jE,pairwise_flatMap→jH,range_succ→jI
open Or renaming inl→ee,inr→fJ
open Nat renaming le_refl→eh,le_trans→eF,ne_of_lt→eJ,lt_of_lt_of_le→eV,zero_le→fg,lt_irrefl→fj,le_of_lt→ga,lt_of_le_of_lt→ge,lt_succ_of_lt→gg,le_of_eq→gn,le_of_succ_le→gv,le_succ→gH,lt_trans→gM,ne_of_gt→g4,zero_add→ik,add_mul→ip,one_mul→iq,mul_le_mul_right→iw,add_sub_cancel→iH,add_zero→iJ,lt_succ_self→i8,min_le_right→i9,le_of_ble_eq_true→jf,add_assoc→jm,le_add_right→ju,min_eq_left→jG
open False renaming elim→er
open Bool renaming false_ne_true→eX,true_and→fx,and_eq_true→fE,eq_iff_iff→fI,false_eq_true→gR,and_true→im,and_false→iC,not_eq_true'→iX,false_and→jx,not_eq_false'→jF
open Int renaming le_trans→eY,le_refl→fi,le_of_lt→fy,emod_nonneg→fQ,emod_lt_of_pos→fY,eq_ofNat_of_zero_le→gm,not_lt→ii,zero_add→iu,toNat_natCast→i3
open Option renaming some→fu,map_some→g9,getD_none→jc,isSome_map→je
open Array renaming toList_push→fz,getElem?_toList→fO,length_toList→fT,Perm→gQ,getElem?_eq_some_iff→hG,perm_iff_toList_perm→h7,append_assoc→i6,mem_toList_iff→i7,toList_extract→jk,getElem?_modify→jo,size_map→jp
open PySem renaming wpAny_bind→jJ,sizeLine→jK,starEach→jN,Program→jO,mainGlobals→jP,FuncData→jQ,wpAny_pure→jR,compareOp→jT,NameKind→jU,Builtin→jV,cellsFrom→jW,wpAny_mono→jX,binaryOp→jY,sizeLine_eq→jZ,PassesOwn→j0,wpAny_holding→j3,tupleKind→j5,holding→j7,sysModules→kg,standAt→ki,codeAny→kj,storedH→ko,SetTable→kr,bootBuiltins→kt,swapsWith→ku,wpAny_truthy_bool→kx,assignEach→kz,foldedSetIterable→kA,getMethod→kB,attributeBase→kC,backToKw→kD,keywordEach→kE,sliceBounds→kF,callerA→kG,behindInMarks→kI,BindsTo→kJ,wpAny_field→kK,typeIs_str→kL,call_meets→kM,valueAt→kO,compEnvC→kP,wpAny_newList→kZ,GenState→lb,wpAny_rule→lc,wpAny_passesOwn→lf,callWith→lj,Keyword→lm,getItem→lp,wpAny_call_entry→lr,notedBy→ls,setItem→lw,unaryOp→lz,inplaceOp→lB,codeAny_mono→lC,wpAny_Call_Name_kw→lE,leaving→lF,PlainAttrs→lG,tupleKind_room_in1→lH,CellsOk→lI,noteFrame→lJ,wpAny_getItem_str_slice→lK,post_val_or_str→lM,unsupported→lN,codeAny_builtin→lZ,builtinsNs→l5,wpAny_Name→l6,wpAny_execs_nil→l8,wpAny_standAt→l9,letOwnedTupleGo→md,wpAny_pyIter_list→me,DictEntry→mf,wpAny_newObj_type→mh,seqIndex_of→mi,seqIndex_neg→mj,typeIs_int→mm,call_meetsIn→mn,compPost→mq,wpAny_attempt→mw,plainId_quiet→mz
open PyProof.Rows renaming wpS_bind→jL,wpS_pure→jM,pendingOf→jS,wpS_forRange→j1,wpS_mono→j6,failedOf→j8,wpS_get→j9,IntsAre→kb,SortKind→kc,wpS_modify→ke,pairsOf→kf,AllBare→kh,sortedS→kH,StrsAre→kR,reverseSlice'→kS,listUpdate_at→kU,seqEpoch_at→kW,pairsOf_toList→k7,setPending→lu,sortedHeap→lv,wpS_lift→lO,tuples'→lP,kind_sorted→lQ,plain_sorted→lR,entry_sorted→lS,args_sorted1→lT,slot_list_sort→lU,entry_list_sort→lV,args_list_sort→lW,sortedHeap_at→lX,sortedHeap_old→lY,subscriptTail_builtinR→ml,gallopOf→mt,mergeAt'→mv,collect_list→my
abbrev Fg:=PySem.W.Frag
namespace PySem.W.Fast
noncomputable def z:=0
noncomputable def tw12421566380336854928:=z
noncomputable def tw16144487262311211483:=z
noncomputable def tw8443361041380095517:=z
noncomputable def tw13270182944673022623:=z
noncomputable def tw5431604642889722483:=z
noncomputable def tw15749634867274713437:=z
noncomputable def tw6468434717658871819:=z
noncomputable def tw14530282309012021305:=z
noncomputable def tw10464734554462294061:=z
noncomputable def tw13741959020482557447:=z
noncomputable def tw12212393434399534945:=z
noncomputable def tw8234868264096606696:=z
noncomputable def tw7970958219986087526:=z
noncomputable def tw18426543914180671661:=z
noncomputable def tw12652016416976465796:=z
noncomputable def tw2184375025523483462:=z
noncomputable def tw8954795517551548969:=z
noncomputable def tw16873760829228093394:=z
noncomputable def tw9886434806825766952:=z
noncomputable def tw3779826259324575400:=z
noncomputable def tw15932581057093431808:=z
noncomputable def tw9557628145111513809:=z
noncomputable def tw6410602217453565679:=z
noncomputable def tw17517601812763246124:=z
noncomputable def tw2365330075410086045:=z
noncomputable def tw13669863041439863162:=z
noncomputable def tw17129566940379763623:=z
noncomputable def tw7041397882834049209:=z
noncomputable def tw14029183901569311870:=z
noncomputable def tw12861825043956416194:=z
noncomputable def tw12899856027037679482:=z
noncomputable def tw6850468536162135780:=z
noncomputable def tw8860576070600287528:=z
noncomputable def tw13616638443107053372:=z
noncomputable def tw10992521383571133014:=z
noncomputable def tw2606238620038453035:=z
noncomputable def tw8325500463389483206:=z
noncomputable def tw5512488410092390329:=z
noncomputable def tw1112718309934457971:=z
noncomputable def tw15738863858983677841:=z
noncomputable def tw11079271804895059503:=z
noncomputable def tw3079829519013497804:=z
noncomputable def tw15865089604365005301:=z
noncomputable def tw10115472539659649244:=z
noncomputable def tw16338751012272164799:=z
noncomputable def tw3704844203693678157:=z
noncomputable def tw4017575350450771300:=z
noncomputable def tw4083744026579942389:=z
noncomputable def tw15222642184457731534:=z
noncomputable def tw7376461221929191586:=z
noncomputable def tw3390246044592741754:=z
noncomputable def tw16937462249889848466:=z
noncomputable def tw16407261715960494357:=z
noncomputable def tw17600832858681524498:=z
noncomputable def tw6483518166402162381:=z
noncomputable def tw12216421957733379561:=z
noncomputable def tw1049280433058181518:=z
noncomputable def tw5490064564216913691:=z
noncomputable def tw9532307003786690629:=z
noncomputable def tw16313834600094098236:=z
noncomputable def tw16860214464276626424:=z
noncomputable def tw8478038753220548139:=z
noncomputable def tw16169840804251007167:=z
noncomputable def tw17790985148630126018:=z
noncomputable def tw120517612926373195:=z
noncomputable def tw17107108098104834359:=z
noncomputable def tw17480580913912458562:=z
noncomputable def tw17240510191557730806:=z
noncomputable def tw3558902127186317255:=z
noncomputable def tw17393561560060210312:=z
noncomputable def tw13523884732305454779:=z
noncomputable def tw5139853940420982717:=z
noncomputable def tw14718279587865516149:=z
noncomputable def tw13643516393436213653:=z
noncomputable def tw13980660720602818620:=z
noncomputable def tw17358388186813324668:=z
noncomputable def tw9949214182813174715:=z
noncomputable def tw2850530966115122747:=z
noncomputable def tw1486806690222538573:=z
noncomputable def tw7526439293665293031:=z
noncomputable def tw11457471863770342869:=z
noncomputable def tw14815990842069219220:=z
noncomputable def tw13115072872727177416:=z
noncomputable def tw50229906747993684:=z
noncomputable def tw10777179396581786525:=z
noncomputable def tw16002605588258939200:=z
noncomputable def tw11853787603818685489:=z
noncomputable def tw4709454210375868997:=z
noncomputable def tw17057164787217883520:=z
noncomputable def tw18065729546274100006:=z
noncomputable def tw1710802757796968656:=z
noncomputable def tw1502474585063433672:=z
noncomputable def tw53072909373599641:=z
noncomputable def tw3576063603768640982:=z
noncomputable def tw7167050502461738677:=z
noncomputable def tw6590987980697376039:=z
noncomputable def tw6751831023652153876:=z
noncomputable def tw5443717392226839901:=z
noncomputable def tw1661683506661649189:=z
noncomputable def tw5878728633689807282:=z
noncomputable def tw10185560099310562998:=z
noncomputable def tw16817835058114089916:=z
noncomputable def tw14964617862501800701:=z
noncomputable def tw9887506246318453073:=z
noncomputable def tw3585760576566542890:=z
noncomputable def tw4469641363573922205:=z
noncomputable def tw1980689300903936421:=z
noncomputable def tw16770557835671847201:=z
noncomputable def tw16686637775157236937:=z
noncomputable def tw2800204726377920168:=z
noncomputable def tw4412830647800453385:=z
noncomputable def tw8343314061847928347:=z
noncomputable def tw3054959214289752428:=z
noncomputable def tw11257333126592925363:=z
noncomputable def tw12160901477134564493:=z
noncomputable def tw1351728167126775621:=z
noncomputable def tw9798920309113017677:=z
noncomputable def tw12706652144956381836:=z
noncomputable def tw3534033967853371157:=z
noncomputable def tw8039706378256340385:=z
noncomputable def tw12414145348197964242:=z
noncomputable def tw1670985725651595579:=z
noncomputable def tw16374113264349823685:=z
noncomputable def tw17639799098134943032:=z
noncomputable def tw12881947551055276864:=z
noncomputable def tw10193562705220949037:=z
noncomputable def tw10081735237066781610:=z
noncomputable def tw26826764133003940:=z
noncomputable def tw6459189449907830194:=z
noncomputable def tw15109291690704262812:=z
noncomputable def tw2794666387596960954:=z
noncomputable def tw15065658696196387068:=z
noncomputable def tw5676956350193275613:=z
noncomputable def tw6402703708228898579:=z
noncomputable def tw11028613387145876093:=z
noncomputable def tw14985623706110666589:=z
noncomputable def tw10023854378772269377:=z
noncomputable def tw9969213476055915991:=z
noncomputable def tw13635134288603107300:=z
noncomputable def tw7287520974185044772:=z
noncomputable def tw16711728447419037707:=z
noncomputable def tw872571853562822663:=z
noncomputable def tw6651137806767759658:=z
noncomputable def tw16450973070869375205:=z
noncomputable def tw10405288116724604945:=z
noncomputable def tw13158336553070187370:=z
noncomputable def tw2617042436655282200:=z
noncomputable def tw17471873355144940588:=z
noncomputable def tw318332479893471217:=z
noncomputable def tw15642147836082798524:=z
noncomputable def tw7121554538840060600:=z
noncomputable def tw6127197688343821342:=z
noncomputable def tw9132311439644601423:=z
noncomputable def tw209927844054829837:=z
noncomputable def tw3944012665128993416:=z
noncomputable def tw13369580057808465501:=z
noncomputable def tw3934854960953049768:=z
noncomputable def tw14865637043159212855:=z
noncomputable def tw5868063387266493041:=z
noncomputable def tw11584366935566407812:=z
noncomputable def tw16086446548849156601:=z
noncomputable def tw17501783057857290724:=z
noncomputable def tw14581982891727948515:=z
noncomputable def tw16818900236319632006:=z
noncomputable def tw2701257551758421620:=z
noncomputable def tw14596914651892987117:=z
noncomputable def tw16932342763284425272:=z
noncomputable def tw2245915511390623427:=z
noncomputable def tw17715160362974508031:=z
noncomputable def tw12921141212930536994:=z
noncomputable def tw11813788561232182937:=z
noncomputable def tw2282844575730766068:=z
noncomputable def tw3216084344243578170:=z
noncomputable def tw17600675416160840382:=z
noncomputable def tw4904743323080110129:=z
noncomputable def tw5641822608225697607:=z
noncomputable def tw1781571335892626402:=z
noncomputable def tw8729664086845280551:=z
noncomputable def tw15999374351213830064:=z
noncomputable def tw7677182315542072386:=z
noncomputable def tw15483558344017713828:=z
noncomputable def tw5438613218239672694:=z
noncomputable def tw10550172760242957123:=z
noncomputable def tw5766178936317042819:=z
noncomputable def tw14435307823428088398:=z
noncomputable def tw2782909384353279069:=z
noncomputable def tw5223631452436624563:=z
noncomputable def tw13168611287513568820:=z
noncomputable def tw16878274392902362536:=z
noncomputable def tw13148614664360579723:=z
noncomputable def tw6793995724043997914:=z
noncomputable def tw17311669717754752558:=z
noncomputable def tw7001478911626973710:=z
noncomputable def tw8175305366064205332:=z
noncomputable def tw16296295914388154322:=z
noncomputable def tw6434323581950846315:=z
noncomputable def tw10977529098699244078:=z
noncomputable def tw2147862438977989201:=z
noncomputable def tw5445165123563832354:=z
noncomputable def tw9830834677912176116:=z
noncomputable def tw7092269086839857134:=z
noncomputable def tw14976790726072044847:=z
noncomputable def tw5932607617238405534:=z
noncomputable def tw9713982087753651029:=z
noncomputable def tw16858569672965733353:=z
noncomputable def tw16502728499179368235:=z
noncomputable def tw15219068978016382650:=z
noncomputable def tw8144231027744094056:=z
noncomputable def tw7938176654331401905:=z
noncomputable def tw10115973448953414358:=z
noncomputable def tw10672316636671515595:=z
noncomputable def tw6812222728929266670:=z
noncomputable def tw17418280214510365345:=z
noncomputable def tw6190009208739616348:=z
noncomputable def tw11892002058309742921:=z
noncomputable def tw13101671124889022927:=z
noncomputable def tw10921063883763339623:=z
noncomputable def tw3139383448451221873:=z
noncomputable def tw16297797454677869077:=z
noncomputable def tw14777614400762380194:=z
noncomputable def tw9859990995578146021:=z
noncomputable def tw12222661228890556258:=z
noncomputable def tw7542802065968490879:=z
noncomputable def tw7494123188639217960:=z
noncomputable def tw8430954161579153591:=z
noncomputable def tw5661184647526049383:=z
noncomputable def tw16864451835063794886:=z
noncomputable def tw2060243394987848666:=z
noncomputable def tw10389819454152590036:=z
noncomputable def tw17321197313771871516:=z
noncomputable def tw9282782432906795217:=z
noncomputable def tw10332663335465336942:=z
noncomputable def tw12221463231079867506:=z
noncomputable def tw18053762119578397584:=z
noncomputable def tw12113820844270471830:=z
noncomputable def tw2237759490015548450:=z
noncomputable def tw4493855921071780558:=z
noncomputable def tw3528757596319699314:=z
noncomputable def tw15908738503348869117:=z
noncomputable def tw2038142908336372002:=z
noncomputable def tw2506763192653439295:=z
noncomputable def tw2007514527306483797:=z
noncomputable def tw6510169010806405858:=z
noncomputable def tw5079827412784140945:=z
noncomputable def tw3010518557533565652:=z
noncomputable def tw10226029527859675704:=z
noncomputable def tw1884841126910653384:=z
noncomputable def tw16671779046678833612:=z
noncomputable def tw17133703601554093965:=z
noncomputable def tw5760074947427366565:=z
noncomputable def tw4063211137390927169:=z
noncomputable def tw4585074696767024209:=z
noncomputable def tw11802221703111394608:=z
noncomputable def tw3283580063248817732:=z
noncomputable def tw10480981045977091651:=z
noncomputable def tw12199878833299471842:=z
noncomputable def tw9663787108591688210:=z
noncomputable def tw9016130707962117218:=z
noncomputable def tw10505909528308356225:=z
noncomputable def tw692868710019090025:=z
noncomputable def tw12088463995581642255:=z
noncomputable def tw13758769570355990125:=z
noncomputable def tw5233528218496162479:=z
noncomputable def tw2020049826811525940:=z
noncomputable def tw10695062141298057704:=z
noncomputable def tw1584112512475574629:=z
noncomputable def tw12476686924108155935:=z
noncomputable def tw14787530485898737003:=z
noncomputable def tw15259669434522236997:=z
noncomputable def tw16171454298328748534:=z
noncomputable def tw17398929130072914401:=z
noncomputable def tw1973875251870162076:=z
noncomputable def tw7857836076206233517:=z
noncomputable def tw14210596784944104967:=z
noncomputable def tw18121464446611864295:=z
noncomputable def tw865526799950376412:=z
noncomputable def tw1518706634798466759:=z
noncomputable def tw8665519257697719178:=z
noncomputable def tw5879095225058380821:=z
noncomputable def tw16237083954329508752:=z
noncomputable def tw5533074462474638864:=z
noncomputable def tw2239888491415681535:=z
noncomputable def tw11545046813136811080:=z
noncomputable def tw13197934773459836265:=z
noncomputable def tw11984172540492315740:=z
noncomputable def tw1764694351906816051:=z
noncomputable def tw8810091966368497589:=z
noncomputable def tw3305335024207904534:=z
noncomputable def tw11311606689630713534:=z
noncomputable def tw17702765199846971815:=z
noncomputable def tw13159932874558997036:=z
noncomputable def tw6337841032859606474:=z
noncomputable def tw5150390054327446612:=z
noncomputable def tw12423911306213910618:=z
noncomputable def tw8404588025306432965:=z
noncomputable def tw5178937993590267698:=z
noncomputable def tw5683520106429525267:=z
noncomputable def tw14907136907497904623:=z
noncomputable def tw15441713960590597312:=z
noncomputable def tw5472223062881126167:=z
noncomputable def tw2130277582385583965:=z
noncomputable def tw15549207280847171956:=z
noncomputable def tw16345515823356416494:=z
noncomputable def tw11196873878864462985:=z
noncomputable def tw16066167489358518985:=z
noncomputable def tw10558728619026293283:=z
noncomputable def tw9154484079931745475:=z
noncomputable def tw8675670196580444770:=z
noncomputable def tw17820250526286040744:=z
noncomputable def tw18378968613779054154:=z
noncomputable def tw13591247388981590233:=z
noncomputable def tw3077978054594316090:=z
noncomputable def tw12455852873212214690:=z
noncomputable def tw10813104740872264588:=z
noncomputable def tw12756599699596784936:=z
noncomputable def tw5934618127036174403:=z
noncomputable def tw15437809287135661377:=z
noncomputable def tw10578460620810241966:=z
noncomputable def tw5445063721717834883:=z
noncomputable def tw9813690155720882925:=z
noncomputable def tw18005646430740339120:=z
noncomputable def tw13385092736919374691:=z
noncomputable def tw15116871215098111761:=z
noncomputable def tw3922583411064337053:=z
noncomputable def tw4686603776681626243:=z
noncomputable def tw11631030319157733200:=z
noncomputable def tw7049825533224925763:=z
noncomputable def tw3846407099776878106:=z
noncomputable def tw9040635003609237483:=z
noncomputable def tw12335012540294705799:=z
noncomputable def tw17630433141386168511:=z
noncomputable def tw5385886494106149072:=z
noncomputable def tw15404622627957436796:=z
noncomputable def tw16523490243698309017:=z
noncomputable def tw3284257661329231073:=z
noncomputable def tw1896699200799130049:=z
noncomputable def tw111950436437896011:=z
noncomputable def tw7056887342875583297:=z
noncomputable def tw8499663980228165835:=z
noncomputable def tw3732811356328096471:=z
noncomputable def tw7032886288046056850:=z
noncomputable def tw15847286624692314231:=z
noncomputable def tw14386580971341070002:=z
noncomputable def tw2001710484127642759:=z
noncomputable def tw12459450476771979938:=z
noncomputable def tw11462036060708909598:=z
noncomputable def tw17411625672404874980:=z
noncomputable def tw16383877634931764542:=z
noncomputable def tw12984333179213806281:=z
noncomputable def tw5973658659621700393:=z
noncomputable def tw2830921626138002949:=z
noncomputable def tw14033288559338456499:=z
end PySem.W.Fast
namespace L2
open PySem PySem.Spec PyProof.Rows
abbrev Key:=Sum (Option Int) Str
noncomputable def b9P:Value->Bool
 | .none=>true
 | _=>false
noncomputable def b0e:Key->Value->Bool
 | .inl (some k),v=>Value.isInt k v
 | .inl none,v=>b9P v
 | .inr x,v=>Value.isStrOf x v
noncomputable def keyH (w:World):Key->Int
 | .inl (some k)=>hashInt k
 | .inl none=>reduceHash 0xFCA86420
 | .inr x=>hashStr w x
theorem a0F:∀ {k:Key}{v:Value},b0e k v=true->(∃ i t,k=Sum.inl (some i)/\v=Value.int i t)\/(∃ x t,k=Sum.inr x/\v=Value.str x t)\/(k=Sum.inl none/\v=Value.none)
 | .inl (some i),v,h=>by
  obtain⟨t,e⟩:=Value.isInt_shape h;exact .inl ⟨i,t,rfl,e⟩
 | .inl none,v,h=>by
  cases v<;>first | exact .inr (.inr ⟨rfl,rfl⟩) | cases h
 | .inr x,v,h=>by
  obtain⟨t,e⟩:=Value.isStrOf_shape h;exact .inr (.inl ⟨x,t,rfl,e⟩)
theorem b0S (i:Int) (t:Tok):b0e (.inl (some i)) (.int i t)=true:=by simp[b0e,Value.isInt]
theorem b0T (x:Str) (t:Tok):b0e (.inr x) (.str x t)=true:=by simp[b0e,Value.isStrOf]
theorem b7d (a b:Int):decide ((Sum.inl (some a):Key)=Sum.inl (some b))=(a==b):=by
 by_cases e:a=b
 ·simp_all
 ·simp_all
theorem b7e (a b:Str):decide ((Sum.inr a:Key)=Sum.inr b)=decide (a=b):=by simp
theorem a6D {a b:Key}(h:a≠b):decide (a=b)=false:=decide_eq_false h
noncomputable def a0N (prog:jO) (w:World):PySem.KeyKind prog w Key where
 is:=b0e
 hash:=keyH w
 inj:=λv a b ha hb=>by
  rcases a0F ha with ⟨i,t,rfl,rfl⟩ | ⟨x,t,rfl,rfl⟩ | ⟨rfl,rfl⟩
  ·rcases a0F hb with ⟨j,u,rfl,e⟩ | ⟨y,u,rfl,e⟩ | ⟨rfl,e⟩
   ·injection e with e1 _;rw[e1]
   ·exact nomatch e
   ·exact nomatch e
  ·rcases a0F hb with ⟨j,u,rfl,e⟩ | ⟨y,u,rfl,e⟩ | ⟨rfl,e⟩
   ·exact nomatch e
   ·injection e with e1 _;rw[e1]
   ·exact nomatch e
  ·rcases a0F hb with ⟨j,u,rfl,e⟩ | ⟨y,u,rfl,e⟩ | ⟨rfl,e⟩
   ·exact nomatch e
   ·exact nomatch e
   ·rfl
 byValue:=λk v h=>by
  rcases a0F h with ⟨i,t,rfl,rfl⟩ | ⟨x,t,rfl,rfl⟩ | ⟨rfl,rfl⟩<;>rfl
 pyHash:=λhv h=>by
  rcases a0F hv with ⟨i,t,rfl,rfl⟩ | ⟨x,t,rfl,rfl⟩ | ⟨rfl,rfl⟩
  ·exact wpAny_pyHash_int h
  ·exact wpAny_pyHash_str h
  ·exact PySem.W.pyHash_slot (T:="NoneType") rfl F.slot_NoneType_hash F.entry_NoneType_hash (F.args_NoneType_hash_1 _) (beq_builtin_none _) (.inl rfl) (jJ (jR (jJ (wpAny_mkInt (jR ⟨_,_,rfl,h⟩)))))
 eqBool:=λhu hv h=>by
  rcases a0F hu with ⟨i,t,rfl,rfl⟩ | ⟨x,t,rfl,rfl⟩ | ⟨rfl,rfl⟩
  ·rcases a0F hv with ⟨j,u,rfl,rfl⟩ | ⟨y,u,rfl,rfl⟩ | ⟨rfl,rfl⟩
   ·rw[b7d]at h;exact wpAny_eqBool_int h
   ·rw[show decide ((Sum.inl (some i):Key)=Sum.inr y)=false from a6D (by simp)]at h;exact SeqAt.EqAt.int_str i t y u _ _ _ _ h
   ·rw[show decide ((Sum.inl (some i):Key)=Sum.inl none)=false from a6D (by simp)]at h;exact SeqAt.EqAt.int_none i t _ _ _ _ h
  ·rcases a0F hv with ⟨j,u,rfl,rfl⟩ | ⟨y,u,rfl,rfl⟩ | ⟨rfl,rfl⟩
   ·rw[show decide ((Sum.inr x:Key)=Sum.inl (some j))=false from a6D (by simp)]at h;exact SeqAt.EqAt.str_int x t j u _ _ _ _ h
   ·rw[b7e]at h;exact wpAny_eqBool_str h
   ·rw[show decide ((Sum.inr x:Key)=Sum.inl none)=false from a6D (by simp)]at h;exact SeqAt.EqAt.str_none x t _ _ _ _ h
  ·rcases a0F hv with ⟨j,u,rfl,rfl⟩ | ⟨y,u,rfl,rfl⟩ | ⟨rfl,rfl⟩
   ·rw[show decide ((Sum.inl none:Key)=Sum.inl (some j))=false from a6D (by simp)]at h;exact SeqAt.EqAt.none_int j u _ _ _ _ h
   ·rw[show decide ((Sum.inl none:Key)=Sum.inr y)=false from a6D (by simp)]at h;exact SeqAt.EqAt.none_str y u _ _ _ _ h
   ·rw[decide_eq_true rfl]at h;unfold PySem.eqBool;refine j3 ?_;exact wpAny_ite_split (λ_=>jJ (lc (jR h))) λhab=>absurd rfl hab
 «strs»:=λk x t v h=>by
  rcases a0F h with ⟨i,u,rfl,e⟩ | ⟨y,u,rfl,e⟩ | ⟨rfl,e⟩
  ·exact nomatch e
  ·injection e with e1 _
   subst e1;cases v<;>rfl
  ·exact nomatch e
theorem a8I (prog:jO) (w:World) (i:Int) (t:Tok):(a0N prog w).is (.inl (some i)) (.int i t)=true:=b0S i t
theorem a8J (prog:jO) (w:World) (x:Str) (t:Tok):(a0N prog w).is (.inr x) (.str x t)=true:=b0T x t
inductive V where
 | non | bl (b:Bool) | int (i:Int) | str (x:Str) | byt (b:Array UInt8) | flt (b:UInt64) | ref (a:Addr) | ty (n:String)
 deriving DecidableEq
noncomputable def RelV:V->Value->Prop
 | .non,u=>u=Value.none
 | .bl b,u=>u=Value.bool b
 | .int i,u=>∃ t,u=Value.int i t
 | .str x,u=>∃ t,u=Value.str x t
 | .byt b,u=>∃ t,u=Value.bytes b t
 | .flt b,u=>∃ t,u=Value.float b t
 | .ref a,u=>u=Value.ref a
 | .ty n,u=>u=Value.type n
abbrev Vals:List V->List Value->Prop:=Paired RelV
theorem Vals.length (r:Vals xs us):xs.length=us.length:=Paired.length r
theorem Vals.get:∀ {xs:List V}{us:List Value}{i:Nat}{x:V},Vals xs us->xs[i]?=some x->∃ u,us[i]?=some u/\RelV x u
 | _,_,_,_,.nil,e=>by simp at e
 | _,_,0,_,.cons r _,e=>by simp at e;subst e;exact⟨_,rfl,r⟩
 | _,_,i+1,x,.cons _ t,e=>by
  obtain⟨u,b,a⟩:=Vals.get t (by simpa using e);exact⟨u,by simpa using b,a⟩
theorem Vals.set (r:RelV x u):∀ {xs:List V}{us:List Value}(i:Nat),Vals xs us->Vals (xs.set i x) (us.set i u)
 | _,_,_,.nil=>.nil
 | _,_,0,.cons _ t=>.cons r t
 | _,_,i+1,.cons q t=>.cons q (Vals.set r i t)
theorem Vals.append:∀ {xs ys:List V}{us ws:List Value},Vals xs us->Vals ys ws->Vals (xs++ys) (us++ws)
 | _,_,_,_,.nil,s=>s
 | _,_,_,_,.cons r t,s=>.cons r (Vals.append t s)
theorem Vals.take:∀ {xs:List V}{us:List Value}(n:Nat),Vals xs us->Vals (xs.take n) (us.take n)
 | _,_,0,_=>.nil
 | _,_,_+1,.nil=>.nil
 | _,_,n+1,.cons r t=>.cons r (Vals.take n t)
theorem Vals.drop:∀ {xs:List V}{us:List Value}(n:Nat),Vals xs us->Vals (xs.drop n) (us.drop n)
 | _,_,0,r=>r
 | _,_,_+1,.nil=>.nil
 | _,_,n+1,.cons _ t=>Vals.drop n t
theorem Vals.none_of:∀ {xs:List V}{us:List Value}{i:Nat},Vals xs us->xs[i]?=none->us[i]?=none:=λ{a d i} r e=>by
 have b:=r.length;have c:=i5.mp e;exact i5.mpr (by omega)
noncomputable def RelO:Option V->Option Value->Prop
 | some v,some u=>RelV v u
 | none,none=>True
 | _,_=>False
noncomputable def KV {κ:Type}:List (κ×V)->List (κ×Value)->Prop:=Paired λ(p:κ×V) (q:κ×Value)=>p.1=q.1/\RelV p.2 q.2
noncomputable def kV:Key->V
 | .inl (some i)=>.int i
 | .inl none=>.non
 | .inr x=>.str x
inductive HO where
 /-- a list -/
 | lst (xs:List V)
 /-- a tuple (never changes) -/
 | tup (xs:List V)
 /-- a dict whose keys are ints and texts;one whose keys are tuples of ints and texts (the empty one is both) -/
 | dK (kvs:List (Key×V)) | dT (kvs:List (List Key×V))
 /-- a set of ints: its members,its size -/
 | set (S:Int->Bool) (n:Nat)
 /-- an instance of the class at C,its dict at dx,its attributes -/
 | ins (C dx:Addr) (fs:List (Str×V))
 /-- the dict of the instance at x -/
 | own (x:Addr)
 /-- the dict of an exception -/
 | xd (fs:List (Str×V))
 /-- a bound method,f of x -/
 | met (f x:Addr)
 /-- a range object lo,lo+1,.. below hi -/
 | rng (lo hi:Int)
 /-- a thing that is known to the object (the script;a dict while a loop walks it): read,never written while it is so -/
 | frz (o:Obj) (u:HO)
 /-- a code object's table -/
 | tbl (ps:Array Value)
 /-- any other thing,by what is true of its one object (a def of one's own: SetO a S n:=HO.ext λh=>..) -/
 | ext (φ:Heap->Prop)
abbrev Hp:=Addr->Option HO
noncomputable def upd (H:Hp) (a:Addr) (o:HO):Hp:=λb=>if b=a then some o else H b
theorem a0s:upd H a o a=some o:=by unfold upd;rw[if_pos rfl]
theorem a0r (h:b≠a):upd H a o b=H b:=by unfold upd;rw[if_neg h]
theorem b9Q {H:Hp}(h:H a=some o) (h':H b=some u) (d:o≠u):a≠b:=by
 intro e;subst e;rw[h]at h';exact d (fu.inj h')
theorem a1J {H:Hp}(h:H a=some o) (h':H b=none):a≠b:=by
 intro e;subst e;rw[h]at h';cases h'
section
variable (P:jO) (w:World)
noncomputable def ObjOk (H:Hp) (h:Heap) (a:Addr):HO->Prop
 | .lst xs=>xs.length<=jK/\∃ (its:List Value) (n:Nat),Vals xs its/\h.get? a=some { cls:=.type "list",data:=.seq its.toArray n }
 | .tup xs=>xs.length<=jK/\∃ its:List Value,Vals xs its/\IsTup h a its.toArray
 | .dK kvs=>kvs.length<=jK/\(a==kg)=false/\∃ vs,KV kvs vs/\h.DictOf (a0N P w) a vs
 | .dT kvs=>kvs.length<=jK/\(a==kg)=false/\∃ xs:List (List Key×Addr×Value),
   Paired (λ(p:List Key×V) (q:List Key×Addr×Value)=>p.1=q.1/\H q.2.1=some (.tup (p.1.map kV))/\RelV p.2 q.2.2) kvs xs /\
   ∃ o es ep,h.get? a=some o/\o.ExactDict/\o.data=.dict es ep/\es.toList=xs.map (entryOfKey (j5 (a0N P w)))/\(xs.map (·.1)).Nodup
 | .set S n=>h.SetOf (intKind P w) a S n
 | .ins C dx fs=>H dx=some (.own a)/\fs.length<=1000/\dx≠a/\h.get? a=some (PySem.W.instObj C dx) /\
   ∃ mA,h.Ns1 dx mA/\(∀ f,RelO (fs.lookup f) (mA f))/\PySem.Within mA (fs.map (·.1))
 | .own _=>∃ o,h.get? a=some o
 | .xd fs=>∃ mA,h.Ns1 a mA/\∀ f,RelO (fs.lookup f) (mA f)
 | .rng lo hi=>∃ t u v,h.get? a=some { cls:=.type "range",data:=.fields #[.int lo t,.int hi u,.int 1 v] }
 | .frz o u=>h.get? a=some o/\ObjOk H h a u
 | .tbl ps=>h.get? a=some { cls:=.none,data:=.fields ps }
 | .met f x=>h.get? a=some (PySem.W.methodObj (.ref f) (.ref x))
 | .ext φ=>φ h/\(∃ o,h.get? a=some o)/\∀ h1 h2:Heap,φ h1->(∀ o,h1.get? a=some o->h2.get? a=some o)->φ h2
noncomputable def HOk (H:Hp) (h:Heap):Prop:=∀ a o,H a=some o->ObjOk P w H h a o
end
section
variable {P:jO}{w:World}{H H':Hp}{h h':Heap}{a:Addr}{o:HO}
theorem ObjOk.lt (x:ObjOk P w H h a o):a<h.objs.size:=by
 cases o with
 | lst xs=>obtain⟨_,_,_,_,e⟩:=x;exact Heap.lt_size e
 | tup xs=>obtain⟨_,_,_,p⟩:=x;exact p.lt
 | dK kvs=>obtain⟨_,_,_,_,o,_,_,e,_⟩:=x;exact Heap.lt_size e
 | dT kvs=>obtain⟨_,_,_,_,o,_,_,e,_⟩:=x;exact Heap.lt_size e
 | set S n=>obtain⟨o,_,_,_,e,_⟩:=x;exact Heap.lt_size e
 | ins C dx fs=>obtain⟨_,_,_,e,_⟩:=x;exact Heap.lt_size e
 | own y=>obtain⟨_,e⟩:=x;exact Heap.lt_size e
 | xd fs=>obtain⟨_,⟨_,_,_,e,_⟩,_⟩:=x;exact Heap.lt_size e
 | rng lo hi=>obtain⟨_,_,_,e⟩:=x;exact Heap.lt_size e
 | frz ob u=>obtain⟨e,_⟩:=x;exact Heap.lt_size e
 | tbl ps=>exact Heap.lt_size (x)
 | met f y=>exact Heap.lt_size (x)
 | ext φ=>obtain⟨_,⟨_,e⟩,_⟩:=x;exact Heap.lt_size e
theorem Paired.mapP {α β:Type}{F G:α->β->Prop}:∀ {ljj:List α}{l₂:List β},Paired F ljj l₂->(∀ a b,F a b->G a b)->Paired G ljj l₂
 | _,_,.nil,_=>.nil
 | _,_,.cons r t,f=>.cons (f _ _ r) (Paired.mapP t f)
theorem ObjOk.stay (x:ObjOk P w H h a o) (k:∀ b u,(b=a\/H b=some (.own a))->h.get? b=some u->h'.get? b=some u)
  (ho:∀ b,H b=some (.own a)->H' b=some (.own a)) (ht:∀ b xs,H b=some (.tup xs)->H' b=some (.tup xs)):ObjOk P w H' h' a o:=by
 induction o with
 | lst s=>obtain⟨z,l,n,r,e⟩:=x;exact⟨z,l,n,r,k _ _ (.inl rfl) e⟩
 | tup s=>obtain⟨z,l,r,g,e,c⟩:=x;exact⟨z,l,r,g,k _ _ (.inl rfl) e,c⟩
 | dK kvs=>obtain⟨z,y,F,r,g,i,j,e,c⟩:=x;exact⟨z,y,F,r,g,i,j,k _ _ (.inl rfl) e,c⟩
 | dT kvs=>
  obtain⟨z,y,s,r,g,i,j,e,c⟩:=x;exact⟨z,y,s,Paired.mapP r λp q z=>⟨z.1,ht _ _ z.2.1,z.2.2⟩,g,i,j,k _ _ (.inl rfl) e,c⟩
 | set S n=>obtain⟨g,i,j,t,e,c⟩:=x;exact⟨g,i,j,t,k _ _ (.inl rfl) e,c⟩
 | ins C dx fs=>
  obtain⟨d,z,D,e,A,⟨m,i,j,E,c⟩,r⟩:=x;exact⟨ho _ d,z,D,k _ _ (.inl rfl) e,A,⟨m,i,j,k _ _ (.inr d) E,c⟩,r⟩
 | own y=>obtain⟨g,e⟩:=x;exact⟨g,k _ _ (.inl rfl) e⟩
 | xd fs=>obtain⟨A,⟨m,i,j,e,c⟩,r⟩:=x;exact⟨A,⟨m,i,j,k _ _ (.inl rfl) e,c⟩,r⟩
 | rng lo hi=>obtain⟨t,u,v,e⟩:=x;exact⟨t,u,v,k _ _ (.inl rfl) e⟩
 | frz g u ih=>obtain⟨e,q⟩:=x;exact⟨k _ _ (.inl rfl) e,ih q⟩
 | tbl ps=>
  have e:=x;exact k a _ (.inl rfl) e
 | met f y=>
  have e:=x;exact k a _ (.inl rfl) e
 | ext φ=>obtain⟨p,⟨o,e⟩,B⟩:=x;exact⟨B _ _ p λo q=>k _ _ (.inl rfl) q,⟨o,k _ _ (.inl rfl) e⟩,B⟩
theorem HOk.lt (x:HOk P w H h) (e:H a=some o):a<h.objs.size:=(x a o e).lt
theorem HOk.fresh (x:HOk P w H h) (e:h.objs.size<=a):H a=none:=by
 cases q:H a with
 | none=>rfl
 | some u=>exact absurd (eV (x.lt q) e) (fj _)
theorem HOk.kept (x:HOk P w H h) (k:∀ b u,h.get? b=some u->h'.get? b=some u):HOk P w H h':=λa o e=>
 (x a o e).stay (λb u _ q=>k b u q) (λ_ q=>q) λ_ _ q=>q
theorem HOk.laid (x:HOk P w H h) (k:∀ b u,h.get? b=some u->h'.get? b=some u) (hp:h.objs.size<=a) (new:ObjOk P w (upd H a o) h' a o):HOk P w (upd H a o) h':=λb u e=>by
 have d:=x.fresh hp
 by_cases hb:b=a
 ·subst hb;rw[a0s]at e;cases e;exact new
 ·rw[a0r hb]at e;exact (x b u e).stay (λc v _ q=>k c v q) (λc q=>by rw[a0r (a1J q d)];exact q) λc f q=>by rw[a0r (a1J q d)];exact q
end
noncomputable def Rd (H:Hp) (a:Addr) (u:HO):Prop:=H a=some u\/∃ o,H a=some (.frz o u)
theorem Rd.of (h:H a=some u):Rd H a u:=.inl h
theorem Rd.ok (r:Rd H a u) (x:HOk P w H h):ObjOk P w H h a u:=by
 rcases r with r | ⟨o,r⟩
 ·exact x a u r
 ·obtain⟨_,q⟩:=x a _ r;exact q
noncomputable def Mut:Option HO->Prop
 | some (.lst _)=>True
 | some (.dK _)=>True
 | some (.dT _)=>True
 | some (.set _ _)=>True
 | some (.ins _ _ _)=>True
 | some (.ext _)=>True
 | _=>False
section
variable {P:jO}{w:World}{H:Hp}{h h':Heap}{x e:Addr}{o':HO}
theorem HOk.write (ok:HOk P w H h) (mu:Mut (H x)) (he:e=x\/H e=some (.own x)) (k:∀ b u,b≠e->h.get? b=some u->h'.get? b=some u) (heo:∃ u,h'.get? e=some u)
  (new:ObjOk P w (upd H x o') h' x o'):HOk P w (upd H x o') h':=λb u q=>by
 have a:∀ c y,H c=some (.own y)->c≠x:=λc y r z=>by subst z;rw[r]at mu;exact mu
 have g:∀ c d,H c=some (.tup d)->c≠x:=λc d r z=>by subst z;rw[r]at mu;exact mu
 by_cases hb:b=x
 ·subst hb;rw[a0s]at q;cases q;exact new
 ·rw[a0r hb]at q
  by_cases hbe:b=e
  ·have i:H b=some (.own x):=by
    rcases he with z | z
    ·exact absurd (hbe.trans z) hb
    ·rw[hbe];exact z
   rw[q]at i;cases i;obtain⟨v,j⟩:=heo;exact⟨v,by rw[hbe];exact j⟩
  ·refine (ok b u q).stay (λc v f r=>k c v ?_ r) (λc r=>by rw[a0r (a c b r)];exact r) λc d r=>by rw[a0r (g c d r)];exact r
   rcases f with rfl | f
   ·omega
   ·grind
end
structure Un (fs ex:List Addr) (H H':Hp) (h h':Heap):Prop where
 keep:∀ b o,h.get? b=some o->H b=none->b∉fs->b∉ex->h'.get? b=some o
 slot:∀ b o,h.get? b=some o->H b=none->b∈fs->b∉ex->∃ sl,h'.get? b=some { o with slots:=sl }
 free:∀ b o,h.get? b=some o->H b=none->b∉ex->H' b=none
 there:∀ b o,h.get? b=some o->b∉ex->∃ o',h'.get? b=some o'
 tups:∀ b xs,H b=some (.tup xs)->H' b=some (.tup xs)
 frzs:∀ b o u,H b=some (.frz o u)->H' b=some (.frz o u)
 tbls:∀ b ps,H b=some (.tbl ps)->∃ more,H' b=some (.tbl (ps++more))
section
variable {fs fs' ex ex':List Addr}{H H1 H2:Hp}{h h1 h2 h':Heap}{a x e:Addr}{o:HO}
theorem Un.any (u:Un fs ex H H1 h h1) (q:h.get? b=some ob) (n:H b=none) (hx:b∉ex):∃ sl,h1.get? b=some { ob with slots:=sl }:=by
 by_cases hb:b∈fs
 ·exact u.slot b ob q n hb hx
 ·exact⟨ob.slots,u.keep b ob q n hb hx⟩
theorem Un.trans (a:Un fs ex H H1 h h1) (b:Un fs ex H1 H2 h1 h2):Un fs ex H H2 h h2 where
 keep:=λc ob q n hc hx=>b.keep c ob (a.keep c ob q n hc hx) (a.free c ob q n hx) hc hx
 slot:=λc ob q n hc hx=>by
  obtain⟨sl,e1⟩:=a.slot c ob q n hc hx;obtain⟨sl',e2⟩:=b.slot c _ e1 (a.free c ob q n hx) hc hx;exact⟨sl',e2⟩
 free:=λc ob q n hx=>by
  obtain⟨o',e1⟩:=a.there c ob q hx;exact b.free c o' e1 (a.free c ob q n hx) hx
 there:=λc ob q hx=>by
  obtain⟨o',e1⟩:=a.there c ob q hx;exact b.there c o' e1 hx
 tups:=λc xs q=>b.tups c xs (a.tups c xs q)
 frzs:=λc ob xs q=>b.frzs c ob xs (a.frzs c ob xs q)
 tbls:=λc ps q=>by
  obtain⟨m1,e1⟩:=a.tbls c ps q;obtain⟨m2,e2⟩:=b.tbls c _ e1;exact⟨m1++m2,by rw[e2,i6]⟩
theorem Un.kept (k:∀ b u,h.get? b=some u->h'.get? b=some u):Un fs ex H H h h':=
 ⟨λb a q _ _ _=>k b a q,λb a q _ _ _=>⟨a.slots,k b a q⟩,λ_ _ _ n _=>n,λb a q _=>⟨a,k b a q⟩,λ_ _ q=>q,λ_ _ _ q=>q,λ_ c q=>⟨#[],by rw[q];simp⟩⟩
theorem Un.refl:Un fs ex H H h h:=Un.kept λ_ _ q=>q
theorem Un.laid (k:∀ b u,h.get? b=some u->h'.get? b=some u) (hp:h.objs.size<=a) (hn:H a=none):Un fs ex H (upd H a o) h h' where
 keep:=λb u q _ _ _=>k b u q
 slot:=λb u q _ _ _=>⟨u.slots,k b u q⟩
 free:=λb u q n _=>by rw[a0r (eJ (eV (Heap.lt_size q) hp))];exact n
 there:=λb u q _=>⟨u,k b u q⟩
 tups:=λb xs q=>by rw[a0r (a1J q hn)];exact q
 frzs:=λb u xs q=>by rw[a0r (a1J q hn)];exact q
 tbls:=λb ps q=>⟨#[],by rw[a0r (a1J q hn),q];simp⟩
theorem Un.write (mu:Mut (H x)) (he:e=x\/H e=some (.own x)) (k:∀ b u,b≠e->h.get? b=some u->h'.get? b=some u) (heo:∃ u,h'.get? e=some u):Un fs ex H (upd H x o) h h':=by
 have d:∀ b,H b=none->b≠x:=λb n z=>by subst z;rw[n]at mu;exact mu
 have c:∀ b,H b=none->b≠e:=λb n z=>by simp_all
 have a:∀ b u,H b=some u->¬ Mut (some u)->b≠x:=λb u q g z=>by subst z;rw[q]at mu;exact g mu
 refine⟨λb u q n _ _=>k b u (c b n) q,λb u q n _ _=>⟨u.slots,k b u (c b n) q⟩,λb u q n _=>by rw[a0r (d b n)];exact n,λb u q _=>?_,
  λb f q=>by rw[a0r (a b _ q λz=>z)];exact q,λb u f q=>by rw[a0r (a b _ q λz=>z)];exact q,λb i q=>⟨#[],by rw[a0r (a b _ q λz=>z),q];simp⟩⟩
 by_cases hbe:b=e
 ·grind
 ·exact⟨u,k b u hbe q⟩
theorem Un.mono (u:Un fs ex H H1 h h1) (hs:∀ b∈fs,b∈fs') (hx:∀ b∈ex,b∈ex'):Un fs' ex' H H1 h h1:=
 ⟨λb c q n d a=>u.keep b c q n (λz=>d (hs b z)) λz=>a (hx b z),λ_ _ q n _ a=>u.any q n λz=>a (hx _ z),λb c q n a=>u.free b c q n λz=>a (hx b z),λb c q a=>u.there b c q λz=>a (hx b z),u.tups,u.frzs,u.tbls⟩
end
noncomputable def trk (h:Heap) (H:Hp):List Addr:=(fR h.objs.size).filter λa=>(H a).isSome
noncomputable def hidT (h:Heap) (H:Hp):Heap:=PySem.W.hideAll h (trk h H)
theorem b0U (h:Heap) (H:Hp):(hidT h H).objs.size=h.objs.size:=PySem.W.hideAll_size _ _
theorem b3h (e:h.get? b=some o) (n:H b=none):(hidT h H).get? b=some o:=
 PySem.W.hideAll_get _ e λa=>by
  have q:=(fb.mp a).2;rw[n]at q;simp at q
theorem b5A (e:(hidT h H).get? b=some o):h.get? b=some o/\H b=none:=by
 have a:=PySem.W.of_hideAll _ e;refine⟨a,?_⟩;cases q:H b with
 | none=>rfl
 | some x=>
  have c:b∈trk h H:=fb.mpr ⟨iy.mpr (Heap.lt_size a),by simp[q]⟩;have z:(hidT h H).get? b=none:=PySem.W.hideAll_none _ c;rw[z]at e;cases e
noncomputable def b5B (g h:Heap) (L:Addr):List (Addr×Obj):=(fR h.objs.size).filterMap λa=>if a=L\/(g.get? a).isSome=true then none else (h.get? a).map λo=>(a,o)
noncomputable def rest (g h:Heap) (L d:Addr):List (Addr×Obj):=(b5B g h L).filter λp=>decide (p.1≠d)
structure Mod (K:Fg) (mg:Str->Option Value) (base:Heap):Prop where
 kin:K.In base
 glob:base.Ns jP mg
 blt:∃ mb,base.Ns l5 mb/\∀ x:Str,x≠"__name__"->mb x=kt x
 nolimit:base.NoLimit
structure Cx where
 prog:jO
 w:World
 K:Fg
 mg:Str->Option Value
 base:Heap
 A:Around
 N:List Str
 s₀:Shared
 H₀:Hp
 env:Env
 outer:List Env
 stack:List Env
 ex:List Addr
 fn:Str->Bool
 calm:Bool
 pn:List (Addr×Obj)
 xe:Value->Shared->Prop
noncomputable def frs (l:List Env):List Addr:=l.filterMap (·.frame)
abbrev Cx.fs (X:Cx):List Addr:=frs X.outer
noncomputable def Vis (sc:Scope) (x:Str):Prop:=sc.names.lookup x=some .local\/sc.names.lookup x=some .cell\/sc.names.lookup x=some .free
noncomputable def Loc (sc:Scope) (x:Str):Prop:=sc.names.lookup x=some .local\/sc.names.lookup x=some .cell
noncomputable def Look (env:Env) (h:Heap) (m:Str->Option Value) (x:Str) (u:Value):Prop:=
 (env.kindOf x=some .local/\m x=some u)\/((env.kindOf x=some .cell\/env.kindOf x=some .free)/\∃ c,env.cells.lookup x=some c/\h.IsCell c (some u))
structure Cx.Ok (X:Cx):Prop where
 mod:Mod X.K X.mg X.base
 kind:X.env.scope.kind=.function
 glob:X.env.globals=jP
 blt:X.env.builtins=l5
 above:X.s₀.heap.objs.size<=X.env.locals
 inj:∀ x y c,X.env.cells.lookup x=some c->X.env.cells.lookup y=some c->x=y
 has:∀ x,(X.env.kindOf x=some .cell\/X.env.kindOf x=some .free)->∃ c,X.env.cells.lookup x=some c
 cab:∀ x c,X.fn x=true->X.env.cells.lookup x=some c->X.s₀.heap.objs.size<=c
 hd:X.calm=true->X.A.handled=none
 frames:X.A.frames=some X.stack
 stk:X.stack=X.outer\/(X.stack=X.env::X.outer/\X.env.frame=some X.env.locals)
 exf:∀ b∈X.ex,b≠X.env.locals/\∀ x c,X.env.cells.lookup x=some c->c≠b
 bs:∀ b o,X.base.get? b=some o->X.s₀.heap.get? b=some o/\X.H₀ b=none
 bsz:X.base.objs.size<=X.s₀.heap.objs.size
 noex:∀ b o,X.base.get? b=some o->b∉X.ex
 exfs:∀ b∈X.ex,b∉X.fs
 funs:X.s₀.heap.FunFrames X.base X.outer
 frf:∀ b∈X.fs,X.H₀ b=none
structure Inv (X:Cx) (pins:List (Addr×Obj)) (σ:List (Option V)) (H:Hp) (s:Shared):Prop where
 ok:X.Ok
 os:s.os=X.s₀.os
 bare:kh s.gens
 base:Un X.fs X.ex X.H₀ H X.s₀.heap s.heap
 loc:∃ m,s.heap.Ns X.env.locals m/\∀ (i:Nat) (x:Str) (v:V),X.N[i]?=some x->σ[i]?=some (some v)->Vis X.env.scope x->∃ u,RelV v u/\Look X.env s.heap m x u
 cell:∀ x c,X.env.cells.lookup x=some c->∃ v,s.heap.IsCell c v
 free:H X.env.locals=none
 freeC:∀ x c,X.env.cells.lookup x=some c->H c=none
 pin:∀ p∈X.pn++pins,s.heap.get? p.1=some p.2/\H p.1=none/\p.1≠X.env.locals/\p.1∉X.fs/\∀ v,p.2.data≠.cell v
 hok:HOk X.prog X.w H s.heap
 len:σ.length=X.N.length
section
variable {X:Cx}{pins:List (Addr×Obj)}{σ:List (Option V)}{H H':Hp}{s:Shared}{h':Heap}
theorem Cx.Ok.nofr (ok:X.Ok) (e:X.base.get? b=some o):b∉X.fs:=λa=>by
 have:=(ok.funs.mem a).1
 rw[e]at this;cases this
theorem Inv.bs (I:Inv X pins σ H s):∀ b o,X.base.get? b=some o->s.heap.get? b=some o/\H b=none:=λb o e=>
 ⟨I.base.keep b o (I.ok.bs b o e).1 (I.ok.bs b o e).2 (I.ok.nofr e) (I.ok.noex b o e),I.base.free b o (I.ok.bs b o e).1 (I.ok.bs b o e).2 (I.ok.noex b o e)⟩
theorem Inv.bk (I:Inv X pins σ H s):∀ b o,X.base.get? b=some o->s.heap.get? b=some o:=λb o e=>(I.bs b o e).1
theorem Inv.mod (I:Inv X pins σ H s):Mod X.K X.mg X.base:=I.ok.mod
theorem Inv.kIn (I:Inv X pins σ H s):X.K.In s.heap:=I.ok.mod.kin.keeps I.bk
theorem Inv.nolimit (I:Inv X pins σ H s):s.heap.NoLimit:=I.ok.mod.nolimit.keeps I.bk
theorem Inv.fr (I:Inv X pins σ H s):∃ m,Fr X.base X.env.locals s.heap m:=
 let ⟨m,hn,_⟩:=I.loc
 ⟨m,hn,I.bk,eF I.ok.bsz I.ok.above⟩
theorem Inv.lt (I:Inv X pins σ H s):X.env.locals<s.heap.objs.size:=let ⟨_,hn,_⟩:=I.loc;hn.lt
theorem Inv.sz (I:Inv X pins σ H s):X.s₀.heap.objs.size<=s.heap.objs.size:=eF I.ok.above (ga I.lt)
theorem Inv.nofs (I:Inv X pins σ H s) (h:s.heap.objs.size<=a):a∉X.fs:=λc=>by
 obtain⟨_,o,b,_⟩:=I.ok.funs.mem c;exact absurd (eV (Heap.lt_size b) (eF I.sz h)) (fj _)
theorem Inv.cne (I:Inv X pins σ H s):∀ x c,X.env.cells.lookup x=some c->c≠X.env.locals:=λx c e z=>by
 obtain⟨v,o,d,b⟩:=I.cell x c e;obtain⟨m,⟨i,g,h,a,f,_⟩,_⟩:=I.loc;rw[z,a]at d;cases d;rw[f]at b;cases b
theorem Inv.funs (I:Inv X pins σ H s):s.heap.FunFrames X.base X.outer:=by
 have g:∀ l,(∀ b∈frs l,b∈X.fs)->X.s₀.heap.FunFrames X.base l->s.heap.FunFrames X.base l:=by
  intro l
  induction l with
  | nil=>intro _ _;trivial
  | cons env r ih=>
   intro f h;obtain⟨k,⟨L,o,c,n,m,j⟩,i⟩:=h;have d:=f L (by unfold frs;rw[fG,c];exact fA);obtain⟨p,e⟩:=I.base.slot L o m (I.ok.frf L d) d λz=>I.ok.exfs L z d;exact⟨k,⟨L,_,c,n,e,j⟩,ih (λb a=>f b (by unfold frs;rw[fG,c];exact fB _ a)) i⟩
 exact g X.outer (λ_ a=>a) I.ok.funs
theorem Inv.stack (I:Inv X pins σ H s):s.heap.FunFrames X.base X.stack:=by
 rcases I.ok.stk with e | ⟨e,hf⟩
 ·rw[e];exact I.funs
 ·rw[e];obtain⟨m,a,_⟩:=I.loc;refine .cons (by rw[I.ok.kind];decide) hf a ?_ I.funs;exact Heap.get?_none_of_le (eF I.ok.bsz I.ok.above)
theorem Inv.stkSub (I:Inv X pins σ H s):∀ b∈frs X.stack,b∈X.env.locals::X.fs:=λb a=>by
 rcases I.ok.stk with e | ⟨e,hf⟩
 ·rw[e]at a;exact fB _ a
 ·rw[e]at a;unfold frs at a;rw[fG,hf]at a;exact a
theorem Inv.stkFree (I:Inv X pins σ H s):∀ b∈frs X.stack,H b=none:=λb a=>by
 rcases eC.mp (I.stkSub b a) with e | a
 ·rw[e];exact I.free
 ·obtain⟨_,o,c,_⟩:=I.ok.funs.mem a;exact I.base.free b o c (I.ok.frf b a) λz=>I.ok.exfs b z a
theorem Inv.step {ch:List Addr}(I:Inv X pins σ H s)
  (hch:∀ b∈ch,(b∈X.ex\/X.s₀.heap.objs.size<=b)/\b≠X.env.locals/\(∀ x c,X.env.cells.lookup x=some c->c≠b)/\∀ p∈X.pn++pins,p.1≠b)
  (keep:∀ b o,b≠X.env.locals->b∉X.fs->b∉ch->s.heap.get? b=some o->H b=none->h'.get? b=some o)
  (slot:∀ b o,b≠X.env.locals->b∈X.fs->b∉ch->s.heap.get? b=some o->H b=none->∃ sl,h'.get? b=some { o with slots:=sl }) (free:∀ b o,b∉ch->s.heap.get? b=some o->H b=none->H' b=none)
  (there:∀ b o,b∉ch->s.heap.get? b=some o->∃ o',h'.get? b=some o')
  (tups:∀ b xs,H b=some (.tup xs)->H' b=some (.tup xs)) (frzs:∀ b o u,H b=some (.frz o u)->H' b=some (.frz o u)) (tbls:∀ b ps,H b=some (.tbl ps)->∃ more,H' b=some (.tbl (ps++more)))
  (ns:∀ m,s.heap.Ns X.env.locals m->h'.Ns X.env.locals m) (hok:HOk X.prog X.w H' h') (hg:kh g') :
  Inv X pins σ H' { s with heap:=h',gens:=g',drawn:=d',toks:=t' }:=by
 have C:∀ b o,X.s₀.heap.get? b=some o->b≠X.env.locals:=λb o e=>eJ (eV (Heap.lt_size e) I.ok.above);have j:∀ b o,X.s₀.heap.get? b=some o->b∉X.ex->b∉ch:=λb o e a h=>by
  rcases (hch b h).1 with z | z
  ·grind
  ·exact absurd (eV (Heap.lt_size e) z) (fj _)
 have t:∀ x c,X.env.cells.lookup x=some c->∀ v,s.heap.IsCell c v->h'.IsCell c v:=λx c e v ⟨o,y,E⟩=>by
  have g:=λz=>(hch c z).2.2.1 x c e rfl
  by_cases hc:c∈X.fs
  ·obtain⟨S,q⟩:=slot c o (I.cne x c e) hc g y (I.freeC x c e);exact⟨_,q,E⟩
  ·exact⟨o,keep c o (I.cne x c e) hc g y (I.freeC x c e),E⟩
 refine⟨I.ok,I.os,hg,⟨λb o e n h a=>?_,λb o e n h a=>?_,λb o e n a=>?_,λb o e a=>?_,λb B e=>tups b B (I.base.tups b B e),λb o B e=>frzs b o B (I.base.frzs b o B e),λb Q e=>?_⟩,?_,λx c e=>?_,?_,λx c e=>?_,λp L=>?_,hok,I.len⟩
 ·exact keep b o (C b o e) h (j b o e a) (I.base.keep b o e n h a) (I.base.free b o e n a)
 ·obtain⟨S,f⟩:=I.base.slot b o e n h a;obtain⟨F,A⟩:=slot b _ (C b o e) h (j b o e a) f (I.base.free b o e n a);exact⟨F,A⟩
 ·obtain⟨D,f⟩:=I.base.there b o e a;exact free b D (j b o e a) f (I.base.free b o e n a)
 ·obtain⟨D,f⟩:=I.base.there b o e a;exact there b D (j b o e a) f
 ·obtain⟨N,f⟩:=I.base.tbls b Q e;obtain⟨U,A⟩:=tbls b _ f;exact⟨N++U,by rw[A,i6]⟩
 ·obtain⟨m,T,M⟩:=I.loc;refine⟨m,ns m T,λi x v f A R=>?_⟩;obtain⟨u,r,l⟩:=M i x v f A R;refine⟨u,r,?_⟩;rcases l with l | ⟨k,c,e,z⟩
  ·exact .inl l
  ·exact .inr ⟨k,c,e,t x c e _ z⟩
 ·obtain⟨v,z⟩:=I.cell x c e;exact⟨v,t x c e v z⟩
 ·obtain⟨m,⟨o,_,_,y,_⟩,_⟩:=I.loc;exact free _ o (λz=>(hch _ z).2.1 rfl) y I.free
 ·obtain⟨v,o,y,E⟩:=I.cell x c e;exact free c o (λz=>(hch c z).2.2.1 x c e rfl) y (I.freeC x c e)
 ·obtain⟨e,n,G,J,d⟩:=I.pin p L;have g:=λz=>(hch p.1 z).2.2.2 p L rfl;exact⟨keep p.1 p.2 G J g e n,free p.1 p.2 g e n,G,J,d⟩
theorem Inv.un (I:Inv X pins σ H s) (u:Un X.fs [] H H' s.heap h') (hok:HOk X.prog X.w H' h'):Inv X pins σ H' { s with heap:=h',toks:=t' }:=by
 obtain⟨m,⟨o,k,q,g,r⟩,_⟩:=id I.loc;obtain⟨l,j⟩:=u.any g I.free (by simp);exact I.step (ch:=[]) (λ_ z=>nomatch z) (λb o _ c _ e n=>u.keep b o e n c (by simp)) (λb o _ c _ e n=>u.slot b o e n c (by simp)) (λb o _ e n=>u.free b o e n (by simp)) (λb o _ e=>u.there b o e (by simp)) u.tups u.frzs u.tbls (λt h=>by
  obtain⟨p,d,f,a,i⟩:=h;rw[g]at a;cases a;exact⟨_,d,f,j,i⟩) hok I.bare
theorem Inv.call (I:Inv X pins σ H s) (u:Un (frs X.stack) ch H H' s.heap h') (hok:HOk X.prog X.w H' h') (hg:kh g')
  (hch:∀ b∈ch,(b∈X.ex\/X.s₀.heap.objs.size<=b)/\b≠X.env.locals/\(∀ x c,X.env.cells.lookup x=some c->c≠b)/\∀ p∈X.pn++pins,p.1≠b) :
  Inv X pins σ H' { s with heap:=h',gens:=g',drawn:=d',toks:=t' }:=by
 obtain⟨m,⟨o,q,y,i,r⟩,_⟩:=id I.loc;obtain⟨t,f⟩:=u.any i I.free λz=>(hch _ z).2.1 rfl;exact I.step hch (λb o f l a e n=>u.keep b o e n (λz=>(eC.mp (I.stkSub b z)).elim f l) a) (λb o _ _ a e n=>u.any e n a) (λb o a e n=>u.free b o e n a) (λb o a e=>u.there b o e a) u.tups u.frzs u.tbls (λA j=>by
  obtain⟨v,g,h,d,k⟩:=j;rw[i]at d;cases d;exact⟨_,g,h,f,k⟩) hok hg
theorem Inv.turned (I:Inv X pins σ H s) (k:∀ b o,b≠it->s.heap.get? b=some o->h'.get? b=some o) (hn:H it=none) (hL:it≠X.env.locals)
  (h1:it∈X.ex\/X.s₀.heap.objs.size<=it) (h2:∀ x c,X.env.cells.lookup x=some c->c≠it) (h3:∀ p∈X.pn++pins,p.1≠it):Inv X pins σ H { s with heap:=h',toks:=t' }:=by
 have d:∀ b u,H b=some u->b≠it:=λb u e z=>by rw[z,hn]at e;cases e
 refine I.step (ch:=[it]) (λb i=>?_) (λb o _ _ a e _=>k b o (λz=>a (by simp[z])) e) (λb o _ _ a e _=>⟨o.slots,k b o (λz=>a (by simp[z])) e⟩) (λ_ _ _ _ n=>n)
  (λb o a e=>⟨o,k b o (λz=>a (by simp[z])) e⟩) (λ_ _ e=>e) (λ_ _ _ e=>e) (λb l e=>⟨#[],by rw[e];simp⟩) (λm h=>?_) (λb u e=>?_) I.bare
 ·have e:b=it:=by simpa using i
  subst e;exact⟨h1,hL,h2,h3⟩
 ·obtain⟨o,f,j,g,r⟩:=h;exact⟨o,f,j,k _ o (Ne.symm hL) g,r⟩
 ·refine (I.hok b u e).stay (λc v a q=>k c v ?_ q) (λ_ q=>q) λ_ _ q=>q;rcases a with z | z
  ·rw[z];exact d b u e
  ·exact d c _ z
theorem Inv.tok (I:Inv X pins σ H s) (t:Nat):Inv X pins σ H { s with toks:=t }:=I.un Un.refl I.hok
theorem Inv.kept (I:Inv X pins σ H s) (k:∀ b u,s.heap.get? b=some u->h'.get? b=some u):Inv X pins σ H { s with heap:=h',toks:=t' }:=I.un (Un.kept k) (I.hok.kept k)
theorem Inv.laid (I:Inv X pins σ H s) (k:∀ b u,s.heap.get? b=some u->h'.get? b=some u) (hp:s.heap.objs.size<=a) (new:ObjOk X.prog X.w (upd H a o) h' a o) :
  Inv X pins σ (upd H a o) { s with heap:=h',toks:=t' }:=I.un (Un.laid k hp (I.hok.fresh hp)) (I.hok.laid k hp new)
theorem Inv.write (I:Inv X pins σ H s) (mu:Mut (H x)) (he:e=x\/H e=some (.own x)) (k:∀ b u,b≠e->s.heap.get? b=some u->h'.get? b=some u) (heo:∃ u,h'.get? e=some u)
  (new:ObjOk X.prog X.w (upd H x o) h' x o):Inv X pins σ (upd H x o) { s with heap:=h',toks:=t' }:=I.un (Un.write mu he k heo) (I.hok.write mu he k heo new)
theorem Inv.weak (I:Inv X pins σ H s) (hl:σ'.length=σ.length) (w:∀ (i:Nat) v,σ'[i]?=some (some v)->σ[i]?=some (some v)):Inv X pins σ' H s:=
 ⟨I.ok,I.os,I.bare,I.base,let ⟨m,hn,hl'⟩:=I.loc;⟨m,hn,λi x v b c a=>hl' i x v b (w i v c) a⟩,I.cell,I.free,I.freeC,I.pin,I.hok,hl.trans I.len⟩
theorem Inv.pins_of (I:Inv X pins σ H s) (h:∀ p∈pins',s.heap.get? p.1=some p.2/\H p.1=none/\p.1≠X.env.locals/\p.1∉X.fs/\∀ v,p.2.data≠.cell v):Inv X pins' σ H s:=
 ⟨I.ok,I.os,I.bare,I.base,I.loc,I.cell,I.free,I.freeC,λp a=>(ei.mp a).elim (λz=>I.pin p (iz _ z)) (h p),I.hok,I.len⟩
theorem a9i {N:List Str}(hN:N.Nodup) {i j:Nat}(a:N[i]?=some x) (b:N[j]?=some x):i=j:=by
 obtain⟨f,c⟩:=eL.mp a;obtain⟨e,d⟩:=eL.mp b;exact (List.getElem_inj hN).mp (c.trans d.symm)
theorem a7C (I:Inv X pins σ H s) (hN:X.N.Nodup) (hi:X.N[i]?=some x) (hx:Loc X.env.scope x) (r:RelV v u)
  (h:∀ s',Inv X pins (σ.set i (some v)) H s'->(∃ a,Heap.SameBut a s.heap s'.heap/\(a=X.env.locals\/X.env.cells.lookup x=some a))->Q () s') (hf:X.fn x=true\/X.env.scope.names.lookup x=some .local:=by first | exact .inl rfl | exact .inr rfl | assumption):wpAny M A (storeName X.env x u) Q E s:=by
 obtain⟨m,hn,hl⟩:=id I.loc;have hcls:(X.env.scope.kind==.class||(X.env.scope.kind==.module&&X.env.locals != X.env.globals))=false:=by rw[I.ok.kind];rfl
 have U:i<σ.length:=by rw[I.len];exact (eL.mp hi).1
 have J:=I.cne;have B:∀ {a:Addr}{G:Heap},(∃ o,s.heap.get? a=some o/\H a=none)->Heap.SameBut a s.heap G->HOk X.prog X.w H G:=λ{a G} ha f b ob e=>by
  obtain⟨_,_,F⟩:=ha;refine (I.hok b ob e).stay (λc R l q=>(f.2 c ?_).trans q) (λ_ q=>q) λ_ _ q=>q;rintro rfl;rcases l with rfl | l
  ·rw[F]at e;cases e
  ·rw[F]at l;cases l
 rcases hx with hk | hk
 ·refine wpAny_storeName_local hk hn (λG hn' f=>?_) hcls;obtain⟨oL,_,_,hoL,_⟩:=id hn;refine h _ ⟨I.ok,I.os,I.bare,⟨λb o e n D hx=>?_,λb o e n D hx=>?_,I.base.free,λb o e hx=>?_,I.base.tups,I.base.frzs,I.base.tbls⟩,⟨_,hn',λj y v' g C e3=>?_⟩,λy c e=>?_,I.free,I.freeC,λp hp=>?_,B ⟨oL,hoL,I.free⟩ f,by simpa using I.len⟩ ⟨_,f,.inl rfl⟩
  ·exact (f.2 b (eJ (eV (Heap.lt_size e) I.ok.above))).trans (I.base.keep b o e n D hx)
  ·obtain⟨sl,g⟩:=I.base.slot b o e n D hx;exact⟨sl,(f.2 b (eJ (eV (Heap.lt_size e) I.ok.above))).trans g⟩
  ·obtain⟨o',g⟩:=I.base.there b o e hx;exact⟨o',(f.2 b (eJ (eV (Heap.lt_size e) I.ok.above))).trans g⟩
  ·by_cases hj:j=i
   ·subst hj;rw[hi]at g;cases g;rw[iA U]at C;cases C;exact⟨u,r,.inl ⟨hk,by simp⟩⟩
   ·rw[gZ (Ne.symm hj)]at C;obtain⟨u',r',q⟩:=hl j y v' g C e3;refine⟨u',r',?_⟩;rcases q with ⟨k,e⟩ | ⟨k,c,e,z⟩
    ·refine .inl ⟨k,?_⟩
     have:y≠x:=λe=>hj (a9i hN g (e▸hi))
     simp[this,e]
    ·exact .inr ⟨k,c,e,z.sameBut f (J y c e)⟩
  ·obtain⟨R,z⟩:=I.cell y c e;exact⟨R,z.sameBut f (J y c e)⟩
  ·obtain⟨e,n,S,nf,d⟩:=I.pin p hp;exact⟨(f.2 p.1 S).trans e,n,S,nf,d⟩
 ·have L:X.fn x=true:=by
   rcases hf with z | z
   ·exact z
   ·rw[z]at hk;cases hk
  obtain⟨c,l⟩:=I.ok.has x (.inl hk);obtain⟨R,z⟩:=I.cell x c l;refine wpAny_storeName_cell I.ok.kind hk l z (λG Y f=>?_);obtain⟨oc,W,hocd⟩:=id z;refine h { s with heap:=G } ⟨I.ok,I.os,I.bare,⟨λb o e n D hx=>?_,λb o e n D hx=>?_,I.base.free,λb o e hx=>?_,I.base.tups,I.base.frzs,I.base.tbls⟩,⟨m,hn.sameBut f (Ne.symm (J x c l)),λj y v' g C e3=>?_⟩,λy T e=>?_,I.free,I.freeC,λp hp=>?_,B ⟨oc,W,I.freeC x c l⟩ f,by simpa using I.len⟩ ⟨c,f,.inr l⟩
  ·exact (f.2 b (eJ (eV (Heap.lt_size e) (I.ok.cab x c L l)))).trans (I.base.keep b o e n D hx)
  ·obtain⟨sl,g⟩:=I.base.slot b o e n D hx;exact⟨sl,(f.2 b (eJ (eV (Heap.lt_size e) (I.ok.cab x c L l)))).trans g⟩
  ·obtain⟨o',g⟩:=I.base.there b o e hx;exact⟨o',(f.2 b (eJ (eV (Heap.lt_size e) (I.ok.cab x c L l)))).trans g⟩
  ·by_cases hj:j=i
   ·subst hj;rw[hi]at g;cases g;rw[iA U]at C;cases C;exact⟨u,r,.inr ⟨.inl hk,c,l,Y⟩⟩
   ·rw[gZ (Ne.symm hj)]at C;obtain⟨u',r',q⟩:=hl j y v' g C e3;refine⟨u',r',?_⟩;rcases q with q | ⟨k,T,e,z'⟩
    ·exact .inl q
    ·refine .inr ⟨k,T,e,z'.sameBut f ?_⟩;rintro rfl;exact hj (a9i hN g (I.ok.inj _ _ _ e l▸hi))
  ·by_cases hcc:T=c
   ·subst hcc;exact⟨_,Y⟩
   ·obtain⟨w2,z2⟩:=I.cell y T e;exact⟨w2,z2.sameBut f hcc⟩
  ·obtain⟨e,n,S,nf,d⟩:=I.pin p hp;refine⟨(f.2 p.1 ?_).trans e,n,S,nf,d⟩;intro q;rw[q,W]at e;have q':=fu.inj e;exact d R (by rw[<- q'];exact hocd)
theorem a9j (I:Inv X pins σ H s) (hN:X.N.Nodup) (hi:X.N[i]?=some x) (hx:Loc X.env.scope x) (r:RelV v u)
  (h:∀ s',Inv X pins (σ.set i (some v)) H s'->Q () s') (hf:X.fn x=true\/X.env.scope.names.lookup x=some .local:=by first | exact .inl rfl | exact .inr rfl | assumption):wpAny M A (storeName X.env x u) Q E s:=
 a7C I hN hi hx r (λa b _=>h a b) hf
theorem Inv.call' (I:Inv X pins σ H s) (ho:s'.os=s.os) (u:Un (frs X.stack) ch H H' s.heap s'.heap) (hok:HOk X.prog X.w H' s'.heap) (hg:kh s'.gens)
  (hch:∀ b∈ch,(b∈X.ex\/X.s₀.heap.objs.size<=b)/\b≠X.env.locals/\(∀ x c,X.env.cells.lookup x=some c->c≠b)/\∀ p∈X.pn++pins,p.1≠b):Inv X pins σ H' s':=by
 obtain⟨h',g',d',t',g⟩:=s';have e:=ho;subst e;exact I.call u hok hg hch
end
abbrev XK:=Value->Option Addr->Hp->Prop
abbrev St:=List (Option V)
abbrev VK:=V->Hp->Prop
abbrev TE:=St->Hp->VK->Prop
abbrev TT:=St->Hp->(Bool->Hp->Prop)->Prop
abbrev TA:=St->Hp->(List V->Hp->Prop)->Prop
structure Ends where
 nx:St->Hp->Prop
 rt:VK
 bk:St->Hp->Prop:=λ_ _=>False
 ct:St->Hp->Prop:=λ_ _=>False
abbrev TS:=Ends->St->Hp->Prop
noncomputable def EP (X:Cx) (pins:List (Addr×Obj)) (σ:St) (Q:VK) (u:Value) (s':Shared):Prop:=∃ v H',Inv X pins σ H' s'/\RelV v u/\Q v H'
noncomputable def TP (X:Cx) (pins:List (Addr×Obj)) (σ:St) (Q:Bool->Hp->Prop) (b:Bool) (s':Shared):Prop:=∃ H',Inv X pins σ H' s'/\Q b H'
noncomputable def AP (X:Cx) (pins:List (Addr×Obj)) (σ:St) (Q:List V->Hp->Prop) (us:List Value) (s':Shared):Prop:=∃ vs H',Inv X pins σ H' s'/\Vals vs us/\Q vs H'
noncomputable def SP (X:Cx) (pins:List (Addr×Obj)) (D:Ends) (f:Flow) (s':Shared):Prop:=
 match f with
 | .next=>∃ σ' H',Inv X pins σ' H' s'/\D.nx σ' H'
 | .brk=>∃ σ' H',Inv X pins σ' H' s'/\D.bk σ' H'
 | .cont=>∃ σ' H',Inv X pins σ' H' s'/\D.ct σ' H'
 | .ret u=>∃ v σ' H',Inv X pins σ' H' s'/\RelV v u/\D.rt v H'
noncomputable def PE (X:Cx) (e:Expr) (t:TE):Prop:=
 ∀ (pins:List (Addr×Obj)) (s:Shared) (σ:St) (H:Hp) (Q:VK),Inv X pins σ H s->t σ H Q->wpAny (model X.prog X.w) X.A (eval e X.env) (EP X pins σ Q) X.xe s
noncomputable def PT (X:Cx) (e:Expr) (t:TT):Prop:=
 ∀ (pins:List (Addr×Obj)) (s:Shared) (σ:St) (H:Hp) (Q:Bool->Hp->Prop),Inv X pins σ H s->t σ H Q->wpAny (model X.prog X.w) X.A (isTrue e X.env (eval e X.env)) (TP X pins σ Q) X.xe s
noncomputable def PW (X:Cx) (e:Expr) (t:TT):Prop:=
 ∀ (whole:Sem Value) (pins:List (Addr×Obj)) (s:Shared) (σ:St) (H:Hp) (Q:Bool->Hp->Prop),Inv X pins σ H s->t σ H Q->wpAny (model X.prog X.w) X.A (isTrue e X.env whole) (TP X pins σ Q) X.xe s
theorem PW.pt (h:PW X e t):PT X e t:=h _
noncomputable def PA (X:Cx) (es:List Expr) (t:TA):Prop:=
 ∀ (pos:Pos) (pins:List (Addr×Obj)) (s:Shared) (σ:St) (H:Hp) (Q:List V->Hp->Prop),Inv X pins σ H s->t σ H Q->wpAny (model X.prog X.w) X.A (spliced (backTo pos (jN es X.env))) (AP X pins σ Q) X.xe s
noncomputable def PS (X:Cx) (st:Stmt) (t:TS):Prop:=
 ∀ (pins:List (Addr×Obj)) (s:Shared) (σ:St) (H:Hp) (D:Ends),Inv X pins σ H s->t D σ H->wpAny (model X.prog X.w) X.A (exec st X.env) (SP X pins D) X.xe s
noncomputable def PSs (X:Cx) (st:List Stmt) (t:TS):Prop:=
 ∀ (pins:List (Addr×Obj)) (s:Shared) (σ:St) (H:Hp) (D:Ends),Inv X pins σ H s->t D σ H->wpAny (model X.prog X.w) X.A (execs st X.env) (SP X pins D) X.xe s
theorem thn {α:Type}{t:Sem α}{Q Q':α->Shared->Prop}(h:wpAny M A t Q E s) (hQ:∀ a s,Q a s->Q' a s):wpAny M A t Q' E s:=jX h hQ λ_ _ x=>x
section
variable {X:Cx}
noncomputable def tVar (i:Nat):TE:=fun σ H Q=>∃ v,σ[i]?=some (some v)/\Q v H
noncomputable def tC (v:V):TE:=λ_ H Q=>Q v H
theorem b7f (hN:X.N[i]?=some x) (hv:Vis X.env.scope x) (hd:(x==("__debug__":Str))=false:=by decide) (hcd:(x==("__classdict__":Str))=false:=by decide):PE X (.Name x pos) (tVar i):=by
 intro b s σ H Q I h;obtain⟨v,e,h⟩:=h;obtain⟨m,f,d⟩:=I.loc;obtain⟨u,r,l⟩:=d i x v hN e hv;have a:EP X b σ Q u s:=⟨v,H,I,r,h⟩;rcases l with ⟨hk,hm⟩ | ⟨hk,c,hc,hcell⟩
 ·exact l6 (wpAny_loadName_local I.ok.kind hk f hm a) hd
 ·rcases hk with hk | hk
  ·exact l6 (wpAny_loadName_cell I.ok.kind hk hc hcell a) hd
  ·exact l6 (wpAny_loadName_free I.ok.kind hk hc hcell a hcd) hd
theorem b7g:PE X (.Constant (.int i) j pos) (tC (.int i)):=λ_ _ _ H _ I h=>wpAny_Constant_int ⟨.int i,H,I.tok _,⟨_,rfl⟩,h⟩
theorem b9R:PE X (.Constant (.bool b) j pos) (tC (.bl b)):=λ_ _ _ H _ I h=>Constant_bool ⟨.bl b,H,I,rfl,h⟩
theorem b7h:PE X (.Constant .none j pos) (tC .non):=λ_ _ _ H _ I h=>Constant_none ⟨.non,H,I,rfl,h⟩
theorem b7i:PE X (.Constant (.str x) j pos) (tC (.str x)):=λ_ _ _ H _ I h=>Calls.Constant_str ⟨.str x,H,I.tok _,⟨_,rfl⟩,h⟩
noncomputable def Gl (X:Cx) (x:Str):Prop:=X.env.kindOf x=some .globalImplicit
theorem a60 (I:Inv X pins σ H s) (hg:Gl X x) (hm:X.mg x=some u) (h:Q u s)
  (hd:(x==("__debug__":Str))=false:=by decide):wpAny (model X.prog X.w) X.A (eval (.Name x pos) X.env) Q E s:=
 Calls.Name_function_global I.ok.kind hg (Calls.loadGlobal_global (by rw[I.ok.glob];exact I.mod.glob.keeps I.bk) hm h) hd
theorem a6E (I:Inv X pins σ H s) (hg:Gl X x) (hm:X.mg x=none) (hv:kt x=some u) (h:Q u s)
  (hn:x≠"__name__":=by decide) (hd:(x==("__debug__":Str))=false:=by decide):wpAny (model X.prog X.w) X.A (eval (.Name x pos) X.env) Q E s:=by
 obtain⟨c,b,a⟩:=I.mod.blt;exact Calls.Name_function_global I.ok.kind hg (Calls.loadGlobal_builtin (by rw[I.ok.glob];exact I.mod.glob.keeps I.bk) hm (by rw[I.ok.blt];exact b.keeps I.bk) ((a x hn).trans hv) h) hd
theorem b0V (hg:Gl X x) (hm:X.mg x=some u) (r:RelV v u) (hd:(x==("__debug__":Str))=false:=by decide):PE X (.Name x pos) (tC v):=
 λ_ _ _ H _ I h=>a60 I hg hm ⟨v,H,I,r,h⟩ hd
theorem a23 (hg:Gl X x) (hm:X.mg x=none) (hv:kt x=some u) (r:RelV v u) (hn:x≠"__name__":=by decide) (hd:(x==("__debug__":Str))=false:=by decide):PE X (.Name x pos) (tC v):=
 λ_ _ _ H _ I h=>a6E I hg hm hv ⟨v,H,I,r,h⟩ hn hd
variable {a b:Expr}{ta tb:TE}{pos:Pos}
noncomputable def PC (X:Cx) (op:CmpOp) (a b:Expr) (t:TE):Prop:=
 ∀ (pins:List (Addr×Obj)) (s:Shared) (σ:St) (H:Hp) (Q:VK),Inv X pins σ H s->t σ H Q ->
  wpAny (model X.prog X.w) X.A (eval a X.env) (λv sj=>wpAny (model X.prog X.w) X.A (eval b X.env) (λu sv=>wpAny (model X.prog X.w) X.A (jT op v u) (EP X pins σ Q) X.xe sv) X.xe sj) X.xe s
noncomputable def tB (t:TE):TT:=fun σ H Q=>t σ H λx H1=>∃ c,x=.bl c/\Q c H1
theorem b7j (h:PE X e t) (he:∀ whole,isTrue e X.env whole=(do let v <- whole;ki e.pos;j7 [v] (truthy v)):=by intro _;rfl):PT X e (tB t):=by
 intro a s σ H Q I f;refine isTrue_plain (thn (h a s σ H _ I f) λv j ⟨x,b,i,g,c⟩=>?_) (he _);obtain⟨d,rfl,q⟩:=c;cases g;exact kx ⟨b,i,q⟩
variable {tA tB':TT}{rest:List Expr}
noncomputable def tAnd (t u:TT):TT:=fun σ H Q=>t σ H λc H1=>if c=true then u σ H1 Q else Q false H1
noncomputable def tOr (t u:TT):TT:=fun σ H Q=>t σ H λc H1=>if c=true then Q true H1 else u σ H1 Q
noncomputable def tNot (t:TT):TT:=fun σ H Q=>t σ H λc H1=>Q (!c) H1
theorem b5C (ha:PT X a tA):PW X (.BoolOp .And [a] pos) tA:=by
 intro f b s σ H Q I h;refine isTrue_and (thn (ha b s σ H Q I h) λc d e=>?_);cases c with
 | true=>exact isTrue_and_nil e
 | false=>exact e
theorem b7k (ha:PT X a tA):PW X (.BoolOp .Or [a] pos) tA:=by
 intro f b s σ H Q I h;refine isTrue_or (thn (ha b s σ H Q I h) λc d e=>?_);cases c with
 | false=>exact isTrue_or_nil e
 | true=>exact e
theorem b7l (ha:PT X a tA) (hb:PW X (.BoolOp .And (b::rest) pos) tB'):PW X (.BoolOp .And (a::b::rest) pos) (tAnd tA tB'):=by
 intro j d s σ H Q I h;refine isTrue_and (thn (ha d s σ H _ I h) λc i ⟨e,g,f⟩=>?_);cases c with
 | true=>exact hb j d i σ e Q g f
 | false=>exact⟨e,g,f⟩
theorem pw_or (ha:PT X a tA) (hb:PW X (.BoolOp .Or (b::rest) pos) tB'):PW X (.BoolOp .Or (a::b::rest) pos) (tOr tA tB'):=by
 intro j d s σ H Q I h;refine isTrue_or (thn (ha d s σ H _ I h) λc i ⟨g,e,f⟩=>?_);cases c with
 | true=>exact⟨g,e,f⟩
 | false=>exact hb j d i σ g Q e f
theorem b7m (ha:PT X a tA):PT X (.UnaryOp .Not a pos) (tNot tA):=by
 intro b s σ H Q I h;exact isTrue_not (ha b s σ H _ I h)
noncomputable def b9S (ta tb:TE):TE:=fun σ H Q=>ta σ H λx H1=>∃ c,x=.bl c/\if c=true then tb σ H1 Q else Q (.bl false) H1
noncomputable def tOrV (ta tb:TE):TE:=fun σ H Q=>ta σ H λx H1=>∃ c,x=.bl c/\if c=true then Q (.bl true) H1 else tb σ H1 Q
theorem b7n (h:PE X a t):PE X (.BoolOp op [a] pos) t:=λb s σ H Q I c=>BoolOp_one (h b s σ H Q I c)
theorem b7o (ha:PE X a ta) (hb:PE X (.BoolOp .And (b::rest) pos) tb):PE X (.BoolOp .And (a::b::rest) pos) (b9S ta tb):=by
 intro d s σ H Q I h;refine BoolOp_and (thn (ha d s σ H _ I h) λv j ⟨x,f,g,i,e⟩=>?_);obtain⟨c,rfl,e⟩:=e;cases i;refine kx ?_;cases c with
 | true=>exact hb d j σ f Q g e
 | false=>exact⟨.bl false,f,g,rfl,e⟩
theorem b9T (ha:PE X a ta) (hb:PE X (.BoolOp .Or (b::rest) pos) tb):PE X (.BoolOp .Or (a::b::rest) pos) (tOrV ta tb):=by
 intro d s σ H Q I h;refine BoolOp_or (thn (ha d s σ H _ I h) λv i ⟨x,g,f,j,e⟩=>?_);obtain⟨c,rfl,e⟩:=e;cases j;refine kx ?_;cases c with
 | false=>exact hb d i σ g Q f e
 | true=>exact⟨.bl true,g,f,rfl,e⟩
noncomputable def tIf (t:TT) (ta tb:TE):TE:=fun σ H Q=>t σ H λc H1=>if c=true then ta σ H1 Q else tb σ H1 Q
theorem b3i (hc:PT X c tA) (ha:PE X a ta) (hb:PE X b tb):PE X (.IfExp c a b pos) (tIf tA ta tb):=by
 intro e s σ H Q I h;refine wpAny_IfExp (thn (hc e s σ H _ I h) λd j ⟨i,f,g⟩=>?_);cases d with
 | true=>exact ha e j σ i Q f g
 | false=>exact hb e j σ i Q f g
end
noncomputable def SqL (K:Fg) (H:Hp) (a:Addr) (xs:List V):Prop:=
 Rd H a (.lst xs) \/
  ∃ (o:Obj) (its:Array Value) (n:Nat),K.lookup a=some o/\o.cls=.type "list"/\o.dict=none/\o.data=.seq its n/\its.size<=jK/\Vals xs its.toList
noncomputable def SqT (K:Fg) (H:Hp) (a:Addr) (xs:List V):Prop:=
 Rd H a (.tup xs) \/
  ∃ (o:Obj) (its:Array Value) (n:Nat),K.lookup a=some o/\o.cls=.type "tuple"/\o.data=.seq its n/\its.size<=jK/\Vals xs its.toList
noncomputable def absV:Value->Option V
 | .none=>some .non
 | .bool b=>some (.bl b)
 | .int i _=>some (.int i)
 | .str x _=>some (.str x)
 | .bytes b _=>some (.byt b)
 | .float b _=>some (.flt b)
 | .ref a=>some (.ref a)
 | .type n=>some (.ty n)
 | _=>none
theorem RelV.abs (r:RelV x u):absV u=some x:=by
 cases x with
 | non=>cases r;rfl
 | bl _=>cases r;rfl
 | int _=>obtain⟨t,rfl⟩:=r;rfl
 | str _=>obtain⟨t,rfl⟩:=r;rfl
 | byt _=>obtain⟨t,rfl⟩:=r;rfl
 | flt _=>obtain⟨t,rfl⟩:=r;rfl
 | ref _=>cases r;rfl
 | ty _=>cases r;rfl
theorem RelV.inj (r:RelV x u) (q:RelV y u):x=y:=fu.inj (r.abs.symm.trans q.abs)
theorem Vals.inj:∀ {xs ys:List V}{us:List Value},Vals xs us->Vals ys us->xs=ys
 | _,_,_,.nil,.nil=>rfl
 | _,_,_,.cons r t,.cons r' t'=>by rw[r.inj r',Vals.inj t t']
section
variable {X:Cx}{pins:List (Addr×Obj)}{σ:St}{H:Hp}{s:Shared}{a:Addr}{xs ys:List V}
theorem SqL.of {K:Fg}(h:H a=some (.lst xs)):SqL K H a xs:=.inl (.inl h)
theorem SqT.of {K:Fg}(h:H a=some (.tup xs)):SqT K H a xs:=.inl (.inl h)
theorem Inv.list (I:Inv X pins σ H s) (h:SqL X.K H a xs):∃ its:List Value,Vals xs its/\PlainL s.heap a its.toArray/\xs.length<=sizeLine:=by
 rcases h with h | ⟨o,b,n,hk,hc,hd,hs,hz,r⟩
 ·obtain⟨z,b,n,r,e⟩:=h.ok I.hok;exact⟨b,r,⟨_,n,e,rfl,rfl,rfl⟩,z⟩
 ·refine⟨b.toList,r,⟨o,n,I.kIn a o hk,hc,hd,by simpa using hs⟩,?_⟩;have e:=r.length;simp at e;omega
theorem Inv.tuple (I:Inv X pins σ H s) (h:SqT X.K H a xs):∃ its:List Value,Vals xs its/\IsTup s.heap a its.toArray/\xs.length<=sizeLine:=by
 rcases h with h | ⟨o,b,n,hk,hc,hs,hz,r⟩
 ·obtain⟨z,b,r,p⟩:=h.ok I.hok;exact⟨b,r,p,z⟩
 ·refine⟨b.toList,r,⟨o,I.kIn a o hk,hc,n,by simpa using hs⟩,?_⟩;have e:=r.length;simp at e;omega
theorem Inv.list_inj (I:Inv X pins σ H s) (h:SqL X.K H a xs) (h':SqL X.K H a ys):xs=ys:=by
 obtain⟨f,r,⟨o,n,e,_,_,d⟩,_⟩:=I.list h;obtain⟨b,i,⟨j,k,c,_,_,g⟩,_⟩:=I.list h'
 have:f=b:=by grind
 subst this;exact r.inj i
theorem Inv.tuple_inj (I:Inv X pins σ H s) (h:SqT X.K H a xs) (h':SqT X.K H a ys):xs=ys:=by
 obtain⟨f,r,⟨o,e,_,n,d⟩,_⟩:=I.tuple h;obtain⟨b,i,⟨j,c,_,k,g⟩,_⟩:=I.tuple h'
 have:f=b:=by grind
 subst this;exact r.inj i
end
abbrev Cx.wish (X:Cx) (E:Value->Shared->Prop):Cx:={ X with xe:=E }
abbrev Cx.nox (X:Cx):Cx:=X.wish λ_ _=>False
theorem Cx.Ok.wish {X:Cx}(ok:X.Ok) (E:Value->Shared->Prop):(X.wish E).Ok:=
 ⟨ok.mod,ok.kind,ok.glob,ok.blt,ok.above,ok.inj,ok.has,ok.cab,ok.hd,ok.frames,ok.stk,ok.exf,ok.bs,ok.bsz,ok.noex,ok.exfs,ok.funs,ok.frf⟩
theorem Cx.Ok.unwish {X:Cx}(ok:(X.wish E).Ok):X.Ok:=
 ⟨ok.mod,ok.kind,ok.glob,ok.blt,ok.above,ok.inj,ok.has,ok.cab,ok.hd,ok.frames,ok.stk,ok.exf,ok.bs,ok.bsz,ok.noex,ok.exfs,ok.funs,ok.frf⟩
section
variable {X:Cx}{pins:List (Addr×Obj)}{σ:St}{H:Hp}{s:Shared}{E:Value->Shared->Prop}
theorem Inv.wish (I:Inv X pins σ H s) (E:Value->Shared->Prop):Inv (X.wish E) pins σ H s:=⟨I.ok.wish E,I.os,I.bare,I.base,I.loc,I.cell,I.free,I.freeC,I.pin,I.hok,I.len⟩
theorem Inv.unwish (I:Inv (X.wish E) pins σ H s):Inv X pins σ H s:=⟨I.ok.unwish,I.os,I.bare,I.base,I.loc,I.cell,I.free,I.freeC,I.pin,I.hok,I.len⟩
theorem SP.unwish (h:SP (X.wish E) pins D f s'):SP X pins D f s':=by
 cases f with
 | next=>obtain⟨σ',H',I,q⟩:=h;exact⟨σ',H',I.unwish,q⟩
 | brk=>obtain⟨σ',H',I,q⟩:=h;exact⟨σ',H',I.unwish,q⟩
 | cont=>obtain⟨σ',H',I,q⟩:=h;exact⟨σ',H',I.unwish,q⟩
 | ret u=>obtain⟨v,σ',H',I,r,q⟩:=h;exact⟨v,σ',H',I.unwish,r,q⟩
theorem PE.nox (h:PE X.nox e t):PE X e t:=λa s σ H Q I d=>
 jX (h a s σ H Q (I.wish _) d) (λ_ _ ⟨v,b,c,r,q⟩=>⟨v,b,c.unwish,r,q⟩) λ_ _ z=>er z
theorem PT.nox (h:PT X.nox e t):PT X e t:=λa s σ H Q I d=>
 jX (h a s σ H Q (I.wish _) d) (λ_ _ ⟨c,b,q⟩=>⟨c,b.unwish,q⟩) λ_ _ z=>er z
theorem PSs.nox {st:List Stmt}(h:PSs X.nox st t):PSs X st t:=λa s σ H D I b=>
 jX (h a s σ H D (I.wish _) b) (λ_ _ q=>q.unwish) λ_ _ z=>er z
end
section
variable {X:Cx}{st:Stmt}{rest:List Stmt}{t u:TS}{e:Expr}{te:TE}{pos:Pos}
noncomputable def b9U:TS:=λD σ H=>D.nx σ H
noncomputable def tSeq (t u:TS):TS:=λD σ H=>t { D with nx:=u D } σ H
theorem b5D:PSs X [] b9U:=λ_ _ σ H _ I h=>l8 ⟨σ,H,I,h⟩
theorem a9k (h1:PS X st t) (h2:PSs X rest u):PSs X (st::rest) (tSeq t u):=by
 intro a s σ H D I h;refine wpAny_execs_cons (thn (h1 a s σ H { D with nx:=u D } I h) λf b q=>?_);cases f with
 | next=>
  obtain⟨σ',H',I',q⟩:=q;exact h2 a b σ' H' D I' q
 | ret v=>exact q
 | brk=>exact q
 | cont=>exact q
theorem b5E (h1:PS X st t):PSs X [st] t:=by
 intro a s σ H D I h;refine wpAny_execs_cons (thn (h1 a s σ H D I h) λf b q=>?_);cases f with
 | next=>exact l8 q
 | ret v=>exact q
 | brk=>exact q
 | cont=>exact q
theorem Inv.quiet (I:Inv X pins σ H s):interactive X.env=false:=by simp[interactive,I.ok.kind]
noncomputable def b9V (te:TE):TS:=λD σ H=>te σ H λ_ H1=>D.nx σ H1
theorem b5F (he:PE X e te) (hs:ku e none pos.line X.env=pure false:=by rfl):PS X (.Expr e pos) (b9V te):=by
 intro a s σ H D I h;exact wpAny_Expr_any (thn (he a s σ H _ I h) λv f ⟨x,d,c,g,b⟩=>⟨σ,d,c,b⟩) I.quiet hs
noncomputable def tRet (te:TE):TS:=λD σ H=>te σ H D.rt
theorem b7p (he:PE X e te):PS X (.Return (some e) pos) (tRet te):=by
 intro a s σ H D I h;exact wpAny_Return_some (thn (he a s σ H _ I h) λv g ⟨x,c,b,f,d⟩=>⟨x,σ,c,b,f,d⟩)
noncomputable def tIfS (c:TT) (t u:TS):TS:=λD σ H=>c σ H λb H1=>if b=true then t D σ H1 else u D σ H1
theorem b9W (hc:PT X c tc) (ha:PSs X a t) (hb:PSs X b u):PS X (.If c a b pos) (tIfS tc t u):=by
 intro e s σ H D I h;refine wpAny_If (thn (hc e s σ H _ I h) λd f ⟨g,i,j⟩=>?_);cases d with
 | true=>exact ha e f σ g D i j
 | false=>exact hb e f σ g D i j
end
abbrev TG:=V->St->Hp->(St->Hp->Prop)->Prop
abbrev TGs:=List V->St->Hp->(St->Hp->Prop)->Prop
noncomputable def PG (X:Cx) (target:Expr) (t:TG):Prop:=
 ∀ (pins:List (Addr×Obj)) (s:Shared) (σ:St) (H:Hp) (v:V) (u:Value) (Q:St->Hp->Prop),Inv X pins σ H s->RelV v u->t v σ H Q ->
  wpAny (model X.prog X.w) X.A (assign target X.env u) (λ_ s'=>∃ σ' H',Inv X pins σ' H' s'/\Q σ' H') X.xe s
noncomputable def PGs (X:Cx) (ts:List Expr) (t:TGs):Prop:=
 ∀ (pins:List (Addr×Obj)) (s:Shared) (σ:St) (H:Hp) (vs:List V) (us:List Value) (Q:St->Hp->Prop),Inv X pins σ H s->Vals vs us->t vs σ H Q ->
  wpAny (model X.prog X.w) X.A (assignInOrder ((kz ts X.env).map (·.2)) us) (λ_ s'=>∃ σ' H',Inv X pins σ' H' s'/\Q σ' H') X.xe s
abbrev TSet:=V->V->V->Hp->(Hp->Prop)->Prop
noncomputable def PSet (X:Cx) (t:TSet):Prop:=
 ∀ (pins:List (Addr×Obj)) (s:Shared) (σ:St) (H:Hp) (o i v:V) (ov iv u:Value) (Q:Hp->Prop),Inv X pins σ H s->RelV o ov->RelV i iv->RelV v u->t o i v H Q ->
  wpAny (model X.prog X.w) X.A (lw ov iv u) (λ_ s'=>∃ H',Inv X pins σ H' s'/\Q H') X.xe s
section
variable {X:Cx}{pos:Pos}
noncomputable def b0W (i:Nat):TG:=λv σ H Q=>Q (σ.set i (some v)) H
theorem a0n (hN:X.N.Nodup) (hi:X.N[i]?=some x) (hx:Loc X.env.scope x) (hf:X.fn x=true\/X.env.scope.names.lookup x=some .local:=by first | exact .inl rfl | exact .inr rfl | assumption):PG X (.Name x pos) (b0W i):=by
 intro b s σ H v u Q I r h;exact wpAny_assign_Name (a9j I hN hi hx r (λc a=>⟨_,H,a,h⟩) hf)
noncomputable def gNil:TGs:=λvs σ H Q=>vs=[]/\Q σ H
noncomputable def b7q (t:TG) (u:TGs):TGs:=λvs σ H Q=>∃ v r,vs=v::r/\t v σ H fun σ' H'=>u r σ' H' Q
theorem a3L:PGs X [] gNil:=by
 intro a s σ H b c Q I r h;obtain⟨e,h⟩:=h;subst e;exact assignInOrder_nil ⟨σ,H,I,h⟩
theorem a0z (h1:PG X e t) (h2:PGs X es u)
  (hs:(kz (e::es) X.env).map (·.2)=assign e X.env::(kz es X.env).map (·.2):=by rfl):PGs X (e::es) (b7q t u):=by
 intro a s σ H k i Q I r h;obtain⟨v,j,g,h⟩:=h;subst g;cases r with
 | cons r rr=>
  rw[hs];refine assignInOrder_cons (thn (h1 a s σ H _ _ _ I r h) λ_ f ⟨σ1,d,b,c⟩=>?_);exact h2 a f σ1 d _ _ Q b rr c
noncomputable def gTup (K:Fg) (n:Nat) (t:TGs):TG:=λv σ H Q=>∃ a xs,v=.ref a/\SqT K H a xs/\xs.length=n/\t xs σ H Q
theorem a5D (hc:X.calm=true) (h:PGs X es t)
  (hn:(kz es X.env).length=n:=by rfl) (hst:(kz es X.env).findIdx? (·.1)=none:=by rfl):PG X (.Tuple es k pos) (gTup X.K n t):=by
 intro c s σ H v u Q I r d;obtain⟨a,i,q,m,l,d⟩:=d;subst q;cases r;obtain⟨x,f,p,y⟩:=I.tuple m;refine assign_Tuple_tuple (I.ok.hd hc) p (by simp[hn,<- l,f.length]) hst λw j=>?_;have g:=I.kept (t':=s.toks) λb o e=>j b o (eJ (Heap.lt_size e)) e;exact h c _ σ H i _ Q g (by omega) d
noncomputable def gSub (to ti:TE) (t:TSet):TG:=λv σ H Q=>to σ H λo H1=>ti σ H1 λi H2=>t o i v H2 λH3=>Q σ H3
theorem b7r (ho:PE X o to) (hi:PE X i ti) (hs:PSet X t)
  (ha:∀ v,assign (.Subscript o i pos) X.env v=(do
   let ov <- j7 [v] (eval o X.env)
   let iv <- j7 [v,ov] (eval i X.env)
   ki pos
   j7 [v,ov,iv] (lw ov iv v)
   release [v,ov,iv] []):=by intro _;rfl):PG X (.Subscript o i pos) (gSub to ti t):=by
 intro a s σ H v u Q I r h;rw[ha];refine jJ (j3 (thn (ho a s σ H _ I h) λl n ⟨x,c,e,g,p⟩=>?_));refine jJ (j3 (thn (hi a n σ c _ e p) λm q ⟨y,f,w,b,k⟩=>?_));refine jJ (l9 (jJ (j3 (thn (hs a q σ f x y v l m u _ w g b r k) λ_ A ⟨j,z,d⟩=>?_))));exact wpAny_release ⟨σ,j,z,d⟩
noncomputable def tAsg (te:TE) (g:TG):TS:=λD σ H=>te σ H λx H1=>g x σ H1 D.nx
theorem b7s (he:PE X e te) (hg:PG X tg g) (hs:swapsWithSole [tg] e pos.line X.env=pure false:=by rfl) (hw:swappedStores [tg] e X.env=pure none:=by rfl)
  (h1:(kz [tg] X.env).map (·.2)=[assign tg X.env]:=by rfl):PS X (.Assign [tg] e pos) (tAsg te g):=by
 intro a s σ H D I h;refine wpAny_Assign_stores (thn (he a s σ H _ I h) λv c ⟨x,d,b,i,f⟩=>?_) hs hw;rw[h1];exact thn (hg a c σ d x v _ b i f) λ_ j q=>q
theorem b7t (hN:X.N.Nodup) (hi:X.N[i]?=some x) (hx:Loc X.env.scope x) (he:PE X e te) (hs:ku e (some (.Name x pos')) pos.line X.env=pure false:=by rfl) (hf:X.fn x=true\/X.env.scope.names.lookup x=some .local:=by first | exact .inl rfl | exact .inr rfl | assumption) :
  PS X (.Assign [.Name x pos'] e pos) (tAsg te (b0W i)):=by
 intro a s σ H D I h;refine wpAny_Assign_Name (thn (he a s σ H _ I h) λv j ⟨y,f,d,c,g⟩=>?_) hs;exact a9j d hN hi hx c (λk b=>⟨_,f,b,g⟩) hf
end
section
variable {X:Cx}{pos:Pos}
end
structure It where
 go:Nat->Hp->Prop
 yld:Nat->Hp->V->Hp->Prop
 stop:Nat->Hp->Prop
noncomputable def FpOk (X:Cx) (pins:List (Addr×Obj)) (H:Hp) (b:Addr):Prop:=
 H b=none/\b≠X.env.locals/\b∉X.fs/\(b∈X.ex\/X.s₀.heap.objs.size<=b)/\(∀ x c,X.env.cells.lookup x=some c->c≠b)/\∀ p∈X.pn++pins,p.1≠b
theorem Inv.fpOk (I:Inv X pins σ H s) (hb:s.heap.objs.size<=b) (hn:H' b=none):FpOk X pins H' b:=by
 refine⟨hn,g4 (eV I.lt hb),I.nofs hb,.inr (eF I.sz hb),λx c e z=>?_,λp a z=>?_⟩
 ·obtain⟨v,q⟩:=I.cell x c e;exact absurd (eV q.lt (by simp_all)) (fj _)
 ·exact absurd (eV (Heap.lt_size (I.pin p a).1) (by simp_all)) (fj _)
structure Turn (P:jO) (w:World) (K:Fg) (tg:Expr) (J:It) (fp:List Addr) (it:Addr) (tn:Nat->Heap->Prop):Prop where
 mem:it∈fp
 obj:∀ i h,tn i h->∀ b∈fp,∃ o,h.get? b=some o/\∀ v,o.data≠.cell v
 keep:∀ i h h',tn i h->(∀ b∈fp,∀ o,h.get? b=some o->h'.get? b=some o)->tn i h'
 item:∀ (X:Cx),X.prog=P->X.w=w->X.K=K->X.calm=true->∀ (i:Nat) (pins:List (Addr×Obj)) (s:Shared) (σ:St) (H:Hp) (E:Value->Shared->Prop),Inv X pins σ H s->(∀ b∈fp,FpOk X pins H b)->tn i s.heap->J.go i H ->
  wpAny (model P w) X.A (pyNext (.ref it)) (λr s1=>∃ u,r=some u /\
   wpAny (model P w) X.A (md tg (.ref it) u) (λ_ s2=>∃ x H',Inv X pins σ H' s2/\RelV x u/\J.yld i H x H'/\tn (i+1) s2.heap/\∀ b∈fp,H' b=none) E s1) E s
 done:∀ (X:Cx),X.prog=P->X.w=w->X.K=K->X.calm=true->∀ (i:Nat) (pins:List (Addr×Obj)) (s:Shared) (σ:St) (H:Hp) (E:Value->Shared->Prop),Inv X pins σ H s->(∀ b∈fp,FpOk X pins H b)->tn i s.heap->J.stop i H ->
  wpAny (model P w) X.A (pyNext (.ref it)) (λr s1=>r=none/\Inv X pins σ H s1) E s
 self:∀ (A:Around) (i:Nat) (s:Shared) (Q:Value->Shared->Prop) (E:Value->Shared->Prop),tn i s.heap->Q (.ref it) s->wpAny (model P w) A (pyIter (.ref it)) Q E s
abbrev TI:=St->Hp->(It->Hp->Prop)->Prop
noncomputable def PIE (X:Cx) (pins:List (Addr×Obj)) (σ:St) (tg:Expr) (R:It->Hp->Prop) (itv:Value) (s2:Shared):Prop:=
 ∃ (it:Addr) (fp:List Addr) (tn:Nat->Heap->Prop) (J:It) (H':Hp),itv=.ref it/\Inv X pins σ H' s2/\Turn X.prog X.w X.K tg J fp it tn/\tn 0 s2.heap/\(∀ b∈fp,FpOk X pins H' b)/\R J H'
noncomputable def PI (X:Cx) (tg iter:Expr) (wi:TI):Prop:=
 ∀ (pins:List (Addr×Obj)) (s:Shared) (σ:St) (H:Hp) (R:It->Hp->Prop),Inv X pins σ H s->wi σ H R ->
  wpAny (model X.prog X.w) X.A (eval iter X.env) (λv s1=>wpAny (model X.prog X.w) X.A (pyIter v) (PIE X pins σ tg R) X.xe s1) X.xe s
theorem b0f (ho:s.heap.get? it=some o) (hc:o.cls=.type n) (hd:o.data=.fields vs)
    (hn:["enumerate","zip","dict_itemiterator","dict_reverseitemiterator","odict_iterator","itertools.zip_longest","itertools.pairwise"].contains n=false) (hQ:Q () s):wpAny M A (md tg (.ref it) u) Q E s:=by
  cases tg<;>first
    | exact jR hQ
    | (cases u<;>first
        | exact jR hQ
        | (refine jJ (wpAny_load ho ?_)
           rw[hc,hd]
           show wpAny M A (if _=true then _ else _) Q E s
           rw[if_neg (by grind)];exact jR hQ))
noncomputable def Itl (K:Fg) (a:Addr):It:=
 ⟨λi H=>∃ xs x,SqL K H a xs/\xs[i]?=some x,λi H x H'=>H'=H/\∀ xs,SqL K H a xs->xs[i]?=some x,λi H=>∃ xs,SqL K H a xs/\xs.length<=i⟩
noncomputable def Itt (K:Fg) (a:Addr):It:=
 ⟨λi H=>∃ xs x,SqT K H a xs/\xs[i]?=some x,λi H x H'=>H'=H/\∀ xs,SqT K H a xs->xs[i]?=some x,λi H=>∃ xs,SqT K H a xs/\xs.length<=i⟩
noncomputable def Itr (lo:Int) (n:Nat):It:=⟨λi _=>i<n,λi H x H'=>H'=H/\x=.int (lo+i),λi _=>n<=i⟩
theorem b0X {P:jO}{w:World}{K:Fg}{tg:Expr}(a it:Addr):Turn P w K tg (Itl K a) [it] it (λi h=>h.IsListIter it a i) where
 mem:=by simp
 obj:=λi h st b hb=>by
  have e:b=it:=by simpa using hb
  subst e;obtain⟨o,e,c,d⟩:=st;exact⟨o,e,λv z=>by rw[d]at z;cases z⟩
 keep:=λi h h' st k=>st.at λo e=>k it (by simp) o e
 item:=by
  intro X hP hw hK hc i pins s σ H E I hf st hg;subst hP hw hK;obtain⟨xs,x,hq,hx⟩:=hg;obtain⟨its,rv,p,hz⟩:=I.list hq;obtain⟨u,hu,ru⟩:=rv.get hx;obtain⟨f0,f1,f2,f3,f4,f5⟩:=hf it (by simp);refine wpAny_pyNext_list_item st p.isList (x:=u) (by simpa using hu) λh' st' sb=>?_;have I1:Inv X pins σ H { s with heap:=h' }:=I.turned (t':=s.toks) (λb o hb e=>(sb.2 b hb).trans e) f0 f1 f3 f4 f5;obtain⟨o,e,c,d⟩:=id st';exact⟨u,rfl,b0f (s:={ s with heap:=h' }) e c d (by decide) ⟨x,H,I1,ru,⟨rfl,λys hy=>by rw[I.list_inj hy hq];exact hx⟩,st',λb hb=>(hf b hb).1⟩⟩
 done:=by
  intro X hP hw hK hc i pins s σ H E I hf st hg;subst hP hw hK;obtain⟨xs,hq,hx⟩:=hg;obtain⟨its,rv,p,hz⟩:=I.list hq;obtain⟨f0,f1,f2,f3,f4,f5⟩:=hf it (by simp);have hl:=rv.length;exact wpAny_pyNext_list_end (I.ok.hd hc) st p.isList (by simp;omega) λh' eb=>⟨rfl,I.turned (t':=s.toks) (λb o hb e=>eb b o hb e) f0 f1 f3 f4 f5⟩
 self:=λ_ _ _ _ _ st h=>wpAny_pyIter_listiter st h
theorem b0g {P:jO}{w:World}{K:Fg}{tg:Expr}(a it:Addr):Turn P w K tg (Itt K a) [it] it (λi h=>h.IsTupleIter it a i) where
 mem:=by simp
 obj:=λi h st b hb=>by
  have e:b=it:=by simpa using hb
  subst e;obtain⟨o,e,c,d⟩:=st;exact⟨o,e,λv z=>by rw[d]at z;cases z⟩
 keep:=λi h h' st k=>st.at λo e=>k it (by simp) o e
 item:=by
  intro X hP hw hK hc i pins s σ H E I hf st hg;subst hP hw hK;obtain⟨xs,x,hq,hx⟩:=hg;obtain⟨its,rv,p,hz⟩:=I.tuple hq;obtain⟨u,hu,ru⟩:=rv.get hx;obtain⟨f0,f1,f2,f3,f4,f5⟩:=hf it (by simp);refine wpAny_pyNext_tuple_item st (show s.heap.IsTuple a its.toArray from p) (x:=u) (by simpa using hu) λh' st' sb=>?_;have I1:Inv X pins σ H { s with heap:=h' }:=I.turned (t':=s.toks) (λb o hb e=>(sb.2 b hb).trans e) f0 f1 f3 f4 f5;obtain⟨o,e,c,d⟩:=id st';exact⟨u,rfl,b0f (s:={ s with heap:=h' }) e c d (by decide) ⟨x,H,I1,ru,⟨rfl,λys hy=>by rw[I.tuple_inj hy hq];exact hx⟩,st',λb hb=>(hf b hb).1⟩⟩
 done:=by
  intro X hP hw hK hc i pins s σ H E I hf st hg;subst hP hw hK;obtain⟨xs,hq,hx⟩:=hg;obtain⟨its,rv,p,hz⟩:=I.tuple hq;obtain⟨f0,f1,f2,f3,f4,f5⟩:=hf it (by simp);have hl:=rv.length;exact wpAny_pyNext_tuple_end (I.ok.hd hc) st (show s.heap.IsTuple a its.toArray from p) (by simp;omega) λh' eb=>⟨rfl,I.turned (t':=s.toks) (λb o hb e=>eb b o hb e) f0 f1 f3 f4 f5⟩
 self:=λ_ _ _ _ _ st h=>wpAny_pyIter_tupleiter st h
theorem b0h {P:jO}{w:World}{K:Fg}{tg:Expr}(it:Addr) (lo:Int) (n:Nat):Turn P w K tg (Itr lo n) [it] it (λi h=>IsRangeIter h it (lo+(i:Nat)*1) ((n:Int) - (i:Nat)) 1) where
 mem:=by simp
 obj:=λi h st b hb=>by
  have e:b=it:=by simpa using hb
  subst e;exact⟨_,st,λv z=>by
   have z':Data.fields _=Data.cell v:=z;cases z'⟩
 keep:=λi h h' st k=>k it (by simp) _ st
 item:=by
  intro X hP hw hK hc i pins s σ H E I hf st hg;subst hP hw hK;obtain⟨f0,f1,f2,f3,f4,f5⟩:=hf it (by simp);have W:=Walks.range (prog:=X.prog) (w:=X.w) (I.ok.hd hc) it lo 1 n;refine W.item i s _ _ hg st λv h' tk hv st' kk=>?_;obtain⟨t,rfl⟩:=hv;have I1:Inv X pins σ H { s with heap:=h',toks:=tk }:=I.turned (λb o hb e=>kk b o (by simpa using hb) e) f0 f1 f3 f4 f5;refine⟨_,rfl,b0f (s:={ s with heap:=h',toks:=tk }) (n:="range_iterator") st' rfl rfl (by decide) ⟨.int (lo+i),H,I1,⟨t,?_⟩,⟨rfl,rfl⟩,st',λb hb=>(hf b hb).1⟩⟩;rw[Int.mul_one]
 done:=by
  intro X hP hw hK hc i pins s σ H E I hf st hg;subst hP hw hK;obtain⟨f0,f1,f2,f3,f4,f5⟩:=hf it (by simp);exact wpAny_pyNext_range_end (I.ok.hd hc) st (by have:n<=i:=hg;omega) λh' eb=>⟨rfl,I.turned (t':=s.toks) (λb o hb e=>eb b o hb e) f0 f1 f3 f4 f5⟩
 self:=λ_ _ _ _ _ st h=>wpAny_pyIter_rangeiter st h
section
variable {X:Cx}{tg:Expr}
noncomputable def b9X (K:Fg) (tl:TE):TI:=fun σ H R=>tl σ H λx H1=>∃ a,x=.ref a/\(∃ xs,SqL K H1 a xs)/\R (Itl K a) H1
noncomputable def iTup (K:Fg) (tl:TE):TI:=fun σ H R=>tl σ H λx H1=>∃ a,x=.ref a/\(∃ xs,SqT K H1 a xs)/\R (Itt K a) H1
theorem b5G (hl:PE X l tl):PI X tg l (b9X X.K tl):=by
 intro f s σ H R I h;refine thn (hl f s σ H _ I h) λv d ⟨x,m,c,g,i⟩=>?_;obtain⟨a,e,⟨r,j⟩,q⟩:=i;subst e;cases g;obtain⟨n,u,p,t⟩:=c.list j;refine me p.isList ?_;refine⟨d.heap.objs.size,[d.heap.objs.size],_,_,m,rfl,c.kept λb o e=>Heap.get?_push_of_some _ e,b0X a _,⟨_,Heap.get?_push_size _ rfl,rfl,rfl⟩,λb k=>?_,q⟩;have e:b=d.heap.objs.size:=by simp_all
 subst e;exact c.fpOk (eh _) (c.hok.fresh (eh _))
theorem b7u (hl:PE X l tl):PI X tg l (iTup X.K tl):=by
 intro f s σ H R I h;refine thn (hl f s σ H _ I h) λv c ⟨x,m,d,k,j⟩=>?_;obtain⟨a,e,⟨u,n⟩,q⟩:=j;subst e;cases k;obtain⟨g,t,p,r⟩:=d.tuple n;refine wpAny_pyIter_tuple (p) ?_;refine⟨c.heap.objs.size,[c.heap.objs.size],_,_,m,rfl,d.kept λb o e=>Heap.get?_push_of_some _ e,b0g a _,⟨_,Heap.get?_push_size _ rfl,rfl,rfl⟩,λb i=>?_,q⟩;have e:b=c.heap.objs.size:=by simp_all
 subst e;exact d.fpOk (eh _) (d.hok.fresh (eh _))
theorem a9l {lo hi:Int}(I:Inv X pins σ H s) (h1:-(2 ^ 62)<=lo) (h2:lo<2 ^ 62) (h3:-(2 ^ 62)<=hi) (h4:hi<2 ^ 62)
  (q:R (Itr lo (hi - lo).toNat) H):wpAny (model X.prog X.w) X.A (pyIter (.ref s.heap.objs.size)) (PIE X pins σ tg R) E { s with heap:=s.heap.push { cls:=.type "range",data:=.fields #[.int lo t,.int hi u,.int 1 v] },toks:=tk }:=by
 refine wpAny_pyIter_range (IsRange.new ..) (small_one h1 h2 h3 h4) ?_;have a:Inv X pins σ H { s with heap:=s.heap.push { cls:=.type "range",data:=.fields #[.int lo t,.int hi u,.int 1 v] },toks:=tk }:=I.kept λb o e=>Heap.get?_push_of_some _ e;refine⟨(s.heap.push { cls:=.type "range",data:=.fields #[.int lo t,.int hi u,.int 1 v] }).objs.size,[(s.heap.push { cls:=.type "range",data:=.fields #[.int lo t,.int hi u,.int 1 v] }).objs.size],_,_,H,rfl,
  a.kept λb o e=>Heap.get?_push_of_some _ e,b0h _ lo (hi - lo).toNat,?_,λb d=>?_,q⟩
 ·have c:lo+((0:Nat))*1=lo:=by simp
  have f:(((hi - lo).toNat)) - ((0:Nat))=jV.Range.rangeSize lo hi 1:=by rw[rangeSize_one];split<;>omega
  rw[c,f];exact Heap.get?_push_size _ rfl
 ·have e:b=(s.heap.push { cls:=.type "range",data:=.fields #[.int lo t,.int hi u,.int 1 v] }).objs.size:=by simpa using d
  subst e;exact a.fpOk (eh _) (a.hok.fresh (eh _))
noncomputable def b7v (ta:TA):TI:=fun σ H R=>ta σ H λvs H1=>∃ j:Int,vs=[.int j]/\-(2 ^ 62)<=j/\j<2 ^ 62/\R (Itr 0 j.toNat) H1
noncomputable def b7w (ta:TA):TI:=fun σ H R=>ta σ H λvs H1=>∃ i j:Int,vs=[.int i,.int j]/\(-(2 ^ 62)<=i/\i<2 ^ 62/\-(2 ^ 62)<=j/\j<2 ^ 62)/\R (Itr i (j - i).toNat) H1
theorem b0Y (hg:Gl X "range") (hm:X.mg "range"=none) (ha:PA X [a] ta) (hs:jN [a] X.env=[(false,eval a X.env)]:=by rfl):PI X tg (.Call (.Name "range" p) [a] [] pos) (b7v ta):=by
 intro b s σ H R I h;refine Call_ (a6E I hg hm boot_range (PyProof.Rows.callWith_type1 (thn (ha pos b s σ H _ I h) λl k ⟨i,m,d,f,c⟩=>?_) hs rfl));obtain⟨j,e,c,g,q⟩:=c;subst e;cases f with
 | cons r rr=>
  cases rr;obtain⟨t,rfl⟩:=r;exact call_range_1 (a9l d (by simp) (by simp) c g (by grind))
theorem b0Z (hg:Gl X "range") (hm:X.mg "range"=none) (ha:PA X [a,b] ta) (hs:jN [a,b] X.env=[(false,eval a X.env),(false,eval b X.env)]:=by rfl) (hs2:jN [b] X.env=[(false,eval b X.env)]:=by rfl) :
  PI X tg (.Call (.Name "range" p) [a,b] [] pos) (b7w ta):=by
 intro d s σ H R I h;refine Call_ (a6E I hg hm boot_range (PyProof.Rows.callWith_type1 (thn (ha pos d s σ H _ I h) λo v ⟨w,u,l,f,c⟩=>?_) (by simp_all) (by rw[hs2];rfl)));obtain⟨i,j,e,⟨c,m,k,g⟩,q⟩:=c;subst e;cases f with
 | cons r rr=>
  cases rr with
  | cons r' rr=>
   cases rr;obtain⟨t,rfl⟩:=r;obtain⟨n,rfl⟩:=r';exact call_range_2 (a9l l c m k g q)
noncomputable def tFor (wi:TI) (g:TG) (tb:TS):TS:=λD σ H=>wi σ H λJ H1=>∃ W:Nat->Nat->St->Hp->Prop,(∃ m,W 0 m σ H1)/\∀ i m σ H,W i m σ H ->
 (J.stop i H/\D.nx σ H)\/(J.go i H/\∃ N:St->Hp->Prop,(∀ σ' H',N σ' H'->∃ m',m'<m/\W (i+1) m' σ' H')/\∀ x H',J.yld i H x H'->g x σ H' fun σ2 H2=>tb { D with nx:=N,ct:=N,bk:=D.nx } σ2 H2)
noncomputable def a9m (fp:List Addr) (h:Heap):List (Addr×Obj):=fp.filterMap λb=>(h.get? b).map λo=>(b,o)
theorem a3k (hb:b∈fp) (e:h.get? b=some o):(b,o)∈a9m fp h:=gG.mpr ⟨b,hb,by rw[e];rfl⟩
theorem b00 (hp:p∈a9m fp h):p.1∈fp/\h.get? p.1=some p.2:=by
 obtain⟨b,a,e⟩:=gG.mp hp;cases q:h.get? b with
 | none=>rw[q]at e;cases e
 | some o=>
  rw[q]at e;have c:=fu.inj e;subst c;exact⟨a,q⟩
theorem Inv.pinned (I:Inv X pins σ H s) (hf:∀ b∈fp,FpOk X pins H b) (ho:∀ b∈fp,∃ o,s.heap.get? b=some o/\∀ v,o.data≠.cell v):Inv X (pins++a9m fp s.heap) σ H s:=
 I.pins_of λp h=>(ei.mp h).elim (λz=>I.pin p (fH _ z)) λz=>by
  obtain⟨a,e⟩:=b00 z;obtain⟨g,f,i,_⟩:=hf p.1 a;obtain⟨o,c,d⟩:=ho p.1 a;rw[e]at c;cases c;exact⟨e,g,f,i,d⟩
theorem Inv.unpinned (I:Inv X (pins++pl) σ H s):Inv X pins σ H s:=I.pins_of λp a=>I.pin p (fH _ (iz _ a))
theorem b7x (hp:j0 (model X.prog X.w) X.A X.env X.xe) (hc:X.calm=true) (hi:PI X tg iter wi) (hg:PG X tg g) (hb:PSs X body tb)
  (hs:∀ x,kA iter X.env x=pure x:=by intro _;rfl):PS X (.For tg iter body [] pos) (tFor wi g tb):=by
 intro a s σ H D I h;refine wpAny_For (thn (hi a s σ H _ I h) λv s1 h1=>thn h1 λitv s2 h2=>?_) hs;obtain⟨it,z,Q,J,H2,e,I2,T,st2,S,W,⟨m0,w0⟩,F⟩:=h2;subst e;have p:∀ {H':Hp},(∀ b∈z,H' b=none)->∀ b∈z,FpOk X a H' b:=λhn b hb=>⟨hn b hb,(S b hb).2⟩;refine codeAny_forLoop_any (λn Y=>∃ i σ' H',Inv X a σ' H' Y/\Q i Y.heap/\(∀ b∈z,H' b=none)/\W i n σ' H') ?_ m0 ⟨0,σ,H2,I2,st2,λb hb=>(S b hb).1,w0⟩;rintro n U ⟨i,σ3,B,R,E,C,w3⟩;rcases F i n σ3 B w3 with ⟨stop,qn⟩ | ⟨go,N,hN,step⟩
 ·refine lf hp (thn (T.done X rfl rfl rfl hc i a U σ3 B X.xe R (p C) E stop) λr s4 ⟨G,I4⟩=>?_);subst G;exact l8 ⟨σ3,B,I4,qn⟩
 ·refine lf hp (thn (T.item X rfl rfl rfl hc i a U σ3 B X.xe R (p C) E go) λr s4 ⟨u,G,h4⟩=>?_);subst G;refine lf hp (thn h4 λ_ s5 ⟨x,H5,I5,r5,y5,y,M⟩=>?_);have V:=I5.pinned (p M) (T.obj _ _ y);refine lf hp (thn (hg _ s5 σ3 H5 x u _ V r5 (step x H5 y5)) λ_ s6 ⟨σ6,H6,I6,q6⟩=>?_);refine lf hp (thn (hb _ s6 σ6 H6 _ I6 q6) λf L l=>?_);have q:∀ {σ7:St}{j:Hp},Inv X _ σ7 j L->N σ7 j->∃ m,m<n/\∃ i σ' H',Inv X a σ' H' L/\Q i L.heap/\(∀ b∈z,H' b=none)/\W i m σ' H':=λ{σ7 j} c t=>by
   obtain⟨m',hm,w7⟩:=hN σ7 j t;refine⟨m',hm,i+1,σ7,j,c.unpinned,T.keep _ _ _ y λb hb o e=>(c.pin _ (fH _ (fH _ (a3k hb e)))).1,λb hb=>?_,w7⟩;obtain⟨o,e,d⟩:=T.obj _ _ y b hb;exact (c.pin _ (fH _ (fH _ (a3k hb e)))).2.1
  cases f with
  | next=>obtain⟨σ7,j,c,t⟩:=l;exact q c t
  | cont=>obtain⟨σ7,j,c,t⟩:=l;exact q c t
  | brk=>obtain⟨σ7,j,c,l⟩:=l;exact⟨σ7,j,c.unpinned,l⟩
  | ret v=>obtain⟨x7,σ7,j,c,r7,l⟩:=l;exact⟨x7,σ7,j,c.unpinned,r7,l⟩
end
abbrev R2:=V->V->Hp->VK->Prop
noncomputable def OpR (X:Cx) (f:Value->Value->Sem Value) (r:R2):Prop:=
 ∀ (pins:List (Addr×Obj)) (s:Shared) (σ:St) (H:Hp) (x y:V) (v u:Value) (Q:VK),Inv X pins σ H s->RelV x v->RelV y u->r x y H Q ->
  wpAny (model X.prog X.w) X.A (f v u) (EP X pins σ Q) X.xe s
noncomputable def UnR (X:Cx) (f:Value->Sem Value) (r:V->Hp->VK->Prop):Prop:=
 ∀ (pins:List (Addr×Obj)) (s:Shared) (σ:St) (H:Hp) (x:V) (v:Value) (Q:VK),Inv X pins σ H s->RelV x v->r x H Q ->
  wpAny (model X.prog X.w) X.A (f v) (EP X pins σ Q) X.xe s
noncomputable def CallR (X:Cx) (f:Value) (r:List V->Hp->VK->Prop):Prop:=
 ∀ (pins:List (Addr×Obj)) (s:Shared) (σ:St) (H:Hp) (xs:List V) (us:List Value) (Q:VK),Inv X pins σ H s->Vals xs us->r xs H Q ->
  wpAny (model X.prog X.w) X.A (call f us) (EP X pins σ Q) X.xe s
noncomputable def TruR (X:Cx) (r:V->Hp->(Bool->Hp->Prop)->Prop):Prop:=
 ∀ (pins:List (Addr×Obj)) (s:Shared) (σ:St) (H:Hp) (x:V) (v:Value) (Q:Bool->Hp->Prop),Inv X pins σ H s->RelV x v->r x H Q ->
  wpAny (model X.prog X.w) X.A (truthy v) (TP X pins σ Q) X.xe s
noncomputable def tOp (r:R2) (ta tb:TE):TE:=fun σ H Q=>ta σ H λx H1=>tb σ H1 λy H2=>r x y H2 Q
noncomputable def tUn (r:V->Hp->VK->Prop) (ta:TE):TE:=fun σ H Q=>ta σ H λx H1=>r x H1 Q
noncomputable def rI (C:Int->Int->Prop) (g:Int->Int->V):R2:=λx y H Q=>∃ i j,x=.int i/\y=.int j/\C i j/\Q (g i j) H
noncomputable def rI0 (g:Int->Int->V):R2:=λx y H Q=>∃ i j,x=.int i/\y=.int j/\Q (g i j) H
noncomputable def rU (g:Int->V):V->Hp->VK->Prop:=λx H Q=>∃ i,x=.int i/\Q (g i) H
section
variable {X:Cx}{a b c:Expr}{ta tb tc:TE}{pos:Pos}
theorem binT (ha:PE X a ta) (hb:PE X b tb) {R:V->V->Hp->Prop}(I:Inv X pins σ H s)
  (h:ta σ H λx H1=>tb σ H1 λy H2=>R x y H2) {f:Value->Value->Sem Value}
  (hf:∀ v u s2 x y H2,Inv X pins σ H2 s2->RelV x v->RelV y u->R x y H2->wpAny (model X.prog X.w) X.A (f v u) Q X.xe s2) :
  wpAny (model X.prog X.w) X.A (eval a X.env) (λv sj=>wpAny (model X.prog X.w) X.A (eval b X.env) (λu sv=>wpAny (model X.prog X.w) X.A (f v u) Q X.xe sv) X.xe sj) X.xe s:=by
 refine thn (ha pins s σ H _ I h) λv c ⟨x,j,i,g,n⟩=>?_;refine thn (hb pins c σ j _ i n) λu e ⟨y,m,d,k,l⟩=>?_;exact hf v u e x y m d g k l
theorem b9Y (ho:OpR X (jY op) r) (ha:PE X a ta) (hb:PE X b tb):PE X (.BinOp a op b pos) (tOp r ta tb):=by
 intro c s σ H Q I h;exact wpAny_BinOp (binT ha hb I h λv u i x y f e d g q=>ho c i σ f x y v u Q e d g q)
theorem b9Z (ho:UnR X (lz op) r) (ha:PE X a ta):PE X (.UnaryOp op a pos) (tUn r ta):=by
 intro b s σ H Q I h;exact UnaryOp_ (thn (ha b s σ H _ I h) λv d ⟨x,e,c,g,f⟩=>ho b d σ e x v Q c g f)
theorem opI {g:Int->Int->Int}
  (rule:∀ (i j:Int) (t u:Tok) (s:Shared) (Q:Value->Shared->Prop) (E:Value->Shared->Prop),C i j->Q (.int (g i j) s.toks) { s with toks:=s.toks+1 }->wpAny (model X.prog X.w) X.A (f (.int i t) (.int j u)) Q E s) :
  OpR X f (rI C λi j=>.int (g i j)):=by
 intro b s σ H x y v u Q I a d h;obtain⟨i,j,rfl,rfl,e,q⟩:=h;obtain⟨t,rfl⟩:=a;obtain⟨c,rfl⟩:=d;exact rule i j t c s _ _ e ⟨.int _,H,I.tok _,⟨_,rfl⟩,q⟩
theorem opI0 {g:Int->Int->Int}
  (rule:∀ (i j:Int) (t u:Tok) (s:Shared) (Q:Value->Shared->Prop) (E:Value->Shared->Prop),Q (.int (g i j) s.toks) { s with toks:=s.toks+1 }->wpAny (model X.prog X.w) X.A (f (.int i t) (.int j u)) Q E s) :
  OpR X f (rI0 λi j=>.int (g i j)):=by
 intro a s σ H x y v u Q I d b h;obtain⟨i,j,rfl,rfl,q⟩:=h;obtain⟨t,rfl⟩:=d;obtain⟨c,rfl⟩:=b;exact rule i j t c s _ _ ⟨.int _,H,I.tok _,⟨_,rfl⟩,q⟩
theorem opB0 {g:Int->Int->Bool}
  (rule:∀ (i j:Int) (t u:Tok) (s:Shared) (Q:Value->Shared->Prop) (E:Value->Shared->Prop),Q (.bool (g i j)) s->wpAny (model X.prog X.w) X.A (f (.int i t) (.int j u)) Q E s) :
  OpR X f (rI0 λi j=>.bl (g i j)):=by
 intro d s σ H x y v u Q I c a h;obtain⟨i,j,rfl,rfl,q⟩:=h;obtain⟨t,rfl⟩:=c;obtain⟨b,rfl⟩:=a;exact rule i j t b s _ _ ⟨.bl _,H,I,rfl,q⟩
noncomputable def CPow (i j:Int):Prop:=0<=j/\j<=1000000/\i.natAbs<2 ^ 64
noncomputable def CMul (i j:Int):Prop:=(-(2 ^ 64)<i/\i<2 ^ 64)\/(-(2 ^ 64)<j/\j<2 ^ 64)
theorem CMul.ok (h:CMul i j):IntMulOk i j:=by
 rcases h with ⟨h1,h2⟩ | ⟨h1,h2⟩
 ·exact .of_left (intBits_le_64 h1 h2)
 ·exact .of_right (intBits_le_64 h1 h2)
theorem op_add:OpR X (jY .Add) (rI0 λi j=>.int (i+j)):=opI0 λ_ _ _ _ _ _ _ q=>add_int q
theorem b7y:OpR X (jY .Sub) (rI0 λi j=>.int (i - j)):=opI0 λ_ _ _ _ _ _ _ q=>sub_int q
theorem b7z:OpR X (jY .Mult) (rI CMul λi j=>.int (i*j)):=opI λ_ _ _ _ _ _ _ a q=>mul_int q a.ok
theorem b7A:OpR X (jY .Mod) (rI (λ_ j=>0<j) λi j=>.int (i % j)):=opI λi j _ _ _ _ _ a q=>by
 have b:(0:Int)<j:=a;exact mod_int' (by omega) (by rw[Int.fmod_eq_emod_of_nonneg i (by omega)];exact q)
theorem b7B:OpR X (jY .Pow) (rI CPow λi j=>.int (i ^ j.toNat)):=opI λ_ _ _ _ _ _ _ a q=>pow_int_small a.1 a.2.1 a.2.2 q
theorem b5H:OpR X (lB .Add) (rI0 λi j=>.int (i+j)):=opI0 λ_ _ _ _ _ _ _ q=>iadd_int q
theorem unI {g:Int->Int}
  (rule:∀ (i:Int) (t:Tok) (s:Shared) (Q:Value->Shared->Prop) (E:Value->Shared->Prop),Q (.int (g i) s.toks) { s with toks:=s.toks+1 }->wpAny (model X.prog X.w) X.A (f (.int i t)) Q E s) :
  UnR X f (rU λi=>.int (g i)):=by
 intro b s σ H x v Q I a h;obtain⟨i,rfl,q⟩:=h;obtain⟨t,rfl⟩:=a;exact rule i t s _ _ ⟨.int _,H,I.tok _,⟨_,rfl⟩,q⟩
theorem b7C:UnR X (lz .USub) (rU λi=>.int (-i)):=unI λ_ _ _ _ _ q=>neg_int q
end
noncomputable def scal:V->V->Bool
 | .non,.non=>true | .non,.int _=>true | .int _,.non=>true | .non,.bl _=>true | .bl _,.non=>true | .non,.str _=>true | .str _,.non=>true
 | .int _,.int _=>true | .bl _,.bl _=>true | .str _,.str _=>true | .byt _,.byt _=>true
 | .int _,.str _=>true | .str _,.int _=>true | .bl _,.str _=>true | .str _,.bl _=>true
 | _,_=>false
noncomputable def rEq:R2:=λx y H Q=>scal x y=true/\Q (.bl (decide (x=y))) H
noncomputable def rNe:R2:=λx y H Q=>scal x y=true/\Q (.bl (!decide (x=y))) H
theorem b01:decide (V.int i=V.int j)=(i==j):=by
 rw[fI];simp
theorem b02:decide (V.bl i=V.bl j)=(i==j):=by
 rw[fI];simp
theorem b03:decide (V.str i=V.str j)=(i==j):=by
 rw[fI];simp
theorem b04:decide (V.byt i=V.byt j)=(i.toList==j.toList):=by
 rw[fI];cases i;cases j;simp
section
variable {X:Cx}{a b c:Expr}{ta tb tc:TE}{pos:Pos}
theorem a0A (I:Inv X pins σ H s) (q:Q (.bl k) H) (e:k=k'):EP X pins σ Q (.bool k') s:=by
 subst e;exact⟨.bl k,H,I,rfl,q⟩
theorem op_eq:OpR X (jT .Eq) rEq:=by
 intro pins s σ H x y v u Q I rx ry h;obtain⟨hs,q⟩:=h;cases x with
 | non=>
  cases rx;cases y with
  | non=>cases ry;exact PySem.EqNone.eq_none_none (a0A I q (by simp))
  | bl j=>cases ry;exact PySem.EqNone.eq_none_bool (a0A I q (by simp))
  | int j=>obtain⟨t',rfl⟩:=ry;exact PySem.EqNone.eq_none_int (a0A I q (by simp))
  | str j=>obtain⟨t',rfl⟩:=ry;exact PySem.EqNone.eq_none_str (a0A I q (by simp))
  | _=>exact absurd (show false=true from hs) eX
 | bl i=>
  cases rx;cases y with
  | non=>cases ry;exact PySem.EqNone.eq_bool_none (a0A I q (by simp))
  | bl j=>cases ry;exact eq_bool (a0A I q b02)
  | str j=>obtain⟨t',rfl⟩:=ry;exact PySem.EqMixed.eq_bool_str (a0A I q (by simp))
  | _=>exact absurd (show false=true from hs) eX
 | int i=>
  obtain⟨t,rfl⟩:=rx;cases y with
  | non=>cases ry;exact PySem.EqNone.eq_int_none (a0A I q (by simp))
  | int j=>obtain⟨t',rfl⟩:=ry;exact eq_int (a0A I q b01)
  | str j=>obtain⟨t',rfl⟩:=ry;exact PySem.EqMixed.eq_int_str (a0A I q (by simp))
  | _=>exact absurd (show false=true from hs) eX
 | str i=>
  obtain⟨t,rfl⟩:=rx;cases y with
  | non=>cases ry;exact PySem.EqNone.eq_str_none (a0A I q (by simp))
  | bl j=>cases ry;exact PySem.EqMixed.eq_str_bool (a0A I q (by simp))
  | int j=>obtain⟨t',rfl⟩:=ry;exact PySem.EqMixed.eq_str_int (a0A I q (by simp))
  | str j=>obtain⟨t',rfl⟩:=ry;exact eq_str (a0A I q b03)
  | _=>exact absurd (show false=true from hs) eX
 | byt i=>
  obtain⟨t,rfl⟩:=rx;cases y with
  | byt j=>obtain⟨t',rfl⟩:=ry;exact PySem.W.eq_bytes (a0A I q b04)
  | _=>exact absurd (show false=true from hs) eX
 | _=>cases y<;>exact absurd (show false=true from hs) eX
theorem op_ne:OpR X (jT .NotEq) rNe:=by
 intro e s σ H x y v u Q I d a h;obtain⟨c,q⟩:=h;cases x with
 | non=>
  cases d;cases y with
  | non=>cases a;exact PySem.EqNone.ne_none_none (a0A I q (by simp))
  | bl j=>cases a;exact PySem.EqNone.ne_none_bool (a0A I q (by simp))
  | int j=>obtain⟨b,rfl⟩:=a;exact PySem.EqNone.ne_none_int (a0A I q (by simp))
  | str j=>obtain⟨b,rfl⟩:=a;exact PySem.EqNone.ne_none_str (a0A I q (by simp))
  | _=>exact absurd (show false=true from c) eX
 | bl i=>
  cases d;cases y with
  | non=>cases a;exact PySem.EqNone.ne_bool_none (a0A I q (by simp))
  | bl j=>cases a;exact ne_bool (a0A I q (congrArg not b02))
  | str j=>obtain⟨b,rfl⟩:=a;exact PySem.EqMixed.ne_bool_str (a0A I q (by simp))
  | _=>exact absurd (show false=true from c) eX
 | int i=>
  obtain⟨t,rfl⟩:=d;cases y with
  | non=>cases a;exact PySem.EqNone.ne_int_none (a0A I q (by simp))
  | int j=>obtain⟨b,rfl⟩:=a;exact ne_int (a0A I q (congrArg not b01))
  | str j=>obtain⟨b,rfl⟩:=a;exact PySem.EqMixed.ne_int_str (a0A I q (by simp))
  | _=>exact absurd (show false=true from c) eX
 | str i=>
  obtain⟨t,rfl⟩:=d;cases y with
  | non=>cases a;exact PySem.EqNone.ne_str_none (a0A I q (by simp))
  | bl j=>cases a;exact PySem.EqMixed.ne_str_bool (a0A I q (by simp))
  | int j=>obtain⟨b,rfl⟩:=a;exact PySem.EqMixed.ne_str_int (a0A I q (by simp))
  | str j=>obtain⟨b,rfl⟩:=a;exact ne_str (a0A I q (congrArg not b03))
  | _=>exact absurd (show false=true from c) eX
 | byt i=>
  obtain⟨t,rfl⟩:=d;cases y with
  | byt j=>obtain⟨b,rfl⟩:=a;exact PySem.W.ne_bytes (a0A I q (congrArg not b04))
  | _=>exact absurd (show false=true from c) eX
 | _=>cases y<;>exact absurd (show false=true from c) eX
theorem b90:OpR X (jT .Lt) (rI0 λi j=>.bl (decide (i<j))):=opB0 λ_ _ _ _ _ _ _ q=>lt_int q
theorem b91:OpR X (jT .LtE) (rI0 λi j=>.bl (decide (i<=j))):=opB0 λ_ _ _ _ _ _ _ q=>le_int q
theorem b92:OpR X (jT .Gt) (rI0 λi j=>.bl (decide (j<i))):=opB0 λ_ _ _ _ _ _ _ q=>gt_int q
theorem b05:OpR X (jT .Lt) (λx y H Q=>∃ i j,x=.str i/\y=.str j/\Q (.bl (decide (i.cps.toList<j.cps.toList))) H):=by
 intro b s σ H x y v u Q I a c h;obtain⟨i,j,rfl,rfl,q⟩:=h;obtain⟨t,rfl⟩:=a;obtain⟨d,rfl⟩:=c;exact lt_str (a0A I q rfl)
theorem op_isN:OpR X (jT .Is) (λx y H Q=>y=.non/\Q (.bl (decide (x=.non))) H):=by
 intro b s σ H x y v u Q I a c h;obtain⟨rfl,q⟩:=h;cases c;refine is_none_gen (a0A I q ?_);cases x<;>first
  | (cases a;rfl)
  | (obtain⟨t,rfl⟩:=a;rfl)
theorem b5I:OpR X (jT .IsNot) (λx y H Q=>y=.non/\Q (.bl (!decide (x=.non))) H):=by
 intro c s σ H x y v u Q I a b h;obtain⟨rfl,q⟩:=h;cases b;refine isnot_none_gen (a0A I q ?_);cases x<;>first
  | (cases a;rfl)
  | (obtain⟨t,rfl⟩:=a;rfl)
theorem op_notin_str:OpR X (jT .NotIn) (λx y H Q=>∃ i j,x=.str i/\y=.str j/\Q (.bl (!(!(jV.Str.occurrences j i 0 j.length 1).isEmpty))) H):=by
 intro c s σ H x y v u Q I b a h;obtain⟨i,j,rfl,rfl,q⟩:=h;obtain⟨t,rfl⟩:=b;obtain⟨d,rfl⟩:=a;exact notIn_str (a0A I q rfl)
theorem OpR.or (h:OpR X f r) (h':OpR X f r'):OpR X f (λx y H Q=>r x y H Q\/r' x y H Q):=by
 intro a s σ H x y v u Q I c b q;rcases q with q | q
 ·exact h a s σ H x y v u Q I c b q
 ·exact h' a s σ H x y v u Q I c b q
theorem a0B (b:Expr) (h:op≠.In:=by decide) (h2:op≠.NotIn:=by decide):kI op b=false:=by
 have a:(op==CmpOp.In)=false:=by grind
 have c:(op==CmpOp.NotIn)=false:=by grind
 cases b<;>simp[kI,a,c]
theorem b5J (ho:OpR X (jT op) r) (ha:PE X a ta) (hb:PE X b tb) (hm:kI op b=false):PE X (.Compare a [op] [b] pos) (tOp r ta tb):=by
 intro c s σ H Q I h;exact wpAny_Compare1 (binT ha hb I h λv u d x y f g i e q=>ho c d σ f x y v u Q g i e q) hm
noncomputable def b93 (t:TE):TT:=fun σ H Q=>t σ H λx H'=>∃ k,x=.bl k/\Q k H'
theorem b5K (ho:OpR X (jT op) r) (ha:PE X a ta) (hb:PE X b tb) (hm:kI op b=false):PT X (.Compare a [op] [b] pos) (b93 (tOp r ta tb)):=by
 intro d s σ H Q I h;refine wpAny_isTrue_Compare1 (thn (ha d s σ H _ I h) λv l ⟨x,w,f,n,B⟩=>thn (hb d l σ w _ f B) λu t ⟨y,m,i,j,A⟩=>
  thn (ho d t σ m x y v u _ i n j A) λc C ⟨z,q,p,o,k,e,g⟩=>?_) hm
 subst e;cases o;exact kx ⟨q,p,g⟩
noncomputable def b4H (r r':R2) (ta tb tc:TE):TE:=fun σ H Q=>ta σ H λx H1=>tb σ H1 λy H2=>r x y H2 λz H3=>∃ k,z=.bl k /\
 (if k=true then tc σ H3 λw' H4=>r' y w' H4 Q else Q (.bl false) H3)
theorem b3j (ho:OpR X (jT op) r) (ho':OpR X (jT op') r') (ha:PE X a ta) (hb:PE X b tb) (hc:PE X c tc)
  (hm:lastMarks [op,op'] [b,c]=false:=by with_unfolding_all rfl):PE X (.Compare a [op,op'] [b,c] pos) (b4H r r' ta tb tc):=by
 intro f s σ H Q I h;refine Compare_chain (thn (ha f s σ H _ I h) λv m ⟨x,t,J,p,N⟩=>chain_link (thn (hb f m σ t _ J N) λu o ⟨y,C,F,j,L⟩=>
  thn (ho f o σ C x y v u _ F p j L) λd A ⟨z,i,g,n,k,e,l⟩=>?_)) hm
 subst e;cases n;refine kx ?_;cases k with
 | false=>exact ite_ff ⟨.bl false,i,g,rfl,l⟩
 | true=>exact ite_tt (chain_last (thn (hc f A σ i _ g l) λM w ⟨D,q,B,G,E⟩=>ho' f w σ q y D u M Q B j G E))
noncomputable def TruV (K:Fg) (x:V) (H:Hp) (k:Bool):Prop:=
 match x with
 | .non=>k=false
 | .bl b=>k=b
 | .int i=>k=(i != 0)
 | .str y=>y.length<=jK/\k=((y.length:Int) != 0)
 | .byt y=>y.size<=jK/\k=((y.size:Int) != 0)
 | .ref p=>(∃ xs,SqL K H p xs/\k=!xs.isEmpty)\/(∃ xs,SqT K H p xs/\k=!xs.isEmpty)\/∃ kvs,H p=some (.dK kvs)/\k=!kvs.isEmpty
 | _=>False
theorem b0i {κ:Type}{kvs:List (κ×V)}{vs:List (κ×Value)}(r:KV kvs vs):(!vs.isEmpty)=!kvs.isEmpty:=by
 cases r<;>rfl
theorem a6F (r:Vals xs its):(!its.toArray.isEmpty)=!xs.isEmpty:=by
 cases r<;>simp
theorem a7D:(jK:Nat)<2 ^ 63:=by rw[jZ];decide
theorem b7D:TruR X (λx H Q=>∃ k,TruV X.K x H k/\Q k H):=by
 intro u s σ H x v Q I c h;obtain⟨k,e,q⟩:=h;have z:=a7D;have A:jK=16777216:=jZ;cases x with
 | non=>
  cases c;have a:k=false:=e;subst a;exact truthy_none ⟨H,I,q⟩
 | bl b=>
  cases c;have a:k=b:=e;subst a;exact kx ⟨H,I,q⟩
 | int i=>
  obtain⟨t,rfl⟩:=c;have a:k=(i != 0):=e;subst a;exact PySem.P.truthy_int ⟨H,I,q⟩
 | str y=>
  obtain⟨t,rfl⟩:=c;obtain⟨o,a⟩:=e;subst a;exact PySem.P.truthy_str (by omega) ⟨H,I.tok _,q⟩
 | byt y=>
  obtain⟨t,rfl⟩:=c;obtain⟨o,a⟩:y.size<=jK/\k=((y.size:Int) != 0):=e;subst a;exact PySem.W.truthy_bytes (by omega) ⟨H,I.tok _,q⟩
 | ref p=>
  cases c;have a:=e;rcases a with ⟨xs,hx,a⟩ | ⟨xs,hx,a⟩ | ⟨kvs,hx,a⟩
  ·subst a;obtain⟨l,r,g,j⟩:=I.list hx;have d:=r.length;exact wpAny_truthy_list g.isList (by simp only[fv];omega) ⟨H,I.tok _,by rw[a6F r];exact q⟩
  ·subst a;obtain⟨l,r,g,j⟩:=I.tuple hx;have d:=r.length;exact truthy_tuple g (by simp only[fv];omega) ⟨H,I.tok _,by rw[a6F r];exact q⟩
  ·subst a;obtain⟨j,n,f,r,m⟩:=I.hok p _ hx;have d:kvs.length=f.length:=Paired.length r;exact wpAny_truthy_dict n m (by omega) ⟨H,I.tok _,by rw[b0i r];exact q⟩
 | _=>exact (show False from e).elim
theorem b3k (ha:PE X a ta) (he:∀ whole,isTrue a X.env whole=(do let v <- whole;ki a.pos;j7 [v] (truthy v))) :
  PT X a (fun σ H Q=>ta σ H λx H'=>∃ k,TruV X.K x H' k/\Q k H'):=by
 intro b s σ H Q I h;exact isTrue_plain (thn (ha b s σ H _ I h) λv e ⟨x,f,d,g,c⟩=>b7D b e σ f x v Q d g c) (he _)
theorem op_add_str:OpR X (jY .Add) (λx y H Q=>∃ i j,x=.str i/\y=.str j/\i.length+j.length<=jK/\Q (.str (i++j)) H):=by
 intro b s σ H x y v u Q I a d h;obtain⟨i,j,rfl,rfl,e,q⟩:=h;obtain⟨t,rfl⟩:=a;obtain⟨c,rfl⟩:=d;exact add_str (λc f=>⟨.str (i++j),H,I.tok _,⟨_,rfl⟩,q⟩) e
theorem a3M (r:Vals [x] us):∃ u,us=[u]/\RelV x u:=by
 cases r with
 | cons r1 r2=>cases r2;exact⟨_,rfl,r1⟩
theorem b0j (r:Vals [x,y] us):∃ u w',us=[u,w']/\RelV x u/\RelV y w':=by
 cases r with
 | cons r1 r2=>
  cases r2 with
  | cons r3 r4=>cases r4;exact⟨_,_,rfl,r1,r3⟩
theorem b06 (hc:X.calm=true):CallR X (.builtin "max") (λxs H Q=>∃ i j,xs=[.int i,.int j]/\Q (.int (if j > i then j else i)) H):=by
 intro a s σ H d e Q I r h;obtain⟨i,j,rfl,q⟩:=h;obtain⟨u,f,rfl,⟨t,rfl⟩,⟨b,rfl⟩⟩:=b0j r;refine max_two_ints (I.ok.hd hc) λg c k=>⟨_,H,I.kept k,?_,q⟩
 by_cases hj:j > i
 ·rw[if_pos hj,if_pos hj];exact⟨_,rfl⟩
 ·rw[if_neg hj,if_neg hj];exact⟨_,rfl⟩
theorem b07 (hc:X.calm=true):CallR X (.builtin "min") (λxs H Q=>∃ i j,xs=[.int i,.int j]/\Q (.int (if j<i then j else i)) H):=by
 intro a s σ H d f Q I r h;obtain⟨i,j,rfl,q⟩:=h;obtain⟨u,g,rfl,⟨t,rfl⟩,⟨c,rfl⟩⟩:=b0j r;refine min_two_ints (I.ok.hd hc) λb e k=>⟨_,H,I.kept k,?_,q⟩
 by_cases hj:j<i
 ·rw[if_pos hj,if_pos hj];exact⟨_,rfl⟩
 ·rw[if_neg hj,if_neg hj];exact⟨_,rfl⟩
noncomputable def LenV (K:Fg) (x:V) (H:Hp) (n:Nat):Prop:=
 match x with
 | .str y=>y.length<=jK/\n=y.length
 | .byt y=>y.size<=jK/\n=y.size
 | .ref p=>(∃ xs,SqL K H p xs/\n=xs.length)\/∃ xs,SqT K H p xs/\n=xs.length
 | _=>False
theorem b3l:CallR X (.builtin "len") (λxs H Q=>∃ x n,xs=[x]/\LenV X.K x H n/\Q (.int n) H):=by
 intro j s σ H a v Q I r h;obtain⟨x,n,rfl,e,q⟩:=h;obtain⟨u,rfl,d⟩:=a3M r;have o:=jZ;cases x with
 | str y=>
  obtain⟨t,rfl⟩:=d;obtain⟨k,b⟩:=e;subst b;exact len_str (by omega) ⟨.int _,H,I.tok _,⟨_,rfl⟩,q⟩
 | byt y=>
  obtain⟨t,rfl⟩:=d;obtain⟨k,b⟩:=e;subst b;exact PySem.W.len_bytes (by omega) ⟨.int _,H,I.tok _,⟨_,rfl⟩,q⟩
 | ref p=>
  cases d;have b:=e;rcases b with ⟨a,hx,b⟩ | ⟨a,hx,b⟩
  ·subst b;obtain⟨i,g,f,l⟩:=I.list hx;have c:=g.length;exact Calls.call_len_list f.isList (by grind) ⟨.int a.length,H,I.tok _,⟨_,by simp only[fv];rw[c]⟩,q⟩
  ·subst b;obtain⟨i,g,f,l⟩:=I.tuple hx;have c:=g.length;exact len_tuple f (by grind) ⟨.int a.length,H,I.tok _,⟨_,by simp only[fv];rw[c]⟩,q⟩
 | _=>exact (e).elim
end
structure ObjM (h:Heap) (x dx C:Addr) (mA:Str->Option Value):Prop where
 obj:h.get? x=some (PySem.W.instObj C dx)
 ns:h.Ns1 dx mA
 ne:dx≠x
theorem b08 {h:Heap}(n:h.Ns1 dx mA):∃ od,h.get? dx=some od/\∀ name,PySem.W.lookIn name od=some (mA name):=by
 obtain⟨o,d,m,l,j,f,_,g⟩:=n;refine⟨o,l,λc=>?_⟩;have e:=g c;unfold nsFind findBy at e;rw[<- Array.find?_toList]at e;unfold PySem.W.lookIn;rw[j];dsimp only
 split
 ·simp_all
 ·rename_i q
  rw[q]at e;have a:d.toList.any (·.refKey)=false:=by
   rw[List.any_eq_false];intro y k;obtain⟨z,t,b⟩:=f y (i7.mp k);simp[mf.refKey,b]
  have i:¬ d.toList.any (·.refKey)=true:=by rw[a];exact eX
  rw[if_neg i];exact congrArg some e
theorem ObjM.look (I:ObjM h x dx C mA):∃ od,PySem.W.InstAt h x (PySem.W.instObj C dx) C (some od)/\∀ name,PySem.W.lookIn name od=some (mA name):=
 let ⟨od,ho,hl⟩:=b08 I.ns
 ⟨od,⟨I.obj,rfl,rfl,ho⟩,hl⟩
section
variable {prog:jO}{w:World}{A:Around}{E:Value->Shared->Prop}{s:Shared}{K:Fg}{x dx C f:Addr}{mA:Str->Option Value}{name:Str}{v:Value}
theorem b5L (X:K.In s.heap) (I:ObjM s.heap x dx C mA) (hg:PySem.W.plainGet K C name=true) (hh:PySem.W.hasDictIn K C=true)
  (ha:PySem.W.findIn K (.ref C) name=some none) (hv:mA name=some v) (hv':PySem.W.handedIn v=true) (h:Q v { s with toks:=s.toks+1 }) :
  wpAny (model prog w) A (getAttr (.ref x) name expr) Q E s:=by
 obtain⟨b,J,a⟩:=I.look;exact PySem.W.get_value X J (PySem.W.plainGet_of hg).1 (PySem.W.findObj_own hh ha rfl (by simp_all)) hv' h
theorem b3m (X:K.In s.heap) (I:ObjM s.heap x dx C mA) (hg:PySem.W.plainGet K C name=true)
  (hf:PySem.W.findIn K (.ref C) name=some (some (.ref f))) (ht:PySem.W.isFn K (.ref f)=true) (hv:mA name=none) (h:Q (.ref f,[.ref x]) s) :
  wpAny (model prog w) A (kB (.ref x) name pl) Q E s:=by
 obtain⟨b,J,a⟩:=I.look;exact PySem.W.method_fn X J (PySem.W.plainGet_of hg).1 (PySem.W.plainGet_of hg).2 hf (beq_iff_eq.mp ht) (by show (PySem.W.lookIn name b).map _=some false;rw[a,hv];rfl) h
theorem b5M (X:K.In s.heap) (I:ObjM s.heap x dx C mA)
  (hs:PySem.W.findIn K (.ref C) "__setattr__"=some (some (.builtin "object.__setattr__"))) (hp:PySem.W.plainOver K C=true) (ht:PySem.W.takerIn K C name=some none) (hh:PySem.W.hasDictIn K C=true)
  (hw:PySem.Within mA ns) (hsz:ns.length<=jK)
  (h:∀ h',ObjM h' x dx C (λy=>if y=name then some v else mA y)->Heap.SameBut dx s.heap h'->Q () { s with heap:=h',toks:=s.toks+2 }) :
  wpAny (model prog w) A (setAttr (.ref x) name v) Q E s:=by
 obtain⟨p,J,n⟩:=I.look;refine PySem.W.set_plain X J hs (PySem.W.osa_open X J hp ht λb=>?_);obtain⟨o,j,i⟩:=PySem.W.any_some hh;have k:=I.obj;refine jJ (jR (jJ (jJ (wpAny_loadPart k (jJ (PySem.W.Looks.here (PySem.W.looks_clsIn X j) ?_))))));rw[i];refine jR (jJ (jR (jJ ?_)));refine wpAny_nsSet1 I.ns λt d c=>?_;obtain⟨q,l,m,f,g,e⟩:=d.count (PySem.Within.cons name v hw);refine jJ (wpAny_lookBehind f (by rw[g];exact pastItsLine_dict (eF e (by grind))) ?_);exact jR (h _ ⟨(c.2 _ (Ne.symm I.ne)).trans I.obj,d,I.ne⟩ c)
theorem b3n (X:K.In s.heap) (hm:PySem.W.makesIn K C=true)
  (hi:PySem.W.findIn K (.ref C) "__init__"=some (some (.ref f))) (hf:PySem.W.typeIn K (.ref f)=some (.type "function"))
  (h:kj (model prog w) (A.under (.builtin "type.__call__" ⟨.ref C::vs,kw⟩)) (.call (.ref f) ⟨.ref (s.heap.objs.size+1)::vs,kw⟩) (PySem.W.InitBack (s.heap.objs.size+1) R)
   { s with heap:=(s.heap.push PySem.W.emptyDict).push (PySem.W.instObj C s.heap.objs.size) }) :
  kj (model prog w) A (.call (.ref C) ⟨vs,kw⟩) R s:=PySem.W.make_core (PySem.W.makes_of X hm) (PySem.W.looks_findIn X hi) (λa=>PySem.W.bind_fn X a hf) (.inl rfl) h
end
noncomputable def putF (f:Str) (v:V):List (Str×V)->List (Str×V)
 | []=>[(f,v)]
 | (g,x)::r=>if g=f then (g,v)::r else (g,x)::putF f v r
theorem a5E (f g:Str) (v:V):∀ fs:List (Str×V),(putF f v fs).lookup g=if g=f then some v else fs.lookup g
 | []=>by
  show g5 g [_]=_
  by_cases h:g=f
  ·simp_all
  ·simp_all
 | (k,x)::r=>by
  have b:=a5E f g v r;rw[show putF f v _=(if k=f then _::r else (k,x)::putF f v r) from rfl]
  by_cases hk:k=f
  ·rw[if_pos hk]
   by_cases h:g=k
   ·simp_all
   ·have a:=beq_eq_false_iff_ne.mpr h;simp only[g5,a,if_neg (λe:g=f=>h (e.trans hk.symm))]
  ·rw[if_neg hk]
   by_cases h:g=k
   ·simp_all
   ·have a:=beq_eq_false_iff_ne.mpr h;simp only[g5,a];exact b
theorem a5F (f:Str) (v:V):∀ fs:List (Str×V),f∈(putF f v fs).map (·.1)/\∀ g,g∈fs.map (·.1)->g∈(putF f v fs).map (·.1)
 | []=>⟨by simp[putF],λg h=>by simp at h⟩
 | (k,x)::r=>by
  obtain⟨a,b⟩:=a5F f v r;rw[show putF f v _=(if k=f then _::r else (k,x)::putF f v r) from rfl]
  by_cases hk:k=f
  ·grind
  ·rw[if_neg hk];refine⟨?_,λg h=>?_⟩
   ·rw[eG];exact fB _ a
   ·rw[eG]at h ⊢;rcases eC.mp h with e | e
    ·exact eC.mpr (.inl e)
    ·exact fB _ (b g e)
theorem a5G (f:Str) (v:V):∀ fs:List (Str×V),(putF f v fs).length<=fs.length+1
 | []=>by simp[putF]
 | (k,x)::r=>by
  have a:=a5G f v r;rw[show putF f v _=(if k=f then _::r else (k,x)::putF f v r) from rfl]
  by_cases hk:k=f
  ·grind
  ·grind
theorem RelO.some_of (r:RelO (some v) o):∃ u,o=some u/\RelV v u:=by
 cases o with
 | none=>exact (r).elim
 | some u=>exact⟨u,rfl,r⟩
theorem RelO.none_of (r:RelO none o):o=none:=by
 cases o with
 | none=>rfl
 | some u=>exact (r).elim
theorem b09 (r:RelV v u):PySem.W.handedIn u=true:=by
 cases v with
 | non=>cases (r);rfl
 | bl b=>cases (r);rfl
 | int i=>obtain⟨t,e⟩:=(r);cases e;rfl
 | str x=>obtain⟨t,e⟩:=(r);cases e;rfl
 | byt b=>obtain⟨t,e⟩:=(r);cases e;rfl
 | flt b=>obtain⟨t,e⟩:=(r);cases e;rfl
 | ref a=>cases (r);rfl
 | ty n=>cases (r);rfl
section
variable {P:jO}{w:World}{H H':Hp}{h h':Heap}{a C dx:Addr}{fs fs':List (Str×V)}
theorem a61 (hok:HOk P w H h) (e:H a=some (.ins C dx fs)):∃ mA,ObjM h a dx C mA/\(∀ f,RelO (fs.lookup f) (mA f))/\PySem.Within mA (fs.map (·.1))/\fs.length<=1000/\H dx=some (.own a):=by
 obtain⟨d,z,c,g,b,n,r,q⟩:=(hok a _ e);exact⟨b,⟨g,n,c⟩,r,q,z,d⟩
end
structure Cls (K:Fg) (C:Addr):Prop where
 pg:PySem.W.plainGet K C Str.empty=true
 hd:PySem.W.hasDictIn K C=true
 po:PySem.W.plainOver K C=true
 sa:PySem.W.findIn K (.ref C) "__setattr__"=some (some (.builtin "object.__setattr__"))
theorem Cls.get {K:Fg}(c:Cls K C) (f:Str):PySem.W.plainGet K C f=true:=c.pg
noncomputable def NoAttr (K:Fg) (C:Addr) (f:Str):Prop:=PySem.W.findIn K (.ref C) f=some none
theorem NoAttr.taker {K:Fg}(n:NoAttr K C f):PySem.W.takerIn K C f=some none:=by
 unfold PySem.W.takerIn;rw[n]
 rfl
structure Meth (K:Fg) (C:Addr) (m:Str) (f:Addr):Prop where
 at_:PySem.W.findIn K (.ref C) m=some (some (.ref f))
 fn:PySem.W.isFn K (.ref f)=true
 kp:PySem.W.keepIn K (.ref f)=true
section
variable {X:Cx}{pins:List (Addr×Obj)}{σ:St}{H:Hp}{s:Shared}{a C dx:Addr}{fs:List (Str×V)}{f:Str}{v:V}{A:Around}{E:Value->Shared->Prop}
theorem a6G (I:Inv X pins σ H s) (e:H a=some (.ins C dx fs)) (c:Cls X.K C) (n:NoAttr X.K C f) (l:fs.lookup f=some v)
  (h:∀ u s',Inv X pins σ H s'->RelV v u->Q u s'):wpAny (model X.prog X.w) A (getAttr (.ref a) f b) Q E s:=by
 obtain⟨i,O,r,_,_,_⟩:=a61 I.hok e;obtain⟨u,g,d⟩:=RelO.some_of (by rw[<- l];exact r f);exact b5L I.kIn O (c.get f) c.hd n g (b09 d) (h u _ (I.tok _) d)
theorem a6H (I:Inv X pins σ H s) (e:H a=some (.ins C dx fs)) (c:Cls X.K C) (k:Meth X.K C m g) (l:fs.lookup m=none)
  (h:Q (.ref g,[.ref a]) s):wpAny (model X.prog X.w) A (kB (.ref a) m pl) Q E s:=by
 obtain⟨b,O,r,_,_,_⟩:=a61 I.hok e;have d:=RelO.none_of (by rw[<- l];exact r m);exact b3m I.kIn O (c.get m) k.at_ k.fn d h
theorem a6I (I:Inv X pins σ H s) (e:H a=some (.ins C dx fs)) (c:Cls X.K C) (n:NoAttr X.K C f) (hl:fs.length<1000) (ry:RelV y u)
  (h:∀ s',Inv X pins σ (upd H a (.ins C dx (putF f y fs))) s'->Q () s'):wpAny (model X.prog X.w) A (setAttr (.ref a) f u) Q E s:=by
 obtain⟨i,O,r,j,_,k⟩:=a61 I.hok e;have v:(fs.map (·.1)).length<=sizeLine:=by rw[dY,jZ];omega
 refine b5M I.kIn O c.sa c.po n.taker c.hd j v λm d l=>h _ ?_;have t:∃ o,m.get? dx=some o:=let ⟨o,_,_,e',_⟩:=d.ns;⟨o,e'⟩
 refine I.write (by rw[e];exact True.intro) (.inr k) (λb q p z=>(l.2 b p).trans z) t ?_;refine⟨by rw[a0r O.ne];exact k,?_,O.ne,d.obj,_,d.ns,λg=>?_,λg B=>?_⟩
 ·have:=a5G f y fs;omega
 ·show RelO _ _
  rw[a5E]
  by_cases q:g=f
  ·rw[if_pos q,if_pos q];exact ry
  ·simp_all
 ·by_cases q:g=f
  ·rw[q];exact (a5F f y fs).1
  ·refine (a5F f y fs).2 g (j g λz=>B ?_)
   show (if g=f then some u else i g)=none
   rw[if_neg q];exact z
theorem Inv.made (I:Inv X pins σ H s):Inv X pins σ (upd (upd H s.heap.objs.size (.own (s.heap.objs.size+1))) (s.heap.objs.size+1) (.ins C s.heap.objs.size []))
  { s with heap:=(s.heap.push PySem.W.emptyDict).push (PySem.W.instObj C s.heap.objs.size) }:=by
 have c:(s.heap.push PySem.W.emptyDict).get? s.heap.objs.size=some PySem.W.emptyDict:=Heap.get?_push_size s.heap rfl;have i:((s.heap.push PySem.W.emptyDict).push (PySem.W.instObj C s.heap.objs.size)).get? (s.heap.objs.size+1)=some (PySem.W.instObj C s.heap.objs.size):=by
  have:=Heap.get?_push_size (s.heap.push PySem.W.emptyDict) (o:=PySem.W.instObj C s.heap.objs.size) rfl
  rwa [Heap.size_push]at this
 have g:(s.heap.push PySem.W.emptyDict).Ns s.heap.objs.size _:=⟨PySem.W.emptyDict,#[],_,c,rfl,(λe h=>absurd h (by simp)),λ_=>rfl⟩;have j:=I.laid (o:=.own (s.heap.objs.size+1)) (t':=s.toks) (λb u q=>Heap.get?_push_of_some _ q) (eh _) ⟨_,c⟩;refine j.laid (t':=s.toks) (λb u q=>Heap.get?_push_of_some _ q) (gn (Heap.size_push _ _)) ?_;have d:s.heap.objs.size≠s.heap.objs.size+1:=eJ (i8 _);refine⟨by rw[a0r d,a0s],fg _,d,i,λ_=>none,(Heap.Ns1.of_empty g).at λo q=>Heap.get?_push_of_some _ q,λ_=>True.intro,λy f=>absurd rfl f⟩
theorem b5N (hb:kC e f env (eval e env)=eval e env)
  (h:wpAny (model prog w) A (eval e env) (λo sj=>wpAny (model prog w) A (getAttr o f true) Q E sj) E s):wpAny (model prog w) A (eval (.Attribute e f pos) env) Q E s:=
 Attribute_any_ h (by rw[arm_eval_Attribute,hb])
end
noncomputable def tFld (K:Fg) (ta:TE) (f:Str):TE:=fun σ H Q=>ta σ H λx H1=>∃ a C dx fs v,x=.ref a/\H1 a=some (.ins C dx fs)/\Cls K C/\NoAttr K C f/\fs.lookup f=some v/\Q v H1
noncomputable def sFld (K:Fg) (ta tv:TE) (f:Str):TS:=λD σ H=>tv σ H λy H1=>ta σ H1 λx H2=>∃ a C dx fs,x=.ref a/\H2 a=some (.ins C dx fs)/\Cls K C/\NoAttr K C f/\fs.length<1000 /\
 D.nx σ (upd H2 a (.ins C dx (putF f y fs)))
noncomputable def InOp (X:Cx) (op:Operator) (rd:V->V->Hp->VK->Prop):Prop:=
 ∀ (pins:List (Addr×Obj)) (s:Shared) (σ:St) (H:Hp) (x y:V) (u v:Value) (Q:VK),Inv X pins σ H s->RelV x u->RelV y v->rd x y H Q->wpAny (model X.prog X.w) X.A (lB op u v) (EP X pins σ Q) X.xe s
noncomputable def b5O (K:Fg) (ta tv:TE) (rd:V->V->Hp->VK->Prop) (f:Str):TS:=λD σ H=>ta σ H λx H1=>∃ a C dx fs v,x=.ref a/\H1 a=some (.ins C dx fs)/\Cls K C/\NoAttr K C f/\fs.lookup f=some v /\
 tv σ H1 λy H2=>rd v y H2 λz H3=>∃ dx' fs',H3 a=some (.ins C dx' fs')/\fs'.length<1000/\D.nx σ (upd H3 a (.ins C dx' (putF f z fs')))
section
variable {X:Cx}{o e value:Expr}{f:Str}{pos pos' tpos:Pos}{ta tv:TE}
theorem b7E (he:PE X e ta) (hb:kC e f X.env (eval e X.env)=eval e X.env):PE X (.Attribute e f pos) (tFld X.K ta f):=by
 intro b s σ H Q I h;refine b5N hb (thn (he b s σ H _ I h) λu p ⟨x,d,i,j,a,C,r,w,v,g,m,c,n,l,q⟩=>?_);subst g;obtain rfl:u=Value.ref a:=j;exact a6G i m c n l λy t o k=>⟨v,d,o,k,q⟩
theorem b7F (ha:PE X o ta) (hv:PE X value tv) (hs:ku value (some (.Attribute o f pos')) pos.line X.env=pure false):PS X (.Assign [.Attribute o f pos'] value pos) (sFld X.K ta tv f):=by
 intro b s σ H D I h;refine plainObj_wpAny_Assign_Attribute (thn (hv b s σ H _ I h) λu g ⟨y,d,k,v,q⟩=>thn (ha b g σ d _ k q) λj A ⟨x,B,r,p,a,C,z,E,i,t,c,n,l,m⟩=>?_) hs;subst i;obtain rfl:j=Value.ref a:=p;exact a6I r t c n l v λw e=>⟨σ,_,e,m⟩
theorem b1a (ha:PE X o ta) (hv:PE X value tv) (hop:InOp X op rd):PS X (.AugAssign (.Attribute o f tpos) op value pos) (b5O X.K ta tv rd f):=by
 intro b s σ H D I h;refine wpAny_AugAssign_AttributeAny (thn (ha b s σ H _ I h) λj T ⟨x,e,k,M,a,C,dx,fs,v,B,p,c,n,l,q⟩=>?_);subst B;obtain rfl:j=Value.ref a:=M;refine a6G k p c n l λu J r m=>thn (hv b J σ e _ r q) λi E ⟨y,t,g,w,L⟩=>thn (hop b E σ t v y u i _ g m w L) λU Y ⟨z,H3,N,A,R,S,d,Q,F⟩=>?_;exact a6I N d c n Q A λW G=>⟨σ,_,G,F⟩
end
section
variable {X:Cx}{pins:List (Addr×Obj)}{σ:St}{H:Hp}{s:Shared}{A:Around}{E:Value->Shared->Prop}{Q:Value->Shared->Prop}{c:Value}{b:Bool}
inductive TyOf (K:Fg) (H:Hp):V->Value->Prop where
 | non:TyOf K H .non (.type "NoneType")
 | bl (x:Bool):TyOf K H (.bl x) (.type "bool")
 | int (i:Int):TyOf K H (.int i) (.type "int")
 | str (x:Str):TyOf K H (.str x) (.type "str")
 | flt (x:UInt64):TyOf K H (.flt x) (.type "float")
 | lst {a:Addr} {xs:List V} (e:H a=some (.lst xs)):TyOf K H (.ref a) (.type "list")
 | frz {a:Addr} {o:Obj} {xs:List V} (e:H a=some (.frz o (.lst xs))):TyOf K H (.ref a) (.type "list")
 | tup {a:Addr} {xs:List V} (e:H a=some (.tup xs)):TyOf K H (.ref a) (.type "tuple")
 | dK {a:Addr} {kvs:List (Key×V)} (e:H a=some (.dK kvs)):TyOf K H (.ref a) (.type "dict")
 | dT {a:Addr} {kvs:List (List Key×V)} (e:H a=some (.dT kvs)):TyOf K H (.ref a) (.type "dict")
 | ins {a C dx:Addr} {fs:List (Str×V)} (e:H a=some (.ins C dx fs)) (cl:Cls K C) (ha:PySem.W.findIn K (.ref C) "__class__"=some (some (.builtin "object.__class__")))
   (hn:PySem.W.specialIn K (.builtin "object.__class__") "__get__"=some (some (.builtin "getset_descriptor.__get__"))) (htk:PySem.W.takesIn K (.builtin "object.__class__")=some true)
   (hm:PySem.W.mroIn K C (.type "object")=some true):TyOf K H (.ref a) (.ref C)
theorem a7E (I:Inv X pins σ H s) (rx:RelV x u) (ty:TyOf X.K H x t) (e:PySem.W.kitOne X.K t c=some b) (h:∀ tk,Q (.bool b) { s with toks:=tk }) :
  wpAny (model X.prog X.w) A (call (.builtin "isinstance") [u,c]) Q E s:=by
 cases ty with
 | non=>cases (rx);exact PySem.W.kia_one PySem.W.kitx_none I.kIn True.intro e (λz=>nomatch z) h
 | bl y=>cases (rx);exact PySem.W.kia_one PySem.W.kitx_bool I.kIn True.intro e (λz=>nomatch z) h
 | int i=>obtain⟨t,q⟩:=(rx);cases q;exact PySem.W.kia_one PySem.W.kitx_int I.kIn True.intro e (λz=>nomatch z) h
 | str y=>obtain⟨t,q⟩:=(rx);cases q;exact PySem.W.kia_one PySem.W.kitx_str I.kIn True.intro e (λz=>nomatch z) h
 | flt y=>obtain⟨t,q⟩:=(rx);cases q;exact PySem.W.kia_one PySem.W.kitx_float I.kIn True.intro e (λz=>nomatch z) h
 | @lst a f ea=>
  cases (rx);obtain⟨_,_,n,_,d⟩:=(I.hok a _ ea);exact PySem.W.kia_one PySem.W.kitx_list I.kIn ⟨_,d,rfl⟩ e (λz=>nomatch z) h
 | @frz a ob f ea=>
  cases (rx);obtain⟨_,_,_,n,_,d⟩:=(I.hok a _ ea);exact PySem.W.kia_one PySem.W.kitx_list I.kIn ⟨_,d,rfl⟩ e (λz=>nomatch z) h
 | @tup a f ea=>
  cases (rx);obtain⟨_,_,_,p⟩:=(I.hok a _ ea);obtain⟨o,d,g,_⟩:=p;exact PySem.W.kia_one PySem.W.kitx_tuple I.kIn ⟨o,d,g⟩ e (λz=>nomatch z) h
 | @dK a kvs ea=>
  cases (rx);obtain⟨_,_,l,_,p⟩:=(I.hok a _ ea);obtain⟨o,j,k,d,g,_⟩:=p;exact PySem.W.kia_one PySem.W.kitx_dict I.kIn ⟨o,d,g.1⟩ e (λz=>nomatch z) h
 | @dT a kvs ea=>
  cases (rx);obtain⟨_,_,f,_,o,j,k,d,g,_⟩:=(I.hok a _ ea);exact PySem.W.kia_one PySem.W.kitx_dict I.kIn ⟨o,d,g.1⟩ e (λz=>nomatch z) h
 | @ins a C dx fs ea cl ha hn htk hm=>
  cases (rx);obtain⟨r,O,_⟩:=a61 I.hok ea;obtain⟨m,J,_⟩:=O.look;exact PySem.W.kia_one (PySem.W.kitx_own (cl.get _) cl.hd ha hn htk hm) I.kIn J e (λz=>nomatch z) h
end
structure Room (k:Nat) (A:Around):Prop where
 hd:A.handled=none
 dp:A.depth+3*k+5<recursionLimit
 un:A.units+16*k+200<cLine
theorem Room.mono (r:Room k A) (h:j<=k):Room j A:=⟨r.hd,by have:=r.dp;omega,by have:=r.un;omega⟩
theorem Room.deeper (r:Room (k+1) A) (env:Env):Room k (A.deeper env):=
 ⟨r.hd,by have:=r.dp;show A.depth+1+3*k+5<_;omega,by have:=r.un;show A.units+3+16*k+200<_;omega⟩
theorem Room.in1 (r:Room (k+1) A):Room k A.in1:=
 ⟨r.hd,by have:=r.dp;show A.depth+3*k+5<_;omega,by have:=r.un;show A.units+1+16*k+200<_;omega⟩
theorem b0k {A:Around}:(A.under (.builtin "type.__call__" ⟨.ref C::us,kw⟩)).depth=A.depth+1:=rfl
theorem b0l {A:Around}:(A.under (.builtin "type.__call__" ⟨.ref C::us,kw⟩)).units=A.units+1:=rfl
theorem Room.make (r:Room (k+1) A) (C:Addr) (us:List Value) (kw:List (Str×Value)):Room k (A.under (.builtin "type.__call__" ⟨.ref C::us,kw⟩)):=
 ⟨r.hd,by have:=r.dp;rw[b0k];omega,by have:=r.un;rw[b0l];omega⟩
theorem Room.depth (r:Room k A):A.depth<recursionLimit:=by have:=r.dp;omega
theorem Room.units (r:Room k A):A.units+64<cLine:=by have:=r.un;omega
noncomputable def tNil:TA:=λ_ H Q=>Q [] H
noncomputable def b94 (ta:TE) (tr:TA):TA:=fun σ H Q=>ta σ H λx H1=>tr σ H1 λxs H2=>Q (x::xs) H2
section
variable {X:Cx}{e:Expr}{es:List Expr}{te:TE}{t:TA}{pos:Pos}
theorem b7G:PA X [] tNil:=λ_ _ _ _ H Q I h=>Calls.spliced_nil ⟨[],H,I,.nil,h⟩
theorem b5P (ha:PE X e te) (hr:PA X es t) (hs:jN (e::es) X.env=(false,eval e X.env)::jN es X.env:=by rfl):PA X (e::es) (b94 te t):=by
 intro b a s σ H Q I h;rw[hs];refine Calls.spliced_cons (thn (ha a s σ H _ I h) λu j ⟨x,d,k,c,g⟩=>?_);exact thn (hr b a j σ d _ k g) λp o ⟨i,f,l,m,n⟩=>⟨x::i,f,l,.cons c m,n⟩
noncomputable def tTup (t:TA):TE:=fun σ H Q=>t σ H λxs H1=>xs.length<=jK/\∀ p,H1 p=none->Q (.ref p) (upd H1 p (.tup xs))
noncomputable def tLst (t:TA):TE:=fun σ H Q=>t σ H λxs H1=>xs.length<=jK/\∀ p,H1 p=none->Q (.ref p) (upd H1 p (.lst xs))
theorem b7H (h:PA X es t):PE X (.Tuple es x1 pos) (tTup t):=by
 intro c s σ H Q I i;refine wpAny_Tuple_spliced (thn (h pos c s σ H _ I i) λk a ⟨g,d,f,r,z,q⟩=>⟨by rw[<- r.length];exact z,?_⟩);have j:=f.hok.fresh (eh _);refine⟨.ref a.heap.objs.size,upd d a.heap.objs.size _,f.laid (λb u e=>Heap.get?_push_of_some _ e) (eh _) ?_,rfl,q _ j⟩;exact⟨z,k,r,⟨_,Heap.get?_push_size _ rfl,rfl,_,rfl⟩⟩
theorem b7I (h:PA X es t):PE X (.List es pos) (tLst t):=by
 intro c s σ H Q I j;refine wpAny_List_spliced (thn (h pos c s σ H _ I j) λi a ⟨k,d,f,r,z,q⟩=>⟨by rw[<- r.length];exact z,?_⟩);have g:=f.hok.fresh (eh _);refine⟨.ref a.heap.objs.size,upd d a.heap.objs.size _,f.laid (λb u e=>Heap.get?_push_of_some _ e) (eh _) ?_,rfl,q _ g⟩;exact⟨z,i,0,r,Heap.get?_push_size _ rfl⟩
end
abbrev Sp:=List V->Hp->VK->XK->Prop
abbrev CXT:=List Env->Hp->Shared->XK->Value->Shared->Prop
structure Env0 (P:jO) (w:World) (K:Fg) (mg:Str->Option Value) (base:Heap) (A:Around) (outer:List Env) (s:Shared) (H:Hp):Prop where
 frames:A.frames=some outer
 mod:Mod K mg base
 bs:∀ b o,base.get? b=some o->s.heap.get? b=some o/\H b=none
 bsz:base.objs.size<=s.heap.objs.size
 funs:s.heap.FunFrames base outer
 frf:∀ b∈frs outer,H b=none
 hok:HOk P w H s.heap
 bare:kh s.gens
noncomputable def CE (outer:List Env) (P:jO) (w:World) (H:Hp) (s:Shared) (Q:VK) (u:Value) (s':Shared):Prop:=
 ∃ v H',s'.os=s.os/\kh s'.gens/\Un (frs outer) [] H H' s.heap s'.heap/\HOk P w H' s'.heap/\RelV v u/\Q v H'
noncomputable def CR (CX:CXT) (outer:List Env) (P:jO) (w:World) (H:Hp) (s:Shared) (Q:VK) (E:XK) (r:Result) (s':Shared):Prop:=
 match r with
 | .ok (.ret u)=>CE outer P w H s Q u s'
 | .ok _=>False
 | .error e=>CX outer H s E e s'
structure FnOk (P:jO) (w:World) (K:Fg) (mg:Str->Option Value) (base:Heap) (CX:CXT) (k:Nat) (f:Addr) (fd:jQ) (ps:List Str) (sp:Sp):Prop where
 len:∀ vs H Q E,sp vs H Q E->vs.length=ps.length
 run:∀ (A:Around) (outer:List Env) (s:Shared) (H:Hp) (args:Args) (us:List Value) (vs:List V) (Q:VK) (E:XK),Room k A->Env0 P w K mg base A outer s H->kJ s fd args (ps.zip us)->Vals vs us->sp vs H Q E ->
  kj (model P w) A (.call (.ref f) args) (CR CX outer P w H s Q E) s
theorem FnOk.mono {K:Fg}(F:FnOk P w K mg base CX j f fd ps sp) (h:j<=k) :
  FnOk P w K mg base CX k f fd ps sp:=⟨F.len,λA a s H b c e Q E d=>F.run A a s H b c e Q E (d.mono h)⟩
theorem FnOk.imp {K:Fg}(F:FnOk P w K mg base CX k f fd ps sp)
  (h:∀ vs H Q E,sp' vs H Q E->sp vs H Q E):FnOk P w K mg base CX k f fd ps sp':=
 ⟨λb H Q E q=>F.len b H Q E (h _ _ _ _ q),λA a s H c d b Q E j i g l e=>F.run A a s H c d b Q E j i g l (h _ _ _ _ e)⟩
theorem Env0.make {K:Fg}(e:Env0 P w K mg base A outer s H) (C:Addr) (us:List Value) (kw:List (Str×Value)) :
  Env0 P w K mg base (A.under (.builtin "type.__call__" ⟨.ref C::us,kw⟩)) outer s H:=⟨by first | exact e.frames | (simpa using e.frames),e.mod,e.bs,e.bsz,e.funs,e.frf,e.hok,e.bare⟩
theorem Env0.in1 {K:Fg}(e:Env0 P w K mg base A outer s H) :
  Env0 P w K mg base A.in1 outer s H:=⟨e.frames,e.mod,e.bs,e.bsz,e.funs,e.frf,e.hok,e.bare⟩
section
variable {X:Cx}{pins:List (Addr×Obj)}{σ:St}{H:Hp}{s s':Shared}
theorem Inv.env0 (I:Inv X pins σ H s):Env0 X.prog X.w X.K X.mg X.base X.A X.stack s H:=
 ⟨I.ok.frames,I.ok.mod,I.bs,eF I.ok.bsz I.sz,I.stack,I.stkFree,I.hok,I.bare⟩
theorem Inv.after (I:Inv X pins σ H s) (h:CE X.stack X.prog X.w H s Q u s'):EP X pins σ Q u s':=by
 obtain⟨v,H',j,a,f,c,r,q⟩:=h;obtain⟨i,g,d,t,e⟩:=s';obtain rfl:e=s.os:=j;exact⟨v,H',I.call f c a (λb z=>absurd z (by simp)),r,q⟩
end
noncomputable def b95 (sp:Sp) (dvs:List V) (E:XK) (t:TA):TE:=fun σ H Q=>t σ H λvs H1=>sp (vs++dvs) H1 Q E
noncomputable def b5Q (C:Addr) (m:Str) (sp:Sp) (dvs:List V) (E:XK) (ta:TE) (t:TA):TE:=fun σ H Q=>ta σ H λx H1=>∃ a dx fs,x=.ref a/\H1 a=some (.ins C dx fs)/\fs.lookup m=none /\
 t σ H1 λvs H2=>sp (x::(vs++dvs)) H2 Q E
noncomputable def b96 (C:Addr) (sp:Sp) (dvs:List V) (E:XK) (t:TA):TE:=fun σ H Q=>t σ H λvs H1=>∀ x dx,H1 x=none->H1 dx=none->dx≠x ->
 sp (.ref x::(vs++dvs)) (upd (upd H1 dx (.own x)) x (.ins C dx [])) (λv H2=>v=.non/\Q (.ref x) H2) E
noncomputable def Binds (K:Fg) (fd:jQ) (ps:List Str) (ds:List Value):Prop:=
 ∀ (s:Shared) (us:List Value),K.In s.heap->(us++ds).length=ps.length->kJ s fd ⟨us,[]⟩ (ps.zip (us++ds))
theorem Binds.all {K:Fg}(h:∀ us:List Value,us.length=ps.length->bindArgs fd ⟨us,[]⟩=pure (ps.zip us)):Binds K fd ps []:=λs b _ a=>by
 rw[eR]at a ⊢;exact .of_eq (h b a)
noncomputable def a2N (CX:CXT) (X:Cx) (E:XK):Prop:=∀ (pins:List (Addr×Obj)) (σ:St) (H:Hp) (s:Shared) (e:Value) (s':Shared),Inv X pins σ H s->CX X.stack H s E e s'->X.xe e s'
section
variable {X:Cx}{CX:CXT}{k:Nat}{f C:Addr}{fd:jQ}{ps:List Str}{sp:Sp}{dvs:List V}{ds:List Value}{E:XK}{x m:Str}{p pos apos:Pos}{e o:Expr}{es:List Expr}{ta:TE}{t:TA}
theorem b1b (F:FnOk X.prog X.w X.K X.mg X.base CX k f fd ps sp) (hr:Room k X.A) (hb:Binds X.K fd ps ds) (hd:Vals dvs ds) (hx:a2N CX X E)
  (I:Inv X pins σ H s) (r:Vals vs us) (h:sp (vs++dvs) H Q E):wpAny (model X.prog X.w) X.A (call (.ref f) us) (EP X pins σ Q) X.xe s:=by
 have b:=r.append hd;have d:(us++ds).length=ps.length:=by rw[<- b.length];exact F.len _ _ _ _ h
 refine wpAny_call (lC (F.run X.A X.stack s H ⟨us,[]⟩ (us++ds) _ Q E hr I.env0 (hb s us I.kIn d) b h) λr c a=>?_);cases r with
 | error e=>exact hx pins σ H s e c I a
 | ok fl=>
  cases fl with
  | ret u=>exact I.after a
  | next=>exact er a
  | brk=>exact er a
  | cont=>exact er a
theorem b1c (F:FnOk X.prog X.w X.K X.mg X.base CX k f fd ps sp) (hr:Room k X.A) (hg:Gl X x) (hm:X.mg x=some (.ref f)) (hk:PySem.W.keepIn X.K (.ref f)=true) (hb:Binds X.K fd ps ds) (hd:Vals dvs ds) (hx:a2N CX X E)
  (ha:PA X (e::es) t) (hdb:(x==("__debug__":Str))=false:=by decide) (he:jN (e::es) X.env=(false,eval e X.env)::jN es X.env:=by rfl) (hpl:(backTo pos (jN es X.env)).any (·.1)=false:=by rfl) :
  PE X (.Call (.Name x p) (e::es) [] pos) (b95 sp dvs E t):=by
 intro a s σ H Q I h;refine lE (a60 I hg hm ?_ hdb);refine PySem.W.callWith_K I.ok.mod.kin hk (thn (ha pos a s σ H _ I h) λi d ⟨c,g,b,r,q⟩=>⟨b.kIn,?_⟩) he hpl;exact b1b F hr hb hd hx b r q
theorem b1d (he:PE X o ta) (c:Cls X.K C) (hm:Meth X.K C m f) (F:FnOk X.prog X.w X.K X.mg X.base CX k f fd ps sp) (hr:Room k X.A) (hb:Binds X.K fd ps ds) (hd:Vals dvs ds) (hx:a2N CX X E) (ha:PA X (e::es) t)
  (hst:jN (e::es) X.env=(false,eval e X.env)::jN es X.env:=by rfl) (hpl:(backTo pos (jN es X.env)).any (·.1)=false:=by rfl)
  (ht:eval (.Call (.Attribute o m apos) (e::es) [] pos) X.env=(do
   let ov <- eval o X.env
   ki apos.atName
   let (f,first) <- j7 [ov] (kB ov m pl)
   lj pos f first (backTo pos (jN (e::es) X.env)) (kD pos (kE [] X.env))):=by rfl) :
  PE X (.Call (.Attribute o m apos) (e::es) [] pos) (b5Q C m sp dvs E ta t):=by
 intro b s σ H Q I h;refine PySem.W.methodCall_KW (thn (he b s σ H _ I h) λu z ⟨x,p,i,n,a,dx,fs,v,y,l,q⟩=>?_) ht;subst v;obtain rfl:u=Value.ref a:=n;refine a6H i y c hm l ?_;refine PySem.W.callWith_K I.ok.mod.kin hm.kp (thn (ha pos b z σ p _ i q) λus s2 ⟨vs,H2,g,r,B⟩=>⟨g.kIn,?_⟩) hst hpl;exact b1b (vs:=.ref a::vs) F hr hb hd hx g (.cons rfl r) B
theorem b3o (he:PE X o ta) (c:Cls X.K C) (hm:Meth X.K C m f) (F:FnOk X.prog X.w X.K X.mg X.base CX k f fd ps sp) (hr:Room k X.A) (hb:Binds X.K fd ps ds) (hd:Vals dvs ds) (hx:a2N CX X E)
  (ht:eval (.Call (.Attribute o m apos) [] [] pos) X.env=(do
   let ov <- eval o X.env
   ki apos.atName
   let (f,first) <- j7 [ov] (kB ov m pl)
   lj pos f first (backTo pos (jN [] X.env)) (kD pos (kE [] X.env))):=by rfl) :
  PE X (.Call (.Attribute o m apos) [] [] pos) (b5Q C m sp dvs E ta tNil):=by
 intro b s σ H Q I h;refine PySem.W.methodCall_KW (thn (he b s σ H _ I h) λu j ⟨x,r,d,i,a,p,n,g,e,l,q⟩=>?_) ht;subst g;obtain rfl:u=Value.ref a:=i;refine a6H d e c hm l ?_;exact PySem.W.callWith_K0 d.kIn hm.kp (b1b (vs:=[.ref a]) F hr hb hd hx d (.cons rfl .nil) q)
structure Mk (K:Fg) (C f:Addr):Prop where
 makes:PySem.W.makesIn K C=true
 init:PySem.W.findIn K (.ref C) "__init__"=some (some (.ref f))
 fn:PySem.W.isFn K (.ref f)=true
 kp:PySem.W.keepIn K (.ref C)=true
theorem b3p (M:Mk X.K C f) (F:FnOk X.prog X.w X.K X.mg X.base CX k f fd ps sp) (hr:Room (k+1) X.A) (hb:Binds X.K fd ps ds) (hd:Vals dvs ds)
  (hx:a2N CX X E) (I:Inv X pins σ H s) (r:Vals vs us)
  (h:∀ x dx,H x=none->H dx=none->dx≠x->sp (.ref x::(vs++dvs)) (upd (upd H dx (.own x)) x (.ins C dx [])) (λv H2=>v=.non/\Q (.ref x) H2) E) :
  wpAny (model X.prog X.w) X.A (call (.ref C) us) (EP X pins σ Q) X.xe s:=by
 have d:=h _ s.heap.objs.size (I.hok.fresh (gH _)) (I.hok.fresh (eh _)) (eJ (i8 _));have b:=Inv.made (C:=C) I;have c:Vals (V.ref (s.heap.objs.size+1)::_) _:=.cons rfl (r.append hd);have g:(Value.ref (s.heap.objs.size+1)::us++ds).length=ps.length:=by
  have e:=c.length;rw[F.len _ _ _ _ d]at e;exact e.symm
 refine wpAny_call (b3n I.kIn M.makes M.init (beq_iff_eq.mp M.fn) (lC (F.run _ X.stack _ _ ⟨Value.ref (s.heap.objs.size+1)::us,[]⟩ _ _ _ E (hr.make C us [])
  (b.env0.make C us []) (hb _ _ b.kIn g) c d) λr m a=>?_))
 cases r with
 | error e=>exact hx pins σ _ _ e m b a
 | ok fl=>
  cases fl with
  | ret u=>
   obtain⟨v,H',I3,j,l,i⟩:=b.after a;subst l;exact⟨j,⟨V.ref (s.heap.objs.size+1),H',I3,rfl,i⟩⟩
  | next=>exact er a
  | brk=>exact er a
  | cont=>exact er a
theorem b3q (M:Mk X.K C f) (F:FnOk X.prog X.w X.K X.mg X.base CX k f fd ps sp) (hr:Room (k+1) X.A) (hg:Gl X x) (hm:X.mg x=some (.ref C)) (hb:Binds X.K fd ps ds) (hd:Vals dvs ds) (hx:a2N CX X E)
  (hdb:(x==("__debug__":Str))=false:=by decide):PE X (.Call (.Name x p) [] [] pos) (b96 C sp dvs E tNil):=by
 intro a s σ H Q I h;refine lE (a60 I hg hm ?_ hdb);exact PySem.W.callWith_K0 I.kIn M.kp (b3p M F hr hb hd hx I .nil h)
end
section
variable {X:Cx}{CX:CXT}{k:Nat}{f C:Addr}{fd:jQ}{ps ks:List Str}{sp:Sp}{E:XK}{x m:Str}{p pos apos kpos:Pos}{e o:Expr}{es:List Expr}{kws:List lm}{te ta:TE}{t tk:TA}{nm:Option Str}
variable {g:List Value->List Value->List Value}{gV:List V->List V->List V}
end
structure FnScope (N P:List Str) (sc:Scope):Prop where
 kind:sc.kind=.function
 co:sc.isCoroutine=false
 gen:sc.isGenerator=false
 nd:N.Nodup
 pre:N.take P.length=P
 par:∀ x∈P,sc.names.lookup x=some .local\/sc.names.lookup x=some .cell
 nofree:∀ y∈sc.names,y.2≠.free
theorem a7F {kindOf:Str->Option jU}:∀ {binds:List (Str×Value)}{m:Str->Option Value},(∀ v,(x,v)∉binds)->bindL kindOf binds m x=m x
 | [],_,_=>rfl
 | (n,v)::r,m,h=>by
  unfold bindL;rw[a7F λw a=>h w (fB _ a)]
  split
  ·have:x≠n:=by rintro rfl;exact h v fA
   simp[this]
  ·rfl
theorem a7G {kindOf:Str->Option jU}:∀ {binds:List (Str×Value)}{m:Str->Option Value},(∀ v,(x,v)∉binds)->bindC kindOf binds m x=m x
 | [],_,_=>rfl
 | (n,v)::r,m,h=>by
  unfold bindC;rw[a7G λw a=>h w (fB _ a)]
  split
  ·rfl
  ·have:x≠n:=by rintro rfl;exact h v fA
   simp[this]
theorem a7H {kindOf:Str->Option jU}:∀ {P:List Str}{vs:List Value}{i:Nat}{m:Str->Option Value},P.Nodup->P[i]?=some x->vs[i]?=some v->kindOf x=some .local ->
  bindL kindOf (P.zip vs) m x=some v
 | [],_,_,_,_,h,_,_=>by simp at h
 | _::_,[],_,_,_,_,h,_=>by simp at h
 | p::P,w::vs,0,m,nd,h1,h2,hk=>by
  simp at h1 h2;subst h1;subst h2
  show bindL kindOf (_::P.zip vs) m p=_
  unfold bindL;rw[a7F λv a=>(gb.mp nd).1 (iB a).1,if_pos hk];simp
 | p::P,w::vs,i+1,m,nd,h1,h2,hk=>by
  unfold bindL;exact a7H (gb.mp nd).2 (by simpa using h1) (by simp_all) hk
theorem a7I {kindOf:Str->Option jU}:∀ {P:List Str}{vs:List Value}{i:Nat}{m:Str->Option Value},P.Nodup->P[i]?=some x->vs[i]?=some v->kindOf x≠some .local ->
  bindC kindOf (P.zip vs) m x=some v
 | [],_,_,_,_,h,_,_=>by simp at h
 | _::_,[],_,_,_,_,h,_=>by simp at h
 | p::P,w::vs,0,m,nd,h1,h2,hk=>by
  simp at h1 h2;subst h1;subst h2
  show bindC kindOf (_::P.zip vs) m p=_
  unfold bindC;rw[a7G λv a=>(gb.mp nd).1 (iB a).1,if_neg hk];simp
 | p::P,w::vs,i+1,m,nd,h1,h2,hk=>by
  unfold bindC;exact a7I (gb.mp nd).2 (by simpa using h1) (by simp_all) hk
noncomputable def start (N:List Str) (vs:List V):St:=vs.map some++eM (N.length - vs.length) none
noncomputable def cxOf (CX:CXT) (P:jO) (w:World) (K:Fg) (mg:Str->Option Value) (base:Heap) (N:List Str) (qual:Str) (scope:Scope) (f:Addr) (cd:Value) (A:Around) (outer:List Env) (s:Shared) (H:Hp) (E:XK):Cx where
 prog:=P
 w:=w
 K:=K
 mg:=mg
 base:=base
 A:=A.deeper (envOfC qual scope s.heap.objs.size f cd)
 N:=N
 s₀:=s
 H₀:=H
 env:=envOfC qual scope s.heap.objs.size f cd
 outer:=outer
 stack:=envOfC qual scope s.heap.objs.size f cd::outer
 ex:=[]
 calm:=true
 fn:=λ_=>true
 pn:=[]
 xe:=λe s'=>wpAny (model P w) (A.deeper (envOfC qual scope s.heap.objs.size f cd)) (lF (envOfC qual scope s.heap.objs.size f cd) e) (λ_ s''=>CX outer H s E e s'') (λe' s''=>CX outer H s E e' s'') s'
theorem a5q {sc:Scope}(h:sc.names.lookup x=some .cell):∃ c,(jW n sc.names []).lookup x=some c:=by
 have q:=PySem.W.cellsFrom_some sc.names n [] (.inl h);exact Option.isSome_iff_exists.mp q
theorem b1e {K:Fg}
  (S:FnScope N ps scope) (hd:A.handled=none) (e0:Env0 P w K mg base A outer s H) (hl:vs.length=ps.length) (r:Vals vs us)
  (x:InCallC s s.heap.objs.size (bindL (envOfC qual scope s.heap.objs.size f cd).kindOf (ps.zip us) λ_=>none) (jW (s.heap.objs.size+1) scope.names []) (bindC (envOfC qual scope s.heap.objs.size f cd).kindOf (ps.zip us) λ_=>none) s1) :
  Inv (cxOf CX P w K mg base N qual scope f cd A outer s H E) [] (start N vs) H s1:=by
 have G:ps.length<=N.length:=by have:=congrArg fh S.pre;rw[eK]at this;omega
 obtain⟨m,J,rfl,C⟩:=x.done;have l:∀ b:Addr,b∉(cxOf CX P w K mg base N qual scope f cd A outer s H E).ex:=λb z=>absurd (show b∈([]) from z) (by simp);refine⟨⟨e0.mod,S.kind,rfl,rfl,eh _,λy z c m d=>?_,λy g=>?_,λy c _ h=>?_,λ_=>hd,Around.frames_deeper e0.frames,.inr ⟨rfl,rfl⟩,λb z=>absurd z (l b),e0.bs,e0.bsz,λb _ _=>l b,λb z=>absurd z (l b),e0.funs,e0.frf⟩,
  rfl,e0.bare,Un.kept C,⟨_,x.toInCall.ns,λi y v m d I=>?_⟩,λy c h=>⟨_,x.cell y c h⟩,e0.hok.fresh (eh _),λy c h=>?_,λp j=>absurd (show p∈([]) from j) (by simp),e0.hok.kept C,?_⟩
 ·exact name_of_addr x.apart (PySem.mem_of_lookup m) (PySem.mem_of_lookup d)
 ·have g:=g;rcases g with g | g
  ·exact a5q g
  ·exact absurd rfl (S.nofree _ (PySem.mem_of_lookup g))
 ·exact ga (x.above y c (PySem.mem_of_lookup h))
 ·have o:i<vs.length:=by
   unfold start at d
   by_cases o:i<vs.length
   ·exact o
   ·rw[gI (by simp_all)]at d;rw[List.getElem?_replicate]at d
    split at d<;>cases d
  have F:vs[i]?=some v:=by
   unfold start at d;rw[gJ (by simpa using o),eE]at d;cases e:vs[i]? with
   | none=>rw[e]at d;cases d
   | some a=>rw[e]at d;cases d;rfl
  obtain⟨u,B,D⟩:=r.get F;have j:ps[i]?=some y:=by
   rw[<- S.pre,List.getElem?_take_of_lt (by omega)];exact m
  have t:ps.Nodup:=by rw[<- S.pre];exact S.nd.sublist (g6 _ _)
  refine⟨u,D,?_⟩;rcases S.par y (eP j) with k | k
  ·exact .inl ⟨k,a7H t j B k⟩
  ·obtain⟨c,e⟩:=a5q k;refine .inr ⟨.inl k,c,e,?_⟩;have q:=x.cell y c e;rw[a7I t j B (by show scope.names.lookup y≠_;rw[k];decide)]at q;exact q
 ·exact e0.hok.fresh (ga (x.above y c (PySem.mem_of_lookup h)))
 ·unfold start
  show _=N.length
  rw[eB,dY,List.length_replicate];omega
theorem b7J {K:Fg}{dV kV doc pm cdv ct oc:Value}
 (lk:K.lookup f=some ⟨oc,od,.func (PySem.W.fnOf name qual params body scope dV kV doc pm an cdv ct),osl⟩) (hcd:PySem.W.codeIn K cdv qual=true) (S:FnScope N ps scope)
    (len:∀ vs H Q E,sp vs H Q E->vs.length=ps.length)
    (hbody:∀ (A:Around) (outer:List Env) (s:Shared) (H:Hp) (vs:List V) (Q:VK) (E:XK),Room k (A.deeper (envOfC qual scope s.heap.objs.size f cdv))->sp vs H Q E ->
      ∃ t,PSs (cxOf CX P w K mg base N qual scope f cdv A outer s H E) body t/\t { nx:=λ_ H'=>Q .non H',rt:=Q } (start N vs) H) :
    FnOk P w K mg base CX (k+1) f (PySem.W.fnOf name qual params body scope dV kV doc pm an cdv ct) ps sp:=by
  refine⟨len,λA a s H L F m Q E z g R r i=>?_⟩;have M:=len _ _ _ _ i;have C:=g.mod.kin.keeps λb o e=>(g.bs b o e).1;have D:=g.mod.nolimit.keeps λb o e=>(g.bs b o e).1;have h:∀ y∈ps.zip F,scope.names.lookup y.1=some .local\/(scope.names.lookup y.1=some .cell/\((jW (s.heap.objs.size+1) scope.names []).lookup y.1).isSome=true):=λ⟨n,v⟩ G=>by
    rcases S.par n (iB G).1 with q | q
    · exact .inl q
    · exact .inr ⟨q,PySem.W.cellsFrom_some _ _ _ (.inl q)⟩
  refine codeAny_call_function z.depth (C _ _ lk) rfl S.co S.gen rfl (PySem.W.codeRec_of C hcd) (R _ _ _ _ ?_);refine wpAny_newFunctionEnv_cells S.kind h λaa Y B x=>?_;subst Y;refine⟨D.keeps x.toInCall.keep,codeAny_func ?_⟩;obtain⟨t,T,U⟩:=hbody A a s H m Q E (z.deeper _) i;have I:Inv (cxOf CX P w K mg base N qual scope f cdv A a s H E) [] _ H B:=b1e S z.hd g M r x;refine jX (T [] B _ H _ I U) (λX p c=>?_) λe p c=>c;have j:∀ {σ':St}{d:Hp}{v:V}{u:Value},Inv (cxOf CX P w K mg base N qual scope f cdv A a s H E) [] σ' d p->RelV v u->Q v d->CE a P w H s Q u p:=
    λ{σ' d v u} J l q=>⟨v,d,J.os,J.bare,J.base,J.hok,l,q⟩
  cases X with
  | ret u=>
    obtain⟨v,σ',d,J,l,q⟩:=c;exact j J l q
  | next=>
    obtain⟨σ',d,J,q⟩:=c;exact j (v:=V.non) J rfl q
  | brk=>
    obtain⟨_,_,_,q⟩:=c;exact er q
  | cont=>
    obtain⟨_,_,_,q⟩:=c;exact er q
section
variable {X:Cx}{x:Str}{p pos:Pos}{e:Expr}{es:List Expr}{t:TA}{id T:String}{r:List V->Hp->VK->Prop}
noncomputable def tCB (r:List V->Hp->VK->Prop) (t:TA):TE:=fun σ H Q=>t σ H λvs H1=>r vs H1 Q
theorem b3r (hc:CallR X (.builtin id) r) (hg:Gl X x) (hm:X.mg x=none) (hv:kt x=some (.builtin id)) (ha:PA X (e::es) t) (hn:x≠"__name__":=by decide) (hdb:(x==("__debug__":Str))=false:=by decide)
  (he:jN (e::es) X.env=(false,eval e X.env)::jN es X.env:=by rfl) (hpl:(backTo pos (jN es X.env)).any (·.1)=false:=by rfl):PE X (.Call (.Name x p) (e::es) [] pos) (tCB r t):=by
 intro a s σ H Q I h;refine lE (a6E I hg hm hv ?_ hn hdb);exact PyProof.Rows.callWith_builtin1 (thn (ha pos a s σ H _ I h) λg c ⟨b,f,i,d,j⟩=>hc a c σ f b g Q i d j) he hpl
theorem b1f (hc:CallR X (.type T) r) (hg:Gl X x) (hm:X.mg x=none) (hv:kt x=some (.type T)) (ha:PA X (e::es) t) (hn:x≠"__name__":=by decide) (hdb:(x==("__debug__":Str))=false:=by decide)
  (he:jN (e::es) X.env=(false,eval e X.env)::jN es X.env:=by rfl) (hpl:(backTo pos (jN es X.env)).any (·.1)=false:=by rfl):PE X (.Call (.Name x p) (e::es) [] pos) (tCB r t):=by
 intro a s σ H Q I h;refine lE (a6E I hg hm hv ?_ hn hdb);exact PyProof.Rows.callWith_type1 (thn (ha pos a s σ H _ I h) λj f ⟨b,g,d,i,c⟩=>hc a f σ g b j Q d i c) he hpl
end
end L2
namespace HT
open PySem PyProof.Rows
section
open PySem.SeqAt
open PySem.AutoSeq1 (wpAny_loadPart')
open PySem.MeetsSeq PySem.MeetsSeq2 PySem.MeetsSeq3
end
section
variable {prog:jO}{w:World}{A:Around}{E:Value->Shared->Prop}{s:Shared}
theorem cat_tup (ht:IsTup s.heap t vs.toArray) (hb:IsTup s.heap b ws.toArray) (hv:vs≠[])
  (h1:ws=[]->Q (.ref t) s) (h2:ws≠[]->Q (.ref s.heap.objs.size) { s with heap:=s.heap.push { cls:=.type "tuple",data:=.seq (vs++ws).toArray } })
  (hsz:vs.length+ws.length<=jK):wpAny (model prog w) A (jY .Add (.ref t) (.ref b)) Q E s:=by
 obtain⟨⟨r,j,p,k⟩,c,l,n,m⟩:=id ht;obtain⟨⟨q,f,o,h⟩,a,g,i,d⟩:=id hb;subst l m g d;have e:vs.toArray++ws.toArray=(vs++ws).toArray:=by simp
 by_cases hw:ws=[]
 ·exact concat_meets ⟨_,c,rfl⟩ ⟨_,a,rfl⟩ noFill_tuple_add seq_tuple_add PySem.F.slot_tuple_add PySem.F.entry_tuple_add (PySem.F.args_tuple_add_2 _ _)
   (tuple_addW1 t b vs.toArray ws.toArray n i j f k h (by simp_all) (by grind)) ⟨c,a,h1 hw⟩
 ·refine concat_meets ⟨_,c,rfl⟩ ⟨_,a,rfl⟩ noFill_tuple_add seq_tuple_add PySem.F.slot_tuple_add PySem.F.entry_tuple_add (PySem.F.args_tuple_add_2 _ _)
   (tuple_addW2 t b vs.toArray ws.toArray n i j f k h (by simp_all) (by simp_all) (by omega)) ⟨c,a,?_⟩
  rw[e];exact h2 hw
noncomputable def sIx (n d:Nat):Option Int->Nat
 | none=>d
 | some v=>if v<0 then (v+(n:Int)).toNat else min v.toNat n
theorem sIx_none (n d:Nat):sIx n d none=d:=rfl
theorem sIx_nat (n d k:Nat):sIx n d (some (k:Int))=min k n:=rfl
theorem c1r (n d:Nat) (hd:d<=n) (o:Option Int):sIx n d o<=n:=by
 cases o with
 | none=>exact hd
 | some v=>
  show (if v<0 then (v+n).toNat else min v.toNat n)<=n
  by_cases hv:v<0
  ·grind
  ·rw[if_neg hv];exact i9 _ _
theorem b1g (v:Int) (n d:Nat):(if v<0 then max (v+(n:Int)) 0 else min v (n:Int))=((sIx n d (some v):Nat):Int):=by grind [sIx]
theorem b0m (lo hi:Option Int) (n:Nat):jV.Slice.sliceAdjust lo hi 1 (n:Int)=(((sIx n 0 lo:Nat):Int),((sIx n n hi:Nat):Int)):=by
 unfold jV.Slice.sliceAdjust;refine Prod.ext ?_ ?_
 ·cases lo with
  | none=>rfl
  | some v=>exact b1g v n 0
 ·cases hi with
  | none=>rfl
  | some v=>exact b1g v n n
theorem b0n (i j:Nat):jV.Slice.slicePlaces (i:Int) (j:Int) 1=j - i:=by
 unfold jV.Slice.slicePlaces;simp
 split<;>omega
theorem a6J (p:IsPart v o) (h:Q o s):wpAny (model prog w) A (jV.Slice.slicePartIndex v) Q E s:=by
 cases p with
 | none=>exact slicePart_none h
 | int i t=>exact slicePart_int h
theorem a5a {lo hi:Option Int}{n:Nat}(hs:s.heap.IsSliceOf sl vl vu .none) (pl:IsPart vl lo) (pu:IsPart vu hi)
  (h:Q (((sIx n 0 lo:Nat):Int),1,sIx n n hi - sIx n 0 lo) s):wpAny (model prog w) A (jV.Slice.sliceApplied (.ref sl) (pure (n:Int))) Q E s:=by
 obtain⟨d,a,c,b⟩:=id hs;refine jJ (jJ (kK a b rfl (jJ (kK a b rfl (jJ (kK a b rfl (jR ?_)))))));refine jJ (slicePart_none ?_);refine jJ (a6J pl (jJ (a6J pu (jJ (jR ?_)))))
 show wpAny _ _ (match jV.Slice.sliceAdjust lo hi 1 n with | (lo,hi)=>pure (lo,_,jV.Slice.slicePlaces lo hi 1)) _ _ s
 rw[b0m lo hi n]
 show wpAny _ _ (pure _) _ _ s
 rw[b0n];exact jR h
theorem b3s (xs:Array Value) (i k:Nat):((fR k).filterMap λ(m:Nat)=>xs[((i:Int)+(m:Int)*1).toNat]?).toArray=((xs.toList.drop i).take k).toArray:=by
 have e:(λ(m:Nat)=>xs[(i+(m:Int)*1).toNat]?)=λm=>xs[i+m]?:=by
  funext m
  have:(i+(m:Int)*1).toNat=i+m:=by omega
  rw[this]
 rw[e]
 have:=pick_run xs i k
 rw[ja]at this;have a:(_∘λx=>i+x)=λm=>xs[i+m]?:=rfl;rw[a]at this;rw[this]
theorem getItem_tuple_cut {lo hi:Option Int}(ht:IsTup s.heap t items) (hs:s.heap.IsSliceOf sl vl vu .none) (pl:IsPart vl lo) (pu:IsPart vu hi)
  (hw:¬ (sIx items.size 0 lo=0/\sIx items.size items.size hi=items.size))
  (h:Q (.ref s.heap.objs.size) { s with heap:=s.heap.push { cls:=.type "tuple",data:=.seq ((items.toList.drop (sIx items.size 0 lo)).take (sIx items.size items.size hi - sIx items.size 0 lo)).toArray } })
  (hsz:items.size<=jK):wpAny (model prog w) A (lp (.ref t) (.ref sl)) Q E s:=by
 have a:sizeOk (.seq ((items.toList.drop (sIx items.size 0 lo)).take (sIx items.size items.size hi - sIx items.size 0 lo)).toArray):=by
  show ((items.toList.drop (sIx items.size 0 lo)).take (sIx items.size items.size hi - sIx items.size 0 lo)).toArray.size<=jK
  rw[fv,eK,fC,fT];omega
 obtain⟨f,d,e,g⟩:=id hs;have b:s.TypeIs (.ref sl) "slice":=⟨f,d,e⟩;unfold lp
 try with_reducible refine j3 ?_
 refine jJ (wpAny_sequenceKey ht.typeIs (by decide) ?_);refine jJ (wpAny_callSpecial?_slot ht.typeIs PyProof.Rows.slot_tuple_getitem
  (lr PyProof.Rows.slot_tuple_getitem ht.typeIs entry_tuple_getitem ?_ (args_tuple_getitem _ _)))
 show wpAny _ _ (jV.Tuple.tupleItemsOf _ >>= _) _ _ s
 refine jJ (tupleItemsOf_ ht ?_);refine jJ (wpAny_typeOf b ?_);refine jJ (a5a hs pl pu ?_);have c:¬ ((((sIx items.size 0 lo):Int)==0&&(1:Int)==1&&(sIx items.size items.size hi - sIx items.size 0 lo)==items.size)=true):=by grind
 show wpAny _ _ (if (((sIx items.size 0 lo):Int)==0&&(1:Int)==1&&(sIx items.size items.size hi - sIx items.size 0 lo)==items.size)=true then _ else _) _ _ s
 rw[if_neg c,b3s]
 first
  | exact jJ (mh (jR ⟨_,rfl,jR h⟩) a)
  | exact jJ _
  | exact jJ _
  | exact jJ _
end
end HT
namespace L2
open PySem PySem.Spec PyProof.Rows
abbrev TO:=St->Hp->(Option Int->Hp->Prop)->Prop
noncomputable def PO (X:Cx) (e:Option Expr) (t:TO):Prop:=
 ∀ (pins:List (Addr×Obj)) (s:Shared) (σ:St) (H:Hp) (Q:Option Int->Hp->Prop),Inv X pins σ H s->t σ H Q ->
  wpAny (model X.prog X.w) X.A (evalPart e X.env) (λu s'=>∃ o H',Inv X pins σ H' s'/\IsPart u o/\Q o H') X.xe s
noncomputable def b5R:TO:=λ_ H Q=>Q none H
noncomputable def b97 (t:TE):TO:=fun σ H Q=>t σ H λx H1=>∃ i,x=.int i/\Q (some i) H1
theorem b0o:∀ {us:List Value},Vals (ns.map V.int) us->kb us ns:=by
 induction ns with
 | nil=>intro a r;cases r;exact .nil
 | cons n ns ih=>
  intro a r;cases r with
  | cons r1 r2=>
   obtain⟨t,e⟩:=r1;subst e;exact .cons n t (ih r2)
section
variable {X:Cx}{e:Expr}{te:TE}{lo hi:Option Expr}{tl th:TO}{pos p2:Pos}
theorem b5S:PO X none b5R:=by
 intro a s σ H Q I h;exact jR ⟨none,H,I,.none,h⟩
theorem b5T (h:PE X e te):PO X (some e) (b97 te):=by
 intro a s σ H Q I b;refine thn (h a s σ H _ I b) λu j ⟨x,d,f,c,g⟩=>?_;obtain⟨i,rfl,q⟩:=g;obtain⟨t,rfl⟩:=c;exact⟨some i,d,f,.int i t,q⟩
noncomputable def SlR (X:Cx) (r:V->Option Int->Option Int->Hp->VK->Prop):Prop:=
 ∀ (pins:List (Addr×Obj)) (s:Shared) (σ:St) (H:Hp) (x:V) (v vl vu:Value) (lo hi:Option Int) (sl:Addr) (Q:VK),Inv X pins σ H s->RelV x v->s.heap.IsSliceOf sl vl vu .none->IsPart vl lo->IsPart vu hi->r x lo hi H Q ->
  ∃ T id,typeLookup (.type T) "__getitem__"=pure (some (.builtin id))/\s.TypeIs v T/\wpAny (model X.prog X.w) X.A (lp v (.ref sl)) (EP X pins σ Q) X.xe s
theorem SlR.or (h:SlR X r) (h':SlR X r'):SlR X (λx lo hi H Q=>r x lo hi H Q\/r' x lo hi H Q):=by
 intro a s σ H x v b k d j c Q I g i e f q;rcases q with q | q
 ·exact h a s σ H x v b k d j c Q I g i e f q
 ·exact h' a s σ H x v b k d j c Q I g i e f q
noncomputable def tSl (r:V->Option Int->Option Int->Hp->VK->Prop) (te:TE) (tl th:TO):TE:=fun σ H Q=>te σ H λx H1=>tl σ H1 λl H2=>th σ H2 λu H3=>r x l u H3 Q
theorem b3t (hr:SlR X r) (he:PE X e te) (hl:PO X lo tl) (hu:PO X hi th):PE X (.Subscript e (.Slice lo hi none p2) pos) (tSl r te tl th):=by
 intro a s σ H Q I h;refine Subscript_ (thn (he a s σ H _ I h) λv o ⟨x,D,j,t,J⟩=>?_);refine wpAny_Slice (thn (hl a o σ D _ j J) λf B ⟨l,p,m,n,G⟩=>thn (hu a B σ p _ m G) λd c ⟨u,g,y,z,k⟩=>?_);refine jR ?_;have C:Inv X a σ g { c with heap:=c.heap.push { cls:=.type "slice",data:=.fields #[f,d,.none] } }:=y.kept λb L q=>Heap.get?_push_of_some _ q;obtain⟨T,M,F,E,i⟩:=hr a { c with heap:=c.heap.push { cls:=.type "slice",data:=.fields #[f,d,.none] } } σ g x v f d l u c.heap.objs.size Q C t (Heap.IsSliceOf.new ..) n z k;exact tail_any E F i (by with_unfolding_all rfl)
noncomputable def cutV (xs:List V) (lo hi:Option Int):List V:=(xs.drop (HT.sIx xs.length 0 lo)).take (HT.sIx xs.length xs.length hi - HT.sIx xs.length 0 lo)
theorem a5H (xs:List V) (lo hi:Option Int):(cutV xs lo hi).length<=xs.length:=by
 unfold cutV;rw[eK,fC];omega
noncomputable def rSlT (K:Fg):V->Option Int->Option Int->Hp->VK->Prop:=λx lo hi H Q=>∃ a xs,x=.ref a/\SqT K H a xs /\
 ¬ (HT.sIx xs.length 0 lo=0/\HT.sIx xs.length xs.length hi=xs.length)/\∀ p,H p=none->Q (.ref p) (upd H p (.tup (cutV xs lo hi)))
theorem sl_tup:SlR X (rSlT X.K):=by
 intro p s σ H x v A w e f z Q I k m l t h;obtain⟨a,d,rfl,n,u,q⟩:=h;cases k;obtain⟨j,r,g,i⟩:=I.tuple n;have c:j.toArray.size=d.length:=by rw[fv];exact r.length.symm
 refine⟨"tuple",_,PyProof.Rows.slot_tuple_getitem.lookup,g.typeIs,?_⟩;refine HT.getItem_tuple_cut g m l t (by rw[c];exact u) ?_ (by simp_all);rw[c];refine⟨.ref s.heap.objs.size,_,I.laid (λb y q=>Heap.get?_push_of_some _ q) (eh _) ?_,rfl,q _ (I.hok.fresh (eh _))⟩;exact⟨eF (a5H d e f) i,_,(r.drop _).take _,IsTup.new _ _⟩
noncomputable def b98 (K:Fg):R2:=λx y H Q=>∃ a b xs ys,x=.ref a/\y=.ref b/\SqT K H a xs/\SqT K H b ys/\xs≠[]/\xs.length+ys.length<=jK /\
 (ys=[]->Q (.ref a) H)/\(ys≠[]->∀ p,H p=none->Q (.ref p) (upd H p (.tup (xs++ys))))
theorem Vals.nil_iff (r:Vals xs us):us=[]↔xs=[]:=by
 cases r with
 | nil=>simp
 | cons _ _=>simp
theorem op_catT:OpR X (jY .Add) (b98 X.K):=by
 intro r s σ H x y v u Q I p B h;obtain⟨a,b,k,j,rfl,rfl,t,g,f,e,m,n⟩:=h;cases p;cases B;obtain⟨C,d,i,_⟩:=I.tuple t;obtain⟨l,c,A,_⟩:=I.tuple g;refine HT.cat_tup i A (λz=>f (d.nil_iff.mp z)) (λz=>⟨.ref a,H,I,rfl,m (c.nil_iff.mp z)⟩) (λz=>?_) (by rw[<- d.length,<- c.length];exact e);refine⟨.ref s.heap.objs.size,_,I.laid (λb D q=>Heap.get?_push_of_some _ q) (eh _) ?_,rfl,n (λw=>z (c.nil_iff.mpr w)) _ (I.hok.fresh (eh _))⟩;exact⟨by rw[eB];exact e,_,d.append c,IsTup.new _ _⟩
end
noncomputable def ixN (n:Nat) (i:Int):Option Nat:=if 0<=i then (if i<n then some i.toNat else none) else if -(n:Int)<=i then some (i+n).toNat else none
noncomputable def atI {α:Type}(xs:List α) (i:Int):Option α:=(ixN xs.length i).bind λj=>xs[j]?
theorem b1h (h:ixN n i=some j):seqIndex? i n=some j/\j<n/\-(n:Int)<=i/\i<n:=by
 unfold ixN at h
 by_cases h0:0<=i
 ·rw[if_pos h0]at h
  by_cases h1:i<n
  ·rw[if_pos h1]at h;have e:=fu.inj h;exact⟨by rw[mi h0 h1,e],by omega,by omega,h1⟩
  ·simp_all
 ·rw[if_neg h0]at h
  by_cases h1:-n<=i
  ·rw[if_pos h1]at h;have e:=fu.inj h;exact⟨by rw[mj (by omega) h1,e],by omega,h1,by omega⟩
  ·simp_all
theorem a8K {α:Type}{xs:List α}{v:α}(h:atI xs i=some v):∃ j,seqIndex? i xs.length=some j/\xs[j]?=some v/\j<xs.length/\-(xs.length:Int)<=i/\i<xs.length:=by
 unfold atI at h;cases e:ixN xs.length i with
 | none=>rw[e]at h;cases h
 | some j=>
  rw[e]at h;obtain⟨d,c,b,a⟩:=b1h e;exact⟨j,d,h,c,b,a⟩
theorem a2k {α:Type}{xs:List α}{j:Nat}{v:α}(h:xs[j]?=some v):atI xs (j:Int)=some v:=by
 have a:=(eL.mp h).1;have e:ixN xs.length j=some j:=by
  unfold ixN;rw[if_pos (by simp),if_pos (by omega)];simp
 unfold atI;rw[e];exact h
noncomputable def b1i (b:Expr):Prop:=∀ o i,subscripted b false o i=operate [o,i] (lp o i)
noncomputable def IxR (X:Cx) (r:R2):Prop:=
 ∀ (value slice:Expr) (pins:List (Addr×Obj)) (s:Shared) (σ:St) (H:Hp) (x y:V) (v u:Value) (Q:VK),Inv X pins σ H s->RelV x v->RelV y u->r x y H Q ->
  subscripted slice false v u=operate [v,u] (lp v u)->wpAny (model X.prog X.w) X.A (subscriptTail value slice v u) (EP X pins σ Q) X.xe s
noncomputable def MtR (X:Cx) (id:String) (r:V->List V->Hp->VK->Prop):Prop:=
 ∀ (pins:List (Addr×Obj)) (s:Shared) (σ:St) (H:Hp) (x:V) (xs:List V) (v:Value) (us:List Value) (Q:VK),Inv X pins σ H s->RelV x v->Vals xs us->r x xs H Q ->
  wpAny (model X.prog X.w) X.A (call (.builtin id) (v::us)) (EP X pins σ Q) X.xe s
section
variable {X:Cx}{a b:Expr}{ta tb:TE}{pos:Pos}
theorem IxR.or (h:IxR X r) (h':IxR X r'):IxR X (λx y H Q=>r x y H Q\/r' x y H Q):=by
 intro b a c s σ H x y v u Q I e f q d;rcases q with q | q
 ·exact h b a c s σ H x y v u Q I e f q d
 ·exact h' b a c s σ H x y v u Q I e f q d
theorem MtR.or {id:String}(h:MtR X id r) (h':MtR X id r'):MtR X id (λx xs H Q=>r x xs H Q\/r' x xs H Q):=by
 intro a s σ H x e v b Q I c d q;rcases q with q | q
 ·exact h a s σ H x e v b Q I c d q
 ·exact h' a s σ H x e v b Q I c d q
theorem b99 (hr:IxR X r) (ha:PE X a ta) (hb:PE X b tb) (hs:b1i b):PE X (.Subscript a b pos) (tOp r ta tb):=by
 intro c s σ H Q I h;exact Subscript_ (binT ha hb I h λv u d x y f g i e q=>hr a b c d σ f x y v u Q g i e q (hs _ _))
noncomputable def rIxL (K:Fg):R2:=λx y H Q=>∃ p xs i v,x=.ref p/\y=.int i/\SqL K H p xs/\atI xs i=some v/\Q v H
noncomputable def rIxT (K:Fg):R2:=λx y H Q=>∃ p xs i v,x=.ref p/\y=.int i/\SqT K H p xs/\atI xs i=some v/\Q v H
noncomputable def rIxS:R2:=λx y H Q=>∃ z i c,x=.str z/\y=.int i/\z.length<=jK/\atI z.cps.toList i=some c/\Q (.str ⟨#[c]⟩) H
theorem ix_list:IxR X (rIxL X.K):=by
 intro n m a s σ H x y v u Q I F o h f;obtain⟨p,M,i,z,rfl,rfl,C,J,q⟩:=h;cases F;obtain⟨t,rfl⟩:=o;obtain⟨l,r,d,R⟩:=I.list C;obtain⟨j,b,B,L,D,A⟩:=a8K J;obtain⟨w,g,k⟩:=r.get B;have G:=r.length;have N:=a7D;have c:EP X a σ Q w s:=⟨z,H,I,k,q⟩
 by_cases h0:0<=i
 ·have e:i.toNat=j:=by
   rw[mi h0 A]at b;exact fu.inj b
  exact item_listR d.isList h0 (by omega) (by rw[e];simpa using g) c f
 ·have e:(i+(l.toArray.size:Int)).toNat=j:=by
   rw[mj (by omega) D]at b;rw[fv,<- G];exact fu.inj b
  exact ml d.isList.typeIs slot_list_getitem.lookup
   (wpAny_getItem_list_neg d.isList (by omega) (by simp_all) (by omega) (by rw[e];simpa using g) ⟨rfl,c⟩) f
theorem ix_tup:IxR X (rIxT X.K):=by
 intro f e a s σ H x y v u Q I A D h k;obtain⟨p,J,i,z,rfl,rfl,B,C,q⟩:=h;cases A;obtain⟨t,rfl⟩:=D;obtain⟨E,r,d,M⟩:=I.tuple B;obtain⟨j,l,g,G,F,L⟩:=a8K C;obtain⟨w,m,c⟩:=r.get g;have n:=r.length;have N:=a7D;have b:EP X a σ Q w s:=⟨z,H,I,c,q⟩;exact ml d.typeIs slot_tuple_getitem.lookup
  (getItem_tuple d (by omega) (by omega) (by rw[fv,<- n];exact l) (by simp_all) ⟨rfl,b⟩) k
theorem b7K:IxR X rIxS:=by
 intro b d r s σ H x y v u Q I o f h p;obtain⟨z,i,c,rfl,rfl,A,n,q⟩:=h;obtain⟨t,rfl⟩:=o;obtain⟨C,rfl⟩:=f;obtain⟨j,a,l,D,g,w⟩:=a8K n;have k:z.cps.toList.length=z.length:=by simp[Str.length]
 rw[k]at a g w;have B:=a7D;exact tail_any (kL s z t) slot_str_getitem.lookup (getItem_str (by grind) (by rw[a];simpa using l) ⟨.str ⟨#[c]⟩,H,I.tok _,⟨_,rfl⟩,q⟩) p
noncomputable def rIx (K:Fg):R2:=λx y H Q=>rIxL K x y H Q\/rIxT K x y H Q\/rIxS x y H Q
theorem b7L:IxR X (rIx X.K):=ix_list.or (ix_tup.or b7K)
theorem b0p (its:List Value) (n j:Nat) (u:Value):Obj.mapSeq (·.setIfInBounds j u) { cls:=.type "list",data:=.seq its.toArray n }={ cls:=.type "list",data:=.seq (its.set j u).toArray n }:=by
 simp[Obj.mapSeq]
theorem Inv.lst {pins:List (Addr×Obj)}{σ:St}{H:Hp}{s:Shared}{p:Addr}{xs:List V}(I:Inv X pins σ H s) (h:H p=some (.lst xs)) :
  ∃ (its:List Value) (n:Nat),Vals xs its/\s.heap.get? p=some { cls:=.type "list",data:=.seq its.toArray n }/\xs.length<=sizeLine:=by
 obtain⟨z,a,n,r,e⟩:=I.hok p _ h;exact⟨a,n,r,e,z⟩
theorem Inv.lstUpd {its its':List Value}(I:Inv X pins σ H s) (h:H p=some (.lst xs))
  (ho:s.heap.get? p=some { cls:=.type "list",data:=.seq its.toArray n }) (hf:f { cls:=.type "list",data:=.seq its.toArray n }={ cls:=.type "list",data:=.seq its'.toArray n' }) (r:Vals ys its') (hz:ys.length<=jK) (t:Nat) :
  Inv X pins σ (upd H p (.lst ys)) { s with heap:=s.heap.update p f,toks:=t }:=by
 have e:(s.heap.update p f).get? p=some { cls:=.type "list",data:=.seq its'.toArray n' }:=by
  rw[Heap.get?_update_self f ho (by rw[hf]<;>rfl),hf]
 refine I.write (by rw[h];trivial) (.inl rfl) (λb u a q=>(Heap.get?_update_other _ _ (Ne.symm a)).trans q) ⟨_,e⟩ ?_;exact⟨hz,its',n',r,e⟩
noncomputable def c0a:V->V->V->Hp->(Hp->Prop)->Prop:=λo i v H Q=>∃ p xs k j,o=.ref p/\i=.int k/\H p=some (.lst xs)/\ixN xs.length k=some j/\Q (upd H p (.lst (xs.set j v)))
theorem b3u:PSet X c0a:=by
 intro d s σ H o i v D F u Q I x z C h;obtain⟨p,y,k,j,rfl,rfl,g,B,q⟩:=h;cases x;obtain⟨t,rfl⟩:=z;obtain⟨b,n,r,f,A⟩:=I.lst g;obtain⟨a,E,m,w⟩:=b1h B;have e:=r.length;have G:=a7D;have l:=
  I.lstUpd g f (b0p b n j u) (r.set C j) (by simp_all) s.toks
 by_cases h0:0<=k
 ·have c:k.toNat=j:=by
   rw[mi h0 w]at a;exact fu.inj a
  exact PySem.W.ki_setAt f h0 (by omega) (by simp_all) (by rw[c];exact⟨_,l,q⟩)
 ·have c:(k+(b.toArray.size)).toNat=j:=by
   rw[mj (by omega) m]at a;rw[fv,<- e];exact fu.inj a
  exact PySem.W.ki_setBack f (by omega) (by simp_all) (by omega) (by rw[c];exact⟨_,l,q⟩)
theorem a7J (lo hi:Option Int) (n:Nat):(kF lo hi none n).1=((HT.sIx n 0 lo:Nat):Int)/\(kF lo hi none n).2.1=((HT.sIx n n hi:Nat):Int)/\(kF lo hi none n).2.2=1:=by
 refine⟨?_,?_,rfl⟩
 ·cases lo with
  | none=>simp[kF,HT.sIx]
  | some i=>
   simp only[kF,HT.sIx,jc]
   by_cases h:i<0
   ·grind
   ·grind
 ·cases hi with
  | none=>simp[kF,HT.sIx]
  | some i=>
   simp only[kF,HT.sIx,jc]
   by_cases h:i<0
   ·grind
   ·grind
theorem a62 (its:List Value) (lo hi:Option Int):slicePick its.toArray lo hi none=((its.drop (HT.sIx its.length 0 lo)).take (HT.sIx its.length its.length hi - HT.sIx its.length 0 lo)).toArray:=by
 obtain⟨a,c,b⟩:=a7J lo hi its.toArray.size;unfold slicePick;rw[a,c,b];simp only[sliceRange_one,pick_run]<;>rfl
noncomputable def rSlL (K:Fg):V->Option Int->Option Int->Hp->VK->Prop:=λx lo hi H Q=>∃ a xs,x=.ref a/\SqL K H a xs/\∀ p,H p=none->Q (.ref p) (upd H p (.lst (cutV xs lo hi)))
theorem sl_list:SlR X (rSlL X.K):=by
 intro p s σ H x v u w d e y Q I m i n j h;obtain⟨a,c,rfl,k,q⟩:=h;cases m;obtain⟨t,r,g,l⟩:=I.list k;have f:=r.length;refine⟨"list",_,slot_list_getitem.lookup,g.isList.typeIs,?_⟩;refine wpAny_getItem_list_slice g.isList i n j .none (by simp) ?_ (by grind);rw[a62,<- f];refine⟨.ref s.heap.objs.size,_,I.laid (λb z q=>Heap.get?_push_of_some _ q) (eh _) ?_,rfl,q _ (I.hok.fresh (eh _))⟩;exact⟨eF (a5H c d e) l,_,0,(r.drop _).take _,Heap.get?_push_size _ rfl⟩
theorem CallR.or (h:CallR X f r) (h':CallR X f r'):CallR X f (λxs H Q=>r xs H Q\/r' xs H Q):=by
 intro a s σ H c d Q I b q;rcases q with q | q
 ·exact h a s σ H c d Q I b q
 ·exact h' a s σ H c d Q I b q
theorem a7K:CallR X (.type "list") (λxs H Q=>∃ p ys,xs=[.ref p]/\(SqL X.K H p ys\/SqT X.K H p ys)/\∀ l,H l=none->Q (.ref l) (upd H l (.lst ys))):=by
 intro z s σ H C D Q I r h;obtain⟨p,v,rfl,j,q⟩:=h;obtain⟨u,rfl,B⟩:=a3M r;cases B;have k:∀ a,Vals v a->v.length<=jK->∀ c f,_ ->
   c.get? s.heap.objs.size=some { cls:=.type "list",dict:=none,data:=.seq a.toArray f,slots:=#[] }->EP X z σ Q _ { s with heap:=c }:=λa d g c f i e=>
  ⟨.ref s.heap.objs.size,_,I.laid i (eh _) (show ObjOk X.prog X.w _ c _ (.lst v) from ⟨g,a,f,d,e⟩),rfl,q _ (I.hok.fresh (eh _))⟩
 rcases j with j | j
 ·obtain⟨a,d,y,g⟩:=I.list j;have t:=d.length;obtain⟨o,x,A,n,m⟩:=y.isList;exact call_list_seq p (.inl rfl) x A m (λc f i e=>k a d g c f i e) (by grind)
 ·obtain⟨a,d,y,g⟩:=I.tuple j;have t:=d.length;obtain⟨o,x,A,n,m⟩:=y;exact call_list_seq p (.inr rfl) x A m (λc f i e=>k a d g c f i e) (by grind)
theorem a63:CallR X (.type "tuple") (λxs H Q=>∃ p ys,xs=[.ref p]/\((SqL X.K H p ys/\∀ l,H l=none->Q (.ref l) (upd H l (.tup ys)))\/(SqT X.K H p ys/\Q (.ref p) H))):=by
 intro c s σ H x y Q I r h;obtain⟨p,j,rfl,h⟩:=h;obtain⟨u,rfl,n⟩:=a3M r;cases n;rcases h with ⟨hq,q⟩ | ⟨hq,q⟩
 ·obtain⟨a,f,g,k⟩:=I.list hq;have m:=f.length;refine call_tuple_list g.isList (λd t=>?_) (by grind);have i:Inv X c σ H { s with heap:=d }:=I.kept t;have v:Inv X c σ (upd H d.objs.size (.tup j)) { s with heap:=d.push { cls:=.type "tuple",data:=.seq a.toArray } }:=
   i.laid (λb o e=>Heap.get?_push_of_some _ e) (eh _) (⟨k,a,f,IsTup.new _ _⟩)
  exact⟨.ref d.objs.size,_,v,rfl,q _ (i.hok.fresh (eh _))⟩
 ·obtain⟨a,f,g,k⟩:=I.tuple hq;exact call_tuple_same g ⟨.ref p,H,I,rfl,q⟩
noncomputable def tyV (K:Fg) (T:String) (x:V) (H:Hp):Prop:=match x with
 | .str _=>T="str"
 | .int _=>T="int"
 | .ref p=>(T="list"/\∃ xs,SqL K H p xs)\/(T="tuple"/\∃ o,K.lookup p=some o/\o.cls=.type "tuple"/\o.dict=none) \/
   (T="dict"/\((∃ kvs,H p=some (.dK kvs))\/(∃ kvs,H p=some (.dT kvs))\/∃ ob kvs,H p=some (.frz ob (.dK kvs))))\/(T="set"/\∃ S n,H p=some (.set S n))
 | _=>False
theorem b4I (I:Inv X pins σ H s) (r:RelV x v) (ty:tyV X.K T x H) :
  s.TypeIs v T/\∀ a,v=.ref a->∃ ob,s.heap.get? a=some ob/\ob.dict=none:=by
 cases x with
 | str z=>
  obtain⟨t,rfl⟩:=r;cases (ty);exact⟨kL s z t,λ_ e=>nomatch e⟩
 | int i=>
  obtain⟨t,rfl⟩:=r;cases (ty);exact⟨mm s i t,λ_ e=>nomatch e⟩
 | ref p=>
  cases r;rcases ty with ⟨rfl,xs,hq⟩ | ⟨rfl,o,hk,hc,f⟩ | ⟨rfl,hk⟩ | ⟨rfl,S,n,hk⟩
  ·obtain⟨h,_,g,_⟩:=I.list hq;refine⟨g.isList.typeIs,λa e=>?_⟩;cases e;obtain⟨o,n,e,c,f,_⟩:=g;exact⟨o,e,f⟩
  ·refine⟨⟨o,I.kIn p o hk,hc⟩,λa e=>?_⟩;cases e;exact⟨o,I.kIn _ o hk,f⟩
  ·have z:∃ o,s.heap.get? p=some o/\o.ExactDict:=by
    rcases hk with ⟨kvs,hk⟩ | ⟨kvs,hk⟩ | ⟨ob,kvs,hk⟩
    ·obtain⟨_,_,_,_,o,_,_,e,b,_⟩:=I.hok p _ hk;exact⟨o,e,b⟩
    ·obtain⟨_,_,_,_,o,_,_,e,b,_⟩:=I.hok p _ hk;exact⟨o,e,b⟩
    ·obtain⟨_,_,_,_,_,o,_,_,e,b,_⟩:=I.hok p _ hk;exact⟨o,e,b⟩
   obtain⟨o,e,b⟩:=z;refine⟨⟨o,e,b.1⟩,λa d=>?_⟩;cases d;exact⟨o,e,b.2.1⟩
  ·obtain⟨o,_,_,_,e,b,_⟩:=I.hok p _ hk;refine⟨⟨o,e,b.1⟩,λa d=>?_⟩;cases d;exact⟨o,e,b.2.1⟩
 | _=>exact er ty
noncomputable def tBM0 (K:Fg) (T:String) (r:V->List V->Hp->VK->Prop) (to:TE):TE:=fun σ H Q=>to σ H λx H1=>tyV K T x H1/\r x [] H1 Q
noncomputable def tBM (K:Fg) (T:String) (r:V->List V->Hp->VK->Prop) (to:TE) (t:TA):TE:=fun σ H Q=>to σ H λx H1=>tyV K T x H1/\t σ H1 λxs H2=>r x xs H2 Q
variable {o e:Expr}{es:List Expr}{to:TE}{t:TA}{name:Str}{apos cpos:Pos}{T id:String}{r:V->List V->Hp->VK->Prop}
theorem b7M (pa:lG T) (slot:Slot T name id) (hty:typeOf (.builtin id)=pure (.type "method_descriptor")) (hm:MtR X id r) (ho:PE X o to)
  (hbase:kC o name X.env (eval o X.env)=eval o X.env:=by rfl) (hline:(apos.endLine==cpos.line)=true:=by rfl):PE X (.Call (.Attribute o name apos) [] [] cpos) (tBM0 X.K T r to):=by
 intro a s σ H Q I h;refine wpAny_Call_method0_late hbase hline (thn (ho a s σ H _ I h) λv g ⟨x,d,c,b,i,e⟩=>?_);obtain⟨j,f⟩:=b4I c b i;exact⟨T,id,pa,slot,hty,j,f,Calls.callWith_builtin rfl (PySem.evalArgs_none (hm a g σ d x [] v [] Q c b .nil e))⟩
theorem c0b (pa:lG T) (slot:Slot T name id) (hty:typeOf (.builtin id)=pure (.type "method_descriptor")) (hm:MtR X id r) (ho:PE X o to) (ha:PA X (e::es) t)
  (hbase:kC o name X.env (eval o X.env)=eval o X.env:=by rfl)
  (hfew:((backTo cpos (jN (e::es) X.env)).all (λx=>!x.1)&&(kD cpos (kE [] X.env)).all (λx=>x.1.isSome)
   && decide ((e::es).length+([]:List lm).length+(if ([]:List lm).isEmpty then 0 else 1)<30))=true:=by rfl)
  (hline:(apos.endLine==cpos.line)=true:=by rfl) (hs:jN (e::es) X.env=(false,eval e X.env)::jN es X.env:=by rfl) (hplain:(backTo cpos (jN es X.env)).any (·.1)=false:=by rfl) :
  PE X (.Call (.Attribute o name apos) (e::es) [] cpos) (tBM X.K T r to t):=by
 intro a s σ H Q I h;refine wpAny_Call_method_late hbase hfew hline rfl (thn (ho a s σ H _ I h) λv k ⟨x,w,b,c,u,j⟩=>?_);obtain⟨g,n⟩:=b4I b c u;refine⟨T,id,pa,slot,hty,g,n,?_⟩;have d:=ha cpos a k σ w _ b j;rw[hs]at d ⊢;refine Calls.callWith_builtin (by show (false||(backTo cpos _).any _)=false;rw[hplain]<;>rfl) (Calls.evalArgs_plain ?_)
 exact thn d λi m ⟨q,l,y,f,p⟩=>hm a m σ l x q v i Q y c f p
end
noncomputable def MtM (X:Cx) (id:String) (r:V->List V->Hp->VK->Prop):Prop:=
 ∀ (pins:List (Addr×Obj)) (s:Shared) (σ:St) (H:Hp) (x:V) (xs:List V) (v:Value) (us:List Value) (Q:VK),Inv X pins σ H s->RelV x v->Vals xs us->r x xs H Q ->
  wpAny (model X.prog X.w) X.A (call (.builtin id) (v::us)) (EP X pins σ Q) X.xe s
theorem Vals.one:∀ {x:V}{us:List Value},Vals [x] us->∃ u,us=[u]/\RelV x u
 | _,_,.cons r .nil=>⟨_,rfl,r⟩
theorem Vals.two:∀ {x y:V}{us:List Value},Vals [x,y] us->∃ u v,us=[u,v]/\RelV x u/\RelV y v:=by
 intro x y a h;cases h with
 | cons r h=>cases h with
  | cons q h=>cases h;exact⟨_,_,rfl,r,q⟩
theorem Vals.zero:∀ {us:List Value},Vals [] us->us=[]
 | _,.nil=>rfl
theorem Vals.dropLast (h:Vals xs us):Vals xs.dropLast us.dropLast:=by
 induction h with
 | nil=>exact .nil
 | cons r t ih=>
  cases t with
  | nil=>exact .nil
  | cons q t'=>exact .cons r ih
theorem Vals.eraseIdx:∀ {xs:List V}{us:List Value}(i:Nat),Vals xs us->Vals (xs.eraseIdx i) (us.eraseIdx i)
 | _,_,_,.nil=>.nil
 | _,_,0,.cons _ t=>t
 | _,_,i+1,.cons r t=>.cons r (Vals.eraseIdx i t)
theorem Vals.reverse (h:Vals xs us):Vals xs.reverse us.reverse:=by
 induction h with
 | nil=>exact .nil
 | cons r t ih=>rw[gq,gq];exact Vals.append ih (.cons r .nil)
theorem Vals.rep (h:Vals xs us):∀ k:Nat,Vals (eM k xs).flatten (eM k us).flatten
 | 0=>.nil
 | k+1=>by
  exact Vals.append h (Vals.rep h k)
theorem a7L (its:List Value):∀ (k:Nat) (acc:List Value),
  List.foldl (λx1 x2=>x1++x2) acc.toArray (eM k its.toArray)=(acc++(eM k its).flatten).toArray
 | 0,acc=>by simp
 | k+1,acc=>by
  have e:acc.toArray++its.toArray=(acc++its).toArray:=by simp
  have a:(acc++its)++(eM k its).flatten=acc++(eM (k+1) its).flatten:=by
   rw[g7,gL,eT]
  rw[<- a,<- a7L its k (acc++its),<- e,g7,jd]
section
variable {X:Cx}{pins:List (Addr×Obj)}{σ:St}{H:Hp}{s:Shared}{l b:Addr}{xs ys zs:List V}
theorem Inv.lset {its its':List Value}(I:Inv X pins σ H s) (hH:H l=some (.lst xs))
  (e:s.heap.get? l=some { cls:=.type "list",data:=.seq its.toArray n }) (hf:f its.toArray=its'.toArray) (hv:Vals ys its') (hz:ys.length<=jK) :
  Inv X pins σ (upd H l (.lst ys)) { s with heap:=s.heap.update l (Obj.mapSeq f),toks:=t' }:=by
 have q:=PySem.IsL.update e f;rw[hf]at q;refine I.write (by rw[hH];exact trivial) (.inl rfl) (λc u a b=>(Heap.get?_update_other s.heap _ (Ne.symm a)).trans b) ⟨_,q⟩ ?_;exact⟨hz,its',_,hv,q⟩
theorem Inv.lnew (I:Inv X pins σ H s) (hv:Vals ys its) (hz:ys.length<=jK) :
  Inv X pins σ (upd H s.heap.objs.size (.lst ys)) { s with heap:=s.heap.push { cls:=.type "list",data:=.seq its.toArray },toks:=t' }:=
 I.laid (λ_ _ q=>Heap.get?_push_of_some _ q) (eh _) ⟨hz,its,0,hv,Heap.get?_push_size _ rfl⟩
theorem Inv.fresh (I:Inv X pins σ H s):H s.heap.objs.size=none:=I.hok.fresh (eh _)
theorem Inv.lstM (I:Inv X pins σ H s) (hH:H l=some (.lst xs)):xs.length<=jK/\∃ (its:List Value) (n:Nat),Vals xs its/\xs.length=its.length/\s.heap.get? l=some { cls:=.type "list",data:=.seq its.toArray n }:=by
 obtain⟨z,a,n,r,e⟩:=I.hok l _ hH;exact⟨z,a,n,r,r.length,e⟩
theorem a9n (h:n<=jK):jV.List.listTooLong n=false:=decide_eq_false (by omega)
end
section
variable {X:Cx}
noncomputable def b5U:V->List V->Hp->VK->Prop:=λx vs H Q=>∃ l xs y,x=.ref l/\vs=[y]/\H l=some (.lst xs)/\xs.length<jK/\Q .non (upd H l (.lst (xs++[y])))
theorem a7M:MtM X "list.append" b5U:=by
 intro c s σ H x k v o Q I f d h;obtain⟨l,j,y,rfl,rfl,b,i,q⟩:=h;cases f;obtain⟨u,rfl,g⟩:=d.one;obtain⟨z,a,n,r,m,e⟩:=I.lstM b;refine kM F.slot_list_append ⟨_,e,rfl⟩ F.entry_list_append (F.args_list_append_2 _ _) (PySem.list_append l a.toArray n u (by grind)) ⟨e,?_⟩;refine⟨.non,_,I.lset b e (by simp) (r.append (.cons g .nil)) ?_,rfl,q⟩;rw[eB,g8];omega
noncomputable def b5V:V->List V->Hp->VK->Prop:=λx vs H Q=>∃ l b xs zs,x=.ref l/\vs=[.ref b]/\H l=some (.lst xs)/\H b=some (.lst zs)/\xs.length+zs.length<=jK/\Q .non (upd H l (.lst (xs++zs)))
theorem b1j:MtM X "list.extend" b5V:=by
 intro k s σ H x A v C Q I i j h;obtain⟨l,b,B,E,rfl,rfl,f,t,G,q⟩:=h;cases i;obtain⟨u,rfl,p⟩:=j.one;cases p;obtain⟨z,c,n,r,D,e⟩:=I.lstM f;obtain⟨J,a,w,m,y,o⟩:=I.lstM t;have g:c.toArray.size+a.toArray.size<=sizeLine:=by grind
 have d:¬ (!c.toArray.isEmpty&&jV.List.listTooLong (c.toArray.size+a.toArray.size))=true:=by
  rw[a9n g,iC];exact eX
 refine kM F.slot_list_extend ⟨_,e,rfl⟩ F.entry_list_extend (F.args_list_extend_2 _ _)
  (AutoSeq1.list_extend_list_list_0 l c.toArray n b a.toArray w d (by grind) (by omega)) ⟨e,o,?_⟩
 refine⟨.non,_,I.lset f e (by simp) (r.append m) ?_,rfl,q⟩;rw[eB];omega
noncomputable def b7N:V->List V->Hp->VK->Prop:=λx vs H Q=>∃ l xs,x=.ref l/\vs=[]/\H l=some (.lst xs)/\Q .non (upd H l (.lst []))
theorem b3v:MtM X "list.clear" b7N:=by
 intro f s σ H x i v m Q I d g h;obtain⟨l,k,rfl,rfl,c,q⟩:=h;cases d;have b:=g.zero;subst b;obtain⟨z,a,n,r,j,e⟩:=I.lstM c;refine kM F.slot_list_clear ⟨_,e,rfl⟩ F.entry_list_clear (F.args_list_clear_1 _) (AutoSeq1.list_clear_list_0 l a.toArray n (by grind)) ⟨e,?_⟩;exact⟨.non,_,I.lset c e rfl .nil (fg _),rfl,q⟩
noncomputable def rCat:R2:=λx y H Q=>∃ l b xs zs,x=.ref l/\y=.ref b/\H l=some (.lst xs)/\H b=some (.lst zs)/\xs.length+zs.length<=jK/\∀ p,H p=none->Q (.ref p) (upd H p (.lst (xs++zs)))
theorem b7O:OpR X (jY .Add) rCat:=by
 intro i s σ H x y v u Q I f k h;obtain⟨l,b,C,w,rfl,rfl,m,d,A,q⟩:=h;cases f;cases k;obtain⟨z,c,n,r,t,e⟩:=I.lstM m;obtain⟨B,a,D,o,p,g⟩:=I.lstM d;refine PySem.P.add_list e g ?_ (by grind);have j:c.toArray++a.toArray=(c++a).toArray:=by simp
 rw[j];exact⟨.ref _,_,I.lnew (r.append o) (by grind),rfl,q _ I.fresh⟩
noncomputable def rRep:R2:=λx y H Q=>∃ l k xs,x=.ref l/\y=.int k/\H l=some (.lst xs)/\-(2 ^ 63)<=k/\k<2 ^ 63/\xs.length*k.toNat<=jK /\
 ∀ p,H p=none->Q (.ref p) (upd H p (.lst (eM k.toNat xs).flatten))
theorem b5W {α:Type}(xs:List α) (k:Nat):(eM k xs).flatten.length=k*xs.length:=by simp
theorem b7P:OpR X (jY .Mult) rRep:=by
 intro A s σ H x y v u Q I G w h;obtain⟨l,k,M,rfl,rfl,L,D,C,p,q⟩:=h;cases G;obtain⟨t,rfl⟩:=w;obtain⟨z,b,n,r,J,e⟩:=I.lstM L;have g:b.toArray.size*k.toNat<=sizeLine:=by simp_all
 have d:¬ b.toArray.size*k.toNat > (2 ^ 63 - 1) / 8:=by
  have:jK<=(2 ^ 63 - 1) / 8:=by decide
  omega
 have j:¬ (!jV.List.listFitsIndex k)=true:=by
  rw[fitsIndex_both D C];exact eX
 have c:¬ jV.List.listTooLong (b.toArray.size*k.toNat)=true:=by
  rw[a9n g];exact eX
 have i:List.foldl (λf o=>f++o) #[] (eM (if b.toArray.isEmpty=true then 0 else k.toNat) b.toArray)=(eM k.toNat b).flatten.toArray:=by
  have B:=λm=>by
   have:=a7L b m []
   rw[gc]at this;exact this
  rw[B];cases b with
  | nil=>simp
  | cons a r'=>rw[if_neg (by simp)]
 refine wpAny_binaryOp_repeat_ref (by simp) ⟨_,e,rfl⟩ (λE=>mm E k t) noFill_list_mul F.fills_int_mul F.slot_int_rmul repeat_list F.slot_int_index.lookup
  (kM F.slot_int_rmul (mm s k t) F.entry_int_rmul (F.args_int_rmul_2 _ _) (int___rmul___int_list k t l b.toArray n)
   ⟨e,rfl,⟨_,e,rfl⟩,kM F.slot_list_mul ⟨_,e,rfl⟩ F.entry_list_mul (F.args_list_mul_2 _ _) (AutoListH.list___mul___list_int_3 l b.toArray n k t j d c) ⟨e,?_⟩⟩)
 rw[i];exact⟨.ref _,_,I.lnew (r.rep k.toNat) (by rw[b5W,Nat.mul_comm];exact p),rfl,q _ I.fresh⟩
end
section
variable {prog:jO}{w:World}{A:Around}{E:Value->Shared->Prop}{s:Shared}
end
section
variable {X:Cx}
end
end L2
namespace Att
open PySem PySem.W PySem.Calls PyProof.Rows
theorem a5I:∀ (ns:List Int) (vs:List Value),WellAll P h vs (ns.map WData.int)->kb vs ns:=by
 intro c
 induction c with
 | nil=>
  intro d w;cases w;exact .nil
 | cons n c ih=>
  intro d w;cases w with
  | cons a b=>
   cases a;exact .cons _ _ (ih _ b)
theorem b1k {l:OpenLaw}(hn:l.most=some n)
  (hpre:l.row.toRowW.claim.pre args=true) (hwl:WellAll P h vals args) :
  ∃ a vs ns,vals=[Value.ref a]/\args=[WData.list (ns.map WData.int)]/\h.get? a=some { cls:=.type "list",data:=.seq vs.toArray }/\kb vs ns/\ns.length<=n:=by
 have i:=(pre_splitW hpre).1;have g:l.pre.holds [] { args:=args }=true:=(pre_splitW hpre).2;obtain⟨d,r,rfl,j,m⟩:=hasAllW_cons i;obtain rfl:=hasAllW_nil m;obtain⟨p,rfl,o⟩:=hasW_list j;obtain⟨b,rfl⟩:=items_int o;have f:b.length<=n:=by
  have c:(WTm.not (.lt (.lit (.int n)) (.len (.arg 0)))).holds [] { args:=[.list (b.map .int)] }=true:=by
   have c:=(holds_andW g).1;rw[hn]at c;exact c
  have e:=condW_of c (w_not (w_lt w_lit (w_len_list (w_arg rfl))))
  first
   | (rw[decide_eq_true k]at e;exact absurd e (by simp))
   | (simp at e;omega)
 cases hwl with
 | cons w1 w2=>
  cases w2;cases w1 with
  | list ho hall=>exact⟨_,_,b,rfl,rfl,ho,a5I b _ hall,f⟩
theorem b1l (l:OpenLaw) (args:List WData):l.row.toRowW.claim.post args (.bool true) args=true:=
 postW_of
  (show WShape.has [] _ .bool=true by first | rfl | decide | simp)
  (w_eq_bool (w_res rfl) w_lit) rfl
theorem attach_call {l:OpenLaw}
  (hn:l.most=some n) (hdf:d.params.defaults=[])
  (call:∀ (w:World) (s₀ sj:Shared) (mg mb:Str->Option Value) (fa:Addr) (o:Obj) (pm cd doc:Value) (a:Addr) (vs:List Value) (ns:List Int),
   Ground q loose [] XP w s₀ mg mb sj.heap->YP w sj.heap ->
   sj.heap.get? fa=some o->o.data=.func (docDef d.name d.params d.body d.scope pm cd doc)->sj.heap.CodeRec cd d.name->mg d.name=some (.ref fa) ->
   sj.heap.get? a=some { cls:=.type "list",data:=.seq vs.toArray }->kb vs ns->ns.length<=n->sj.gens=#[] ->
   kj (model l.prog w) kG (.call (.ref fa) ⟨[.ref a],[]⟩) (λr s'=>r=.ok (.ret (.bool true))/\OldK sj.heap s'.heap/\s'.os=sj.os/\kh s'.gens) sj) :
  WalkO q loose XP YP l.row.toRowW d [] (λf vs=>PySem.call f vs):=by
 intro w C s D y G Y x o F v i Q H L B k h j N u J U c A S m T;obtain rfl:Q=.none:=Dflts.none h hdf;obtain rfl:H=.none:=Dflts.noKw h;obtain⟨a,I,E,rfl,rfl,g,b,e⟩:=b1k hn c m;refine enter_call (lC (call w C s D y x o F v i a I E G Y L (fd_plain B) k j g b e N) λr V R=>?_);obtain⟨rfl,t,z,M⟩:=R;exact⟨.inl ⟨.bool true,.bool true,[],rfl,λ_=>rfl,.bool true,b1l l _,λ_=>⟨fk.nil,λ_ p=>(nomatch p)⟩⟩,t,z,M⟩
section
variable {prog:jO}{w:World}{A:Around}{E:Value->Shared->Prop}{s:Shared}{K:Frag}
end
end Att
namespace L2
open PySem PySem.Spec PyProof.Rows
theorem a7N:∀ {vs:List Value}{ns:List Int},kb vs ns->Vals (ns.map V.int) vs
 | _,_,.nil=>.nil
 | _,_,.cons n t h=>.cons ⟨t,rfl⟩ (a7N h)
noncomputable def Only (H:Hp):Prop:=∀ b,H b=none\/∃ o xs,H b=some (.frz o (.lst xs))
theorem b3w {K:Fg}
  (KX:K.In sj.heap) (hns:sj.heap.Ns jP mg) (hb:sj.heap.Ns l5 mb) (hbb:∀ x:Str,x≠"__name__"->mb x=kt x) (hlim:sj.heap.NoLimit) (hg:sj.gens=#[])
  (ha:sj.heap.get? a=some { cls:=.type "list",data:=.seq vs.toArray }) (hi:kb vs ns) (hl:ns.length<=jK) (hr:Room k kG)
  (F:∀ base:Heap,K.In base->base.Ns jP mg->FnOk P w K mg base CX k fa fd [x] sp) (hbind:∀ (s:Shared) (u:Value),kJ s fd ⟨[u],[]⟩ [(x,u)])
  (hsp:∀ H:Hp,Only H->SqL K H a (ns.map V.int)->sp [.ref a] H (λv _=>v=.bl true) λ_ _ _=>False)
  (hCX:∀ H e s',CX [] H sj (λ_ _ _=>False) e s'->False) :
  kj (model P w) kG (.call (.ref fa) ⟨[.ref a],[]⟩) (λr s'=>r=.ok (.ret (.bool true))/\OldK sj.heap s'.heap/\s'.os=sj.os/\kh s'.gens) sj:=by
 have L:=a7N hi;have E:=hi.length;have p:∀ H:Hp,Only H->SqL K H a (ns.map V.int)->HOk P w H sj.heap->(∀ b,H b≠none->b=a)->(H a≠none->K.lookup a=none) ->
   kj (model P w) kG (.call (.ref fa) ⟨[.ref a],[]⟩) (λr j=>r=.ok (.ret (.bool true))/\OldK sj.heap j.heap/\j.os=sj.os/\kh j.gens) sj:=by
  intro H I R y G X;have f:∀ {b:Addr}{o:Obj},sj.heap.get? b=some o->H b=none->(hidT sj.heap H).get? b=some o:=λe n=>b3h e n;have N:∀ {b:Addr}{o:Obj}{i:Array mf}{l:Nat},sj.heap.get? b=some o->o.data=.dict i l->H b=none:=λ{b o i l} e d=>by grind
  have g:∀ {b:Addr}{m:Str->Option Value},sj.heap.Ns b m->(hidT sj.heap H).Ns b m:=λ{b m} ⟨o,i,l,e,d,r⟩=>⟨o,i,l,f e (N e d),d,r⟩;have A:=λb o e=>f (KX b o e) (by grind);have T:Mod K mg (hidT sj.heap H):=⟨A,g hns,⟨mb,g hb,hbb⟩,let ⟨mc,h1,h2⟩:=hlim;⟨mc,g h1,h2⟩⟩;have U:Env0 P w K mg (hidT sj.heap H) kG [] sj H:=⟨rfl,T,λb o e=>b5A e,gn (b0U _ _),trivial,λb hb=>absurd (show b∈([]) from hb) (by simp),y,.of_eq hg⟩;refine lC ((F _ A (g hns)).run kG [] sj H ⟨[.ref a],[]⟩ [.ref a] [.ref a] _ _ hr U (hbind sj (.ref a)) (.cons rfl .nil) (hsp H I R)) λr j h=>?_;cases r with
  | error e=>exact (hCX H e j h).elim
  | ok fl=>
   cases fl with
   | next=>exact er h
   | brk=>exact er h
   | cont=>exact er h
   | ret u=>
    obtain⟨v,H',Q,C,J,B,S,q⟩:=h;have q':=q;subst q';obtain rfl:u=Value.bool true:=S;refine⟨rfl,OldK.of_keep λb o e=>?_,Q,C⟩;cases q:H b with
    | none=>exact J.keep b o e q (by intro z;exact absurd (show b∈([]) from z) (by simp)) (by simp)
    | some u=>
     rcases I b with z | ⟨ob,xs,z⟩
     ·rw[q]at z;cases z
     ·have z2:=J.frzs b ob _ z;obtain⟨M,_⟩:=y b _ z;obtain⟨Y,_⟩:=B b _ z2;rw[e]at M;cases M;exact Y
 cases hk:K.lookup a with
 | some o=>
  have e:=KX a o hk;rw[ha]at e;cases e;refine p _ (λ_=>.inl rfl) (.inr ⟨_,vs.toArray,_,hk,rfl,rfl,rfl,by rw[fv,E];exact hl,by simpa using L⟩) (λb u z=>by have t:=z;cases t) (λb z=>absurd rfl z) λz=>absurd rfl z
 | none=>
  refine p (λb=>if b=a then some _ else none) (λb=>?_) (.inl (.inr ⟨{ cls:=.type "list",data:=.seq vs.toArray },if_pos rfl⟩)) (λb u z=>?_) (λb z=>?_) λ_=>hk
  ·grind
  ·by_cases hb:b=a
   ·have t:=(if_pos hb).symm.trans z;cases t;subst hb;exact⟨ha,by rw[dY];exact hl,vs,_,L,ha⟩
   ·have t:=(if_neg hb).symm.trans z;cases t
  ·by_cases hb:b=a
   ·exact hb
   ·exact absurd (if_neg hb) z
theorem walk_of {l:PySem.W.OpenLaw}{K:Params->Fg}{CX:World->CXT}{sp:World->Sp}
  (hn:l.most=some n) (hn2:n<=jK) (hdf:d.params.defaults=[]) (hr:Room k kG)
  (hY:∀ (w:World) (h:Heap),YP w h->(K w.params).In h)
  (F:∀ (w:World) (mg:Str->Option Value) (fa:Addr) (h:Heap),(K w.params).In h->h.Ns jP mg->mg d.name=some (.ref fa) ->
   ∃ fd:jQ,(∀ (s:Shared) (u:Value),kJ s fd ⟨[u],[]⟩ [(x,u)]) /\
    ∀ base:Heap,(K w.params).In base->base.Ns jP mg->FnOk l.prog w (K w.params) mg base (CX w) k fa fd [x] (sp w))
  (hsp:∀ (w:World) (H:Hp) (a:Addr) (ns:List Int),ns.length<=n->Only H->SqL (K w.params) H a (ns.map V.int)->sp w [.ref a] H (λv _=>v=.bl true) λ_ _ _=>False)
  (hCX:∀ (w:World) (H:Hp) (s:Shared) (e:Value) (s':Shared),CX w [] H s (λ_ _ _=>False) e s'->False) :
  PySem.W.WalkO q loose XP YP l.row.toRowW d [] (λf vs=>PySem.call f vs):=by
 refine Att.attach_call hn hdf λw N r y U B o R Q J a S z G Y X M L p j i c D=>?_;have m:=hY w _ Y;obtain⟨fd,C,A⟩:=F w y B _ m G.T.g p;exact b3w m G.T.g G.T.b G.T.builtins G.T.nolimit D j i (eF c hn2) hr A C (λH I E=>hsp w H a z c I E) λH e t=>hCX w H r e t
noncomputable def a1z (s:Stmt) (j:Nat):Stmt:=match s with
 | .ClassDef _ _ _ body _ _ _ _ _ _ _=>body.getD j (.Pass ⟨0,0,0,0⟩)
 | _=>.Pass ⟨0,0,0,0⟩
noncomputable def a3N (s:Stmt):Arguments:=match s with
 | .FunctionDef _ a _ _ _ _ _ _ _ _=>a
 | _=>{ posonlyargs:=[],args:=[],vararg:=none,kwonlyargs:=[],kw_defaults:=[],kwarg:=none,defaults:=[] }
noncomputable def a12 (s:Stmt):List Stmt:=match s with
 | .FunctionDef _ _ b _ _ _ _ _ _ _=>b
 | _=>[]
noncomputable def a0e (s:Stmt):Scope:=match s with
 | .FunctionDef _ _ _ _ _ _ sc _ _ _=>sc
 | _=>{ kind:=.function,names:=[],isGenerator:=false,isCoroutine:=false }
abbrev CX0:CXT:=λ_ _ _ _ _ _=>False
abbrev E0:XK:=λ_ _ _=>False
theorem b3x:a2N CX0 X E0:=λ_ _ _ _ _ _ _ h=>h.elim
structure Fun (K:Fg) (x qual:Str) (st:Stmt) (f:Addr) (fd:jQ):Prop where
 ex:∃ (oc:Value) (od:Option Addr) (kV doc pm:Value) (an:Option Addr) (cdv ct:Value) (osl:Array (Option Value)),
  fd=PySem.W.fnOf x qual (a3N st) (a12 st) (a0e st) .none kV doc pm an cdv ct/\K.lookup f=some ⟨oc,od,.func fd,osl⟩/\PySem.W.codeIn K cdv qual=true
 kp:PySem.W.keepIn K (.ref f)=true
section
variable {P:jO}{w:World}{K:Fg}{mg:Str->Option Value}{base:Heap}
theorem Fun.ok {st:Stmt}(F:Fun K x qual st f fd) (S:FnScope N ps (a0e st)) (len:∀ vs H Q E,sp vs H Q E->vs.length=ps.length)
  (hbody:∀ (cdv:Value) (A:Around) (outer:List Env) (s:Shared) (H:Hp) (vs:List V) (Q:VK) (E:XK),Room k (A.deeper (envOfC qual (a0e st) s.heap.objs.size f cdv))->sp vs H Q E ->
   ∃ t,PSs (cxOf CX0 P w K mg base N qual (a0e st) f cdv A outer s H E).nox (a12 st) t/\t { nx:=λ_ H'=>Q .non H',rt:=Q } (start N vs) H):FnOk P w K mg base CX0 (k+1) f fd ps sp:=by
 obtain⟨n,u,r,l,m,o,c,p,j,rfl,i,d⟩:=F.ex;refine b7J i d S len λA a s H g Q E e b=>?_;obtain⟨t,h,q⟩:=hbody c A a s H g Q E e b;exact⟨t,h.nox,q⟩
theorem Fun.binds {st:Stmt}(F:Fun K x qual st f fd)
  (h:∀ (kV doc pm:Value) (an:Option Addr) (cdv ct:Value) (us:List Value),us.length=ps.length->bindArgs (PySem.W.fnOf x qual (a3N st) (a12 st) (a0e st) .none kV doc pm an cdv ct) ⟨us,[]⟩=pure (ps.zip us)):Binds K fd ps []:=by
 obtain⟨k,l,g,a,e,d,b,c,i,rfl,m,j⟩:=F.ex;exact .all (h g a e d b c)
theorem b4J {st:Stmt}{kV doc pm cdv ct:Value}(l:K.lookup f=some ⟨oc,od,.func (PySem.W.fnOf x qual (a3N st) (a12 st) (a0e st) .none kV doc pm an cdv ct),osl⟩)
  (c:PySem.W.codeIn K cdv qual=true) (k:PySem.W.keepIn K (.ref f)=true):Fun K x qual st f (PySem.W.fnOf x qual (a3N st) (a12 st) (a0e st) .none kV doc pm an cdv ct):=⟨⟨oc,od,kV,doc,pm,an,cdv,ct,osl,rfl,l,c⟩,k⟩
end
theorem a0v (h:n<=1000):n<sizeLine:=ge h (by decide)
section
variable {X:Cx}
theorem pv (i:Nat) (hN:X.N[i]?=some x:=by rfl) (hv:Vis X.env.scope x:=by first | exact ee rfl | exact fJ (ee rfl) | exact fJ (fJ rfl)) (hd:(x==("__debug__":Str))=false:=by decide)
  (hcd:(x==("__classdict__":Str))=false:=by decide):PE X (.Name x pos) (tVar i):=b7f hN hv hd hcd
end
noncomputable def Same (H H':Hp):Prop:=∀ b o,H b=some o->H' b=some o
theorem Same.refl (H:Hp):Same H H:=λ_ _ h=>h
theorem Same.trans (a:Same H H1) (b:Same H1 H2):Same H H2:=λc o h=>b c o (a c o h)
theorem Same.free (e:Same H H') (h:H' l=Option.none):H l=Option.none:=by
 cases q:H l with
 | none=>rfl
 | some o=>
  rw[e l o q]at h;cases h
theorem Same.seq {K:Fg}(e:Same H H') (h:SqL K H a xs):SqL K H' a xs:=by
 rcases h with (h | ⟨o,h⟩) | h
 ·exact .inl (.inl (e _ _ h))
 ·exact .inl (.inr ⟨o,e _ _ h⟩)
 ·exact .inr h
section
variable {κ:Type}[DecidableEq κ]
noncomputable def valV (kvs:List (κ×V)) (k:κ):Option V:=(kvs.find? λkv=>decide (kv.1=k)).map (·.2)
noncomputable def putK (kvs:List (κ×V)) (k:κ) (v:V):List (κ×V):=
 if (kvs.any λkv=>decide (kv.1=k))=true then kvs.map (λkv=>if kv.1=k then (kv.1,v) else kv) else kvs++[(k,v)]
noncomputable def b7Q (kvs:List (κ×V)) (k:κ):List (κ×V):=kvs.filter λkv=>decide (kv.1≠k)
theorem a64 {k:κ}(e:p.1=k):valV (p::r) k=some p.2:=by simp[valV,fK,e]
theorem a65 {k:κ}(e:¬ p.1=k):valV (p::r) k=valV r k:=by simp[valV,fK,e]
theorem a66 (k:κ):∀ kvs:List (κ×V),(kvs.any λkv=>decide (kv.1=k))=(valV kvs k).isSome
 | []=>rfl
 | p::r=>by
  rw[gr]
  by_cases e:p.1=k
  ·simp only[a64 e,decide_eq_true e,Bool.true_or,Option.isSome_some]
  ·rw[a65 e,decide_eq_false e,Bool.false_or];exact a66 k r
theorem a2l (kvs:List (κ×V)) (k:κ) (v:V):(putK kvs k v).length<=kvs.length+1:=by grind [putK]
theorem RelO.isSome_eq (r:RelO o u):o.isSome=u.isSome:=by
 cases o with
 | none=>cases u with
  | none=>rfl
  | some _=>exact (r).elim
 | some _=>cases u with
  | none=>exact (r).elim
  | some _=>rfl
theorem RelO.getD (r:RelO o u) (rd:RelV d d'):RelV (o.getD d) (u.getD d'):=by
 cases o with
 | none=>cases u with
  | none=>exact rd
  | some _=>exact (r).elim
 | some _=>cases u with
  | none=>exact (r).elim
  | some _=>exact r
theorem KV.val (r:KV kvs vs) (k:κ):RelO (valV kvs k) (kO vs k):=by
 induction r with
 | nil=>exact True.intro
 | @cons p q ps qs h t ih=>
  obtain⟨c,d⟩:=h
  by_cases e:p.1=k
  ·have a:=c.symm.trans e;have b:kO (q::qs) k=some q.2:=by simp[kO,a]
   rw[a64 e,b];exact d
  ·have a:¬ q.1=k:=λz=>e (c.trans z);have b:kO (q::qs) k=kO qs k:=by simp[kO,a]
   rw[a65 e,b];exact ih
theorem KV.any (r:KV kvs vs) (k:κ):(kvs.any λkv=>decide (kv.1=k))=vs.any λkv=>decide (kv.1=k):=by
 induction r with
 | nil=>rfl
 | cons h t ih=>rw[gr,gr,ih,h.1]
theorem KV.repl (r:KV kvs vs) (k:κ) (ry:RelV y u) :
  KV (kvs.map λkv=>if kv.1=k then (kv.1,y) else kv) (vs.map λkv=>if kv.1=k then (kv.1,u) else kv):=by
 induction r with
 | nil=>exact .nil
 | @cons p q ps qs h t ih=>
  rw[eG,eG];refine .cons ?_ ih;obtain⟨a,b⟩:=h
  by_cases e:p.1=k
  ·rw[if_pos e,if_pos (a.symm.trans e)];exact⟨a,ry⟩
  ·rw[if_neg e,if_neg (λz=>e (a.trans z))];exact⟨a,b⟩
theorem KV.put (r:KV kvs vs) (k:κ) (ry:RelV y u):KV (putK kvs k y) (stored vs k u):=by
 unfold putK stored;rw[r.any k]
 by_cases e:(vs.any λkv=>decide (kv.1=k))=true
 ·rw[if_pos e,if_pos e];exact r.repl k ry
 ·rw[if_neg e,if_neg e];exact Paired.snoc r ⟨rfl,ry⟩
theorem KV.drop (r:KV kvs vs) (k:κ):KV (b7Q kvs k) (without vs k):=by
 unfold b7Q without
 induction r with
 | nil=>exact .nil
 | @cons p q ps qs h t ih=>
  obtain⟨c,d⟩:=h;rw[fw,fw]
  by_cases e:p.1=k
  ·simp_all
  ·have f:¬ q.1=k:=λz=>e (c.trans z);have a:decide (p.1≠k)=true:=by simp[e]
   have b:decide (q.1≠k)=true:=by simp[f]
   rw[if_pos a,if_pos b];exact .cons ⟨c,d⟩ ih
theorem KV.keys {kvs:List (κ×V)}(r:KV kvs vs):kvs.map (·.1)=vs.map (·.1):=by
 induction r with
 | nil=>rfl
 | cons h t ih=>rw[eG,eG,ih,h.1]
theorem KV.length (r:KV kvs vs):kvs.length=vs.length:=Paired.length r
end
theorem b0q (r:RelV (kV k) u):(a0N P w).is k u=true:=by
 match k,r with
 | .inl (some i),r=>obtain⟨t,e⟩:=(r);subst e;exact a8I P w i t
 | .inl none,r=>rw[r];rfl
 | .inr x,r=>obtain⟨t,e⟩:=(r);subst e;exact a8J P w x t
theorem a7O:∀ {ks:List Key}{us:List Value},Vals (ks.map kV) us->ItemsAre (a0N P w) ks us
 | [],_,r=>by rw[eQ]at r;cases r;exact .nil
 | k::ks,_,r=>by
  cases r with
  | cons h t=>exact .cons (b0q h) (a7O t)
abbrev KT (H:Hp):List (List Key×V)->List (List Key×Addr×Value)->Prop:=Paired λp q=>p.1=q.1/\H q.2.1=some (.tup (p.1.map kV))/\RelV p.2 q.2.2
theorem KT.val (r:KT H kvs xs) (k:List Key):RelO (valV kvs k) ((atKey xs k).map (·.2)):=by
 induction r with
 | nil=>exact True.intro
 | @cons p q ps qs h t ih=>
  obtain⟨c,_,d⟩:=h
  by_cases e:p.1=k
  ·have a:=c.symm.trans e;have b:atKey (q::qs) k=some q.2:=by simp[atKey,a]
   rw[a64 e,b];exact d
  ·have a:¬ q.1=k:=λz=>e (c.trans z);have b:atKey (q::qs) k=atKey qs k:=by simp[atKey,a]
   rw[a65 e,b];exact ih
theorem KT.repl (r:KT H kvs xs) (k:List Key) (ry:RelV y u) :
  KT H (kvs.map λkv=>if kv.1=k then (kv.1,y) else kv) (xs.map (putAt k u)):=by
 induction r with
 | nil=>exact .nil
 | @cons p q ps qs h t ih=>
  rw[eG,eG];refine .cons ?_ ih;obtain⟨a,b,c⟩:=h;unfold putAt
  by_cases e:p.1=k
  ·rw[if_pos e,if_pos (a.symm.trans e)];exact⟨a,b,ry⟩
  ·rw[if_neg e,if_neg (λz=>e (a.trans z))];exact⟨a,b,c⟩
theorem KT.put (r:KT H kvs xs) (k:List Key) (hb:H b=some (.tup (k.map kV))) (ry:RelV y u) :
  KT H (putK kvs k y) (ko xs k b u):=by
 have e:(kvs.any λa=>decide (a.1=k))=(atKey xs k).isSome:=by
  rw[a66,(r.val k).isSome_eq,je]
 unfold putK ko;rw[e]
 by_cases q:(atKey xs k).isSome=true
 ·rw[if_pos q,if_pos q];exact r.repl k ry
 ·rw[if_neg q,if_neg q];exact Paired.snoc r ⟨rfl,hb,ry⟩
theorem KT.keeps (r:KT H kvs xs) (ht:∀ b ys,H b=some (.tup ys)->H' b=some (.tup ys)):KT H' kvs xs:=
 Paired.mapP r λ_ _ z=>⟨z.1,ht _ _ z.2.1,z.2.2⟩
section
variable {P:jO}{w:World}{H:Hp}{h:Heap}{a:Addr}
theorem b7R (ok:HOk P w H h) (e:Rd H a u):ObjOk P w H h a u:=e.ok ok
theorem b5X (ok:HOk P w H h) (e:Rd H a (.dK kvs)):kvs.length<=jK/\(a==kg)=false/\∃ vs,KV kvs vs/\h.DictOf (a0N P w) a vs:=
 b7R ok e
theorem b1m (ok:HOk P w H h) (e:H a=some (.dK kvs)):kvs.length<=jK/\(a==kg)=false/\∃ vs,KV kvs vs/\h.DictOf (a0N P w) a vs:=b5X ok (.inl e)
theorem a7P (ok:HOk P w H h) (e:H a=some (.tup (ks.map kV))):(j5 (a0N P w)).is h ks a:=by
 obtain⟨_,b,r,o,d,c,n,f⟩:=(ok a _ e);exact⟨o,b.toArray,n,d,c,f,by simpa using a7O r⟩
theorem b5Y (ok:HOk P w H h) (e:Rd H a (.dT kvs)):kvs.length<=jK/\(a==kg)=false /\
  ∃ xs,KT H kvs xs/\h.DictOfH (j5 (a0N P w)) a xs:=by
 obtain⟨z,y,g,r,o,d,s,j,k,f,n,i⟩:=(b7R ok e);refine⟨z,y,g,r,o,d,s,j,k,f,n,λx b=>?_,i⟩;have c:∀ {l:List _}{m:List _},KT H l m->∀ x∈m,(j5 (a0N P w)).is h x.1 x.2.1:=by
  intro l m q
  induction q with
  | nil=>intro x b;exact nomatch b
  | @cons p q ps qs hq t ih=>
   intro x b;rcases eC.mp b with e | b
   ·subst e;exact a7P ok (by simp_all)
   ·exact ih x b
 exact c r x b
theorem c0c (ok:HOk P w H h) (e:H a=some (.dT kvs)):kvs.length<=jK/\(a==kg)=false /\
  ∃ xs,KT H kvs xs/\h.DictOfH (j5 (a0N P w)) a xs:=b5Y ok (.inl e)
end
noncomputable def DGet (H:Hp) (a:Addr) (y:V) (r:Option V):Prop:=
 (∃ kvs k,Rd H a (.dK kvs)/\y=kV k/\r=valV kvs k)\/∃ kvs k b,Rd H a (.dT kvs)/\y=.ref b/\H b=some (.tup (k.map kV))/\r=valV kvs k
noncomputable def DPut (H:Hp) (a:Addr) (y v:V) (H':Hp):Prop:=
 (∃ kvs k,H a=some (.dK kvs)/\y=kV k/\kvs.length<jK/\H'=upd H a (.dK (putK kvs k v))) \/
 ∃ kvs k b,H a=some (.dT kvs)/\y=.ref b/\H b=some (.tup (k.map kV))/\kvs.length<jK/\H'=upd H a (.dT (putK kvs k v))
theorem DGet.k {k:Key}(e:H a=some (.dK kvs)):DGet H a (kV k) (valV kvs k):=.inl ⟨kvs,k,.inl e,rfl,rfl⟩
theorem DGet.t {k:List Key}(e:H a=some (.dT kvs)) (eb:H b=some (.tup (k.map kV))):DGet H a (.ref b) (valV kvs k):=.inr ⟨kvs,k,b,.inl e,rfl,eb,rfl⟩
theorem DPut.k {k:Key}(e:H a=some (.dK kvs)) (hl:kvs.length<jK):DPut H a (kV k) v (upd H a (.dK (putK kvs k v))):=.inl ⟨kvs,k,e,rfl,hl,rfl⟩
theorem DPut.t {k:List Key}(e:H a=some (.dT kvs)) (eb:H b=some (.tup (k.map kV))) (hl:kvs.length<jK) :
  DPut H a (.ref b) v (upd H a (.dT (putK kvs k v))):=.inr ⟨kvs,k,b,e,rfl,eb,hl,rfl⟩
section
variable {X:Cx}{pins:List (Addr×Obj)}{σ:St}{H:Hp}{s:Shared}{a:Addr}{y v:V}{u r:Value}{o:Option V}{A:Around}{E:Value->Shared->Prop}
theorem Inv.big (I:Inv X pins σ H s):kg<s.heap.objs.size:=by
 have h:=(I.mod.glob.keeps I.bk).lt;exact gM (by decide) h
theorem b5Z (hu:A.units+1<cLine) (I:Inv X pins σ H s) (g:DGet H a y o) (ry:RelV y u) (h:∀ s',Inv X pins σ H s'->Q (.bool (!o.isSome)) s') :
  wpAny (model X.prog X.w) A (jT .NotIn u (.ref a)) Q E s:=by
 rcases g with ⟨kvs,k,e,ey,l⟩ | ⟨kvs,k,b,e,ey,eb,l⟩
 ·subst ey;obtain⟨z,f,i,c,d⟩:=b5X I.hok e;refine wpAny_notIn_of (b0q ry) f d.mapOf ?_;rw[<- (c.val k).isSome_eq,<- l];exact h _ (I.tok _)
 ·subst ey;cases (ry);obtain⟨z,f,j,c,d⟩:=b5Y I.hok e;refine wpAny_notIn_heap (lH hu) (a7P I.hok eb) f d ?_;have q:=(c.val k).isSome_eq;rw[je]at q;rw[<- q,<- l];exact h _ (I.tok _)
theorem a8L (I:Inv X pins σ H s) (mu:Mut (H a)) (hs:Heap.SameBut a s.heap h') (he:∃ q,h'.get? a=some q) (new:ObjOk X.prog X.w (upd H a ob) h' a ob) :
  Inv X pins σ (upd H a ob) { s with heap:=h',toks:=t' }:=
 I.write mu (.inl rfl) (λb q c z=>(hs.2 b c).trans z) he new
theorem b4K (z:kvs.length<=jK) (hd:(a==kg)=false) (rel:KV kvs vs) (dd:h'.DictOf (a0N P w) a vs) :
  ObjOk P w H' h' a (.dK kvs):=⟨z,hd,vs,rel,dd⟩
theorem b1n (hu:A.units+1<cLine) (I:Inv X pins σ H s) (g:DPut H a y v H') (ry:RelV y u) (rv:RelV v r) (h:∀ s',Inv X pins σ H' s'->Q () s') :
  wpAny (model X.prog X.w) A (lw (.ref a) u r) Q E s:=by
 rcases g with ⟨kvs,k,e,ey,l,eH⟩ | ⟨kvs,k,b,e,ey,eb,l,eH⟩
 ·subst ey eH;obtain⟨z,m,F,d,p⟩:=b1m I.hok e;have o:F.length<=sizeLine:=by rw[<- d.length];exact z
  have n:(putK kvs k v).length<=sizeLine:=by have:=a2l kvs k v;omega
  refine wpAny_setItem_pairs (b0q ry) p λx f j=>h _ ?_;have L:∃ q,x.get? a=some q:=let ⟨q,_,_,i,_⟩:=f;⟨q,i⟩
  exact a8L I (by rw[e];exact True.intro) j L (b4K n m (d.put k rv) f)
 ·subst ey eH;cases (ry);obtain⟨z,m,D,d,p⟩:=c0c I.hok e;have o:D.length<=sizeLine:=by rw[<- Paired.length d];exact z
  have n:(putK kvs k v).length<=sizeLine:=by have:=a2l kvs k v;omega
  refine wpAny_setItem_heap (hsz:=o) (lH hu) (a7P I.hok eb) p λx f j=>h _ ?_;obtain⟨q,C,M,i,J,N,B,_,G⟩:=f;refine a8L I (by rw[e];exact True.intro) j ⟨q,i⟩ ⟨n,m,_,(d.put k eb rv).keeps λc R t=>?_,q,C,M,i,J,N,B,G⟩;rw[a0r (b9Q t e (λz=>nomatch z))];exact t
end
section
variable {X:Cx}{pins:List (Addr×Obj)}{σ:St}{H:Hp}{s:Shared}{a:Addr}{kvs:List (Key×V)}{k:Key}{u:Value}{A:Around}{E:Value->Shared->Prop}
end
section
variable {X:Cx}{o i e value:Expr}{pos pos' tpos:Pos}{td ty tv:TE}
end
theorem a9o (h:Heap) (hb:kg<h.objs.size):ObjOk P w H (h.push { cls:=.type "dict",data:=.dict #[] }) h.objs.size (.dK []):=
 ⟨fg _,beq_eq_false_iff_ne.mpr (Ne.symm (eJ hb)),[],.nil,Heap.DictOf.new h⟩
noncomputable def b7S:TE:=λ_ H Q=>∀ p,H p=none->Q (.ref p) (upd H p (.dK []))
section
variable {X:Cx}{pos:Pos}
theorem b3y:PE X (.Dict [] [] pos) b7S:=λb s σ H Q I h=>
 wpAny_Dict_empty ⟨.ref s.heap.objs.size,_,I.laid (λ_ _ q=>Heap.get?_push_of_some _ q) (eh _) (a9o s.heap I.big),rfl,h _ (I.hok.fresh (eh _))⟩
end
noncomputable def b7T (kvs more:List (Key×V)):List (Key×V):=more.foldl (λacc kv=>putK acc kv.1 kv.2) kvs
theorem KV.merge:∀ {more:List (Key×V)}{rs:List (Key×Value)}{kvs:List (Key×V)}{vs:List (Key×Value)},KV more rs->KV kvs vs->KV (b7T kvs more) (merged vs rs):=by
 intro d f a b r
 induction r generalizing a b with
 | nil=>intro q;exact q
 | @cons p q ps qs h t ih=>
  intro c;have e:KV (putK a p.1 p.2) (stored b q.1 q.2):=by
   have:=c.put p.1 h.2
   rw[<- h.1];exact this
  exact ih e
section
variable {X:Cx}{pins:List (Addr×Obj)}{σ:St}{H:Hp}{s:Shared}{a:Addr}{y d:V}{u r:Value}{o:Option V}{A:Around}{E:Value->Shared->Prop}
theorem b7U (hu:A.units+1<cLine) (I:Inv X pins σ H s) (g:DGet H a y o) (ry:RelV y u) (rd:RelV d r) (h:∀ w' s',Inv X pins σ H s'->RelV (o.getD d) w'->Q w' s') :
  wpAny (model X.prog X.w) A (call (.builtin "dict.get") [.ref a,u,r]) Q E s:=by
 rcases g with ⟨kvs,k,e,ey,l⟩ | ⟨kvs,k,b,e,ey,eb,l⟩
 ·subst ey;obtain⟨z,i,m,f,c⟩:=b5X I.hok e;refine mn PySem.F.slot_dict_get c.typeIs PySem.F.entry_dict_get (PySem.F.args_dict_get_3 _ _ _) (meets_dict_get_default _ a (b0q ry) i r) ⟨_,c.mapOf,h _ _ (I.tok _) ?_⟩;rw[l];exact (f.val k).getD rd
 ·subst ey;cases (ry);obtain⟨z,i,j,f,c⟩:=b5Y I.hok e;refine mn PySem.F.slot_dict_get c.typeIs PySem.F.entry_dict_get (PySem.F.args_dict_get_3 _ _ _) (meetsH_dict_get_default _ a b i r) ⟨lH hu,k,j,a7P I.hok eb,c,h _ _ (I.tok _) ?_⟩;rw[l];exact (f.val k).getD rd
end
section
variable {X:Cx}{o e f:Expr}{apos cpos:Pos}{td ty tx:TE}
end
section
variable {X:Cx}{pins:List (Addr×Obj)}{σ:St}{H:Hp}{s:Shared}{a:Addr}{kvs:List (Key×V)}{A:Around}{E:Value->Shared->Prop}
end
section
variable {X:Cx}{pins:List (Addr×Obj)}{σ:St}{H:Hp}{s:Shared}{a:Addr}{y:V}{u:Value}{A:Around}{E:Value->Shared->Prop}
end
end L2
namespace PySem
noncomputable def a07 (env:Env):List (Str×jU)->List (Str×Addr)->List (Str×Addr)
 | [],cs=>cs
 | (n,k)::r,cs=>if (k==.free)=true then a07 env r ((n,(env.cells.lookup n).getD 0)::cs) else a07 env r cs
theorem a67 (h:∀ x∈scope.names,x.2=.free->∃ c,env.cells.lookup x.1=some c):closureFor scope env=pure (a07 env scope.names []):=by
 simp only[closureFor]
 suffices H:∀ l b,(∀ x∈l,x.2=.free->∃ c,env.cells.lookup x.1=some c) ->
   forIn l b _=pure (a07 env l b) by
  rw[H scope.names [] h];rfl
 intro l
 induction l with
 | nil=>intro b _;rfl
 | cons x l ih=>
  intro b j;obtain⟨n,k⟩:=x;have g:=λb=>ih b λy o=>j y (fB _ o);rw[List.forIn_cons]
  by_cases hk:k=.free
  ·subst hk;obtain⟨c,m⟩:=j _ fA rfl;have f:cellOf env n=pure c:=by unfold cellOf;rw[m]
   rw[if_pos (show (jU.free==jU.free)=true from rfl),f];have e:a07 env ((n,jU.free)::l) b=a07 env l ((n,c)::b):=by
    show (if (jU.free==jU.free)=true then _ else _)=_
    rw[m];rfl
   rw[e,<- g ((n,c)::b)]
   rfl
  ·have i:(k==jU.free)=false:=by simpa using hk
   have e:a07 env ((n,k)::l) b=a07 env l b:=by
    show (if (k==jU.free)=true then _ else _)=_
    rw[i];rfl
   rw[e,<- g b];rw[i,if_neg eX]
   rfl
theorem a2m:∀ (l:List (Str×jU)) (cs:List (Str×Addr)),(∀ y∈l,y.2=.free->∃ c,env.cells.lookup y.1=some c)->(∀ y c,cs.lookup y=some c->env.cells.lookup y=some c) ->
  ∀ c,(a07 env l cs).lookup x=some c->env.cells.lookup x=some c
 | [],cs,_,hc,c,h=>hc x c h
 | (n,k)::r,cs,hx,hc,c,h=>by
  have g:=λy m=>hx y (fB _ m);unfold a07 at h
  split at h
  ·rename_i hk
   have f:k=.free:=by simpa using hk
   obtain⟨d,j⟩:=hx (n,k) fA f;refine a2m r _ g (λy i a=>?_) c h;rw[fD]at a;cases e:y==n with
   | true=>
    rw[e]at a;have o:y=n:=by simpa using e
    subst o;have b:=j;rw[b]at a ⊢;exact a
   | false=>rw[e]at a;exact hc y i a
  ·exact a2m r cs g hc c h
theorem a2n:∀ (l:List (Str×jU)) (cs:List (Str×Addr)) (c:Addr),cs.lookup x=some c->∃ c',(a07 env l cs).lookup x=some c'
 | [],cs,c,h=>⟨c,h⟩
 | (n,k)::r,cs,c,h=>by
  unfold a07
  split
  ·cases e:x==n with
   | true=>exact a2n r _ _ (by rw[fD,e])
   | false=>exact a2n r _ c (by rw[fD,e];exact h)
  ·exact a2n r cs c h
theorem a3l:∀ (l:List (Str×jU)) (cs:List (Str×Addr)),(x,jU.free)∈l->∃ c,(a07 env l cs).lookup x=some c
 | [],cs,h=>by cases h
 | _::r,cs,h=>by
  unfold a07;rcases eC.mp h with e | e
  ·cases e;exact a2n r _ ((env.cells.lookup x).getD 0) (by simp)
  ·split
   ·exact a3l r _ e
   ·exact a3l r _ e
theorem a3z {env:Env}:∀ (names:List (Str×jU)),
  (names.map λ(n,k)=>if (k==jU.free&&env.scope.kind==.function&&env.kindOf n==some .cell) then (n,jU.cell) else (n,k)).lookup x =
   (names.lookup x).map λk=>if (k==jU.free&&env.scope.kind==.function&&env.kindOf x==some .cell)=true then jU.cell else k
 | []=>rfl
 | (n,k)::r=>by
  have a:=a3z (env:=env) (x:=x) r
  show g5 x ((if _=true then _ else (n,k))::_)=_
  cases hx:x==n with
  | true=>
   have e:x=n:=by grind
   subst e
   by_cases hc:(k==jU.free&&env.scope.kind==.function&&env.kindOf x==some .cell)=true
   simp only[fD,hx,g9,if_pos hc];simp only[fD,hx,g9,if_neg hc]
  | false=>
   by_cases hc:(k==jU.free&&env.scope.kind==.function&&env.kindOf n==some .cell)=true
   ·rw[if_pos hc];simp only[fD,hx];exact a
   ·rw[if_neg hc];simp only[fD,hx];exact a
theorem a3O (I:Nat->Shared->Prop)
  (turn:∀ n s,I n s->wpAny (model prog w) A (pyNext it) (λr sj=>match r with
   | none=>R (.ok .next) sj
   | some v=>wpAny (model prog w) A (md target it v) (λ_ sj=>wpAny (model prog w) A (assign target env v) (λ_ sv=>
     wpAny (model prog w) A (forIn ifs true λc r=>if r=true then do let ok <- isTrue c env (eval c env);pure (ForInStep.yield ok) else pure (ForInStep.yield r)) (λok sw=>
      if ok=true then wpAny (model prog w) A (eval elt env) (λx sx=>
       wpAny (model prog w) A (call (.builtin "list.append") [acc,x]) (λ_ sy=>∃ m,m<n/\I m sy) (ls (model prog w) A env λe s'=>R (.error e) s') sx) (ls (model prog w) A env λe s'=>R (.error e) s') sw
      else ∃ m,m<n/\I m sw) (ls (model prog w) A env λe s'=>R (.error e) s') sv) (ls (model prog w) A env λe s'=>R (.error e) s') sj) (λ_ _=>False) sj) (λ_ _=>False) s)
  (n:Nat) (h:I n s) :
  kj (model prog w) A (.compLoop (.ListComp elt [⟨target,iter,ifs,0⟩] scope pos) 0 it acc env) R s:=by
 refine codeAny_loop rfl I (λn s k=>?_) n h;refine wpAny_noted ?_;refine jJ (l9 (jJ (jX (turn n s k) (λr d a=>?_) λ_ _ f=>f.elim)));cases r with
 | none=>exact jR a
 | some v=>
  refine jJ (jX a (λ_ d a=>?_) λ_ _ f=>f.elim);refine jJ (jX a (λ_ p g=>jJ (jX g (λl z b=>?_) λ_ _ f=>f)) λ_ _ f=>f);cases l with
  | false=>exact jR ⟨rfl,b⟩
  | true=>
   exact jJ (jJ (jX b (λx o i=>jJ (jX i (λ_ u j=>jR (jR ⟨rfl,j⟩)) λ_ _ f=>f)) λ_ _ f=>f))
theorem a1v:∀ (names:List (Str×jU)) (n:Nat) (acc:List (Str×Addr)),jW n names acc=jW n names []++acc
 | [],_,_=>rfl
 | (x,k)::r,n,acc=>by
  rw[jW,jW]
  split
  ·rw[a1v r _ _,a1v r _ [_]];simp
  ·exact a1v r n acc
theorem a5J:∀ {names:List (Str×jU)}{n:Nat},(x,c)∈jW n names []->(x,jU.cell)∈names
 | [],_,h=>by rw[jW]at h;simp at h
 | _::r,n,h=>by
  rw[jW]at h
  split at h
  ·next e=>
   rw[a1v,ei]at h;rcases h with h | h
   ·exact .tail _ (a5J h)
   ·grind
  ·exact .tail _ (a5J h)
theorem a68 {code:Value}
  (h:∀ h',h'.Ns s.heap.objs.size (λ_=>none)->(∀ b o,s.heap.get? b=some o->h'.get? b=some o)->lI h' (s.heap.objs.size+1) (jW (s.heap.objs.size+1) scope.names [])->Q (newEnv scope s.heap.objs.size globals (jW (s.heap.objs.size+1) scope.names closure) qual func code around builtins) { s with heap:=h' }) :
  wpAny M A (newFunctionEnv scope globals closure [] qual func code around builtins) Q E s:=by
 refine jJ (wpAny_alloc (jJ (wpAny_layCells _ (λ_ _ _=>rfl) scope.names closure _ _ ?_)));have e:=Heap.size_push s.heap { cls:=Value.type (if around.isSome=true then "dict" else "frame"),data:=.dict #[] };have q:=h _ ((Heap.Ns.new s.heap _).keeps (pushCells_keeps _ _)) (λb o h=>pushCells_keeps _ _ _ _ (Heap.get?_push_of_some _ h)) (by
  rw[<- e];exact cellsFrom_ok scope.names _ _ [] ⟨λ_ _ h=>by simp at h,.nil⟩ (eh _))
 rw[<- e]at q;exact jJ (jR (jR q))
end PySem
namespace L2
open PySem PySem.Spec PyProof.Rows
noncomputable def a4K (cap:List (Option Nat)) (σ:St):St:=cap.map λo=>o.bind λj=>(σ[j]?).join
noncomputable def a2o:St->St->Prop
 | [],[]=>True
 | none::a,_::b=>a2o a b
 | some x::a,y::b=>y=some x/\a2o a b
 | _,_=>False
theorem a4L:∀ {a b:St},a2o a b->a.length=b.length/\∀ (i:Nat) v,a[i]?=some (some v)->b[i]?=some (some v)
 | [],[],_=>⟨rfl,λi v h=>by simp at h⟩
 | none::a,y::b,h=>by
  have c:=a4L (b:=b) h;refine⟨by simp[c.1],λi v e=>?_⟩;cases i with
  | zero=>simp at e
  | succ i=>simpa using c.2 i v (by simp_all)
 | some x::a,y::b,h=>by
  obtain⟨d,h⟩:=(h);have c:=a4L (b:=b) h;refine⟨by simp[c.1],λi v e=>?_⟩;cases i with
  | zero=>rw[d];simpa using e
  | succ i=>simpa using c.2 i v (by simpa using e)
 | [],_::_,h=>er h
 | none::_,[],h=>er h
 | some _::_,[],h=>er h
theorem a24:∀ a:St,a2o a a
 | []=>True.intro
 | none::a=>a24 a
 | some _::a=>⟨rfl,a24 a⟩
noncomputable def capB (N:List Str) (so sc:Scope) (N':List Str) (cap:List (Option Nat)):Bool:=
 decide (sc.kind=.function)&&decide N'.Nodup&&decide (cap.length=N'.length)&&(sc.names.all λy=>decide (y.2=.cell->sc.names.lookup y.1=some .cell)) &&
 (sc.names.all λy=>decide (y.2=.local->sc.names.lookup y.1=some .local)) &&
 (sc.names.all λy=>decide (y.2=.free->so.names.lookup y.1=some .cell\/so.names.lookup y.1=some .free)) &&
 ((N'.zip cap).all λy=>match y.2 with | none=>true | some j=>decide (N[j]?=some y.1)&&decide (sc.names.lookup y.1=some .free))
structure CapOk (N:List Str) (so sc:Scope) (N':List Str) (cap:List (Option Nat)):Prop where
 kind:sc.kind=.function
 nd:N'.Nodup
 len:cap.length=N'.length
 cms:∀ y∈sc.names,y.2=.cell->sc.names.lookup y.1=some .cell
 nms:∀ y∈sc.names,y.2=.local->sc.names.lookup y.1=some .local
 fre:∀ y∈sc.names,y.2=.free->so.names.lookup y.1=some .cell\/so.names.lookup y.1=some .free
 cap:∀ (i:Nat) x j,N'[i]?=some x->cap[i]?=some (some j)->N[j]?=some x/\sc.names.lookup x=some .free
theorem b1o (h:capB N so sc N' cap=true):CapOk N so sc N' cap:=by
 unfold capB at h;simp only[fE,decide_eq_true_eq,fL]at h;obtain⟨⟨⟨⟨⟨⟨f,k⟩,d⟩,g⟩,b⟩,l⟩,e⟩:=h;refine⟨f,k,d,g,b,l,λi x j c a=>?_⟩;have m:(N'.zip cap)[i]?=some (x,some j):=by rw[List.getElem?_zip_eq_some];exact⟨c,a⟩
 have q:=e (x,some j) (eP m);simpa using q
structure Lk (fr:List Addr) (ex:Addr->Prop) (h h':Heap):Prop where
 keep:∀ b o,h.get? b=some o->b∉fr->¬ ex b->h'.get? b=some o
 slot:∀ b o,h.get? b=some o->¬ ex b->∃ sl,h'.get? b=some { o with slots:=sl }
 size:h.objs.size<=h'.objs.size
theorem Lk.refl {fr:List Addr}{ex:Addr->Prop}{h:Heap}:Lk fr ex h h:=⟨λ_ _ q _ _=>q,λ_ o q _=>⟨o.slots,q⟩,eh _⟩
theorem Lk.trans {fr:List Addr}{ex ex2:Addr->Prop}{h h1 h2:Heap}(a:Lk fr ex h h1) (b:Lk fr ex2 h1 h2) (i:∀ x,ex2 x->ex x\/h.objs.size<=x):Lk fr ex h h2:=by
 have n:∀ {x o},h.get? x=some o->¬ ex x->¬ ex2 x:=λ{x o} q n z=>by
  rcases i x z with z | z
  ·exact n z
  ·exact absurd (Heap.lt_size q) (Nat.not_lt.mpr z)
 refine⟨λx o q f z=>b.keep x o (a.keep x o q f z) f (n q z),λx o q z=>?_,eF a.size b.size⟩;obtain⟨sl,e⟩:=a.slot x o q z;obtain⟨sl2,e2⟩:=b.slot x _ e (n q z);exact⟨sl2,e2⟩
theorem Lk.funs (k:Lk fr ex h h'):∀ {l:List Env},(∀ b∈frs l,¬ ex b)->h.FunFrames base l->h'.FunFrames base l
 | [],_,_=>True.intro
 | env::rest,hx,⟨hk,⟨L,o,hf,hn,ho,hd⟩,hr⟩=>by
  have a:L∈frs (env::rest):=by show L∈(env::rest).filterMap _;rw[fG,hf];exact .head _
  obtain⟨d,e⟩:=k.slot L o ho (hx L a);exact⟨hk,⟨L,_,hf,hn,e,hd⟩,k.funs (λb c=>hx b (by show b∈(env::rest).filterMap _;rw[fG,hf];exact .tail _ c)) hr⟩
noncomputable def FlyT (e:Addr) (cls:Value) (T:Addr) (fl:Value) (h:Heap):Prop:=∃ oe vs oT ts,h.get? e=some oe/\(oe.cls=cls/\oe.dict=none)/\oe.data=.fields vs/\vs[1]?=some (.ref T)/\T≠e/\h.get? T=some oT/\oT.data=.fields ts/\ts[3]?=some fl
section
variable {M:Model}{A:Around}{E:Value->Shared->Prop}{s:Shared}{base:Heap}{env:Env}{outer:List Env}{L e T:Addr}{cls fl:Value}{Q:Unit->Shared->Prop}
theorem a6n (f:Array Value->Array Value) (o:Obj):(o.mapFields f).dict=o.dict:=by
 unfold Obj.mapFields
 split<;>rfl
theorem b4L (hfr:A.frames=some (env::outer)) (hl:s.heap.FunFrames base (env::outer)) (hf:env.frame=some L) (he:s.heap.get? e=some oe) (hn0:oe.dict=none) (hd:oe.data=.fields vs) (hz:1<vs.size)
  (q:∀ h' T',Lk (frs (env::outer)) (·=e) s.heap h'->FlyT e oe.cls T' (rawInt L) h'->s.heap.objs.size<=T'->Q () { s with heap:=h' }) :
  wpAny M A (do let a <- frameOf env;let pl <- entryPlaceOf L hn;let b <- EntryCells.newEntry head a .none (rawInt L) .none pl;setField (.ref e) 1 b) Q E s:=by
 have t:e∉frs _:=λD=>by
  obtain⟨_,F,i,C⟩:=hl.mem D;rw[he]at i;cases i;exact C vs hd
 refine jJ (wpAny_frameOf_fun hfr hl hf λc g=>jJ (wpAny_entryPlaceOf λl m=>?_));unfold EntryCells.newEntry;refine jJ ?_;refine mh ?_ (m.sizeOk5 _ _ _ _ _);generalize ht:([head,Value.ref L,.none,rawInt L,.none]++_).toArray=ts;have w:ts[3]?=some (rawInt L):=by rw[<- ht];simp
 have p:=(g.2.1 e t).trans he;have z:=Heap.lt_size p;have j:=g4 z;have k:=Heap.get?_push_of_some { cls:=.type "traceback",dict:=none,data:=.fields ts } p;have r:=Obj.data_mapFields hd (·.setIfInBounds 1 (Value.ref c.objs.size));have u:=Heap.get?_update_self _ k (Obj.isFreed_of_fields r);have y:=(Heap.get?_update_other (c.push { cls:=.type "traceback",dict:=none,data:=.fields ts }) (Obj.mapFields (·.setIfInBounds 1 (Value.ref c.objs.size))) (Ne.symm j)).trans (Heap.get?_push_size c rfl);refine wpAny_setField k hd hz (q _ c.objs.size ?_ ⟨_,_,_,_,u,⟨Obj.cls_mapFields _ _,(a6n _ _).trans hn0⟩,r,by simp[hz],j,y,rfl,w⟩ (gn g.1.symm));have n:∀ b o,b≠e->c.get? b=some o->((c.push { cls:=.type "traceback",dict:=none,data:=.fields ts }).update e (Obj.mapFields (·.setIfInBounds 1 (Value.ref c.objs.size)))).get? b=some o:=λb o d f=>by
  rw[Heap.get?_update_other _ _ (Ne.symm d)];exact Heap.get?_push_of_some _ f
 refine⟨λb o f x d=>n b o d ((g.2.1 b x).trans f),λb o f d=>?_,?_⟩
 ·obtain⟨v,B⟩:=g.2.2 b o f;exact⟨v,n b _ d B⟩
 ·rw[Heap.size_update,<- g.1];exact ga (by simp)
theorem b1p (hT:FlyT e cls T fl s.heap) (q:∀ h',(∀ fr,Lk fr (·=T) s.heap h')->FlyT e cls T x h'->Q () { s with heap:=h' }):wpAny M A (setField (.ref T) 3 x) Q E s:=by
 obtain⟨l,m,oT,ts,r,p,j,k,i,hT,c,t⟩:=hT;have h:=(hG.mp t).1;refine wpAny_setField hT c h (q _ (λfr=>?_) ?_)
 all_goals have d:∀ b,b≠T->(s.heap.update T (Obj.mapFields (·.setIfInBounds 3 x))).get? b=s.heap.get? b:=λb a=>Heap.get?_update_other _ _ (Ne.symm a)
 all_goals have n:=Heap.get?_update_self (Obj.mapFields (·.setIfInBounds 3 x)) hT (Obj.isFreed_of_fields (Obj.data_mapFields c _))
 ·exact⟨λb o a _ g=>(d b g).trans a,λb o a g=>⟨o.slots,(d b g).trans a⟩,by rw[Heap.size_update];exact eh _⟩
 ·exact⟨l,m,_,_,(d e (Ne.symm i)).trans r,p,j,k,i,n,Obj.data_mapFields c _,by simp[h]⟩
theorem FlyT.field {Q:Value->Shared->Prop}(h:FlyT e cls T fl s.heap) (q:Q (.ref T) s):wpAny M A (field (.ref e) 1) Q E s:=by
 obtain⟨_,_,_,_,a,_,b,c,_⟩:=h;exact kK a b c q
theorem FlyT.mark {Q:Value->Shared->Prop}(h:FlyT e cls T fl s.heap) (q:Q fl s):wpAny M A (PySem.field (.ref T) 3) Q E s:=by
 obtain⟨_,_,_,_,_,_,_,_,_,a,c,b⟩:=h;exact kK a c b q
theorem b7V (hT:FlyT e cls T fl s.heap) (q:∀ h',(∀ fr,Lk fr (·=T) s.heap h')->FlyT e cls T (fo.elim .none λf=>rawInt f) h'->Q () { s with heap:=h' }):wpAny M A (setFlight (.ref e) fo) Q E s:=by
 refine jJ (hT.field ?_);exact b1p hT q
theorem b3z (hfr:A.frames=some (env::outer)) (hl:s.heap.FunFrames base (env::outer)) (hf:env.frame=some L) (he:s.heap.get? e=some oe) (hn0:oe.dict=none) (hd:oe.data=.fields vs) (h1:vs[1]?=some .none)
  (q:∀ h' T',Lk (frs (env::outer)) (·=e) s.heap h'->FlyT e oe.cls T' (rawInt L) h'->s.heap.objs.size<=T'->Q () { s with heap:=h' }):wpAny M A (lJ (.ref e) env) Q E s:=by
 unfold lJ;simp only[hf];refine jJ ?_;refine kK he hd h1 ?_;exact b4L hfr hl hf he hn0 hd (hG.mp h1).1 q
theorem b7W (hfr:A.frames=some (env::outer)) (hl:s.heap.FunFrames base (env::outer)) (hf:env.frame=some L) (hT:FlyT e cls T fl s.heap)
  (q:∀ h' T',Lk (frs (env::outer)) (λb=>b=e\/b=T) s.heap h'->FlyT e cls T' (rawInt L) h'->T'=T\/s.heap.objs.size<=T'->Q () { s with heap:=h' }):wpAny M A (lJ (.ref e) env) Q E s:=by
 unfold lJ;simp only[hf];refine jJ (hT.field ?_);refine jJ (hT.mark ?_)
 by_cases c:(fl==rawInt L)=true
 ·rw[if_pos c];rw[show fl=rawInt L by simpa using c]at hT;exact jR (q s.heap T .refl hT (.inl rfl))
 ·rw[if_neg c];refine jJ (b1p hT λh a B=>?_);have l:=(a []).funs (λb v z=>by
   obtain⟨_,I,g,u⟩:=hl.mem v;obtain⟨_,_,_,i,_,_,_,_,_,d,j,_⟩:=hT;rw[z,d]at g;cases g;exact u i j) hl
  obtain⟨D,G,F,i,C,p,t,r,H,d,j,J⟩:=B;refine b4L hfr l hf C p.2 t (hG.mp r).1 λy w k f z=>q y w ?_ (p.1▸f) (.inr (eF (a []).size z));have m:Lk (frs (env::outer)) (λb=>b=e\/b=T) s.heap h:=⟨λb o q f n=>(a _).keep b o q f λz=>n (.inr z),λb o q n=>(a []).slot b o q λz=>n (.inr z),(a []).size⟩;exact m.trans k λx z=>.inl (.inl z)
theorem b3A (hfr:A.frames=some (env::outer)) (hl:s.heap.FunFrames base (env::outer)) (hf:env.frame=some L) (he:s.heap.get? e=some oe) (hn0:oe.dict=none) (hd:oe.data=.fields vs) (h1:vs[1]?=some .none)
  (q:∀ h' T',Lk (frs (env::outer)) (·=e) s.heap h'->FlyT e oe.cls T' .none h'->s.heap.objs.size<=T'->Q () { s with heap:=h' }):wpAny M A (lF env (.ref e)) Q E s:=
 jJ (b3z hfr hl hf he hn0 hd h1 λ_ b k f z=>b7V f λa d c=>q a b (k.trans (d _) λx w=>.inr (by rw[w];exact z)) c z)
theorem b7X (hfr:A.frames=some (env::outer)) (hl:s.heap.FunFrames base (env::outer)) (hf:env.frame=some L) (hT:FlyT e cls T fl s.heap)
  (q:∀ h' T',Lk (frs (env::outer)) (λb=>b=e\/b=T) s.heap h'->FlyT e cls T' .none h'->T'=T\/s.heap.objs.size<=T'->Q () { s with heap:=h' }):wpAny M A (lF env (.ref e)) Q E s:=
 jJ (b7W hfr hl hf hT λ_ c k f z=>b7V f λa g d=>q a c (k.trans (g _) λx w=>by
  rw[w];rcases z with z | z
  ·exact .inl (.inr z)
  ·exact .inr z) d z)
end
theorem Un.lk (u:Un fs ex0 H0 H h0 h) (v:Lk fr ex h h') (hf:∀ b∈fr,b∈fs\/h0.get? b=none) (hx:∀ b,ex b->b∈ex0\/h0.get? b=none):Un fs ex0 H0 H h0 h':=by
 have g:∀ {b o},h0.get? b=some o->b∉ex0->¬ ex b:=λ{b o} q n z=>by
  rcases hx b z with z | z
  ·grind
  ·grind
 refine⟨λb o q n c a=>?_,λb o q n c a=>?_,u.free,λb o q a=>?_,u.tups,u.frzs,u.tbls⟩
 ·refine v.keep b o (u.keep b o q n c a) (λz=>?_) (g q a);rcases hf b z with z | z
  ·grind
  ·grind
 ·obtain⟨j,f⟩:=u.slot b o q n c a;obtain⟨d,e⟩:=v.slot b _ f (g q a);exact⟨d,e⟩
 ·obtain⟨i,f⟩:=u.there b o q a;obtain⟨d,e⟩:=v.slot b _ f (g q a);exact⟨_,e⟩
theorem Un.gone (u:Un fs ex H0 H h0 h) (n:h.get? b=none):b∈ex\/h0.get? b=none:=by
 cases q:h0.get? b with
 | none=>exact .inr rfl
 | some o=>
  by_cases c:b∈ex
  ·exact .inl c
  ·obtain⟨a,e⟩:=u.there b o q c;rw[n]at e;cases e
theorem Un.gone0 (u:Un fs [] H0 H h0 h) (n:h.get? b=none):h0.get? b=none:=(u.gone n).resolve_left (by simp)
theorem ObjOk.is (x:ObjOk P w H h a o):∃ ob,h.get? a=some ob:=by
 cases o with
 | lst xs=>obtain⟨_,_,_,_,e⟩:=x;exact⟨_,e⟩
 | tup xs=>obtain⟨_,_,_,b,e,_⟩:=x;exact⟨_,e⟩
 | dK kvs=>obtain⟨_,_,_,_,o,_,_,e,_⟩:=x;exact⟨_,e⟩
 | dT kvs=>obtain⟨_,_,_,_,o,_,_,e,_⟩:=x;exact⟨_,e⟩
 | set S n=>obtain⟨o,_,_,_,e,_⟩:=x;exact⟨_,e⟩
 | ins C dx fs=>obtain⟨_,_,_,e,_⟩:=x;exact⟨_,e⟩
 | own y=>obtain⟨_,e⟩:=x;exact⟨_,e⟩
 | xd fs=>obtain⟨_,⟨_,_,_,e,_⟩,_⟩:=x;exact⟨_,e⟩
 | rng lo hi=>obtain⟨_,_,_,e⟩:=x;exact⟨_,e⟩
 | frz b u=>obtain⟨e,_⟩:=x;exact⟨_,e⟩
 | tbl ps=>exact⟨_,x⟩
 | met f y=>exact⟨_,x⟩
 | ext φ=>obtain⟨_,⟨_,e⟩,_⟩:=x;exact⟨_,e⟩
theorem HOk.gone (x:HOk P w H h) (n:h.get? a=none):H a=none:=by
 cases q:H a with
 | none=>rfl
 | some u=>obtain⟨b,e⟩:=(x a u q).is;rw[n]at e;cases e
theorem HOk.lk (x:HOk P w H h) (l:Lk fr ex h h') (hf:∀ b∈fr,H b=none) (he:∀ b,ex b->H b=none):HOk P w H h':=λa o q=>
 (x a o q).stay (λb u c r=>by
  have d:H b≠none:=by
   rcases c with rfl | c
   ·simp_all
   ·simp_all
  exact l.keep b u r (λz=>d (hf b z)) λz=>d (he b z)) (λ_ q=>q) λ_ _ q=>q
structure Fly (N:Addr->Prop) (H:Hp) (fl:Value) (e:Addr) (cls:Value) (h:Heap):Prop where
 at_:∃ T,FlyT e cls T fl h/\N T/\H T=none
 old:N e
 free:H e=none
noncomputable def CXx (P:jO) (w:World):CXT:=λouter H s E ev s'=>∃ e C H',ev=.ref e/\s'.os=s.os/\kh s'.gens/\Un (frs outer) [] H H' s.heap s'.heap/\HOk P w H' s'.heap/\Fly (λb=>s.heap.get? b=none) H' .none e (.ref C) s'.heap/\E (.ref C) none H'
structure TKs (H H':Hp):Prop where
 tup:∀ b xs,H b=some (.tup xs)->H' b=some (.tup xs)
 frz:∀ b o u,H b=some (.frz o u)->H' b=some (.frz o u)
noncomputable def since (H:Hp) (E:XK):XK:=λc d H'=>TKs H H'->E c d H'
structure Outs (X:Cx) (E:XK):Prop where
 xe:∀ ev s',wpAny (model X.prog X.w) X.A (lF X.env ev) (λ_ s''=>CXx X.prog X.w X.outer X.H₀ X.s₀ E ev s'') (λe' s''=>CXx X.prog X.w X.outer X.H₀ X.s₀ E e' s'') s'->X.xe ev s'
 stk:X.stack=X.env::X.outer
 frm:X.env.frame=some X.env.locals
 ex:X.ex=[]
theorem Outs.of {P:jO}{w:World}{K:Fg}{mg:Str->Option Value}{base:Heap}{N:List Str}{qual:Str}{scope:Scope}{f:Addr}{cd:Value}{A:Around}{outer:List Env}{s:Shared}{H:Hp}{E:XK}:Outs (cxOf (CXx P w) P w K mg base N qual scope f cd A outer s H E) E:=⟨λ_ _ h=>h,rfl,rfl,rfl⟩
section
variable {X:Cx}{E:XK}{pins:List (Addr×Obj)}{σ:St}{H:Hp}{s:Shared}
theorem Outs.frames (O:Outs X E) (I:Inv X pins σ H s):X.A.frames=some (X.env::X.outer):=by rw[<- O.stk];exact I.ok.frames
theorem Outs.sub (O:Outs X E) (I:Inv X pins σ H s):∀ b∈frs (X.env::X.outer),b∈X.fs\/X.s₀.heap.get? b=none:=λb a=>by
 rw[<- O.stk]at a;rcases eC.mp (I.stkSub b a) with z | z
 ·rw[z];exact .inr (Heap.get?_none_of_le I.ok.above)
 ·exact .inl z
theorem Outs.funs (O:Outs X E) (I:Inv X pins σ H s):s.heap.FunFrames X.base (X.env::X.outer):=by rw[<- O.stk];exact I.stack
theorem Outs.free (O:Outs X E) (I:Inv X pins σ H s):∀ b∈frs (X.env::X.outer),H b=none:=by rw[<- O.stk];exact I.stkFree
theorem Outs.base (O:Outs X E) (I:Inv X pins σ H s):Un X.fs [] X.H₀ H X.s₀.heap s.heap:=by have:=I.base;rw[O.ex]at this;exact this
theorem Outs.fin (O:Outs X E) (I:Inv X pins σ H s) {e C T:Addr}{ex:Addr->Prop}{h':Heap}(k:Lk (frs (X.env::X.outer)) ex s.heap h') (f:FlyT e (.ref C) T .none h') (hx:∀ b,ex b->X.s₀.heap.get? b=none/\H b=none) (he:ex e) (hT:ex T\/s.heap.objs.size<=T) (q:since X.H₀ E (.ref C) none H) :
  CXx X.prog X.w X.outer X.H₀ X.s₀ E (.ref e) { s with heap:=h' }:=
 ⟨e,C,H,rfl,I.os,I.bare,(O.base I).lk k (O.sub I) (λb hb=>.inr (hx b hb).1),I.hok.lk k (O.free I) λb hb=>(hx b hb).2,⟨⟨T,f,by
  rcases hT with z | z
  ·exact hx T z
  ·exact⟨Heap.get?_none_of_le (eF I.sz z),I.hok.fresh z⟩⟩,(hx e he).1,(hx e he).2⟩,q ⟨I.base.tups,I.base.frzs⟩⟩
theorem b3B (O:Outs X E) (I:Inv X pins σ H s) (hm:Heap.MadeExcOf s.heap h' e (.ref C) vs) (q:since X.H₀ E (.ref C) none H):X.xe (.ref e) { s with heap:=h' }:=by
 obtain⟨t,d,g,_⟩:=hm.there;have a:Inv X pins σ H { s with heap:=h' }:=I.kept hm.keeps;refine O.xe _ _ (b3A (O.frames I) (O.funs a) O.frm d rfl rfl (by simp) λh T l f z=>?_)
 exact O.fin a l f (λb c=>by rw[c];exact⟨(O.base I).gone0 hm.new,I.hok.gone hm.new⟩) rfl (.inr z) q
theorem a2p (O:Outs X E):a2N (CXx X.prog X.w) X (since X.H₀ E):=by
 intro a σ H s t k I ⟨e,C,o,r,i,c,n,g,⟨⟨T,f,m,d⟩,old,fe⟩,q⟩;subst r;have h:=I.call' i n g c λ_ z=>nomatch z;refine O.xe _ _ (b7X (O.frames I) (O.funs h) O.frm f λv u l p z=>?_);refine O.fin h l p (λb j=>?_) (.inl rfl) (by
  rcases z with z | z
  ·simp_all
  ·exact .inr z) q
 rcases j with rfl | rfl
 ·exact⟨(O.base I).gone0 old,fe⟩
 ·exact⟨(O.base I).gone0 m,d⟩
end
noncomputable def ExC (X:Cx) (E:XK) (C:Addr) (s:Shared) (H:Hp) (fp:List Addr) (ev:Value) (s':Shared):Prop:=
 ∃ e Cl H',ev=.ref e/\s'.os=s.os/\kh s'.gens/\Un (frs X.stack) fp H H' s.heap s'.heap/\HOk X.prog X.w H' s'.heap/\Fly (λb=>b∈fp\/s.heap.get? b=none) H' .none e (.ref Cl) s'.heap/\(∃ m,s'.heap.Ns C m)/\H' C=none/\C≠e/\E (.ref Cl) none H'
noncomputable def a69 (X:Cx) (EW:XK) (sc:Scope):Prop:=∀ (pins:List (Addr×Obj)) (σ:St) (H:Hp) (s:Shared) (C:Addr) (fp:List Addr) (use:Option (Value->Sem Unit)) (Fin:Value->Shared->Prop) (acc:Value),Inv X pins σ H s->(∀ b∈fp,FpOk X pins H b)->C=s.heap.objs.size ->
 ∀ ev s',ExC X EW C s H fp ev s'->ls (model X.prog X.w) X.A (kP sc (jW (C+1) sc.names (a07 X.env sc.names [])) C X.env) (λe s''=>mq (model X.prog X.w) X.A X.xe use Fin acc C (.error e) s'') ev s'
theorem a9p:a69 X (λ_ _ _=>False) sc:=by
 rintro a σ H s C g d c b _ _ _ e f ⟨_,_,_,_,_,_,_,_,_,_,_,_,q⟩;exact q.elim
noncomputable def cxC (X:Cx) (EW:XK) (N':List Str) (sc:Scope) (C:Addr) (s:Shared) (H:Hp) (fp:List Addr):Cx:=
 { X with N:=N',s₀:=s,H₀:=H,env:=kP sc (jW (C+1) sc.names (a07 X.env sc.names [])) C X.env,outer:=X.stack,stack:=X.stack,ex:=fp,fn:=λx=>sc.names.lookup x==some .cell,pn:=[],xe:=ExC X EW C s H fp }
noncomputable def PIfs (X:Cx) (ifs:List Expr) (t:TT):Prop:=
 ∀ (pins:List (Addr×Obj)) (s:Shared) (σ:St) (H:Hp) (Q:Bool->Hp->Prop),Inv X pins σ H s->t σ H Q ->
  wpAny (model X.prog X.w) X.A (forIn ifs true λc r=>if r=true then do let ok <- isTrue c X.env (eval c X.env);pure (ForInStep.yield ok) else pure (ForInStep.yield r)) (TP X pins σ Q) X.xe s
noncomputable def tTT:TT:=λ_ H Q=>Q true H
theorem b3C:PIfs X [] tTT:=λ_ _ _ H _ I h=>wpAny_tests_nil ⟨H,I,h⟩
theorem b3D (h:PT X c t):PIfs X [c] t:=λa s σ H Q I q=>wpAny_tests_one (h a s σ H Q I q)
noncomputable def LcB (J:It) (cap:List (Option Nat)) (g:TG) (tt:TT) (te:TE) (σ:St) (Q:VK) (D:Addr) (H1:Hp):Prop:=
 ∃ W:Nat->Nat->List V->Hp->Prop,(∃ m,W 0 m [] (upd H1 D (.lst [])))/\∀ i m ys H2,W i m ys H2 ->
  (J.stop i H2/\Q (.ref D) H2) \/
  (J.go i H2/\∃ N:List V->Hp->Prop,(∀ ys' H',N ys' H'->∃ m',m'<m/\W (i+1) m' ys' H')/\∀ x H',J.yld i H2 x H' ->
   g x (a4K cap σ) H' fun σ2 H3=>a2o (a4K cap σ) σ2/\tt σ2 H3 λb H4=>if b=true then te σ2 H4 λy H5=>∃ zs,H5 D=some (.lst zs)/\zs.length<jK/\N (zs++[y]) (upd H5 D (.lst (zs++[y]))) else N ys H4)
noncomputable def tLC (wi:TI) (cap:List (Option Nat)) (g:TG) (tt:TT) (te:TE):TE:=fun σ H Q=>wi σ H λJ H1=>∀ D,H1 D=none->LcB J cap g tt te σ Q D H1
structure CFree (X:Cx) (pins:List (Addr×Obj)) (H:Hp) (C:Addr):Prop where
 free:H C=none
 loc:C≠X.env.locals
 old:X.s₀.heap.objs.size<=C
 cell:∀ x c,X.env.cells.lookup x=some c->c≠C
 pin:∀ p∈X.pn++pins,p.1≠C
section
variable {X:Cx}{pins:List (Addr×Obj)}{σ:St}{H:Hp}{s:Shared}{N':List Str}{sc:Scope}{cap:List (Option Nat)}{C:Addr}{fp:List Addr}{EW:XK}
theorem b1q (I:Inv X pins σ H s) (ck:CapOk X.N X.env.scope sc N' cap):∀ x∈sc.names,x.2=.free->∃ c,X.env.cells.lookup x.1=some c:=λx a b=>
 I.ok.has x.1 (ck.fre x a b)
theorem a6K (I:Inv X pins σ H s) (ck:CapOk X.N X.env.scope sc N' cap) (h:(a07 X.env sc.names []).lookup x=some c):X.env.cells.lookup x=some c:=
 a2m sc.names [] (b1q I ck) (λy c h=>by simp at h) c h
theorem b1r (h:(jW n sc.names acc).lookup x=some c):(jW n sc.names []).lookup x=some c\/((jW n sc.names []).lookup x=none/\acc.lookup x=some c):=by
 rw[a1v,hZ]at h;cases e:(jW n sc.names []).lookup x with
 | none=>rw[e]at h;exact .inr ⟨rfl,h⟩
 | some d=>rw[e]at h;exact .inl h
theorem a7a (I:Inv X pins σ H s) (ck:CapOk X.N X.env.scope sc N' cap) (co:lI hjq n (jW n sc.names [])) (h:(jW n sc.names (a07 X.env sc.names [])).lookup x=some c):(hjq.IsCell c none/\n<=c)\/X.env.cells.lookup x=some c:=by
 rcases b1r h with h | ⟨_,h⟩
 ·exact .inl (co.empty _ _ (PySem.mem_of_lookup h))
 ·exact .inr (a6K I ck h)
theorem b1s (env:Env) (x:Str):(kP sc cl C env).kindOf x=(sc.names.lookup x).map λk=>if (k==jU.free&&env.scope.kind==.function&&env.kindOf x==some .cell)=true then jU.cell else k:=
 a3z sc.names
theorem a13 {l:List (Str×jU)}(h:l.lookup x=some k):(x,k)∈l:=PySem.mem_of_lookup h
theorem c0d (I:Inv X pins σ H s) (ck:CapOk X.N X.env.scope sc N' cap) (hf:∀ b∈fp,FpOk X pins H b) (hlt:∀ b∈fp,b<s.heap.objs.size) (hC:C=s.heap.objs.size) (co:lI hjq (C+1) (jW (C+1) sc.names [])):(cxC X EW N' sc C s H fp).Ok:=by
 have cl:∀ {x:Str}{c:Addr},(jW _ sc.names _).lookup x=some c->_\/X.env.cells.lookup x=some c:=λh=>a7a I ck co h;have j:∀ {x:Str}{c:Addr},X.env.cells.lookup x=some c->c<C:=λe=>by
  obtain⟨v,q⟩:=I.cell _ _ e;rw[hC];exact q.lt
 refine⟨I.ok.mod,ck.kind,I.ok.glob,I.ok.blt,by rw[hC];exact eh _,λx y c t g=>?_,λx m=>?_,λx c h g=>?_,I.ok.hd,I.ok.frames,.inl rfl,λb a=>⟨?_,λx c h=>?_⟩,I.bs,eF I.ok.bsz I.sz,λb o e a=>?_,λb a r=>?_,I.stack,I.stkFree⟩
 ·rcases b1r t with a1 | ⟨_,a1⟩<;>rcases b1r g with a2 | ⟨_,a2⟩
  ·exact name_of_addr co.apart (PySem.mem_of_lookup a1) (PySem.mem_of_lookup a2)
  ·exact absurd (eV (j (a6K I ck a2)) (gv (co.empty _ _ (PySem.mem_of_lookup a1)).2)) (fj _)
  ·exact absurd (eV (j (a6K I ck a1)) (gv (co.empty _ _ (PySem.mem_of_lookup a2)).2)) (fj _)
  ·exact I.ok.inj x y c (a6K I ck a1) (a6K I ck a2)
 ·have f:(sc.names.lookup x).map (λk=>if (k==jU.free&&X.env.scope.kind==.function&&X.env.kindOf x==some .cell)=true then jU.cell else k)=some .cell \/
    (sc.names.lookup x).map (λk=>if (k==jU.free&&X.env.scope.kind==.function&&X.env.kindOf x==some .cell)=true then jU.cell else k)=some .free:=by
   rw[<- b1s X.env x];exact m
  show ∃ c,(jW _ sc.names _).lookup x=some c
  cases e:sc.names.lookup x with
  | none=>rw[e]at f;rcases f with z | z<;>cases z
  | some k=>
   have p:=a13 e;rw[a1v,hZ];cases e2:(jW _ sc.names []).lookup x with
   | some d=>exact⟨d,rfl⟩
   | none=>
    by_cases hk:k=.free
    ·subst hk;exact a3l sc.names [] p
    ·rw[e]at f;have a:(k==jU.free)=false:=by simpa using hk
     simp only[g9,a,fu.injEq]at f;rcases f with z | z
     ·subst z;obtain⟨d,i⟩:=a5q e;rw[i]at e2;cases e2
     ·exact absurd z hk
 ·have e:sc.names.lookup x=some .cell:=by
   have h:(sc.names.lookup x==some .cell)=true:=h;simpa using h
  obtain⟨d,i⟩:=a5q e;have g:(jW _ sc.names _).lookup x=some c:=g;rw[a1v,hZ,i]at g;cases g;exact eF (gn hC.symm) (gv (co.empty _ _ (PySem.mem_of_lookup i)).2)
 ·show b≠C
  rw[hC];exact eJ (hlt b a)
 ·rcases cl h with ⟨_,z⟩ | z
  ·exact λe=>absurd (eV (hlt b a) (eF (gn hC.symm) (e▸gv z))) (fj _)
  ·exact (hf b a).2.2.2.2.1 x c z
 ·obtain⟨_,_,_,z,_⟩:=hf b a;rcases z with z | z
  ·exact I.ok.noex b o e z
  ·exact absurd (eV (Heap.lt_size e) (eF I.ok.bsz z)) (fj _)
 ·rcases eC.mp (I.stkSub b r) with z | z
  ·exact (hf b a).2.1 z
  ·exact (hf b a).2.2.1 z
theorem b7Y (I:Inv X pins σ H s) (ck:CapOk X.N X.env.scope sc N' cap) (hf:∀ b∈fp,FpOk X pins H b) (hlt:∀ b∈fp,b<s.heap.objs.size) (hC:C=s.heap.objs.size)
  (hn:hjq.Ns C m) (co:lI hjq (C+1) (jW (C+1) sc.names [])) (hk:∀ b o,s.heap.get? b=some o->hjq.get? b=some o):Inv (cxC X EW N' sc C s H fp) [] (a4K cap σ) H { s with heap:=hjq,toks:=t' }:=by
 refine⟨c0d I ck hf hlt hC co,rfl,I.bare,Un.kept hk,⟨m,hn,λi x v F a T=>?_⟩,λx c h=>?_,?_,λx c h=>?_,λp G=>absurd (show p∈([]) from G) (by simp),I.hok.kept hk,?_⟩
 ·have B:=F;unfold a4K at a;rw[eE]at a;cases ec:cap[i]? with
  | none=>rw[ec]at a;cases a
  | some o=>
   rw[ec]at a;cases o with
   | none=>simp at a
   | some j=>
    have e:(σ[j]?).join=some v:=by simpa using a
    have t:σ[j]?=some (some v):=by
     cases q:σ[j]? with
     | none=>rw[q]at e;cases e
     | some w=>rw[q]at e;rw[show w=some v from e]
    obtain⟨L,g⟩:=ck.cap i x j B ec;have n:=ck.fre _ (a13 g) rfl;obtain⟨S,_,M⟩:=I.loc;obtain⟨u,E,Q⟩:=M j x v L t (.inr n);refine⟨u,E,.inr ⟨?_,?_⟩⟩
    ·show (kP sc _ C X.env).kindOf x=some .cell\/(kP sc _ C X.env).kindOf x=some .free
     rw[b1s,g];simp only[g9,beq_self_eq_true,fx]
     by_cases hc:(X.env.scope.kind==ScopeKind.function&&X.env.kindOf x==some jU.cell)=true
     ·simp_all
     ·rw[if_neg hc];exact .inr rfl
    ·obtain⟨D,l⟩:=a3l sc.names [] (a13 g);have J:=a6K I ck l;rcases Q with ⟨k,_⟩ | ⟨_,c,ec',z⟩
     ·have R:X.env.scope.names.lookup x=some .local:=k;have f:=n;rw[R]at f;rcases f with q | q<;>cases q
     ·rw[J]at ec';cases ec';obtain⟨y,A,r⟩:=z;refine⟨D,?_,y,hk _ _ A,r⟩
      show (jW (C+1) sc.names _).lookup x=some D
      rw[a1v,hZ,l];cases a:(jW (C+1) sc.names []).lookup x with
      | none=>rfl
      | some d=>
       have:=ck.cms _ (a5J (PySem.mem_of_lookup a)) rfl
       rw[g]at this;cases this
 ·rcases a7a I ck co h with ⟨z,_⟩ | z
  ·grind
  ·obtain⟨v,y,A,r⟩:=I.cell x c z;exact⟨v,y,hk _ _ A,r⟩
 ·show H C=none
  rw[hC];exact I.hok.fresh (eh _)
 ·rcases a7a I ck co h with ⟨_,z⟩ | z
  ·exact I.hok.fresh (eF (gn hC.symm) (gv z))
  ·exact I.freeC x c z
 ·show (a4K cap σ).length=N'.length
  unfold a4K;rw[dY];exact ck.len
theorem b50 (I:Inv X pins σ H s) (hf:∀ b∈fp,FpOk X pins H b) (J:Inv (cxC X EW N' sc C s H fp) pins' σ' H' s'):Inv X pins σ H' s':=
 I.call' J.os J.base J.hok J.bare λb a=>⟨(hf b a).2.2.2.1,(hf b a).2.1,(hf b a).2.2.2.2.1,(hf b a).2.2.2.2.2⟩
theorem b3E (I:Inv X pins σ H s) (hC:C=s.heap.objs.size) (J:Inv (cxC X EW N' sc C s H fp) pins' σ' H' s'):CFree X pins H' C:=by
 refine⟨J.free,by rw[hC];exact g4 I.lt,by rw[hC];exact I.sz,λx c e z=>?_,λp a z=>?_⟩
 ·obtain⟨v,q⟩:=I.cell x c e;exact absurd q.lt (by simp_all)
 ·exact absurd (Heap.lt_size (I.pin p a).1) (by simp_all)
theorem CFree.after (F:CFree X pins H C) (I:Inv X pins σ H s) (k:∀ b o,b≠C->s.heap.get? b=some o->h'.get? b=some o):Inv X pins σ H { s with heap:=h',toks:=t' }:=
 I.turned k F.free F.loc (.inr F.old) F.cell F.pin
end
section
variable {X:Cx}{elt tg iter:Expr}{ifs:List Expr}{sc:Scope}{pos:Pos}{wi:TI}{g:TG}{tt:TT}{te:TE}{N':List Str}{cap:List (Option Nat)}{EW:XK}
theorem b1t (hc:X.calm=true) (hE:a69 X EW sc) (ck:CapOk X.N X.env.scope sc N' cap) (hi:PI X tg iter wi)
    (hg:∀ C s H fp,PG (cxC X EW N' sc C s H fp) tg g) (ht:∀ C s H fp,PIfs (cxC X EW N' sc C s H fp) ifs tt) (he:∀ C s H fp,PE (cxC X EW N' sc C s H fp) elt te)
    (hs:∀ x,kA iter X.env x=pure x) {Fin:Value->Shared->Prop}
 (I:Inv X pins σ H s) (h:tLC wi cap g tt te σ H Q)
    (fin:∀ D s' C m H',Inv X pins σ H' s'->Q (.ref D) H'->s'.heap.Ns C m->CFree X pins H' C->mq (model X.prog X.w) X.A X.xe use Fin (.ref D) C (.ok .next) s') :
    wpAny (model X.prog X.w) X.A (comprehension (.ListComp elt [⟨tg,iter,ifs,0⟩] sc pos) sc X.env pos' (newList []) false (eval iter X.env) use) Fin X.xe s:=by
  refine wpAny_comprehension_free rfl hs (a67 (b1q I ck)) ck.kind ck.nms ?_;refine thn (hi pins s σ H _ I h) λv s1 h1=>thn h1 λitv j h2=>?_;obtain⟨it,f,tn,J,H2,e,I2,T,st2,f2,h2⟩:=h2;subst e;have hD:=I2.hok.fresh (eh _);obtain⟨W,⟨m0,w0⟩,turn⟩:=h2 j.heap.objs.size hD;refine mh ?_;have t:=I2.lnew (t':=j.toks) .nil (fg _);generalize hs3:({ j with heap:=j.heap.push { cls:=.type "list",data:=.seq ([]:List Value).toArray } }:Shared)=s3 at t;generalize hH3:upd H2 j.heap.objs.size (.lst [])=H3 at t w0;have ac:∀ b∈f,b<j.heap.objs.size:=λb a=>by
    obtain⟨o,e,_⟩:=T.obj _ _ st2 b a;exact Heap.lt_size e
  have sz3:s3.heap.objs.size=j.heap.objs.size+1:=by rw[<- hs3];exact Heap.size_push _ _
  have L:∀ b∈f,b<s3.heap.objs.size:=λb a=>by rw[sz3];exact gg (ac b a)
  have B:∀ b∈f,FpOk X pins H3 b:=λb a=>by
    refine⟨?_,(f2 b a).2⟩;rw[<- hH3,a0r (eJ (ac b a))];exact (f2 b a).1
  have st3:tn 0 s3.heap:=T.keep _ _ _ st2 λb _ o e=>by rw[<- hs3];exact Heap.get?_push_of_some _ e
  refine a68 λhjq hjj hk co=>?_;have I4:=b7Y (EW:=EW) (t':=s3.toks) t ck B L rfl hjj co hk;generalize hs4:({ s3 with heap:=hjq,toks:=s3.toks }:Shared)=s4 at I4 ⊢;have st4:tn 0 s4.heap:=T.keep _ _ _ st3 λb _ o e=>by rw[<- hs4];exact hk b o e
  have G:∀ {k:Hp}{l:List (Addr×Obj)},(∀ p∈l,p.1∉f)->(∀ b∈f,k b=none)->∀ b∈f,FpOk (cxC X EW N' sc s3.heap.objs.size s3 H3 f) l k b:=λ{k l} E hn b a=>
    ⟨hn b a,eJ (L b a),λz=>by
      rcases eC.mp (t.stkSub b z) with z | z
      · exact (B b a).2.1 z
      · exact (B b a).2.2.1 z,.inl a,λx c e=>by
        rcases a7a t ck co e with ⟨_,z⟩ | z
        · exact λe=>absurd (eV (L b a) (e▸gv z)) (fj _)
        · exact (B b a).2.2.2.2.1 x c z,λp hp' z=>E p hp' (by rw[z];exact a)⟩
  have hx:=hE pins σ H3 s3 s3.heap.objs.size f use Fin (.ref j.heap.objs.size) t B rfl;have ab:kj (model X.prog X.w) X.A (.compLoop (.ListComp elt [⟨tg,iter,ifs,0⟩] sc pos) 0 (.ref it) (.ref j.heap.objs.size) (kP sc (jW (s3.heap.objs.size+1) sc.names (a07 X.env sc.names [])) s3.heap.objs.size X.env))
      (mq (model X.prog X.w) X.A X.xe use Fin (.ref j.heap.objs.size) s3.heap.objs.size) s4:=by
    refine a3O (λn s'=>∃ i ys σ' k,Inv (cxC X EW N' sc s3.heap.objs.size s3 H3 f) [] σ' k s'/\a2o (a4K cap σ) σ'/\tn i s'.heap/\(∀ b∈f,k b=none)/\W i n ys k) ?_ m0
      ⟨0,[],a4K cap σ,H3,I4,a24 _,st4,λb a=>(B b a).1,w0⟩
    rintro n s5 ⟨i,ys,σ5,H5,I5,k5,st5,fr5,w5⟩;have kk:=a4L k5;have I5:=I5.weak kk.1 kk.2;rcases turn i n ys H5 w5 with ⟨stop,q⟩ | ⟨go,N,hN,step⟩
    · refine thn (T.done (cxC X EW N' sc s3.heap.objs.size s3 H3 f) rfl rfl rfl hc i [] s5 _ H5 _ I5 (G (λp E=>by cases E) fr5) st5 stop) λr s6 ⟨hr,I6⟩=>?_
      subst hr;obtain⟨m6,n6,_⟩:=I6.loc;exact fin _ s6 _ m6 H5 (b50 t B I6) q n6 (b3E t rfl I6)
    · refine thn (T.item (cxC X EW N' sc s3.heap.objs.size s3 H3 f) rfl rfl rfl hc i [] s5 _ H5 _ I5 (G (λp E=>by cases E) fr5) st5 go) λr s6 ⟨u,hr,h6⟩=>?_
      subst hr;refine thn h6 λ_ s7 ⟨x,H7,I7,r7,y7,aa,fr7⟩=>?_;have I7':=I7.pinned (G (λp E=>by cases E) fr7) (T.obj _ _ aa);have R:∀ {σ9:St}{F:Hp}{U:Shared}{M:List V},Inv (cxC X EW N' sc s3.heap.objs.size s3 H3 f) ([]++a9m f s7.heap) σ9 F U->a2o (a4K cap σ) σ9->N M F ->
          ∃ m,m<n/\∃ i ys σ' k,Inv (cxC X EW N' sc s3.heap.objs.size s3 H3 f) [] σ' k U/\a2o (a4K cap σ) σ'/\tn i U.heap/\(∀ b∈f,k b=none)/\W i m ys k:=λ{σ9 F U M} Y k9 n9=>by
        obtain⟨m',hm,w9⟩:=hN M F n9;refine⟨m',hm,i+1,M,σ9,F,Y.unpinned,k9,T.keep _ _ _ aa λb a o e=>(Y.pin (b,o) (fH _ (fH _ (a3k a e)))).1,λb a=>?_,w9⟩;obtain⟨o,e,d⟩:=T.obj _ _ aa b a;exact (Y.pin (b,o) (fH _ (fH _ (a3k a e)))).2.1
      refine jX (hg _ _ _ _ _ s7 _ H7 x u _ I7' r7 (step x H7 y7)) (λ_ s8 ⟨σ8,H8,I8,k8,q8⟩=>?_) hx;refine jX (ht _ _ _ _ _ s8 σ8 H8 _ I8 q8) (λb U ⟨F,Y,q9⟩=>?_) hx;cases b with
      | false=>
        rw[if_neg eX]at q9 ⊢;exact R Y k8 q9
      | true=>
        rw[if_pos rfl]at q9 ⊢;refine jX (he _ _ _ _ _ U σ8 F _ Y q9) (λy s10 ⟨vy,H10,I10,r10,zs,hacc,hsz,q10⟩=>?_) hx;refine jX (a7M (X:=cxC X EW N' sc s3.heap.objs.size s3 H3 f) _ s10 σ8 H10 (.ref j.heap.objs.size) [vy] (.ref j.heap.objs.size) [y] (λ_ k=>N (zs++[vy]) k) I10 rfl (.cons r10 .nil) ⟨_,zs,vy,rfl,rfl,hacc,hsz,q10⟩) (λ_ s11 ⟨_,H11,I11,_,q11⟩=>?_) hx;exact R I11 k8 q11
  exact codeAny_compStart_list ab (T.self _ 0 _ _ _ st4 ab)
theorem c0e (hc:X.calm=true) (hE:a69 X EW sc) (hNN:X.N=N₀) (hso:X.env.scope=so) (ck:capB N₀ so sc N' cap=true) (hi:PI X tg iter wi)
  (hg:∀ C s H fp,PG (cxC X EW N' sc C s H fp) tg g) (ht:∀ C s H fp,PIfs (cxC X EW N' sc C s H fp) ifs tt) (he:∀ C s H fp,PE (cxC X EW N' sc C s H fp) elt te)
  (hs:∀ x,kA iter X.env x=pure x:=by intro _;rfl):PE X (.ListComp elt [⟨tg,iter,ifs,0⟩] sc pos) (tLC wi cap g tt te):=by
 intro f s σ H Q I h;subst hNN hso;refine b1t hc hE (b1o ck) hi hg ht he hs I h λD d C m i c q k F=>?_;exact⟨m,k,λl a=>⟨.ref D,i,F.after c (λb o j e=>a.extBut b o j e),rfl,q⟩⟩
theorem b3F (hN:X.N.Nodup) (hx:X.N[i]?=some x) (hl:X.env.scope.names.lookup x=some .local) (hc:X.calm=true) (hE:a69 X EW sc) (hNN:X.N=N₀) (hso:X.env.scope=so) (ck:capB N₀ so sc N' cap=true) (hi:PI X tg iter wi)
  (hg:∀ C s H fp,PG (cxC X EW N' sc C s H fp) tg g) (ht:∀ C s H fp,PIfs (cxC X EW N' sc C s H fp) ifs tt) (he:∀ C s H fp,PE (cxC X EW N' sc C s H fp) elt te)
  (hsw:ku (.ListComp elt [⟨tg,iter,ifs,0⟩] sc pos) (some (.Name x pos')) spos.line X.env=pure true:=by rfl)
  (hs:∀ x,kA iter X.env x=pure x:=by intro _;rfl):PS X (.Assign [.Name x pos'] (.ListComp elt [⟨tg,iter,ifs,0⟩] sc pos) spos) (tAsg (tLC wi cap g tt te) (b0W i)):=by
 subst hNN hso;intro f s σ H D I h;rw[exec_Assign_Name_used _ _ _ _ hsw];refine jJ (l9 (jJ ?_));refine jJ (jX (b1t hc hE (b1o ck) hi hg ht he hs I h λd c C m w t q E F=>?_) (λ_ c u=>jR (jR u)) λ_ _ e=>e);refine wpAny_assign_Name (a7C t hN hx (.inl hl) (v:=.ref d) rfl (λj n y=>?_) (.inr hl));obtain⟨a,p,r⟩:=y;have l:C≠a:=by
  rcases r with z | z
  ·rw[z];exact F.loc
  ·exact Ne.symm (F.cell _ _ z)
 exact⟨m,E.sameBut p l,λG k=>⟨_,w,F.after n (λb o B e=>k.extBut b o B e),q⟩⟩
end
section
variable {X:Cx}{st:Stmt}{rest:List Stmt}{t u:TS}{e:Expr}{te:TE}{tt:TT}
end
mutual
def DV (H:Hp):PyData->V->Prop
 | .none,x=>x=.non
 | .bool b,x=>x=.bl b
 | .int i,x=>x=.int i
 | .str s,x=>x=.str s
 | .list ds,x=>∃ a vs,x=.ref a/\H a=some (.lst vs)/\DVs H ds vs
 | .tuple ds,x=>∃ a vs,x=.ref a/\H a=some (.tup vs)/\DVs H ds vs
 | .dict _,_=>False
def DVs (H:Hp):List PyData->List V->Prop
 | [],vs=>vs=[]
 | d::ds,vs=>∃ v r,vs=v::r/\DV H d v/\DVs H ds r
end
mutual
theorem DV.reads {P:jO}{w:World}{H:Hp}{h:Heap}(ok:HOk P w H h):∀ {d:PyData}{x:V}{u:Value},DV H d x->RelV x u->∃ as,Reads h u d as
 | .none,x,u,q,r=>by
  unfold DV at q;subst q;cases (show u=Value.none from r);exact⟨_,.none⟩
 | .bool b,x,u,q,r=>by
  unfold DV at q;subst q;cases (show u=Value.bool b from r);exact⟨_,.bool b⟩
 | .int i,x,u,q,r=>by
  unfold DV at q;subst q;obtain⟨t,e⟩:=(show ∃ t,u=Value.int i t from r);subst e;exact⟨_,.int i t⟩
 | .str s,x,u,q,r=>by
  unfold DV at q;subst q;obtain⟨t,e⟩:=(show ∃ t,u=Value.str s t from r);subst e;exact⟨_,.str s t⟩
 | .list ds,x,u,q,r=>by
  unfold DV at q;obtain⟨a,vs,e,ha,q⟩:=q;subst e;cases (show u=Value.ref a from r);obtain⟨_,its,n,rv,e⟩:=ok a _ ha;obtain⟨as,rd⟩:=DVs.reads ok q rv;exact⟨_,.list e rfl rfl (by simpa using rd)⟩
 | .tuple ds,x,u,q,r=>by
  unfold DV at q;obtain⟨a,vs,e,ha,q⟩:=q;subst e;cases (show u=Value.ref a from r);obtain⟨_,its,rv,o,e,c,n,d⟩:=ok a _ ha;obtain⟨as,rd⟩:=DVs.reads ok q rv;exact⟨_,.tuple e c d (by simpa using rd)⟩
 | .dict _,x,u,q,r=>by unfold DV at q;exact q.elim
theorem DVs.reads {P:jO}{w:World}{H:Hp}{h:Heap}(ok:HOk P w H h):∀ {ds:List PyData}{vs:List V}{us:List Value},DVs H ds vs->Vals vs us->∃ as,ReadsAll h us ds as
 | [],vs,us,q,r=>by
  unfold DVs at q;subst q;cases r;exact⟨_,.nil⟩
 | d::ds,vs,us,q,r=>by
  unfold DVs at q;obtain⟨v,rr,e,q1,q2⟩:=q;subst e;cases r with
  | cons r1 r2=>
   obtain⟨as,h1⟩:=DV.reads ok q1 r1;obtain⟨bs,h2⟩:=DVs.reads ok q2 r2;exact⟨_,.cons h1 h2⟩
end
noncomputable def rEqD:R2:=λx y H Q=>∃ d e,DV H d x/\DV H e y/\SeqAt.shaped d=true/\SeqAt.shaped e=true/\Q (.bl (PyData.eqv d e)) H
noncomputable def rNeD:R2:=λx y H Q=>∃ d e,DV H d x/\DV H e y/\SeqAt.shaped d=true/\SeqAt.shaped e=true/\Q (.bl (!PyData.eqv d e)) H
section
variable {X:Cx}
theorem b7Z (hu:X.A.units+66<cLine):OpR X (jT .Eq) rEqD:=by
 intro i s σ H x y v u Q I g k h;obtain⟨d,e,b,f,l,a,q⟩:=h;obtain⟨m,j⟩:=b.reads I.hok g;obtain⟨n,c⟩:=f.reads I.hok k;exact eq_dataH j c l a (by omega) ⟨.bl _,H,I,rfl,q⟩
theorem b70 (hu:X.A.units+66<cLine):OpR X (jT .NotEq) rNeD:=by
 intro b s σ H x y v u Q I j c h;obtain⟨d,e,a,g,l,i,q⟩:=h;obtain⟨n,f⟩:=a.reads I.hok j;obtain⟨m,k⟩:=g.reads I.hok c;exact ne_dataH f k l i (by omega) ⟨.bl _,H,I,rfl,q⟩
noncomputable def rInD (neg:Bool):R2:=λx y H Q=>∃ d p ds vs,DV H d x/\y=.ref p/\(H p=some (.lst vs)\/H p=some (.tup vs))/\DVs H ds vs/\SeqAt.shaped d=true/\SeqAt.shaped (.list ds)=true /\
 Q (.bl (if neg then !(ds.any λy=>PyData.eqv y d) else ds.any λy=>PyData.eqv y d)) H
theorem b1u (hu:X.A.units+66<cLine):OpR X (jT .NotIn) (rInD true):=by
 intro r s σ H x y v u Q I o g h;obtain⟨d,p,a,n,z,e,b,j,m,w,q⟩:=h;subst e;obtain⟨C,f⟩:=z.reads I.hok o;have i:PyData.canLayAll0 a=true:=by have:=SeqAt.canLay_of_shaped w;simpa[PyData.canLay0]using this
 have l:=SeqAt.canLay_of_shaped m;have t:=SeqAt.depth_of_shaped m;have k:X.A.units+1+min (PyData.depthAll a) d.depth<cLine:=by have:=i9 (PyData.depthAll a) d.depth;omega
 rcases b with b | b
 ·obtain⟨B,c⟩:=(show DV H (.list a) _ by unfold DV;exact⟨p,n,rfl,b,j⟩).reads I.hok g;exact SeqAt.notIn_list_reads c f i l k ⟨.bl _,H,I,rfl,q⟩
 ·obtain⟨B,c⟩:=(show DV H (.tuple a) _ by unfold DV;exact⟨p,n,rfl,b,j⟩).reads I.hok g;exact SeqAt.notIn_tuple_reads c f i l k ⟨.bl _,H,I,rfl,q⟩
noncomputable def b71 (_ j:Int):Prop:=0<j/\j<2 ^ 64
theorem b3G:OpR X (jY .FloorDiv) (rI b71 λi j=>.int (i / j)):=opI λi j _ _ _ _ _ a q=>by
 have c:(0:Int)<j:=a.1;have d:j<2 ^ 64:=a.2;refine floordiv_int (by omega) ?_ (.inl (PyProof.noPylong_of_log2 ?_))
 ·rw[Int.fdiv_eq_ediv_of_nonneg i (by omega)];exact q
 ·have b:j.natAbs<2 ^ 64:=by omega
  have e:=(Nat.log2_lt (by omega)).mpr b;omega
noncomputable def rIsT (K:Fg):List V->Hp->VK->Prop:=λxs H Q=>∃ x T t b,xs=[x,.ty T]/\TyOf K H x t/\PySem.W.kitOne K t (.type T)=some b/\Q (.bl b) H
theorem b3H:CallR X (.builtin "isinstance") (rIsT X.K):=by
 intro c s σ H j k Q I r h;obtain⟨x,T,t,b,rfl,i,e,q⟩:=h;obtain⟨u,g,rfl,f,a⟩:=b0j r;cases (a);exact a7E I f i e λd=>⟨.bl b,H,I.tok d,rfl,q⟩
end
abbrev veM:List Value:=[.type "ValueError",.type "Exception",.type "BaseException",.type "object"]
theorem b72 {K:Fg}(q:PySem.W.excIn K C veM "ValueError.__new__"=true):∃ bm N nm qn bs hd sn sub ab col dd k0 k1 k2 k3 k5,K.lookup C=some (excClassObj nm qn C N bs bm hd sn sub ab col dd k0 k1 k2 k3 k5 "ValueError.__new__") /\
  PySem.W.nsOkIn K N=true/\PySem.W.nsIn K N "__init__"=some none/\PySem.W.tailIn K veM bm=true:=by
 unfold PySem.W.excIn at q
 split at q
 ·rename_i dd cd sl ho
  split at q
  ·rename_i C2 bm k0 k1 k2 k3 nw k5 hm hs
   simp at q;obtain⟨⟨⟨⟨⟨p,k⟩,e⟩,g⟩,b⟩,d⟩:=q;subst p k;obtain⟨r,h,t,m,o,i,n,a,j,c,s⟩:=cd;subst hm e;have f:sl=#[k0,k1,k2,k3,some (.builtin "ValueError.__new__"),k5]:=by
    cases sl with
    | mk l=>dsimp only at hs;rw[hs]
   subst f;exact⟨bm,m,r,o,h,i,n,a,j,c,dd,k0,k1,k2,k3,k5,ho,b,d,g⟩
  ·cases q
 ·cases q
section
variable {X:Cx}{E:XK}
theorem b3I (O:Outs X E) (hc:X.calm=true) (hg:Gl X x) (hm:X.mg x=some (.ref C)) (hq:PySem.W.excIn X.K C veM "ValueError.__new__"=true) (he:PE X e0 te)
  (hs:jN [e0] X.env=(false,eval e0 X.env)::jN [] X.env:=by rfl) (hp:(backTo cpos (jN [] X.env)).any (·.1)=false:=by rfl) (hd:(x==("__debug__":Str))=false:=by decide) :
  PS X (.Raise (some (.Call (.Name x np) [e0] [] cpos)) none pos) (λ_ σ H=>te σ H λ_ H1=>since X.H₀ E (.ref C) none H1):=by
 intro d s σ H D I h;obtain⟨bm,N,nm,qn,bs,k,sn,sub,ab,col,dd,k0,k1,k2,k3,k5,hC,u,z6,z4⟩:=b72 hq;have B:=I.mod.kin;have hN:X.base.Ns N (X.base.nsMap N):=.of_isNs (PySem.W.isNs_of_in B u);have hi:=PySem.W.nsMap_none_of_in B u z6;have T:=PySem.W.tail_of_in B z4;refine wpAny_Raise_call_subT (nm:=nm) (q:=qn) (N:=N) (bs:=bs) (hdct:=k) (sn:=sn) (sub:=sub) (ab:=ab) (col:=col) (dd:=dd) (k0:=k0) (k1:=k1) (k2:=k2) (k3:=k3) (k5:=k5) PySem.F.excBase_ValueError (T.hasType (by decide)) (I.ok.hd hc)
  (by rw[hs];show (false||(backTo cpos _).any (·.1))=false;rw[hp];rfl) hi (a60 I hg hm ⟨rfl,?_⟩ hd)
 rw[hs];refine Calls.evalArgs_plain (Calls.spliced_cons (thn (he d s σ H _ I h) λv s2 ⟨y,H2,a,_,q2⟩=>Calls.spliced_nil ⟨rfl,ga (a0v (jf rfl)),a.bk _ _ (B _ _ hC),hN.keeps a.bk,T.keeps a.bk,λh' e hm=>b3B O a hm q2⟩))
end
section
variable {X:Cx}{E:XK}
end
end L2
namespace L2
open PySem PySem.Spec PySem.Calls PyProof.Rows PySem.W
section
variable {prog:jO}{w:World}{A:Around}{E:Value->Shared->Prop}{s:Shared}{K:Frag}{x D:Addr}{ox:Obj}
end
end L2
namespace L2
open PySem PySem.Spec PyProof.Rows
section
variable {X:Cx}{pins:List (Addr×Obj)}{σ σ':St}{H:Hp}{s:Shared}
theorem Inv.lk (I:Inv X pins σ H s) (k:Lk (frs X.stack) ex s.heap h') (hx:∀ b,ex b->X.s₀.heap.get? b=none/\H b=none/\(∀ x c,X.env.cells.lookup x=some c->c≠b)/\∀ p∈X.pn++pins,p.1≠b)
  (hl:∃ m,h'.Ns X.env.locals m/\∀ (i:Nat) (x:Str) (v:V),X.N[i]?=some x->σ'[i]?=some (some v)->Vis X.env.scope x->∃ u,RelV v u/\Look X.env h' m x u) (hn:σ'.length=σ.length):Inv X pins σ' H { s with heap:=h',toks:=t' }:=by
 refine⟨I.ok,I.os,I.bare,I.base.lk k (λb a=>?_) (λb a=>.inr (hx b a).1),hl,λx c e=>?_,I.free,I.freeC,λp g=>?_,I.hok.lk k I.stkFree λb a=>(hx b a).2.1,hn.trans I.len⟩
 ·rcases eC.mp (I.stkSub b a) with z | z
  ·rw[z];exact .inr (Heap.get?_none_of_le I.ok.above)
  ·simp_all
 ·obtain⟨v,o,l,n⟩:=I.cell x c e;obtain⟨r,d⟩:=k.slot c o l λz=>(hx c z).2.2.1 x c e rfl;exact⟨v,_,d,n⟩
 ·obtain⟨d,q,f,h,j⟩:=I.pin p g;refine⟨k.keep _ _ d (λz=>?_) (λz=>(hx _ z).2.2.2 p g rfl),q,f,h,j⟩;rcases eC.mp (I.stkSub _ z) with z | z
  ·exact f z
  ·exact h z
abbrev Cx.hnd (X:Cx) (e:Addr) (oe:Obj):Cx:={ X with A:=X.A.mark (some (.ref e)),calm:=false,pn:=(e,oe)::X.pn,xe:=λ_ _=>False }
theorem Inv.hnd (I:Inv X pins σ H s) (h1:s.heap.get? e=some oe) (h2:H e=none) (h3:e≠X.env.locals) (h4:e∉X.fs) (h5:∀ v,oe.data≠.cell v):Inv (X.hnd e oe) pins σ H s:=
 ⟨⟨I.ok.mod,I.ok.kind,I.ok.glob,I.ok.blt,I.ok.above,I.ok.inj,I.ok.has,I.ok.cab,(λz=>nomatch z),I.ok.frames,I.ok.stk,I.ok.exf,I.ok.bs,I.ok.bsz,I.ok.noex,I.ok.exfs,I.ok.funs,I.ok.frf⟩,I.os,I.bare,I.base,I.loc,I.cell,I.free,I.freeC,(λp a=>by
  rcases eC.mp (a) with rfl | a
  ·exact⟨h1,h2,h3,h4,h5⟩
  ·exact I.pin p a),I.hok,I.len⟩
end
section
variable {X:Cx}{k:Nat}{f C D:Addr}{fd:jQ}{ps:List Str}{sp:Sp}{x n:Str}{p pos np hpos tpos:Pos}{e ce:Expr}{es:List Expr}{t:TA}
end
end L2
namespace L3
open PySem PySem.Spec PyProof.Rows L2
inductive Z where
 | non | bl (b:Bool) | int (i:Int) | str (x:Str) | ref (a:Addr) | ty (n:String) | scr (a:Addr) (ns:List Int)
 | tup (ws:List Z)
mutual
def eqZ:Z->Z->Bool
 | .non,.non=>true
 | .bl a,.bl b=>a==b
 | .int a,.int b=>decide (a=b)
 | .str a,.str b=>decide (a=b)
 | .ref a,.ref b=>decide (a=b)
 | .ty a,.ty b=>decide (a=b)
 | .scr a ns,.scr b ms=>decide (a=b)&&decide (ns=ms)
 | .tup a,.tup b=>eqZs a b
 | _,_=>false
def eqZs:List Z->List Z->Bool
 | [],[]=>true
 | a::as,b::bs=>eqZ a b&&eqZs as bs
 | _,_=>false
end
mutual
theorem b1v:∀ x y:Z,eqZ x y=true↔x=y
 | .tup a,y=>by
  cases y with
  | tup b=>simp only[eqZ,Z.tup.injEq];exact a9q a b
  | _=>simp[eqZ]
 | .non,y=>by cases y<;>simp[eqZ]
 | .bl _,y=>by cases y<;>simp[eqZ]
 | .int _,y=>by cases y<;>simp[eqZ]
 | .str _,y=>by cases y<;>simp[eqZ]
 | .ref _,y=>by cases y<;>simp[eqZ]
 | .ty _,y=>by cases y<;>simp[eqZ]
 | .scr _ _,y=>by cases y<;>simp[eqZ]
theorem a9q:∀ x y:List Z,eqZs x y=true↔x=y
 | [],y=>by cases y<;>simp[eqZs]
 | a::as,y=>by
  cases y with
  | nil=>simp[eqZs]
  | cons b bs=>simp only[eqZs,fE,fU.injEq,b1v a b,a9q as bs]
end
instance:DecidableEq Z:=λx y=>decidable_of_iff _ (b1v x y)
section
variable {K:Fg}{H H' H1 H2:Hp}{a p:Addr}{xs:List V}
noncomputable def Fz (K:Fg) (H:Hp) (a:Addr) (xs:List V):Prop:=
 (∃ o,H a=some (.frz o (.lst xs)))\/∃ (o:Obj) (its:Array Value) (n:Nat),K.lookup a=some o/\o.cls=.type "list"/\o.dict=none/\o.data=.seq its n/\its.size<=jK/\Vals xs its.toList
theorem Fz.sq (h:Fz K H a xs):SqL K H a xs:=by
 rcases h with ⟨o,h⟩ | h
 ·exact .inl (.inr ⟨o,h⟩)
 ·exact .inr h
theorem Fz.of (hO:Only H) (h:SqL K H a xs):Fz K H a xs:=by
 rcases h with (h | h) | h
 ·rcases hO a with z | ⟨o,ys,z⟩
  ·grind
  ·simp_all
 ·exact .inl h
 ·exact .inr h
structure TW (K:Fg) (H H':Hp):Prop where
 tup:∀ a xs,H a=some (.tup xs)->H' a=some (.tup xs)
 frz:∀ a xs,Fz K H a xs->Fz K H' a xs
structure TK (K:Fg) (H H':Hp):Prop where
 tup:∀ a xs,H a=some (.tup xs)->H' a=some (.tup xs)
 frz:∀ a xs,Fz K H a xs->Fz K H' a xs
 frd:∀ a o u,H a=some (.frz o u)->H' a=some (.frz o u)
theorem TK.refl (K:Fg) (H:Hp):TK K H H:=⟨λ_ _ h=>h,λ_ _ h=>h,λ_ _ _ h=>h⟩
theorem TK.trans (a:TK K H H1) (b:TK K H1 H2):TK K H H2:=⟨λc d h=>b.tup c d (a.tup c d h),λc d h=>b.frz c d (a.frz c d h),λc o u h=>b.frd c o u (a.frd c o u h)⟩
theorem TK.upd (h:∀ xs,H p≠some (.tup xs)) (h2:∀ o u,H p≠some (.frz o u)):TK K H (L2.upd H p o):=by
 refine⟨λc b e=>?_,λc b e=>?_,λc a u e=>by rw[a0r (by rintro rfl;exact h2 _ _ e)];exact e⟩
 ·rw[a0r (by rintro rfl;exact h _ e)];exact e
 ·rcases e with ⟨a,e⟩ | e
  ·exact .inl ⟨a,by rw[a0r (by rintro rfl;exact h2 _ _ e)];exact e⟩
  ·exact .inr e
theorem TK.new (h:H p=none):TK K H (L2.upd H p o):=.upd (λa e=>by rw[h]at e;cases e) (λo u e=>by rw[h]at e;cases e)
theorem TK.lst {o:HO}(h:H p=some (.lst xs)):TK K H (L2.upd H p o):=by simp_all[upd]
theorem TK.dK {o:HO}{kvs:List (Key×V)}(h:H p=some (.dK kvs)):TK K H (L2.upd H p o):=by simp_all[upd]
theorem TK.ins {o:HO}{C dx:Addr}{fs:List (Str×V)}(h:H p=some (.ins C dx fs)):TK K H (L2.upd H p o):=by simp_all[upd]
end
mutual
def Rep (K:Fg) (H:Hp):Z->V->Prop
 | .non,v=>v=.non
 | .bl b,v=>v=.bl b
 | .int i,v=>v=.int i
 | .str x,v=>v=.str x
 | .ref a,v=>v=.ref a
 | .ty n,v=>v=.ty n
 | .scr a ns,v=>v=.ref a/\Fz K H a (ns.map V.int)
 | .tup ws,v=>∃ a vs,v=.ref a/\H a=some (.tup vs)/\Reps K H ws vs
def Reps (K:Fg) (H:Hp):List Z->List V->Prop
 | [],vs=>vs=[]
 | w::ws,vs=>∃ v r,vs=v::r/\Rep K H w v/\Reps K H ws r
end
section
variable {K:Fg}{H H':Hp}
theorem a0S:Rep K H .non v=(v=.non):=by unfold Rep;rfl
theorem a0O:Rep K H (.bl b) v=(v=.bl b):=by unfold Rep;rfl
theorem a0t:Rep K H (.int i) v=(v=.int i):=by unfold Rep;rfl
theorem a0G:Rep K H (.str x) v=(v=.str x):=by unfold Rep;rfl
theorem a0C:Rep K H (.ref a) v=(v=.ref a):=by unfold Rep;rfl
theorem b1w:Rep K H (.ty n) v=(v=.ty n):=by unfold Rep;rfl
theorem a4M:Rep K H (.scr a ns) v=(v=.ref a/\Fz K H a (ns.map V.int)):=by unfold Rep;rfl
theorem a1K:Rep K H (.tup ws) v=(∃ a vs,v=.ref a/\H a=some (.tup vs)/\Reps K H ws vs):=by conv=>lhs;unfold Rep
theorem a0q:Reps K H [] vs=(vs=[]):=by unfold Reps;rfl
theorem a03:Reps K H (w::ws) vs=(∃ v r,vs=v::r/\Rep K H w v/\Reps K H ws r):=by conv=>lhs;unfold Reps
mutual
theorem Rep.monoW (t:TW K H H'):∀ (w:Z) (v:V),Rep K H w v->Rep K H' w v
 | .tup ws,v,h=>by
  rw[a1K]at h ⊢;obtain⟨a,vs,e,h,r⟩:=h;exact⟨a,vs,e,t.tup _ _ h,Reps.monoW t ws vs r⟩
 | .scr a ns,v,h=>by
  rw[a4M]at h ⊢;exact⟨h.1,t.frz _ _ h.2⟩
 | .non,v,h=>by rw[a0S]at h ⊢;exact h
 | .bl _,v,h=>by rw[a0O]at h ⊢;exact h
 | .int _,v,h=>by rw[a0t]at h ⊢;exact h
 | .str _,v,h=>by rw[a0G]at h ⊢;exact h
 | .ref _,v,h=>by rw[a0C]at h ⊢;exact h
 | .ty _,v,h=>by rw[b1w]at h ⊢;exact h
theorem Reps.monoW (t:TW K H H'):∀ (ws:List Z) (vs:List V),Reps K H ws vs->Reps K H' ws vs
 | [],vs,h=>by rw[a0q]at h ⊢;exact h
 | w::ws,vs,h=>by
  rw[a03]at h ⊢;obtain⟨v,r,e,h1,h2⟩:=h;exact⟨v,r,e,Rep.monoW t w v h1,Reps.monoW t ws r h2⟩
end
theorem Rep.mono (t:TK K H H') (w:Z) (v:V) (h:Rep K H w v):Rep K H' w v:=Rep.monoW ⟨t.tup,t.frz⟩ w v h
theorem Reps.mono (t:TK K H H') (ws:List Z) (vs:List V) (h:Reps K H ws vs):Reps K H' ws vs:=Reps.monoW ⟨t.tup,t.frz⟩ ws vs h
theorem Reps.cons {w:Z}{v:V}{ws:List Z}{vs:List V}(a:Rep K H w v) (b:Reps K H ws vs):Reps K H (w::ws) (v::vs):=by rw[a03];exact⟨v,vs,rfl,a,b⟩
theorem Reps.nil:Reps K H [] []:=by rw[a0q]
theorem Reps.length:∀ {ws:List Z}{vs:List V},Reps K H ws vs->ws.length=vs.length
 | [],vs,h=>by rw[a0q]at h;rw[h];rfl
 | w::ws,vs,h=>by
  obtain⟨v,r,e,_,a⟩:=h;rw[e,eu,eu,Reps.length a]
theorem Reps.get:∀ {ws:List Z}{vs:List V}{i:Nat}{w:Z},Reps K H ws vs->ws[i]?=some w->∃ v,vs[i]?=some v/\Rep K H w v
 | [],_,_,_,_,e=>by simp at e
 | w::ws,vs,i,x,h,e=>by
  obtain⟨v,r,rfl,b,a⟩:=h;cases i with
  | zero=>simp at e;subst e;exact⟨v,rfl,b⟩
  | succ i=>simpa using Reps.get a (by simp_all)
theorem Reps.tog {i:Nat}(h:Reps K H ws vs) (e:vs[i]?=some v):∃ w,ws[i]?=some w/\Rep K H w v:=by
 have c:=h.length;have a:i<ws.length:=by grind
 obtain⟨d,b,r⟩:=h.get (eI a);rw[e]at b;cases b;exact⟨_,eI a,r⟩
theorem Reps.append:∀ {ws ws':List Z}{vs vs':List V},Reps K H ws vs->Reps K H ws' vs'->Reps K H (ws++ws') (vs++vs')
 | [],_,vs,_,h,h'=>by rw[a0q]at h;subst h;exact h'
 | w::ws,_,vs,_,h,h'=>by
  obtain⟨v,r,rfl,a,b⟩:=h;exact .cons a (Reps.append b h')
theorem Reps.drop:∀ {ws:List Z}{vs:List V}(n:Nat),Reps K H ws vs->Reps K H (ws.drop n) (vs.drop n)
 | [],vs,n,h=>by rw[a0q]at h;subst h;simpa using Reps.nil
 | w::ws,vs,0,h=>h
 | w::ws,vs,n+1,h=>by
  obtain⟨v,r,rfl,b,a⟩:=h;exact Reps.drop n a
theorem Reps.take:∀ {ws:List Z}{vs:List V}(n:Nat),Reps K H ws vs->Reps K H (ws.take n) (vs.take n)
 | [],vs,n,h=>by rw[a0q]at h;subst h;simpa using Reps.nil
 | w::ws,vs,0,h=>by simpa using Reps.nil
 | w::ws,vs,n+1,h=>by
  obtain⟨v,r,rfl,a,b⟩:=h;exact .cons a (Reps.take n b)
theorem Reps.set (r:Rep K H w v):∀ {ws:List Z}{vs:List V}(i:Nat),Reps K H ws vs->Reps K H (ws.set i w) (vs.set i v)
 | [],vs,i,h=>by rw[a0q]at h;subst h;simpa using Reps.nil
 | x::ws,vs,i,h=>by
  obtain⟨y,s,rfl,b,a⟩:=h;cases i with
  | zero=>exact .cons r a
  | succ i=>exact .cons b (Reps.set r i a)
theorem Reps.reverse:∀ {ws:List Z}{vs:List V},Reps K H ws vs->Reps K H ws.reverse vs.reverse
 | [],vs,h=>by rw[a0q]at h;subst h;exact Reps.nil
 | x::ws,vs,h=>by
  obtain⟨y,s,rfl,b,a⟩:=h;rw[gq,gq];exact (Reps.reverse a).append (.cons b .nil)
theorem a7Q:∀ {ns:List Int}{vs:List V},Reps K H (ns.map Z.int) vs->vs=ns.map V.int
 | [],vs,h=>by rw[eQ,a0q]at h;subst h;rfl
 | n::ns,vs,h=>by
  obtain⟨v,r,rfl,a,b⟩:=h;rw[a,a7Q b];rfl
theorem a25:∀ (ns:List Int),Reps K H (ns.map Z.int) (ns.map V.int)
 | []=>Reps.nil
 | n::ns=>.cons (by rw[a0t]) (a25 ns)
theorem Reps.one (h:Reps K H [w] vs):∃ v,vs=[v]/\Rep K H w v:=by
 obtain⟨v,r,rfl,b,a⟩:=h;exact⟨v,by rw[a],b⟩
theorem Reps.two (h:Reps K H [w,w'] vs):∃ v v',vs=[v,v']/\Rep K H w v/\Rep K H w' v':=by
 obtain⟨v,r,rfl,c,a⟩:=h;obtain⟨d,rfl,b⟩:=a.one;exact⟨v,d,rfl,c,b⟩
end
inductive O where
 | lst (ws:List Z)
 | dK (kvs:List (Key×Z))
 | ins (C dx:Addr) (fs:List (Str×Z))
 | dF (kvs:List (Key×Z))
 | dT (ks:List (List Key))
abbrev Hq:=Addr->Option O
noncomputable def put (G:Hq) (a:Addr) (o:O):Hq:=λb=>if b=a then some o else G b
theorem a0d:put G a o a=some o:=by unfold put;rw[if_pos rfl]
theorem a0x (h:b≠a):put G a o b=G b:=by unfold put;rw[if_neg h]
theorem a2q:put (put G a o) a u=put G a u:=by
 funext b;unfold put;split<;>rfl
theorem a0u {G:Hq}(h:G a=some o) (h':G b=none):a≠b:=by
 intro e;subst e;rw[h]at h';cases h'
theorem a0k (h:G b=some u) (n:G a=none):put G a o b=some u:=by rw[a0x (a0u h n)];exact h
noncomputable def ROb (K:Fg) (H:Hp) (a:Addr):O->Prop
 | .lst ws=>∃ vs,H a=some (.lst vs)/\Reps K H ws vs
 | .dK kvs=>∃ us,H a=some (.dK us)/\us.map (·.1)=kvs.map (·.1)/\Reps K H (kvs.map (·.2)) (us.map (·.2))
 | .ins C dx fs=>∃ gs,H a=some (.ins C dx gs)/\gs.map (·.1)=fs.map (·.1)/\Reps K H (fs.map (·.2)) (gs.map (·.2))
 | .dF kvs=>∃ o us,H a=some (.frz o (.dK us))/\us.map (·.1)=kvs.map (·.1)/\Reps K H (kvs.map (·.2)) (us.map (·.2))
 | .dT ks=>∃ us,H a=some (.dT us)/\us.map (·.1)=ks
noncomputable def RH (K:Fg) (G:Hq) (H:Hp):Prop:=∀ a o,G a=some o->ROb K H a o
section
variable {K:Fg}{H H':Hp}{G:Hq}{a p:Addr}{o:O}{u:HO}
theorem ROb.some (h:ROb K H a o):∃ u,H a=some u:=by
 cases o with
 | lst ws=>obtain⟨b,e,_⟩:=h;exact⟨_,e⟩
 | dK kvs=>obtain⟨b,e,_⟩:=h;exact⟨_,e⟩
 | ins C dx fs=>obtain⟨b,e,_⟩:=h;exact⟨_,e⟩
 | dF kvs=>obtain⟨c,b,e,_⟩:=h;exact⟨_,e⟩
 | dT ks=>obtain⟨b,e,_⟩:=h;exact⟨_,e⟩
theorem ROb.stay (t:TK K H H') (e:H' a=H a) (h:ROb K H a o):ROb K H' a o:=by
 cases o with
 | lst ws=>obtain⟨b,q,r⟩:=h;exact⟨b,e.trans q,r.mono t⟩
 | dK kvs=>obtain⟨b,q,n,r⟩:=h;exact⟨b,e.trans q,n,r.mono t⟩
 | ins C dx fs=>obtain⟨b,q,n,r⟩:=h;exact⟨b,e.trans q,n,r.mono t⟩
 | dF kvs=>obtain⟨c,b,q,n,r⟩:=h;exact⟨c,b,e.trans q,n,r.mono t⟩
 | dT ks=>obtain⟨b,q,n⟩:=h;exact⟨b,e.trans q,n⟩
theorem RH.out (h:RH K G H) (e:H a=none):G a=none:=by
 cases q:G a with
 | none=>rfl
 | some o=>obtain⟨u,z⟩:=(h a o q).some;rw[e]at z;cases z
theorem RH.hid (h:RH K G H) (e:H p=none):RH K G (upd H p u):=λb o q=>
 (h b o q).stay (.new e) (a0r (by rintro rfl;obtain⟨u,z⟩:=(h _ o q).some;rw[e]at z;cases z))
theorem RH.set (h:RH K G H) (t:TK K H (upd H p u)) (n:ROb K (upd H p u) p o):RH K (put G p o) (upd H p u):=λb a q=>by
 by_cases hb:b=p
 ·subst hb;rw[a0d]at q;cases q;exact n
 ·rw[a0x hb]at q;exact (h b a q).stay t (a0r hb)
end
abbrev S3:=List (Option Z)
abbrev K3:=Z->Hq->Prop
abbrev C3:=S3->Hq->Prop
abbrev E3:=S3->Hq->K3->Prop
abbrev T3:=S3->Hq->(Bool->Hq->Prop)->Prop
abbrev A3:=S3->Hq->(List Z->Hq->Prop)->Prop
abbrev X3:=C3->K3->C3->C3->S3->Hq->Prop
noncomputable def ROp (K:Fg) (H:Hp) (ow:Option Z) (ov:Option V):Prop:=∀ w,ow=some w->∃ v,ov=some v/\Rep K H w v
noncomputable def RSt (K:Fg) (H:Hp):S3->L2.St->Prop:=Paired (ROp K H)
section
variable {K:Fg}{H H':Hp}
theorem RSt.mono (t:TK K H H'):∀ {σ:S3}{τ:L2.St},RSt K H σ τ->RSt K H' σ τ
 | _,_,.nil=>.nil
 | _,_,.cons r s=>.cons (λw e=>let ⟨v,q,h⟩:=r w e;⟨v,q,h.mono t⟩) (RSt.mono t s)
theorem RSt.get:∀ {σ:S3}{τ:L2.St}{i:Nat}{w:Z},RSt K H σ τ->σ[i]?=some (some w)->∃ v,τ[i]?=some (some v)/\Rep K H w v
 | _,_,_,_,.nil,e=>by simp at e
 | _,_,0,w,.cons r _,e=>by
  obtain⟨v,q,h⟩:=r w (by simpa using e);exact⟨v,by rw[q];rfl,h⟩
 | _,_,i+1,w,.cons _ s,e=>by
  obtain⟨v,q,h⟩:=RSt.get s (by simpa using e);exact⟨v,by simpa using q,h⟩
theorem RSt.set (r:Rep K H w v):∀ {σ:S3}{τ:L2.St}(i:Nat),RSt K H σ τ->RSt K H (σ.set i (some w)) (τ.set i (some v))
 | _,_,_,.nil=>.nil
 | _,_,0,.cons _ s=>.cons (λ_ e=>by cases e;exact⟨v,rfl,r⟩) s
 | _,_,i+1,.cons q s=>.cons q (RSt.set r i s)
theorem RSt.length (h:RSt K H σ τ):σ.length=τ.length:=Paired.length h
theorem RSt.nones:∀ n:Nat,RSt K H (eM n none) (eM n none)
 | 0=>.nil
 | n+1=>.cons (λ_ e=>nomatch e) (RSt.nones n)
theorem RSt.app:∀ {σ σ':S3}{τ τ':L2.St},RSt K H σ τ->RSt K H σ' τ'->RSt K H (σ++σ') (τ++τ')
 | _,_,_,_,.nil,h=>h
 | _,_,_,_,.cons r s,h=>.cons r (RSt.app s h)
theorem RSt.ofVals:∀ {ws:List Z}{vs:List V},Reps K H ws vs->RSt K H (ws.map some) (vs.map some)
 | [],vs,h=>by rw[a0q]at h;subst h;exact .nil
 | w::ws,vs,h=>by
  obtain⟨v,r,rfl,b,a⟩:=h;exact .cons (λ_ e=>by cases e;exact⟨v,rfl,b⟩) (RSt.ofVals a)
end
noncomputable def a46 (N:List Str) (ws:List Z):S3:=ws.map some++eM (N.length - ws.length) none
theorem RSt.start {K:Fg}(h:Reps K H ws vs):RSt K H (a46 N ws) (L2.start N vs):=by
 unfold a46 L2.start;rw[h.length];exact (RSt.ofVals h).app (RSt.nones _)
noncomputable def UpV (K:Fg) (H:Hp) (R:K3) (Q:VK):Prop:=∀ w G v H',R w G->Rep K H' w v->RH K G H'->TK K H H'->Q v H'
noncomputable def UpB (K:Fg) (H:Hp) (R:Bool->Hq->Prop) (Q:Bool->Hp->Prop):Prop:=∀ b G H',R b G->RH K G H'->TK K H H'->Q b H'
noncomputable def UpA (K:Fg) (H:Hp) (R:List Z->Hq->Prop) (Q:List V->Hp->Prop):Prop:=∀ ws G vs H',R ws G->Reps K H' ws vs->RH K G H'->TK K H H'->Q vs H'
noncomputable def UpS (K:Fg) (H:Hp) (R:C3) (Q:L2.St->Hp->Prop):Prop:=∀ σ G τ H',R σ G->RSt K H' σ τ->RH K G H'->TK K H H'->Q τ H'
section
variable {K:Fg}{H H':Hp}
theorem UpV.mono (h:UpV K H R Q) (t:TK K H H'):UpV K H' R Q:=λw G v b q r g a=>h w G v b q r g (t.trans a)
theorem UpB.mono (h:UpB K H R Q) (t:TK K H H'):UpB K H' R Q:=λw G b q g a=>h w G b q g (t.trans a)
theorem UpA.mono (h:UpA K H R Q) (t:TK K H H'):UpA K H' R Q:=λw G v b q r g a=>h w G v b q r g (t.trans a)
theorem UpS.mono (h:UpS K H R Q) (t:TK K H H'):UpS K H' R Q:=λw G v b q r g a=>h w G v b q r g (t.trans a)
end
noncomputable def low (K:Fg) (t:E3):TE:=fun τ H Q=>∃ σ G R,RSt K H σ τ/\RH K G H/\t σ G R/\UpV K H R Q
theorem low.un {K:Fg}{C:Prop}(z:low K t τ H Q) (f:∀ σ G R,(RSt K H σ τ)->(RH K G H)->(t σ G R)->(UpV K H R Q)->C):C:=by obtain⟨σ,G,R,d,b,c,a⟩:=z;exact f _ _ _ d b c a
noncomputable def lowT (K:Fg) (t:T3):TT:=fun τ H Q=>∃ σ G R,RSt K H σ τ/\RH K G H/\t σ G R/\UpB K H R Q
theorem lowT.un {K:Fg}{C:Prop}(z:lowT K t τ H Q) (f:∀ σ G R,(RSt K H σ τ)->(RH K G H)->(t σ G R)->(UpB K H R Q)->C):C:=by obtain⟨σ,G,R,b,a,d,c⟩:=z;exact f _ _ _ b a d c
noncomputable def lowA (K:Fg) (t:A3):TA:=fun τ H Q=>∃ σ G R,RSt K H σ τ/\RH K G H/\t σ G R/\UpA K H R Q
theorem lowA.un {K:Fg}{C:Prop}(z:lowA K t τ H Q) (f:∀ σ G R,(RSt K H σ τ)->(RH K G H)->(t σ G R)->(UpA K H R Q)->C):C:=by obtain⟨σ,G,R,d,b,c,a⟩:=z;exact f _ _ _ d b c a
noncomputable def lowS (K:Fg) (t:X3):TS:=λD τ H=>∃ σ G nx rt bk ct,RSt K H σ τ/\RH K G H/\t nx rt bk ct σ G/\UpS K H nx D.nx/\UpV K H rt D.rt/\UpS K H bk D.bk/\UpS K H ct D.ct
theorem lowS.un {K:Fg}{C:Prop}(z:lowS K t D τ H) (f:∀ σ G nx rt bk ct,(RSt K H σ τ)->(RH K G H)->(t nx rt bk ct σ G)->(UpS K H nx D.nx)->(UpV K H rt D.rt)->(UpS K H bk D.bk)->(UpS K H ct D.ct)->C):C:=by obtain⟨σ,G,k,j,l,i,h,a,g,b,c,d,e⟩:=z;exact f _ _ _ _ _ _ h a g b c d e
structure QE (X:Cx) (e:Expr) (t:E3):Prop where
 p:PE X e (low X.K t)
structure QT (X:Cx) (e:Expr) (t:T3):Prop where
 p:PT X e (lowT X.K t)
structure QW (X:Cx) (e:Expr) (t:T3):Prop where
 p:PW X e (lowT X.K t)
structure QA (X:Cx) (es:List Expr) (t:A3):Prop where
 p:PA X es (lowA X.K t)
structure QS (X:Cx) (st:Stmt) (t:X3):Prop where
 p:PS X st (lowS X.K t)
structure QSs (X:Cx) (st:List Stmt) (t:X3):Prop where
 p:PSs X st (lowS X.K t)
theorem QW.qt (h:QW X e t):QT X e t:=⟨PW.pt h.p⟩
section
variable {X:Cx}{e:Expr}{es:List Expr}{st:Stmt}{sts:List Stmt}
theorem a1w (h:PE X e t') (i:∀ σ H Q,t σ H Q->t' σ H Q):PE X e t:=λa s σ H Q I q=>h a s σ H Q I (i σ H Q q)
theorem b3J (h:PT X e t') (i:∀ σ H Q,t σ H Q->t' σ H Q):PT X e t:=λa s σ H Q I q=>h a s σ H Q I (i σ H Q q)
theorem b73 (h:PW X e t') (i:∀ σ H Q,t σ H Q->t' σ H Q):PW X e t:=λw a s σ H Q I q=>h w a s σ H Q I (i σ H Q q)
theorem b74 (h:PA X es t') (i:∀ σ H Q,t σ H Q->t' σ H Q):PA X es t:=λb a s σ H Q I q=>h b a s σ H Q I (i σ H Q q)
theorem a6o (h:PS X st t') (i:∀ D σ H,t D σ H->t' D σ H):PS X st t:=λa s σ H D I q=>h a s σ H D I (i D σ H q)
theorem b1x (h:PSs X sts t') (i:∀ D σ H,t D σ H->t' D σ H):PSs X sts t:=λa s σ H D I q=>h a s σ H D I (i D σ H q)
end
abbrev R3:=Z->Z->Hq->K3->Prop
noncomputable def low2 (K:Fg) (r:R3):R2:=λx y H Q=>∃ a b G R,Rep K H a x/\Rep K H b y/\RH K G H/\r a b G R/\UpV K H R Q
theorem low2.un {K:Fg}{C:Prop}(z:low2 K r x y H Q) (f:∀ a b G R,(Rep K H a x)->(Rep K H b y)->(RH K G H)->(r a b G R)->(UpV K H R Q)->C):C:=by obtain⟨a,b,G,R,e,h,g,c,d⟩:=z;exact f _ _ _ _ e h g c d
noncomputable def low1 (K:Fg) (r:Z->Hq->K3->Prop):V->Hp->VK->Prop:=λx H Q=>∃ a G R,Rep K H a x/\RH K G H/\r a G R/\UpV K H R Q
theorem low1.un {K:Fg}{C:Prop}(z:low1 K r x H Q) (f:∀ a G R,(Rep K H a x)->(RH K G H)->(r a G R)->(UpV K H R Q)->C):C:=by obtain⟨a,G,R,c,e,d,b⟩:=z;exact f _ _ _ c e d b
noncomputable def lowC (K:Fg) (r:List Z->Hq->K3->Prop):List V->Hp->VK->Prop:=λxs H Q=>∃ ws G R,Reps K H ws xs/\RH K G H/\r ws G R/\UpV K H R Q
theorem lowC.un {K:Fg}{C:Prop}(z:lowC K r xs H Q) (f:∀ ws G R,(Reps K H ws xs)->(RH K G H)->(r ws G R)->(UpV K H R Q)->C):C:=by obtain⟨e,G,R,b,d,c,a⟩:=z;exact f _ _ _ b d c a
noncomputable def lowM (K:Fg) (r:Z->List Z->Hq->K3->Prop):V->List V->Hp->VK->Prop:=λx xs H Q=>∃ w ws G R,Rep K H w x/\Reps K H ws xs/\RH K G H/\r w ws G R/\UpV K H R Q
theorem lowM.un {K:Fg}{C:Prop}(z:lowM K r x xs H Q) (f:∀ w ws G R,(Rep K H w x)->(Reps K H ws xs)->(RH K G H)->(r w ws G R)->(UpV K H R Q)->C):C:=by obtain⟨w,g,G,R,a,d,e,b,c⟩:=z;exact f _ _ _ _ a d e b c
noncomputable def OpQ (X:Cx) (f:Value->Value->Sem Value) (r:R3):Prop:=OpR X f (low2 X.K r)
noncomputable def UnQ (X:Cx) (f:Value->Sem Value) (r:Z->Hq->K3->Prop):Prop:=UnR X f (low1 X.K r)
noncomputable def a2r (X:Cx) (f:Value) (r:List Z->Hq->K3->Prop):Prop:=CallR X f (lowC X.K r)
noncomputable def IxQ (X:Cx) (r:R3):Prop:=IxR X (low2 X.K r)
noncomputable def MtQ (X:Cx) (id:String) (r:Z->List Z->Hq->K3->Prop):Prop:=MtR X id (lowM X.K r)
theorem a5K (h:OpR X f r') (i:∀ x y H Q,r x y H Q->r' x y H Q):OpR X f r:=λa s σ H x y v u Q I c b q=>h a s σ H x y v u Q I c b (i x y H Q q)
theorem c0f (h:UnR X f r') (i:∀ x H Q,r x H Q->r' x H Q):UnR X f r:=λa s σ H x v Q I b q=>h a s σ H x v Q I b (i x H Q q)
theorem a04 (h:CallR X f r') (i:∀ xs H Q,r xs H Q->r' xs H Q):CallR X f r:=λa s σ H b d Q I c q=>h a s σ H b d Q I c (i b H Q q)
theorem b75 (h:IxR X r') (i:∀ x y H Q,r x y H Q->r' x y H Q):IxR X r:=λa b c s σ H x y v u Q I e d q=>h a b c s σ H x y v u Q I e d (i x y H Q q)
theorem b0r {id:String}(h:MtR X id r') (i:∀ x xs H Q,r x xs H Q->r' x xs H Q):MtR X id r:=λa s σ H x b v e Q I d c q=>h a s σ H x b v e Q I d c (i x b H Q q)
noncomputable def uVar (i:Nat):E3:=fun σ G R=>∃ w,σ[i]?=some (some w)/\R w G
noncomputable def uC (w:Z):E3:=λ_ G R=>R w G
section
variable {X:Cx}{e a b c:Expr}{pos:Pos}{ta tb tc:E3}
theorem a0c (h:PE X e (tVar i)):QE X e (uVar i):=⟨a1w h fun τ H Q ⟨σ,G,R,c,b,⟨w,e,q⟩,d⟩=>by
 obtain⟨v,a,r⟩:=c.get e;exact⟨v,a,d w G v H q r b (.refl _ _)⟩⟩
theorem a8M (h:PE X e (tC v)) (hr:∀ H,Rep X.K H w v):QE X e (uC w):=⟨a1w h fun τ H Q b=>b.un fun σ G R d a q c=>c w G v H q (hr H) a (.refl _ _)⟩
theorem a0h:QE X (.Constant (.int i) j pos) (uC (.int i)):=a8M b7g λ_=>by rw[a0t]
theorem q_bl {b j pos}:QE X (.Constant (.bool b) j pos) (uC (.bl b)):=a8M b9R λ_=>by rw[a0O]
theorem a4c:QE X (.Constant .none j pos) (uC .non):=a8M b7h λ_=>by rw[a0S]
theorem a5b:QE X (.Constant (.str x) j pos) (uC (.str x)):=a8M b7i λ_=>by rw[a0G]
theorem b4M (h:PE X e (tC (.int i))):QE X e (uC (.int i)):=a8M h λ_=>by rw[a0t]
theorem q_ty (h:PE X e (tC (.ty n))):QE X e (uC (.ty n)):=a8M h λ_=>by rw[b1w]
noncomputable def uOp (r:R3) (ta tb:E3):E3:=fun σ G R=>ta σ G λx G1=>tb σ G1 λy G2=>r x y G2 R
noncomputable def uUn (r:Z->Hq->K3->Prop) (ta:E3):E3:=fun σ G R=>ta σ G λx G1=>r x G1 R
theorem a9r {K:Fg}(h:low K (uOp r ta tb) τ H Q):tOp (low2 K r) (low K ta) (low K tb) τ H Q:=by
 obtain⟨σ,G,R,f,k,h,o⟩:=h;refine⟨σ,G,_,f,k,h,λw m v p l i b e=>?_⟩;refine⟨σ,m,_,f.mono e,b,l,λn g q s j d c a=>?_⟩;exact⟨w,n,g,R,i.mono a,d,c,j,o.mono (e.trans a)⟩
theorem b76 {K:Fg}(h:low K (uUn r ta) τ H Q):tUn (low1 K r) (low K ta) τ H Q:=by
 obtain⟨σ,G,R,d,f,h,c⟩:=h;exact⟨σ,G,_,d,f,h,λw e v j g b a i=>⟨w,e,R,b,a,g,c.mono i⟩⟩
theorem q_op (ho:OpQ X (jY op) r) (ha:QE X a ta) (hb:QE X b tb):QE X (.BinOp a op b pos) (uOp r ta tb):=⟨a1w (b9Y ho ha.p hb.p) λ_ _ _=>a9r⟩
theorem q_un (ho:UnQ X (lz op) r) (ha:QE X a ta):QE X (.UnaryOp op a pos) (uUn r ta):=⟨a1w (b9Z ho ha.p) λ_ _ _=>b76⟩
theorem b0s (ho:OpQ X (jT op) r) (ha:QE X a ta) (hb:QE X b tb) (hm:kI op b=false):QE X (.Compare a [op] [b] pos) (uOp r ta tb):=⟨a1w (b5J ho ha.p hb.p hm) λ_ _ _=>a9r⟩
noncomputable def b3K (t:E3):T3:=fun σ G R=>t σ G λx G1=>∃ k,x=.bl k/\R k G1
theorem a9s {K:Fg}(h:lowT K (b3K ta) τ H Q):low K ta τ H λx H'=>∃ k,x=.bl k/\Q k H':=by
 obtain⟨σ,G,R,g,f,h,i⟩:=h;refine⟨σ,G,_,g,f,h,λw l v j ⟨k,e,c⟩ a b d=>?_⟩;subst e;exact⟨k,a,i _ _ _ c b d⟩
theorem a0E (ho:OpQ X (jT op) r) (ha:QE X a ta) (hb:QE X b tb) (hm:kI op b=false):QT X (.Compare a [op] [b] pos) (b3K (uOp r ta tb)):=⟨b3J (b5K ho ha.p hb.p hm) λ_ _ _ h=>a9r (a9s h)⟩
noncomputable def b1y (r r':R3) (ta tb tc:E3):E3:=fun σ G R=>ta σ G λx G1=>tb σ G1 λy G2=>r x y G2 λz G3=>∃ k,z=.bl k/\(if k=true then tc σ G3 λw G4=>r' y w G4 R else R (.bl false) G3)
theorem b1z {K:Fg}(h:low K (b1y r r' ta tb tc) τ H Q):b4H (low2 K r) (low2 K r') (low K ta) (low K tb) (low K tc) τ H Q:=by
 obtain⟨σ,G,R,g,F,h,p⟩:=h;refine⟨σ,G,_,g,F,h,λw A v N q B l a=>?_⟩;refine⟨σ,A,_,g.mono a,l,q,λm y T L s e j b=>?_⟩;refine⟨w,m,y,_,B.mono b,e,j,s,λz x M S ⟨k,t,f⟩ o d c=>?_⟩;subst t;refine⟨k,o,?_⟩;cases k with
 | false=>exact p _ _ _ _ (by simpa using f) (by rw[a0O]) d ((a.trans b).trans c)
 | true=>
  refine⟨σ,x,_,g.mono ((a.trans b).trans c),d,f,λC E J I D u n i=>?_⟩;exact⟨m,C,E,R,e.mono (c.trans i),u,n,D,p.mono (((a.trans b).trans c).trans i)⟩
theorem b1A (ho:OpQ X (jT op) r) (ho':OpQ X (jT op') r') (ha:QE X a ta) (hb:QE X b tb) (hc:QE X c tc)
  (hm:lastMarks [op,op'] [b,c]=false:=by with_unfolding_all rfl):QE X (.Compare a [op,op'] [b,c] pos) (b1y r r' ta tb tc):=⟨a1w (b3j ho ho' ha.p hb.p hc.p hm) λ_ _ _=>b1z⟩
noncomputable def uAnd (t u:T3):T3:=fun σ G R=>t σ G λc G1=>if c=true then u σ G1 R else R false G1
noncomputable def uOr (t u:T3):T3:=fun σ G R=>t σ G λc G1=>if c=true then R true G1 else u σ G1 R
noncomputable def uNot (t:T3):T3:=fun σ G R=>t σ G λc G1=>R (!c) G1
variable {t u:T3}{rest:List Expr}
theorem a7R (ha:QT X a t):QW X (.BoolOp .And [a] pos) t:=⟨b5C ha.p⟩
theorem a7b (ha:QT X a t):QW X (.BoolOp .Or [a] pos) t:=⟨b7k ha.p⟩
theorem b0t (ha:QT X a t) (hb:QW X (.BoolOp .And (b::rest) pos) u):QW X (.BoolOp .And (a::b::rest) pos) (uAnd t u):=⟨b73 (b7l ha.p hb.p) fun τ H Q l=>l.un fun σ G R f j h g=>by
 refine⟨σ,G,_,f,j,h,λk i m d c e=>?_⟩;cases k with
 | false=>exact g _ _ _ (by simp_all) c e
 | true=>rw[if_pos rfl]at d ⊢;exact⟨σ,i,R,f.mono e,c,d,g.mono e⟩⟩
theorem q_or (ha:QT X a t) (hb:QW X (.BoolOp .Or (b::rest) pos) u):QW X (.BoolOp .Or (a::b::rest) pos) (uOr t u):=⟨b73 (pw_or ha.p hb.p) fun τ H Q l=>l.un fun σ G R f j h g=>by
 refine⟨σ,G,_,f,j,h,λk i m e c d=>?_⟩;cases k with
 | true=>exact g _ _ _ (by simp_all) c d
 | false=>rw[if_neg (by simp)]at e ⊢;exact⟨σ,i,R,f.mono d,c,e,g.mono d⟩⟩
theorem a1V (ha:QT X a t):QT X (.UnaryOp .Not a pos) (uNot t):=⟨b3J (b7m ha.p) fun τ H Q g=>g.un fun σ G R d f h i=>
 ⟨σ,G,_,d,f,h,λk j l e b c=>i _ _ _ e b c⟩⟩
noncomputable def b77 (ta tb:E3):E3:=fun σ G R=>ta σ G λx G1=>∃ c,x=.bl c/\if c=true then tb σ G1 R else R (.bl false) G1
noncomputable def uOrV (ta tb:E3):E3:=fun σ G R=>ta σ G λx G1=>∃ c,x=.bl c/\if c=true then R (.bl true) G1 else tb σ G1 R
theorem b51 (h:QE X a ta):QE X (.BoolOp op [a] pos) ta:=⟨b7n h.p⟩
theorem b4N (ha:QE X a ta) (hb:QE X (.BoolOp .And (b::rest) pos) tb):QE X (.BoolOp .And (a::b::rest) pos) (b77 ta tb):=⟨a1w (b7o ha.p hb.p) fun τ H Q l=>l.un fun σ G R g j h i=>by
 refine⟨σ,G,_,g,j,h,λx n v o ⟨k,m,e⟩ f c d=>?_⟩;subst m;refine⟨k,f,?_⟩;cases k with
 | false=>exact i _ _ _ _ (by simpa using e) (by rw[a0O]) c d
 | true=>rw[if_pos rfl]at e ⊢;exact⟨σ,n,R,g.mono d,c,e,i.mono d⟩⟩
theorem c0g (ha:QE X a ta) (hb:QE X (.BoolOp .Or (b::rest) pos) tb):QE X (.BoolOp .Or (a::b::rest) pos) (uOrV ta tb):=⟨a1w (b9T ha.p hb.p) fun τ H Q m=>m.un fun σ G R g n h i=>by
 refine⟨σ,G,_,g,n,h,λx j v o ⟨k,l,d⟩ f c e=>?_⟩;subst l;refine⟨k,f,?_⟩;cases k with
 | true=>exact i _ _ _ _ (by simpa using d) (by rw[a0O]) c e
 | false=>rw[if_neg (by simp)]at d ⊢;exact⟨σ,j,R,g.mono e,c,d,i.mono e⟩⟩
noncomputable def uIf (t:T3) (ta tb:E3):E3:=fun σ G R=>t σ G λc G1=>if c=true then ta σ G1 R else tb σ G1 R
theorem q_if (hc:QT X c t) (ha:QE X a ta) (hb:QE X b tb):QE X (.IfExp c a b pos) (uIf t ta tb):=⟨a1w (b3i hc.p ha.p hb.p) fun τ H Q l=>l.un fun σ G R g m h j=>by
 refine⟨σ,G,_,g,m,h,λk i n e f d=>?_⟩;cases k with
 | true=>rw[if_pos rfl]at e ⊢;exact⟨σ,i,R,g.mono d,f,e,j.mono d⟩
 | false=>rw[if_neg (by simp)]at e ⊢;exact⟨σ,i,R,g.mono d,f,e,j.mono d⟩⟩
noncomputable def tru:Z->Hq->(Bool->Hq->Prop)->Prop
 | .non,G,R=>R false G
 | .bl b,G,R=>R b G
 | .int i,G,R=>R (i != 0) G
 | .str y,G,R=>y.length<=jK/\R ((y.length:Int) != 0) G
 | .tup ws,G,R=>R (!ws.isEmpty) G
 | .scr _ ns,G,R=>R (!ns.isEmpty) G
 | .ref p,G,R=>(∃ ws,G p=some (.lst ws)/\R (!ws.isEmpty) G)\/∃ kvs,G p=some (.dK kvs)/\R (!kvs.isEmpty) G
 | .ty _,_,_=>False
noncomputable def uTru (ta:E3):T3:=fun σ G R=>ta σ G λx G1=>tru x G1 R
theorem a2s {α β:Type}{a:List α}{b:List β}(h:a.length=b.length):a.isEmpty=b.isEmpty:=by
 cases a<;>cases b<;>simp_all
theorem b52 {K:Fg}(h:tru w G R) (r:Rep K H w v) (hg:RH K G H) (up:UpB K H R Q):∃ k,TruV K v H k/\Q k H:=by
 cases w with
 | non=>rw[a0S]at r;subst r;exact⟨_,rfl,up _ _ _ h hg (.refl _ _)⟩
 | bl b=>rw[a0O]at r;subst r;exact⟨_,rfl,up _ _ _ h hg (.refl _ _)⟩
 | int i=>rw[a0t]at r;subst r;exact⟨_,rfl,up _ _ _ h hg (.refl _ _)⟩
 | str y=>rw[a0G]at r;subst r;exact⟨_,⟨h.1,rfl⟩,up _ _ _ h.2 hg (.refl _ _)⟩
 | ty n=>exact er h
 | scr a ns=>rw[a4M]at r;obtain⟨rfl,f⟩:=r;exact⟨!ns.isEmpty,.inl ⟨_,f.sq,by rw[a2s (dY ..).symm]⟩,up _ _ _ h hg (.refl _ _)⟩
 | tup ws=>
  obtain⟨a,d,rfl,e,c⟩:=r;exact⟨!ws.isEmpty,.inr (.inl ⟨d,SqT.of e,by rw[a2s c.length]⟩),up _ _ _ h hg (.refl _ _)⟩
 | ref p=>
  subst r;rcases h with ⟨ws,e,h⟩ | ⟨kvs,e,h⟩
  ·obtain⟨d,g,c⟩:=hg p _ e;exact⟨_,.inl ⟨d,SqL.of g,by rw[<- a2s c.length]⟩,up _ _ _ h hg (.refl _ _)⟩
  ·obtain⟨j,g,l,c⟩:=hg p _ e;exact⟨_,.inr (.inr ⟨j,g,by rw[a2s (show kvs.length=j.length by rw[<- dY,c.length,dY])]⟩),up _ _ _ h hg (.refl _ _)⟩
theorem b78 (ha:QE X a ta) (he:∀ whole,isTrue a X.env whole=(do let v <- whole;ki a.pos;j7 [v] (truthy v))):QT X a (uTru ta):=⟨b3J (b3k ha.p he) fun τ H Q i=>i.un fun σ G R d f h j=>
 ⟨σ,G,_,d,f,h,λw k v l e g b c=>b52 e g b (j.mono c)⟩⟩
theorem a2t (ha:QE X a ta) (he:∀ whole,isTrue a X.env whole=(do let v <- whole;ki a.pos;j7 [v] (truthy v)):=by intro _;rfl):QT X a (b3K ta):=⟨b3J (b7j ha.p he) λ_ _ _ h=>a9s h⟩
end
section
variable {env:Env}{es:List Expr}{pos:Pos}
theorem a0f:jN (.Constant c k p::es) env=(false,eval (.Constant c k p) env)::jN es env:=rfl
theorem a0a:jN (.Name x p::es) env=(false,eval (.Name x p) env)::jN es env:=rfl
theorem a0H:jN (.BinOp a o b p::es) env=(false,eval (.BinOp a o b p) env)::jN es env:=rfl
theorem a4N:jN (.List a p::es) env=(false,eval (.List a p) env)::jN es env:=rfl
theorem a2u:jN (.Tuple a k p::es) env=(false,eval (.Tuple a k p) env)::jN es env:=rfl
theorem a0i:jN (.Subscript a b p::es) env=(false,eval (.Subscript a b p) env)::jN es env:=rfl
theorem a0Y:jN (.Attribute a b p::es) env=(false,eval (.Attribute a b p) env)::jN es env:=rfl
theorem a0I:jN (.Call a b c p::es) env=(false,eval (.Call a b c p) env)::jN es env:=rfl
theorem a0J:jN (.ListComp a b c p::es) env=(false,eval (.ListComp a b c p) env)::jN es env:=rfl
theorem a0j:(backTo pos (jN [] env)).any (·.1)=false:=rfl
theorem a0m (h:jN (e::es) env=(false,eval e env)::jN es env) (r:(backTo pos (jN es env)).any (·.1)=false):(backTo pos (jN (e::es) env)).any (·.1)=false:=by
 rw[h]
 show (false||(backTo pos _).any _)=false
 rw[r];rfl
end
section
variable {X:Cx}{e a b:Expr}{es:List Expr}{pos p2:Pos}{te ta tb:E3}{t:A3}
theorem q_ix (hr:IxQ X r) (ha:QE X a ta) (hb:QE X b tb) (hs:b1i b):QE X (.Subscript a b pos) (uOp r ta tb):=⟨a1w (b99 hr ha.p hb.p hs) λ_ _ _=>a9r⟩
abbrev O3:=S3->Hq->(Option Int->Hq->Prop)->Prop
noncomputable def b1B:O3:=λ_ G R=>R none G
noncomputable def b79 (t:E3):O3:=fun σ G R=>t σ G λx G1=>∃ i,x=.int i/\R (some i) G1
noncomputable def lowO (K:Fg) (t:O3):TO:=fun τ H Q=>∃ σ G R,RSt K H σ τ/\RH K G H/\t σ G R/\∀ o G' H',R o G'->RH K G' H'->TK K H H'->Q o H'
theorem lowO.un {K:Fg}{t:O3}{C:Prop}(z:lowO K t τ H Q) (f:∀ σ G R,(RSt K H σ τ)->(RH K G H)->(t σ G R)->(∀ o G' H',R o G'->RH K G' H'->TK K H H'->Q o H')->C):C:=by obtain⟨σ,G,R,d,b,c,a⟩:=z;exact f _ _ _ d b c a
noncomputable def QO (X:Cx) (e:Option Expr) (t:O3):Prop:=PO X e (lowO X.K t)
theorem a1W:QO X none b1B:=λa s τ H Q I ⟨σ,G,R,d,c,h,b⟩=>b5S a s τ H Q I (b _ _ _ h c (.refl _ _))
theorem a2O (h:QE X e te):QO X (some e) (b79 te):=λa s τ H Q I ⟨σ,G,R,f,k,q,l⟩=>b5T h.p a s τ H Q I ⟨σ,G,_,f,k,q,λw n v m ⟨i,g,d⟩ b c j=>by
 subst g;exact⟨i,b,l _ _ _ d c j⟩⟩
abbrev L3r:=Z->Option Int->Option Int->Hq->K3->Prop
noncomputable def lowL (K:Fg) (r:L3r):V->Option Int->Option Int->Hp->VK->Prop:=λx lo hi H Q=>∃ w G R,Rep K H w x/\RH K G H/\r w lo hi G R/\UpV K H R Q
theorem lowL.un {K:Fg}{lo hi:Option Int}{C:Prop}(z:lowL K r x lo hi H Q) (f:∀ w G R,(Rep K H w x)->(RH K G H)->(r w lo hi G R)->(UpV K H R Q)->C):C:=by obtain⟨w,G,R,a,d,b,c⟩:=z;exact f _ _ _ a d b c
noncomputable def SlQ (X:Cx) (r:L3r):Prop:=SlR X (lowL X.K r)
theorem c0h (h:SlR X r') (i:∀ x lo hi H Q,r x lo hi H Q->r' x lo hi H Q):SlR X r:=λa s σ H x v l b j f d Q I c e g k q=>h a s σ H x v l b j f d Q I c e g k (i _ _ _ _ _ q)
noncomputable def uSl (r:L3r) (te:E3) (tl th:O3):E3:=fun σ G R=>te σ G λx G1=>tl σ G1 λl G2=>th σ G2 λu G3=>r x l u G3 R
theorem a14 {lo hi:Option Expr}(hr:SlQ X r) (he:QE X e te) (hl:QO X lo tl) (hu:QO X hi th):QE X (.Subscript e (.Slice lo hi none p2) pos) (uSl r te tl th):=⟨a1w (b3t hr he.p hl hu) fun τ H Q q=>q.un fun σ G R c k h y=>
 ⟨σ,G,_,c,k,h,λw m v z j t f b=>⟨σ,m,_,c.mono b,f,j,λl o A s d a=>⟨σ,o,_,c.mono (b.trans a),d,s,λu x B n i g=>
  ⟨w,x,R,t.mono (a.trans g),i,n,y.mono ((b.trans a).trans g)⟩⟩⟩⟩⟩
noncomputable def uNil:A3:=λ_ G R=>R [] G
noncomputable def b8a (ta:E3) (tr:A3):A3:=fun σ G R=>ta σ G λx G1=>tr σ G1 λxs G2=>R (x::xs) G2
theorem a0g:QA X [] uNil:=⟨b74 b7G fun τ H Q b=>b.un fun σ G R d a h c=>c _ _ _ _ h .nil a (.refl _ _)⟩
theorem a0b (ha:QE X e te) (hr:QA X es t) (hs:jN (e::es) X.env=(false,eval e X.env)::jN es X.env:=by rfl):QA X (e::es) (b8a te t):=⟨b74 (b5P ha.p hr.p hs) fun τ H Q i=>i.un fun σ G R hs l h o=>
 ⟨σ,G,_,hs,l,h,λw j v H1 g m f d=>⟨σ,j,_,hs.mono d,f,g,λws G2 vs H2 n k c b=>o _ _ _ _ n (.cons (m.mono b) k) c (d.trans b)⟩⟩⟩
noncomputable def uTup (t:A3):E3:=fun σ G R=>t σ G λxs G1=>xs.length<=jK/\R (.tup xs) G1
noncomputable def uLst (t:A3):E3:=fun σ G R=>t σ G λxs G1=>xs.length<=jK/\∀ p,G1 p=none->R (.ref p) (put G1 p (.lst xs))
theorem a2Y (h:QA X es t):QE X (.Tuple es x1 pos) (uTup t):=⟨a1w (b7H h.p) fun τ H Q k=>k.un fun σ G R f j h d=>
 ⟨σ,G,_,f,j,h,λo m l n ⟨i,g⟩ b c e=>⟨by rw[<- b.length];exact i,λp a=>d _ _ _ _ g (by rw[a1K];exact⟨p,l,rfl,a0s,b.mono (.new a)⟩) (c.hid a) (e.trans (.new a))⟩⟩⟩
theorem a1i {K:Fg}(r:Reps K H ws vs) (t:TK K H (upd H p (.lst vs))):ROb K (upd H p (.lst vs)) p (.lst ws):=⟨vs,a0s,r.mono t⟩
theorem a15 (h:QA X es t):QE X (.List es pos) (uLst t):=⟨a1w (b7I h.p) fun τ H Q g=>g.un fun σ G R d k h i=>
 ⟨σ,G,_,d,k,h,λm l o n ⟨f,e⟩ c b j=>⟨by rw[<- c.length];exact f,λp a=>i _ _ _ _ (e p (b.out a)) (by rw[a0C]) (b.set (.new a) (a1i c (.new a))) (j.trans (.new a))⟩⟩⟩
noncomputable def uCB (r:List Z->Hq->K3->Prop) (t:A3):E3:=fun σ G R=>t σ G λws G1=>r ws G1 R
theorem b4O {K:Fg}(h:low K (uCB r t) τ H Q):tCB (lowC K r) (lowA K t) τ H Q:=by
 obtain⟨σ,G,R,e,j,h,i⟩:=h;exact⟨σ,G,_,e,j,h,λc g k l f b a d=>⟨c,g,R,b,a,f,i.mono d⟩⟩
variable {x:Str}{p:Pos}{id T:String}{r:List Z->Hq->K3->Prop}
theorem a0w (hc:a2r X (.builtin id) r) (hg:Gl X x) (hm:X.mg x=none) (hv:kt x=some (.builtin id)) (ha:QA X (e::es) t) (hn:x≠"__name__":=by decide) (hdb:(x==("__debug__":Str))=false:=by decide)
  (he:jN (e::es) X.env=(false,eval e X.env)::jN es X.env:=by rfl) (hpl:(backTo pos (jN es X.env)).any (·.1)=false:=by rfl):QE X (.Call (.Name x p) (e::es) [] pos) (uCB r t):=⟨a1w (b3r hc hg hm hv ha.p hn hdb he hpl) λ_ _ _=>b4O⟩
theorem a7c (hc:a2r X (.type T) r) (hg:Gl X x) (hm:X.mg x=none) (hv:kt x=some (.type T)) (ha:QA X (e::es) t) (hn:x≠"__name__":=by decide) (hdb:(x==("__debug__":Str))=false:=by decide)
  (he:jN (e::es) X.env=(false,eval e X.env)::jN es X.env:=by rfl) (hpl:(backTo pos (jN es X.env)).any (·.1)=false:=by rfl):QE X (.Call (.Name x p) (e::es) [] pos) (uCB r t):=⟨a1w (b1f hc hg hm hv ha.p hn hdb he hpl) λ_ _ _=>b4O⟩
noncomputable def tyZ (T:String) (x:Z) (G:Hq):Prop:=match x with
 | .str _=>T="str"
 | .int _=>T="int"
 | .ref p=>(T="list"/\∃ ws,G p=some (.lst ws))\/(T="dict"/\∃ kvs,G p=some (.dK kvs)\/G p=some (.dF kvs))
 | .scr _ _=>T="list"
 | _=>False
theorem b1C {K:Fg}(h:tyZ T w G) (r:Rep K H w v) (hg:RH K G H):tyV K T v H:=by
 cases w with
 | str y=>rw[a0G]at r;subst r;exact h
 | int y=>rw[a0t]at r;subst r;exact h
 | ref q=>
  subst r;rcases h with ⟨e,ws,g⟩ | ⟨e,kvs,g⟩
  ·obtain⟨b,a,_⟩:=hg q _ g;exact .inl ⟨e,b,SqL.of a⟩
  ·rcases g with g | g
   ·obtain⟨b,a,_⟩:=hg q _ g;exact .inr (.inr (.inl ⟨e,.inl ⟨b,a⟩⟩))
   ·obtain⟨c,b,a,_⟩:=hg q _ g;exact .inr (.inr (.inl ⟨e,.inr (.inr ⟨c,b,a⟩)⟩))
 | scr q ns=>rw[a4M]at r;obtain⟨rfl,f⟩:=r;exact .inl ⟨h,_,f.sq⟩
 | _=>exact er h
noncomputable def uBM0 (T:String) (r:Z->List Z->Hq->K3->Prop) (to:E3):E3:=fun σ G R=>to σ G λx G1=>tyZ T x G1/\r x [] G1 R
noncomputable def uBM (T:String) (r:Z->List Z->Hq->K3->Prop) (to:E3) (t:A3):E3:=fun σ G R=>to σ G λx G1=>tyZ T x G1/\t σ G1 λxs G2=>r x xs G2 R
variable {o:Expr}{to:E3}{name:Str}{apos cpos:Pos}{rm:Z->List Z->Hq->K3->Prop}
theorem c0i (pa:lG T) (slot:Slot T name id) (hty:typeOf (.builtin id)=pure (.type "method_descriptor")) (hm:MtQ X id rm) (ho:QE X o to)
  (hbase:kC o name X.env (eval o X.env)=eval o X.env:=by rfl) (hline:(apos.endLine==cpos.line)=true:=by rfl):QE X (.Call (.Attribute o name apos) [] [] cpos) (uBM0 T rm to):=⟨a1w (b7M pa slot hty hm ho.p hbase hline) fun τ H Q j=>j.un fun σ G R g e h k=>⟨σ,G,_,g,e,h,λw f v l ⟨i,c⟩ b a d=>⟨b1C i b a,w,[],f,R,b,.nil,a,c,k.mono d⟩⟩⟩
theorem q_bm (pa:lG T) (slot:Slot T name id) (hty:typeOf (.builtin id)=pure (.type "method_descriptor")) (hm:MtQ X id rm) (ho:QE X o to) (ha:QA X (e::es) t)
  (hbase:kC o name X.env (eval o X.env)=eval o X.env:=by rfl)
  (hfew:((backTo cpos (jN (e::es) X.env)).all (λx=>!x.1)&&(kD cpos (kE [] X.env)).all (λx=>x.1.isSome)
   && decide ((e::es).length+([]:List lm).length+(if ([]:List lm).isEmpty then 0 else 1)<30))=true:=by rfl)
  (hline:(apos.endLine==cpos.line)=true:=by rfl) (hs:jN (e::es) X.env=(false,eval e X.env)::jN es X.env:=by rfl) (hplain:(backTo cpos (jN es X.env)).any (·.1)=false:=by rfl) :
  QE X (.Call (.Attribute o name apos) (e::es) [] cpos) (uBM T rm to t):=⟨a1w (c0b pa slot hty hm ho.p ha.p hbase hfew hline hs hplain) fun τ H Q q=>q.un fun σ G R hs r h u=>
  ⟨σ,G,_,hs,r,h,λw j v H1 ⟨m,n⟩ d a g=>⟨b1C m d a,σ,j,_,hs.mono g,a,n,λs i vs H2 k l f c=>⟨w,s,i,R,d.mono c,l,f,k,u.mono (g.trans c)⟩⟩⟩⟩
abbrev P3:=List Z->Hq->K3->Prop
noncomputable def lowP (K:Fg) (sp:P3):Sp:=λvs H Q _=>lowC K sp vs H Q
noncomputable def b8b (sp:P3) (t:A3):E3:=fun σ G R=>t σ G λws G1=>sp ws G1 R
variable {k:Nat}{f:Addr}{fd:jQ}{ps:List Str}{sp:P3}
theorem a0y (F:FnOk X.prog X.w X.K X.mg X.base CX0 k f fd ps (lowP X.K sp)) (hr:Room k X.A) (hg:Gl X x) (hm:X.mg x=some (.ref f)) (hk:PySem.W.keepIn X.K (.ref f)=true) (hb:Binds X.K fd ps []) (ha:QA X (e::es) t)
  (hdb:(x==("__debug__":Str))=false:=by decide) (he:jN (e::es) X.env=(false,eval e X.env)::jN es X.env:=by rfl) (hpl:(backTo pos (jN es X.env)).any (·.1)=false:=by rfl) :
  QE X (.Call (.Name x p) (e::es) [] pos) (b8b sp t):=⟨a1w (b1c F hr hg hm hk hb .nil b3x ha.p hdb he hpl) fun τ H Q d=>d.un fun σ G R i hg h m=>⟨σ,G,_,i,hg,h,λc j vs H1 l g b n=>⟨c,j,R,by rw[eR];exact g,b,l,m.mono n⟩⟩⟩
end
section
variable {X:Cx}{e c tg:Expr}{st:Stmt}{rest sa sb:List Stmt}{pos:Pos}{te:E3}{t u:X3}{tc:T3}
noncomputable def b8c:X3:=λnx _ _ _ σ G=>nx σ G
noncomputable def uSeq (t u:X3):X3:=λnx rt bk ct σ G=>t (u nx rt bk ct) rt bk ct σ G
theorem a1f:QSs X [] b8c:=⟨b1x b5D λD τ H a=>a.un fun σ G g e k f d b h c i j l=>c _ _ _ _ h d b (.refl _ _)⟩
theorem a0l (h1:QS X st t) (h2:QSs X rest u):QSs X (st::rest) (uSeq t u):=⟨b1x (a9k h1.p h2.p) λD τ H q=>q.un fun σ G k j c e l o h n d b g=>
 ⟨σ,G,_,j,c,e,l,o,h,fun σ' r τ' s m f i a=>⟨σ',r,k,j,c,e,f,i,m,n.mono a,d.mono a,b.mono a,g.mono a⟩,d,b,g⟩⟩
theorem a0o (h1:QS X st t):QSs X [st] t:=⟨b5E h1.p⟩
noncomputable def uCut (t u:X3):X3:=λnx rt bk ct σ G=>∃ M:C3,t M rt bk ct σ G/\∀ σ' G',M σ' G'->u nx rt bk ct σ' G'
theorem b3L (h1:QS X st t) (h2:QSs X rest u):QSs X (st::rest) (uCut t u):=⟨b1x (a9k h1.p h2.p) λD τ H v=>v.un fun σ G n d j b q m l s g e i=>by
 obtain⟨M,h,k⟩:=l;exact⟨σ,G,M,d,j,b,q,m,h,fun σ' o τ' w r f c a=>⟨σ',o,n,d,j,b,f,c,k _ _ r,s.mono a,g.mono a,e.mono a,i.mono a⟩,g,e,i⟩⟩
noncomputable def b8d (te:E3):X3:=λnx _ _ _ σ G=>te σ G λ_ G1=>nx σ G1
theorem a05 (he:QE X e te) (hs:ku e none pos.line X.env=pure false:=by rfl):QS X (.Expr e pos) (b8d te):=⟨a6o (b5F he.p hs) λD τ H i=>i.un fun σ G nx rt bk ct hs g h f u2 u3 u4=>
 ⟨σ,G,_,hs,g,h,λw G1 v H1 d rv c b=>f _ _ _ _ d (hs.mono b) c b⟩⟩
noncomputable def uRet (te:E3):X3:=λ_ rt _ _ σ G=>te σ G rt
theorem a0D (he:QE X e te):QS X (.Return (some e) pos) (uRet te):=⟨a6o (b7p he.p) λD τ H c=>c.un fun σ G f j k m a b h g d l i=>⟨σ,G,_,a,b,h,d⟩⟩
noncomputable def uIfS (c:T3) (t u:X3):X3:=λnx rt bk ct σ G=>c σ G λb G1=>if b=true then t nx rt bk ct σ G1 else u nx rt bk ct σ G1
theorem z_if (hc:QT X c tc) (ha:QSs X sa t) (hb:QSs X sb u):QS X (.If c sa sb pos) (uIfS tc t u):=⟨a6o (b9W hc.p ha.p hb.p) λD τ H s=>s.un fun σ G l g k m f r h n q j i=>by
 refine⟨σ,G,_,f,r,h,λb o v d e a=>?_⟩;cases b with
 | true=>rw[if_pos rfl]at d ⊢;exact⟨σ,o,l,g,k,m,f.mono a,e,d,n.mono a,q.mono a,j.mono a,i.mono a⟩
 | false=>rw[if_neg (by simp)]at d ⊢;exact⟨σ,o,l,g,k,m,f.mono a,e,d,n.mono a,q.mono a,j.mono a,i.mono a⟩⟩
inductive Pt where
 | nm (i:Nat)
 | tp (is:List Nat)
noncomputable def gsOf:List Nat->TGs
 | []=>gNil
 | i::is=>b7q (b0W i) (gsOf is)
noncomputable def gP (K:Fg):Pt->TG
 | .nm i=>b0W i
 | .tp is=>gTup K is.length (gsOf is)
noncomputable def sets:List Nat->List Z->S3->S3
 | i::is,w::ws,σ=>sets is ws (σ.set i (some w))
 | _,_,σ=>σ
noncomputable def a5L:Pt->Z->S3->Option S3
 | .nm i,w,σ=>some (σ.set i (some w))
 | .tp is,.tup ws,σ=>if ws.length=is.length then some (sets is ws σ) else none
 | _,_,_=>none
noncomputable def Pt.slots:Pt->List Nat
 | .nm i=>[i]
 | .tp is=>is
noncomputable def a5c:List Nat->List V->L2.St->L2.St
 | i::is,w::ws,σ=>a5c is ws (σ.set i (some w))
 | _,_,σ=>σ
theorem b1D:∀ {is:List Nat}{vs:List V}{τ:L2.St},vs.length=is.length->Q (a5c is vs τ) H->gsOf is vs τ H Q
 | [],[],_,_,q=>⟨rfl,q⟩
 | i::is,v::vs,τ,h,q=>⟨v,vs,rfl,b1D (by simpa using h) q⟩
 | [],_::_,_,h,_=>by simp at h
 | _::_,[],_,h,_=>by simp at h
theorem a7S {K:Fg}:∀ {is:List Nat}{ws:List Z}{vs:List V}{σ:S3}{τ:L2.St},Reps K H ws vs->RSt K H σ τ->RSt K H (sets is ws σ) (a5c is vs τ)
 | [],ws,vs,σ,τ,_,h=>by unfold sets a5c;exact h
 | i::is,[],vs,σ,τ,r,h=>by rw[a0q]at r;subst r;exact h
 | i::is,w::ws,vs,σ,τ,r,h=>by
  obtain⟨v,c,rfl,a,b⟩:=r;exact a7S (is:=is) b (h.set a i)
theorem a6L:∀ {is:List Nat}{vs:List V}{τ:L2.St}{j:Nat},j∉is->(a5c is vs τ)[j]?=τ[j]?
 | [],_,_,_,_=>by unfold a5c;rfl
 | i::is,[],_,_,_=>by unfold a5c;rfl
 | i::is,v::vs,τ,j,h=>by
  have b:j≠i:=λz=>h (by rw[z];exact fA ..);have a:=λz=>h (fB _ z)
  show (a5c is vs _)[j]?=τ[j]?
  rw[a6L a,gZ (Ne.symm b)]
theorem a47:∀ {is:List Nat}{vs:List V}{τ:L2.St},(a5c is vs τ).length=τ.length
 | [],_,_=>by unfold a5c;rfl
 | i::is,[],_=>by unfold a5c;rfl
 | i::is,v::vs,τ=>by
  show (a5c is vs _).length=τ.length
  rw[a47,List.length_set]
theorem b53 {K:Fg}(r:Rep K H w v) (hs:RSt K H σ τ) (hb:a5L pt w σ=some σ')
  (q:∀ τ',RSt K H σ' τ'->τ'.length=τ.length->(∀ j,j∉pt.slots->τ'[j]?=τ[j]?)->Q τ' H):gP K pt v τ H Q:=by
 cases pt with
 | nm i=>
  cases hb;exact q _ (hs.set r i) (by simp) λj d=>by rw[gZ];intro z;exact d (by rw[z];exact fA ..)
 | tp is=>
  cases w with
  | tup ws=>
   obtain⟨a,f,rfl,e,c⟩:=r;have b:(if ws.length=is.length then some _ else none)=some σ':=hb
   by_cases hl:ws.length=is.length
   ·rw[if_pos hl]at b;cases b;exact⟨a,f,rfl,SqT.of e,by rw[<- c.length];exact hl,b1D (by rw[<- c.length];exact hl) (q _ (a7S c hs) a47 λj d=>a6L d)⟩
   ·simp_all
  | _=>cases hb
noncomputable def QP (X:Cx) (tg:Expr) (pt:Pt):Prop:=PG X tg (gP X.K pt)
noncomputable def uAsg (te:E3) (pt:Pt):X3:=λnx _ _ _ σ G=>te σ G λx G1=>∃ σ',a5L pt x σ=some σ'/\nx σ' G1
theorem b1E {K:Fg}(h:lowS K (uAsg te pt) D τ H):tAsg (low K te) (gP K pt) D τ H:=by
 obtain⟨σ,G,p,s,k,l,b,e,h,j,r,m,n⟩:=h;exact⟨σ,G,_,b,e,h,λw o v q ⟨σ',g,i⟩ f c d=>b53 f (b.mono d) g fun τ' a _ _=>j _ _ _ _ i a c d⟩
theorem a02 (hN:X.N.Nodup) (hi:X.N[i]?=some x) (hx:Loc X.env.scope x) (he:QE X e te) (hs:ku e (some (.Name x pos')) pos.line X.env=pure false:=by rfl) (hf:X.fn x=true\/X.env.scope.names.lookup x=some .local:=by first | exact .inl rfl | exact .inr rfl | assumption) :
  QS X (.Assign [.Name x pos'] e pos) (uAsg te (.nm i)):=⟨a6o (b7t hN hi hx he.p hs hf) λ_ _ _=>b1E⟩
abbrev Z3:=Z->Z->Z->Hq->(Hq->Prop)->Prop
noncomputable def lowZ (K:Fg) (r:Z3):TSet:=λo i v H Q=>∃ a b w G R,Rep K H a o/\Rep K H b i/\Rep K H w v/\RH K G H/\r a b w G R/\∀ G' H',R G'->RH K G' H'->TK K H H'->Q H'
theorem lowZ.un {K:Fg}{C:Prop}(z:lowZ K r o i v H Q) (f:∀ a b w G R,(Rep K H a o)->(Rep K H b i)->(Rep K H w v)->(RH K G H)->(r a b w G R)->(∀ G' H',R G'->RH K G' H'->TK K H H'->Q H')->C):C:=by obtain⟨a,b,w,G,R,d,j,e,g,c,h⟩:=z;exact f _ _ _ _ _ d j e g c h
noncomputable def SetQ (X:Cx) (r:Z3):Prop:=PSet X (lowZ X.K r)
theorem b4P (h:PSet X r') (i:∀ o j v H Q,r o j v H Q->r' o j v H Q):PSet X r:=λa s σ H o j v c f u Q I b d e q=>h a s σ H o j v c f u Q I b d e (i _ _ _ _ _ q)
noncomputable def uPut (te to ti:E3) (r:Z3):X3:=λnx _ _ _ σ G=>te σ G λw G1=>to σ G1 λo G2=>ti σ G2 λi G3=>r o i w G3 λG4=>nx σ G4
theorem c0j (h:PS X st (tAsg (low X.K te) (gSub (low X.K to) (low X.K ti) (lowZ X.K r)))):QS X st (uPut te to ti r):=⟨a6o h λD τ H z=>z.un fun σ G Q I J N a s h B T V C=>
 ⟨σ,G,_,a,s,h,λw m v U o t e d=>⟨σ,m,_,a.mono d,e,o,λx u R S n i l c=>⟨σ,u,_,a.mono (d.trans c),l,n,λy A M F q g k b=>
  ⟨x,y,w,A,_,i.mono b,g,t.mono (c.trans b),k,q,λE L p j f=>B _ _ _ _ p (a.mono (((d.trans c).trans b).trans f)) j (((d.trans c).trans b).trans f)⟩⟩⟩⟩⟩
theorem a7T (he:QE X e te) (ho:QE X o to) (hi:QE X i ti) (hr:SetQ X r) (hs:swapsWithSole [.Subscript o i p'] e pos.line X.env=pure false:=by rfl) (hw:swappedStores [.Subscript o i p'] e X.env=pure none:=by rfl)
  (h1:(kz [.Subscript o i p'] X.env).map (·.2)=[assign (.Subscript o i p') X.env]:=by rfl) (ha:∀ v,assign (.Subscript o i p') X.env v=(do
   let ov <- j7 [v] (eval o X.env)
   let iv <- j7 [v,ov] (eval i X.env)
   ki p'
   j7 [v,ov,iv] (lw ov iv v)
   release [v,ov,iv] []):=by intro _;rfl):QS X (.Assign [.Subscript o i p'] e pos) (uPut te to ti r):=c0j (b7s he.p (b7r ho.p hi.p hr ha) hs hw h1)
end
abbrev I3:=S3->Hq->(List Z->(Hq->Prop)->Hq->Prop)->Prop
noncomputable def a7d (K:Fg) (ws:List Z) (ok:Hq->Prop) (J:It) (H0:Hp):Prop:=∀ i G H,RH K G H->TK K H0 H->ok G->i<=ws.length ->
 (i=ws.length->J.stop i H)/\∀ w,ws[i]?=some w->J.go i H/\∀ x H',J.yld i H x H'->Rep K H' w x/\RH K G H'/\TK K H H'
noncomputable def lowI (K:Fg) (wi:I3):TI:=fun τ H R2=>∃ σ G R,RSt K H σ τ/\RH K G H/\wi σ G R/\∀ ws ok G' J H',R ws ok G'->a7d K ws ok J H'->RH K G' H'->TK K H H'->R2 J H'
theorem lowI.un {K:Fg}{R2:It->Hp->Prop}{C:Prop}(z:lowI K wi τ H R2) (f:∀ σ G R,(RSt K H σ τ)->(RH K G H)->(wi σ G R)->(∀ ws ok G' J H',R ws ok G'->a7d K ws ok J H'->RH K G' H'->TK K H H'->R2 J H')->C):C:=by obtain⟨σ,G,R,d,b,c,a⟩:=z;exact f _ _ _ d b c a
noncomputable def QI (X:Cx) (tg iter:Expr) (wi:I3):Prop:=PI X tg iter (lowI X.K wi)
theorem a8N (h:PI X tg iter wi') (i:∀ σ H R,wi σ H R->wi' σ H R):PI X tg iter wi:=λa s σ H R I q=>h a s σ H R I (i σ H R q)
noncomputable def FORB (ws:List Z) (ok:Hq->Prop) (pt:Pt) (tb:X3) (nx:C3) (rt:K3) (σ:S3) (G1:Hq):Prop:=∃ I:Nat->S3->Hq->Prop,I 0 σ G1/\(∀ i σ G,i<=ws.length->I i σ G->ok G) /\
 (∀ i x σ G,ws[i]?=some x->I i σ G->∃ σ',a5L pt x σ=some σ'/\tb (I (i+1)) rt nx (I (i+1)) σ' G)/\∀ σ G,I ws.length σ G->nx σ G
noncomputable def uFor (wi:I3) (pt:Pt) (tb:X3):X3:=λnx rt _ _ σ G=>wi σ G λws ok G1=>FORB ws ok pt tb nx rt σ G1
theorem a08 (I:Nat->S3->Hq->Prop) (h0:I 0 σ G) (hok:∀ i σ G,i<=ws.length->I i σ G->ok G)
  (step:∀ i x σ G,ws[i]?=some x->I i σ G->∃ σ',a5L pt x σ=some σ'/\tb (I (i+1)) rt nx (I (i+1)) σ' G) (fin:∀ σ G,I ws.length σ G->nx σ G):FORB ws ok pt tb nx rt σ G:=⟨I,h0,hok,step,fin⟩
theorem a26 (hp:j0 (model X.prog X.w) X.A X.env X.xe) (hc:X.calm=true) (hi:QI X tg iter wi) (hg:QP X tg pt) (hb:QSs X sb t)
  (hs:∀ x,kA iter X.env x=pure x:=by intro _;rfl):QS X (.For tg iter sb [] pos) (uFor wi pt t):=⟨a6o (b7x hp hc hi hg hb.p hs) λD τ H U=>U.un fun σ G nx rt bk ct hs hg h R u2 u3 u4=>by
 refine⟨σ,G,_,hs,hg,h,?_⟩;rintro b ok G1 J L ⟨I,i0,S,u,E⟩ hJ M k;refine⟨λi m τ' a=>m=b.length - i/\i<=b.length/\∃ σ' G',RSt X.K a σ' τ'/\RH X.K G' a/\TK X.K L a/\I i σ' G',⟨b.length,by simp,fg _,σ,G1,hs.mono k,M,.refl _ _,i0⟩,?_⟩;rintro i m τ2 H2 ⟨rfl,n,σ2,j,o,r,c,z⟩;have l:=hJ i j H2 r c (S i σ2 j n z) n
 by_cases hlt:i<b.length
 ·obtain⟨Y,T⟩:=l.2 _ (eI hlt);refine .inr ⟨Y,fun τ' a=>i+1<=b.length/\∃ σ' G',RSt X.K a σ' τ'/\RH X.K G' a/\TK X.K L a/\I _ σ' G',fun σ' a q=>⟨b.length - _,by omega,rfl,q.1,q.2⟩,λx H3 V=>?_⟩;obtain⟨rx,N,g⟩:=T x H3 V;obtain⟨σ',F,h3⟩:=u i _ σ2 j (eI hlt) z;refine b53 rx (o.mono g) F fun τ' C _ _=>⟨σ',j,_,rt,nx,_,C,N,h3,?_,u2.mono ((k.trans c).trans g),R.mono ((k.trans c).trans g),?_⟩
  ·exact fun σ4 v τ4 W s d f y=>⟨hlt,σ4,v,d,f,(c.trans g).trans y,s⟩
  ·exact fun σ4 v τ4 W s d f y=>⟨hlt,σ4,v,d,f,(c.trans g).trans y,s⟩
 ·have e:i=b.length:=by omega
  subst e;exact .inl ⟨l.1 rfl,R _ _ _ _ (E σ2 j z) o r (k.trans c)⟩⟩
section
variable {X:Cx}{tg l:Expr}{tl:E3}
noncomputable def wkL (x:Z) (G:Hq) (R:List Z->(Hq->Prop)->Hq->Prop):Prop:=match x with
 | .ref a=>∃ ws,G a=some (.lst ws)/\R ws (λG=>G a=some (.lst ws)) G
 | .scr _ ns=>R (ns.map Z.int) (λ_=>True) G
 | _=>False
noncomputable def iL (tl:E3):I3:=fun σ G R=>tl σ G λx G1=>wkL x G1 R
theorem b0u {K:Fg}:a7d K ws (λG=>G a=some (.lst ws)) (Itl K a) H:=λi G H c t g m=>by
 obtain⟨b,e,f⟩:=c a _ g;refine⟨λh=>⟨b,SqL.of e,by rw[<- f.length,h];exact eh _⟩,λw j=>?_⟩;obtain⟨v,d,k⟩:=f.get j;refine⟨⟨b,v,SqL.of e,d⟩,?_⟩;rintro x l ⟨rfl,y⟩
 have:=y b (SqL.of e)
 rw[d]at this;cases this;exact⟨k,c,.refl _ _⟩
theorem b1F {K:Fg}{ns:List Int}(f:Fz K H0 a (ns.map V.int)):a7d K (ns.map Z.int) (λ_=>True) (Itl K a) H0:=λi G H g t m l=>by
 have b:=(t.frz _ _ f).sq;have c:Reps K H _ _:=a25 ns;refine⟨λh=>⟨_,b,by rw[<- c.length,h];exact eh _⟩,λw j=>?_⟩;obtain⟨v,d,e⟩:=c.get j;refine⟨⟨_,v,b,d⟩,?_⟩;rintro x k ⟨rfl,y⟩
 have:=y _ b
 rw[d]at this;cases this;exact⟨e,g,.refl _ _⟩
theorem a0L (hl:QE X l tl):QI X tg l (iL tl):=a8N (b5G hl.p) fun τ H s k=>k.un fun σ G R i j h f=>by
 refine⟨σ,G,_,i,j,h,λw q v o c b d g=>?_⟩;cases w with
 | ref a=>
  obtain⟨r,e,c⟩:=c;obtain⟨m,n,_⟩:=d a _ e;exact⟨a,b,⟨m,SqL.of n⟩,f _ _ _ _ _ c b0u d g⟩
 | scr a ns=>
  exact⟨a,b.1,⟨_,b.2.sq⟩,f _ _ _ _ _ c (b1F b.2) d g⟩
 | _=>exact er c
noncomputable def wkT (x:Z) (G:Hq) (R:List Z->(Hq->Prop)->Hq->Prop):Prop:=match x with
 | .tup ws=>R ws (λ_=>True) G
 | _=>False
noncomputable def iT (tl:E3):I3:=fun σ G R=>tl σ G λx G1=>wkT x G1 R
theorem b1G {K:Fg}(e:H0 a=some (.tup vs)) (rs:Reps K H0 ws vs):a7d K ws (λ_=>True) (Itt K a) H0:=λi G H f t ok hi=>by
 have e:=t.tup _ _ e;have rs:=rs.mono t;refine⟨λh=>⟨vs,SqT.of e,by rw[<- rs.length,h];exact eh _⟩,λw g=>?_⟩;obtain⟨v,c,d⟩:=rs.get g;refine⟨⟨vs,v,SqT.of e,c⟩,?_⟩;rintro x H' ⟨rfl,y⟩
 have:=y vs (SqT.of e)
 rw[c]at this;cases this;exact⟨d,f,.refl _ _⟩
theorem b4Q (hl:QE X l tl):QI X tg l (iT tl):=a8N (b7u hl.p) fun τ H o j=>j.un fun σ G R m i h n=>by
 refine⟨σ,G,_,m,i,h,λw r v q d c b k=>?_⟩;cases w with
 | tup ws=>
  obtain⟨a,g,rfl,e,f⟩:=c;exact⟨a,rfl,⟨g,SqT.of e⟩,n _ _ _ _ _ d (b1G e f) b k⟩
 | _=>exact er d
noncomputable def rng (lo:Int):Nat->List Z
 | 0=>[]
 | n+1=>.int lo::rng (lo+1) n
theorem a0R:∀ (lo:Int) (n:Nat),(rng lo n).length=n
 | _,0=>rfl
 | lo,n+1=>by rw[rng,eu,a0R]
theorem a16:∀ {lo:Int}{n i:Nat}{w:Z},(rng lo n)[i]?=some w->i<n/\w=.int (lo+i)
 | _,0,_,_,h=>by simp[rng]at h
 | lo,n+1,0,w,h=>by simp[rng]at h;exact⟨by omega,by rw[<- h];simp⟩
 | lo,n+1,i+1,w,h=>by
  have:=a16 (by simpa[rng]using h)
  refine⟨by omega,?_⟩;rw[this.2]
  congr 1
  omega
theorem a7U {K:Fg}{lo:Int}:a7d K (rng lo n) (λ_=>True) (Itr lo n) H0:=λi G H b t e g=>by
 rw[a0R];refine⟨λh=>by rw[h];exact eh _,λw d=>?_⟩;obtain⟨a,c⟩:=a16 d;refine⟨a,?_⟩;rintro x f ⟨rfl,rfl⟩;exact⟨by rw[c,a0t],b,.refl _ _⟩
variable {t:A3}
noncomputable def iR1 (t:A3):I3:=fun σ G R=>t σ G λws G1=>∃ j:Int,ws=[.int j]/\-(2 ^ 62)<=j/\j<2 ^ 62/\R (rng 0 j.toNat) (λ_=>True) G1
noncomputable def iR2 (t:A3):I3:=fun σ G R=>t σ G λws G1=>∃ i j:Int,ws=[.int i,.int j]/\(-(2 ^ 62)<=i/\i<2 ^ 62/\-(2 ^ 62)<=j/\j<2 ^ 62)/\R (rng i (j - i).toNat) (λ_=>True) G1
theorem b1H (h:PI X tg wi (b7v (lowA X.K t))):QI X tg wi (iR1 t):=a8N h fun τ H p g=>g.un fun σ G R i d h l=>by
 refine⟨σ,G,_,i,d,h,λq o n s ⟨j,e,a,b,k⟩ f c m=>?_⟩;subst e;obtain⟨v,rfl,r⟩:=f.one;subst r;exact⟨j,rfl,a,b,l _ _ _ _ _ k a7U c m⟩
theorem b1I (h:PI X tg wi (b7w (lowA X.K t))):QI X tg wi (iR2 t):=a8N h fun τ H q g=>g.un fun σ G R l f h n=>by
 refine⟨σ,G,_,l,f,h,λo w p s ⟨i,j,e,a,m⟩ d b k=>?_⟩;subst e;obtain⟨v,u,rfl,r,c⟩:=d.two;subst r c;exact⟨i,j,rfl,a,n _ _ _ _ _ m a7U b k⟩
end
section
variable {X:Cx}{tg a b:Expr}{p pos:Pos}{t:A3}
theorem a3m (hg:Gl X "range") (hm:X.mg "range"=none) (ha:QA X [a] t) (hs:jN [a] X.env=[(false,eval a X.env)]:=by rfl):QI X tg (.Call (.Name "range" p) [a] [] pos) (iR1 t):=b1H (b0Y hg hm ha.p hs)
theorem a3n (hg:Gl X "range") (hm:X.mg "range"=none) (ha:QA X [a,b] t) (hs:jN [a,b] X.env=[(false,eval a X.env),(false,eval b X.env)]:=by rfl) (hs2:jN [b] X.env=[(false,eval b X.env)]:=by rfl):QI X tg (.Call (.Name "range" p) [a,b] [] pos) (iR2 t):=b1I (b0Z hg hm ha.p hs hs2)
end
noncomputable def cap3 (cap:List (Option Nat)) (σ:S3):S3:=cap.map λo=>o.bind λj=>(σ[j]?).join
theorem a8O {K:Fg}(h:RSt K H σ τ):∀ cap:List (Option Nat),RSt K H (cap3 cap σ) (a4K cap τ)
 | []=>.nil
 | none::cap=>.cons (λ_ e=>nomatch e) (a8O h cap)
 | some j::cap=>.cons (λw e=>by
   have a:(σ[j]?).join=some w:=e;have b:σ[j]?=some (some w):=by
    cases q:σ[j]? with
    | none=>rw[q]at a;cases a
    | some o=>rw[q]at a;cases o with
     | none=>cases a
     | some z=>cases a;rfl
   obtain⟨v,c,r⟩:=h.get b;exact⟨v,by show (τ[j]?).join=some v;rw[c];rfl,r⟩) (a8O h cap)
theorem a4O:∀ {a b:L2.St},b.length=a.length->(∀ (i:Nat) v,a[i]?=some (some v)->b[i]?=some (some v))->a2o a b
 | [],[],_,_=>True.intro
 | none::a,_::b,h,k=>a4O (b:=b) (by simpa using h) λi v e=>by simpa using k (i+1) v (by simpa using e)
 | some x::a,y::b,h,k=>⟨by simpa using k 0 x rfl,a4O (b:=b) (by simpa using h) λi v e=>by simpa using k (i+1) v (by simpa using e)⟩
 | [],_::_,h,_=>by simp at h
 | _::_,[],h,_=>by simp at h
noncomputable def LCB (ws:List Z) (ok:Hq->Prop) (cap:List (Option Nat)) (pt:Pt) (tt:T3) (te:E3) (σ:S3) (R:K3) (D:Addr) (G1:Hq):Prop:=∃ I:Nat->List Z->Hq->Prop,I 0 [] (put G1 D (.lst []))/\(∀ i ys G,i<=ws.length->I i ys G->ok G) /\
 (∀ i x ys G,ws[i]?=some x->I i ys G->∃ σ',a5L pt x (cap3 cap σ)=some σ'/\tt σ' G λb G4=>if b=true then te σ' G4 λy G5=>G5 D=some (.lst ys)/\ys.length<jK/\I (i+1) (ys++[y]) (put G5 D (.lst (ys++[y]))) else I (i+1) ys G4) /\
 ∀ ys G,I ws.length ys G->R (.ref D) G
noncomputable def uLC (wi:I3) (cap:List (Option Nat)) (pt:Pt) (tt:T3) (te:E3):E3:=fun σ G R=>wi σ G λws ok G1=>∀ D,G1 D=none->LCB ws ok cap pt tt te σ R D G1
theorem b0v (I:Nat->List Z->Hq->Prop) (h0:I 0 [] (put G1 D (.lst []))) (hok:∀ i ys G,i<=ws.length->I i ys G->ok G)
  (step:∀ i x ys G,ws[i]?=some x->I i ys G->∃ σ',a5L pt x (cap3 cap σ)=some σ'/\tt σ' G λb G4=>if b=true then te σ' G4 λy G5=>G5 D=some (.lst ys)/\ys.length<jK/\I (i+1) (ys++[y]) (put G5 D (.lst (ys++[y]))) else I (i+1) ys G4)
  (fin:∀ ys G,I ws.length ys G->R (.ref D) G):LCB ws ok cap pt tt te σ R D G1:=⟨I,h0,hok,step,fin⟩
theorem a06 {α β:Type}{f:α->Option β}{ws:List α}{x:α}(h:ws[i]?=some x):(ws.take (i+1)).filterMap f=(ws.take i).filterMap f++(f x).toList:=by
 rw[fN,List.filterMap_append,h];cases e:f x<;>simp[e]
theorem b1J (f:Z->Option Z) (hok:∀ ys,ok (put G1 D (.lst ys))) (hz:ws.length<=1000)
  (turn:∀ x,x∈ws->∀ (ys:List Z) (K1:K3) (K2:Hq->Prop),(∀ y,f x=some y->K1 y (put G1 D (.lst ys)))->(f x=none->K2 (put G1 D (.lst ys)))->∃ σ',a5L pt x (cap3 cap σ)=some σ'/\tt σ' (put G1 D (.lst ys)) λb G4=>if b=true then te σ' G4 K1 else K2 G4)
  (fin:R (.ref D) (put G1 D (.lst (ws.filterMap f)))):LCB ws ok cap pt tt te σ R D G1:=by
 refine⟨λi a G=>a=(ws.take i).filterMap f/\G=put G1 D (.lst a),⟨by simp,rfl⟩,?_,?_,?_⟩
 ·simp_all
 ·rintro i x a G c ⟨e,rfl⟩;refine turn x (eP c) a _ _ (λy g=>⟨a0d,?_,?_,?_⟩) λd=>⟨?_,rfl⟩
  ·rw[e];exact ge (eF (gO _ _) (by rw[eK];omega)) (a0v (eh 1000))
  ·rw[a06 c,g,e];rfl
  ·rw[a2q]
  ·rw[a06 c,d,e];simp
 ·simp_all
noncomputable def QIfs (X:Cx) (ifs:List Expr) (t:T3):Prop:=PIfs X ifs (lowT X.K t)
noncomputable def uTT:T3:=λ_ G R=>R true G
theorem a2v:QIfs X [] uTT:=λa s τ H Q I ⟨σ,G,R,d,b,h,c⟩=>b3C a s τ H Q I (c _ _ _ h b (.refl _ _))
theorem a27 (h:QT X c t):QIfs X [c] t:=b3D h.p
theorem b54 {pt:Pt}(hc:(pt.slots.all λj=>decide (cap[j]?=some none))=true) (h:(a4K cap τ)[i]?=some (some v)):i∉pt.slots:=λa=>by
 have q:=of_decide_eq_true ((fL.mp hc) i a);unfold a4K at h;rw[eE,q]at h;cases h
theorem b4R {K:Fg}(hc:(pt.slots.all λj=>decide (cap[j]?=some none))=true) (h:low K (uLC wi cap pt tt te) τ H Q) :
  tLC (lowI K wi) cap (gP K pt) (lowT K tt) (low K te) τ H Q:=by
 obtain⟨σ,G,R,hs,hg,h,up⟩:=h;refine⟨σ,G,_,hs,hg,h,λc ok G1 J H1 h1 hJ t U D B=>?_⟩;obtain⟨I,i0,S,C,N⟩:=h1 D (t.out B);refine⟨λi m _ d=>m=c.length - i/\i<=c.length/\∃ a G',RH K G' d/\TK K H1 d/\I i a G',⟨c.length,by simp,fg _,[],_,t.set (o:=.lst []) (.new B) ⟨[],a0s,.nil⟩,.new B,i0⟩,?_⟩;rintro i m vs H2 ⟨rfl,w,a,f,p,g,E⟩;have n:=hJ i f H2 p g (S i a f w E) w
 by_cases hlt:i<c.length
 ·obtain⟨go,yl⟩:=n.2 _ (eI hlt);refine .inr ⟨go,λ_ d=>i+1<=c.length/\∃ a G',RH K G' d/\TK K H1 d/\I _ a G',λvs' d q=>⟨c.length - _,by omega,rfl,q.1,q.2⟩,λx H3 y3=>?_⟩;obtain⟨rx,aa,F⟩:=yl x H3 y3;obtain⟨σ',Y,h3⟩:=C i _ a f (eI hlt) E;refine b53 rx (a8O (hs.mono ((U.trans g).trans F)) cap) Y fun τ' z M hk'=>⟨a4O M λj v T=>by rw[hk' j (b54 hc T)];exact T,?_⟩;refine⟨σ',f,_,z,aa,h3,λb G4 H4 l u A=>?_⟩;cases b with
  | false=>
   exact⟨hlt,a,G4,u,(g.trans F).trans A,l⟩
  | true=>
   refine⟨σ',G4,_,z.mono A,u,l,λy G5 v5 H5 ⟨L,V,h5⟩ r5 r t5=>?_⟩;obtain⟨X,k,s⟩:=r D _ L;refine⟨X,k,by rw[<- s.length];exact V,hlt,_,_,r.set (.lst k) (a1i (s.append (.cons r5 .nil)) (.lst k)),?_,h5⟩;exact (((g.trans F).trans A).trans t5).trans (.lst k)
 ·have e:i=c.length:=by omega
  subst e;exact .inl ⟨n.1 rfl,up _ _ _ _ (N a f E) (by rw[a0C]) p (U.trans g)⟩
section
variable {X:Cx}{N':List Str}{sc:Scope}{cap:List (Option Nat)}{tg iter elt:Expr}{ifs:List Expr}{wi:I3}{pt:Pt}{tt:T3}{te:E3}{pos:Pos}
theorem q_lc (hc:X.calm=true) (hNN:X.N=N₀) (hso:X.env.scope=so) (ck:capB N₀ so sc N' cap=true) (hp:(pt.slots.all λj=>decide (cap[j]?=some none))=true) (hi:QI X tg iter wi)
  (hg:∀ C s H fp,QP (cxC X E0 N' sc C s H fp) tg pt) (ht:∀ C s H fp,QIfs (cxC X E0 N' sc C s H fp) ifs tt) (he:∀ C s H fp,QE (cxC X E0 N' sc C s H fp) elt te)
  (hs:∀ x,kA iter X.env x=pure x:=by intro _;rfl):QE X (.ListComp elt [⟨tg,iter,ifs,0⟩] sc pos) (uLC wi cap pt tt te):=⟨a1w (c0e (g:=gP X.K pt) (tt:=lowT X.K tt) hc a9p hNN hso ck hi hg ht (λC s H a=>(he C s H a).p) hs) λ_ _ _=>b4R hp⟩
theorem a7e (hN:X.N.Nodup) (hx:X.N[i]?=some x) (hl:X.env.scope.names.lookup x=some .local) (hc:X.calm=true) (hNN:X.N=N₀) (hso:X.env.scope=so) (ck:capB N₀ so sc N' cap=true)
  (hp:(pt.slots.all λj=>decide (cap[j]?=some none))=true) (hi:QI X tg iter wi)
  (hg:∀ C s H fp,QP (cxC X E0 N' sc C s H fp) tg pt) (ht:∀ C s H fp,QIfs (cxC X E0 N' sc C s H fp) ifs tt) (he:∀ C s H fp,QE (cxC X E0 N' sc C s H fp) elt te)
  (hsw:ku (.ListComp elt [⟨tg,iter,ifs,0⟩] sc pos) (some (.Name x pos')) spos.line X.env=pure true:=by rfl)
  (hs:∀ x,kA iter X.env x=pure x:=by intro _;rfl):QS X (.Assign [.Name x pos'] (.ListComp elt [⟨tg,iter,ifs,0⟩] sc pos) spos) (uAsg (uLC wi cap pt tt te) (.nm i)):=⟨a6o (b3F (g:=gP X.K pt) (tt:=lowT X.K tt) hN hx hl hc a9p hNN hso ck hi hg ht (λC s H a=>(he C s H a).p) hsw hs) λD τ H h=>b4R hp (b1E h)⟩
end
section
variable {P:jO}{w:World}{K:Fg}{mg:Str->Option Value}{base:Heap}
theorem fn3 {st:Stmt}(F:Fun K x qual st f fd) (S:FnScope N ps (a0e st)) (len:∀ ws G R,sp ws G R->ws.length=ps.length)
  (hbody:∀ (cdv:Value) (A:Around) (outer:List Env) (s:Shared) (H:Hp) (E:XK) (ws:List Z) (G:Hq) (R:K3),Room k (A.deeper (envOfC qual (a0e st) s.heap.objs.size f cdv))->sp ws G R ->
   ∃ t,QSs (cxOf CX0 P w K mg base N qual (a0e st) f cdv A outer s H E).nox (a12 st) t/\t (λ_ G'=>R .non G') R (λ_ _=>False) (λ_ _=>False) (a46 N ws) G):FnOk P w K mg base CX0 (k+1) f fd ps (lowP K sp):=by
 refine F.ok S (λn H Q E ⟨d,G,R,c,e,h,b⟩=>by rw[<- c.length];exact len _ _ _ h) ?_;rintro g A a s H n Q E j ⟨d,G,R,c,e,h,b⟩;obtain⟨t,l,q⟩:=hbody g A a s H E d G R j h;exact⟨_,l.p,a46 N d,G,_,R,_,_,.start c,e,q,fun σ' v τ' u m r i o=>b _ _ _ _ m (by rw[a0S]) i o,b,λ_ _ _ _ h _ _ _=>h.elim,λ_ _ _ _ h _ _ _=>h.elim⟩
end
section
variable {X:Cx}
noncomputable def zAdd:R3:=λx y G R=>match x,y with
 | .int i,.int j=>R (.int (i+j)) G
 | .str a,.str b=>a.length+b.length<=jK/\R (.str (a++b)) G
 | .tup xs,.tup ys=>xs≠[]/\xs.length+ys.length<=jK/\R (.tup (xs++ys)) G
 | .ref p,.ref q=>∃ xs ys,G p=some (.lst xs)/\G q=some (.lst ys)/\xs.length+ys.length<=jK/\∀ t,G t=none->R (.ref t) (put G t (.lst (xs++ys)))
 | _,_=>False
theorem a1L:OpQ X (jY .Add) zAdd:=a5K (op_add.or (op_add_str.or (op_catT.or b7O))) λx y H Q D=>D.un λa b G R c d f h m=>by
 cases a with
 | int i=>
  cases b with
  | int j=>rw[a0t]at c d;exact .inl ⟨_,_,c,d,m _ _ _ _ h (by rw[a0t]) f (.refl _ _)⟩
  | _=>exact er h
 | str i=>
  cases b with
  | str j=>rw[a0G]at c d;exact .inr (.inl ⟨_,_,c,d,h.1,m _ _ _ _ h.2 (by rw[a0G]) f (.refl _ _)⟩)
  | _=>exact er h
 | tup w=>
  cases b with
  | tup ws=>
   obtain⟨p,n,rfl,o,k⟩:=c;obtain⟨q,r,rfl,u,l⟩:=d;obtain⟨B,s,h⟩:=h;refine .inr (.inr (.inl ⟨p,q,n,r,rfl,rfl,SqT.of o,SqT.of u,λz=>?_,by rw[<- k.length,<- l.length];exact s,λz=>?_,λz t g=>?_⟩))
   ·subst z;exact B (iE.mp k.length)
   ·subst z;have e:=iE.mp l.length;subst e;rw[eR]at h;exact m _ _ _ _ h (by rw[a1K];exact⟨p,n,rfl,o,k⟩) f (.refl _ _)
   ·exact m _ _ _ _ h (by rw[a1K];exact⟨t,n++r,rfl,a0s,Reps.mono (.new g) _ _ (k.append l)⟩) (f.hid g) (.new g)
  | _=>exact er h
 | ref p=>
  cases b with
  | ref q=>
   subst c d;obtain⟨n,r,o,u,s,h⟩:=h;obtain⟨C,A,k⟩:=f _ _ o;obtain⟨w,v,l⟩:=f _ _ u;exact .inr (.inr (.inr ⟨_,_,C,w,rfl,rfl,A,v,by rw[<- k.length,<- l.length];exact s,λt g=>m _ _ _ _ (h t (f.out g)) (by rw[a0C]) (f.set (.new g) (a1i (k.append l) (.new g))) (.new g)⟩))
  | _=>exact er h
 | _=>exact er h
noncomputable def zI (C:Int->Int->Prop) (g:Int->Int->Z):R3:=λx y G R=>match x,y with
 | .int i,.int j=>C i j/\R (g i j) G
 | _,_=>False
noncomputable def zI0 (g:Int->Int->Z):R3:=λx y G R=>match x,y with
 | .int i,.int j=>R (g i j) G
 | _,_=>False
theorem oI {g:Int->Int->Int}(h:OpR X f (rI C λi j=>.int (g i j))):OpQ X f (zI C λi j=>.int (g i j)):=a5K h λx y H Q l=>l.un λa b G R d c k h e=>by
 cases a<;>cases b<;>first
  | exact er h
  | (rw[a0t]at d c;exact⟨_,_,d,c,h.1,e _ _ _ _ h.2 (by rw[a0t]) k (.refl _ _)⟩)
theorem oI0 {g:Int->Int->Int}(h:OpR X f (rI0 λi j=>.int (g i j))):OpQ X f (zI0 λi j=>.int (g i j)):=a5K h λx y H Q l=>l.un λa b G R d c k h e=>by
 cases a<;>cases b<;>first
  | exact er h
  | (rw[a0t]at d c;exact⟨_,_,d,c,e _ _ _ _ h (by rw[a0t]) k (.refl _ _)⟩)
theorem b55:OpQ X (jY .Sub) (zI0 λi j=>.int (i - j)):=oI0 b7y
theorem b3M:OpQ X (jY .Mult) (zI CMul λi j=>.int (i*j)):=oI b7z
theorem b1K:OpQ X (jY .FloorDiv) (zI b71 λi j=>.int (i / j)):=oI b3G
theorem a5M:OpQ X (jY .Mod) (zI (λ_ j=>0<j) λi j=>.int (i % j)):=oI b7A
theorem b1L:OpQ X (jY .Pow) (zI CPow λi j=>.int (i ^ j.toNat)):=oI b7B
theorem b8e:OpQ X (lB .Add) (zI0 λi j=>.int (i+j)):=oI0 b5H
noncomputable def zNeg:Z->Hq->K3->Prop:=λx G R=>match x with
 | .int i=>R (.int (-i)) G
 | _=>False
theorem a5N:UnQ X (lz .USub) zNeg:=c0f b7C λx H Q c=>c.un λa G R b d h e=>by
 cases a<;>first
  | exact er h
  | (rw[a0t]at b;exact⟨_,b,e _ _ _ _ h (by rw[a0t]) d (.refl _ _)⟩)
theorem b1M:OpR X (jT .LtE) (λx y H Q=>∃ i j,x=.str i/\y=.str j/\Q (.bl (!decide (j.cps.toList<i.cps.toList))) H):=by
 intro b s σ H x y v u Q I a c h;obtain⟨i,j,rfl,rfl,q⟩:=h;obtain⟨t,rfl⟩:=a;obtain⟨d,rfl⟩:=c;exact PySem.P.le_str (a0A I q rfl)
theorem b1N:OpR X (jT .Gt) (λx y H Q=>∃ i j,x=.str i/\y=.str j/\Q (.bl (decide (j.cps.toList<i.cps.toList))) H):=by
 intro b s σ H x y v u Q I a c h;obtain⟨i,j,rfl,rfl,q⟩:=h;obtain⟨t,rfl⟩:=a;obtain⟨d,rfl⟩:=c;exact PySem.P.gt_str (a0A I q rfl)
noncomputable def zC (f:Int->Int->Bool) (g:Str->Str->Bool):R3:=λx y G R=>match x,y with
 | .int i,.int j=>R (.bl (f i j)) G
 | .str i,.str j=>R (.bl (g i j)) G
 | _,_=>False
theorem oC (h:OpR X (jT op) (rI0 λi j=>.bl (f i j))) (h':OpR X (jT op) (λx y H Q=>∃ i j,x=.str i/\y=.str j/\Q (.bl (g i j)) H)) :
  OpQ X (jT op) (zC f g):=a5K (h.or h') λx y H Q l=>l.un λa b G R c d e h k=>by
 cases a<;>cases b<;>first
  | exact er h
  | (rw[a0t]at c d;exact .inl ⟨_,_,c,d,k _ _ _ _ h (by rw[a0O]) e (.refl _ _)⟩)
  | (rw[a0G]at c d;exact .inr ⟨_,_,c,d,k _ _ _ _ h (by rw[a0O]) e (.refl _ _)⟩)
abbrev ltS (x y:Str):Bool:=decide (x.cps.toList<y.cps.toList)
theorem o_lt:OpQ X (jT .Lt) (zC (λi j=>decide (i<j)) λx y=>ltS x y):=oC b90 b05
theorem o_le:OpQ X (jT .LtE) (zC (λi j=>decide (i<=j)) λx y=>!ltS y x):=oC b91 b1M
theorem o_gt:OpQ X (jT .Gt) (zC (λi j=>decide (j<i)) λx y=>ltS y x):=oC b92 b1N
noncomputable def zIs (neg:Bool):R3:=λx y G R=>match y with
 | .non=>R (.bl (if neg then !decide (x=.non) else decide (x=.non))) G
 | .bl b=>match x with
  | .bl a=>neg=false/\R (.bl (a==b)) G
  | _=>False
 | _=>False
theorem a6M {K:Fg}(r:Rep K H w v):decide (v=.non)=decide (w=.non):=by
 cases w with
 | non=>rw[a0S]at r;subst r;rfl
 | bl _=>rw[a0O]at r;subst r;simp
 | int _=>rw[a0t]at r;subst r;simp
 | str _=>rw[a0G]at r;subst r;simp
 | ref _=>rw[a0C]at r;subst r;simp
 | ty _=>rw[b1w]at r;subst r;simp
 | scr _ _=>rw[a4M]at r;obtain⟨rfl,_⟩:=r;simp
 | tup _=>rw[a1K]at r;obtain⟨_,_,rfl,_⟩:=r;simp
end
mutual
def dZ:Z->PyData
 | .bl b=>.bool b
 | .int i=>.int i
 | .str x=>.str x
 | .tup ws=>.tuple (dZs ws)
 | _=>.none
def dZs:List Z->List PyData
 | []=>[]
 | w::ws=>dZ w::dZs ws
end
noncomputable def flat:Nat->Z->Bool
 | _,.non=>true
 | _,.int _=>true
 | _,.str x=>PyData.strOk x
 | n+1,.tup ws=>ws.all (flat n)
 | _,_=>false
theorem b4S:∀ (n:Nat) (d:Z),flat n d=true->(dZ d).canLay0=true/\(dZ d).depth<=n:=by
 have f:∀ n,(∀ d,flat n d=true->(dZ d).canLay0=true/\(dZ d).depth<=n)->∀ a:List Z,(∀ d∈a,flat n d=true)->PyData.canLayAll0 (dZs a)=true/\PyData.depthAll (dZs a)<=n:=by
  intro n b a
  induction a with
  | nil=>intro _;simp[dZs,PyData.canLayAll0,PyData.depthAll]
  | cons d a hi=>
   intro h;have g:=b d (h d (.head _));have c:=hi λe j=>h e (.tail _ j);simp only[dZs,PyData.canLayAll0,PyData.depthAll,g.1,c.1,Bool.and_self,true_and];omega
 intro n
 induction n with
 | zero=>
  intro d h;cases d<;>simp_all[flat,dZ,PyData.canLay0,PyData.depth]
 | succ n b=>
  intro d h;cases d with
  | non=>simp[dZ,PyData.canLay0,PyData.depth]
  | int i=>simp[dZ,PyData.canLay0,PyData.depth]
  | str x=>simp[flat]at h;simp[dZ,PyData.canLay0,PyData.depth,h]
  | tup a=>
   have q:=f n b a (by simpa[flat]using h);simp only[dZ,PyData.canLay0,PyData.depth,q.1,true_and];omega
  | _=>simp[flat]at h
theorem b56 (n:Nat) (ds:List Z) (h:ds.all (flat n)=true):PyData.canLayAll0 (dZs ds)=true/\PyData.depthAll (dZs ds)<=n:=by
 have q:=b4S (n+1) (.tup ds) (by simpa[flat]using h);simp only[dZ,PyData.depth]at q;exact⟨q.1,by omega⟩
theorem b1O:∀ (n:Nat) (d e:Z) (k:Nat),flat n d=true->flat k e=true->(PyData.eqv (dZ d) (dZ e)=true↔d=e):=by
 have all:∀ (n:Nat),(∀ d e k,flat n d=true->flat k e=true->(PyData.eqv (dZ d) (dZ e)=true↔d=e))->∀ (k:Nat) (ds es:List Z),(∀ d∈ds,flat n d=true)->(∀ d∈es,flat k d=true) ->
   (PyData.eqvAll (dZs ds) (dZs es)=true↔ds=es):=by
  intro n ih k ds
  induction ds with
  | nil=>intro es _ _;cases es<;>simp[dZs,PyData.eqvAll]
  | cons d ds hi=>
   intro es h1 h2;cases es with
   | nil=>simp[dZs,PyData.eqvAll]
   | cons e es=>
    have q1:=ih d e k (h1 d (.head _)) (h2 e (.head _));have q2:=hi es (λx hx=>h1 x (.tail _ hx)) λx hx=>h2 x (.tail _ hx);simp only[dZs,PyData.eqvAll,fE,q1,q2,fU.injEq]
 intro n
 induction n with
 | zero=>
  intro d e k h1 h2;cases d<;>cases e<;>simp_all[flat,dZ,PyData.eqv]
 | succ n ih=>
  intro d e k h1 h2;cases d with
  | tup ds=>
   cases e with
   | tup es=>
    cases k with
    | zero=>simp[flat]at h2
    | succ k=>
     simp only[dZ,PyData.eqv,Z.tup.injEq];exact all n ih k ds es (by simpa[flat]using h1) (by simpa[flat]using h2)
   | _=>simp_all[flat,dZ,PyData.eqv]
  | _=>cases e<;>simp_all[flat,dZ,PyData.eqv]
theorem b57 (n k:Nat) (ds es:List Z) (h:ds.all (flat n)=true) (h':es.all (flat k)=true):PyData.eqvAll (dZs ds) (dZs es)=true↔ds=es:=by
 have q:=b1O (n+1) (.tup ds) (.tup es) (k+1) (by simpa[flat]using h) (by simpa[flat]using h');simpa only [dZ,PyData.eqv,Z.tup.injEq]using q
section
variable {K:Fg}{H:Hp}
theorem b3N:∀ (n:Nat) (w:Z) (v:V),flat n w=true->Rep K H w v->DV H (dZ w) v:=by
 have g:∀ n,(∀ w v,flat n w=true->Rep K H w v->DV H (dZ w) v)->∀ b c,(∀ d∈b,flat n d=true)->Reps K H b c->DVs H (dZs b) c:=by
  intro n f b
  induction b with
  | nil=>intro c _ r;exact r
  | cons w b hi=>
   intro c h r;obtain⟨v,j,e,o,l⟩:=r;exact⟨v,j,e,f w v (h w (.head _)) o,hi j (λd k=>h d (.tail _ k)) l⟩
 intro n
 induction n with
 | zero=>
  intro w v h r;cases w with
  | non=>rw[a0S]at r;exact r
  | int i=>rw[a0t]at r;exact r
  | str x=>rw[a0G]at r;exact r
  | _=>simp[flat]at h
 | succ n f=>
  intro w v h r;cases w with
  | non=>rw[a0S]at r;exact r
  | int i=>rw[a0t]at r;exact r
  | str x=>rw[a0G]at r;exact r
  | tup b=>
   obtain⟨a,c,e,p,m⟩:=r;exact⟨a,c,e,p,g n f b c (by simpa[flat]using h) m⟩
  | _=>simp[flat]at h
theorem a9t (n:Nat):∀ (ws:List Z) (vs:List V),ws.all (flat n)=true->Reps K H ws vs->DVs H (dZs ws) vs
 | [],vs,_,r=>by rw[a0q]at r;simp only[dZs];unfold DVs;exact r
 | w::ws,vs,h,r=>by
  obtain⟨v,a,e,b,c⟩:=r;rw[fM,fE]at h;exact⟨v,a,e,b3N n w v h.1 b,a9t n ws a h.2 c⟩
end
theorem a3P (h:flat n w=true) (hn:n<=64):SeqAt.shaped (dZ w)=true:=by
 have q:=b4S n w h;unfold SeqAt.shaped;rw[q.1,fx];exact decide_eq_true (by omega)
theorem a3Q (h:ws.all (flat n)=true) (hn:n<=63):SeqAt.shaped (.list (dZs ws))=true:=by
 have q:=b56 n ws h;unfold SeqAt.shaped;simp only[PyData.canLay0,PyData.depth,q.1];exact decide_eq_true (by omega)
theorem a8P {p:Prop}[Decidable p] (h:a=true↔p):a=decide p:=by
 cases a with
 | true=>exact (decide_eq_true (h.mp rfl)).symm
 | false=>exact (decide_eq_false λq=>by cases h.mpr q).symm
theorem a1x {p q:Prop}[Decidable p] [Decidable q] (h:p=q):decide p=decide q:=by grind
noncomputable def zEq (f:Bool->Bool):R3:=λx y G R=>match x,y with
 | .bl a,.bl b=>R (.bl (f (a==b))) G
 | .int a,.int b=>R (.bl (f (decide (a=b)))) G
 | .str a,.str b=>R (.bl (f (decide (a=b)))) G
 | .ref p,.ref q=>∃ xs ys,G p=some (.lst xs)/\G q=some (.lst ys)/\xs.all (flat 8)=true/\ys.all (flat 8)=true/\R (.bl (f (decide (xs=ys)))) G
 | x,y=>flat 8 x=true/\flat 8 y=true/\R (.bl (f (decide (x=y)))) G
section
variable {X:Cx}
theorem b4T {K:Fg}(h:low2 K (zEq f) x y H Q) :
    (scal x y=true/\Q (.bl (f (decide (x=y)))) H)\/∃ d e,DV H d x/\DV H e y/\SeqAt.shaped d=true/\SeqAt.shaped e=true/\Q (.bl (f (PyData.eqv d e))) H:=by
  obtain⟨a,b,G,R,g,c,i,h,j⟩:=h;have p:flat 8 a=true/\flat 8 b=true/\R (.bl (f (decide (a=b)))) G->∃ d e,DV H d x/\DV H e y/\SeqAt.shaped d=true/\SeqAt.shaped e=true/\Q (.bl (f (PyData.eqv d e))) H:=λ⟨n,m,w⟩=>by
    refine⟨dZ a,dZ b,b3N 8 _ _ n g,b3N 8 _ _ m c,a3P n (by simp),a3P m (by simp),?_⟩;rw[a8P (b1O 8 a b 8 n m)];exact j _ _ _ _ w (by rw[a0O]) i (.refl _ _)
  cases a<;>cases b<;>first
    | exact .inr (p h)
    | (rw[a0O]at g c;subst g c;exact .inl ⟨rfl,by rw[b02];exact j _ _ _ _ h (by rw[a0O]) i (.refl _ _)⟩)
    | (rw[a0t]at g c;subst g c;exact .inl ⟨rfl,by rw[a1x (V.int.injEq _ _)];exact j _ _ _ _ h (by rw[a0O]) i (.refl _ _)⟩)
    | (rw[a0G]at g c;subst g c;exact .inl ⟨rfl,by rw[a1x (V.str.injEq _ _)];exact j _ _ _ _ h (by rw[a0O]) i (.refl _ _)⟩)
    | (rw[a0C]at g c
       subst g c;obtain⟨r,s,t,z,k,l,h⟩:=h;obtain⟨u,q,v⟩:=i _ _ t;obtain⟨B,o,A⟩:=i _ _ z;refine .inr ⟨.list _,.list _,?_,?_,a3Q k (by simp),a3Q l (by simp),?_⟩;exact⟨_,u,rfl,q,a9t 8 _ _ k v⟩;exact⟨_,B,rfl,o,a9t 8 _ _ l A⟩
       · simp only[PyData.eqv]
         rw[a8P (b57 8 8 r s k l)];exact j _ _ _ _ h (by rw[a0O]) i (.refl _ _))
theorem o_eq (hu:X.A.units+66<cLine):OpQ X (jT .Eq) (zEq id):=a5K (op_eq.or (b7Z hu)) λx y H Q h=>b4T h
theorem o_ne (hu:X.A.units+66<cLine):OpQ X (jT .NotEq) (zEq not):=a5K (op_ne.or (b70 hu)) λx y H Q h=>b4T h
noncomputable def zIn (f:Bool->Bool):R3:=λx y G R=>match x,y with
 | .str a,.str b=>R (.bl (f (!(jV.Str.occurrences b a 0 b.length 1).isEmpty))) G
 | x,.ref q=>∃ ws,G q=some (.lst ws)/\flat 8 x=true/\ws.all (flat 8)=true/\R (.bl (f (decide (x∈ws)))) G
 | x,.tup ws=>flat 8 x=true/\ws.all (flat 8)=true/\R (.bl (f (decide (x∈ws)))) G
 | _,_=>False
theorem b1P (x:Z) (hx:flat 8 x=true):∀ ws:List Z,ws.all (flat 8)=true->((dZs ws).any λy=>PyData.eqv y (dZ x))=decide (x∈ws)
 | [],_=>by simp[dZs]
 | w::ws,h=>by
  rw[fM,fE]at h;simp only[dZs,gr];rw[b1P x hx ws h.2,a8P (b1O 8 w x 8 h.1 hx)]
  by_cases e:w=x
  ·simp_all
  ·have:¬ x=w:=λz=>e z.symm
   simp[e,this]
theorem b8f (hf:∀ b,f b=if neg=true then !b else b) {K:Fg}(h:low2 K (zIn f) x y H Q) :
  (∃ i j,x=.str i/\y=.str j/\Q (.bl (f (!(jV.Str.occurrences j i 0 j.length 1).isEmpty))) H)\/rInD neg x y H Q:=by
 obtain⟨a,b,G,R,o,m,r,h,t⟩:=h;have s:∀ p c d,y=.ref p->_->Reps K H c d->flat 8 a=true->c.all _=true->R _ G->rInD neg x y H Q:=λp c d e w n k g h=>by
  refine⟨dZ a,p,dZs c,d,b3N 8 _ _ k o,e,w,a9t 8 _ _ g n,a3P k (by simp),a3Q g (by simp),?_⟩;rw[b1P a k c g,<- hf];exact t _ _ _ _ h (by rw[a0O]) r (.refl _ _)
 cases b with
 | str j=>
  cases a with
  | str i=>rw[a0G]at o m;exact .inl ⟨_,_,o,m,t _ _ _ _ h (by rw[a0O]) r (.refl _ _)⟩
  | _=>exact er h
 | ref q=>
  have l:∃ c,G q=some (.lst c)/\flat 8 a=true/\c.all (flat 8)=true/\R (.bl (f (decide (a∈c)))) G:=by cases a<;>exact h
  obtain⟨c,e,k,g,l⟩:=l;obtain⟨d,u,n⟩:=r q _ e;exact .inr (s q c d m (.inl u) n k g l)
 | tup c=>
  obtain⟨q,d,e,v,n⟩:=m;have l:flat 8 a=true/\c.all (flat 8)=true/\R (.bl (f (decide (a∈c)))) G:=by cases a<;>exact h
  obtain⟨k,g,l⟩:=l;exact .inr (s q c d e (.inr v) n k g l)
 | _=>cases a<;>exact er h
theorem b1Q (hu:X.A.units+66<cLine):OpQ X (jT .NotIn) (zIn not):=a5K (op_notin_str.or (b1u hu)) λx y H Q h=>b8f (λb=>by simp) h
end
end L3
namespace L2
open PySem PySem.Spec PyProof.Rows
noncomputable def Its (x:Str):It:=⟨λi _=>i<x.cps.size,λi H v H'=>H'=H/\∃ c,x.cps[i]?=some c/\v=.str ⟨#[c]⟩,λi _=>i=x.cps.size⟩
theorem a9u {P:jO}{w:World}{K:Fg}{tg:Expr}{it:Addr}{ty:String}{x:Str}{t:Tok}
  (hty:["enumerate","zip","dict_itemiterator","dict_reverseitemiterator","odict_iterator","itertools.zip_longest","itertools.pairwise"].contains ty=false)
  (W:∀ A':Around,A'.handled=none->Walks P w A' it [it] [it] x.cps.size (SignAt x) (λi h=>h.IsStrIter it ty x t i))
  (hself:∀ (A:Around) (i:Nat) (s:Shared) (Q:Value->Shared->Prop) (E:Value->Shared->Prop),s.heap.IsStrIter it ty x t i->Q (.ref it) s->wpAny (model P w) A (pyIter (.ref it)) Q E s) :
  Turn P w K tg (Its x) [it] it (λi h=>h.IsStrIter it ty x t i) where
 mem:=by simp
 obj:=λi h st b hb=>by
  have e:b=it:=by simpa using hb
  subst e;obtain⟨o,e,c,d⟩:=st;exact⟨o,e,λv z=>by rw[d]at z;cases z⟩
 keep:=λi h h' st k=>let ⟨o,e,r⟩:=st;⟨o,k it (by simp) o e,r⟩
 item:=by
  intro X hP hw hK hc i pins s σ H E I hf st hg;subst hP hw hK;obtain⟨f0,f1,f2,f3,f4,f5⟩:=hf it (by simp);refine (W X.A (I.ok.hd hc)).item i s _ _ hg st λv h' tk ⟨c,u,hx,e⟩ st' k=>?_;subst e;have I1:Inv X pins σ H { s with heap:=h',toks:=tk }:=I.turned (t':=tk) (λb o hb e=>k b o (by simpa using hb) e) f0 f1 f3 f4 f5;obtain⟨o,e,cl,d⟩:=id st';exact⟨_,rfl,b0f (s:={ s with heap:=h',toks:=tk }) e cl d hty ⟨.str ⟨#[c]⟩,H,I1,⟨_,rfl⟩,⟨rfl,c,hx,rfl⟩,st',λb hb=>(hf b hb).1⟩⟩
 done:=by
  intro X hP hw hK hc i pins s σ H E I hf st hg;subst hP hw hK;obtain⟨f0,f1,f2,f3,f4,f5⟩:=hf it (by simp);have hg':i=x.cps.size:=hg;subst hg';exact (W X.A (I.ok.hd hc)).done s _ _ st λh' tk k=>⟨rfl,I.turned (t':=tk) (λb o hb e=>k b o (by simpa using hb) e) f0 f1 f3 f4 f5⟩
 self:=hself
noncomputable def iStr (tl:TE):TI:=fun σ H R=>tl σ H λv H1=>∃ x,v=.str x/\R (Its x) H1
theorem b8g (hl:PE X l tl):PI X tg l (iStr tl):=by
 intro c s σ H R I h;refine thn (hl c s σ H _ I h) λv a ⟨x,f,d,p,m⟩=>?_;obtain⟨y,e,q⟩:=m;subst e;obtain⟨t,rfl⟩:=p;have j:∀ (o:Obj),∀ b∈[a.heap.objs.size],FpOk X c f b:=λo b k=>by
  have e:b=a.heap.objs.size:=by simpa using k
  subst e;exact d.fpOk (eh _) (d.hok.fresh (eh _))
 cases ha:y.cps.all _
 ·refine wpAny_pyIter_wide ha ?_;exact⟨a.heap.objs.size,[a.heap.objs.size],_,_,f,rfl,d.kept (λb o e=>Heap.get?_push_of_some _ e),a9u (by decide) (λn i=>Walks.strWide i _ y t) (λ_ _ _ _ _ g h=>wpAny_pyIter_striter_wide g h),
   ⟨_,Heap.get?_push_size _ rfl,rfl,rfl⟩,j default,q⟩
 ·refine wpAny_pyIter_ascii ha ?_;exact⟨a.heap.objs.size,[a.heap.objs.size],_,_,f,rfl,d.kept (λb o e=>Heap.get?_push_of_some _ e),a9u (by decide) (λn i=>Walks.strAscii i _ y t) (λ_ _ _ _ _ g h=>wpAny_pyIter_striter_ascii g h),
   ⟨_,Heap.get?_push_size _ rfl,rfl,rfl⟩,j default,q⟩
theorem Vals.tog:∀ {xs:List V}{us:List Value}{i:Nat}{u:Value},Vals xs us->us[i]?=some u->∃ x,xs[i]?=some x/\RelV x u
 | _,_,_,_,.nil,e=>by simp at e
 | _,_,0,_,.cons r _,e=>by simp at e;subst e;exact⟨_,rfl,r⟩
 | _,_,i+1,u,.cons _ t,e=>by
  obtain⟨x,a,b⟩:=Vals.tog t (by simpa using e);exact⟨x,by simpa using a,b⟩
theorem a6N:∀ {ys:List Str}{us:List Value},Vals (ys.map V.str) us->kR us ys
 | [],us,r=>by rw[eQ]at r;cases r;exact .nil
 | y::ys,us,r=>by
  cases r with
  | cons r1 r2=>
   obtain⟨t,e⟩:=r1;subst e;exact .cons y t (a6N r2)
theorem b1R (bs:List Bool):(fR bs.length).all (λi=>bs.getD i false)=bs.all id:=by
 rw[fI];simp only[fL,iy,id]
 constructor
 ·intro h b c;obtain⟨i,a,e⟩:=iF c
  have:=h i a
  rw[jg,eI a]at this;rw[<- e];exact this
 ·intro h i a;rw[jg,eI a];exact h _ (fV a)
section
variable {X:Cx}
theorem b1S (hc:X.calm=true):CallR X (.builtin "all") (λxs H Q=>∃ (p:Addr) (bs:List Bool),xs=[.ref p]/\SqL X.K H p (bs.map V.bl)/\Q (.bl (bs.all id)) H):=by
 intro n s σ H M R Q I r h;obtain⟨p,a,rfl,E,q⟩:=h;obtain⟨u,rfl,y⟩:=a3M r;cases y;obtain⟨d,l,g,_⟩:=I.list E;have B:p<s.heap.objs.size:=by obtain⟨o,_,e,_⟩:=g;exact Heap.lt_size e
 refine call_all_walk (me g.isList ?_);have D:X.A.in1.handled=none:=I.ok.hd hc;have t:(s.heap.push { cls:=.type "list_iterator",data:=.fields #[.ref p,rawInt 0] }).IsList p d.toArray:=by
  obtain⟨o,e,c⟩:=g.isList;exact⟨o,Heap.get?_push_of_some _ e,c⟩
 refine⟨_,_,_,_,_,_,λi=>a.getD i false,rfl,Walks.list D s.heap.objs.size p (eJ B) d.toArray,⟨⟨_,Heap.get?_push_size _ rfl,rfl,rfl⟩,t⟩,?_,?_⟩
 ·intro i v N L J C j;obtain⟨x,f,w⟩:=Vals.tog l (by simpa using C);rw[eE]at f;cases hb:a[i]? with
  | none=>rw[hb]at f;cases f
  | some b=>
   rw[hb]at f;cases f;cases w;refine kx ?_
   have:a.getD i false=b:=by simp_all
   dsimp only at j;rw[this]at j;exact j
 ·intro G F k;have e:(fR d.toArray.size).all (λi=>a.getD i false)=a.all id:=by
   have z:d.toArray.size=a.length:=by rw[fv,<- l.length,dY]
   rw[z];exact b1R a
  rw[e];exact⟨.bl _,H,I.kept (λb o m=>k b o (by simpa using eJ (Heap.lt_size m)) (Heap.get?_push_of_some _ m)),rfl,q⟩
theorem b8h:OpR X (jT .Is) (λx y H Q=>∃ a b,x=.bl a/\y=.bl b/\Q (.bl (a==b)) H):=by
 intro d s σ H x y v u Q I c e h;obtain⟨a,b,rfl,rfl,q⟩:=h;cases c;cases e;exact wpAny_is_plain rfl (a0A I q (by cases a<;>cases b<;>rfl))
theorem b58:MtR X "str.join" (λx vs H Q=>∃ (z:Str) (p:Addr) (ys:List Str),x=.str z/\vs=[.ref p]/\SqL X.K H p (ys.map V.str)/\(ys.map (·.length)).sum+ys.length*z.length<=16777216/\Q (.str (Txt.join z ys)) H):=by
 intro c s σ H x m v n Q I a g h;obtain⟨z,p,o,rfl,rfl,d,i,q⟩:=h;obtain⟨t,rfl⟩:=a;obtain⟨u,rfl,f⟩:=a3M g;cases f;obtain⟨j,b,e,_⟩:=I.list d;exact join_list e.isList (by simpa using a6N b) i λl k=>⟨.str _,H,I.tok k,⟨_,rfl⟩,q⟩
noncomputable def rSlS:V->Option Int->Option Int->Hp->VK->Prop:=λx lo hi H Q=>∃ z,x=.str z/\z.length<=jK/\Q (.str (Txt.slice z lo hi)) H
theorem b8i:SlR X rSlS:=by
 intro g s σ H x v A B f b C Q I w p y m h;obtain⟨z,rfl,r,q⟩:=h;obtain⟨t,rfl⟩:=w;obtain⟨o,e,c,d⟩:=p;have a:∀ f b,Q _ H->(Txt.slice z f b).length<=jK/\∀ n k,EP X g σ Q (.str (Txt.slice z f b) n) { s with toks:=k }:=λf b q=>
  ⟨eF (Txt.slice_le z _ _) r,λn k=>⟨.str _,H,I.tok k,⟨_,rfl⟩,q⟩⟩
 cases y with
 | none=>
  cases m with
  | none=>exact⟨"str",_,F.slot_str_getitem.lookup,kL _ _ _,lK (l:=none) (u:=none) (st:=none) ⟨o,e,c,d⟩ rfl (lM (a _ _ q))⟩
  | int j u=>exact⟨"str",_,F.slot_str_getitem.lookup,kL _ _ _,lK (l:=none) (u:=some (j,u)) (st:=none) ⟨o,e,c,d⟩ rfl (lM (a _ _ q))⟩
 | int i v=>
  cases m with
  | none=>exact⟨"str",_,F.slot_str_getitem.lookup,kL _ _ _,lK (l:=some (i,v)) (u:=none) (st:=none) ⟨o,e,c,d⟩ rfl (lM (a _ _ q))⟩
  | int j u=>exact⟨"str",_,F.slot_str_getitem.lookup,kL _ _ _,lK (l:=some (i,v)) (u:=some (j,u)) (st:=none) ⟨o,e,c,d⟩ rfl (lM (a _ _ q))⟩
end
end L2
namespace L3
open PySem PySem.Spec PyProof.Rows L2
section
variable {X:Cx}
theorem o_is:OpQ X (jT .Is) (zIs false):=a5K (op_isN.or b8h) λx y H Q g=>g.un λa b G R d c e h f=>by
 cases b with
 | non=>rw[a0S]at c;exact .inl ⟨c,by rw[a6M d];exact f _ _ _ _ h (by rw[a0O];rfl) e (.refl _ _)⟩
 | bl b=>
  cases a with
  | bl a=>rw[a0O]at d c;exact .inr ⟨_,_,d,c,f _ _ _ _ h.2 (by rw[a0O]) e (.refl _ _)⟩
  | _=>exact er h
 | _=>exact er h
theorem b1T:OpQ X (jT .IsNot) (zIs true):=a5K b5I λx y H Q d=>d.un λa b G R g c e h f=>by
 cases b with
 | non=>rw[a0S]at c;exact⟨c,by rw[a6M g];exact f _ _ _ _ h (by rw[a0O];rfl) e (.refl _ _)⟩
 | bl b=>
  cases a with
  | bl a=>exact nomatch h.1
  | _=>exact er h
 | _=>exact er h
noncomputable def zIx:R3:=λx y G R=>match x,y with
 | .ref p,.int i=>∃ ws w,G p=some (.lst ws)/\atI ws i=some w/\R w G
 | .scr _ ns,.int i=>∃ n,atI ns i=some n/\R (.int n) G
 | .tup ws,.int i=>∃ w,atI ws i=some w/\R w G
 | .str z,.int i=>∃ c,z.length<=jK/\atI z.cps.toList i=some c/\R (.str ⟨#[c]⟩) G
 | _,_=>False
theorem b1U {K:Fg}(r:Reps K H ws vs) (h:atI ws i=some w):∃ v,atI vs i=some v/\Rep K H w v:=by
 unfold atI at h ⊢;rw[<- r.length];cases e:ixN ws.length i with
 | none=>rw[e]at h;cases h
 | some j=>
  rw[e]at h;exact r.get h
theorem b59 {α β:Type}{f:α->β}{xs:List α}{x:α}(h:atI xs i=some x):atI (xs.map f) i=some (f x):=by
 unfold atI at h ⊢;rw[dY];cases e:ixN xs.length i with
 | none=>rw[e]at h;cases h
 | some j=>
  rw[e]at h;have a:xs[j]?=some x:=h
  show _[j]?=some _
  rw[eE,a];rfl
theorem x_ix:IxQ X zIx:=b75 b7L λx y H Q s=>s.un λa b G R d f g h i=>by
  cases a<;>cases b<;>first
    | exact er h
    | (rw[a0C]at d
       obtain⟨z,w,e,m,h⟩:=h;obtain⟨q,k,j⟩:=g _ _ e;obtain⟨v,o,l⟩:=b1U j m;exact .inl ⟨_,_,_,v,d,f,SqL.of k,o,i _ _ _ _ h l g (.refl _ _)⟩)
    | (rw[a4M]at d
       obtain⟨n,u,h⟩:=h;exact .inl ⟨_,_,_,_,d.1,f,d.2.sq,b59 u,i _ _ _ _ h (by rw[a0t]) g (.refl _ _)⟩)
    | (rw[a1K]at d
       obtain⟨p,q,e,k,j⟩:=d;obtain⟨w,m,h⟩:=h;obtain⟨v,o,l⟩:=b1U j m;exact .inr (.inl ⟨p,q,_,v,e,f,SqT.of k,o,i _ _ _ _ h l g (.refl _ _)⟩))
    | (rw[a0G]at d
       obtain⟨c,r,t,h⟩:=h;exact .inr (.inr ⟨_,_,c,d,f,r,t,i _ _ _ _ h (by rw[a0G]) g (.refl _ _)⟩))
noncomputable def cutZ {α:Type}(xs:List α) (lo hi:Option Int):List α:=(xs.drop (HT.sIx xs.length 0 lo)).take (HT.sIx xs.length xs.length hi - HT.sIx xs.length 0 lo)
theorem b6a (xs:List V) (lo hi:Option Int):cutV xs lo hi=cutZ xs lo hi:=rfl
theorem a8Q {α:Type}(xs:List α) (lo hi:Option Int):(cutZ xs lo hi).length<=xs.length:=by
 unfold cutZ;rw[eK,fC];omega
theorem Reps.cut {K:Fg}(r:Reps K H ws vs) (lo hi:Option Int):Reps K H (cutZ ws lo hi) (cutV vs lo hi):=by
 unfold cutZ cutV;rw[<- r.length];exact (r.drop _).take _
theorem b3O {α β:Type}(f:α->β) (xs:List α) (lo hi:Option Int):cutZ (xs.map f) lo hi=(cutZ xs lo hi).map f:=by
 unfold cutZ;rw[dY,List.map_take,List.map_drop]
noncomputable def zSl:L3r:=λx lo hi G R=>match x with
 | .ref p=>∃ ws,G p=some (.lst ws)/\∀ t,G t=none->R (.ref t) (put G t (.lst (cutZ ws lo hi)))
 | .scr _ ns=>∀ t,G t=none->R (.ref t) (put G t (.lst ((cutZ ns lo hi).map Z.int)))
 | .tup ws=>¬ (HT.sIx ws.length 0 lo=0/\HT.sIx ws.length ws.length hi=ws.length)/\R (.tup (cutZ ws lo hi)) G
 | .str z=>z.length<=jK/\R (.str (Txt.slice z lo hi)) G
 | _=>False
theorem x_sl:SlQ X zSl:=c0h (sl_list.or (sl_tup.or b8i)) λx l k H Q m=>m.un λa G R c d h g=>by
 cases a with
 | ref p=>
  obtain⟨n,e,h⟩:=h;obtain⟨j,i,f⟩:=d _ _ e;exact .inl ⟨p,j,c,SqL.of i,λt b=>g _ _ _ _ (h t (d.out b)) (by rw[a0C]) (d.set (.new b) (a1i (f.cut l k) (.new b))) (.new b)⟩
 | scr p ns=>
  refine .inl ⟨p,_,c.1,c.2.sq,λt b=>?_⟩;rw[b6a,b3O];exact g _ _ _ _ (h t (d.out b)) (by rw[a0C]) (d.set (.new b) (a1i (a25 _) (.new b))) (.new b)
 | tup n=>
  obtain⟨p,j,e,i,f⟩:=c;exact .inr (.inl ⟨p,j,e,SqT.of i,by rw[<- f.length];exact h.1,λt b=>g _ _ _ _ h.2 (by rw[a1K];exact⟨t,_,rfl,a0s,(f.cut l k).mono (.new b)⟩) (d.hid b) (.new b)⟩)
 | str z=>
  exact .inr (.inr ⟨z,c,h.1,g _ _ _ _ h.2 (by rw[a0G]) d (.refl _ _)⟩)
 | _=>exact er h
noncomputable def zSet:Z3:=λo i v G R=>match o,i with
 | .ref p,.int k=>∃ ws j,G p=some (.lst ws)/\ixN ws.length k=some j/\R (put G p (.lst (ws.set j v)))
 | _,_=>False
theorem b6b:SetQ X zSet:=b4P b3u λo i v H Q p=>p.un λa b w G R f g l k h q=>by
  cases a<;>cases b<;>first
    | exact er h
    | (rw[a0C]at f
       obtain⟨r,j,e,m,h⟩:=h;obtain⟨n,c,d⟩:=k _ _ e;exact⟨_,n,_,j,f,g,c,by rw[<- d.length];exact m,q _ _ h (k.set (.lst c) (a1i (d.set l j) (.lst c))) (.lst c)⟩)
noncomputable def zLen:List Z->Hq->K3->Prop:=λxs G R=>match xs with
 | [.str z]=>z.length<=jK/\R (.int z.length) G
 | [.ref p]=>∃ ws,G p=some (.lst ws)/\R (.int ws.length) G
 | [.tup ws]=>R (.int ws.length) G
 | [.scr _ ns]=>R (.int ns.length) G
 | _=>False
theorem b_len:a2r X (.builtin "len") zLen:=a04 b3l λl H Q k=>k.un λj G R c a h d=>by
 match j,h with
 | [.str z],h=>
  obtain⟨v,rfl,r⟩:=c.one;exact⟨v,z.length,rfl,by rw[r];exact⟨h.1,rfl⟩,d _ _ _ _ h.2 (by rw[a0t]) a (.refl _ _)⟩
 | [.ref p],h=>
  obtain⟨v,rfl,r⟩:=c.one;obtain⟨i,e,h⟩:=h;obtain⟨g,f,b⟩:=a _ _ e;exact⟨v,i.length,rfl,by rw[r];exact .inl ⟨g,SqL.of f,b.length⟩,d _ _ _ _ h (by rw[a0t]) a (.refl _ _)⟩
 | [.tup i],h=>
  obtain⟨v,rfl,r⟩:=c.one;obtain⟨p,g,e,f,b⟩:=r;exact⟨v,i.length,rfl,by rw[e];exact .inr ⟨g,SqT.of f,b.length⟩,d _ _ _ _ h (by rw[a0t]) a (.refl _ _)⟩
 | [.scr p ns],h=>
  obtain⟨v,rfl,r⟩:=c.one;exact⟨v,ns.length,rfl,by rw[r.1];exact .inl ⟨_,r.2.sq,(dY ..).symm⟩,d _ _ _ _ h (by rw[a0t]) a (.refl _ _)⟩
noncomputable def zMM (f:Int->Int->Int):List Z->Hq->K3->Prop:=λxs G R=>match xs with
 | [.int i,.int j]=>R (.int (f i j)) G
 | _=>False
theorem bMM {id:String}(hf:CallR X (.builtin id) (λxs H Q=>∃ i j,xs=[.int i,.int j]/\Q (.int (f i j)) H)):a2r X (.builtin id) (zMM f):=a04 hf λl H Q d=>d.un λc G R e b h g=>by
 match c,h with
 | [.int i,.int j],h=>
  obtain⟨v,k,rfl,r,a⟩:=e.two;exact⟨i,j,by rw[r,a],g _ _ _ _ h (by rw[a0t]) b (.refl _ _)⟩
theorem b_max (hc:X.calm=true):a2r X (.builtin "max") (zMM λi j=>if j > i then j else i):=bMM (b06 hc)
theorem b_min (hc:X.calm=true):a2r X (.builtin "min") (zMM λi j=>if j<i then j else i):=bMM (b07 hc)
noncomputable def zAll:List Z->Hq->K3->Prop:=λxs G R=>match xs with
 | [.ref p]=>∃ bs:List Bool,G p=some (.lst (bs.map Z.bl))/\R (.bl (bs.all id)) G
 | _=>False
theorem a9v {K:Fg}:∀ {bs:List Bool}{vs:List V},Reps K H (bs.map Z.bl) vs->vs=bs.map V.bl
 | [],vs,h=>by rw[eQ,a0q]at h;subst h;rfl
 | n::ns,vs,h=>by
  obtain⟨v,r,rfl,a,b⟩:=h;rw[a,a9v b];rfl
theorem a7V {K:Fg}:∀ {bs:List Str}{vs:List V},Reps K H (bs.map Z.str) vs->vs=bs.map V.str
 | [],vs,h=>by rw[eQ,a0q]at h;subst h;rfl
 | n::ns,vs,h=>by
  obtain⟨v,r,rfl,a,b⟩:=h;rw[a,a7V b];rfl
theorem b_all (hc:X.calm=true):a2r X (.builtin "all") zAll:=a04 (b1S hc) λl H Q f=>f.un λd G R c a h j=>by
 match d,h with
 | [.ref p],h=>
  obtain⟨v,rfl,r⟩:=c.one;obtain⟨g,e,h⟩:=h;obtain⟨k,i,b⟩:=a _ _ e
  have:=a9v b
  subst this;exact⟨p,g,by rw[r],SqL.of i,j _ _ _ _ h (by rw[a0O]) a (.refl _ _)⟩
noncomputable def b8j:List Z->Hq->K3->Prop:=λxs G R=>match xs with
 | [.ref p]=>∃ ws,G p=some (.lst ws)/\∀ t,G t=none->R (.ref t) (put G t (.lst ws))
 | [.tup ws]=>∀ t,G t=none->R (.ref t) (put G t (.lst ws))
 | [.scr _ ns]=>∀ t,G t=none->R (.ref t) (put G t (.lst (ns.map Z.int)))
 | _=>False
theorem b_list:a2r X (.type "list") b8j:=a04 a7K λm H Q j=>j.un λl G R i b h f=>by
 match l,h with
 | [.ref p],h=>
  obtain⟨v,rfl,r⟩:=i.one;obtain⟨k,e,h⟩:=h;obtain⟨d,g,c⟩:=b _ _ e;exact⟨p,d,by rw[r],.inl (SqL.of g),λt a=>f _ _ _ _ (h t (b.out a)) (by rw[a0C]) (b.set (.new a) (a1i c (.new a))) (.new a)⟩
 | [.tup k],h=>
  obtain⟨v,rfl,r⟩:=i.one;obtain⟨p,d,e,g,c⟩:=r;exact⟨p,d,by rw[e],.inr (SqT.of g),λt a=>f _ _ _ _ (h t (b.out a)) (by rw[a0C]) (b.set (.new a) (a1i c (.new a))) (.new a)⟩
 | [.scr p ns],h=>
  obtain⟨v,rfl,r⟩:=i.one;exact⟨p,_,by rw[r.1],.inl r.2.sq,λt a=>f _ _ _ _ (h t (b.out a)) (by rw[a0C]) (b.set (.new a) (a1i (a25 _) (.new a))) (.new a)⟩
noncomputable def kit0 (n T:String):Option Bool:=if (Value.type n==Value.type T)=true then some true else if PySem.W.kitMeta T=true then (PySem.fastBuiltinMro n).map (·.contains (.type T)) else none
theorem b8k {K:Fg}:PySem.W.kitOne K (.type n) (.type T)=kit0 n T:=rfl
noncomputable def tyN (G:Hq):Z->Option String
 | .non=>some "NoneType"
 | .bl _=>some "bool"
 | .int _=>some "int"
 | .str _=>some "str"
 | .tup _=>some "tuple"
 | .ref p=>match G p with
  | some (.lst _)=>some "list"
  | some (.dK _)=>some "dict"
  | _=>none
 | _=>none
noncomputable def zIsT:List Z->Hq->K3->Prop:=λxs G R=>match xs with
 | [x,.ty T]=>∃ n b,tyN G x=some n/\kit0 n T=some b/\R (.bl b) G
 | _=>False
theorem b3P {K:Fg}(h:tyN G x=some n) (r:Rep K H x v) (hg:RH K G H):TyOf K H v (.type n):=by
 cases x with
 | non=>rw[a0S]at r;subst r;cases h;exact .non
 | bl _=>rw[a0O]at r;subst r;cases h;exact .bl _
 | int _=>rw[a0t]at r;subst r;cases h;exact .int _
 | str _=>rw[a0G]at r;subst r;cases h;exact .str _
 | tup ws=>rw[a1K]at r;obtain⟨a,c,rfl,e,_⟩:=r;cases h;exact .tup e
 | ref p=>
  subst r;cases e:G p with
  | none=>simp[tyN,e]at h
  | some o=>
   cases o with
   | lst ws=>simp[tyN,e]at h;subst h;obtain⟨c,b,_⟩:=hg _ _ e;exact .lst b
   | dK kvs=>simp[tyN,e]at h;subst h;obtain⟨c,b,_⟩:=hg _ _ e;exact .dK b
   | ins C dx fs=>simp[tyN,e]at h
   | dF kvs=>simp[tyN,e]at h
   | dT ks=>simp[tyN,e]at h
 | ty _=>cases h
 | scr _ _=>cases h
theorem a7W:a2r X (.builtin "isinstance") zIsT:=a04 b3H λl H Q g=>g.un λf G R d a h i=>by
 match f,h with
 | [x,.ty T],h=>
  obtain⟨v,j,rfl,r,c⟩:=d.two;obtain⟨n,b,e,k,h⟩:=h;exact⟨v,T,.type n,b,by rw[c],b3P e r a,by rw[b8k];exact k,i _ _ _ _ h (by rw[a0O]) a (.refl _ _)⟩
noncomputable def a8R:Z->List Z->Hq->K3->Prop:=λx xs G R=>match x,xs with
 | .ref p,[y]=>∃ ws,G p=some (.lst ws)/\ws.length<jK/\R .non (put G p (.lst (ws++[y])))
 | _,_=>False
theorem a1G:MtQ X "list.append" a8R:=b0r a7M λx n H Q j=>j.un λw k G R c f d h l=>by
 match w,k,h with
 | .ref p,[y],h=>
  obtain⟨v,rfl,r⟩:=f.one;obtain⟨m,e,g,h⟩:=h;obtain⟨i,a,b⟩:=d _ _ e;exact⟨p,i,v,c,rfl,a,by rw[<- b.length];exact g,l _ _ _ _ h (by rw[a0S]) (d.set (.lst a) (a1i (b.append (.cons r .nil)) (.lst a))) (.lst a)⟩
noncomputable def b1V:Z->List Z->Hq->K3->Prop:=λx xs G R=>match x,xs with
 | .ref p,[.ref q]=>∃ ws ys,G p=some (.lst ws)/\G q=some (.lst ys)/\ws.length+ys.length<=jK/\R .non (put G p (.lst (ws++ys)))
 | _,_=>False
theorem a9w:MtQ X "list.extend" b1V:=b0r b1j λx u H Q m=>m.un λw n G R d i f h s=>by
 match w,n,h with
 | .ref p,[.ref q],h=>
  obtain⟨v,rfl,r⟩:=i.one;obtain⟨t,y,e,k,j,h⟩:=h;obtain⟨l,a,c⟩:=f _ _ e;obtain⟨o,g,b⟩:=f _ _ k;exact⟨p,q,l,o,d,by rw[r],a,g,by rw[<- c.length,<- b.length];exact j,s _ _ _ _ h (by rw[a0S]) (f.set (.lst a) (a1i (c.append b) (.lst a))) (.lst a)⟩
noncomputable def b8l:Z->List Z->Hq->K3->Prop:=λx xs G R=>match x,xs with
 | .ref p,[]=>∃ ws,G p=some (.lst ws)/\R .non (put G p (.lst []))
 | _,_=>False
theorem b6c:MtQ X "list.clear" b8l:=b0r b3v λx m H Q i=>i.un λw f G R b c d h j=>by
 match w,f,h with
 | .ref p,[],h=>
  obtain⟨l,e,h⟩:=h;obtain⟨g,a,k⟩:=d _ _ e;exact⟨p,g,b,c,a,j _ _ _ _ h (by rw[a0S]) (d.set (.lst a) (a1i .nil (.lst a))) (.lst a)⟩
noncomputable def b8m:Z->List Z->Hq->K3->Prop:=λx xs G R=>match x,xs with
 | .str z,[.ref p]=>∃ ys:List Str,G p=some (.lst (ys.map Z.str))/\(ys.map (·.length)).sum+ys.length*z.length<=16777216/\R (.str (Txt.join z ys)) G
 | _,_=>False
theorem b8n:MtQ X "str.join" b8m:=b0r b58 λx n H Q i=>i.un λw f G R a j b h l=>by
 match w,f,h with
 | .str z,[.ref p],h=>
  obtain⟨v,rfl,r⟩:=j.one;obtain⟨g,e,k,h⟩:=h;obtain⟨m,d,c⟩:=b _ _ e
  have:=a7V c
  subst this;exact⟨z,p,g,a,by rw[r],SqL.of d,k,l _ _ _ _ h (by rw[a0G]) b (.refl _ _)⟩
noncomputable def b8o:E3:=λ_ G R=>∀ p,G p=none->R (.ref p) (put G p (.dK []))
theorem b4U:QE X (.Dict [] [] pos) b8o:=⟨a1w b3y fun τ H Q ⟨σ,G,R,d,b,h,c⟩ p a=>c _ _ _ _ (h p (b.out a)) (by rw[a0C]) (b.set (.new a) ⟨[],a0s,rfl,.nil⟩) (.new a)⟩
noncomputable def a5d (x:Str):List Z:=x.cps.toList.map λc=>.str ⟨#[c]⟩
noncomputable def wkS (x:Z) (G:Hq) (R:List Z->(Hq->Prop)->Hq->Prop):Prop:=match x with
 | .str z=>R (a5d z) (λ_=>True) G
 | _=>False
noncomputable def iS (tl:E3):I3:=fun σ G R=>tl σ G λx G1=>wkS x G1 R
theorem b1W {K:Fg}:a7d K (a5d x) (λ_=>True) (Its x) H0:=λi G H f t j k=>by
 have e:(a5d x).length=x.cps.size:=by unfold a5d;rw[dY,fT]
 refine⟨λh=>by rw[h,e];rfl,λw a=>?_⟩;unfold a5d at a;rw[eE]at a;cases hc:x.cps.toList[i]? with
 | none=>rw[hc]at a;cases a
 | some c=>
  rw[hc]at a;cases a;have b:x.cps[i]?=some c:=by simp_all
  refine⟨(hG.mp b).1,?_⟩;rintro v l ⟨rfl,g,d,rfl⟩;rw[b]at d;cases d;exact⟨by rw[a0G],f,.refl _ _⟩
theorem b8p (hl:QE X l tl):QI X tg l (iS tl):=a8N (b8g hl.p) fun τ H j g=>g.un fun σ G R f e h i=>by
 refine⟨σ,G,_,f,e,h,λw m v k a c b d=>?_⟩;cases w with
 | str x=>
  exact⟨x,c,i _ _ _ _ _ a b1W b d⟩
 | _=>exact er a
end
section
variable {σ:S3}{G:Hq}{R:K3}{Rb:Bool->Hq->Prop}{Ra:List Z->Hq->Prop}{nx bk ct:C3}{rt:K3}{t u:X3}{te ta tb tc to ti:E3}{c d:T3}{al:A3}{r r':R3}{w x y:Z}{i:Nat}
theorem c0k (e:σ[i]?=some (some w)) (h:R w G):uVar i σ G R:=⟨w,e,h⟩
theorem i_c (h:R w G):uC w σ G R:=h
theorem i_op (h:ta σ G λx G1=>tb σ G1 λy G2=>r x y G2 R):uOp r ta tb σ G R:=h
theorem i_un {r:Z->Hq->K3->Prop}(h:ta σ G λx G1=>r x G1 R):uUn r ta σ G R:=h
theorem b8q (h:ta σ G λx G1=>∃ k,x=.bl k/\Rb k G1):b3K ta σ G Rb:=h
theorem b6d (h:ta σ G λx G1=>tb σ G1 λy G2=>r x y G2 λz G3=>∃ k,z=.bl k/\(if k=true then tc σ G3 λw G4=>r' y w G4 R else R (.bl false) G3)):b1y r r' ta tb tc σ G R:=h
theorem c0l (h:c σ G λk G1=>if k=true then d σ G1 Rb else Rb false G1):uAnd c d σ G Rb:=h
theorem i_or (h:c σ G λk G1=>if k=true then Rb true G1 else d σ G1 Rb):uOr c d σ G Rb:=h
theorem c0m (h:c σ G λk G1=>Rb (!k) G1):uNot c σ G Rb:=h
theorem b8r (h:ta σ G λx G1=>∃ c,x=.bl c/\if c=true then tb σ G1 R else R (.bl false) G1):b77 ta tb σ G R:=h
theorem c0n (h:ta σ G λx G1=>∃ c,x=.bl c/\if c=true then R (.bl true) G1 else tb σ G1 R):uOrV ta tb σ G R:=h
theorem i_if (h:c σ G λk G1=>if k=true then ta σ G1 R else tb σ G1 R):uIf c ta tb σ G R:=h
theorem c0o (h:ta σ G λx G1=>tru x G1 Rb):uTru ta σ G Rb:=h
theorem b4V (e:G p=some (.lst ws)) (h:Rb (!ws.isEmpty) G):tru (.ref p) G Rb:=.inl ⟨ws,e,h⟩
theorem i_sl {r:L3r}(h:te σ G λx G1=>tl σ G1 λl G2=>th σ G2 λu G3=>r x l u G3 R):uSl r te tl th σ G R:=h
theorem b3Q (h:Ro none G):b1B σ G Ro:=h
theorem b8s (h:te σ G λx G1=>∃ i,x=.int i/\Ro (some i) G1):b79 te σ G Ro:=h
theorem c0p (h:Ra [] G):uNil σ G Ra:=h
theorem b8t (h:ta σ G λx G1=>al σ G1 λxs G2=>Ra (x::xs) G2):b8a ta al σ G Ra:=h
theorem c0q (h:al σ G λxs G1=>xs.length<=jK/\R (.tup xs) G1):uTup al σ G R:=h
theorem c0r (h:al σ G λxs G1=>xs.length<=jK/\∀ p,G1 p=none->R (.ref p) (put G1 p (.lst xs))):uLst al σ G R:=h
theorem i_cb {r:List Z->Hq->K3->Prop}(h:al σ G λws G1=>r ws G1 R):uCB r al σ G R:=h
theorem c0s {r:Z->List Z->Hq->K3->Prop}(h:to σ G λx G1=>tyZ T x G1/\r x [] G1 R):uBM0 T r to σ G R:=h
theorem i_bm {r:Z->List Z->Hq->K3->Prop}(h:to σ G λx G1=>tyZ T x G1/\al σ G1 λxs G2=>r x xs G2 R):uBM T r to al σ G R:=h
theorem b8u (h:al σ G λws G1=>sp ws G1 R):b8b sp al σ G R:=h
theorem b8v (h:nx σ G):b8c nx rt bk ct σ G:=h
theorem c0t (h:t (u nx rt bk ct) rt bk ct σ G):uSeq t u nx rt bk ct σ G:=h
theorem b8w (h:te σ G λ_ G1=>nx σ G1):b8d te nx rt bk ct σ G:=h
theorem c0u (h:te σ G rt):uRet te nx rt bk ct σ G:=h
theorem c0v (h:c σ G λb G1=>if b=true then t nx rt bk ct σ G1 else u nx rt bk ct σ G1):uIfS c t u nx rt bk ct σ G:=h
theorem c0w (h:te σ G λx G1=>∃ σ',a5L pt x σ=some σ'/\nx σ' G1):uAsg te pt nx rt bk ct σ G:=h
theorem c0x {r:Z3}(h:te σ G λw G1=>to σ G1 λo G2=>ti σ G2 λi G3=>r o i w G3 λG4=>nx σ G4):uPut te to ti r nx rt bk ct σ G:=h
theorem b3R (M:C3) (h:t M rt bk ct σ G) (h':∀ σ' G',M σ' G'->u nx rt bk ct σ' G'):uCut t u nx rt bk ct σ G:=⟨M,h,h'⟩
theorem b8x (h:R (.int (a+b)) G):zAdd (.int a) (.int b) G R:=h
theorem b1X (z:a.length+b.length<=jK) (h:R (.str (a++b)) G):zAdd (.str a) (.str b) G R:=⟨z,h⟩
theorem b4W (e:xs≠[]) (z:xs.length+ys.length<=jK) (h:R (.tup (xs++ys)) G):zAdd (.tup xs) (.tup ys) G R:=⟨e,z,h⟩
theorem b1Y (e:G p=some (.lst xs)) (e':G q=some (.lst ys)) (z:xs.length+ys.length<=jK) (h:∀ t,G t=none->R (.ref t) (put G t (.lst (xs++ys)))):zAdd (.ref p) (.ref q) G R:=⟨xs,ys,e,e',z,h⟩
theorem i_I (k:C a b) (h:R (g a b) G):zI C g (.int a) (.int b) G R:=⟨k,h⟩
theorem i_I0 (h:R (g a b) G):zI0 g (.int a) (.int b) G R:=h
theorem c0y (h:R (.int (-a)) G):zNeg (.int a) G R:=h
theorem i_CI (h:R (.bl (f a b)) G):zC f g (.int a) (.int b) G R:=h
theorem i_CS (h:R (.bl (g a b)) G):zC f g (.str a) (.str b) G R:=h
theorem b6e (h:R (.bl (decide (x=.non))) G):zIs false x .non G R:=h
theorem b8y (h:R (.bl (!decide (x=.non))) G):zIs true x .non G R:=h
theorem b8z (h:R (.bl (f (decide (a=b)))) G):zEq f (.int a) (.int b) G R:=h
theorem c0z (h:R (.bl (f (decide (a=b)))) G):zEq f (.str a) (.str b) G R:=h
theorem b1Z (e:G p=some (.lst xs)) (e':G q=some (.lst ys)) (f1:xs.all (flat 8)=true) (f2:ys.all (flat 8)=true) (h:R (.bl (f (decide (xs=ys)))) G):zEq f (.ref p) (.ref q) G R:=⟨xs,ys,e,e',f1,f2,h⟩
theorem a0Q (e:G p=some (.lst ws)) (a:atI ws k=some w) (h:R w G):zIx (.ref p) (.int k) G R:=⟨ws,w,e,a,h⟩
theorem c0A (a:atI ns k=some n) (h:R (.int n) G):zIx (.scr p ns) (.int k) G R:=⟨n,a,h⟩
theorem a7f (a:atI ws k=some w) (h:R w G):zIx (.tup ws) (.int k) G R:=⟨w,a,h⟩
theorem b6f (l:z.length<=jK) (a:atI z.cps.toList k=some ch) (h:R (.str ⟨#[ch]⟩) G):zIx (.str z) (.int k) G R:=⟨ch,l,a,h⟩
theorem b6g {lo hi:Option Int}(l:z.length<=jK) (h:R (.str (Txt.slice z lo hi)) G):zSl (.str z) lo hi G R:=⟨l,h⟩
theorem c0B {lo hi:Option Int}(h:∀ t,G t=none->R (.ref t) (put G t (.lst ((cutZ ns lo hi).map Z.int)))):zSl (.scr p ns) lo hi G R:=h
theorem b10 {lo hi:Option Int}(n:¬ (HT.sIx ws.length 0 lo=0/\HT.sIx ws.length ws.length hi=ws.length)) (h:R (.tup (cutZ ws lo hi)) G):zSl (.tup ws) lo hi G R:=⟨n,h⟩
theorem b6h (e:G p=some (.lst ws)) (a:ixN ws.length k=some j) (h:Rg (put G p (.lst (ws.set j w)))):zSet (.ref p) (.int k) w G Rg:=⟨ws,j,e,a,h⟩
theorem b8A (h:∀ p,G p=none->R (.ref p) (put G p (.dK []))):b8o σ G R:=h
theorem a9x (l:z.length<=jK) (h:R (.int z.length) G):zLen [.str z] G R:=⟨l,h⟩
theorem a7X (e:G p=some (.lst ws)) (h:R (.int ws.length) G):zLen [.ref p] G R:=⟨ws,e,h⟩
theorem b8B (h:R (.int ws.length) G):zLen [.tup ws] G R:=h
theorem b8C (h:R (.int ns.length) G):zLen [.scr p ns] G R:=h
theorem i_mm (h:R (.int (f a b)) G):zMM f [.int a,.int b] G R:=h
theorem c0C {bs:List Bool}(e:G p=some (.lst (bs.map Z.bl))) (h:R (.bl (bs.all id)) G):zAll [.ref p] G R:=⟨bs,e,h⟩
theorem b6i (e:G p=some (.lst ws)) (h:∀ t,G t=none->R (.ref t) (put G t (.lst ws))):b8j [.ref p] G R:=⟨ws,e,h⟩
theorem b11 (e:tyN G x=some n) (k:kit0 n T=some b) (h:R (.bl b) G):zIsT [x,.ty T] G R:=⟨n,b,e,k,h⟩
theorem a1t (e:G p=some (.lst ws)) (z:ws.length<jK) (h:R .non (put G p (.lst (ws++[y])))):a8R (.ref p) [y] G R:=⟨ws,e,z,h⟩
theorem a9y (e:G p=some (.lst ws)) (e':G q=some (.lst ys)) (z:ws.length+ys.length<=jK) (h:R .non (put G p (.lst (ws++ys)))):b1V (.ref p) [.ref q] G R:=⟨ws,ys,e,e',z,h⟩
theorem b8D (e:G p=some (.lst (ys.map Z.str))) (l:(ys.map (·.length)).sum+ys.length*z.length<=16777216) (h:R (.str (Txt.join z ys)) G):b8m (.str z) [.ref p] G R:=⟨ys,e,l,h⟩
theorem c0D {P:Prop}(h:P):tyZ "str" (.str z) G/\P:=⟨rfl,h⟩
theorem a3R {P:Prop}(e:G p=some (.lst ws)) (h:P):tyZ "list" (.ref p) G/\P:=⟨.inl ⟨rfl,ws,e⟩,h⟩
theorem i_nm (h:nx (σ.set j (some w)) G):∃ σ',a5L (.nm j) w σ=some σ'/\nx σ' G:=⟨_,rfl,h⟩
theorem b8E (e:G q=some (.lst ws)) (f1:flat 8 x=true) (f2:ws.all (flat 8)=true) (h:R (.bl (f (decide (x∈ws)))) G):zIn f x (.ref q) G R:=by cases x<;>exact⟨ws,e,f1,f2,h⟩
theorem b8F {tb:X3}(h:wi σ G λws ok G1=>FORB ws ok pt tb nx rt σ G1):uFor wi pt tb nx rt bk ct σ G:=h
theorem c0E (h:wi σ G λws ok G1=>∀ D,G1 D=none->LCB ws ok cap pt tt te σ R D G1):uLC wi cap pt tt te σ G R:=h
variable {Ri:List Z->(Hq->Prop)->Hq->Prop}
theorem i_iL (h:te σ G λx G1=>wkL x G1 Ri):iL te σ G Ri:=h
theorem i_iT (h:te σ G λx G1=>wkT x G1 Ri):iT te σ G Ri:=h
theorem i_iS (h:te σ G λx G1=>wkS x G1 Ri):iS te σ G Ri:=h
theorem c0F (h:al σ G λws G1=>∃ j:Int,ws=[.int j]/\-(2 ^ 62)<=j/\j<2 ^ 62/\Ri (rng 0 j.toNat) (λ_=>True) G1):iR1 al σ G Ri:=h
theorem c0G (h:al σ G λws G1=>∃ i j:Int,ws=[.int i,.int j]/\(-(2 ^ 62)<=i/\i<2 ^ 62/\-(2 ^ 62)<=j/\j<2 ^ 62)/\Ri (rng i (j - i).toNat) (λ_=>True) G1):iR2 al σ G Ri:=h
theorem a17 (e:G p=some (.lst ws)) (h:Ri ws (λG=>G p=some (.lst ws)) G):wkL (.ref p) G Ri:=⟨ws,e,h⟩
theorem c0H (h:Ri ws (λ_=>True) G):wkT (.tup ws) G Ri:=h
theorem c0I (h:Ri (a5d z) (λ_=>True) G):wkS (.str z) G Ri:=h
theorem i_tt (h:Rb true G):uTT σ G Rb:=h
end
theorem ifD {p A B:Prop}[Decidable p] (h1:p->A) (h2:¬ p->B):if decide p=true then A else B:=by simp_all
theorem ifN {p A B:Prop}[Decidable p] (h1:¬ p->A) (h2:p->B):if (!decide p)=true then A else B:=by simp_all
theorem ifB {A B:Prop}(h1:b=true->A) (h2:b=false->B):if b=true then A else B:=by simp_all
theorem ifNB {A B:Prop}(h1:b=false->A) (h2:b=true->B):if (!b)=true then A else B:=by grind
theorem ifT {A B:Prop}(h:A):if true=true then A else B:=by rw[if_pos rfl];exact h
theorem ifF {A B:Prop}(h:B):if false=true then A else B:=by rw[if_neg (by decide)];exact h
theorem ifNN {A B:Prop}(h:A):if decide (Z.non=Z.non)=true then A else B:=by simp_all
theorem ifNI {A B:Prop}(h:B):if decide (Z.int i=Z.non)=true then A else B:=by rw[if_neg (by simp)];exact h
theorem ifMN {A B:Prop}(h:B):if (!decide (Z.non=Z.non))=true then A else B:=by rw[if_neg (by simp)];exact h
theorem ifMI {A B:Prop}(h:A):if (!decide (Z.int i=Z.non))=true then A else B:=by rw[if_pos (by simp)];exact h
theorem at0 {α:Type}{a:α}{r:List α}:atI (a::r) 0=some a:=a2k (j:=0) rfl
theorem at1 {α:Type}{a b:α}{r:List α}:atI (a::b::r) 1=some b:=a2k (j:=1) rfl
noncomputable def Sm (G G':Hq):Prop:=∀ b o,G b=some o->G' b=some o
theorem Sm.refl (G:Hq):Sm G G:=λ_ _ h=>h
theorem Sm.trans (a:Sm G G1) (b:Sm G1 G2):Sm G G2:=λc o h=>b c o (a c o h)
theorem Sm.get (s:Sm G G') (h:G b=some o):G' b=some o:=s b o h
theorem Sm.new (h:G p=none):Sm G (put G p o):=λ_ _ e=>a0k e h
theorem Sm.free (s:Sm G G') (h:G' p=none):G p=none:=by
 cases e:G p with
 | none=>rfl
 | some o=>rw[s p o e]at h;cases h
noncomputable def Kq (r:Addr) (G G':Hq):Prop:=∀ b o,G b=some o->b≠r->G' b=some o
theorem Kq.refl (r:Addr) (G:Hq):Kq r G G:=λ_ _ h _=>h
theorem Kq.trans (a:Kq r G G1) (b:Kq r G1 G2):Kq r G G2:=λc o h n=>b c o (a c o h n) n
theorem Kq.new (h:G p=none):Kq r G (put G p o):=λ_ _ e _=>a0k e h
theorem Kq.at:Kq r G (put G r o):=λ_ _ e n=>by rw[a0x n];exact e
theorem Sm.kq (s:Sm G G'):Kq r G G':=λb o e _=>s b o e
theorem Sm.put (s:Sm G G') (h:G p=none):Sm G (put G' p o):=λb u e=>by rw[a0x (a0u e h)];exact s b u e
end L3
set_option maxHeartbeats 4000000
namespace Tim
open PySem PyProof.Rows
abbrev KF:=Keyed->Int
noncomputable def Kk (κ:KF) (xs:Array Keyed) (i:Nat):Int:=match xs[i]? with
 | some p=>κ p
 | none=>0
section
variable {κ:KF}{xs ys:Array Keyed}{i j:Nat}{p:Keyed}
theorem a8S (h:xs[i]?=some p):Kk κ xs i=κ p:=by unfold Kk;rw[h]
theorem a5O (h:xs[i]?=ys[j]?):Kk κ xs i=Kk κ ys j:=by unfold Kk;rw[h]
end
noncomputable def LtOk (M:Model) (A:Around) (E:Value->Shared->Prop) (s:Shared) (κ:KF) (k0:kc) (ajj:Array Keyed):Prop:=
 ∀ x y,x∈ajj.toList->y∈ajj.toList->∀ (st:SortSt) (Q:Option Bool->SortSt->Prop),kindOf st=k0->Q (some (decide (κ x<κ y))) st->wpS M A E s (lt' x y) Q st
structure TB (k0:kc) (ajj:Array Keyed) (st:SortSt):Prop where
 pm:(arrOf st).Perm ajj
 kd:kindOf st=k0
 fl:j8 st=none
theorem TB.sz {st:SortSt}(h:TB k0 ajj st):(arrOf st).size=ajj.size:=h.pm.size_eq
theorem TB.mem {st:SortSt}(h:TB k0 ajj st) {i:Nat}(e:(arrOf st)[i]?=some p):p∈ajj.toList:=by
 have a:p∈(arrOf st).toList:=by rw[i7];exact Array.mem_of_getElem? e
 exact (h7.mp h.pm).mem_iff.mp a
theorem TB.arr {st:SortSt}(h:TB k0 ajj st) (hp:xs.Perm (arrOf st)):TB k0 ajj (setArr st xs):=⟨hp.trans h.pm,h.kd,h.fl⟩
section
variable {M:Model}{A:Around}{E:Value->Shared->Prop}{s:Shared}{κ:KF}{k0:kc}{ajj:Array Keyed}{st:SortSt}
theorem a0Z (e:arr[i]?=some p) (h:Q p st):wpS M A E s (elem' arr i) Q st:=by
 rw[elem'_eq,e];exact jM h
theorem a7Y (L:LtOk M A E s κ k0 ajj) (B:TB k0 ajj st) (hi:i<ajj.size) (hj:j<ajj.size)
  (h:Q (some (decide (Kk κ (arrOf st) i<Kk κ (arrOf st) j))) st):wpS M A E s (ltAt' i j) Q st:=by
 have b:_[i]?=some ((arrOf st)[i]'(by rw[B.sz];exact hi)):=getElem?_pos ..;have a:(arrOf st)[j]?=some ((arrOf st)[j]'(by rw[B.sz];exact hj)):=getElem?_pos ..;refine jL (j9 ?_);refine jL (a0Z b (jL (a0Z a ?_)));refine L _ _ (B.mem b) (B.mem a) st Q B.kd ?_;rw[a8S b,a8S a]at h;exact h
end
noncomputable def a18:Bool->Keyed->Array Keyed->Nat->Nat->Nat->StateT SortSt Sem (Option Nat):=sortPriv% PySem.Builtin.gallop
noncomputable def bey (lft:Bool) (ky:Keyed) (ar:Array Keyed) (bs:Nat) (q:Nat):StateT SortSt Sem (Option Bool):=do
  let z <- elem' ar (bs+q)
  if lft then lt' z ky else return (<- lt' ky z).map (!·)
theorem b0w (lft:Bool) (ky:Keyed) (ar:Array Keyed) (bs n hnt:Nat):a18 lft ky ar bs n hnt=(do
 let mut lst:=0
 let mut oo:=1
 let mut l:=0
 let mut h:=0
 let some rgt <- bey lft ky ar bs hnt | return none
 if rgt then
  let mx:=n - hnt
  for _ in [0:n] do
   if oo>=mx then break
   let some mo <- bey lft ky ar bs (hnt+oo) | return none
   if !mo then break
   lst:=oo
   oo:=2*oo+1
  l:=hnt+lst+1
  h:=hnt+min oo mx
 else
  let mx:=hnt+1
  for _ in [0:n] do
   if oo>=mx then break
   let some fo <- bey lft ky ar bs (hnt - oo) | return none
   if fo then break
   lst:=oo
   oo:=2*oo+1
  l:=hnt+1 - min oo mx
  h:=hnt - lst
 for _ in [0:n] do
  if l>=h then break
  let m:=l+(h - l) / 2
  let some mo <- bey lft ky ar bs m | return none
  if mo then l:=m+1 else h:=m
 return some h):=rfl
noncomputable def bq (lft:Bool) (k x:Int):Bool:=if lft then decide (x<k) else !decide (k<x)
section
variable {M:Model}{A:Around}{E:Value->Shared->Prop}{s:Shared}{κ:KF}{k0:kc}{ajj:Array Keyed}{st:SortSt}
theorem b12 (L:LtOk M A E s κ k0 ajj) (hk:kindOf st=k0) (hm:ky∈ajj.toList) (ha:∀ p∈ar.toList,p∈ajj.toList) (hq:bs+q<ar.size)
  (h:Q (some (bq lft (κ ky) (Kk κ ar (bs+q)))) st):wpS M A E s (bey lft ky ar bs q) Q st:=by
 have b:ar[bs+q]?=some (ar[bs+q]'hq):=getElem?_pos ..;have a:ar[bs+q]∈ajj.toList:=ha _ (by simp);refine jL (a0Z b ?_);rw[a8S b]at h;cases lft with
 | true=>
  exact L _ _ a hm st Q hk h
 | false=>
  exact jL (L _ _ hm a st _ hk (jM h))
theorem a3o (L:LtOk M A E s κ k0 ajj) (hk:kindOf st=k0) (hm:ky∈ajj.toList) (ha:∀ p∈ar.toList,p∈ajj.toList)
  (hn:bs+n<=ar.size) (hh:hnt<n) (mono:∀ i j,i<=j->j<n->Kk κ ar (bs+i)<=Kk κ ar (bs+j))
  (h:∀ h,h<=n->(∀ i,i<h->bq lft (κ ky) (Kk κ ar (bs+i))=true)->(∀ i,h<=i->i<n->bq lft (κ ky) (Kk κ ar (bs+i))=false)->Q (some h) st):wpS M A E s (a18 lft ky ar bs n hnt) Q st:=by
 have t:∀ i j,i<=j->j<n->bq lft (κ ky) (Kk κ ar (bs+j))=true->bq lft (κ ky) (Kk κ ar (bs+i))=true:=λi j C F H=>by
  have:=mono i j C F
  unfold bq at *;cases lft<;>simp at *<;>omega
 have D:∀ i j,i<=j->j<n->bq lft (κ ky) (Kk κ ar (bs+i))=false->bq lft (κ ky) (Kk κ ar (bs+j))=false:=λi j C F H=>by grind
 rw[b0w];refine jL (b12 L hk hm ha (by omega) ?_);dsimp only;cases e0:bq lft (κ ky) (Kk κ ar (bs+hnt)) with
 | true=>
  rw[if_pos rfl];refine jL (j6 (j1 (I:=λx c d=>d=st/\∃ a b,c=(none,a,b)/\a<b/\x+1<=b/\hnt+a<n/\bq lft (κ ky) (Kk κ ar (bs+(hnt+a)))=true)
   (Q:=λc d=>d=st/\∃ a b,c=(none,a,b)/\a<b/\hnt+a<n/\bq lft (κ ky) (Kk κ ar (bs+(hnt+a)))=true/\(n - hnt<=b\/(hnt+b<n/\bq lft (κ ky) (Kk κ ar (bs+(hnt+b)))=false))) ?step ?fin ?init) ?post)
  case init=>exact⟨rfl,0,1,rfl,by omega,by omega,by omega,e0⟩
  case fin=>
   rintro c d ⟨rfl,a,b,rfl,m,k,o,f⟩;exact⟨rfl,a,b,rfl,m,o,f,.inl (by omega)⟩
  case step=>
   rintro x c d _ G ⟨rfl,a,b,rfl,m,k,o,f⟩;dsimp only
   by_cases hge:b>=n - hnt
   ·rw[if_pos hge];exact jM ⟨rfl,a,b,rfl,m,o,f,.inl hge⟩
   ·rw[if_neg hge];refine jL (b12 L hk hm ha (by omega) ?_);cases e:bq lft (κ ky) (Kk κ ar (bs+(hnt+b))) with
    | true=>
     dsimp only;rw[if_neg (by decide)];exact jM ⟨rfl,b,2*b+1,rfl,by omega,by omega,by omega,e⟩
    | false=>
     dsimp only;rw[if_pos (show (!false)=true from rfl)];exact jM ⟨rfl,a,b,rfl,m,o,f,.inr ⟨by omega,e⟩⟩
  case post=>
   rintro c d ⟨y,a,b,rfl,m,o,f,g⟩;have y:=y.symm;subst y;dsimp only;have q:hnt+a+1<=hnt+min b (n - hnt):=by omega
   have w:hnt+min b (n - hnt)<=n:=by omega
   have v:∀ i,i<hnt+a+1->bq lft (κ ky) (Kk κ ar (bs+i))=true:=λi J=>t i _ (by omega) (by omega) f;have u:∀ i,hnt+min b (n - hnt)<=i->i<n->bq lft (κ ky) (Kk κ ar (bs+i))=false:=λi B z=>by grind
   generalize hnt+a+1=l0 at q v ⊢;generalize hnt+min b (n - hnt)=h0 at q w u ⊢;refine jL (j6 (j1 (I:=λx c d=>d=st/\∃ l r,c=(none,l,r)/\l<=r/\r<=n/\r - l<=n - x/\(∀ i,i<l->bq lft (κ ky) (Kk κ ar (bs+i))=true)/\(∀ i,r<=i->i<n->bq lft (κ ky) (Kk κ ar (bs+i))=false))
    (Q:=λc d=>d=st/\∃ l,c=(none,l,l)/\l<=n/\(∀ i,i<l->bq lft (κ ky) (Kk κ ar (bs+i))=true)/\(∀ i,l<=i->i<n->bq lft (κ ky) (Kk κ ar (bs+i))=false)) ?st2 ?fi2 ?in2) ?po2)
   case in2=>exact⟨rfl,l0,h0,rfl,q,w,by omega,v,u⟩
   case fi2=>
    rintro c d ⟨rfl,l,r,rfl,m,k,o,f,g⟩
    have:l=r:=by omega
    subst this;exact⟨rfl,l,rfl,k,f,g⟩
   case st2=>
    rintro x c d _ G ⟨rfl,l,r,rfl,m,k,o,f,g⟩;dsimp only
    by_cases hge:l>=r
    ·rw[if_pos hge]
     have:l=r:=by omega
     subst this;exact jM ⟨rfl,l,rfl,k,f,g⟩
    ·rw[if_neg hge];refine jL (b12 L hk hm ha (by omega) ?_);cases e:bq lft (κ ky) (Kk κ ar (bs+(l+(r - l) / 2))) with
     | true=>
      dsimp only;rw[if_pos rfl];exact jM ⟨rfl,_,r,rfl,by omega,k,by omega,λi J=>t i _ (by omega) (by omega) e,g⟩
     | false=>
      dsimp only;rw[if_neg (by decide)];exact jM ⟨rfl,l,_,rfl,by omega,by omega,by omega,f,λi B z=>D _ i B z e⟩
   case po2=>
    rintro c d ⟨rfl,l,rfl,k,f,g⟩;exact jM (h l k f g)
 | false=>
  rw[if_neg (by decide)];refine jL (j6 (j1 (I:=λx c d=>d=st/\∃ a b,c=(none,a,b)/\a<b/\x+1<=b/\a<=hnt/\bq lft (κ ky) (Kk κ ar (bs+(hnt - a)))=false)
   (Q:=λc d=>d=st/\∃ a b,c=(none,a,b)/\a<b/\a<=hnt/\bq lft (κ ky) (Kk κ ar (bs+(hnt - a)))=false/\(hnt+1<=b\/(b<=hnt/\bq lft (κ ky) (Kk κ ar (bs+(hnt - b)))=true))) ?step ?fin ?init) ?post)
  case init=>exact⟨rfl,0,1,rfl,by omega,by omega,by omega,e0⟩
  case fin=>
   rintro c d ⟨rfl,a,b,rfl,m,k,o,f⟩;exact⟨rfl,a,b,rfl,m,o,f,.inl (by omega)⟩
  case step=>
   rintro x c d _ G ⟨rfl,a,b,rfl,m,k,o,f⟩;dsimp only
   by_cases hge:b>=hnt+1
   ·rw[if_pos hge];exact jM ⟨rfl,a,b,rfl,m,o,f,.inl hge⟩
   ·rw[if_neg hge];refine jL (b12 L hk hm ha (by omega) ?_);cases e:bq lft (κ ky) (Kk κ ar (bs+(hnt - b))) with
    | true=>
     dsimp only;rw[if_pos rfl];exact jM ⟨rfl,a,b,rfl,m,o,f,.inr ⟨by omega,e⟩⟩
    | false=>
     dsimp only;rw[if_neg (by decide)];exact jM ⟨rfl,b,2*b+1,rfl,by omega,by omega,by omega,e⟩
  case post=>
   rintro c d ⟨y,a,b,rfl,m,o,f,g⟩;have y:=y.symm;subst y;dsimp only;have q:hnt+1 - min b (hnt+1)<=hnt - a:=by omega
   have w:hnt - a<=n:=by omega
   have v:∀ i,i<hnt+1 - min b (hnt+1)->bq lft (κ ky) (Kk κ ar (bs+i))=true:=λi J=>by grind
   have u:=λi B z=>D _ i B z f;generalize hnt+1 - min b (hnt+1)=l0 at q v ⊢;generalize hnt - a=h0 at q w u ⊢;refine jL (j6 (j1 (I:=λx c d=>d=st/\∃ l r,c=(none,l,r)/\l<=r/\r<=n/\r - l<=n - x/\(∀ i,i<l->bq lft (κ ky) (Kk κ ar (bs+i))=true)/\(∀ i,r<=i->i<n->bq lft (κ ky) (Kk κ ar (bs+i))=false))
    (Q:=λc d=>d=st/\∃ l,c=(none,l,l)/\l<=n/\(∀ i,i<l->bq lft (κ ky) (Kk κ ar (bs+i))=true)/\(∀ i,l<=i->i<n->bq lft (κ ky) (Kk κ ar (bs+i))=false)) ?st2 ?fi2 ?in2) ?po2)
   case in2=>exact⟨rfl,l0,h0,rfl,q,w,by omega,v,u⟩
   case fi2=>
    rintro c d ⟨rfl,l,r,rfl,m,k,o,f,g⟩
    have:l=r:=by omega
    subst this;exact⟨rfl,l,rfl,k,f,g⟩
   case st2=>
    rintro x c d _ G ⟨rfl,l,r,rfl,m,k,o,f,g⟩;dsimp only
    by_cases hge:l>=r
    ·rw[if_pos hge]
     have:l=r:=by omega
     subst this;exact jM ⟨rfl,l,rfl,k,f,g⟩
    ·rw[if_neg hge];refine jL (b12 L hk hm ha (by omega) ?_);cases e:bq lft (κ ky) (Kk κ ar (bs+(l+(r - l) / 2))) with
     | true=>
      dsimp only;rw[if_pos rfl];exact jM ⟨rfl,_,r,rfl,by omega,k,by omega,λi J=>t i _ (by omega) (by omega) e,g⟩
     | false=>
      dsimp only;rw[if_neg (by decide)];exact jM ⟨rfl,l,_,rfl,by omega,by omega,by omega,f,λi B z=>D _ i B z e⟩
   case po2=>
    rintro c d ⟨rfl,l,rfl,k,f,g⟩;exact jM (h l k f g)
end
noncomputable def a8T:Nat->StateT SortSt Sem Unit:=sortPriv% PySem.Builtin.setMinGallop
theorem a7g (g:Nat):a8T g=modify λs=>SortSt.mk' (kindOf s) (arrOf s) (jS s) g (j8 s):=rfl
noncomputable def a5r:Array Keyed->Array Keyed->StateT SortSt Sem (Array Keyed):=sortPriv% PySem.Builtin.mergeLo
abbrev dnA (a b o:Array Keyed) (i j:Nat):Array Keyed:=o++a.extract i a.size++b.extract j b.size
abbrev dnB (a b o:Array Keyed) (i j:Nat):Array Keyed:=o++b.extract j b.size++a.extract i a.size
theorem a8U (a b:Array Keyed):a5r a b=(do
 rule "list.sort.merge-lo"
 let tot:=a.size+b.size
 let mut o:Array Keyed:=#[<- elem' b 0]
 let mut i:=0
 let mut j:=1
 if j==b.size then return dnA a b o i j
 if i+1==a.size then return dnB a b o i j
 let mut g:=mt (<- get)
 for _ in [0:tot] do
  let mut ac:=0
  let mut bc:=0
  for _ in [0:tot] do
   let some bw <- lt' (<- elem' b j) (<- elem' a i) | return dnA a b o i j
   if bw then
    o:=o.push (<- elem' b j);j:=j+1;bc:=bc+1;ac:=0
    if j==b.size then return dnA a b o i j
    if bc>=g then break
   else
    o:=o.push (<- elem' a i);i:=i+1;ac:=ac+1;bc:=0
    if i+1==a.size then return dnB a b o i j
    if ac>=g then break
  rule "list.sort.gallop"
  g:=g+1
  for _ in [0:tot] do
   if g > 1 then g:=g - 1
   a8T g
   let some k <- a18 false (<- elem' b j) a i (a.size - i) 0 | return dnA a b o i j
   ac:=k
   if k > 0 then
    o:=o++a.extract i (i+k);i:=i+k
    if i+1==a.size then return dnB a b o i j
    if i==a.size then return dnA a b o i j
   o:=o.push (<- elem' b j);j:=j+1
   if j==b.size then return dnA a b o i j
   let some k <- a18 true (<- elem' a i) b j (b.size - j) 0 | return dnA a b o i j
   bc:=k
   if k > 0 then
    o:=o++b.extract j (j+k);j:=j+k
    if j==b.size then return dnA a b o i j
   o:=o.push (<- elem' a i);i:=i+1
   if i+1==a.size then return dnB a b o i j
   if ac<7&&bc<7 then break
  g:=g+1
  a8T g
 (lN "internal:list.sort.merge-bound")):=rfl
section
variable {κ:KF}{A B o:List Keyed}{i j:Nat}{p:Keyed}
abbrev Srt (κ:KF) (l:List Keyed):Prop:=l.Pairwise λx y=>κ x<=κ y
structure MW (κ:KF) (A B o:List Keyed) (i j:Nat):Prop where
 ia:i<=A.length
 jb:j<=B.length
 pm:(o++(A.drop i++B.drop j)).Perm (A++B)
 so:Srt κ o
 ba:∀ x∈o,∀ y∈A.drop i,κ x<=κ y
 bb:∀ x∈o,∀ y∈B.drop j,κ x<=κ y
theorem MW.size (W:MW κ A B o i j):o.length=i+j:=by
 have:=W.pm.length_eq
 have b:=W.ia;have a:=W.jb;simp at this;omega
theorem drop_get {l:List Keyed}(h:l[n]?=some p):l.drop n=p::l.drop (n+1):=by
 obtain⟨a,e⟩:=eL.mp h;rw[h9 a,e]
theorem a9z (h:Srt κ l) (hb:∀ x∈l,κ x<=κ p):Srt κ (l++[p]):=by
 refine eS.mpr ⟨h,ib _ _,λx b y a=>?_⟩;rw[et.mp a];exact hb x b
theorem a1H (h:Srt κ l) (n:Nat):Srt κ (l.drop n):=fk.sublist (jh n l) h
theorem MW.pushA (W:MW κ A B o i j) (sa:Srt κ A) (hp:A[i]?=some p) (hb:∀ y∈B.drop j,κ p<=κ y):MW κ A B (o++[p]) (i+1) j:=by
 have c:=drop_get hp;have d:=(eL.mp hp).1;have e:=c▸a1H sa i;refine⟨d,W.jb,?_,a9z W.so λx b=>W.ba x b p (by simp_all),λx b y a=>?_,λx b y a=>?_⟩
 ·have:=W.pm
  rw[c]at this;simpa using this
 ·rcases ei.mp b with h | h
  ·exact W.ba x h y (by simp_all)
  ·rw[et.mp h];exact (eW.mp e).1 y a
 ·rcases ei.mp b with h | h
  ·exact W.bb x h y a
  ·rw[et.mp h];exact hb y a
theorem MW.pushB (W:MW κ A B o i j) (sb:Srt κ B) (hp:B[j]?=some p) (hb:∀ y∈A.drop i,κ p<=κ y):MW κ A B (o++[p]) i (j+1):=by
 have c:=drop_get hp;have d:=(eL.mp hp).1;have e:=c▸a1H sb j;refine⟨W.ia,d,?_,a9z W.so λx b=>W.bb x b p (by simp_all),λx b y a=>?_,λx b y a=>?_⟩
 ·have:=W.pm
  rw[c]at this;refine fm.trans ?_ this;rw[eT];exact fm.append_left o (show (p::(A.drop i++B.drop _)).Perm _ from ji.symm)
 ·rcases ei.mp b with h | h
  ·exact W.ba x h y a
  ·rw[et.mp h];exact hb y a
 ·rcases ei.mp b with h | h
  ·exact W.bb x h y (by simp_all)
  ·rw[et.mp h];exact (eW.mp e).1 y a
theorem take_snoc {l:List Keyed}(h:l[n+k]?=some p):(l.drop n).take (k+1)=(l.drop n).take k++[p]:=by
 rw[fN,iG,h];rfl
theorem MW.runA (W:MW κ A B o i j) (sa:Srt κ A):∀ k,i+k<=A.length->(∀ q z,i<=q->q<i+k->A[q]?=some z->∀ y∈B.drop j,κ z<=κ y)->MW κ A B (o++(A.drop i).take k) (i+k) j
 | 0,_,_=>by simpa using W
 | k+1,hk,hz=>by
  have b:=MW.runA W sa k (by omega) λq z a c=>hz q z a (by omega);have e:A[i+k]?=some A[i+k]:=eI (by omega);rw[take_snoc e,<- eT];exact b.pushA sa e (hz _ _ (by omega) (by omega) e)
theorem MW.runB (W:MW κ A B o i j) (sb:Srt κ B):∀ k,j+k<=B.length->(∀ q z,j<=q->q<j+k->B[q]?=some z->∀ y∈A.drop i,κ z<=κ y)->MW κ A B (o++(B.drop j).take k) i (j+k)
 | 0,_,_=>by simpa using W
 | k+1,hk,hz=>by
  have b:=MW.runB W sb k (by omega) λq z a c=>hz q z a (by omega);have e:B[j+k]?=some B[j+k]:=eI (by omega);rw[take_snoc e,<- eT];exact b.pushB sb e (hz _ _ (by omega) (by omega) e)
noncomputable def Mgd (κ:KF) (A B r:List Keyed):Prop:=r.Perm (A++B)/\Srt κ r
theorem MW.doneA (W:MW κ A B o i j) (sa:Srt κ A) (sb:Srt κ B) (h:i=A.length\/j=B.length):Mgd κ A B (o++A.drop i++B.drop j):=by
 refine⟨by rw[eT];exact W.pm,?_⟩;rw[eT];refine eS.mpr ⟨W.so,eS.mpr ⟨a1H sa i,a1H sb j,λx a y b=>?_⟩,λx a y b=>?_⟩
 ·rcases h with rfl | rfl
  ·simp_all
  ·simp_all
 ·rcases ei.mp b with h | h
  ·exact W.ba x a y h
  ·exact W.bb x a y h
theorem MW.doneB (W:MW κ A B o i j) (sa:Srt κ A) (sb:Srt κ B) (h:i+1=A.length) (hl:∀ z,A[A.length - 1]?=some z->∀ y∈B,κ y<=κ z):Mgd κ A B (o++B.drop j++A.drop i):=by
 refine⟨?_,?_⟩
 ·rw[eT];exact fm.trans (fm.append_left o jj) W.pm
 ·rw[eT];have e:A[i]?=some A[i]:=eI (by omega);have c:A.drop i=[A[i]]:=by rw[drop_get e,ic (by omega)]
  refine eS.mpr ⟨W.so,eS.mpr ⟨a1H sb j,a1H sa i,λx b y a=>?_⟩,λx b y a=>?_⟩
  ·rw[c]at a;rw[et.mp a];exact hl _ (by rw[show A.length - 1=i by omega];exact e) x (ie b)
  ·rcases ei.mp a with h | h
   ·exact W.bb x b y h
   ·exact W.ba x b y h
theorem a2w (h:Srt κ l) (hp:l[n]?=some p):∀ y∈l.drop n,κ p<=κ y:=λy a=>by
 have b:=a1H h n;rw[drop_get hp]at b a;rcases eC.mp a with rfl | a
 ·exact fi _
 ·exact (eW.mp b).1 y a
end
abbrev SM:=StateT SortSt Sem
abbrev T1:=Option (Array Keyed)×Array Keyed×Nat×Nat×Nat×Nat
abbrev T2:=Option (Array Keyed)×Array Keyed×Nat×Nat×Nat×Nat×Nat
noncomputable def lo1 (a b:Array Keyed) (g:Nat) (o:Array Keyed) (i j ac bc:Nat):SM (ForInStep T1):=do
 let y <- elem' b j
 let x <- elem' a i
 let r <- lt' y x
 match r with
 | some bw=>
  if bw=true then do
   let y <- elem' b j
   if (j+1==b.size)=true then pure (.done (some (dnA a b (o.push y) i (j+1)),o.push y,i,j+1,0,bc+1))
   else if bc+1>=g then pure (.done (none,o.push y,i,j+1,0,bc+1)) else pure (.yield (none,o.push y,i,j+1,0,bc+1))
  else do
   let x <- elem' a i
   if (i+1+1==a.size)=true then pure (.done (some (dnB a b (o.push x) (i+1) j),o.push x,i+1,j,ac+1,0))
   else if ac+1>=g then pure (.done (none,o.push x,i+1,j,ac+1,0)) else pure (.yield (none,o.push x,i+1,j,ac+1,0))
 | _=>pure (.done (some (dnA a b o i j),o,i,j,ac,bc))
noncomputable def lo5 (a b:Array Keyed) (o:Array Keyed) (i j g ac bc:Nat):SM (ForInStep T2):=do
 let x <- elem' a i
 if (i+1+1==a.size)=true then pure (.done (some (dnB a b (o.push x) (i+1) j),o.push x,i+1,j,g,ac,bc))
 else if (decide (ac<7)&&decide (bc<7))=true then pure (.done (none,o.push x,i+1,j,g,ac,bc)) else pure (.yield (none,o.push x,i+1,j,g,ac,bc))
noncomputable def lo4 (a b:Array Keyed) (o:Array Keyed) (i j g ac bc:Nat):SM (ForInStep T2):=do
 let y <- elem' b j
 if (j+1==b.size)=true then pure (.done (some (dnA a b (o.push y) i (j+1)),o.push y,i,j+1,g,ac,bc))
 else do
  let x <- elem' a i
  let r <- a18 true x b (j+1) (b.size - (j+1)) 0
  match r with
  | some k=>
   if k > 0 then
    if (j+1+k==b.size)=true then pure (.done (some (dnA a b (o.push y++b.extract (j+1) (j+1+k)) i (j+1+k)),o.push y++b.extract (j+1) (j+1+k),i,j+1+k,g,ac,k))
    else lo5 a b (o.push y++b.extract (j+1) (j+1+k)) i (j+1+k) g ac k
   else lo5 a b (o.push y) i (j+1) g ac k
  | _=>pure (.done (some (dnA a b (o.push y) i (j+1)),o.push y,i,j+1,g,ac,bc))
noncomputable def lo3 (a b:Array Keyed) (o:Array Keyed) (i j g ac bc:Nat):SM (ForInStep T2):=do
 a8T g
 let y <- elem' b j
 let r <- a18 false y a i (a.size - i) 0
 match r with
 | some k=>
  if k > 0 then
   if (i+k+1==a.size)=true then pure (.done (some (dnB a b (o++a.extract i (i+k)) (i+k) j),o++a.extract i (i+k),i+k,j,g,k,bc))
   else if (i+k==a.size)=true then pure (.done (some (dnA a b (o++a.extract i (i+k)) (i+k) j),o++a.extract i (i+k),i+k,j,g,k,bc))
   else lo4 a b (o++a.extract i (i+k)) (i+k) j g k bc
  else lo4 a b o i j g k bc
 | _=>pure (.done (some (dnA a b o i j),o,i,j,g,ac,bc))
noncomputable def lo2 (a b:Array Keyed) (o:Array Keyed) (i j g ac bc:Nat):SM (ForInStep T2):=
 if g > 1 then lo3 a b o i j (g - 1) ac bc else lo3 a b o i j g ac bc
theorem bd2 {α β:Type}{x y:SM α}{f g:α->SM β}(h:x=y) (h2:∀ a,f a=g a):x >>= f=y >>= g:=by rw[h,funext h2]
theorem a7Z (a b:Array Keyed):a5r a b=(do
  liftM (rule "list.sort.merge-lo")
  let y <- elem' b 0
  if (1==b.size)=true then pure (dnA a b #[y] 0 1)
  else if (0+1==a.size)=true then pure (dnB a b #[y] 0 1)
  else do
   let st <- get
   let c <- forIn [0:a.size+b.size] ((none,#[y],0,1,mt st):Option (Array Keyed)×Array Keyed×Nat×Nat×Nat) λ_ c=>do
    let c1 <- forIn [0:a.size+b.size] ((none,c.2.1,c.2.2.1,c.2.2.2.1,0,0):T1) λ_ c1=>lo1 a b c.2.2.2.2 c1.2.1 c1.2.2.1 c1.2.2.2.1 c1.2.2.2.2.1 c1.2.2.2.2.2
    match c1.1 with
    | some r=>pure (ForInStep.done (some r,c1.2.1,c1.2.2.1,c1.2.2.2.1,c.2.2.2.2))
    | none=>do
     liftM (rule "list.sort.gallop")
     let c2 <- forIn [0:a.size+b.size] ((none,c1.2.1,c1.2.2.1,c1.2.2.2.1,c.2.2.2.2+1,c1.2.2.2.2.1,c1.2.2.2.2.2):T2) λ_ c2=>lo2 a b c2.2.1 c2.2.2.1 c2.2.2.2.1 c2.2.2.2.2.1 c2.2.2.2.2.2.1 c2.2.2.2.2.2.2
     match c2.1 with
     | some r=>pure (ForInStep.done (some r,c2.2.1,c2.2.2.1,c2.2.2.2.1,c2.2.2.2.2.1))
     | none=>do
      a8T (c2.2.2.2.2.1+1)
      pure (ForInStep.yield (none,c2.2.1,c2.2.2.1,c2.2.2.2.1,c2.2.2.2.2.1+1))
   match c.1 with
   | some r=>pure r
   | none=>lN "internal:list.sort.merge-bound"):=by
 rw[a8U];refine bind_congr λ_=>bind_congr λy=>?_;dsimp only
 congr 1
 congr 1
 refine bind_congr λk=>?_;refine bd2 ?_ λc=>?_
 ·congr 1
  funext x c
  obtain⟨r,o,i,j,g⟩:=c;dsimp only;refine bd2 ?_ λe=>?_
  ·congr 1
  ·obtain⟨r,o,i,j,d,f⟩:=e;cases r with
   | some r=>rfl
   | none=>
    refine bind_congr λ_=>?_;refine bd2 ?_ λh=>?_
    ·congr 1
    ·obtain⟨r,o,i,j,g,d,f⟩:=h;cases r<;>rfl
 ·obtain⟨r,o,i,j,g⟩:=c;cases r<;>rfl
structure SG (st st':SortSt):Prop where
 kd:kindOf st'=kindOf st
 ar:arrOf st'=arrOf st
 pe:jS st'=jS st
 fl:j8 st'=j8 st
theorem SG.refl (st:SortSt):SG st st:=⟨rfl,rfl,rfl,rfl⟩
theorem SG.trans (p:SG x y) (q:SG y z):SG x z:=⟨q.kd.trans p.kd,q.ar.trans p.ar,q.pe.trans p.pe,q.fl.trans p.fl⟩
section
variable {κ:KF}{a b o:Array Keyed}{i j:Nat}
theorem a4d:(dnA a b o i j).toList=o.toList++a.toList.drop i++b.toList.drop j:=by
 simp[ft]
theorem a5s:(dnB a b o i j).toList=o.toList++b.toList.drop j++a.toList.drop i:=by
 simp[ft]
theorem a9A:(o++a.extract i (i+k)).toList=o.toList++(a.toList.drop i).take k:=by
 simp[ig]
theorem a09 (h:i<a.size):a.toList[i]?=some a[i]:=by simp[h]
theorem a1j (h:i<a.size):Kk κ a i=κ a[i]:=a8S (getElem?_pos ..)
theorem a4e (h:Srt κ a.toList) (hn:i+n<=a.size):∀ p q,p<=q->q<n->Kk κ a (i+p)<=Kk κ a (i+q):=λp q b c=>by
 rw[a1j (show i+p<a.size by omega),a1j (show i+q<a.size by omega)]
 by_cases e:p=q
 ·simp_all
 ·have:=gy.mp h (i+p) (i+q) (by simp;omega) (by simp;omega) (by omega)
  simpa using this
end
structure MC (M:Model) (A:Around) (E:Value->Shared->Prop) (s:Shared) (κ:KF) (k0:kc) (ajj a b:Array Keyed):Prop where
 L:LtOk M A E s κ k0 ajj
 ha:∀ p∈a.toList,p∈ajj.toList
 hb:∀ p∈b.toList,p∈ajj.toList
 sa:Srt κ a.toList
 sb:Srt κ b.toList
 h0:0<a.size
 h1:0<b.size
 hf:∀ y∈a.toList,Kk κ b 0<=κ y
 hl:∀ z,a.toList[a.toList.length - 1]?=some z->∀ y∈b.toList,κ y<=κ z
structure Rdy (κ:KF) (a b o:Array Keyed) (i j:Nat):Prop where
 w:MW κ a.toList b.toList o.toList i j
 hi:i+1<a.size
 hj:j<b.size
section
variable {M:Model}{A:Around}{E:Value->Shared->Prop}{s:Shared}{κ:KF}{k0:kc}{ajj a b o:Array Keyed}{st:SortSt}{i j g ac bc:Nat}
theorem a6O {α:Type}{f:Unit->SM α}{Q:α->SortSt->Prop}(h:wpS M A E s (f ()) Q st):wpS M A E s ((liftM (rule w):SM Unit) >>= f) Q st:=
 jL (lO (lc ⟨rfl,h⟩))
theorem a1A (a:Array Keyed):a.toList.length=a.size:=by simp
theorem c0J (C:MC M A E s κ k0 ajj a b) (hk:kindOf st=k0) (R:Rdy κ a b o i j)
  (dn:∀ r c,Mgd κ a.toList b.toList r.toList->Q (.done (some r,c)) st)
  (br:∀ o' i' j' x y,Rdy κ a b o' i' j'->i'+j'=i+j+1->Q (.done (none,o',i',j',x,y)) st)
  (go:∀ o' i' j' x y,Rdy κ a b o' i' j'->i'+j'=i+j+1->Q (.yield (none,o',i',j',x,y)) st):wpS M A E s (lo1 a b g o i j ac bc) Q st:=by
 have q:=R.hi;have n:=R.hj;have p:b[j]?=some b[j]:=getElem?_pos ..;have m:a[i]?=some a[i]:=getElem?_pos ..;have h:=a09 n;have l:=a09 (a:=a) (i:=i) (by omega);unfold lo1;refine jL (a0Z p (jL (a0Z m (jL ?_))));refine C.L _ _ (C.hb _ (eP h)) (C.ha _ (eP l)) st _ hk ?_;dsimp only
 by_cases c:κ b[j]<κ a[i]
 ·rw[if_pos (decide_eq_true c)];refine jL (a0Z p ?_);have d:=R.w.pushB C.sb h λy k=>eY (fy c) (a2w C.sa l y k);rw[<- fz]at d
  by_cases e:j+1=b.size
  ·rw[if_pos (by simpa using e)];exact jM (dn _ _ (by rw[a4d];exact d.doneA C.sa C.sb (.inr (by rw[a1A];exact e))))
  ·rw[if_neg (by simpa using e)];have f:Rdy κ a b (o.push b[j]) i (j+1):=⟨d,q,by omega⟩
   split
   ·exact jM (br _ _ _ _ _ f (by omega))
   ·exact jM (go _ _ _ _ _ f (by omega))
 ·rw[if_neg (by simpa using c)];refine jL (a0Z m ?_);have d:=R.w.pushA C.sa l λy k=>eY (ii.mp c) (a2w C.sb h y k);rw[<- fz]at d
  by_cases e:i+1+1=a.size
  ·rw[if_pos (by simpa using e)];exact jM (dn _ _ (by rw[a5s];exact d.doneB C.sa C.sb (by rw[a1A];exact e) C.hl))
  ·rw[if_neg (by simpa using e)];have f:Rdy κ a b (o.push a[i]) (i+1) j:=⟨d,by omega,n⟩
   split
   ·exact jM (br _ _ _ _ _ f (by omega))
   ·exact jM (go _ _ _ _ _ f (by omega))
structure G2 (st:SortSt) (κ:KF) (a b:Array Keyed) (n:Nat) (Q:ForInStep T2->SortSt->Prop):Prop where
 dn:∀ r c st',SG st st'->Mgd κ a.toList b.toList r.toList->Q (.done (some r,c)) st'
 br:∀ o' i' j' x y z st',SG st st'->Rdy κ a b o' i' j'->n<i'+j'->Q (.done (none,o',i',j',x,y,z)) st'
 go:∀ o' i' j' x y z st',SG st st'->Rdy κ a b o' i' j'->n<i'+j'->Q (.yield (none,o',i',j',x,y,z)) st'
theorem b8G (C:MC M A E s κ k0 ajj a b) (R:Rdy κ a b o i j) (hle:∀ y∈b.toList.drop j,Kk κ a i<=κ y) (H:G2 st κ a b n Q) (hn:n<=i+j):wpS M A E s (lo5 a b o i j g ac bc) Q st:=by
 have l:=R.hi;have k:=R.hj;have h:a[i]?=some a[i]:=getElem?_pos ..;have f:=a09 (a:=a) (i:=i) (by omega);rw[a1j (show i<a.size by omega)]at hle;unfold lo5;refine jL (a0Z h ?_);have c:=R.w.pushA C.sa f hle;rw[<- fz]at c
 by_cases e:i+1+1=a.size
 ·rw[if_pos (by simpa using e)];exact jM (H.dn _ _ _ (SG.refl _) (by rw[a5s];exact c.doneB C.sa C.sb (by rw[a1A];exact e) C.hl))
 ·rw[if_neg (by simpa using e)];have d:Rdy κ a b (o.push a[i]) (i+1) j:=⟨c,by omega,k⟩
  split
  ·exact jM (H.br _ _ _ _ _ _ _ (SG.refl _) d (by omega))
  ·exact jM (H.go _ _ _ _ _ _ _ (SG.refl _) d (by omega))
theorem a3S {l:List Keyed}(h:y∈l.drop n):∃ q,n<=q/\q<l.length/\l[q]?=some y:=by
 obtain⟨m,a⟩:=gz h;rw[iG]at a;exact⟨n+m,by omega,(eL.mp a).1,a⟩
theorem a5P (h:a.toList[q]?=some z):Kk κ a q=κ z:=a8S (by simp_all)
theorem b8H (C:MC M A E s κ k0 ajj a b) (hk:kindOf st=k0) (R:Rdy κ a b o i j) (hle:∀ y∈a.toList.drop i,Kk κ b j<=κ y) (H:G2 st κ a b n Q) (hn:n<=i+j):wpS M A E s (lo4 a b o i j g ac bc) Q st:=by
 have m:=R.hi;have t:=R.hj;have x:b[j]?=some b[j]:=getElem?_pos ..;have D:=a09 t;have F:a[i]?=some a[i]:=getElem?_pos ..;have p:=a09 (a:=a) (i:=i) (by omega);rw[a1j t]at hle;unfold lo4;refine jL (a0Z x ?_);have d:=R.w.pushB C.sb D hle;rw[<- fz]at d
 by_cases e:j+1=b.size
 ·rw[if_pos (by simpa using e)];exact jM (H.dn _ _ _ (SG.refl _) (by rw[a4d];exact d.doneA C.sa C.sb (.inr (by rw[a1A];exact e))))
 ·rw[if_neg (by simpa using e)];refine jL (a0Z F (jL ?_));refine a3o C.L hk (C.ha _ (eP p)) C.hb (by omega) (by omega) (a4e C.sb (by omega)) λk G v r=>?_;dsimp only;have c:∀ y∈b.toList.drop (j+1+k),Kk κ a i<=κ y:=λy h=>by
   obtain⟨q,B,u,l⟩:=a3S h;rw[a1A]at u
   have:=r (q - (j+1)) (by omega) (by omega)
   rw[show j+1+(q - (j+1))=q by omega,a5P l]at this;simp[bq]at this;rw[a1j (show i<a.size by omega)];omega
  split
  ·have f:=d.runB C.sb k (by rw[a1A];omega) λq z B u l y h=>by
    have:=v (q - (j+1)) (by omega)
    rw[show j+1+(q - (j+1))=q by omega,a5P l]at this;simp[bq]at this;exact eY (fy this) (a2w C.sa p y h)
   rw[<- a9A]at f
   by_cases e2:j+1+k=b.size
   ·rw[if_pos (by simpa using e2)];exact jM (H.dn _ _ _ (SG.refl _) (by rw[a4d];exact f.doneA C.sa C.sb (.inr (by rw[a1A];exact e2))))
   ·rw[if_neg (by simpa using e2)];exact b8G C ⟨f,m,by omega⟩ c H (by omega)
  ·have:k=0:=by omega
   subst this;exact b8G C ⟨d,m,by omega⟩ c H (by omega)
theorem c0K (C:MC M A E s κ k0 ajj a b) (hk:kindOf st=k0) (R:Rdy κ a b o i j) (H:G2 st κ a b n Q) (hn:n<=i+j):wpS M A E s (lo3 a b o i j g ac bc) Q st:=by
 have I:=R.hi;have h:=R.hj;have G:b[j]?=some b[j]:=getElem?_pos ..;have B:=a09 h;unfold lo3;rw[a7g];refine jL (ke ?_);have m:SG st (SortSt.mk' _ (arrOf st) _ g _):=⟨rfl,rfl,rfl,rfl⟩;have e:kindOf (SortSt.mk' _ (arrOf st) (jS st) g (j8 st))=k0:=hk;generalize SortSt.mk' (kindOf st) (arrOf st) (jS st) g (j8 st)=st1 at m e;have l:G2 st1 κ a b n Q:=⟨λr c d g=>H.dn r c d (m.trans g),λ_ _ _ _ _ _ d g=>H.br _ _ _ _ _ _ d (m.trans g),λ_ _ _ _ _ _ d g=>H.go _ _ _ _ _ _ d (m.trans g)⟩;refine jL (a0Z G (jL ?_));refine a3o C.L e (C.hb _ (eP B)) C.ha (by omega) (by omega) (a4e C.sa (by omega)) λk J D x=>?_;dsimp only;have f:∀ y∈a.toList.drop (i+k),Kk κ b j<=κ y:=λy t=>by
  obtain⟨q,F,v,u⟩:=a3S t;rw[a1A]at v
  have:=x (q - i) (by omega) (by omega)
  rw[show i+(q - i)=q by omega,a5P u]at this;simp[bq]at this;rw[a1j h];omega
 split
 ·have p:=R.w.runA C.sa k (by rw[a1A];omega) λq z F v u y t=>by
   have:=D (q - i) (by omega)
   rw[show i+(q - i)=q by omega,a5P u]at this;simp[bq]at this;exact eY this (a2w C.sb B y t)
  rw[<- a9A]at p
  by_cases e1:i+k+1=a.size
  ·rw[if_pos (by simpa using e1)];exact jM (l.dn _ _ _ (SG.refl _) (by rw[a5s];exact p.doneB C.sa C.sb (by rw[a1A];exact e1) C.hl))
  ·rw[if_neg (by simpa using e1)]
   by_cases e2:i+k=a.size
   ·rw[if_pos (by simpa using e2)];exact jM (l.dn _ _ _ (SG.refl _) (by rw[a4d];exact p.doneA C.sa C.sb (.inl (by rw[a1A];exact e2))))
   ·rw[if_neg (by simpa using e2)];exact b8H C e ⟨p,by omega,h⟩ f l (by omega)
 ·have:k=0:=by omega
  subst this;exact b8H C e ⟨R.w,I,h⟩ f l (by omega)
theorem c0L (C:MC M A E s κ k0 ajj a b) (hk:kindOf st=k0) (R:Rdy κ a b o i j) (H:G2 st κ a b n Q) (hn:n<=i+j):wpS M A E s (lo2 a b o i j g ac bc) Q st:=by
 unfold lo2
 split<;>exact c0K C hk R H hn
theorem b3S (C:MC M A E s κ k0 ajj a b):MW κ a.toList b.toList [b[0]'C.h1] 0 1:=by
 have c:=a09 C.h1;have e:MW κ a.toList b.toList [] 0 0:=⟨fg _,fg _,by simp,.nil,λx h=>by simp at h,λx h=>by simp at h⟩;exact e.pushB C.sb c λy d=>by rw[<- a1j (κ:=κ) C.h1];exact C.hf y (by simp_all)
theorem b13 (C:MC M A E s κ k0 ajj a b) (hk:kindOf st=k0)
  (h:∀ r st',SG st st'->Mgd κ a.toList b.toList r.toList->Q r st'):wpS M A E s (a5r a b) Q st:=by
 have h0:=C.h0;have h1:=C.h1;rw[a7Z];refine a6O ?_;refine jL (a0Z (getElem?_pos b 0 C.h1) ?_);have w0:=b3S C
 by_cases e1:1=b.size
 ·rw[if_pos (by simpa using e1)];exact jM (h _ _ (SG.refl _) (by rw[a4d];exact w0.doneA C.sa C.sb (.inr (by grind))))
 rw[if_neg (by simpa using e1)]
 by_cases e2:0+1=a.size
 ·rw[if_pos (by simpa using e2)];exact jM (h _ _ (SG.refl _) (by rw[a5s];exact w0.doneB C.sa C.sb (by rw[a1A];exact e2) C.hl))
 rw[if_neg (by simpa using e2)];refine jL (j9 ?_);have R0:Rdy κ a b #[b[0]] 0 1:=⟨w0,by omega,by omega⟩;refine jL (j6 (j1 (I:=λx c e=>∃ o i j g,c=(none,o,i,j,g)/\SG st e/\Rdy κ a b o i j/\x<i+j)
  (Q:=λc e=>∃ r F,c=(some r,F)/\SG st e/\Mgd κ a.toList b.toList r.toList) ?step ?fin ⟨_,_,_,_,rfl,SG.refl _,R0,by omega⟩) ?post)
 case post=>
  rintro c e ⟨r,F,rfl,H,m⟩;exact jM (h r e H m)
 case fin=>
  rintro c e ⟨o,i,j,g,rfl,H,R,hx⟩
  have:=R.hi
  have:=R.hj
  omega
 case step=>
  rintro x c e _ hx ⟨o,i,j,g,rfl,H,R,hxi⟩;dsimp only;have hk1:=H.kd.trans hk;refine jL (j6 (j1 (I:=λy c f=>∃ D l k J T,c=(none,D,l,k,J,T)/\f=e/\Rdy κ a b D l k/\i+j+y<=l+k)
   (Q:=λc f=>f=e/\((∃ r F,c=(some r,F)/\Mgd κ a.toList b.toList r.toList)\/∃ D l k J T,c=(none,D,l,k,J,T)/\Rdy κ a b D l k/\i+j<=l+k)) ?st1 ?fi1 ⟨_,_,_,_,_,rfl,rfl,R,by omega⟩) ?po1)
  case fi1=>
   rintro c f ⟨D,l,k,J,T,rfl,rfl,L,hy⟩
   have:=L.hi
   have:=L.hj
   omega
  case st1=>
   rintro y c f _ hy ⟨D,l,k,J,T,rfl,rfl,L,hyi⟩;dsimp only;refine c0J C hk1 L (λr c m=>⟨rfl,.inl ⟨r,c,rfl,m⟩⟩) (λo2 i2 j2 u v X V=>⟨rfl,.inr ⟨_,_,_,_,_,rfl,X,by omega⟩⟩) λo2 i2 j2 u v X V=>⟨_,_,_,_,_,rfl,rfl,X,by omega⟩
  case po1=>
   rintro c f ⟨rfl,⟨r,F,rfl,m⟩ | ⟨D,l,k,J,T,rfl,L,hij⟩⟩
   ·exact jM ⟨r,_,rfl,H,m⟩
   ·dsimp only;refine a6O ?_;refine jL (j6 (j1 (I:=λy c B=>∃ G q p S z t,c=(none,G,q,p,S,z,t)/\SG st B/\Rdy κ a b G q p/\l+k+y<=q+p)
     (Q:=λc B=>SG st B/\((∃ r F,c=(some r,F)/\Mgd κ a.toList b.toList r.toList)\/∃ G q p S z t,c=(none,G,q,p,S,z,t)/\Rdy κ a b G q p/\l+k<q+p)) ?f ?fi2 ⟨_,_,_,_,_,_,rfl,H,L,by omega⟩) ?po2)
    case fi2=>
     rintro c B ⟨G,q,p,S,z,t,rfl,d,N,hy⟩
     have:=N.hi
     have:=N.hj
     omega
    case f=>
     rintro y c B _ hy ⟨G,q,p,S,z,t,rfl,d,N,hyi⟩;dsimp only;refine c0L C (d.kd.trans hk) N ⟨λr c W U m=>⟨d.trans U,.inl ⟨r,c,rfl,m⟩⟩,λo4 i4 j4 u v w W U Y V=>⟨d.trans U,.inr ⟨_,_,_,_,_,_,rfl,Y,by omega⟩⟩,λo4 i4 j4 u v w W U Y V=>⟨_,_,_,_,_,_,rfl,d.trans U,Y,by omega⟩⟩ (eh _)
    case po2=>
     rintro c B ⟨d,⟨r,F,rfl,m⟩ | ⟨G,q,p,S,z,t,rfl,N,V⟩⟩
     ·exact jM ⟨r,_,rfl,d,m⟩
     ·dsimp only;refine jL (ke (jM ?_));exact⟨_,_,_,_,rfl,⟨d.kd,d.ar,d.pe,d.fl⟩,N,by omega⟩
end
noncomputable def a7h:Array Keyed->Array Keyed->SM (Array Keyed):=sortPriv% PySem.Builtin.mergeHi
abbrev hnA (a b o:Array Keyed) (u v:Nat):Array Keyed:=a.extract 0 u++b.extract 0 v++o.reverse
abbrev hnB (a b o:Array Keyed) (u v:Nat):Array Keyed:=b.extract 0 v++a.extract 0 u++o.reverse
abbrev H1:=Option (Array Keyed)×Nat×Nat×Array Keyed×Nat×Nat
abbrev H2:=Option (Array Keyed)×Nat×Nat×Array Keyed×Nat×Nat×Nat
noncomputable def hi1 (a b:Array Keyed) (g u v:Nat) (o:Array Keyed) (ac bc:Nat):SM (ForInStep H1):=do
 let y <- elem' b (v - 1)
 let x <- elem' a (u - 1)
 let r <- lt' y x
 match r with
 | some aw=>
  if aw=true then do
   let x <- elem' a (u - 1)
   if (u - 1==0)=true then pure (.done (some (hnA a b (o.push x) (u - 1) v),u - 1,v,o.push x,ac+1,0))
   else if ac+1>=g then pure (.done (none,u - 1,v,o.push x,ac+1,0)) else pure (.yield (none,u - 1,v,o.push x,ac+1,0))
  else do
   let y <- elem' b (v - 1)
   if (v - 1==1)=true then pure (.done (some (hnB a b (o.push y) u (v - 1)),u,v - 1,o.push y,0,bc+1))
   else if bc+1>=g then pure (.done (none,u,v - 1,o.push y,0,bc+1)) else pure (.yield (none,u,v - 1,o.push y,0,bc+1))
 | _=>pure (.done (some (hnA a b o u v),u,v,o,ac,bc))
noncomputable def hi5 (a b:Array Keyed) (u v:Nat) (o:Array Keyed) (g ac bc:Nat):SM (ForInStep H2):=do
 let x <- elem' a (u - 1)
 if (u - 1==0)=true then pure (.done (some (hnA a b (o.push x) (u - 1) v),u - 1,v,o.push x,g,ac,bc))
 else if (decide (ac<7)&&decide (bc<7))=true then pure (.done (none,u - 1,v,o.push x,g,ac,bc)) else pure (.yield (none,u - 1,v,o.push x,g,ac,bc))
noncomputable def hi4 (a b:Array Keyed) (u v:Nat) (o:Array Keyed) (g ac bc:Nat):SM (ForInStep H2):=do
 let y <- elem' b (v - 1)
 if (v - 1==1)=true then pure (.done (some (hnB a b (o.push y) u (v - 1)),u,v - 1,o.push y,g,ac,bc))
 else do
  let x <- elem' a (u - 1)
  let r <- a18 true x b 0 (v - 1) (v - 1 - 1)
  match r with
  | some p=>
   if v - 1 - p > 0 then
    if (p==1)=true then pure (.done (some (hnB a b (o.push y++(b.extract p (v - 1)).reverse) u p),u,p,o.push y++(b.extract p (v - 1)).reverse,g,ac,v - 1 - p))
    else if (p==0)=true then pure (.done (some (hnA a b (o.push y++(b.extract p (v - 1)).reverse) u p),u,p,o.push y++(b.extract p (v - 1)).reverse,g,ac,v - 1 - p))
    else hi5 a b u p (o.push y++(b.extract p (v - 1)).reverse) g ac (v - 1 - p)
   else hi5 a b u (v - 1) (o.push y) g ac (v - 1 - p)
  | _=>pure (.done (some (hnA a b (o.push y) u (v - 1)),u,v - 1,o.push y,g,ac,bc))
noncomputable def hi3 (a b:Array Keyed) (u v:Nat) (o:Array Keyed) (g ac bc:Nat):SM (ForInStep H2):=do
 a8T g
 let y <- elem' b (v - 1)
 let r <- a18 false y a 0 u (u - 1)
 match r with
 | some p=>
  if u - p > 0 then
   if (p==0)=true then pure (.done (some (hnA a b (o++(a.extract p u).reverse) p v),p,v,o++(a.extract p u).reverse,g,u - p,bc))
   else hi4 a b p v (o++(a.extract p u).reverse) g (u - p) bc
  else hi4 a b u v o g (u - p) bc
 | _=>pure (.done (some (hnA a b o u v),u,v,o,g,ac,bc))
noncomputable def hi2 (a b:Array Keyed) (u v:Nat) (o:Array Keyed) (g ac bc:Nat):SM (ForInStep H2):=
 if g > 1 then hi3 a b u v o (g - 1) ac bc else hi3 a b u v o g ac bc
theorem a70 (a b:Array Keyed):a7h a b=(do
  liftM (rule "list.sort.merge-hi")
  let x <- elem' a (a.size - 1)
  if (a.size - 1==0)=true then pure (hnA a b #[x] (a.size - 1) b.size)
  else if (b.size==1)=true then pure (hnB a b #[x] (a.size - 1) b.size)
  else do
   let st <- get
   let c <- forIn [0:a.size+b.size] ((none,a.size - 1,b.size,#[x],mt st):Option (Array Keyed)×Nat×Nat×Array Keyed×Nat) λ_ c=>do
    let c1 <- forIn [0:a.size+b.size] ((none,c.2.1,c.2.2.1,c.2.2.2.1,0,0):H1) λ_ c1=>hi1 a b c.2.2.2.2 c1.2.1 c1.2.2.1 c1.2.2.2.1 c1.2.2.2.2.1 c1.2.2.2.2.2
    match c1.1 with
    | some r=>pure (ForInStep.done (some r,c1.2.1,c1.2.2.1,c1.2.2.2.1,c.2.2.2.2))
    | none=>do
     liftM (rule "list.sort.gallop")
     let c2 <- forIn [0:a.size+b.size] ((none,c1.2.1,c1.2.2.1,c1.2.2.2.1,c.2.2.2.2+1,c1.2.2.2.2.1,c1.2.2.2.2.2):H2) λ_ c2=>hi2 a b c2.2.1 c2.2.2.1 c2.2.2.2.1 c2.2.2.2.2.1 c2.2.2.2.2.2.1 c2.2.2.2.2.2.2
     match c2.1 with
     | some r=>pure (ForInStep.done (some r,c2.2.1,c2.2.2.1,c2.2.2.2.1,c2.2.2.2.2.1))
     | none=>do
      a8T (c2.2.2.2.2.1+1)
      pure (ForInStep.yield (none,c2.2.1,c2.2.2.1,c2.2.2.2.1,c2.2.2.2.2.1+1))
   match c.1 with
   | some r=>pure r
   | none=>lN "internal:list.sort.merge-bound"):=by
 refine bind_congr λ_=>bind_congr λy=>?_;dsimp only
 congr 1
 congr 1
 refine bind_congr λi=>?_;refine bd2 ?_ λc=>?_
 ·congr 1
  funext x c
  obtain⟨r,u,v,o,g⟩:=c;dsimp only;refine bd2 ?_ λd=>?_
  ·congr 1
  ·obtain⟨r,u,v,o,h,f⟩:=d;cases r with
   | some r=>rfl
   | none=>
    refine bind_congr λ_=>?_;refine bd2 ?_ λe=>?_
    ·congr 1
    ·obtain⟨r,u,v,o,g,h,f⟩:=e;cases r<;>rfl
 ·obtain⟨r,u,v,o,g⟩:=c;cases r<;>rfl
section
variable {κ:KF}{A B o:List Keyed}{u v:Nat}{p:Keyed}
structure MH (κ:KF) (A B o:List Keyed) (u v:Nat):Prop where
 ia:u<=A.length
 jb:v<=B.length
 pm:(A.take u++B.take v++o.reverse).Perm (A++B)
 so:Srt κ o.reverse
 ba:∀ x∈o,∀ y∈A.take u,κ y<=κ x
 bb:∀ x∈o,∀ y∈B.take v,κ y<=κ x
theorem a8V {l:List Keyed}(h:l[n]?=some p):l.take (n+1)=l.take n++[p]:=by
 rw[fN,h];rfl
theorem a2x (h:Srt κ l) (n:Nat):Srt κ (l.take n):=fk.sublist (g6 n l) h
theorem a3p (h:Srt κ l) (e:l[n]?=some p):∀ y∈l.take (n+1),κ y<=κ p:=λy a=>by
 have b:=a2x h (n+1);rw[a8V e]at b a;rcases ei.mp a with a | a
 ·exact (eS.mp b).2.2 y a p (by simp)
 ·simp_all
theorem MH.pushA (W:MH κ A B o (u+1) v) (sa:Srt κ A) (hp:A[u]?=some p) (hb:∀ y∈B.take v,κ y<=κ p):MH κ A B (o++[p]) u v:=by
 have c:=a8V hp;have d:=(eL.mp hp).1;refine⟨by omega,W.jb,?_,?_,λx b y a=>?_,λx b y a=>?_⟩
 ·have:=W.pm
  rw[c]at this;refine fm.trans ?_ this;rw[fW,gi];simp;refine fm.append_left _ ?_;exact ji
 ·rw[fW,gi,ij];refine eW.mpr ⟨λx b=>?_,W.so⟩;exact W.ba x (by simpa using b) p (by rw[c];simp)
 ·rcases ei.mp b with h | h
  ·exact W.ba x h y (by simp_all)
  ·rw[et.mp h];exact a3p sa hp y (by simp_all)
 ·rcases ei.mp b with h | h
  ·exact W.bb x h y a
  ·simp_all
theorem MH.pushB (W:MH κ A B o u (v+1)) (sb:Srt κ B) (hp:B[v]?=some p) (hb:∀ y∈A.take u,κ y<=κ p):MH κ A B (o++[p]) u v:=by
 have c:=a8V hp;have d:=(eL.mp hp).1;refine⟨W.ia,by omega,?_,?_,λx b y a=>?_,λx b y a=>?_⟩
 ·have:=W.pm
  rw[c]at this;refine fm.trans ?_ this;rw[fW,gi];simp only[eT];exact fm.refl _
 ·rw[fW,gi,ij];refine eW.mpr ⟨λx b=>?_,W.so⟩;exact W.bb x (by simp_all) p (by simp_all)
 ·rcases ei.mp b with h | h
  ·exact W.ba x h y a
  ·rw[et.mp h];exact hb y a
 ·rcases ei.mp b with h | h
  ·exact W.bb x h y (by simp_all)
  ·rw[et.mp h];exact a3p sb hp y (by simp_all)
theorem MH.runA (sa:Srt κ A):∀ (k:Nat) {o:List Keyed},MH κ A B o (u+k) v->(∀ q z,u<=q->q<u+k->A[q]?=some z->∀ y∈B.take v,κ y<=κ z)->MH κ A B (o++((A.drop u).take k).reverse) u v
 | 0,o,W,_=>by simpa using W
 | k+1,o,W,hz=>by
  have a:u+k<A.length:=by have:=W.ia;omega
  have e:=eI a;have b:=MH.pushA W sa e (hz _ _ (by simp) (by simp) e);have d:=MH.runA sa k b λq z c f=>hz q z c (by omega);rw[take_snoc e,fW,gi,<- eT];exact d
theorem MH.runB (sb:Srt κ B):∀ (k:Nat) {o:List Keyed},MH κ A B o u (v+k)->(∀ q z,v<=q->q<v+k->B[q]?=some z->∀ y∈A.take u,κ y<=κ z)->MH κ A B (o++((B.drop v).take k).reverse) u v
 | 0,o,W,_=>by simpa using W
 | k+1,o,W,hz=>by
  have a:v+k<B.length:=by have:=W.jb;omega
  have e:=eI a;have b:=MH.pushB W sb e (hz _ _ (by simp) (by simp) e);have d:=MH.runB sb k b λq z c f=>hz q z c (by omega);rw[take_snoc e,fW,gi,<- eT];exact d
theorem MH.doneA (W:MH κ A B o u v) (sa:Srt κ A) (sb:Srt κ B) (h:u=0\/v=0):Mgd κ A B (A.take u++B.take v++o.reverse):=by
 refine⟨W.pm,?_⟩;refine eS.mpr ⟨eS.mpr ⟨a2x sa u,a2x sb v,λx b y c=>?_⟩,W.so,λx b y c=>?_⟩
 ·rcases h with rfl | rfl
  ·simp_all
  ·simp_all
 ·have a:y∈o:=by simpa using c
  rcases ei.mp b with h | h
  ·exact W.ba y a x h
  ·exact W.bb y a x h
theorem MH.doneB (W:MH κ A B o u 1) (sa:Srt κ A) (sb:Srt κ B) (hf:∀ z,B[0]?=some z->∀ y∈A,κ z<=κ y):Mgd κ A B (B.take 1++A.take u++o.reverse):=by
 refine⟨?_,?_⟩
 ·refine fm.trans ?_ W.pm;exact fm.append_right _ jj
 ·refine eS.mpr ⟨eS.mpr ⟨a2x sb 1,a2x sa u,λx a y c=>?_⟩,W.so,λx a y c=>?_⟩
  ·cases B with
   | nil=>simp at a
   | cons z B=>
    have:x=z:=by simpa using a
    subst this;exact hf x rfl y (fF c)
  ·have b:y∈o:=by simpa using c
   rcases ei.mp a with h | h
   ·exact W.bb y b x h
   ·exact W.ba y b x h
end
section
variable {κ:KF}{a b o:Array Keyed}{u v:Nat}
theorem a4f:(hnA a b o u v).toList=a.toList.take u++b.toList.take v++o.toList.reverse:=by
 simp
theorem a5t:(hnB a b o u v).toList=b.toList.take v++a.toList.take u++o.toList.reverse:=by
 simp
theorem a9B:(o++(a.extract p u).reverse).toList=o.toList++((a.toList.drop p).take (u - p)).reverse:=by
 simp[ig]
end
structure RdH (κ:KF) (a b o:Array Keyed) (u v:Nat):Prop where
 w:MH κ a.toList b.toList o.toList u v
 hu:1<=u
 hv:2<=v
section
variable {M:Model}{A:Around}{E:Value->Shared->Prop}{s:Shared}{κ:KF}{k0:kc}{ajj a b o:Array Keyed}{st:SortSt}{u v g ac bc:Nat}
theorem RdH.ua (R:RdH κ a b o u v):u<=a.size:=by have:=R.w.ia;rwa [a1A]at this
theorem RdH.vb (R:RdH κ a b o u v):v<=b.size:=by have:=R.w.jb;rwa [a1A]at this
theorem MC.first (C:MC M A E s κ k0 ajj a b):∀ z,b.toList[0]?=some z->∀ y∈a.toList,κ z<=κ y:=λz c y d=>by
 have:=C.hf y d
 rwa [a5P c]at this
theorem c0M (C:MC M A E s κ k0 ajj a b) (hk:kindOf st=k0) (R:RdH κ a b o (u+1) (v+1))
  (dn:∀ r c,Mgd κ a.toList b.toList r.toList->Q (.done (some r,c)) st)
  (br:∀ o' u' v' x y,RdH κ a b o' u' v'->u'+v'=u+v+1->Q (.done (none,u',v',o',x,y)) st)
  (go:∀ o' u' v' x y,RdH κ a b o' u' v'->u'+v'=u+v+1->Q (.yield (none,u',v',o',x,y)) st):wpS M A E s (hi1 a b g (u+1) (v+1) o ac bc) Q st:=by
 have q:=R.ua;have t:=R.vb;have m:=R.hu;have p:=R.hv;have l:b[v]?=some b[v]:=getElem?_pos ..;have n:a[u]?=some a[u]:=getElem?_pos ..;have j:=a09 (a:=b) (i:=v) (by omega);have k:=a09 (a:=a) (i:=u) (by omega);unfold hi1;simp only[iH];refine jL (a0Z l (jL (a0Z n (jL ?_))));refine C.L _ _ (C.hb _ (eP j)) (C.ha _ (eP k)) st _ hk ?_;dsimp only
 by_cases c:κ b[v]<κ a[u]
 ·rw[if_pos (decide_eq_true c)];refine jL (a0Z n ?_);have d:=R.w.pushA C.sa k λy h=>eY (a3p C.sb j y h) (fy c);rw[<- fz]at d
  by_cases e:u=0
  ·rw[if_pos (by simpa using e)];exact jM (dn _ _ (by rw[a4f];exact d.doneA C.sa C.sb (.inl e)))
  ·rw[if_neg (by simpa using e)];have f:RdH κ a b (o.push a[u]) u (v+1):=⟨d,by omega,p⟩
   split
   ·exact jM (br _ _ _ _ _ f (by omega))
   ·exact jM (go _ _ _ _ _ f (by omega))
 ·rw[if_neg (by simpa using c)];refine jL (a0Z l ?_);have d:=R.w.pushB C.sb j λy h=>eY (a3p C.sa k y h) (ii.mp c);rw[<- fz]at d
  by_cases e:v=1
  ·rw[if_pos (by simpa using e)];subst e;exact jM (dn _ _ (by rw[a5t];exact d.doneB C.sa C.sb C.first))
  ·rw[if_neg (by simpa using e)];have f:RdH κ a b (o.push b[v]) (u+1) v:=⟨d,m,by omega⟩
   split
   ·exact jM (br _ _ _ _ _ f (by omega))
   ·exact jM (go _ _ _ _ _ f (by omega))
structure HG (st:SortSt) (κ:KF) (a b:Array Keyed) (n:Nat) (Q:ForInStep H2->SortSt->Prop):Prop where
 dn:∀ r c st',SG st st'->Mgd κ a.toList b.toList r.toList->Q (.done (some r,c)) st'
 br:∀ o' u' v' x y z st',SG st st'->RdH κ a b o' u' v'->u'+v'<n->Q (.done (none,u',v',o',x,y,z)) st'
 go:∀ o' u' v' x y z st',SG st st'->RdH κ a b o' u' v'->u'+v'<n->Q (.yield (none,u',v',o',x,y,z)) st'
theorem b8I (C:MC M A E s κ k0 ajj a b) (R:RdH κ a b o (u+1) v) (hle:∀ y∈b.toList.take v,κ y<=Kk κ a u) (H:HG st κ a b n Q) (hn:u+v<n):wpS M A E s (hi5 a b (u+1) v o g ac bc) Q st:=by
 have k:=R.ua;have f:=R.hv;have j:a[u]?=some a[u]:=getElem?_pos ..;have h:=a09 (a:=a) (i:=u) (by omega);rw[a1j (show u<a.size by omega)]at hle;unfold hi5;simp only[iH];refine jL (a0Z j ?_);have c:=R.w.pushA C.sa h hle;rw[<- fz]at c
 by_cases e:u=0
 ·rw[if_pos (by simpa using e)];exact jM (H.dn _ _ _ (SG.refl _) (by rw[a4f];exact c.doneA C.sa C.sb (.inl e)))
 ·rw[if_neg (by simpa using e)];have d:RdH κ a b _ u v:=⟨c,by omega,f⟩
  split
  ·exact jM (H.br _ _ _ _ _ _ _ (SG.refl _) d (by omega))
  ·exact jM (H.go _ _ _ _ _ _ _ (SG.refl _) d (by omega))
theorem a3T {l:List Keyed}(h:y∈l.take n):∃ q,q<n/\l[q]?=some y:=by
 obtain⟨m,a⟩:=gz h;have b:=(eL.mp a).1;rw[iI]at a
 split at a
 ·exact⟨m,by omega,a⟩
 ·grind
theorem b8J (C:MC M A E s κ k0 ajj a b) (hk:kindOf st=k0) (R:RdH κ a b o (u+1) (v+1)) (hle:∀ y∈a.toList.take (u+1),κ y<=Kk κ b v) (H:HG st κ a b n Q) (hn:u+v<n):wpS M A E s (hi4 a b (u+1) (v+1) o g ac bc) Q st:=by
 have I:=R.ua;have G:=R.vb;have F:=R.hv;have B:b[v]?=some b[v]:=getElem?_pos ..;have x:=a09 (a:=b) (i:=v) (by omega);have t:a[u]?=some a[u]:=getElem?_pos ..;have r:=a09 (a:=a) (i:=u) (by omega);rw[a1j (show v<b.size by omega)]at hle;unfold hi4;simp only[iH];refine jL (a0Z B ?_);have d:=R.w.pushB C.sb x hle;rw[<- fz]at d
 by_cases e:v=1
 ·rw[if_pos (by simpa using e)];subst e;exact jM (H.dn _ _ _ (SG.refl _) (by rw[a5t];exact d.doneB C.sa C.sb C.first))
 ·rw[if_neg (by simpa using e)];refine jL (a0Z t (jL ?_));refine a3o C.L hk (C.ha _ (eP r)) C.hb (by omega) (by omega) (a4e C.sb (by omega)) λp D j h=>?_;dsimp only;simp only[ik]at j h;have c:∀ y∈b.toList.take p,κ y<=Kk κ a u:=λy k=>by
   obtain⟨q,m,l⟩:=a3T k
   have:=j q m
   rw[a5P l]at this;simp[bq]at this;rw[a1j (show u<a.size by omega)];omega
  split
  ·have f:=MH.runB C.sb (v - p) (by rw[show p+(v - p)=v by omega];exact d) λq z m J l y k=>by
    have:=h q m (by omega)
    rw[a5P l]at this;simp[bq]at this;exact eY (a3p C.sa r y k) this
   rw[<- a9B]at f
   by_cases e1:p=1
   ·rw[if_pos (by simpa using e1)];subst e1;exact jM (H.dn _ _ _ (SG.refl _) (by rw[a5t];exact f.doneB C.sa C.sb C.first))
   ·rw[if_neg (by simpa using e1)]
    by_cases e2:p=0
    ·rw[if_pos (by simpa using e2)];exact jM (H.dn _ _ _ (SG.refl _) (by rw[a4f];exact f.doneA C.sa C.sb (.inr e2)))
    ·rw[if_neg (by simpa using e2)];exact b8I C ⟨f,by omega,by omega⟩ c H (by omega)
  ·have:p=v:=by omega
   subst this;exact b8I C ⟨d,by omega,by omega⟩ c H (by omega)
theorem c0N (C:MC M A E s κ k0 ajj a b) (hk:kindOf st=k0) (R:RdH κ a b o (u+1) (v+1)) (H:HG st κ a b n Q) (hn:u+v<n):wpS M A E s (hi3 a b (u+1) (v+1) o g ac bc) Q st:=by
 have S:=R.ua;have N:=R.vb;have F:=R.hv;have I:b[v]?=some b[v]:=getElem?_pos ..;have D:=a09 (a:=b) (i:=v) (by omega);unfold hi3;rw[a7g];refine jL (ke ?_);have h:SG st (SortSt.mk' _ _ _ g _):=⟨rfl,rfl,rfl,rfl⟩;have e:kindOf (SortSt.mk' _ (arrOf st) (jS st) g (j8 st))=k0:=hk;generalize SortSt.mk' _ (arrOf st) (jS st) g (j8 st)=st1 at h e;have l:HG st1 κ a b n Q:=⟨λr c d g=>H.dn r c d (h.trans g),λ_ _ _ _ _ _ d g=>H.br _ _ _ _ _ _ d (h.trans g),λ_ _ _ _ _ _ d g=>H.go _ _ _ _ _ _ d (h.trans g)⟩;refine jL (a0Z I (jL ?_));refine a3o C.L e (C.hb _ (eP D)) C.ha (by omega) (by omega) (a4e C.sa (by omega)) λp J k j=>?_;dsimp only;simp at k j;have f:∀ y∈a.toList.take p,κ y<=Kk κ b v:=λy m=>by
  obtain⟨q,B,x⟩:=a3T m
  have:=k q B
  rw[a5P x]at this;simp[bq]at this;rw[a1j _];omega
 split
 ·have t:=MH.runA C.sa _ (by rw[show p+(u+1 - p)=u+1 by omega];exact R.w) λq z B T x y m=>by
   have:=j q B (by omega)
   rw[a5P x]at this;simp[bq]at this;exact eY (a3p C.sb D y m) (fy this)
  rw[<- a9B]at t
  by_cases e1:p=0
  ·rw[if_pos (by simpa using e1)];exact jM (l.dn _ _ _ (SG.refl _) (by rw[a4f];exact t.doneA C.sa C.sb (.inl e1)))
  ·rw[if_neg (by simpa using e1)];obtain⟨G,rfl⟩:∃ G,p=G+1:=⟨p - 1,by omega⟩;exact b8J C e ⟨t,by omega,F⟩ f l (by omega)
 ·have:p=u+1:=by omega
  subst this;exact b8J C e R f l (by omega)
theorem c0O (C:MC M A E s κ k0 ajj a b) (hk:kindOf st=k0) (R:RdH κ a b o (u+1) (v+1)) (H:HG st κ a b n Q) (hn:u+v<n):wpS M A E s (hi2 a b (u+1) (v+1) o g ac bc) Q st:=by
 unfold hi2
 split<;>exact c0N C hk R H hn
theorem b3T (C:MC M A E s κ k0 ajj a b):MH κ a.toList b.toList [a[a.size - 1]'(by have:=C.h0;omega)] (a.size - 1) b.size:=by
 have f:=C.h0;have c:=a09 (a:=a) (i:=a.size - 1) (by omega);have d:MH κ a.toList b.toList [] (a.size - 1+1) b.size:=⟨by rw[a1A];omega,by rw[a1A];omega,by rw[ft (by rw[a1A];omega),ft (by rw[a1A];omega)];simp,.nil,λx h=>by simp at h,λx h=>by simp at h⟩;exact d.pushA C.sa c λy e=>C.hl _ (by simp) y (fF e)
theorem b14 (C:MC M A E s κ k0 ajj a b) (hk:kindOf st=k0)
  (h:∀ r st',SG st st'->Mgd κ a.toList b.toList r.toList->Q r st'):wpS M A E s (a7h a b) Q st:=by
 have h0:=C.h0;have h1:=C.h1;rw[a70];refine a6O ?_;refine jL (a0Z (getElem?_pos a (a.size - 1) (by omega)) ?_);have V:=b3T C
 by_cases e1:a.size - 1=0
 ·rw[if_pos (by simpa using e1)];exact jM (h _ _ (SG.refl _) (by rw[a4f];exact V.doneA C.sa C.sb (.inl e1)))
 rw[if_neg (by simpa using e1)]
 by_cases e2:b.size=1
 ·rw[if_pos (by simpa using e2)];refine jM (h _ _ (SG.refl _) ?_);rw[e2]at V;rw[a5t,e2];exact V.doneB C.sa C.sb C.first
 rw[if_neg (by simpa using e2)];refine jL (j9 ?_);have R0:RdH κ a b #[a[a.size - 1]] (a.size - 1) b.size:=⟨V,by omega,by omega⟩;refine jL (j6 (j1 (I:=λx c e=>∃ o u v g,c=(none,u,v,o,g)/\SG st e/\RdH κ a b o u v/\x+(u+v)<a.size+b.size)
  (Q:=λc e=>∃ r G,c=(some r,G)/\SG st e/\Mgd κ a.toList b.toList r.toList) ?step ?fin ⟨_,_,_,_,rfl,SG.refl _,R0,by omega⟩) ?post)
 case post=>
  rintro c e ⟨r,G,rfl,L,m⟩;exact jM (h r e L m)
 case fin=>
  rintro c e ⟨o,u,v,g,rfl,L,R,hx⟩;omega
 case step=>
  rintro x c e _ hx ⟨o,u,v,g,rfl,L,R,hxi⟩;dsimp only;have hk1:kindOf e=k0:=L.kd.trans hk;refine jL (j6 (j1 (I:=λy c l=>∃ D f i S J,c=(none,f,i,D,S,J)/\l=e/\RdH κ a b D f i/\f+i+y<=u+v)
   (Q:=λc l=>l=e/\((∃ r G,c=(some r,G)/\Mgd κ a.toList b.toList r.toList)\/∃ D f i S J,c=(none,f,i,D,S,J)/\RdH κ a b D f i/\f+i<=u+v)) ?st1 ?fi1 ⟨_,_,_,_,_,rfl,rfl,R,by omega⟩) ?po1)
  case fi1=>
   rintro c l ⟨D,f,i,S,J,rfl,rfl,H,Y⟩;exact⟨rfl,.inr ⟨_,_,_,_,_,rfl,H,by omega⟩⟩
  case st1=>
   rintro y c l _ Y ⟨D,f,i,S,J,rfl,rfl,H,hyi⟩;dsimp only;have hu1:=H.hu;have hv1:=H.hv;obtain⟨f,rfl⟩:∃ z,f=z+1:=⟨f - 1,by omega⟩;obtain⟨i,rfl⟩:∃ z,i=z+1:=⟨i - 1,by omega⟩;refine c0M C hk1 H (λr c m=>⟨rfl,.inl ⟨r,c,rfl,m⟩⟩) (λo2 i2 j2 u v R2 U=>⟨rfl,.inr ⟨_,_,_,_,_,rfl,R2,by omega⟩⟩) λo2 i2 j2 u v R2 U=>⟨_,_,_,_,_,rfl,rfl,R2,by omega⟩
  case po1=>
   rintro c l ⟨rfl,⟨r,G,rfl,m⟩ | ⟨D,f,i,S,J,rfl,H,hij⟩⟩
   ·exact jM ⟨r,_,rfl,L,m⟩
   ·dsimp only;refine a6O ?_;refine jL (j6 (j1 (I:=λy c p=>∃ B k j N q t,c=(none,k,j,B,N,q,t)/\SG st p/\RdH κ a b B k j/\k+j+y<=f+i)
     (Q:=λc p=>SG st p/\((∃ r G,c=(some r,G)/\Mgd κ a.toList b.toList r.toList)\/∃ B k j N q t,c=(none,k,j,B,N,q,t)/\RdH κ a b B k j/\k+j<f+i)) ?l ?fi2 ⟨_,_,_,_,_,_,rfl,L,H,by omega⟩) ?po2)
    case fi2=>
     rintro c p ⟨B,k,j,N,q,t,rfl,d,F,Y⟩;exact⟨d,.inr ⟨_,_,_,_,_,_,rfl,F,by have:=F.hu;omega⟩⟩
    case l=>
     rintro y c p _ Y ⟨B,k,j,N,q,t,rfl,d,F,hyi⟩;dsimp only;have hu1:=F.hu;have hv1:=F.hv;obtain⟨k,rfl⟩:∃ z,k=z+1:=⟨k - 1,by omega⟩;obtain⟨j,rfl⟩:∃ z,j=z+1:=⟨j - 1,by omega⟩;refine c0O (n:=k+1+(j+1)) C (d.kd.trans hk) F ⟨λr c W T m=>⟨d.trans T,.inl ⟨r,c,rfl,m⟩⟩,λo4 i4 j4 u v w W T X U=>⟨d.trans T,.inr ⟨_,_,_,_,_,_,rfl,X,by omega⟩⟩,λo4 i4 j4 u v w W T X U=>⟨_,_,_,_,_,_,rfl,d.trans T,X,by omega⟩⟩ (by omega)
    case po2=>
     rintro c p ⟨d,⟨r,G,rfl,m⟩ | ⟨B,k,j,N,q,t,rfl,F,U⟩⟩
     ·exact jM ⟨r,_,rfl,d,m⟩
     ·dsimp only;rw[a7g];refine jL (ke (jM ?_));exact⟨_,_,_,_,rfl,⟨d.kd,d.ar,d.pe,d.fl⟩,F,by omega⟩
end
noncomputable def SR (κ:KF) (xs:Array Keyed) (lo n:Nat):Prop:=∀ i j,i<=j->j<n->Kk κ xs (lo+i)<=Kk κ xs (lo+j)
noncomputable def NR (κ:KF) (xs:Array Keyed) (lo n:Nat):Prop:=∀ i j,i<=j->j<n->Kk κ xs (lo+j)<=Kk κ xs (lo+i)
structure Ar (st st':SortSt) (lo:Nat):Prop where
 pm:(arrOf st').Perm (arrOf st)
 pre:∀ i,i<lo->(arrOf st')[i]?=(arrOf st)[i]?
 kd:kindOf st'=kindOf st
 pe:jS st'=jS st
 fl:j8 st'=j8 st
section
variable {M:Model}{A:Around}{E:Value->Shared->Prop}{s:Shared}{κ:KF}{k0:kc}{ajj:Array Keyed}{st st':SortSt}{lo:Nat}
theorem Ar.refl (st:SortSt) (lo:Nat):Ar st st lo:=⟨gQ.refl _,λ_ _=>rfl,rfl,rfl,rfl⟩
theorem Ar.trans (p:Ar x y lo) (q:Ar y z lo):Ar x z lo:=⟨q.pm.trans p.pm,λi h=>(q.pre i h).trans (p.pre i h),q.kd.trans p.kd,q.pe.trans p.pe,q.fl.trans p.fl⟩
theorem Ar.tb (q:Ar st st' lo) (B:TB k0 ajj st):TB k0 ajj st':=⟨q.pm.trans B.pm,q.kd.trans B.kd,q.fl.trans B.fl⟩
theorem b4X (hs:src<xs.size) (hd:d<=src) (k:Nat) :
  Kk κ (bubble xs src d) k=if k=src - d then Kk κ xs src else if src - d<k/\k<=src then Kk κ xs (k - 1) else Kk κ xs k:=by
 have q:=getElem?_bubble hs d hd k
 by_cases h1:k=src - d
 ·rw[if_pos h1]at q ⊢;exact a5O q
 ·rw[if_neg h1]at q ⊢
  by_cases h2:src - d<k/\k<=src
  ·rw[if_pos h2]at q ⊢;exact a5O q
  ·rw[if_neg h2]at q ⊢;exact a5O q
theorem Ar.bub (hs:src<(arrOf st).size) (hd:d<=src) (h:lo<=src - d):Ar st (setArr st (bubble (arrOf st) src d)) lo:=
 ⟨bubble_perm _ _ _,λi a=>by
  rw[getElem?_bubble hs d hd,if_neg (by omega),if_neg (by omega)],rfl,rfl,rfl⟩
theorem b15 (hj:j<=xs.size) (k:Nat):Kk κ (mirror xs i j ((j - i) / 2)) k=if i<=k/\k<j then Kk κ xs (i+j - 1 - k) else Kk κ xs k:=by
 have q:=getElem?_mirror_all (i:=i) hj k
 by_cases h1:i<=k/\k<j
 ·rw[if_pos h1]at q ⊢;exact a5O q
 ·rw[if_neg h1]at q ⊢;exact a5O q
theorem a5Q (hj:j<=xs.size) (hq:∀ k,i<=k->k<j->Kk κ xs k=Kk κ xs (j - 1)) (k:Nat):Kk κ (mirror xs i j ((j - i) / 2)) k=Kk κ xs k:=by
 rw[b15 hj]
 split
 ·grind
 ·rfl
theorem Ar.mir (hj:j<=(arrOf st).size) (h:lo<=i):Ar st (setArr st (mirror (arrOf st) i j ((j - i) / 2))) lo:=
 ⟨mirror_perm _ _ _ _,λk a=>by
  rw[getElem?_mirror_all hj,if_neg (by omega)],rfl,rfl,rfl⟩
theorem b3U (L:LtOk M A E s κ k0 ajj) (B:TB k0 ajj st) (hn:lo+n<=ajj.size) (hok:ok<=n) (hs:SR κ (arrOf st) lo ok)
  (h:∀ st',Ar st st' lo->SR κ (arrOf st') lo n->Q true st'):wpS M A E s (binarySort' lo n ok) Q st:=by
 rw[binarySort'_eq];refine jL (j6 (j1 (I:=λk c z=>c=(none,())/\Ar st z lo/\SR κ (arrOf z) lo (min k n)) (Q:=λc z=>c=(none,())/\Ar st z lo/\SR κ (arrOf z) lo n) ?step ?fin ?init) ?post)
 case post=>
  rintro c z ⟨rfl,r1,r2⟩;exact jM (h z r1 r2)
 case init=>
  refine⟨rfl,Ar.refl _ _,λi j hij hj=>?_⟩
  by_cases h1:ok=0
  ·have:i=j:=by omega
   rw[this];exact fi _
  ·exact hs i j hij (by omega)
 case fin=>
  rintro c z ⟨hc,r1,r2⟩;refine⟨hc,r1,?_⟩
  rwa [show min (max (max ok 1) n) n=n by omega]at r2
 case step=>
  rintro k c z hak hkn ⟨rfl,r1,r2⟩;rw[show min k n=k by omega]at r2;have B1:=r1.tb B;refine jL (j6 (j1 (I:=λx c y=>y=z/\∃ p q,c=(none,p,q)/\p<=q/\q<=k/\q - p<=k - x/\(∀ i,i<p->Kk κ (arrOf z) (lo+i)<=Kk κ (arrOf z) (lo+k))/\(∀ i,q<=i->i<k->Kk κ (arrOf z) (lo+k)<Kk κ (arrOf z) (lo+i)))
   (Q:=λc y=>y=z/\∃ p q,c=(none,p,q)/\p<=k/\(∀ i,i<p->Kk κ (arrOf z) (lo+i)<=Kk κ (arrOf z) (lo+k))/\(∀ i,p<=i->i<k->Kk κ (arrOf z) (lo+k)<Kk κ (arrOf z) (lo+i))) ?istep ?ifin ?iinit) ?ipost)
  case iinit=>exact⟨rfl,0,k,rfl,by omega,by omega,by omega,λi hi=>by omega,λi h1 h2=>by omega⟩
  case ifin=>
   rintro c y ⟨rfl,p,q,rfl,u1,u2,u3,u4,u5⟩
   have:p=q:=by omega
   subst this;exact⟨rfl,p,p,rfl,u2,u4,u5⟩
  case istep=>
   rintro x c y _ hxk ⟨rfl,p,q,rfl,u1,u2,u3,u4,u5⟩;dsimp only
   by_cases hge:p>=q
   ·rw[if_pos hge]
    have:p=q:=by omega
    subst this;exact jM ⟨rfl,p,p,rfl,u2,u4,u5⟩
   ·rw[if_neg hge];refine jL (a7Y L B1 (by omega) (by omega) ?_)
    by_cases hless:Kk κ (arrOf y) (lo+k)<Kk κ (arrOf y) (lo+(p+q) / 2)
    ·simp only[hless,decide_true,if_true];refine jM ⟨rfl,p,(p+q) / 2,rfl,by omega,by omega,by omega,u4,λi h1 h2=>?_⟩;exact Int.lt_of_lt_of_le hless (r2 _ _ h1 h2)
    ·simp only[hless,decide_false,gR,if_false];refine jM ⟨rfl,(p+q) / 2+1,q,rfl,by omega,by omega,by omega,λi h1=>?_,u5⟩;exact eY (r2 i ((p+q) / 2) (by omega) (by omega)) (ii.mp hless)
  case ipost=>
   rintro c y ⟨rfl,p,q,rfl,u2,u4,u5⟩
   show wpS _ _ _ _ (do moveDown' (lo+k) (lo+p);pure (ForInStep.yield (none,()))) _ _
   rw[moveDown'_eq];have hks:lo+k<(arrOf y).size:=by rw[B1.sz];omega
   refine jL (ke (jM ⟨rfl,r1.trans (Ar.bub hks (by omega) (by omega)),?_⟩));rw[show min (k+1) n=k+1 by omega];intro i j hij hj
   show Kk κ (bubble (arrOf y) (lo+k) (lo+k - (lo+p))) (lo+i)<=Kk κ (bubble (arrOf y) (lo+k) (lo+k - (lo+p))) (lo+j)
   rw[b4X hks (by omega),b4X hks (by omega),show lo+k - (lo+k - (lo+p))=lo+p by omega];have ek:∀ t,1<=t->lo+t - 1=lo+(t - 1):=λt ht=>by omega
   repeat' split
   all_goals first
    | (exfalso;omega)
    | exact fi _
    | exact u4 _ (by omega)
    | (rw[ek _ (by omega)];exact u4 _ (by omega))
    | exact fy (u5 _ (by omega) (by omega))
    | (rw[ek _ (by omega)];exact fy (u5 _ (by omega) (by omega)))
    | exact r2 _ _ (by omega) (by omega)
    | (rw[ek j (by omega)];exact r2 _ _ (by omega) (by omega))
    | (rw[ek i (by omega)];exact r2 _ _ (by omega) (by omega))
    | (rw[ek i (by omega),ek j (by omega)];exact r2 _ _ (by omega) (by omega))
end
abbrev U1:=Option (Option Nat)×Nat
abbrev U2:=Option (Option Nat)×Nat×Nat
noncomputable def rise (lo p nr:Nat):SM U1:=forIn [p:nr] ((none,p):U1) λ_ c=>do
 let x <- ltAt' (lo+c.2) (lo+c.2 - 1)
 match x with
 | some sm=>if sm=true then pure (.done (none,c.2)) else pure (.yield (none,c.2+1))
 | _=>pure (.done (some none,c.2))
noncomputable def fin3 (lo n nr:Nat):SM (Option Nat):=do
 kS lo (lo+n)
 let c <- rise lo n nr
 match c.1 with
 | some r=>pure r
 | none=>pure (some c.2)
noncomputable def fall (lo n nr:Nat):SM U2:=forIn [n:nr] ((none,n,0):U2) λ_ c=>do
 let x <- ltAt' (lo+c.2.1) (lo+c.2.1 - 1)
 match x with
 | some sm=>
  if sm=true then
   if c.2.2 > 0 then do
    kS (lo+c.2.1 - (c.2.2+1)) (lo+c.2.1)
    pure (.yield (none,c.2.1+1,0))
   else pure (.yield (none,c.2.1+1,0))
  else do
   let x <- ltAt' (lo+c.2.1 - 1) (lo+c.2.1)
   match x with
   | some lg=>if lg=true then pure (.done (none,c.2.1,c.2.2)) else pure (.yield (none,c.2.1+1,c.2.2+1))
   | _=>pure (.done (some none,c.2.1,c.2.2))
 | _=>pure (.done (some none,c.2.1,c.2.2))
noncomputable def part (lo n nr:Nat):SM (Option Nat):=do
 liftM (rule "list.sort.descending-run")
 let c <- fall lo (n+1) nr
 match c.1 with
 | some r=>pure r
 | none=>
  if c.2.2 > 0 then do
   kS (lo+c.2.1 - (c.2.2+1)) (lo+c.2.1)
   fin3 lo c.2.1 nr
  else fin3 lo c.2.1 nr
theorem a7i (lo nr:Nat):countRun' lo nr=(do
  let c <- rise lo 1 nr
  match c.1 with
  | some r=>pure r
  | none=>
   if (c.2==nr)=true then pure (some c.2)
   else if c.2 > 1 then do
    let x <- ltAt' lo (lo+c.2 - 1)
    match x with
    | some up=>if up=true then pure (some c.2) else do
      kS lo (lo+c.2)
      part lo c.2 nr
    | _=>pure none
   else part lo c.2 nr):=by
 have a:∀ n,(do
   kS lo (lo+n)
   let c <- rise lo n nr
   match c.1 with
   | some r=>pure r
   | none=>pure (some c.2))=fin3 lo n nr:=λn=>rfl
 rw[countRun'_eq];refine bd2 rfl λc=>?_;obtain⟨r,n⟩:=c;have b:∀ n,part lo n nr=part lo n nr:=λn=>rfl;cases r with
 | some r=>rfl
 | none=>
  dsimp only
  split
  ·rfl
  ·split
   ·refine bind_congr λx=>?_;cases x with
    | none=>rfl
    | some up=>
     dsimp only
     split
     ·rfl
     ·refine bind_congr λ_=>bind_congr λ_=>bd2 rfl λc=>?_;obtain⟨r,n,q⟩:=c;cases r with
      | some r=>rfl
      | none=>
       dsimp only
       split
       ·refine bind_congr λ_=>bind_congr λ_=>bd2 rfl λc=>?_;obtain⟨r,n⟩:=c;cases r<;>rfl
       ·refine bind_congr λ_=>bd2 rfl λc=>?_;obtain⟨r,n⟩:=c;cases r<;>rfl
   ·refine bind_congr λ_=>bd2 rfl λc=>?_;obtain⟨r,n,q⟩:=c;cases r with
    | some r=>rfl
    | none=>
     dsimp only
     split
     ·refine bind_congr λ_=>bind_congr λ_=>bd2 rfl λc=>?_;obtain⟨r,n⟩:=c;cases r<;>rfl
     ·refine bind_congr λ_=>bd2 rfl λc=>?_;obtain⟨r,n⟩:=c;cases r<;>rfl
section
variable {M:Model}{A:Around}{E:Value->Shared->Prop}{s:Shared}{κ:KF}{k0:kc}{ajj:Array Keyed}{st:SortSt}{lo nr:Nat}
theorem b3V {α:Type}{f:Unit->SM α}{Q:α->SortSt->Prop}(h:wpS M A E s (f ()) Q (setArr st (mirror (arrOf st) i j ((j - i) / 2)))):wpS M A E s (kS i j >>= f) Q st:=jL (ke h)
theorem SR.one:SR κ xs lo 1:=by grind [SR]
theorem SR.snoc (h:SR κ xs lo n) (h1:1<=n) (c:Kk κ xs (lo+n - 1)<=Kk κ xs (lo+n)):SR κ xs lo (n+1):=λi j a b=>by
 by_cases hjn:j<n
 ·exact h i j a hjn
 ·have e:j=n:=by omega
  subst e
  by_cases e2:i=j
  ·rw[e2];exact fi _
  ·refine eY (h i (j - 1) (by omega) (by omega)) ?_;rw[show lo+(j - 1)=lo+j - 1 by omega];exact c
theorem NR.snoc (h:NR κ xs lo n) (h1:1<=n) (c:Kk κ xs (lo+n)<=Kk κ xs (lo+n - 1)):NR κ xs lo (n+1):=λi j a b=>by
 by_cases hjn:j<n
 ·exact h i j a hjn
 ·have e:j=n:=by omega
  subst e
  by_cases e2:i=j
  ·simp_all
  ·refine eY ?_ (h i (j - 1) (by omega) (by omega));rw[show lo+(j - 1)=lo+j - 1 by omega];exact c
theorem NR.congr (h:NR κ xs lo n) (e:∀ k,Kk κ ys k=Kk κ xs k):NR κ ys lo n:=λi j b a=>by rw[e,e];exact h i j b a
theorem b4Y (L:LtOk M A E s κ k0 ajj) (B:TB k0 ajj st) (hn:lo+nr<=ajj.size) (hp:1<=p) (hpn:p<=nr) (hs:SR κ (arrOf st) lo p)
  (h:∀ n,p<=n->n<=nr->SR κ (arrOf st) lo n->(n=nr\/Kk κ (arrOf st) (lo+n)<Kk κ (arrOf st) (lo+n - 1))->Q (none,n) st):wpS M A E s (rise lo p nr) Q st:=by
 refine j1 (I:=λx c z=>z=st/\c=(none,x)/\SR κ _ lo x) ?step ?fin ⟨rfl,rfl,hs⟩
 case fin=>
  rintro c z ⟨rfl,rfl,a⟩;rw[show max p nr=nr by omega]at a ⊢;exact h nr hpn (eh _) a (.inl rfl)
 case step=>
  rintro x c z b d ⟨rfl,rfl,a⟩;refine jL (a7Y L B (by omega) (by omega) ?_)
  by_cases q:Kk κ (arrOf z) (lo+x)<Kk κ (arrOf z) (lo+x - 1)
  ·simp only[q];exact jM (h x b (by omega) a (.inr q))
  ·simp only[q];exact jM ⟨rfl,rfl,a.snoc (by omega) (ii.mp q)⟩
theorem b4Z (L:LtOk M A E s κ k0 ajj) (B:TB k0 ajj st) (hn:lo+nr<=ajj.size) (h1:1<=n) (hnn:n<=nr) (hs:NR κ (arrOf st) lo n)
  (h:∀ m z,Ar st z lo->1<=m->m<=nr->SR κ (arrOf z) lo m->Q (some m) z):wpS M A E s (fin3 lo n nr) Q st:=by
 have a:lo+n<=(arrOf st).size:=by rw[B.sz];omega
 refine b3V ?_;have b:Ar st _ lo:=Ar.mir a (eh _);refine jL (b4Y L (b.tb B) hn h1 hnn ?_ λm g d c _=>jM (h m _ b (by omega) d c));intro i j e f;rw[b15 a,b15 a,if_pos (by omega),if_pos (by omega),show lo+_ - 1 - _=lo+(n - 1 - i) by omega,show lo+_ - 1 - _=lo+(n - 1 - j) by omega];exact hs _ _ (by omega) (by omega)
theorem b8K (L:LtOk M A E s κ k0 ajj) (B:TB k0 ajj st) (hn:lo+nr<=ajj.size) (h1:1<=n) (hnn:n<=nr) (hs:NR κ (arrOf st) lo n)
  (h:∀ m e z,Ar st z lo->n<=m->m<=nr->NR κ (arrOf z) lo m->e+1<=m->(∀ i,lo+m - (e+1)<=i->i<lo+m->Kk κ (arrOf z) i=Kk κ (arrOf z) (lo+m - 1))->Q (none,m,e) z):wpS M A E s (fall lo n nr) Q st:=by
 unfold fall;refine j1 (I:=λx c z=>∃ e,c=(none,x,e)/\Ar st z lo/\NR κ (arrOf z) lo x/\e+1<=x/\(∀ i,lo+x - (e+1)<=i->i<lo+x->Kk κ (arrOf z) i=Kk κ (arrOf z) (lo+x - 1))) ?step ?fin ⟨0,rfl,Ar.refl _ _,hs,by omega,λi l a=>by congr 1;omega⟩
 case fin=>
  rintro c z ⟨e,rfl,b,a,f,d⟩;rw[show max n nr=nr by omega]at a f d ⊢;exact h nr e z b hnn (eh _) a f d
 case step=>
  rintro x c z p r ⟨e,rfl,b,a,f,d⟩;dsimp only;have k:=b.tb B;have j:lo+x<=(arrOf z).size:=by rw[k.sz];omega
  refine jL (a7Y L k (by omega) (by omega) ?_)
  by_cases q:Kk κ (arrOf z) (lo+x)<Kk κ (arrOf z) (lo+x - 1)
  ·simp only[q,decide_true,if_true];have o:=a.snoc (by omega) (fy q)
   by_cases g:e > 0
   ·rw[if_pos g];exact b3V (jM ⟨0,rfl,b.trans (Ar.mir j (by omega)),o.congr (a5Q j d),by omega,λi l a=>by congr 1;omega⟩)
   ·rw[if_neg g];exact jM ⟨0,rfl,b,o,by omega,λi l a=>by congr 1;omega⟩
  ·simp only[q,decide_false,if_false];refine jL (a7Y L k (by omega) (by omega) ?_)
   by_cases q2:Kk κ (arrOf z) (lo+x - 1)<Kk κ (arrOf z) (lo+x)
   ·simp only[q2,decide_true,if_true];exact jM (h x e z b p (by omega) a f d)
   ·simp only[q2,decide_false,if_false];have g:Kk κ (arrOf z) (lo+x)=Kk κ (arrOf z) (lo+x - 1):=by omega
    refine jM ⟨e+1,rfl,b,a.snoc (by omega) (by omega),by omega,λi l a=>?_⟩;rw[show lo+(x+1) - 1=lo+x by omega]
    by_cases hix:i=lo+x
    ·rw[hix]
    ·grind
theorem b40 (L:LtOk M A E s κ k0 ajj) (B:TB k0 ajj st) (hn:lo+nr<=ajj.size) (hnn:n+1<=nr) (hs:NR κ (arrOf st) lo (n+1))
  (h:∀ m z,Ar st z lo->1<=m->m<=nr->SR κ (arrOf z) lo m->Q (some m) z):wpS M A E s (part lo n nr) Q st:=by
 refine a6O ?_;refine jL (b8K L B hn (by simp) hnn hs λm e z c l i g o j=>?_);dsimp only;have f:=c.tb B;have a:lo+m<=(arrOf z).size:=by rw[f.sz];omega
 by_cases he:e > 0
 ·rw[if_pos he];have d:Ar st (setArr z (mirror (arrOf z) (lo+m - (e+1)) _ _)) lo:=c.trans (Ar.mir a (by omega));exact b3V (b4Z L (d.tb B) hn (by omega) i (g.congr (a5Q a j)) λk w b=>h k w (d.trans b))
 ·rw[if_neg he];exact b4Z L f hn (by omega) i g λk w b=>h k w (c.trans b)
theorem b6j (L:LtOk M A E s κ k0 ajj) (B:TB k0 ajj st) (hn:lo+nr<=ajj.size) (h1:1<=nr)
  (h:∀ m z,Ar st z lo->1<=m->m<=nr->SR κ (arrOf z) lo m->Q (some m) z):wpS M A E s (countRun' lo nr) Q st:=by
 rw[a7i];refine jL (b4Y L B hn (eh 1) h1 SR.one λn e l b t=>?_);dsimp only
 by_cases hnn:n=nr
 ·rw[if_pos (by simpa using hnn)];exact jM (h n st (Ar.refl _ _) e l b)
 ·rw[if_neg (by simpa using hnn)];have d:=t.resolve_left hnn;have c:lo+n<=(arrOf st).size:=by rw[B.sz];omega
  by_cases hgt:n > 1
  ·rw[if_pos hgt];refine jL (a7Y L B (by omega) (by omega) ?_)
   by_cases q:Kk κ (arrOf st) lo<Kk κ (arrOf st) (lo+n - 1)
   ·simp only[q,decide_true,if_true];exact jM (h n st (Ar.refl _ _) e l b)
   ·simp only[q,if_false];have a:∀ k,lo<=k->k<lo+n->Kk κ (arrOf st) k=Kk κ (arrOf st) (lo+n - 1):=λk y x=>by
     have g:=b 0 (k - lo) (by omega) (by omega);have f:=b (k - lo) (n - 1) (by omega) (by omega);rw[show lo+(k - lo)=k by omega]at g f;rw[show lo+(n - 1)=lo+n - 1 by omega]at f;rw[iJ]at g;omega
    have o:Ar st _ lo:=Ar.mir c (eh _);have u:NR κ (arrOf st) lo (n+1):=by
     refine NR.snoc (λi j p r=>?_) (by omega) (fy d);rw[a (lo+i) (by omega) (by omega),a (lo+j) (by omega) (by omega)];exact fi _
    exact b3V (b40 L (o.tb B) hn (by omega) (u.congr (a5Q c a)) λk w v=>h k w (o.trans v))
  ·rw[if_neg hgt]
   have:n=1:=by omega
   subst this;refine b40 L B hn (by omega) ?_ h;refine NR.snoc (λi j p r=>?_) (by omega) (fy d)
   have:i=j:=by omega
   rw[this];exact fi _
end
theorem a8W (i:Nat):mv i=(do
 let z <- get
 let (some (p,n,w),some (q,m,_)):=((jS z)[i]?,(jS z)[i+1]?) | lN "internal:list.sort.pending"
 set (lu z (((jS z).setIfInBounds i (p,n+m,w)).eraseIdxIfInBounds (i+1)))
 let some k <- a18 false (<- elem' (arrOf z) q) (arrOf z) p n 0 | return false
 let (p,n):=(p+k,n - k)
 if n==0 then return true
 let some m <- a18 true (<- elem' (arrOf z) (p+n - 1)) (arrOf z) q m (m - 1) | return false
 if m==0 then return true
 let x:=(arrOf z).extract p q
 let y:=(arrOf z).extract q (q+m)
 let mg <- if n<=m then a5r x y else a7h x y
 modify λz=>setArr z (mg.toList.zipIdx.foldl (λa (v,j)=>a.setIfInBounds (p+j) v) (arrOf z))
 return (j8 (<- get)).isNone):=rfl
theorem a9C (bs:Nat):∀ (l:List Keyed) (k:Nat) (xs:Array Keyed),bs+k+l.length<=xs.size ->
  ((l.zipIdx k).foldl (λa (pj:Keyed×Nat)=>a.setIfInBounds (bs+pj.2) pj.1) xs).toList=xs.toList.take (bs+k)++(l++xs.toList.drop (bs+k+l.length))
 | [],k,xs,_=>by simp
 | x::l,k,xs,h=>by
  rw[eu]at h;rw[List.zipIdx_cons,jd,a9C bs l _ _ (by grind)];have e:(xs.setIfInBounds (bs+k) x).toList=xs.toList.set (bs+k) x:=by simp
  rw[e,show bs+_=bs+k+1 by omega,List.drop_set_of_lt (by omega),eu,show bs+k+1+l.length=bs+k+(l.length+1) by omega]
  have:(xs.toList.set (bs+k) x).take (bs+k+1)=xs.toList.take (bs+k)++[x]:=by
   rw[fN,List.take_set_of_le (eh _),iA (by grind)]
   rfl
  rw[this];simp
section
variable {M:Model}{A:Around}{E:Value->Shared->Prop}{s:Shared}{κ:KF}{k0:kc}{ajj:Array Keyed}{st:SortSt}
theorem c0P (h:Q ⟨⟩ z):wpS M A E s (set z:SM PUnit) Q st:=jR ⟨rfl,h⟩
theorem b41 (e:xs.toList=P++(X++R)) (hi:i<X.length):Kk κ xs (P.length+i)=κ X[i]:=by
 refine a5P ?_;rw[e,gI (by simp),gJ (by omega),show P.length+i - P.length=i by omega];exact eI hi
theorem a4g (h:Srt κ X) (hij:i<=j) (hj:j<X.length):κ (X[i]'(by omega))<=κ X[j]:=by
 by_cases e:i=j
 ·subst e;exact fi _
 ·exact gy.mp h i j (by omega) hj (by omega)
theorem a9D {X:List Keyed}(h:x∈X):∃ i,∃ (hi:i<X.length),X[i]=x:=List.mem_iff_getElem.mp h
theorem a71 {X:List Keyed}(h:x∈X.take k):∃ i,∃ (hi:i<X.length),i<k/\X[i]=x:=by
 obtain⟨q,a,d⟩:=a3T h;obtain⟨b,c⟩:=eL.mp d;exact⟨q,b,a,c⟩
theorem a9E {X:List Keyed}(h:x∈X.drop k):∃ i,∃ (hi:i<X.length),k<=i/\X[i]=x:=by
 obtain⟨q,b,e,d⟩:=a3S h;obtain⟨c,a⟩:=eL.mp d;exact⟨q,c,b,a⟩
theorem b16 (L:LtOk M A E s κ k0 ajj) (B:TB k0 ajj st) (e1:(jS st)[i]?=some (sa,na,pw)) (e2:(jS st)[i+1]?=some (sb,nb,pw2))
  (ea:(arrOf st).toList=P++(X++(Y++S))) (hP:P.length=sa) (hX:X.length=na) (hsb:sb=sa+na) (hY:Y.length=nb) (sX:Srt κ X) (sY:Srt κ Y) (h1:0<na) (h2:0<nb)
  (h:∀ st' Z,TB k0 ajj st'->(arrOf st').toList=P++(Z++S)->Z.length=na+nb->Srt κ Z->jS st'=((jS st).setIfInBounds i (sa,na+nb,pw)).eraseIdxIfInBounds (i+1)->Q true st'):wpS M A E s (mv i) Q st:=by
 have hsz:(arrOf st).size=sa+na+nb+S.length:=by
  rw[<- a1A,ea];simp;omega
 have hmem:∀ p∈(arrOf st).toList,p∈ajj.toList:=λp hp=>(h7.mp B.pm).mem_iff.mp hp;have eb:(arrOf st).toList=(P++X)++(Y++S):=by rw[ea,eT]
 have kX:∀ i,(hi:i<X.length)->Kk κ (arrOf st) (sa+i)=κ X[i]:=λi hi=>by rw[<- hP];exact b41 ea hi
 have kY:∀ i,(hi:i<Y.length)->Kk κ (arrOf st) (sb+i)=κ Y[i]:=λi hi=>by
  rw[hsb,<- hP,<- hX,<- eB];exact b41 eb hi
 rw[a8W];refine jL (j9 ?_);rw[e1,e2];dsimp only;refine jL (c0P ?_);have B1:TB k0 ajj (lu st (((jS st).setIfInBounds i (sa,na+nb,pw)).eraseIdxIfInBounds (i+1))):=⟨B.pm,B.kd,B.fl⟩;have hs1:arrOf (lu st (((jS st).setIfInBounds i (sa,na+nb,pw)).eraseIdxIfInBounds (i+1)))=arrOf st:=rfl;have hp1:jS (lu st (((jS st).setIfInBounds i (sa,na+nb,pw)).eraseIdxIfInBounds (i+1)))=((jS st).setIfInBounds i (sa,na+nb,pw)).eraseIdxIfInBounds (i+1):=rfl;generalize lu st (((jS st).setIfInBounds i (sa,na+nb,pw)).eraseIdxIfInBounds (i+1))=st1 at B1 hs1 hp1;have hy0:sb<(arrOf st).size:=by omega
 have ey:(arrOf st)[sb]?=some (arrOf st)[sb]:=getElem?_pos ..;have hky:κ (arrOf st)[sb]=κ Y[0]:=by
  have:=kY 0 (by omega)
  rw[iJ,a8S ey]at this;exact this
 have hmy:(arrOf st)[sb]∈ajj.toList:=hmem _ (by simp);refine jL (a0Z ey (jL ?_));refine a3o L B1.kd hmy hmem (by omega) (by omega) (λp q hp hq=>by rw[kX p (by omega),kX q (by omega)];exact a4g sX hp (by omega)) λk hkn hlt hge=>?_;dsimp only;have lo:∀ q,(hq:q<X.length)->q<k->κ X[q]<=κ Y[0]:=λq hq hqk=>by
  have:=hlt q hqk
  rw[kX q hq,hky]at this;simpa[bq]using this
 have up:∀ q,(hq:q<X.length)->k<=q->κ Y[0]<κ X[q]:=λq hq hqk=>by
  have:=hge q hqk (by omega)
  rw[kX q hq,hky]at this;simpa[bq]using this
 have whole:(∀ x∈X,∀ y∈Y,κ x<=κ y)->Q true st1:=λhxy=>by
  refine h st1 (X++Y) B1 (by rw[hs1,ea,eT]) (by rw[eB,hX,hY]) ?_ hp1;exact eS.mpr ⟨sX,sY,hxy⟩
 by_cases c1:na - k=0
 ·rw[if_pos (by simpa using c1)];refine jM (whole λx hx y hy=>?_);obtain⟨q,hq,rfl⟩:=a9D hx;obtain⟨r,hr,rfl⟩:=a9D hy;exact eY (lo q hq (by omega)) (a4g sY (fg _) hr)
 rw[if_neg (by simpa using c1)];have hl:sa+k+(na - k) - 1<(arrOf st).size:=by omega
 have ex:(arrOf st)[sa+k+(na - k) - 1]?=some (arrOf st)[sa+k+(na - k) - 1]:=getElem?_pos ..;have hkx:κ (arrOf st)[sa+k+(na - k) - 1]=κ X[na - 1]:=by
  have:=kX (na - 1) (by omega)
  rw[show sa+(na - 1)=sa+k+(na - k) - 1 by omega,a8S ex]at this;exact this
 have hmx:(arrOf st)[sa+k+(na - k) - 1]∈ajj.toList:=hmem _ (by simp);refine jL (a0Z ex (jL ?_));refine a3o L B1.kd hmx hmem (by omega) (by omega) (λp q hp hq=>by rw[kY p (by omega),kY q (by omega)];exact a4g sY hp (by omega)) λm hmn hlt2 hge2=>?_;dsimp only;have lo2:∀ q,(hq:q<Y.length)->q<m->κ Y[q]<κ X[na - 1]:=λq hq hqk=>by
  have:=hlt2 q hqk
  rw[kY q hq,hkx]at this;simpa[bq]using this
 have up2:∀ q,(hq:q<Y.length)->m<=q->κ X[na - 1]<=κ Y[q]:=λq hq hqk=>by
  have:=hge2 q hqk (by omega)
  rw[kY q hq,hkx]at this;simpa[bq]using this
 by_cases c2:m=0
 ·rw[if_pos (by simpa using c2)];refine jM (whole λx hx y hy=>?_);obtain⟨q,hq,rfl⟩:=a9D hx;obtain⟨r,hr,rfl⟩:=a9D hy;exact eY (a4g sX (by omega) (by omega)) (up2 r hr (by omega))
 rw[if_neg (by simpa using c2)];have lx:((arrOf st).extract (sa+k) sb).toList=X.drop k:=by
  rw[jk,ig,ea,iK,<- hP,ic (by omega),gc,show P.length+k - P.length=k by omega,jl (by omega),gj (by rw[fC];omega),ft (by rw[fC];omega)]
 have ly:((arrOf st).extract sb (sb+m)).toList=Y.take m:=by
  rw[jk,ig,eb,iK,ic (by rw[eB];omega),gc,show sb - (P++X).length=0 by rw[eB];omega,List.drop_zero,gj (by omega),show sb+m - sb=m by omega]
 have C:MC M A E s κ k0 ajj ((arrOf st).extract (sa+k) sb) ((arrOf st).extract sb (sb+m)):=by
  refine⟨L,λp hp=>?_,λp hp=>?_,?_,?_,?_,?_,λy hy=>?_,λz hz y hy=>?_⟩
  ·rw[lx]at hp;exact hmem p (by rw[ea];simp[ie hp])
  ·rw[ly]at hp;exact hmem p (by rw[ea];simp[fF hp])
  ·rw[lx];exact a1H sX k
  ·rw[ly];exact a2x sY m
  ·rw[<- a1A,lx,fC];omega
  ·rw[<- a1A,ly,eK];omega
  ·rw[lx]at hy;obtain⟨q,hq,hk,rfl⟩:=a9E hy;rw[a5P (z:=Y[0]) (by rw[ly,iI,if_pos (by omega)];exact eI _)];exact fy (up q hq hk)
  ·rw[ly]at hy;rw[lx,fC,iG,show k+(X.length - k - 1)=na - 1 by omega,eI (show na - 1<X.length by omega)]at hz;cases hz;obtain⟨q,hq,hk,rfl⟩:=a71 hy;exact fy (lo2 q hq hk)
 have fin:∀ (r:Array Keyed) (st2:SortSt),SG st1 st2->Mgd κ ((arrOf st).extract (sa+k) sb).toList ((arrOf st).extract sb (sb+m)).toList r.toList ->
   wpS M A E s (do
    modify λz=>setArr z (r.toList.zipIdx.foldl (λa (pj:Keyed×Nat)=>a.setIfInBounds (sa+k+pj.2) pj.1) (arrOf z))
    return (j8 (<- get)).isNone) Q st2:=by
  intro r st2 g2 mg;rw[lx,ly]at mg;have hrl:r.toList.length=na - k+m:=by rw[mg.1.length_eq,eB,fC,eK];omega
  refine jL (ke (jL (j9 (jM ?_))));have ha2:arrOf st2=arrOf st:=g2.ar.trans hs1;have ef:=a9C (sa+k) r.toList 0 (arrOf st2) (by rw[ha2];omega);have el:(r.toList.zipIdx.foldl (λa (pj:Keyed×Nat)=>a.setIfInBounds (sa+k+pj.2) pj.1) (arrOf st2)).toList=P++((X.take k++r.toList++Y.drop m)++S):=by
   rw[ef,ha2,iJ,hrl];have t1:(arrOf st).toList.take (sa+k)=P++X.take k:=by
    rw[ea,List.take_append,ft (by omega),<- hP,show P.length+k - P.length=k by omega,gj (by omega)]
   have t2:(arrOf st).toList.drop (sa+k+(na - k+m))=Y.drop m++S:=by
    rw[eb,iK,ic (by rw[eB];omega),gc,show sa+k+(na - k+m) - (P++X).length=m by rw[eB];omega,jl (by omega)]
   rw[t1,t2];simp
  generalize hgz:r.toList.zipIdx.foldl (λa (pj:Keyed×Nat)=>a.setIfInBounds (sa+k+pj.2) pj.1) (arrOf st2)=ar at el;have hperm:(X.take k++r.toList++Y.drop m).Perm (X++Y):=by
   have:(X.take k++r.toList++Y.drop m).Perm (X.take k++(X.drop k++Y.take m)++Y.drop m):=(fm.append_left _ mg.1).append_right _
   refine this.trans ?_;have e:X.take k++(X.drop k++Y.take m)++Y.drop m=X++Y:=by
    rw[<- eT,gS,eT,gS]
   rw[e]
  have pm:ar.Perm (arrOf st):=by
   rw[h7,el,ea];refine fm.append_left _ ?_;rw[<- eT (as:=X)];exact hperm.append_right _
  have hfl:j8 (setArr st2 ar)=none:=g2.fl.trans B1.fl;have B2:TB k0 ajj (setArr st2 ar):=⟨pm.trans B.pm,g2.kd.trans B1.kd,hfl⟩;rw[hfl];refine h _ _ B2 el (by rw[hperm.length_eq,eB,hX,hY]) ?_ (g2.pe.trans hp1);have hr:∀ w∈r.toList,w∈X.drop k\/w∈Y.take m:=λw hw=>ei.mp (mg.1.mem_iff.mp hw);refine eS.mpr ⟨eS.mpr ⟨a2x sX k,mg.2,λx hx w hw=>?_⟩,a1H sY m,λx hx y hy=>?_⟩
  ·obtain⟨q,hq,hk,rfl⟩:=a71 hx;rcases hr w hw with hw | hw
   ·obtain⟨p,hp,hk2,rfl⟩:=a9E hw;exact a4g sX (by omega) hp
   ·obtain⟨p,hp,hk2,rfl⟩:=a71 hw;exact eY (lo q hq hk) (a4g sY (fg _) hp)
  ·obtain⟨p,hp,hk2,rfl⟩:=a9E hy;rcases ei.mp hx with hx | hx
   ·obtain⟨q,hq,hk,rfl⟩:=a71 hx;exact eY (lo q hq hk) (a4g sY (fg _) hp)
   ·rcases hr x hx with hx | hx
    ·obtain⟨q,hq,hk,rfl⟩:=a9E hx;exact eY (a4g sX (by omega) (by omega)) (up2 p hp hk2)
    ·obtain⟨q,hq,hk,rfl⟩:=a71 hx;exact a4g sY (by omega) hp
 split
 ·exact jL (b13 C B1.kd λr st2 g2 mg=>fin r st2 g2 mg)
 ·exact jL (b14 C B1.kd λr st2 g2 mg=>fin r st2 g2 mg)
end
noncomputable def pr (p:Nat×Nat×Nat):Nat×Nat:=(p.1,p.2.1)
noncomputable def offs:Nat->List (List Keyed)->List (Nat×Nat)
 | _,[]=>[]
 | o,R::Rs=>(o,R.length)::offs (o+R.length) Rs
theorem a2y:∀ (o:Nat) (U V:List (List Keyed)),offs o (U++V)=offs o U++offs (o+U.flatten.length) V
 | o,[],V=>by simp[offs]
 | o,R::U,V=>by
  rw[gT,offs,offs,a2y,gT,gL,eB,jm]
theorem a1M:∀ (o:Nat) (U:List (List Keyed)),(offs o U).length=U.length
 | _,[]=>rfl
 | o,R::U=>by rw[offs,eu,eu,a1M]
theorem a72 {α:Type}{q p1 p2:α}{pv:List α}:∀ pu:List α,((pu++p1::p2::pv).set pu.length q).eraseIdx (pu.length+1)=pu++q::pv
 | []=>rfl
 | x::pu=>by rw[gT,eu,List.set_cons_succ,iM,a72 pu,gT]
theorem a73 {α β:Type}{f:α->β}:∀ (l:List α) (k:Nat),(l.map f).eraseIdx k=(l.eraseIdx k).map f
 | [],_=>by simp
 | x::l,0=>by simp
 | x::l,k+1=>by rw[eG,iM,iM,eG,a73 l k]
theorem a9F:∀ {Rs:List (List Keyed)},(∀ R∈Rs,R≠[])->Rs.length<=Rs.flatten.length
 | [],_=>by simp
 | R::Rs,h=>by
  have:=a9F λR a=>h R (.tail _ a)
  have b:=gA.mpr (h R (.head _));rw[gL,eB,eu];omega
noncomputable def Runs (κ:KF) (st:SortSt) (lo:Nat) (rest:List Keyed):Prop:=∃ Rs:List (List Keyed),(arrOf st).toList=Rs.flatten++rest/\(∀ R∈Rs,Srt κ R/\R≠[])/\Rs.flatten.length=lo/\(jS st).toList.map pr=offs 0 Rs
section
variable {M:Model}{A:Around}{E:Value->Shared->Prop}{s:Shared}{κ:KF}{k0:kc}{ajj:Array Keyed}{st:SortSt}
theorem a3U {i lo:Nat}(L:LtOk M A E s κ k0 ajj) (B:TB k0 ajj st) (R:Runs κ st lo rest) (hi:i+1<(jS st).size)
  (h:∀ st',TB k0 ajj st'->Runs κ st' lo rest->(jS st').size+1=(jS st).size->Q true st'):wpS M A E s (mv i) Q st:=by
 obtain⟨Rs,t,f,r,b⟩:=R;have m:(jS st).size=Rs.length:=by
  have:=congrArg fh b
  rw[dY,a1M]at this;simpa using this
 obtain⟨U,X,Y,V,rfl,D⟩:∃ U X Y V,Rs=U++X::Y::V/\U.length=i:=by
  refine⟨Rs.take i,Rs[i]'(by omega),Rs[i+1]'(by omega),Rs.drop (i+2),?_,by rw[eK];omega⟩;rw[<- h9,<- h9,gS]
 have n:=f X (by simp);have q:=f Y (by simp);rw[a2y]at b;simp only[offs,ik]at b;have k:∀ (j:Nat) (x:Nat×Nat),(offs 0 U++_::_::offs _ V)[j]?=some x->∃ w,(jS st)[j]?=some (x.1,x.2,w):=λj x d=>by
  rw[<- b,eE]at d;rw[<- fO];cases e:(jS st).toList[j]? with
  | none=>rw[e]at d;cases d
  | some p=>
   rw[e]at d;cases d;exact⟨p.2.2,rfl⟩
 have c:(offs 0 U).length=i:=by rw[a1M,D]
 obtain⟨J,G⟩:=k i _ (by rw[gI (by omega),c,Nat.sub_self];rfl);obtain⟨I,y⟩:=k (i+1) (U.flatten.length+X.length,Y.length) (by simp_all);have C:(arrOf st).toList=U.flatten++(X++(Y++(V.flatten++rest))):=by rw[t];simp
 refine b16 L B G y C rfl rfl rfl rfl n.1 q.1 (gA.mpr n.2) (gA.mpr q.2) λl Z H F o v u=>?_;have g:(jS l).toList.map pr=offs 0 (U++Z::V):=by
  rw[u,Array.toList_eraseIdxIfInBounds,Array.toList_setIfInBounds,<- a73,List.map_set,b,<- c,a72,a2y];simp only[offs,ik,pr];rw[o,jm]
 refine h l H ⟨U++Z::V,by rw[F];simp,λR a=>?_,?_,g⟩ ?_
 ·rcases ei.mp a with a | a
  ·exact f R (by simp[a])
  ·rcases eC.mp a with rfl | a
   ·exact⟨v,λz=>by rw[z]at o;have:=gA.mpr n.2;simp at o;omega⟩
   ·exact f R (by simp[a])
 ·rw[<- r];simp;omega
 ·grind
theorem Runs.ar {lo n:Nat}(R:Runs κ st lo rest) (q:Ar st st' lo) (hs:SR κ (arrOf st') lo n) (hn:lo+n<=(arrOf st').size) (h1:1<=n):∃ X rest',Srt κ X/\X.length=n/\Runs κ st' lo (X++rest'):=by
 obtain⟨Rs,g,f,c,e⟩:=R;have b:(arrOf st').toList.take lo=Rs.flatten:=by
  refine iN λi=>?_
  by_cases a:i<lo
  ·rw[iI,if_pos a,fO,q.pre i a,<- fO,g,gJ (by omega)]
  ·grind
 refine⟨((arrOf st').toList.drop lo).take n,((arrOf st').toList.drop lo).drop n,?_,by rw[eK,fC,a1A];omega,Rs,?_,f,c,by rw[q.pe];exact e⟩
 ·refine gy.mpr λi j a d k=>?_;rw[eK,fC,a1A]at a d
  have:=hs i j (by omega) (by omega)
  rw[a1j _,a1j _]at this;simpa using this
 ·rw[gS,<- b,gS]
theorem Runs.push {lo n:Nat}(R:Runs κ st lo (X++rest)) (sX:Srt κ X) (hX:X.length=n) (h1:1<=n) (ha:arrOf st'=arrOf st) (hp:(jS st').toList.map pr=(jS st).toList.map pr++[(lo,n)]):Runs κ st' (lo+n) rest:=by
 obtain⟨Rs,e,d,b,c⟩:=R;refine⟨Rs++[X],by rw[ha,e];simp,λR a=>?_,by simp[b,hX],?_⟩
 ·rcases ei.mp a with a | a
  ·exact d R a
  ·rw[et.mp a];exact⟨sX,λz=>by rw[z]at hX;simp at hX;omega⟩
 ·rw[hp,c,a2y,ik,b];simp[offs,hX]
theorem a6P (L:LtOk M A E s κ k0 ajj) (B:TB k0 ajj st) (hp:jS st=#[])
  (h:∀ st',TB k0 ajj st'->Srt κ (arrOf st').toList->Q () st'):wpS M A E s sortRuns' Q st:=by
 rw[sortRuns'_eq];refine jL (j9 ?_);dsimp only;rw[B.sz];generalize minRun' ajj.size ajj.size 0=mr;refine jL (j6 (j1 (I:=λx c z=>∃ d e,c=(none,d)/\TB k0 ajj z/\Runs κ z d e/\x<=d)
  (Q:=λc z=>∃ d e,c=(none,d)/\TB k0 ajj z/\Runs κ z d e/\ajj.size<=d) ?step ?fin ⟨0,(arrOf st).toList,rfl,B,⟨[],by simp,λR h=>by simp at h,rfl,by rw[hp];rfl⟩,eh _⟩) ?post)
 case fin=>
  rintro c z ⟨d,e,rfl,t,u,hx⟩;exact⟨d,e,rfl,t,u,by omega⟩
 case step=>
  rintro x c z _ hx ⟨d,e,rfl,t,u,hxl⟩;dsimp only
  by_cases c1:d>=ajj.size
  ·rw[if_pos c1];exact jM ⟨d,e,rfl,t,u,c1⟩
  rw[if_neg c1];refine jL (b6j L t (by omega) (by omega) λm z2 Y m1 m2 m3=>?_);dsimp only
  by_cases c2:m<mr
  ·rw[if_pos c2];refine a6O ?_;refine jL (b3U L (Y.tb t) (by omega) (by omega) m3 λS C D=>?_);rw[if_neg (by decide)];have C:=Y.trans C;have v:1<=min (ajj.size - d) mr:=by omega
   have V:d+min (ajj.size - d) mr<=ajj.size:=by omega
   generalize min (ajj.size - d) mr=n at v V D ⊢;have r:=C.tb t;obtain⟨X,f,J,G,R3⟩:=u.ar C D (by rw[r.sz];omega) v;refine jL (j9 ?_);cases hb:(jS S).back? with
   | none=>
    dsimp only;refine jL (ke (jM ?_));exact⟨d+n,f,rfl,⟨r.pm,r.kd,r.fl⟩,R3.push J G v rfl (by show (((jS S).push (d,n,0)).toList).map pr=_;rw[fz,eD];rfl),by omega⟩
   | some p=>
    obtain⟨w,o,w1⟩:=p;dsimp only;generalize power' ajj.size (2*w+o) (2*w+o+o+n) ajj.size=pw;refine jL (j6 (j1 (I:=λ_ c y=>c=(none,())/\TB k0 ajj y/\Runs κ y d (X++f)) ?w (λ_ _ hh=>hh) ⟨rfl,r,R3⟩) ?p1)
    case w=>
     rintro x c y _ _ ⟨rfl,g,j⟩;refine jL (j9 ?_)
     by_cases hgt:(jS y).size > 1
     ·rw[if_pos hgt];have eo:(jS y)[(jS y).size - 2]?=some (jS y)[(jS y).size - 2]:=getElem?_pos ..;rw[eo];dsimp only
      split
      ·exact jM ⟨rfl,g,j⟩
      ·refine jL (a3U L g j (by omega) λy2 N H _=>?_);rw[if_neg (by decide)];exact jM ⟨rfl,N,H⟩
     ·rw[if_neg hgt];exact jM ⟨rfl,g,j⟩
    case p1=>
     rintro c y ⟨rfl,g,j⟩;dsimp only;refine jL (ke (jL (ke (jM ?_))));refine⟨d+n,f,rfl,⟨g.pm,g.kd,g.fl⟩,j.push J G v rfl ?_,by omega⟩;have em:∀ (q:Array (Nat×Nat×Nat)) (k:Nat),(q.modify k λ(a,b,_)=>(a,b,pw)).toList.map pr=q.toList.map pr:=λq k=>by
      refine iN λi=>?_;rw[eE,eE,fO,fO,jo]
      split
      ·cases q[i]? with
       | none=>rfl
       | some p=>rfl
      ·rfl
     rw[fz,eD,em]
     rfl
  ·rw[if_neg c2];have V:d+m<=ajj.size:=by omega
   have v:=m1;have D:=m3;have C:=Y;generalize m=n at v V D ⊢;generalize z2=S at C D ⊢;have r:=C.tb t;obtain⟨X,f,J,G,R3⟩:=u.ar C D (by rw[r.sz];omega) v;refine jL (j9 ?_);cases hb:(jS S).back? with
   | none=>
    dsimp only;refine jL (ke (jM ?_));exact⟨d+n,f,rfl,⟨r.pm,r.kd,r.fl⟩,R3.push J G v rfl (by show (((jS S).push (d,n,0)).toList).map pr=_;rw[fz,eD];rfl),by omega⟩
   | some p=>
    obtain⟨w,o,w1⟩:=p;dsimp only;generalize power' ajj.size (2*w+o) (2*w+o+o+n) ajj.size=pw;refine jL (j6 (j1 (I:=λ_ c y=>c=(none,())/\TB k0 ajj y/\Runs κ y d (X++f)) ?w (λ_ _ hh=>hh) ⟨rfl,r,R3⟩) ?p1)
    case w=>
     rintro x c y _ _ ⟨rfl,g,j⟩;refine jL (j9 ?_)
     by_cases hgt:(jS y).size > 1
     ·rw[if_pos hgt];have eo:(jS y)[(jS y).size - 2]?=some (jS y)[(jS y).size - 2]:=getElem?_pos ..;rw[eo];dsimp only
      split
      ·exact jM ⟨rfl,g,j⟩
      ·refine jL (a3U L g j (by omega) λy2 N H _=>?_);rw[if_neg (by decide)];exact jM ⟨rfl,N,H⟩
     ·rw[if_neg hgt];exact jM ⟨rfl,g,j⟩
    case p1=>
     rintro c y ⟨rfl,g,j⟩;dsimp only;refine jL (ke (jL (ke (jM ?_))));refine⟨d+n,f,rfl,⟨g.pm,g.kd,g.fl⟩,j.push J G v rfl ?_,by omega⟩;have em:∀ (q:Array (Nat×Nat×Nat)) (k:Nat),(q.modify k λ(a,b,_)=>(a,b,pw)).toList.map pr=q.toList.map pr:=λq k=>by
      refine iN λi=>?_;rw[eE,eE,fO,fO,jo]
      split
      ·cases q[i]? with
       | none=>rfl
       | some p=>rfl
      ·rfl
     rw[fz,eD,em]
     rfl
 case post=>
  rintro c z ⟨d,e,rfl,t,u,hlo⟩;dsimp only;have hsz:∀ y,Runs κ y d e->(jS y).size<=d:=λy ⟨Rs,T,F,e3,U⟩=>by
   have l:=congrArg fh U;rw[dY,a1M]at l;have h2:=a9F λR hR=>(F R hR).2;simp at l;omega
  have W:d=ajj.size:=by
   obtain⟨Rs,T,F,e3,U⟩:=u
   have:=congrArg fh T
   rw[a1A,t.sz,eB]at this;omega
  subst W;refine jL (j6 (j1 (I:=λx c y=>c=(none,())/\TB k0 ajj y/\Runs κ y ajj.size e/\((jS y).size<=1\/(jS y).size+x<=ajj.size)) (Q:=λc y=>c=(none,())/\TB k0 ajj y/\Runs κ y ajj.size e/\(jS y).size<=1) ?s2 ?f2 ⟨rfl,t,u,.inr (hsz z u)⟩) ?p2)
  case f2=>
   rintro c y ⟨rfl,g,j,hc⟩;exact⟨rfl,g,j,by omega⟩
  case s2=>
   rintro x c y _ hx ⟨rfl,g,j,hc⟩;refine jL (j9 ?_)
   by_cases l:(jS y).size<=1
   ·rw[if_pos l];exact jM ⟨rfl,g,j,l⟩
   ·rw[if_neg l];refine jL (a3U L g j ?_ λy2 N H hy2=>?_)
    ·repeat' split
     all_goals omega
    ·rw[if_neg (by decide)];exact jM ⟨rfl,N,H,.inr (by omega)⟩
  case p2=>
   rintro c y ⟨rfl,g,j,hc⟩;obtain⟨Rs,T,F,e3,U⟩:=j;have l:=congrArg fh U;rw[dY,a1M]at l;have h2:=congrArg fh T;rw[a1A,g.sz,eB,e3]at h2;have hr:e=[]:=iE.mp (by omega);refine jM (h y g ?_);rw[T,hr,eR]
   match Rs,F,l with
   | [],_,_=>exact .nil
   | [R],F,_=>simpa using (F R (by simp)).1
   | _::_::_,_,l=>simp at l;omega
end
abbrev kN:KF:=λp=>numOf p.1
theorem b8L (xs:Array Keyed) (i:Nat):K xs i=Kk kN xs i:=rfl
theorem b8M (h:Srt kN xs.toList) (hn:n=xs.size):SortedTo xs n:=λi j a b=>by
 rw[b8L,b8L]
 have:=a4e (i:=0) h (n:=xs.size) (by simp) i j a (by omega)
 simpa using this
section
variable {prog:jO}{w:World}{A:Around}{E:Value->Shared->Prop}{s:Shared}{ajj:Array Keyed}
theorem b6k (h0:IntKeys ajj):LtOk (model prog w) A E s kN oneType' ajj:=λx y c d g Q e h=>by
 obtain⟨n,t,b⟩:=h0 x c;obtain⟨m,u,a⟩:=h0 y d;have f:Q (some (decide (n<m))) g:=by
  have:kN x<kN y↔n<m:=by show numOf x.1<numOf y.1↔n<m;rw[b,a];rfl
  rw[decide_eq_decide.mpr this]at h;exact h
 rw[lt'_eq];refine jL (j9 ?_);rw[e,keyLt'_oneType,b,a];exact jL (lO (mw (oneLt_int ⟨rfl,jM f⟩)))
theorem sort_any (ho:s.heap.get? a=some (seqObj "list" vs.toArray n)) (hI:kb vs ns) (hz:vs.length<=1000)
  (h:∀ (out:Array Value) (ms:List Int),kb out.toList ms->ms.Perm ns->ms.Pairwise (·<=·)->P (.done (.ret .none)) { s with heap:=lv s.heap a vs out }):wpAny (model prog w) A (jV.«list.sort» ⟨[.ref a],[]⟩) P E s:=by
 have l:vs.length<=sizeLine:=by rw[jZ];omega
 have o:vs.toArray.size<=sizeLine:=by simpa using l
 have t:=Heap.lt_size ho;rw[list_sort_plain];refine jJ (listItems_at ho rfl (jJ (kU ho rfl ?_ o (by simp))));obtain⟨u,x⟩:∃ u,(s.heap.update a (Obj.mapSeq λ_=>#[])).get? a=some (seqObj "list" #[] u):=⟨_,get?_update_seq ho λ_=>#[]⟩;refine jJ (kW x rfl (jJ (wpAny_newTuple ?_ (by simpa using l))));refine jJ (kZ (j3 ?_));have k:(((s.heap.update a (Obj.mapSeq λ_=>#[])).push (seqObj "tuple" vs.toArray 0)).push (seqObj "list" #[] 0)).get? a=some (seqObj "list" #[] u):=by
  rw[Heap.get?_push_ne,Heap.get?_push_ne]
  ·exact x
  ·rw[Heap.size_update];exact eJ t
  ·rw[size_push',Heap.size_update];exact eJ (gg t)
 dsimp only;have g:∀ y:SortSt,(arrOf y).Perm (kf vs)->Srt kN (arrOf y).toList->P (.done (.ret .none)) { s with heap:=lv s.heap a vs ((arrOf y).map (·.2)) }:=λy p q=>by
  obtain⟨D,C,B,z⟩:=sorted_out hI p (b8M q p.size_eq.symm);exact h _ D C B z
 have i:∀ y:SortSt,(arrOf y).Perm (kf vs)->((arrOf y).map (·.2)).size<=jK+1:=λy p=>by
  rw[jp,p.size_eq,pairsOf_size];omega
 by_cases c:vs.toArray.size<2
 ·rw[if_pos c,if_pos c];refine jJ (jR ?_);rw[StateT.run_pure];refine jJ (jR ?_);dsimp only;have r:(arrOf (SortSt.mk' general' (vs.toArray.zip vs.toArray) #[] 7 none)).Perm (kf vs):=gQ.refl _;refine jJ (kW k rfl (jJ (kU k rfl ?_ (by simp) (i _ r))));simp only[bne_self_eq_false,gR,if_false];refine jR (g _ r ?_)
  show Srt kN (kf vs).toList
  rw[k7]
  have:vs.length<2:=by simpa using c
  match vs,this with
  | [],_=>exact .nil
  | [v],_=>exact ib _ _
 ·rw[if_neg c,if_neg c];obtain⟨f,d,b,rfl⟩:∃ f d b,vs=f::d::b:=by
   have:¬ vs.length<2:=by simpa using c
   match vs,this with
   | [],q=>exact absurd (by simp) q
   | [_],q=>exact absurd (by simp) q
   | f::d::b,_=>exact⟨f,d,b,rfl⟩
  rw[keyKind_ints hI];refine jJ (jR (jJ (jX (a6P
   (Q:=λ_ y=>(arrOf y).Perm (kf (f::d::b))/\j8 y=none/\Srt kN (arrOf y).toList) (b6k hI.intKeys) ⟨gQ.refl _,rfl,rfl⟩ rfl λy j m=>⟨j.pm,j.fl,m⟩) ?_ λ_ _ e=>e)))
  rintro⟨⟨⟩,y⟩ s' ⟨rfl,j,m,q3⟩;dsimp only;refine jJ (kW k rfl (jJ (kU k rfl ?_ (by simp) (i y j))));rw[m];simp only[bne_self_eq_false,gR,if_false];exact jR (g y j q3)
end
section
variable {prog:jO}{w:World}{A:Around}{E:Value->Shared->Prop}{s:Shared}{κ:KF}{k0:kc}
noncomputable def a19 (h:Heap) (a:Addr) (vs:List Value):Heap:=((h.update a (Obj.mapSeq λ_=>#[])).push (seqObj "tuple" vs.toArray 0)).push (seqObj "list" #[] 0)
theorem b42 (hb:b≠a) (e:h.get? b=some o):(a19 h a vs).get? b=some o:=by
 refine Heap.get?_push_of_some _ (Heap.get?_push_of_some _ ?_);rw[Heap.get?_update_ne _ _ _ _ hb];exact e
theorem b17 (ho:s.heap.get? a=some (seqObj "list" vs.toArray n)) (hz:vs.length<=100000)
  (hK:2<=vs.length->∀ Q:kc->Shared->Prop,Q k0 { s with heap:=a19 s.heap a vs }->wpAny (model prog w) A (keyKind' vs.toArray) Q E { s with heap:=a19 s.heap a vs })
  (hL:2<=vs.length->LtOk (model prog w) A E { s with heap:=a19 s.heap a vs } κ k0 (kf vs))
  (h:∀ ps:List Keyed,ps.Perm (kf vs).toList->Srt κ ps->P (.done (.ret .none)) { s with heap:=lv s.heap a vs (ps.map (·.2)).toArray }):wpAny (model prog w) A (jV.«list.sort» ⟨[.ref a],[]⟩) P E s:=by
 have i:vs.length<=sizeLine:=by rw[jZ];omega
 have o:vs.toArray.size<=sizeLine:=by simpa using i
 have t:=Heap.lt_size ho;rw[list_sort_plain];refine jJ (listItems_at ho rfl (jJ (kU ho rfl ?_ o (by simp))));obtain⟨u,m⟩:∃ u,(s.heap.update a (Obj.mapSeq λ_=>#[])).get? a=some (seqObj "list" #[] u):=⟨_,get?_update_seq ho λ_=>#[]⟩;refine jJ (kW m rfl (jJ (wpAny_newTuple ?_ (by simpa using i))));refine jJ (kZ (j3 ?_));have g:(((s.heap.update a (Obj.mapSeq λ_=>#[])).push (seqObj "tuple" vs.toArray 0)).push (seqObj "list" #[] 0)).get? a=some (seqObj "list" #[] u):=by
  rw[Heap.get?_push_ne,Heap.get?_push_ne]
  ·exact m
  ·rw[Heap.size_update];exact eJ t
  ·rw[size_push',Heap.size_update];exact eJ (gg t)
 dsimp only;have f:=λy p q=>by
  have:=h (arrOf y).toList (h7.mp p) q
  rw[<- Array.toList_map,Array.toArray_toList]at this;exact this
 have b:∀ y:SortSt,(arrOf y).Perm (kf vs)->((arrOf y).map (·.2)).size<=jK+1:=λy p=>by
  rw[jp,p.size_eq,pairsOf_size];omega
 by_cases c:vs.toArray.size<2
 ·rw[if_pos c,if_pos c];refine jJ (jR ?_);rw[StateT.run_pure];refine jJ (jR ?_);dsimp only;have x:(arrOf (SortSt.mk' general' _ #[] 7 none)).Perm (kf vs):=gQ.refl _;refine jJ (kW g rfl (jJ (kU g rfl ?_ (by simp) (b _ x))));simp only[bne_self_eq_false,gR,if_false];refine jR (f _ x ?_)
  show Srt κ (kf vs).toList
  rw[k7]
  have:vs.length<2:=by simpa using c
  match vs,this with
  | [],_=>exact .nil
  | [v],_=>exact ib _ _
 ·rw[if_neg c,if_neg c];have r:2<=vs.length:=by simpa using c
  refine jJ (hK r _ ?_);refine jJ (jX (a6P
   (Q:=λ_ y=>(arrOf y).Perm (kf vs)/\j8 y=none/\Srt κ (arrOf y).toList) (hL r) ⟨gQ.refl _,rfl,rfl⟩ rfl λy d j=>⟨d.pm,d.fl,j⟩) ?_ λ_ _ e=>e)
  rintro⟨⟨⟩,y⟩ l ⟨rfl,d,j,q3⟩;dsimp only;refine jJ (kW g rfl (jJ (kU g rfl ?_ (by simp) (b y d))));rw[j];simp only[bne_self_eq_false,gR,if_false];exact jR (f y d q3)
end
end Tim
namespace Tim
open PySem PyProof.Rows PySem.W
abbrev Pz:=Sum (Option Int) Str
noncomputable def PtIs:Pz->Value->Prop
 | .inl none,v=>v=.none
 | .inl (some i),v=>∃ t,v=.int i t
 | .inr s,v=>∃ t,v=.str s t
noncomputable def PtsAre:List Pz->List Value->Prop
 | [],[]=>True
 | x::xs,v::vs=>PtIs x v/\PtsAre xs vs
 | _,_=>False
noncomputable def lt1:Pz->Pz->Bool
 | .inl (some i),.inl (some j)=>decide (i<j)
 | .inr a,.inr b=>decide (a.cps.toList<b.cps.toList)
 | _,_=>false
noncomputable def cmp1:Pz->Pz->Bool
 | .inl (some _),.inl (some _)=>true
 | .inr _,.inr _=>true
 | _,_=>false
noncomputable def ltT:List Pz->List Pz->Bool
 | x::xs,y::ys=>if x=y then ltT xs ys else lt1 x y
 | _,_=>false
noncomputable def cmpT:List Pz->List Pz->Bool
 | x::xs,y::ys=>if x=y then cmpT xs ys else cmp1 x y
 | [],[]=>true
 | _,_=>false
theorem b6l:∀ x:Pz,lt1 x x=false
 | .inl none=>rfl
 | .inl (some i)=>by simp[lt1]
 | .inr a=>by simp[lt1]
theorem b18:∀ {x y z:Pz},lt1 x y=true->lt1 y z=true->lt1 x z=true
 | .inl (some i),.inl (some j),.inl (some k),h1,h2=>by simp[lt1]at *;omega
 | .inr a,.inr b,.inr c,h1,h2=>by
  simp only[lt1,decide_eq_true_eq]at *;exact List.lt_trans h1 h2
 | .inl none,_,_,h1,_=>by simp[lt1]at h1
 | .inl (some _),.inl none,_,h1,_=>by simp[lt1]at h1
 | .inl (some _),.inr _,_,h1,_=>by simp[lt1]at h1
 | .inr _,.inl _,_,h1,_=>by simp[lt1]at h1
 | .inl (some _),.inl (some _),.inl none,_,h2=>by simp[lt1]at h2
 | .inl (some _),.inl (some _),.inr _,_,h2=>by simp[lt1]at h2
 | .inr _,.inr _,.inl _,_,h2=>by simp[lt1]at h2
theorem b19:∀ xs:List Pz,ltT xs xs=false
 | []=>rfl
 | x::xs=>by unfold ltT;rw[if_pos rfl];exact b19 xs
theorem a5R:∀ {xs ys zs:List Pz},ltT xs ys=true->ltT ys zs=true->ltT xs zs=true
 | [],_,_,h1,_=>by simp[ltT]at h1
 | _::_,[],_,h1,_=>by simp[ltT]at h1
 | _::_,_::_,[],_,h2=>by simp[ltT]at h2
 | x::xs,y::ys,z::zs,h1,h2=>by
  unfold ltT at *
  by_cases c1:x=y
  ·subst c1;rw[if_pos rfl]at h1
   by_cases c2:x=z
   ·subst c2;rw[if_pos rfl]at h2 ⊢;exact a5R h1 h2
   ·rw[if_neg c2]at h2 ⊢;exact h2
  ·rw[if_neg c1]at h1
   by_cases c2:y=z
   ·simp_all
   ·rw[if_neg c2]at h2;have a:=b18 h1 h2;rw[if_neg (λe=>by rw[e,b6l]at a;cases a)];exact a
theorem b6m:∀ {x y:Pz},cmp1 x y=true->x≠y->lt1 x y=true\/lt1 y x=true
 | .inl (some i),.inl (some j),_,h=>by
  have:i≠j:=λe=>h (by rw[e])
  simp only[lt1,decide_eq_true_eq];omega
 | .inr a,.inr b,_,h=>by
  simp only[lt1,decide_eq_true_eq]
  by_cases c1:a.cps.toList<b.cps.toList
  ·exact .inl c1
  ·by_cases c2:b.cps.toList<a.cps.toList
   ·exact .inr c2
   ·exact absurd (jq (List.not_lt.mp c2) (List.not_lt.mp c1)) λe=>h (by
     have c:=Array.toList_inj.mp e;cases b;cases c;rfl)
 | .inl none,_,h,_=>by simp[cmp1]at h
 | .inl (some _),.inl none,h,_=>by simp[cmp1]at h
 | .inl (some _),.inr _,h,_=>by simp[cmp1]at h
 | .inr _,.inl _,h,_=>by simp[cmp1]at h
theorem b2a:∀ {xs ys:List Pz},cmpT xs ys=true->xs≠ys->ltT xs ys=true\/ltT ys xs=true
 | [],[],_,h=>absurd rfl h
 | [],_::_,h,_=>by simp[cmpT]at h
 | _::_,[],h,_=>by simp[cmpT]at h
 | x::xs,y::ys,h,hn=>by
  unfold cmpT at h;unfold ltT
  by_cases c:x=y
  ·subst c;rw[if_pos rfl]at h;rw[if_pos rfl,if_pos rfl];exact b2a h λe=>hn (by rw[e])
  ·rw[if_neg c]at h;rw[if_neg c,if_neg (Ne.symm c)];exact b6m h c
noncomputable def rk (rows:List (List Pz)) (x:List Pz):Nat:=rows.countP λq=>ltT q x
theorem b43 (h:ltT x y=true):∀ {l:List (List Pz)},x∈l->l.countP (λq=>ltT q x)<l.countP λq=>ltT q y
 | q::l,hm=>by
  have b:l.countP _<=l.countP λq=>ltT q y:=List.countP_mono_left λq _ e=>a5R e h;rw[jr,jr];have a:(if ltT q x=true then 1 else 0)<=(if ltT q y=true then 1 else 0):=by
   by_cases c:ltT q x=true
   ·rw[if_pos c,if_pos (a5R c h)];exact eh _
   ·rw[if_neg c];exact fg _
  rcases eC.mp hm with e | hm
  ·subst e;rw[b19,h];simp;omega
  ·have:=b43 h hm
   omega
theorem b3W (hx:x∈rows) (h:ltT x y=true):rk rows x<rk rows y:=b43 h hx
theorem b44 (hx:x∈rows) (hy:y∈rows) (hc:cmpT x y=true):rk rows x<rk rows y↔ltT x y=true:=by
 refine⟨λh=>?_,b3W hx⟩
 by_cases e:x=y
 ·grind
 ·rcases b2a hc e with q | q
  ·grind
  ·have:=b3W hy q;omega
noncomputable def RowIn (h:Heap) (v:Value) (xs:List Pz):Prop:=∃ a o its n,v=.ref a/\h.get? a=some o/\o.cls=.type "tuple"/\o.data=.seq its n/\PtsAre xs its.toList
theorem PtIs.uniq:∀ {x y:Pz}{v:Value},PtIs x v->PtIs y v->x=y
 | .inl none,.inl none,_,_,_=>rfl
 | .inl none,.inl (some _),_,h1,⟨_,h2⟩=>by rw[h1]at h2;cases h2
 | .inl none,.inr _,_,h1,⟨_,h2⟩=>by rw[h1]at h2;cases h2
 | .inl (some _),.inl none,_,⟨_,h1⟩,h2=>by rw[h2]at h1;cases h1
 | .inl (some _),.inl (some _),_,⟨_,h1⟩,⟨_,h2⟩=>by rw[h1]at h2;cases h2;rfl
 | .inl (some _),.inr _,_,⟨_,h1⟩,⟨_,h2⟩=>by rw[h1]at h2;cases h2
 | .inr _,.inl none,_,⟨_,h1⟩,h2=>by rw[h2]at h1;cases h1
 | .inr _,.inl (some _),_,⟨_,h1⟩,⟨_,h2⟩=>by rw[h1]at h2;cases h2
 | .inr _,.inr _,_,⟨_,h1⟩,⟨_,h2⟩=>by rw[h1]at h2;cases h2;rfl
theorem PtsAre.uniq:∀ {xs ys:List Pz}{vs:List Value},PtsAre xs vs->PtsAre ys vs->xs=ys
 | [],[],[],_,_=>rfl
 | x::xs,y::ys,v::vs,⟨a,b⟩,⟨c,d⟩=>by rw[a.uniq c,PtsAre.uniq b d]
 | [],_::_,[],_,h=>h.elim
 | [],_,_::_,h,_=>h.elim
 | _::_,_,[],h,_=>h.elim
 | _::_,[],_::_,_,h=>h.elim
theorem RowIn.uniq (r:RowIn h v xs) (q:RowIn h v ys):xs=ys:=by
 obtain⟨a,o,k,n,rfl,j,_,g,d⟩:=r;obtain⟨p,m,f,l,e,b,_,c,i⟩:=q;cases e;rw[j]at b;cases b;rw[g]at c;cases c;exact d.uniq i
open Classical in
noncomputable def b0x (h:Heap) (v:Value):List Pz:=if e:∃ xs,RowIn h v xs then e.choose else []
theorem a1X (r:RowIn h v xs):b0x h v=xs:=by
 unfold b0x;have e:∃ xs,RowIn h v xs:=⟨xs,r⟩;rw[dif_pos e];exact e.choose_spec.uniq r
noncomputable def kT (h:Heap) (rows:List (List Pz)):KF:=λp=>(rk rows (b0x h p.1):Int)
section
variable {prog:jO}{w:World}{A:Around}{E:Value->Shared->Prop}{s:Shared}{ajj:Array Keyed}{b:Bool}{Q:Bool->Shared->Prop}
theorem a8X (h:Q true s):wpAny (model prog w) A (eqBool .none .none) Q E s:=jJ (lc (jR h))
theorem b45:∀ {x y:Pz}{p q:Value}{c:Bool},PtIs x p->PtIs y q->cmp1 x y=true->Q (lt1 x y) s->wpAny (model prog w) A (oneLt' c p q) Q E s
 | .inl (some i),.inl (some j),_,_,c,⟨t,rfl⟩,⟨u,rfl⟩,_,h=>by
  cases c with
  | true=>exact oneLt_int h
  | false=>exact kat_one _ _ (PyProof.Rows.lt_int h)
 | .inr a,.inr b,_,_,c,⟨t,rfl⟩,⟨u,rfl⟩,_,h=>by
  cases c with
  | true=>exact oneLt_str h
  | false=>exact kat_one _ _ (PyProof.Rows.lt_str h)
 | .inl none,_,_,_,_,_,_,h,_=>by simp[cmp1]at h
 | .inl (some _),.inl none,_,_,_,_,_,h,_=>by simp[cmp1]at h
 | .inl (some _),.inr _,_,_,_,_,_,h,_=>by simp[cmp1]at h
 | .inr _,.inl _,_,_,_,_,_,h,_=>by simp[cmp1]at h
theorem b3X:∀ {x y:Pz}{p q:Value},PtIs x p->PtIs y q->(x=y\/cmp1 x y=true)->Q (decide (x=y)) s->wpAny (model prog w) A (eqBool p q) Q E s
 | .inl (some i),.inl (some j),_,_,⟨t,rfl⟩,⟨u,rfl⟩,_,h=>wpAny_eqBool_int (by
   have:(i==j)=decide ((Sum.inl (some i):Pz)=.inl (some j)):=by grind
   rw[this];exact h)
 | .inr a,.inr b,_,_,⟨t,rfl⟩,⟨u,rfl⟩,_,h=>wpAny_eqBool_str (by simp_all)
 | .inl none,.inl none,_,_,h1,h2,_,h=>by
  rw[h1,h2];exact a8X (by simp_all)
 | .inl none,.inl (some _),_,_,_,_,h,_=>by rcases h with h | h<;>simp[cmp1]at h
 | .inl none,.inr _,_,_,_,_,h,_=>by rcases h with h | h<;>simp[cmp1]at h
 | .inl (some _),.inl none,_,_,_,_,h,_=>by rcases h with h | h<;>simp[cmp1]at h
 | .inl (some _),.inr _,_,_,_,_,h,_=>by rcases h with h | h<;>simp[cmp1]at h
 | .inr _,.inl none,_,_,_,_,h,_=>by rcases h with h | h<;>simp[cmp1]at h
 | .inr _,.inl (some _),_,_,_,_,h,_=>by rcases h with h | h<;>simp[cmp1]at h
theorem b46:∀ {xs ys:List Pz}{vs us:List Value}{i:Nat},PtsAre xs vs->PtsAre ys us->cmpT xs ys=true->Q (ltT xs ys) s->KatLex prog w A b false Q (vs.zip us) i s
 | [],[],[],[],_,_,_,_,h=>h
 | x::xs,y::ys,p::vs,q::us,i,⟨a,c⟩,⟨d,e⟩,hc,h=>by
  unfold cmpT at hc;unfold ltT at h
  by_cases exy:x=y
  ·rw[if_pos exy]at hc h;refine kat_cons (b3X a d (.inl exy) ?_);rw[decide_eq_true exy];exact kat_yes (b46 c e hc h)
  ·rw[if_neg exy]at hc h;refine kat_cons (b3X a d (.inr hc) ?_);rw[decide_eq_false exy];exact kat_no (b45 a d hc h)
 | [],_::_,_,_,_,_,_,hc,_=>by simp[cmpT]at hc
 | _::_,[],_,_,_,_,_,hc,_=>by simp[cmpT]at hc
 | [],[],_::_,_,_,h,_,_,_=>h.elim
 | [],[],[],_::_,_,_,h,_,_=>h.elim
 | _::_,_::_,[],_,_,h,_,_,_=>h.elim
 | _::_,_::_,_::_,[],_,_,h,_,_=>h.elim
theorem a5S:∀ {xs:List Pz}{vs:List Value},PtsAre xs vs->vs.length=xs.length
 | [],[],_=>rfl
 | _::_,_::_,⟨_,h⟩=>by rw[eu,eu,a5S h]
 | [],_::_,h=>h.elim
 | _::_,[],h=>h.elim
theorem b6n (h0:∀ p∈ajj.toList,∃ x∈rows,RowIn s.heap p.1 x) (hm:∀ x∈rows,x.length=m) (hc:∀ x∈rows,∀ y∈rows,cmpT x y=true):LtOk (model prog w) A E s (kT s.heap rows) (lP b) ajj:=λp q L I u Q J h=>by
 obtain⟨x,d,i⟩:=h0 p L;obtain⟨y,c,g⟩:=h0 q I;have B:Q (some (ltT x y)) u:=by
  have e:decide (kT s.heap rows p<kT s.heap rows q)=ltT x y:=by
   unfold kT;rw[a1X i,a1X g]
   have:=b44 d c (hc x d y c)
   cases e:ltT x y
   ·grind
   ·grind
  rw[e]at h;exact h
 obtain⟨a,o,j,n,D,H,M,C,t⟩:=i;obtain⟨T,S,f,N,G,v,R,F,r⟩:=g;rw[lt'_eq];refine jL (j9 ?_);rw[J,D,G];refine jL (lO (mw (kat_lt H C v F ?_)));have k:=a5S t;have l:=a5S r;rw[hm x d]at k;rw[hm y c]at l;rw[fT]at k l;rw[decide_eq_false (by omega)];exact b46 t r (hc x d y c) ⟨rfl,jM B⟩
end
theorem a4h {α:Type}:∀ vs:List α,vs.zip vs=vs.map λv=>(v,v)
 | []=>rfl
 | v::vs=>by rw[List.zip_cons_cons,eG,a4h vs]
noncomputable def RowsIn (h:Heap):List Value->List (List Pz)->Prop
 | [],[]=>True
 | v::vs,x::xs=>RowIn h v x/\RowsIn h vs xs
 | _,_=>False
theorem RowsIn.len:∀ {vs:List Value}{rows:List (List Pz)},RowsIn h vs rows->vs.length=rows.length
 | [],[],_=>rfl
 | _::_,_::_,⟨_,r⟩=>by rw[eu,eu,RowsIn.len r]
 | [],_::_,r=>r.elim
 | _::_,[],r=>r.elim
theorem RowsIn.mem:∀ {vs:List Value}{rows:List (List Pz)},RowsIn h vs rows->∀ v∈vs,∃ x∈rows,RowIn h v x
 | v::vs,x::xs,⟨r,q⟩,u,hu=>by
  rcases eC.mp hu with rfl | hu
  ·exact⟨x,.head _,r⟩
  ·obtain⟨y,b,a⟩:=q.mem u hu;exact⟨y,.tail _ b,a⟩
 | [],[],_,u,hu=>by simp at hu
 | [],_::_,r,_,_=>r.elim
 | _::_,[],r,_,_=>r.elim
theorem RowsIn.map:∀ {vs:List Value}{rows:List (List Pz)},RowsIn h vs rows->vs.map (b0x h)=rows
 | [],[],_=>rfl
 | v::vs,x::xs,⟨r,q⟩=>by rw[eG,a1X r,q.map]
 | [],_::_,r=>r.elim
 | _::_,[],r=>r.elim
theorem RowIn.mid {vs ws:List Value}(ho:h.get? a=some (seqObj "list" ws.toArray n)) (r:RowIn h v x):RowIn (a19 h a vs) v x:=by
 obtain⟨b,o,d,m,i,c,e,g,f⟩:=r;refine⟨b,o,d,m,i,b42 (λz=>?_) c,e,g,f⟩;rw[z,ho]at c;cases c;simp at e
theorem RowsIn.mid {us ws:List Value}(ho:h.get? a=some (seqObj "list" ws.toArray n)):∀ {vs:List Value}{rows:List (List Pz)},RowsIn h vs rows->RowsIn (a19 h a us) vs rows
 | [],[],_=>trivial
 | _::_,_::_,⟨r,q⟩=>⟨r.mid ho,q.mid ho⟩
 | [],_::_,r=>r.elim
 | _::_,[],r=>r.elim
noncomputable def a1Y (rows:List (List Pz)):Prop:=∀ x∈rows,∃ (s:Str) (r:List Pz),x=.inr s::r
noncomputable def a5u (rows:List (List Pz)):Prop:=∀ x∈rows,∃ (i:Int) (r:List Pz),x=.inl (some i)::r
theorem RowsIn.kat {T:Pz->Prop}:∀ {vs:List Value}{rows:List (List Pz)},RowsIn h vs rows->(∀ x∈rows,∃ f r,x=f::r/\T f)->∃ fs:List Value,KatTups h vs fs/\fs.length=vs.length/\∀ v∈fs,∃ f,T f/\PtIs f v
 | [],[],_,_=>⟨[],trivial,rfl,λv a=>by simp at a⟩
 | v::vs,x::xs,⟨r,q⟩,hf=>by
  obtain⟨j,k,p,g⟩:=q.kat λy d=>hf y (.tail _ d);obtain⟨y,t,rfl,d⟩:=hf x (.head _);obtain⟨b,o,e,m,rfl,s,l,n,c⟩:=r;cases hi:e.toList with
  | nil=>rw[hi]at c;exact c.elim
  | cons f fr=>
   rw[hi]at c;obtain⟨i,_⟩:=c;refine⟨f::j,KatTups.cons s l n (by rw[<- fO,hi];rfl) k,by rw[eu,eu,p],λv a=>?_⟩;rcases eC.mp a with rfl | a
   ·exact⟨y,d,i⟩
   ·simp_all
 | [],_::_,r,_=>r.elim
 | _::_,[],r,_=>r.elim
section
variable {prog:jO}{w:World}{A:Around}{E:Value->Shared->Prop}{s:Shared}
theorem sort_tups (ho:s.heap.get? a=some (seqObj "list" vs.toArray n)) (hz:vs.length<=100000) (hr:RowsIn s.heap vs rows) (hf:a1Y rows\/a5u rows)
  (hm:∀ x∈rows,x.length=m) (hc:∀ x∈rows,∀ y∈rows,cmpT x y=true)
  (h:∀ (out:List Value) (os:List (List Pz)),out.Perm vs->os=out.map (b0x s.heap)->os.Perm rows->os.Pairwise (λx y=>ltT y x=false)->P (.done (.ret .none)) { s with heap:=lv s.heap a vs out.toArray }):wpAny (model prog w) A (jV.«list.sort» ⟨[.ref a],[]⟩) P E s:=by
 have k:RowsIn (a19 s.heap a vs) vs rows:=hr.mid ho;refine b17 (k0:=lP true) ho hz (λW Q H=>?_) (λW=>b6n (λp i=>?_) hm hc) λB i Y=>?_
 ·rcases hf with hf | hf
  ·obtain⟨R,o,N,u⟩:=k.kat (T:=λf=>∃ x,f=.inr x) λx C=>let ⟨y,r,e⟩:=hf x C;⟨_,r,e,y,rfl⟩
   refine kat_kind (T:=.type "str") o (by omega) (λv d=>?_) (by rfl) H;obtain⟨_,⟨x,rfl⟩,t,rfl⟩:=u v d;exact .now
  ·obtain⟨R,o,N,u⟩:=k.kat (T:=λf=>∃ x,f=.inl (some x)) λx C=>let ⟨y,r,e⟩:=hf x C;⟨_,r,e,y,rfl⟩
   refine kat_kind (T:=.type "int") o (by omega) (λv d=>?_) (by rfl) H;obtain⟨_,⟨x,rfl⟩,t,rfl⟩:=u v d;exact .now
 ·rw[k7,a4h]at i;obtain⟨v,d,rfl⟩:=eq.mp i;exact k.mem v d
 ·rw[k7,a4h]at i;have G:(B.map (·.2)).Perm vs:=by
   have:=i.map (·.2)
   rw[eO,show (_∘λv:Value=>(v,v))=id from rfl,gC]at this;exact this
  have j:∀ p∈B,p.1=p.2/\p.2∈vs:=λp l=>by
   obtain⟨v,d,rfl⟩:=eq.mp (i.mem_iff.mp l);exact⟨rfl,d⟩
  have V:((B.map (·.2)).map (b0x s.heap)).Perm rows:=by
   rw[<- hr.map];exact G.map _
  refine h _ _ G rfl V ?_;rw[eZ,eZ];refine fk.imp_of_mem (λ{p q} l D F=>?_) Y;obtain⟨U,S⟩:=j p l;obtain⟨M,X⟩:=j q D;obtain⟨x,x1,J⟩:=hr.mem _ S;obtain⟨y,L,I⟩:=hr.mem _ X;rw[a1X J,a1X I];unfold kT at F;rw[U,M,a1X (J.mid ho),a1X (I.mid ho)]at F;cases e:ltT y x with
  | false=>rfl
  | true=>have:=b3W L e;omega
end
end Tim
namespace SetW
open PySem
noncomputable def Up (xs:Array Nat):Prop:=xs.toList.Pairwise (·<·)
structure TOk (led:Bool) (t:kr):Prop where
 up:Up t.place
 dm:t.dummies=#[]
 ld:t.led=led
end SetW
namespace SetW
open PySem PyProof.Rows
noncomputable def byT (w:World):Bool:=w.params.followText "set-order"
inductive KsAre {prog:jO}{w:World}{K:Type}[DecidableEq K] (kd:KeyKind prog w K):List Value->List K->Prop
 | nil:KsAre kd [] []
 | cons {v:Value} {k:K} {vs:List Value} {ks:List K} (h:kd.is k v=true) (t:KsAre kd vs ks):KsAre kd (v::vs) (k::ks)
structure SO {prog:jO}{w:World}{K:Type}[DecidableEq K] (kd:KeyKind prog w K) (h:Heap) (a:Addr) (es:Array (Int×Value)) (ep:Nat) (t:kr) (ms:List K):Prop where
 at_:∃ o,h.get? a=some o/\o.ExactSet/\o.data=.set es ep t
 el:ElemsOf kd es.toList
 nums:KsAre kd (es.toList.map (·.2)) ms
 sc:es.size<scanBound
 fit:t.fits es.size=true
 ok:TOk (!byT w) t
noncomputable def SI {prog:jO}{w:World}{K:Type}[DecidableEq K] (kd:KeyKind prog w K) (h:Heap) (a:Addr) (ms:List K):Prop:=∃ es ep t,SO kd h a es ep t ms
section
variable {prog:jO}{w:World}{K:Type}[DecidableEq K] {kd:KeyKind prog w K}
theorem b8N (h:KsAre kd vs ns):vs.length=ns.length:=by
 induction h with
 | nil=>rfl
 | cons _ _ ih=>rw[eu,eu,ih]
theorem b8O (h:KsAre kd vs ns):(∃ v∈vs,kd.is k v=true)↔k∈ns:=by
 induction h with
 | nil=>simp
 | @cons v n vs ns h1 _ ih=>
  rw[eC,<- ih]
  constructor
  ·rintro⟨u,a,b⟩;rcases eC.mp a with rfl | a
   ·exact .inl (kd.inj _ _ _ b h1)
   ·exact .inr ⟨u,a,b⟩
  ·rintro (rfl | ⟨u,a,b⟩)
   ·exact⟨v,.head _,h1⟩
   ·exact⟨u,.tail _ a,b⟩
end
section
variable {prog:jO}{w:World}{A:Around}{E:Value->Shared->Prop}{s:Shared}{a:Addr}{es:Array (Int×Value)}{ep:Nat}{t:kr}{K:Type}[DecidableEq K] {kd:KeyKind prog w K}{ms:List K}{k:K}{v:Value}
theorem SO.mem (S:SO kd s.heap a es ep t ms):(∃ e∈es.toList,kd.is k e.2=true)↔k∈ms:=by
 rw[<- b8O S.nums]
 constructor
 ·rintro⟨e,c,b⟩;exact⟨e.2,eU c,b⟩
 ·rintro⟨u,d,b⟩;obtain⟨e,c,rfl⟩:=eq.mp d;exact⟨e,c,b⟩
theorem SO.stored {h:Heap}(ho:h.get? a=some o) (hx:o.ExactSet) (hd:o.data=.set es ep t) (hel:ElemsOf kd es'.toList) (hi:KsAre kd (es'.toList.map (·.2)) ms') (hs:es'.size<scanBound) (hf:t'.fits es'.size=true) (hk:TOk (!byT w) t') :
  (h.update a (Obj.putSet es' t')).get? a=some { o with data:=.set es' (ep+1) t' }/\SO kd (h.update a (Obj.putSet es' t')) a es' (ep+1) t' ms':=by
 have b:(h.update a (Obj.putSet es' t')).get? a=some { o with data:=.set es' (ep+1) t' }:=by
  have q:=Heap.get?_update_self (Obj.putSet es' t') ho (by rw[putSet_of es' t' hd];rfl);rw[putSet_of es' t' hd]at q;exact q
 exact⟨b,⟨⟨_,b,hx,rfl⟩,hel,hi,hs,hf,hk⟩⟩
theorem TOk.plain (h:TOk led t):TOk led ({ t with plain:=b }:kr):=⟨h.up,h.dm,h.ld⟩
end
theorem SI.at {K:Type}[DecidableEq K] {kd:KeyKind prog w K}{ms:List K}(S:SI kd h a ms) (k:∀ o,h.get? a=some o->h'.get? a=some o):SI kd h' a ms:=by
 obtain⟨l,i,t,⟨o,g,x,d⟩,f,j,e,c,b⟩:=S;exact⟨l,i,t,⟨o,k o g,x,d⟩,f,j,e,c,b⟩
noncomputable def Met {K:Type}(val:Nat->K) (i:Nat) (ms:List K):Prop:=ms.Nodup/\ms.length<=i/\∀ x,x∈ms↔∃ j,j<i/\val j=x
theorem Met.step {K:Type}[DecidableEq K] {val:Nat->K}{ms ms':List K}(h:Met val i ms) (p:ms'.Perm (if val i∈ms then ms else ms++[val i])):Met val (i+1) ms':=by
 obtain⟨d,k,b⟩:=h;have a:∀ x,(∃ j,j<i+1/\val j=x)↔(∃ j,j<i/\val j=x)\/x=val i:=λx=>by grind
 by_cases c:val i∈ms
 ·rw[if_pos c]at p;refine⟨p.nodup_iff.mpr d,by rw[p.length_eq];omega,λx=>?_⟩;rw[p.mem_iff,a,b];exact⟨.inl,λz=>z.elim id λe=>(b x).mp (e▸c)⟩
 ·rw[if_neg c]at p;refine⟨p.nodup_iff.mpr ?_,by rw[p.length_eq];simp;exact k,λx=>?_⟩
  ·rw[fP];exact⟨d,by simp,λx g y f=>by rw[et.mp f];rintro rfl;exact c g⟩
  ·rw[p.mem_iff,a,ei,b,et]
section
variable {prog:jO}{w:World}{A:Around}{R:Result->Shared->Prop}{I:Addr}{fp wr:List Addr}{G:Array lb->Array lb->Prop}{n:Nat}{P:Nat->Value->Prop}{St:Nat->Shared->Prop}{K:Type}[DecidableEq K] {kd:KeyKind prog w K}
end
section
variable {prog:jO}{w:World}{A:Around}{E:Value->Shared->Prop}{s:Shared}{K:Type}[DecidableEq K] {kd:KeyKind prog w K}
abbrev b3Y (w:World):Obj:={ cls:=.type "set",dict:=none,data:=.set #[] 0 (.fresh 0 0 (!byT w)) }
theorem SI.fresh (g:h.get? a=some (b3Y w)):SI kd h a []:=
 ⟨#[],0,.fresh 0 0 _,⟨_,g,⟨rfl,rfl,rfl⟩,rfl⟩,λe b=>by simp at b,.nil,by decide,rfl,⟨.nil,rfl,rfl⟩⟩
end
noncomputable def SetIt (h:Heap) (it a:Addr) (first:Value) (i n ep:Nat):Prop:=∃ o,h.get? it=some o/\o.cls=.type "set_iterator"/\o.data=.fields #[first,.int i 0,.ref a,.int n 0,.int ep 0]
theorem SetIt.ty {s:Shared}(x:SetIt s.heap it a f i n ep):s.TypeIs (.ref it) "set_iterator":=let ⟨o,g,c,_⟩:=x;⟨o,g,c⟩
theorem SetIt.at (x:SetIt h it a f i n ep) (e:∀ o,h.get? it=some o->h'.get? it=some o):SetIt h' it a f i n ep:=let ⟨o,g,r⟩:=x;⟨o,e _ g,r⟩
section
variable {prog:jO}{w:World}{A:Around}{E:Value->Shared->Prop}{s:Shared}{it a:Addr}{f:Value}{i n ep:Nat}{o:Obj}{es:Array (Int×Value)}{t:kr}
end
section
variable {prog:jO}{w:World}{A:Around}{E:Value->Shared->Prop}{s:Shared}{it a:Addr}{f:Value}{i n ep k:Nat}{o:Obj}{es:Array (Int×Value)}{t:kr}{K:Type}[DecidableEq K] {kd:KeyKind prog w K}{ms:List K}
end
theorem SO.at {K:Type}[DecidableEq K] {kd:KeyKind prog w K}{ms:List K}(S:SO kd h a es ep t ms) (k:∀ o,h.get? a=some o->h'.get? a=some o):SO kd h' a es ep t ms:=by
 obtain⟨⟨o,g,x,d⟩,i,f,e,b,c⟩:=S;exact⟨⟨o,k o g,x,d⟩,i,f,e,b,c⟩
section
variable {prog:jO}{w:World}{A:Around}{E:Value->Shared->Prop}{s:Shared}{it a T:Addr}{f:Value}{i n ep k:Nat}{o:Obj}{es:Array (Int×Value)}{t:kr}{K:Type}[DecidableEq K] {kd:KeyKind prog w K}{ms:List K}{ps:List Nat}
end
section
variable {prog:jO}{w:World}{A:Around}{E:Value->Shared->Prop}{s:Shared}{it a T:Addr}{f:Value}{i n ep k:Nat}{o:Obj}{es:Array (Int×Value)}{t:kr}{K:Type}[DecidableEq K] {kd:KeyKind prog w K}{ms:List K}{ps:List Nat}
noncomputable def PlacesAt (h:Heap) (T:Addr) (ps:List Nat):Prop:=∃ o c,h.get? T=some o/\o.data=.seq (ps.map λ(i:Nat)=>rawInt i).toArray c
theorem PlacesAt.at (x:PlacesAt h T ps) (k:∀ o,h.get? T=some o->h'.get? T=some o):PlacesAt h' T ps:=let ⟨o,c,g,d⟩:=x;⟨o,c,k _ g,d⟩
end
section
variable {prog:jO}{w:World}{A:Around}{E:Value->Shared->Prop}{s:Shared}{it a T:Addr}{f:Value}{i n ep k:Nat}{o:Obj}{es:Array (Int×Value)}{t:kr}{K:Type}[DecidableEq K] {kd:KeyKind prog w K}{ms:List K}{ps:List Nat}
theorem SO.ty (S:SO kd s.heap a es ep t ms):s.TypeIs (.ref a) "set":=let ⟨o,g,x,_⟩:=S.at_;⟨o,g,x.1⟩
theorem SO.len (S:SO kd s.heap a es ep t ms):es.size=ms.length:=by
 have q:=b8N S.nums;simpa using q
end
section
variable {prog:jO}{w:World}{A:Around}{E:Value->Shared->Prop}{s:Shared}{a:Addr}{K:Type}[DecidableEq K] {kd:KeyKind prog w K}{ms:List K}
end
end SetW
namespace L2
open PySem PySem.Spec PyProof.Rows
theorem a7j:∀ {vs:List Value}{ns:List Int},kb vs ns->vs.length=ns.length
 | _,_,.nil=>rfl
 | _,_,.cons n t h=>by rw[eu,eu,a7j h]
theorem a74:∀ {vs:List Value}{ns:List Int},kb vs ns->Vals (ns.map V.int) vs
 | _,_,.nil=>.nil
 | _,_,.cons n t h=>.cons ⟨t,rfl⟩ (a74 h)
theorem b2b:∀ {vs:List Value}{ns:List Int},vs.length=ns.length->(∀ (i:Nat) v,vs[i]?=some v->∃ n t,ns[i]?=some n/\v=.int n t)->kb vs ns
 | [],[],_,_=>.nil
 | [],_::_,h,_=>by simp at h
 | _::_,[],h,_=>by simp at h
 | v::vs,n::ns,h,q=>by
  obtain⟨m,t,a,b⟩:=q 0 v rfl;simp at a;subst a b;exact .cons _ t (b2b (by simpa using h) λi v e=>by simpa using q (i+1) v (by simpa using e))
section
variable {P:jO}{w:World}{A:Around}{E:Value->Shared->Prop}{s:Shared}
theorem b2c (hmx:ns.length<=1000)
  (hcol:∀ R:List Value->Shared->Prop,(∀ (g:Heap) (tk:Nat) (d:Drawn) (vs:List Value) (ks:List Int),(∀ b o,s.heap.get? b=some o->g.get? b=some o)->kb vs ks->ks.Perm ns->R vs { s with heap:=g,drawn:=d,toks:=tk })->wpAny (model P w) A.in1 (collect (.ref r)) R E s)
  (h:∀ (g g':Heap) (tk:Nat) (d:Drawn) (out:List Value) (n:Nat) (ms:List Int),(∀ b o,s.heap.get? b=some o->g.get? b=some o)->(∀ b o,g.get? b=some o->g'.get? b=some o)->g'.get? g.objs.size=some { cls:=.type "list",data:=.seq out.toArray n } ->
   kb out ms->ms.Perm ns->ms.Pairwise (·<=·)->Q (.ref g.objs.size) { s with heap:=g',drawn:=d,toks:=tk }):wpAny (model P w) A (call (.builtin "sorted") [.ref r]) Q E s:=by
 refine Calls.call_function_entry lQ lR lS (lT _) ?_;refine jJ (jR (jJ (hcol _ λg t d f ks p l k=>?_)));have hl:=(a7j l).trans k.length_eq;have v:f.length<=sizeLine:=by rw[jZ];omega
 refine jJ (kZ ?_ v);have j:(g.push _).get? g.objs.size=some (seqObj "list" f.toArray 0):=Heap.get?_push_size _ rfl;refine jJ (j3 (lr lU ⟨_,j,rfl⟩ lV (Tim.sort_any j l (by omega) λout u y x q=>⟨_,rfl,?_⟩) (lW _)));have c:=lX (out:=out) j;obtain⟨n,c⟩:=c;refine jR ⟨_,rfl,h g _ t d out.toList n u p (λb o e=>?_) (by omega) y (x.trans k) q⟩;have i:=Heap.lt_size e;rw[lY (eJ i) (by rw[Heap.size_push];exact gg i)];exact Heap.get?_push_of_some _ e
end
section
variable {X:Cx}
theorem Inv.drew (I:Inv X pins σ H s) (d:Drawn):Inv X pins σ H { s with drawn:=d }:=
 I.step (ch:=[]) (λb a=>nomatch a) (λb o _ _ _ e _=>e) (λb o _ _ _ e _=>⟨o.slots,e⟩) (λ_ _ _ _ n=>n) (λb o _ e=>⟨o,e⟩) (λ_ _ e=>e) (λ_ _ _ e=>e) (λb f e=>⟨#[],by rw[e];simp⟩) (λm c=>c) I.hok I.bare
noncomputable def b6o (K:Fg):List V->Hp->VK->Prop:=λxs H Q=>∃ (p:Addr) (ns:List Int),xs=[.ref p]/\(SqL K H p (ns.map V.int)\/∃ kvs:List (Key×V),H p=some (.dK kvs)/\kvs.map (·.1)=ns.map λi=>(Sum.inl (some i):Key))/\ns.length<=1000 /\
 ∀ (t:Addr) (ms:List Int),H t=none->ms.Perm ns->ms.Pairwise (·<=·)->Q (.ref t) (upd H t (.lst (ms.map V.int)))
theorem a8Y (hc:X.calm=true):CallR X (.builtin "sorted") (b6o X.K):=by
 intro F s σ H xs us Q I r h;obtain⟨p,ns,rfl,C,G,q⟩:=h;obtain⟨u,rfl,rx⟩:=a3M r;cases rx;have hh:=I.ok.hd hc;refine b2c G (λR T=>?_) λg g' l d ab n L k1 k2 e a1 S a3=>?_
 ·rcases C with C | ⟨kvs,hd,hk⟩
  ·obtain⟨M,rv,pl,_⟩:=I.list C;have U:=b0o rv;refine my pl.isList ?_ (by rw[a7j U,jZ];omega);refine T _ s.toks s.drawn M _ (λb o e=>?_) U (fm.refl _);have ac:=Heap.lt_size e;rw[Heap.get?_update_ne _ _ _ _ (eJ ac)];exact Heap.get?_push_of_some _ e
  ·obtain⟨z,lo,E,B,dd⟩:=b1m I.hok hd;obtain⟨ep,ad⟩:=dd.dictAt;have Y:E.length=ns.length:=by rw[<- B.length,<- dY,hk,dY]
   refine PySem.W.kdu_collect (PySem.W.kdl_dict lo) hh ad (by rw[Y,jZ];omega) λg l aa kp c=>?_;refine T g l s.drawn aa.toList ns kp (b2b (by rw[fT,c.1,Y]) λi v e=>?_) (fm.refl _);obtain⟨k,x,e1,e2⟩:=c.2 i v (by simp_all);have y:E.map (·.1)=ns.map λi=>(Sum.inl (some i):Key):=by rw[<- B.keys];exact hk
   have j:(ns.map λi=>(Sum.inl (some i):Key))[i]?=some k:=by rw[<- y,eE,e1];rfl
   rw[eE]at j;cases hn:ns[i]? with
   | none=>rw[hn]at j;cases j
   | some n=>
    rw[hn]at j;cases j;have D:Value.isInt n v=true:=e2;cases v with
    | int m t=>exact⟨n,t,rfl,by simp[Value.isInt]at D;rw[D]⟩
    | _=>simp[Value.isInt]at D
 ·have J:Inv X F σ H { s with heap:=g,drawn:=d,toks:=l }:=(I.drew d).kept k1;exact⟨.ref g.objs.size,_,J.laid k2 (eh _) (show ObjOk X.prog X.w _ g' _ (.lst (L.map V.int)) from ⟨by rw[dY,S.length_eq,jZ];omega,ab,n,a74 a1,e⟩),rfl,q _ L (J.hok.fresh (eh _)) S a3⟩
end
structure Zs where
 it:Addr
 tp:Bool
 l:Addr
noncomputable def Zs.At (z:Zs) (k:Nat) (h:Heap):Prop:=if z.tp=true then h.IsTupleIter z.it z.l k else h.IsListIter z.it z.l k
noncomputable def Zs.Has (z:Zs) (h:Heap) (xs:Array Value):Prop:=if z.tp=true then h.IsTuple z.l xs else h.IsList z.l xs
theorem Zs.At.keep {z:Zs}(a:z.At k h) (q:∀ o,h.get? z.it=some o->h'.get? z.it=some o):z.At k h':=by
 unfold Zs.At at a ⊢
 split
 ·next e=>rw[if_pos e]at a;exact a.at q
 ·next e=>rw[if_neg e]at a;exact a.at q
theorem Zs.Has.keep {z:Zs}(a:z.Has h xs) (q:∀ o,h.get? z.l=some o->h'.get? z.l=some o):z.Has h' xs:=by
 unfold Zs.Has at a ⊢
 split
 ·next e=>rw[if_pos e]at a;exact let ⟨o,ho,r⟩:=a;⟨o,q o ho,r⟩
 ·next e=>rw[if_neg e]at a;exact let ⟨o,ho,r⟩:=a;⟨o,q o ho,r⟩
theorem Zs.At.obj {z:Zs}(a:z.At k h):∃ o,h.get? z.it=some o/\∀ v,o.data≠.cell v:=by
 unfold Zs.At at a
 split at a<;>(obtain⟨o,e,_,d⟩:=a;exact⟨o,e,λv q=>by rw[d]at q;cases q⟩)
section
variable {P:jO}{w:World}{A:Around}{E:Value->Shared->Prop}{s:Shared}
end
section
variable {P:jO}{w:World}{A:Around}{E:Value->Shared->Prop}{s:Shared}
end
section
variable {X:Cx}{pins:List (Addr×Obj)}{σ:St}{H:Hp}{s:Shared}{h':Heap}
end
noncomputable def SrcV (K:Fg) (H:Hp) (y:Zs) (xs:List V):Prop:=if y.tp=true then SqT K H y.l xs else SqL K H y.l xs
theorem SrcV.has (I:Inv X pins σ H s) (h:SrcV X.K H y xs):∃ its:List Value,Vals xs its/\y.Has s.heap its.toArray:=by
 unfold SrcV at h;unfold Zs.Has
 split at h
 ·next e=>obtain⟨a,r,p,_⟩:=I.tuple h;exact⟨a,r,by rw[if_pos e];exact p⟩
 ·next e=>obtain⟨a,r,p,_⟩:=I.list h;exact⟨a,r,by rw[if_neg e];exact p.isList⟩
theorem SrcV.inj (I:Inv X pins σ H s) (h:SrcV X.K H y xs) (h':SrcV X.K H y xs'):xs=xs':=by
 unfold SrcV at h h'
 split at h
 ·next e=>rw[if_pos e]at h';exact I.tuple_inj h h'
 ·next e=>rw[if_neg e]at h';exact I.list_inj h h'
noncomputable def SrcP (K:Fg) (H:Hp) (p:Bool×Addr) (xs:List V):Prop:=if p.1=true then SqT K H p.2 xs else SqL K H p.2 xs
theorem Turn.imp {P:jO}{w:World}{K:Fg}{tg:Expr}{J J':It}{fp:List Addr}{it:Addr}{tn:Nat->Heap->Prop}(t:Turn P w K tg J fp it tn) (g:∀ i H,J'.go i H->J.go i H) (y:∀ i H x H',J'.go i H->J.yld i H x H'->J'.yld i H x H') (s:∀ i H,J'.stop i H->J.stop i H):Turn P w K tg J' fp it tn where
 mem:=t.mem
 obj:=t.obj
 keep:=t.keep
 item:=λX h1 h2 h3 h4 i pins s σ H E I hf st hg=>jX (t.item X h1 h2 h3 h4 i pins s σ H E I hf st (g i H hg)) (λr s1 ⟨u,e,q⟩=>⟨u,e,jX q (λ_ s2 ⟨x,H',a,b,c,d,e⟩=>⟨x,H',a,b,y i H x H' hg c,d,e⟩) λ_ _ z=>z⟩) λ_ _ z=>z
 done:=λX h1 h2 h3 h4 i pins s' σ H E I hf st hg=>t.done X h1 h2 h3 h4 i pins s' σ H E I hf st (s i H hg)
 self:=t.self
noncomputable def Itv (K:Fg) (a:Addr) (n:Nat):It:=
 ⟨λi H=>i<n/\∃ xs,SqL K H a xs/\xs.length=n,λi H x H'=>H'=H/\∀ xs,SqL K H a xs->xs[n - 1 - i]?=some x,λi _=>i=n⟩
theorem b3Z {P:jO}{w:World}{K:Fg}{tg:Expr}(a it:Addr) (n:Nat):Turn P w K tg (Itv K a n) [it] it (λi h=>i<=n/\h.IsRevIter it a ((n:Int) - 1 - (i:Nat))) where
 mem:=by simp
 obj:=λi h st b hb=>by
  have e:b=it:=by simpa using hb
  subst e;obtain⟨o,e,c,d⟩:=st.2;exact⟨o,e,λv z=>by rw[d]at z;cases z⟩
 keep:=λi h h' st k=>⟨st.1,st.2.at λo e=>k it (by simp) o e⟩
 item:=by
  intro X hP hw hK hc i pins s σ H E I hf st hg;subst hP hw hK;obtain⟨hi,xs,hq,hx⟩:=hg;obtain⟨its,rv,p,hz⟩:=I.list hq;have hx':=eI (show n - 1 - i<xs.length by omega);obtain⟨u,hu,ru⟩:=rv.get hx';obtain⟨f0,f1,f2,f3,f4,f5⟩:=hf it (by simp);have st':=st.2;have e1:(n:Int) - 1 - (i:Nat)=((n - 1 - i:Nat):Int):=by omega
  rw[e1]at st';refine wpAny_pyNext_rev_item st' p.isList (x:=u) (by simpa using hu) λh' s2 sb=>?_;have I1:Inv X pins σ H { s with heap:=h' }:=I.turned (t':=s.toks) (λb o hb e=>(sb.2 b hb).trans e) f0 f1 f3 f4 f5;obtain⟨o,e,c,d⟩:=id s2;refine⟨u,rfl,b0f (s:={ s with heap:=h' }) e c d (by decide) ⟨xs[n - 1 - i],H,I1,ru,⟨rfl,λys hy=>by rw[I.list_inj hy hq];exact hx'⟩,⟨by omega,?_⟩,λb hb=>(hf b hb).1⟩⟩;have e2:(n:Int) - 1 - ((i+1:Nat):Int)=((n - 1 - i:Nat):Int) - 1:=by omega
  rw[e2];exact s2
 done:=by
  intro X hP hw hK hc i pins s σ H E I hf st hg;subst hP hw hK;obtain⟨f0,f1,f2,f3,f4,f5⟩:=hf it (by simp);have hi:i=n:=hg;have st':=st.2;have e1:(n:Int) - 1 - (i:Nat)=-1:=by omega
  rw[e1]at st';exact wpAny_pyNext_rev_end (I.ok.hd hc) st' λh' eb=>⟨rfl,I.turned (t':=s.toks) (λb o hb e=>eb b o hb e) f0 f1 f3 f4 f5⟩
 self:=λ_ _ _ _ _ st h=>wpAny_pyIter_revIter st.2 h
noncomputable def c0Q (K:Fg) (ta:TA):TI:=fun σ H R=>ta σ H λvs H1=>∃ a xs,vs=[.ref a]/\SqL K H1 a xs/\R (Itv K a xs.length) H1
theorem b8P (hg:Gl X "reversed") (hm:X.mg "reversed"=none) (ha:PA X [e] ta)
  (he:jN [e] X.env=(false,eval e X.env)::jN [] X.env:=by rfl):PI X tg (.Call (.Name "reversed" p) [e] [] pos) (c0Q X.K ta):=by
 intro i s σ H R I h;refine Call_ (a6E I hg hm boot_reversed (PyProof.Rows.callWith_type1 (thn (ha pos i s σ H _ I h) λy c ⟨A,v,f,k,l⟩=>?_) he rfl));obtain⟨a,d,rfl,n,q⟩:=l;obtain⟨u,rfl,r⟩:=a3M k;cases r;obtain⟨j,m,w,z⟩:=f.list n;have x:j.toArray.size=d.length:=by rw[fv,m.length]
 refine call_reversed_list w.isList ?_;rw[x];have g:(c.heap.push (revObj a ((d.length) - 1))).IsRevIter c.heap.objs.size a ((d.length) - 1 - 0):=⟨_,Heap.get?_push_size _ rfl,rfl,by simp[revObj]⟩;refine wpAny_pyIter_revIter g ?_;refine⟨c.heap.objs.size,[c.heap.objs.size],_,_,v,rfl,f.kept λb o e=>Heap.get?_push_of_some _ e,b3Z a _ d.length,⟨fg _,g⟩,λb t=>?_,q⟩;have e:b=c.heap.objs.size:=by simp_all
 subst e;exact f.fpOk (eh _) (f.hok.fresh (eh _))
section
variable {X:Cx}
end
end L2
namespace L3
open PySem PySem.Spec PyProof.Rows L2
section
variable {X:Cx}
noncomputable def putZ (kvs:List (Key×Z)) (k:Key) (v:Z):List (Key×Z):=
 if (kvs.any λkv=>decide (kv.1=k))=true then kvs.map (λkv=>if kv.1=k then (kv.1,v) else kv) else kvs++[(k,v)]
theorem b2d {α β:Type}:∀ {kvs:List (Key×α)}{us:List (Key×β)},us.map (·.1)=kvs.map (·.1)->(us.any λkv=>decide (kv.1=k))=kvs.any λkv=>decide (kv.1=k)
 | [],[],_=>rfl
 | [],_::_,h=>by simp at h
 | _::_,[],h=>by simp at h
 | p::ps,q::qs,h=>by
  rw[eG,eG]at h;injection h with h1 h2
  rw[gr,gr,b2d h2,h1]
theorem a9G {K:Fg}(rv:Rep K H w v) (hk:us.map (·.1)=kvs.map (·.1)) (hr:Reps K H (kvs.map (·.2)) (us.map (·.2))) :
  (putK us k v).map (·.1)=(putZ kvs k w).map (·.1)/\Reps K H ((putZ kvs k w).map (·.2)) ((putK us k v).map (·.2)):=by
 unfold putK putZ;rw[b2d hk]
 split
 ·have l:∀ {d:List _}{f:List _},f.map (·.1)=d.map (·.1)->Reps K H (d.map (·.2)) (f.map (·.2))->((f.map λc=>if c.1=k then (c.1,v) else c).map (·.1)=(d.map λc=>if c.1=k then (c.1,w) else c).map (·.1)/\Reps K H ((d.map λc=>if c.1=k then (c.1,w) else c).map (·.2)) ((f.map λc=>if c.1=k then (c.1,v) else c).map (·.2))):=by
   intro d
   induction d with
   | nil=>intro f g h;cases f with
    | nil=>exact⟨rfl,.nil⟩
    | cons _ _=>simp at g
   | cons p ps ih=>
    intro f g h;cases f with
    | nil=>simp at g
    | cons q qs=>
     rw[eG,eG]at g h;injection g with h3 h4
     obtain⟨a,b,e,j,m⟩:=h;injection e with e1 e2
     subst e1 e2;have i:=ih h4 m;simp only[eG]
     by_cases e:p.1=k
     ·rw[if_pos e,if_pos (h3.trans e)];exact⟨by rw[i.1,h3],.cons rv i.2⟩
     ·rw[if_neg e,if_neg (λz=>e (h3.symm.trans z))];exact⟨by rw[i.1,h3],.cons j i.2⟩
  exact l hk hr
 ·rw[eD,eD,hk,eD,eD];exact⟨rfl,hr.append (.cons rv .nil)⟩
noncomputable def keyZ:Z->Option Key
 | .non=>some (.inl none)
 | .int i=>some (.inl (some i))
 | .str x=>some (.inr x)
 | _=>none
noncomputable def b8Q:Z3:=λo i v G R=>match o with
 | .ref p=>∃ kvs k,G p=some (.dK kvs)/\keyZ i=some k/\kvs.length<jK/\R (put G p (.dK (putZ kvs k v)))
 | _=>False
theorem a5v {K:Fg}(h:keyZ i=some k) (r:Rep K H i v):v=kV k:=by
 cases i with
 | non=>rw[a0S]at r;cases h;exact r
 | int j=>rw[a0t]at r;cases h;exact r
 | str j=>rw[a0G]at r;cases h;exact r
 | _=>cases h
theorem b30 (hu:X.A.units+66<cLine):PSet X (λo i v H Q=>∃ a H',o=.ref a/\DPut H a i v H'/\Q H'):=by
 intro e s σ H o i v j l u Q I d f b h;obtain⟨a,H',rfl,g,q⟩:=h;cases (d);exact b1n (by omega) I g f b λk c=>⟨H',c,q⟩
theorem b2e {α β:Type}{kvs:List (Key×α)}{us:List (Key×β)}(h:us.map (·.1)=kvs.map (·.1)):us.length=kvs.length:=by
 rw[<- dY,h,dY]
theorem b47 (hu:X.A.units+66<cLine):SetQ X b8Q:=b4P (b30 hu) λo i v H Q r=>r.un λa b w G R g q f d h u=>by
 cases a with
 | ref p=>
  obtain⟨j,k,e,n,t,h⟩:=h;obtain⟨x,c,m,s⟩:=d _ _ e;have l:=a9G (k:=k) f m s;refine⟨p,_,g,?_,u _ _ h (d.set (.dK c) ⟨_,a0s,l.1,l.2.mono (.dK c)⟩) (.dK c)⟩;rw[a5v n q];exact DPut.k c (by rw[b2e m];exact t)
 | _=>exact er h
theorem b48 (e:G p=some (.dK kvs)) (a:keyZ i=some k) (z:kvs.length<jK) (h:Rg (put G p (.dK (putZ kvs k w)))):b8Q (.ref p) i w G Rg:=⟨kvs,k,e,a,z,h⟩
noncomputable def b6p:List Z->Hq->K3->Prop:=λxs G R=>match xs with
 | [.ref p]=>∃ ns:List Int,(G p=some (.lst (ns.map Z.int))\/∃ kvs,G p=some (.dK kvs)/\kvs.map (·.1)=ns.map λi=>Sum.inl (some i))/\ns.length<=1000/\∀ (t:Addr) (ms:List Int),G t=none->ms.Perm ns->ms.Pairwise (·<=·)->R (.ref t) (put G t (.lst (ms.map Z.int)))
 | _=>False
theorem b_sorted (hc:X.calm=true):a2r X (.builtin "sorted") b6p:=a04 (a8Y hc) λw H Q n=>n.un λm G R o b h q=>by
 match m,h with
 | [.ref p],h=>
  obtain⟨v,rfl,r⟩:=o.one;obtain⟨l,a,e,h⟩:=h;refine⟨p,l,by rw[r],?_,e,λt g c i j=>q _ _ _ _ (h t g (b.out c) i j) (by rw[a0C]) (b.set (.new c) (a1i (a25 _) (.new c))) (.new c)⟩;rcases a with a | ⟨kvs,a,hk⟩
  ·obtain⟨u,d,f⟩:=b _ _ a
   have:=a7Q f
   subst this;exact .inl (SqL.of d)
  ·obtain⟨k,d,s,_⟩:=b _ _ a;exact .inr ⟨k,d,s.trans hk⟩
variable {tg:Expr}{t:A3}
noncomputable def iRev (t:A3):I3:=fun σ G R=>t σ G λws G1=>∃ a xs,ws=[.ref a]/\G1 a=some (.lst xs)/\R xs.reverse (λG=>G a=some (.lst xs)) G1
theorem b2f {K:Fg}:a7d K ws.reverse (λG=>G a=some (.lst ws)) (Itv K a ws.length) H0:=λi G H g t l m=>by
 obtain⟨f,e,d⟩:=g a _ l;rw[js]at m ⊢;refine⟨λh=>h,λw c=>?_⟩;have b:i<ws.length:=by
  have:=(eL.mp c).1
  rwa [js]at this
 rw[List.getElem?_reverse b]at c;obtain⟨v,j,k⟩:=d.get c;refine⟨⟨b,f,SqL.of e,d.length.symm⟩,?_⟩;rintro x n ⟨rfl,y⟩
 have:=y f (SqL.of e)
 rw[j]at this;cases this;exact⟨k,g,.refl _ _⟩
theorem a8Z (hg:Gl X "reversed") (hm:X.mg "reversed"=none) (ha:QA X [e] t)
  (he:jN [e] X.env=(false,eval e X.env)::jN [] X.env:=by rfl):QI X tg (.Call (.Name "reversed" p) [e] [] pos) (iRev t):=a8N (b8P hg hm ha.p he) fun τ H R2 i=>i.un fun σ G R k hg h o=>by
 refine⟨σ,G,_,k,hg,h,λws G1 vs H1 ⟨a,xs,e,f,l⟩ g b j=>?_⟩;subst e;obtain⟨v,rfl,r⟩:=g.one;subst r;obtain⟨m,n,d⟩:=b a _ f;exact⟨a,m,rfl,SqL.of n,by rw[<- d.length];exact o _ _ _ _ _ l b2f b j⟩
theorem SrcP.uniq {K:Fg}(h:SrcP K H p xs) (g:(if p.1=true then H p.2=some (.tup ys) else H p.2=some (.lst ys))):SrcP K H p ys:=by
 unfold SrcP
 split
 ·next e=>rw[if_pos e]at g;exact SqT.of g
 ·next e=>rw[if_neg e]at g;exact SqL.of g
theorem b8R (h:t σ G λws G1=>∃ a xs,ws=[.ref a]/\G1 a=some (.lst xs)/\Ri xs.reverse (λG=>G a=some (.lst xs)) G1):iRev t σ G Ri:=h
end
noncomputable def putQ (f:Str) (y:Z):List (Str×Z)->List (Str×Z)
 | []=>[(f,y)]
 | (g,x)::r=>if g=f then (g,y)::r else (g,x)::putQ f y r
section
variable {K:Fg}{H:Hp}
theorem a3q:∀ {fs:List (Str×Z)}{gs:List (Str×V)},gs.map (·.1)=fs.map (·.1)->Reps K H (fs.map (·.2)) (gs.map (·.2))->(fs.lookup f=none->gs.lookup f=none)/\∀ z,fs.lookup f=some z->∃ v,gs.lookup f=some v/\Rep K H z v
 | [],[],_,_=>⟨λ_=>rfl,λ_ h=>by cases h⟩
 | [],_::_,h,_=>by simp at h
 | _::_,[],h,_=>by simp at h
 | (k,x)::fs,(k',v)::gs,h,r=>by
  simp at h;obtain⟨rfl,h⟩:=h;obtain⟨i,g,e,d,b⟩:=r;obtain⟨rfl,rfl⟩:=fU.inj e;have a:=a3q (f:=f) h b;rw[fD,fD];cases c:f==k' with
  | true=>
   refine⟨λe=>?_,λz e=>?_⟩
   ·cases e
   ·simp_all
  | false=>exact a
theorem a80 (ry:Rep K H y u):∀ {fs:List (Str×Z)}{gs:List (Str×V)},gs.map (·.1)=fs.map (·.1)->Reps K H (fs.map (·.2)) (gs.map (·.2))->(putF f u gs).map (·.1)=(putQ f y fs).map (·.1)/\Reps K H ((putQ f y fs).map (·.2)) ((putF f u gs).map (·.2))
 | [],[],_,_=>⟨rfl,by show Reps K H [y] [u];rw[a03];exact⟨u,[],rfl,ry,by rw[a0q]⟩⟩
 | [],_::_,h,_=>by simp at h
 | _::_,[],h,_=>by simp at h
 | (k,x)::fs,(k',v)::gs,h,r=>by
  simp at h;obtain⟨rfl,h⟩:=h;obtain⟨i,g,e,d,b⟩:=r;obtain⟨rfl,rfl⟩:=fU.inj e;have a:=a80 (f:=f) ry h b;unfold putQ putF
  by_cases c:k'=f
  ·rw[if_pos c,if_pos c];exact⟨by simp[h],by show Reps K H (y::fs.map _) _;rw[a03];exact⟨u,_,rfl,ry,b⟩⟩
  ·rw[if_neg c,if_neg c];exact⟨by simp[a.1],by show Reps K H (x::(putQ f y fs).map _) _;rw[a03];exact⟨v,_,rfl,d,a.2⟩⟩
end
section
variable {X:Cx}{C f:Addr}{fd:jQ}{ps:List Str}{sp:P3}{k:Nat}{a m x:Str}{p pos pos' tpos apos:Pos}{e o value:Expr}{es:List Expr}{te to:E3}{t:A3}
noncomputable def uFld (C:Addr) (te:E3) (a:Str):E3:=fun σ G R=>te σ G λx G1=>∃ q dx fs v,x=.ref q/\G1 q=some (.ins C dx fs)/\fs.lookup a=some v/\R v G1
theorem a4i (hc:Cls X.K C) (hn:NoAttr X.K C a) (he:QE X e te) (hb:kC e a X.env (eval e X.env)=eval e X.env:=by rfl):QE X (.Attribute e a pos) (uFld C te a):=⟨a1w (b7E he.p hb) fun τ H Q x=>x.un fun σ G R s t h k=>
 ⟨σ,G,_,s,t,h,λw D v B ⟨q,r,E,z,i,A,j,d⟩ c b l=>by
  subst i;obtain⟨u,m,g,y⟩:=b _ _ A;obtain⟨o,f,n⟩:=(a3q g y).2 _ j;exact⟨q,C,r,u,o,c,m,hc,hn,f,k _ _ _ _ d n b l⟩⟩⟩
noncomputable def b2g (C:Addr) (to te:E3) (a:Str):X3:=λnx _ _ _ σ G=>te σ G λy G1=>to σ G1 λx G2=>∃ q dx fs,x=.ref q/\G2 q=some (.ins C dx fs)/\fs.length<1000/\nx σ (put G2 q (.ins C dx (putQ a y fs)))
theorem b8S (hc:Cls X.K C) (hn:NoAttr X.K C a) (ho:QE X o to) (hv:QE X value te) (hs:ku value (some (.Attribute o a pos')) pos.line X.env=pure false:=by rfl):QS X (.Assign [.Attribute o a pos'] value pos) (b2g C to te a):=⟨a6o (b7F ho.p hv.p hs) λD τ H J=>J.un fun σ G nx rt bk ct hs x h F u2 u3 u4=>
 ⟨σ,G,_,hs,x,h,λy A u H1 E t r e=>⟨σ,A,_,hs.mono e,r,E,λw G2 v i ⟨q,j,fs,z,ea,hl,B⟩ k d g=>by
  subst z;obtain⟨n,l,m,I⟩:=d _ _ ea;have b:TK X.K i (L2.upd i q (.ins C j (putF a u n))):=.ins l;have s:=a80 (f:=a) (t.mono g) m I;exact⟨q,C,j,n,k,l,hc,hn,by have:=congrArg fh m;simp at this;omega,F _ _ _ _ B (hs.mono ((e.trans g).trans b)) (d.set b ⟨_,a0s,s.1,s.2.mono b⟩) ((e.trans g).trans b)⟩⟩⟩⟩
noncomputable def b2h (C:Addr) (to te:E3) (r:R3) (a:Str):X3:=λnx _ _ _ σ G=>to σ G λx G1=>∃ q dx fs v,x=.ref q/\G1 q=some (.ins C dx fs)/\fs.lookup a=some v/\te σ G1 λy G2=>r v y G2 λz G3=>∃ dx' fs',G3 q=some (.ins C dx' fs')/\fs'.length<1000/\nx σ (put G3 q (.ins C dx' (putQ a z fs')))
theorem b31 (hc:Cls X.K C) (hn:NoAttr X.K C a) (ho:QE X o to) (hv:QE X value te) (hop:OpQ X (lB op) r):QS X (.AugAssign (.Attribute o a tpos) op value pos) (b2h C to te r a):=⟨a6o (b1a ho.p hv.p hop) λD τ H hx=>hx.un fun σ G nx rt bk ct j Q h u1 u2 u3 u4=>
 ⟨σ,G,_,j,Q,h,λw R v H1 ⟨q,I,fs,z,ew,J,S,hq⟩ l e s=>by
  subst ew;obtain⟨Y,e1,e2,M⟩:=e _ _ J;obtain⟨v',L,r'⟩:=(a3q e2 M).2 _ S;refine⟨q,C,I,Y,v',l,e1,hc,hn,L,σ,R,_,j.mono s,e,hq,λy T u H2 U V t F=>⟨z,y,T,_,r'.mono F,V,t,U,λz2 G3 v3 n ⟨g,fs',x,hl,B⟩ N b W=>?_⟩⟩;obtain⟨c,d,i,m⟩:=b _ _ x;have k:TK X.K n (L2.upd n q (.ins C g (putF a v3 c))):=.ins d;have A:=a80 (f:=a) N i m;have E:=((s.trans F).trans W).trans k;exact⟨g,c,d,by have:=congrArg fh i;simp at this;omega,u1 _ _ _ _ B (j.mono E) (b.set k ⟨_,a0s,A.1,A.2.mono k⟩) E⟩⟩⟩
noncomputable def b32 (C:Addr) (m:Str) (sp:P3) (to:E3) (t:A3):E3:=fun σ G R=>to σ G λx G1=>∃ q dx fs,x=.ref q/\G1 q=some (.ins C dx fs)/\fs.lookup m=none/\t σ G1 λws G2=>sp (.ref q::ws) G2 R
theorem b33 (h:low X.K (b32 C m sp to t) τ H Q) (h1:o'=low X.K to) (h2:t'=lowA X.K t):b5Q C m (lowP X.K sp) [] E o' t' τ H Q:=by
 subst h1 h2;obtain⟨σ,G,R,f,s,h,D⟩:=h;refine⟨σ,G,_,f,s,h,λw B v H1 ⟨q,r,fs,y,n,A,x⟩ b a e=>?_⟩;subst y;obtain⟨u,g,z,p⟩:=a _ _ n;refine⟨q,r,u,b,g,(a3q z p).1 A,σ,B,_,f.mono e,a,x,λj o k H2 h2 i c l=>?_⟩;exact⟨.ref q::j,o,R,by rw[eR,a03];exact⟨v,k,rfl,by rw[a0C];exact b,i⟩,c,h2,D.mono (e.trans l)⟩
theorem a9H (ho:QE X o to) (c:Cls X.K C) (hm:Meth X.K C m f) (F:FnOk X.prog X.w X.K X.mg X.base CX0 k f fd ps (lowP X.K sp)) (hr:Room k X.A) (hb:Binds X.K fd ps []) (ha:QA X (e::es) t)
  (hst:jN (e::es) X.env=(false,eval e X.env)::jN es X.env:=by rfl) (hpl:(backTo pos (jN es X.env)).any (·.1)=false:=by rfl)
  (ht:eval (.Call (.Attribute o m apos) (e::es) [] pos) X.env=(do
   let ov <- eval o X.env
   ki apos.atName
   let (f,first) <- j7 [ov] (kB ov m pl)
   lj pos f first (backTo pos (jN (e::es) X.env)) (kD pos (kE [] X.env))):=by rfl):QE X (.Call (.Attribute o m apos) (e::es) [] pos) (b32 C m sp to t):=
 ⟨a1w (b1d ho.p c hm F hr hb .nil b3x ha.p hst hpl ht) λ_ _ _ h=>b33 h rfl rfl⟩
theorem a28 (ho:QE X o to) (c:Cls X.K C) (hm:Meth X.K C m f) (F:FnOk X.prog X.w X.K X.mg X.base CX0 k f fd ps (lowP X.K sp)) (hr:Room k X.A) (hb:Binds X.K fd ps [])
  (ht:eval (.Call (.Attribute o m apos) [] [] pos) X.env=(do
   let ov <- eval o X.env
   ki apos.atName
   let (f,first) <- j7 [ov] (kB ov m pl)
   lj pos f first (backTo pos (jN [] X.env)) (kD pos (kE [] X.env))):=by rfl):QE X (.Call (.Attribute o m apos) [] [] pos) (b32 C m sp to uNil):=
 ⟨a1w (b3o ho.p c hm F hr hb .nil b3x ht) fun τ H Q z=>z.un fun σ G R r u h j=>by
  refine⟨σ,G,_,r,u,h,λw s v D ⟨q,e,E,i,x,y,l⟩ b a n=>?_⟩;subst i;obtain⟨t,d,B,g⟩:=a _ _ x;exact⟨q,e,t,b,d,(a3q B g).1 y,[.ref q],s,R,by rw[eR,a03];exact⟨v,[],rfl,by rw[a0C];exact b,by rw[a0q]⟩,a,l,j.mono n⟩⟩
noncomputable def b8T (C:Addr) (sp:P3) (t:A3):E3:=fun σ G R=>t σ G λws G1=>∀ q dx,G1 q=none->sp (.ref q::ws) (put G1 q (.ins C dx [])) λv G2=>v=.non/\R (.ref q) G2
theorem made (h1:∀ q dx,G1 q=none->sp (.ref q::ws) (put G1 q (.ins C dx [])) λv G2=>v=.non/\R (.ref q) G2) (rs:Reps X.K H1 ws vs) (hg1:RH X.K G1 H1) (up:UpV X.K H1 R Q) (q dx:Addr) (n1:H1 q=none) (n2:H1 dx=none) (ne:dx≠q) :
  lowP X.K sp (.ref q::(vs++[])) (L2.upd (L2.upd H1 dx (.own q)) q (.ins C dx [])) (λv H2=>v=.non/\Q (.ref q) H2) E:=by
 have a:L2.upd H1 dx (.own q) q=none:=by rw[a0r (Ne.symm ne)];exact n1
 have d:TK X.K H1 (L2.upd _ q (.ins C dx [])):=(TK.new n2).trans (TK.new a);refine⟨.ref q::ws,put G1 q (.ins C dx []),_,?_,?_,h1 q dx (hg1.out n1),?_⟩
 ·rw[eR,a03];exact⟨_,vs,rfl,by rw[a0C],rs.mono d⟩
 ·exact (hg1.hid n2).set (TK.new a) ⟨[],a0s,rfl,by rw[eQ,a0q];rfl⟩
 ·rintro w h v i ⟨f,g⟩ b c e;subst f;exact⟨b,up _ _ _ _ g (by rw[a0C]) c (d.trans e)⟩
theorem b2i (M:Mk X.K C f) (F:FnOk X.prog X.w X.K X.mg X.base CX0 k f fd ps (lowP X.K sp)) (hr:Room (k+1) X.A) (hg:Gl X x) (hm:X.mg x=some (.ref C)) (hb:Binds X.K fd ps [])
  (hdb:(x==("__debug__":Str))=false:=by decide):QE X (.Call (.Name x p) [] [] pos) (b8T C sp uNil):=
 ⟨a1w (b3q M F hr hg hm hb .nil b3x hdb) fun τ H Q ⟨σ,G,R,hs,hg,h,g⟩ q c d e b=>made h (by rw[a0q]) hg g q c d e b⟩
variable {σ:S3}{G:Hq}{R:K3}{nx bk ct:C3}{rt:K3}{q dx:Addr}{fs:List (Str×Z)}{v:Z}{Ra:List Z->Hq->Prop}
theorem b8U (h:te σ G λx G1=>∃ q dx fs v,x=.ref q/\G1 q=some (.ins C dx fs)/\fs.lookup a=some v/\R v G1):uFld C te a σ G R:=h
theorem b8V (h:te σ G λy G1=>to σ G1 λx G2=>∃ q dx fs,x=.ref q/\G2 q=some (.ins C dx fs)/\fs.length<1000/\nx σ (put G2 q (.ins C dx (putQ a y fs)))):b2g C to te a nx rt bk ct σ G:=h
theorem b6q (h:to σ G λx G1=>∃ q dx fs,x=.ref q/\G1 q=some (.ins C dx fs)/\fs.lookup m=none/\t σ G1 λws G2=>sp (.ref q::ws) G2 R):b32 C m sp to t σ G R:=h
theorem b6r (h:t σ G λws G1=>∀ q dx,G1 q=none->sp (.ref q::ws) (put G1 q (.ins C dx [])) λv G2=>v=.non/\R (.ref q) G2):b8T C sp t σ G R:=h
theorem b8W (h:to σ G λx G1=>∃ q dx fs v,x=.ref q/\G1 q=some (.ins C dx fs)/\fs.lookup a=some v/\te σ G1 λy G2=>r v y G2 λz G3=>∃ dx' fs',G3 q=some (.ins C dx' fs')/\fs'.length<1000/\nx σ (put G3 q (.ins C dx' (putQ a z fs')))):b2h C to te r a nx rt bk ct σ G:=h
end
end L3
namespace L2
open PySem PySem.Spec PyProof.Rows
section
variable {X:Cx}{pins:List (Addr×Obj)}{σ:St}{H:Hp}{s:Shared}{a:Addr}{kvs:List (Key×V)}{k:Key}{d:V}{u r:Value}{A:Around}{E:Value->Shared->Prop}
theorem b8X (I:Inv X pins σ H s) (e:H a=some (.dK kvs)) (ry:RelV (kV k) u) (rd:RelV d r) (hz:kvs.length<jK)
  (h1:∀ v w' s',valV kvs k=some v->Inv X pins σ H s'->RelV v w'->Q w' s') (h2:valV kvs k=none->∀ s',Inv X pins σ (upd H a (.dK (putK kvs k d))) s'->Q r s') :
  wpAny (model X.prog X.w) A (call (.builtin "dict.setdefault") [.ref a,u,r]) Q E s:=by
 obtain⟨z,f,n,b,h⟩:=b1m I.hok e;have l:(putK kvs k d).length<=sizeLine:=by have:=a2l kvs k d;omega
 refine mn PySem.F.slot_dict_setdefault h.typeIs PySem.F.entry_dict_setdefault (PySem.F.args_dict_setdefault_3 _ _ _) (kt_meets_setdefault _ a (b0q ry) f r) ⟨n,h,by rw[<- b.length];exact z,λm i=>?_,λx p c o=>?_⟩
 ·cases hv:valV kvs k with
  | none=>
   have:=(b.val k).isSome_eq
   rw[hv,i]at this;cases this
  | some v=>
   have g:=b.val k;rw[hv,i]at g;exact h1 v m _ hv (I.tok _) g
 ·have j:valV kvs k=none:=by
   have:=(b.val k).isSome_eq
   rw[x]at this;cases hv:valV kvs k with
   | none=>rfl
   | some v=>rw[hv]at this;cases this
  have t:∃ q,p.get? a=some q:=let ⟨q,_,_,hq,_⟩:=c;⟨q,hq⟩
  exact h2 j _ (a8L I (by rw[e];exact True.intro) o t (b4K l f (b.put k rd) c))
end
section
variable {X:Cx}
theorem b6s (hu:X.A.units+66<cLine):MtR X "dict.get" (λx vs H Q=>∃ a y d o,x=.ref a/\vs=[y,d]/\DGet H a y o/\Q (o.getD d) H):=by
 intro f s σ H x m v t Q I c k ⟨a,y,d,o,h,e,g,q⟩;subst h e;cases c;obtain⟨u,r,rfl,j,l⟩:=b0j k;exact b7U (by omega) I g j l λn p i b=>⟨_,H,i,b,q⟩
theorem b6t:MtR X "dict.setdefault" (λx vs H Q=>∃ a kvs k d,x=.ref a/\vs=[kV k,d]/\H a=some (.dK kvs)/\kvs.length<jK/\(∀ v,valV kvs k=some v->Q v H)/\(valV kvs k=none->Q d (upd H a (.dK (putK kvs k d))))):=by
 intro m s σ H x z v B Q I i p ⟨a,y,k,d,n,j,e,q,g,t⟩;subst n j;cases i;obtain⟨u,r,rfl,o,f⟩:=b0j p;exact b8X I e o f q (λv A w l b c=>⟨v,H,b,c,g v l⟩) λh w b=>⟨d,_,b,f,t h⟩
theorem b6u:IxR X (λx y H Q=>∃ a kvs k v,x=.ref a/\y=kV k/\H a=some (.dK kvs)/\valV kvs k=some v/\Q v H):=by
 intro h i b s σ H x y v u Q I n B ⟨a,D,k,w,p,m,e,l,q⟩ t;subst p m;cases n;obtain⟨z,E,j,g,c⟩:=b1m I.hok e;obtain⟨d,A,f⟩:=RelO.some_of (by rw[<- l];exact g.val k);exact ml c.typeIs PySem.F.slot_dict_getitem.lookup (wpAny_getItem_of (b0q B) c.mapOf A ⟨rfl,w,H,I.tok _,f,q⟩) t
theorem b2j (hu:X.A.units+66<cLine):OpR X (jT .NotIn) (λx y H Q=>∃ a o,y=.ref a/\DGet H a x o/\Q (.bl (!o.isSome)) H):=by
 intro d s σ H x y u v Q I c f ⟨a,o,b,g,q⟩;subst b;cases f;exact b5Z (by omega) I g c λh e=>⟨.bl _,H,e,rfl,q⟩
end
end L2
namespace L3
open PySem PySem.Spec PyProof.Rows L2
noncomputable def valZ (kvs:List (Key×Z)) (k:Key):Option Z:=(kvs.find? λkv=>decide (kv.1=k)).map (·.2)
theorem a2z {K:Fg}:∀ {kvs:List (Key×Z)}{us:List (Key×V)},us.map (·.1)=kvs.map (·.1)->Reps K H (kvs.map (·.2)) (us.map (·.2))->(valZ kvs k=none->valV us k=none)/\∀ z,valZ kvs k=some z->∃ v,valV us k=some v/\Rep K H z v
 | [],[],_,_=>⟨λ_=>rfl,λ_ h=>by cases h⟩
 | [],_::_,h,_=>by simp at h
 | _::_,[],h,_=>by simp at h
 | (c,x)::fs,(c',v)::gs,h,r=>by
  simp at h;obtain⟨rfl,h⟩:=h;obtain⟨g,f,e,d,a⟩:=r;obtain⟨rfl,rfl⟩:=fU.inj e;have b:=a2z (k:=k) h a;unfold valZ valV;rw[fK,fK];cases q:decide (c'=k) with
  | true=>
   refine⟨λe=>?_,λz e=>?_⟩
   ·cases e
   ·cases e;exact⟨v,rfl,d⟩
  | false=>exact b
section
variable {X:Cx}
noncomputable def b6v:Z->List Z->Hq->K3->Prop:=λx xs G R=>match x,xs with
 | .ref p,[y,d]=>∃ kvs k,(G p=some (.dK kvs)\/G p=some (.dF kvs))/\keyZ y=some k/\R ((valZ kvs k).getD d) G
 | _,_=>False
theorem b2k (hu:X.A.units+66<cLine):MtQ X "dict.get" b6v:=b0r (b6s hu) λx E H Q m=>m.un λw B G R j s i h l=>by
 match w,B,h with
 | .ref p,[y,d],h=>
  obtain⟨v,q,rfl,t,o⟩:=s.two;obtain⟨g,k,e,D,h⟩:=h;obtain⟨a,f,c,b⟩:∃ a,Rd H p (.dK a)/\a.map _=g.map _/\Reps X.K H _ (a.map _):=by
   rcases e with e | e
   ·obtain⟨a,f,c,b⟩:=i _ _ e;exact⟨a,.inl f,c,b⟩
   ·obtain⟨C,a,f,c,b⟩:=i _ _ e;exact⟨a,.inr ⟨C,f⟩,c,b⟩
  refine⟨p,v,q,valV a k,j,rfl,by rw[a5v D t];exact .inl ⟨a,k,f,rfl,rfl⟩,?_⟩;cases hz:valZ g k with
  | none=>
   rw[hz]at h;rw[(a2z c b).1 hz];exact l _ _ _ _ h o i (.refl _ _)
  | some z=>
   rw[hz]at h;obtain⟨u,r,n⟩:=(a2z c b).2 z hz;rw[r];exact l _ _ _ _ h n i (.refl _ _)
noncomputable def b8Y:Z->List Z->Hq->K3->Prop:=λx xs G R=>match x,xs with
 | .ref p,[y,d]=>∃ kvs k,G p=some (.dK kvs)/\keyZ y=some k/\kvs.length<jK/\(∀ z,valZ kvs k=some z->R z G)/\(valZ kvs k=none->R d (put G p (.dK (putZ kvs k d))))
 | _,_=>False
theorem a75:MtQ X "dict.setdefault" b8Y:=b0r b6t λx M H Q C=>C.un λw t G R i F l h r=>by
 match w,t,h with
 | .ref p,[y,d],h=>
  obtain⟨v,E,rfl,B,q⟩:=F.two;obtain⟨b,k,e,L,A,s,J⟩:=h;obtain⟨D,c,f,g⟩:=l _ _ e;refine⟨p,D,k,E,i,by rw[a5v L B],c,by rw[b2e f];exact A,λu a=>?_,λa=>?_⟩
  ·cases hq:valZ b k with
   | none=>rw[(a2z f g).1 hq]at a;cases a
   | some z=>
    obtain⟨I,j,m⟩:=(a2z f g).2 z hq;rw[j]at a;cases a;exact r _ _ _ _ (s z hq) m l (.refl _ _)
  ·cases hq:valZ b k with
   | some z=>
    obtain⟨I,j,m⟩:=(a2z f g).2 z hq;rw[j]at a;cases a
   | none=>
    have n:=a9G (k:=k) q f g;exact r _ _ _ _ (J hq) (q.mono (.dK c)) (l.set (.dK c) ⟨_,a0s,n.1,n.2.mono (.dK c)⟩) (.dK c)
noncomputable def zDIx:R3:=λx y G R=>match x with
 | .ref p=>∃ kvs k z,G p=some (.dK kvs)/\keyZ y=some k/\valZ kvs k=some z/\R z G
 | _=>False
theorem c0R:IxQ X zDIx:=b75 b6u λx y H Q f=>f.un λa b G R d q c h j=>by
 cases a with
 | ref p=>
  obtain⟨u,k,z,e,t,i,h⟩:=h;obtain⟨n,r,m,l⟩:=c _ _ e;obtain⟨s,o,g⟩:=(a2z m l).2 z i;exact⟨p,n,k,s,d,a5v t q,r,o,j _ _ _ _ h g c (.refl _ _)⟩
 | _=>exact er h
theorem b8Z (e:G p=some (.dK kvs)) (a:keyZ y=some k) (h:R ((valZ kvs k).getD d) G):b6v (.ref p) [y,d] G R:=⟨kvs,k,.inl e,a,h⟩
theorem b2l (e:G p=some (.dK kvs)\/G p=some (.dF kvs)) (a:keyZ y=some k) (h:R ((valZ kvs k).getD d) G):b6v (.ref p) [y,d] G R:=⟨kvs,k,e,a,h⟩
theorem b80 (e:G p=some (.dK kvs)) (a:keyZ y=some k) (z:kvs.length<jK) (h1:∀ z,valZ kvs k=some z->R z G) (h2:valZ kvs k=none->R d (put G p (.dK (putZ kvs k d)))):b8Y (.ref p) [y,d] G R:=⟨kvs,k,e,a,z,h1,h2⟩
theorem c0S (e:G p=some (.dK kvs)) (a:keyZ y=some k) (v:valZ kvs k=some w) (h:R w G):zDIx (.ref p) y G R:=⟨kvs,k,w,e,a,v,h⟩
theorem b81 {P:Prop}(e:G p=some (.dK kvs)) (h:P):tyZ "dict" (.ref p) G/\P:=⟨.inr ⟨rfl,kvs,.inl e⟩,h⟩
theorem b82 {P:Prop}(e:G p=some (.dK kvs)\/G p=some (.dF kvs)) (h:P):tyZ "dict" (.ref p) G/\P:=⟨.inr ⟨rfl,kvs,e⟩,h⟩
end
noncomputable def keysOf:List (Z×Z)->Option (List (Key×Z))
 | []=>some []
 | (x,y)::r=>match keyZ x,keysOf r with
  | some k,some kvs=>some ((k,y)::kvs)
  | _,_=>none
noncomputable def PReps (K:Fg) (H:Hp):List (Z×Z)->List (V×V)->Prop:=Paired λp q=>Rep K H p.1 q.1/\Rep K H p.2 q.2
theorem PReps.mono {K:Fg}(t:TK K H H'):∀ {ps:List (Z×Z)}{vs:List (V×V)},PReps K H ps vs->PReps K H' ps vs
 | _,_,.nil=>.nil
 | _,_,.cons r s=>.cons ⟨r.1.mono t,r.2.mono t⟩ (PReps.mono t s)
section
variable {X:Cx}
theorem a9I {K:Fg}(r:Reps K H ws vs):∀ k:Nat,Reps K H (eM k ws).flatten (eM k vs).flatten
 | 0=>by rw[List.replicate_zero,List.flatten_nil,a0q];rfl
 | k+1=>by rw[g7,gL,g7,gL];exact r.append (a9I r k)
noncomputable def zRep:R3:=λx y G R=>match x,y with
 | .ref l,.int k=>∃ ws,G l=some (.lst ws)/\0<=k/\k<1000/\ws.length*k.toNat<=jK/\∀ p,G p=none->R (.ref p) (put G p (.lst (eM k.toNat ws).flatten))
 | _,_=>False
theorem c0T:OpQ X (jY .Mult) zRep:=a5K b7P λx y H Q q=>q.un λa b G R m g c h r=>by
 match a,b,h with
 | .ref l,.int k,h=>
  obtain⟨t,e,u,s,o,h⟩:=h;obtain⟨f,n,i⟩:=c _ _ e;refine⟨l,k,f,m,g,n,by omega,by omega,by rw[<- i.length];exact o,λp j=>?_⟩;have d:TK X.K H (L2.upd H p (.lst (eM k.toNat f).flatten)):=.new j;exact r _ _ _ _ (h p (c.out j)) (by rw[a0C]) (c.set d ⟨_,a0s,(a9I i _).mono d⟩) d
theorem c0U (e:G l=some (.lst ws)) (h0:0<=k) (h1:k<1000) (hz:ws.length*k.toNat<=jK) (h:∀ p,G p=none->R (.ref p) (put G p (.lst (eM k.toNat ws).flatten))):zRep (.ref l) (.int k) G R:=⟨ws,e,h0,h1,hz,h⟩
end
end L3
namespace L3
theorem ln0 {α:Type}{C:List α->Prop}(h:C []):∀ us:List α,us.length=0->C us
 | [],_=>h
theorem lnS {α:Type}{C:List α->Prop}(h:∀ a,∀ us:List α,us.length=n->C (a::us)):∀ us:List α,us.length=n+1->C us
 | a::us,e=>h a us (Nat.succ.inj e)
end L3
namespace L2
open PySem PySem.Spec PyProof.Rows
section
variable {X:Cx}
end
end L2
namespace L3
open PySem PySem.Spec PyProof.Rows L2
section
variable {X:Cx}{e:Expr}{es:List Expr}{t:A3}{x y:Str}{p p2 pos pos2:Pos}
end
section
variable {X:Cx}
end
end L3
namespace L2
open PySem PySem.Spec PyProof.Rows
section
variable {X:Cx}
theorem b0y:CallR X (.type "str") (λxs H Q=>(∃ i:Int,xs=[.int i]/\i.natAbs.log2<1920/\Q (.str (Str.ofString (toString i))) H)\/∃ x,xs=[.str x]/\Q (.str x) H):=by
 intro b s σ H c d Q I r h;rcases h with ⟨i,rfl,hi,q⟩ | ⟨x,rfl,q⟩
 ·obtain⟨u,rfl,a⟩:=a3M r;obtain⟨t,rfl⟩:=a;exact PySem.P.str_of_int hi ⟨.str _,H,I.tok _,⟨_,rfl⟩,q⟩
 ·obtain⟨u,rfl,a⟩:=a3M r;obtain⟨t,rfl⟩:=a;exact PySem.P.str_of_str ⟨.str _,H,I,⟨_,rfl⟩,q⟩
theorem b0z:CallR X (.type "int") (λxs H Q=>∃ (x:Str) (n:Int),xs=[.str x]/\intText? x=some n/\x.length<=640/\Q (.int n) H):=by
 intro d s σ H e f Q I r h;obtain⟨x,n,rfl,b,a,q⟩:=h;obtain⟨u,rfl,c⟩:=a3M r;obtain⟨t,rfl⟩:=c;exact PySem.W.KIN.call_text b a ⟨.int n,H,I.tok _,⟨_,rfl⟩,q⟩
noncomputable def KD (X:Cx) (a:Addr) (kvs:List (Key×V)):Prop:=kvs.length<=jK/\(a==kg)=false/\∃ vs,KV kvs vs/\∀ h:Heap,X.K.In h->h.DictOf (a0N X.prog X.w) a vs
end
end L2
namespace L3
open PySem PySem.Spec PyProof.Rows L2
section
variable {X:Cx}
theorem b83 (h:PE X e (tC (.ref a))):QE X e (uC (.ref a)):=a8M h λ_=>by rw[a0C]
theorem b34 (hg:Gl X x) (hm:X.mg x=some (.ref a)) (hd:(x==("__debug__":Str))=false:=by decide):PE X (.Name x pos) (tC (.ref a)):=b0V hg hm rfl hd
noncomputable def zStr:List Z->Hq->K3->Prop:=λxs G R=>match xs with
 | [.int i]=>i.natAbs.log2<1920/\R (.str (Str.ofString (toString i))) G
 | [.str x]=>R (.str x) G
 | _=>False
theorem b_str:a2r X (.type "str") zStr:=a04 b0y λf H Q d=>d.un λe G R a b h c=>by
 match e,h with
 | [.int i],h=>
  obtain⟨v,rfl,r⟩:=a.one;exact .inl ⟨i,by rw[r],h.1,c _ _ _ _ h.2 (by rw[a0G]) b (.refl _ _)⟩
 | [.str x],h=>
  obtain⟨v,rfl,r⟩:=a.one;exact .inr ⟨x,by rw[r],c _ _ _ _ h (by rw[a0G]) b (.refl _ _)⟩
noncomputable def c0V:List Z->Hq->K3->Prop:=λxs G R=>match xs with
 | [.str x]=>∃ n,intText? x=some n/\x.length<=640/\R (.int n) G
 | _=>False
theorem b_int:a2r X (.type "int") c0V:=a04 b0z λi H Q f=>f.un λc G R e b h a=>by
 match c,h with
 | [.str x],h=>
  obtain⟨v,rfl,r⟩:=e.one;obtain⟨n,g,d,h⟩:=h;exact⟨x,n,by rw[r],g,d,a _ _ _ _ h (by rw[a0t]) b (.refl _ _)⟩
noncomputable def b84:List Z->Hq->K3->Prop:=λxs G R=>match xs with
 | [.ref p]=>∃ ws,G p=some (.lst ws)/\R (.tup ws) G
 | _=>False
theorem b_tuple:a2r X (.type "tuple") b84:=a04 a63 λl H Q f=>f.un λk G R j b h g=>by
 match k,h with
 | [.ref p],h=>
  obtain⟨v,rfl,r⟩:=j.one;obtain⟨m,e,h⟩:=h;obtain⟨d,i,c⟩:=b _ _ e;exact⟨p,d,by rw[r],.inl ⟨SqL.of i,λt a=>g _ _ _ _ h (by rw[a1K];exact⟨t,d,rfl,a0s,c.mono (.new a)⟩) (b.hid a) (.new a)⟩⟩
noncomputable def zV:Z->V
 | .str x=>.str x
 | .ref a=>.ref a
 | .int i=>.int i
 | _=>.non
noncomputable def b85:Z->Bool
 | .str _=>true
 | .ref _=>true
 | .int _=>true
 | _=>false
noncomputable def KDZ (X:Cx) (a:Addr) (kvs:List (Key×Z)):Prop:=(∀ kv∈kvs,b85 kv.2=true)/\KD X a (kvs.map λkv=>(kv.1,zV kv.2))
noncomputable def KTup (K:Fg) (a:Addr) (ss:List Str):Prop:=∃ (o:Obj) (its:Array Value) (n:Nat),K.lookup a=some o/\o.cls=.type "tuple"/\o.data=.seq its n/\its.size<=jK/\Vals (ss.map V.str) its.toList
theorem KTup.sq {K:Fg}(h:KTup K a ss):SqT K H a (ss.map V.str):=.inr h
variable {t:A3}
end
noncomputable def KDk (w:World) (K:Fg) (a:Addr) (kvs:List (Key×Z)):Prop:=(∀ kv∈kvs,b85 kv.2=true)/\kvs.length<=jK/\(a==kg)=false/\∃ vs:List (Key×Value),KV (kvs.map λkv=>(kv.1,zV kv.2)) vs/\∀ (P:jO) (h:Heap),K.In h->h.DictOf (a0N P w) a vs
theorem KDk.at (h:KDk X.w X.K a kvs):KDZ X a kvs:=⟨h.1,by rw[dY];exact h.2.1,h.2.2.1,let ⟨vs,r,q⟩:=h.2.2.2;⟨vs,r,q X.prog⟩⟩
end L3
namespace L2
open PySem PySem.W
end L2
namespace L2
open PySem PySem.Spec PyProof.Rows
section
variable {X:Cx}{e:Addr}{oe:Obj}{C:Addr}
end
end L2
namespace L3
open PySem PySem.Spec PyProof.Rows L2
abbrev PX3:=List Z->Hq->K3->(Addr->Hq->Prop)->Prop
noncomputable def UpX (K:Fg) (H:Hp) (EE:Addr->Hq->Prop) (E:XK):Prop:=∀ C G H',EE C G->RH K G H'->TK K H H'->E (.ref C) none H'
noncomputable def a4P (K:Fg) (sp:PX3):Sp:=λvs H Q E=>∃ ws G R EE,Reps K H ws vs/\RH K G H/\sp ws G R EE/\UpV K H R Q/\UpX K H EE E
theorem b86 {K:Fg}(t:TKs H H'):TK K H H':=⟨t.tup,λa b h=>by
 rcases h with ⟨o,h⟩ | h
 ·exact .inl ⟨o,t.frz _ _ _ h⟩
 ·exact .inr h,t.frz⟩
noncomputable def UpN (K:Fg) (EE:Addr->Hq->Prop) (E:XK):Prop:=∀ C G H',EE C G->RH K G H'->E (.ref C) none H'
theorem UpX.since {K:Fg}(h:UpX K H EE E):UpN K EE (since H E):=λC G a q r t=>h C G a q r (b86 t)
abbrev EE0:Addr->Hq->Prop:=λ_ _=>False
theorem up0 {K:Fg}:UpN K EE0 E0:=λ_ _ _ z _=>z.elim
theorem a29:a2N (CXx X.prog X.w) X E0:=by simp[a2N,CXx]
section
variable {X:Cx}{E:XK}{EE:Addr->Hq->Prop}{e e0:Expr}{es:List Expr}{x n:Str}{p pos np cpos hpos tpos:Pos}{t:A3}{te:E3}{k:Nat}{f C D:Addr}{fd:jQ}{ps:List Str}{sp:PX3}
noncomputable def b49 (sp:PX3) (EE:Addr->Hq->Prop) (t:A3):E3:=fun σ G R=>t σ G λws G1=>sp ws G1 R EE
theorem a5T (hp:a2N (CXx X.prog X.w) X E) (hU:UpN X.K EE E) (F:FnOk X.prog X.w X.K X.mg X.base (CXx X.prog X.w) k f fd ps (a4P X.K sp)) (hr:Room k X.A) (hg:Gl X x) (hm:X.mg x=some (.ref f)) (hk:PySem.W.keepIn X.K (.ref f)=true) (hb:Binds X.K fd ps []) (ha:QA X (e::es) t)
  (hdb:(x==("__debug__":Str))=false:=by decide) (he:jN (e::es) X.env=(false,eval e X.env)::jN es X.env:=by rfl) (hpl:(backTo pos (jN es X.env)).any (·.1)=false:=by rfl) :
  QE X (.Call (.Name x p) (e::es) [] pos) (b49 sp EE t):=⟨a1w (b1c F hr hg hm hk hb .nil hp ha.p hdb he hpl) fun τ H Q l=>l.un fun σ G R i hg h n=>⟨σ,G,_,i,hg,h,λo g vs H1 c d b j=>⟨o,g,R,EE,by rw[eR];exact d,b,c,n.mono j,λC G m z r _=>hU C G m z r⟩⟩⟩
noncomputable def b5a (EE:Addr->Hq->Prop) (C:Addr) (te:E3):X3:=λ_ _ _ _ σ G=>te σ G λ_ G1=>EE C G1
theorem a81 (O:Outs X E) (hU:UpX X.K X.H₀ EE E) (hc:X.calm=true) (hg:Gl X x) (hm:X.mg x=some (.ref C)) (hq:PySem.W.excIn X.K C veM "ValueError.__new__"=true) (he:QE X e0 te)
  (hs:jN [e0] X.env=(false,eval e0 X.env)::jN [] X.env:=by rfl) (hp:(backTo cpos (jN [] X.env)).any (·.1)=false:=by rfl) (hd:(x==("__debug__":Str))=false:=by decide) :
  QS X (.Raise (some (.Call (.Name x np) [e0] [] cpos)) none pos) (b5a EE C te):=⟨a6o (b3I O hc hg hm hq he.p hs hp hd) λD τ H d=>d.un fun σ G nx rt bk ct hs hg h u1 u2 u3 u4=>⟨σ,G,_,hs,hg,h,λw G1 v H1 e rv a t1=>λt=>hU _ _ _ e a (b86 t)⟩⟩
variable {o:Expr}{m:Str}{apos:Pos}{to:E3}{PC:Addr->Prop}
noncomputable def b5b (C:Addr) (m:Str) (sp:PX3) (EE:Addr->Hq->Prop) (to:E3) (t:A3):E3:=fun σ G R=>to σ G λx G1=>∃ q dx fs,x=.ref q/\G1 q=some (.ins C dx fs)/\fs.lookup m=none/\t σ G1 λws G2=>sp (.ref q::ws) G2 R EE
theorem a3V (hp:a2N (CXx X.prog X.w) X E) (hU:UpN X.K EE E) (ho:QE X o to) (c:Cls X.K C) (hm:Meth X.K C m f) (F:FnOk X.prog X.w X.K X.mg X.base (CXx X.prog X.w) k f fd ps (a4P X.K sp)) (hr:Room k X.A) (hb:Binds X.K fd ps []) (ha:QA X (e::es) t)
  (hst:jN (e::es) X.env=(false,eval e X.env)::jN es X.env:=by rfl) (hpl:(backTo pos (jN es X.env)).any (·.1)=false:=by rfl)
  (ht:eval (.Call (.Attribute o m apos) (e::es) [] pos) X.env=(do
   let ov <- eval o X.env
   ki apos.atName
   let (f,first) <- j7 [ov] (kB ov m pl)
   lj pos f first (backTo pos (jN (e::es) X.env)) (kD pos (kE [] X.env))):=by rfl):QE X (.Call (.Attribute o m apos) (e::es) [] pos) (b5b C m sp EE to t):=
 ⟨a1w (b1d ho.p c hm F hr hb .nil hp ha.p hst hpl ht) fun τ H Q D=>D.un fun σ G R i T h M=>by
  refine⟨σ,G,_,i,T,h,λw u v H1 ⟨q,j,fs,L,V,B,n⟩ b a g=>?_⟩;subst L;obtain⟨S,I,N,l⟩:=a _ _ V;refine⟨q,j,S,b,I,(a3q N l).1 B,σ,u,_,i.mono g,a,n,λx J Y H2 W U d s=>?_⟩;exact⟨.ref q::x,J,R,EE,by rw[eR,a03];exact⟨v,Y,rfl,by rw[a0C];exact b,U⟩,d,W,M.mono (g.trans s),λC G y z r _=>hU C G y z r⟩⟩
end
section
variable {X:Cx}{EW:XK}{N':List Str}{sc:Scope}{cap:List (Option Nat)}{tg iter elt:Expr}{ifs:List Expr}{wi:I3}{pt:Pt}{tt:T3}{te:E3}{pos:Pos}
end
section
variable {P:jO}{w:World}{K:Fg}{mg:Str->Option Value}{base:Heap}
theorem fn3x {st:Stmt}(F:Fun K x qual st f fd) (S:FnScope N ps (a0e st)) (len:∀ ws G R EE,sp ws G R EE->ws.length=ps.length)
  (hbody:∀ (cdv:Value) (A:Around) (outer:List Env) (s:Shared) (H:Hp) (E:XK) (ws:List Z) (G:Hq) (R:K3) (EE:Addr->Hq->Prop),Room k (A.deeper (envOfC qual (a0e st) s.heap.objs.size f cdv))->sp ws G R EE->UpX K H EE E ->
   ∃ t,QSs (cxOf (CXx P w) P w K mg base N qual (a0e st) f cdv A outer s H E) (a12 st) t/\t (λ_ G'=>R .non G') R (λ_ _=>False) (λ_ _=>False) (a46 N ws) G):FnOk P w K mg base (CXx P w) (k+1) f fd ps (a4P K sp):=by
 obtain⟨I,T,U,C,M,V,m,L,z,rfl,n,g⟩:=F.ex;refine b7J n g S (λo H Q E ⟨b,G,R,e,c,j,h,d,l⟩=>by rw[<- c.length];exact len _ _ _ _ h) ?_;rintro A a s H o Q E r ⟨b,G,R,e,c,j,h,d,l⟩;obtain⟨t,v,q⟩:=hbody m A a s H E b G R e r h l;exact⟨_,v.p,a46 N b,G,_,R,_,_,.start c,j,q,fun σ' J τ' D u B i y=>d _ _ _ _ u (by rw[a0S]) i y,d,λ_ _ _ _ h _ _ _=>h.elim,λ_ _ _ _ h _ _ _=>h.elim⟩
end
mutual
def DZ (G:Hq):PyData->Z->Prop
 | .none,x=>x=.non
 | .bool b,x=>x=.bl b
 | .int i,x=>x=.int i
 | .str s,x=>x=.str s
 | .list ds,x=>∃ p ws,x=.ref p/\G p=some (.lst ws)/\DZs G ds ws
 | .tuple ds,x=>∃ ws,x=.tup ws/\DZs G ds ws
 | .dict _,_=>False
def DZs (G:Hq):List PyData->List Z->Prop
 | [],ws=>ws=[]
 | d::ds,ws=>∃ w r,ws=w::r/\DZ G d w/\DZs G ds r
end
mutual
theorem DZ.sm {G G':Hq}(s:Sm G G'):∀ {d:PyData}{w:Z},DZ G d w->DZ G' d w
 | .none,w,q=>by unfold DZ at q ⊢;exact q
 | .bool b,w,q=>by unfold DZ at q ⊢;exact q
 | .int i,w,q=>by unfold DZ at q ⊢;exact q
 | .str _,w,q=>by unfold DZ at q ⊢;exact q
 | .list ds,w,q=>by
  unfold DZ at q ⊢;obtain⟨p,ws,e,hp,q⟩:=q;exact⟨p,ws,e,s _ _ hp,DZs.sm s q⟩
 | .tuple ds,w,q=>by
  unfold DZ at q ⊢;obtain⟨ws,e,q⟩:=q;exact⟨ws,e,DZs.sm s q⟩
 | .dict _,w,q=>by unfold DZ at q;exact q.elim
theorem DZs.sm {G G':Hq}(s:Sm G G'):∀ {ds:List PyData}{ws:List Z},DZs G ds ws->DZs G' ds ws
 | [],ws,q=>by unfold DZs at q ⊢;exact q
 | d::ds,ws,q=>by
  unfold DZs at q ⊢;obtain⟨w,r,e,q1,q2⟩:=q;exact⟨w,r,e,DZ.sm s q1,DZs.sm s q2⟩
end
section
variable {X:Cx}
end
end L3
namespace L2
open PySem PySem.Spec PyProof.Rows
end L2
namespace L3
open PySem PySem.Spec PyProof.Rows L2
section
variable {X:Cx}{E:XK}{e:Expr}{es:List Expr}{x n:Str}{p pos np hpos tpos:Pos}{t:A3}{k:Nat}{f D:Addr}{fd:jQ}{ps:List Str}{sp:PX3}
end
end L3
namespace L2
open PySem PySem.Spec PyProof.Rows
noncomputable def ItD (o:Obj) (a:Addr) (kvs:List (Key×V)):It:=
 ⟨λi H=>H a=some (.frz o (.dK kvs))/\i<kvs.length,λi H x H'=>H'=H/\∃ p,kvs[i]?=some p/\x=kV p.1,λi H=>H a=some (.frz o (.dK kvs))/\kvs.length<=i⟩
theorem c0W (h:(a0N P w).is k u=true):RelV (kV k) u:=by
 rcases a0F h with ⟨i,t,rfl,rfl⟩ | ⟨x,t,rfl,rfl⟩ | ⟨rfl,rfl⟩
 ·exact⟨t,rfl⟩
 ·exact⟨t,rfl⟩
 ·rfl
theorem a9J:∀ {kvs:List (Key×V)}{vs:List (Key×Value)},KV kvs vs->vs.length=kvs.length
 | [],vs,h=>by cases h;rfl
 | p::kvs,vs,h=>by
  cases h with
  | cons h1 h2=>rw[eu,eu,a9J h2]
theorem b5c:∀ {kvs:List (Key×V)}{vs:List (Key×Value)}{i:Nat}{p:Key×V},KV kvs vs->kvs[i]?=some p->∃ q,vs[i]?=some q/\p.1=q.1
 | [],vs,i,p,h,e=>by simp at e
 | p0::kvs,vs,i,p,h,e=>by
  cases h with
  | cons h1 h2=>
   cases i with
   | zero=>cases e;exact⟨_,rfl,h1.1⟩
   | succ i=>exact b5c (i:=i) h2 (by simpa using e)
theorem b2m {P:jO}{w:World}{K:Fg}{tg:Expr}(a it:Addr) {o:Obj}(kvs:List (Key×V)) {es:Array mf}{ep:Nat}(hd:o.data=.dict es ep):Turn P w K tg (ItD o a kvs) [it] it (λi h=>h.IsKeyIter it a i kvs.length ep) where
 mem:=by simp
 obj:=λi h st b hb=>by
  have e:b=it:=by simpa using hb
  subst e;obtain⟨o,e,c,d⟩:=st;exact⟨o,e,λv z=>by rw[d]at z;cases z⟩
 keep:=λi h h' st k=>st.at λo e=>k it (by simp) o e
 item:=by
  intro X hP hw hK hc i pins s σ H E I hf st hg;subst hP hw hK;obtain⟨ha,hi⟩:=hg;obtain⟨g,hz,hsm,vs,kv,dof⟩:=(show ObjOk X.prog X.w H s.heap a (.frz o (.dK kvs)) from I.hok a _ ha);obtain⟨f0,f1,f2,f3,f4,f5⟩:=hf it (by simp);have hl:=a9J kv;have dat:s.heap.DictAt (a0N X.prog X.w) a vs ep:=by
   obtain⟨o',es',ep',h1,h2,h3,h4⟩:=dof;rw[g]at h1;cases h1;rw[hd]at h3;cases h3;exact⟨o,es,g,h2,hd,h4⟩
  obtain⟨p,hp⟩:∃ p,kvs[i]?=some p:=⟨kvs[i],eI hi⟩;obtain⟨⟨k,v⟩,hq,e1⟩:=b5c kv hp;refine wpAny_pyNext_dict_item (by rw[hl];exact st) dat hq λkey h' hk st' sb=>?_;have I1:Inv X pins σ H { s with heap:=h' }:=I.turned (t':=s.toks) (λb o hb e=>(sb.2 b hb).trans e) f0 f1 f3 f4 f5;rw[hl]at st';obtain⟨oi,e,c,d⟩:=id st';exact⟨key,rfl,b0f (s:={ s with heap:=h' }) e c d (by decide) ⟨kV p.1,H,I1,by rw[e1];exact c0W hk,⟨rfl,p,hp,rfl⟩,st',λb hb=>(hf b hb).1⟩⟩
 done:=by
  intro X hP hw hK hc i pins s σ H E I hf st hg;subst hP hw hK;obtain⟨ha,hi⟩:=hg;obtain⟨g,hz,hsm,vs,kv,dof⟩:=(show ObjOk X.prog X.w H s.heap a (.frz o (.dK kvs)) from I.hok a _ ha);obtain⟨f0,f1,f2,f3,f4,f5⟩:=hf it (by simp);have hl:=a9J kv;have dat:s.heap.DictAt (a0N X.prog X.w) a vs ep:=by
   obtain⟨o',es',ep',h1,h2,h3,h4⟩:=dof;rw[g]at h1;cases h1;rw[hd]at h3;cases h3;exact⟨o,es,g,h2,hd,h4⟩
  exact wpAny_pyNext_dict_end (I.ok.hd hc) (by rw[hl];exact st) dat (List.getElem?_eq_none (by omega)) λh' eb=>⟨rfl,I.turned (t':=s.toks) (λb o hb e=>eb b o hb e) f0 f1 f3 f4 f5⟩
 self:=λ_ _ _ _ _ st h=>wpAny_pyIter_keyiter st h
section
variable {X:Cx}{pins:List (Addr×Obj)}{σ:St}{H:Hp}{s:Shared}{a:Addr}{kvs:List (Key×V)}{tg:Expr}
theorem Inv.freeze (I:Inv X pins σ H s) (e:H a=some (.dK kvs)):∃ o,Inv X pins σ (upd H a (.frz o (.dK kvs))) s:=by
 obtain⟨p,k,t,x,h⟩:=(I.hok a _ e);have i:=h;obtain⟨o,C,B,g,r⟩:=i;refine⟨o,?_⟩;have l:∀ b,H b=none->b≠a:=λb q z=>by rw[z,e]at q;cases q
 have j:∀ b d,H b=some (.tup d)->b≠a:=λb d q z=>by rw[z,e]at q;cases q
 have A:∀ b o u,H b=some (.frz o u)->b≠a:=λb o u q z=>by rw[z,e]at q;cases q
 have y:∀ b f,H b=some (.tbl f)->b≠a:=λb f q z=>by rw[z,e]at q;cases q
 have m:∀ b c,H b=some (.own c)->b≠a:=λb c q z=>by rw[z,e]at q;cases q
 refine I.un ⟨λb o q _ _ _=>q,λb o q _ _ _=>⟨o.slots,q⟩,λb o q n _=>by rw[a0r (l b n)];exact n,λb o q _=>⟨o,q⟩,λb d q=>by rw[a0r (j b d q)];exact q,λb o u q=>by rw[a0r (A b o u q)];exact q,λb f q=>⟨#[],by rw[a0r (y b f q),Array.append_empty];exact q⟩⟩ λb u q=>?_
 by_cases hb:b=a
 ·subst hb;rw[a0s]at q;cases q;exact⟨g,p,k,t,x,h⟩
 ·rw[a0r hb]at q;exact (I.hok b u q).stay (λc v _ r=>r) (λc r=>by rw[a0r (m c b r)];exact r) λc d r=>by rw[a0r (j c d r)];exact r
noncomputable def iDct (tl:TE):TI:=fun σ H R=>tl σ H λx H1=>∃ a kvs,x=.ref a/\((H1 a=some (.dK kvs)/\∀ o,R (ItD o a kvs) (upd H1 a (.frz o (.dK kvs))))\/∃ o,H1 a=some (.frz o (.dK kvs))/\R (ItD o a kvs) H1)
theorem b6w (hl:PE X l tl):PI X tg l (iDct tl):=by
 intro c s σ H R I h;refine thn (hl c s σ H _ I h) λv d ⟨x,B,r,C,E⟩=>?_;obtain⟨a,f,e,q⟩:=E;subst e;cases C;have k:∀ o i,Inv X c σ i d->i a=some (.frz o (.dK f))->R _ i->wpAny _ X.A _ (PIE X c σ tg R) X.xe d:=λo i j m q=>by
  obtain⟨g,M,t,L,D,y⟩:=(j.hok a _ m);obtain⟨N,n⟩:=y.dictAt;have p:=n;obtain⟨J,G,u,_,F,_⟩:=p;rw[g]at u;cases u;refine wpAny_pyIter_dict t n ?_;refine⟨d.heap.objs.size,[d.heap.objs.size],_,_,i,rfl,j.kept λb o e=>Heap.get?_push_of_some _ e,b2m a _ f F,⟨_,Heap.get?_push_size _ rfl,rfl,by rw[a9J D];rfl⟩,λb z=>?_,q⟩;have e:b=d.heap.objs.size:=by grind
  subst e;exact j.fpOk (eh _) (j.hok.fresh (eh _))
 rcases q with ⟨m,q⟩ | ⟨o,m,q⟩
 ·obtain⟨o,j⟩:=r.freeze m;exact k o _ j a0s (q o)
 ·exact k o B r m q
end
end L2
namespace L3
open PySem PySem.Spec PyProof.Rows L2
noncomputable def keyW:Key->Z
 | .inl (some i)=>.int i
 | .inl none=>.non
 | .inr s=>.str s
theorem b35 {K:Fg}:∀ k:Key,Rep K H (keyW k) (kV k)
 | .inl (some i)=>by show Rep K H (.int i) (.int i);rw[a0t]
 | .inl none=>by show Rep K H .non .non;rw[a0S]
 | .inr s=>by show Rep K H (.str s) (.str s);rw[a0G]
noncomputable def wkD (x:Z) (G:Hq) (R:List Z->(Hq->Prop)->Hq->Prop):Prop:=match x with
 | .ref a=>∃ kvs,(G a=some (.dK kvs)\/G a=some (.dF kvs))/\R (kvs.map λp=>keyW p.1) (λ_=>True) (put G a (.dF kvs))
 | _=>False
noncomputable def iD (tl:E3):I3:=fun σ G R=>tl σ G λx G1=>wkD x G1 R
theorem a6Q {K:Fg}{kvs:List (Key×Z)}(e:H0 a=some (.frz o (.dK us))) (hn:us.map (·.1)=kvs.map (·.1)):a7d K (kvs.map λp=>keyW p.1) (λ_=>True) (ItD o a us) H0:=λi G H g t n j=>by
 have d:=t.frd _ _ _ e;have l:us.length=kvs.length:=by have:=congrArg fh hn;simpa using this
 rw[dY]at j;refine⟨λh=>⟨d,by rw[dY]at h;omega⟩,λw b=>?_⟩;rw[eE]at b;cases hk:kvs[i]? with
 | none=>rw[hk]at b;cases b
 | some p=>
  rw[hk]at b;cases b;have k:=(eL.mp hk).1;refine⟨⟨d,by omega⟩,?_⟩;rintro x m ⟨rfl,q,f,rfl⟩
  have:q.1=p.1:=by
   have c:(us.map (·.1))[i]?=some q.1:=by rw[eE,f];rfl
   rw[hn,eE,hk]at c;exact (fu.inj c).symm
  rw[this];exact⟨b35 _,g,.refl _ _⟩
section
variable {X:Cx}{tg l:Expr}{tl:E3}
theorem b6x (hl:QE X l tl):QI X tg l (iD tl):=a8N (b6w hl.p) fun τ H B u=>u.un fun σ G R z A h t=>by
 refine⟨σ,G,_,z,A,h,λw r v q d k c s=>?_⟩;cases w with
 | ref a=>
  obtain⟨j,e,d⟩:=d;rcases e with e | e
  ·obtain⟨g,f,i,n⟩:=c _ _ e;refine⟨a,g,k,.inl ⟨f,λo=>?_⟩⟩;have m:TK X.K q (L2.upd q a (.frz o (.dK g))):=.dK f;exact t _ _ _ _ _ d (a6Q a0s i) (c.set m ⟨o,g,a0s,i,n.mono m⟩) (s.trans m)
  ·have x:=e;obtain⟨o,g,f,i,n⟩:=c _ _ e;refine⟨a,g,k,.inr ⟨o,f,?_⟩⟩;have y:put r a (.dF j)=r:=by
    funext b
    unfold put
    split
    ·simp_all
    ·rfl
   rw[y]at d;exact t _ _ _ _ _ d (a6Q f i) c s
 | _=>exact er d
theorem i_iD (h:tl σ G λx G1=>wkD x G1 R):iD tl σ G R:=h
theorem c0X (e:G p=some (.dK kvs)\/G p=some (.dF kvs)) (h:R (kvs.map λp=>keyW p.1) (λ_=>True) (put G p (.dF kvs))):wkD (.ref p) G R:=⟨kvs,e,h⟩
end
end L3
namespace L2
open PySem PySem.Spec PyProof.Rows
theorem b2n:∀ {ss:List Str}{us:List Value},Vals (ss.map V.str) us->kR us ss
 | [],us,r=>by rw[eQ]at r;cases r;exact .nil
 | s::ss,us,r=>by
  cases r with
  | cons r1 r2=>obtain⟨t,rfl⟩:=r1;exact .cons s t (b2n r2)
theorem a5U:∀ {vs:List Value}{ss:List Str},kR vs ss->Vals (ss.map V.str) vs
 | _,_,.nil=>.nil
 | _,_,.cons s t h=>.cons ⟨t,rfl⟩ (a5U h)
noncomputable def b36 (K:Fg):List V->Hp->VK->Prop:=λxs H Q=>∃ (p:Addr) (ss:List Str),xs=[.ref p]/\SqL K H p (ss.map V.str)/\ss.length<64 /\
 ∀ (t:Addr) (ts:List Str),H t=none->ts.Perm ss->kH ts=true->Q (.ref t) (upd H t (.lst (ts.map V.str)))
theorem a76:CallR X (.builtin "sorted") (b36 X.K):=by
 intro k s σ H y z Q I r h;obtain⟨p,x,rfl,g,t,q⟩:=h;obtain⟨u,rfl,i⟩:=a3M r;cases i;obtain⟨c,n,m,_⟩:=I.list g;have f:=b2n n;have v:=f.length;refine sorted_strs m.isList f (by omega) λa b o d l=>?_;obtain⟨e,j⟩:=sortedAll_at s.heap c a;exact⟨.ref _,_,I.laid (λ_ _=>sortedAll_old) (gH _) (show ObjOk X.prog X.w _ _ _ (.lst _) from ⟨by rw[dY,d.length_eq,jZ];omega,a.toList,e,a5U o,by simpa using j⟩),rfl,q _ b (I.hok.fresh (gH _)) d l⟩
end L2
namespace L3
open PySem PySem.Spec PyProof.Rows L2
theorem a4Q {K:Fg}:∀ ss:List Str,Reps K H (ss.map Z.str) (ss.map V.str)
 | []=>by rw[eQ,eQ,a0q]
 | s::ss=>by
  exact⟨_,_,rfl,by rw[a0G],a4Q ss⟩
theorem a6R {K:Fg}:∀ {ss:List Str}{vs:List V},Reps K H (ss.map Z.str) vs->vs=ss.map V.str
 | [],vs,h=>by rw[eQ,a0q]at h;subst h;rfl
 | s::ss,vs,h=>by
  obtain⟨v,r,rfl,a,b⟩:=h;rw[a,a6R b];rfl
noncomputable def a9K:List Z->Hq->K3->Prop:=λxs G R=>match xs with
 | [.ref p]=>∃ ss:List Str,G p=some (.lst (ss.map Z.str))/\ss.length<64/\∀ (t:Addr) (ts:List Str),G t=none->ts.Perm ss->kH ts=true->R (.ref t) (put G t (.lst (ts.map Z.str)))
 | _=>False
theorem b2o:a2r X (.builtin "sorted") a9K:=a04 a76 λu H Q n=>n.un λg G R j b h q=>by
 match g,h with
 | [.ref p],h=>
  obtain⟨v,rfl,r⟩:=j.one;obtain⟨i,e,d,h⟩:=h;obtain⟨s,k,l⟩:=b _ _ e
  have:=a6R l
  subst this;exact⟨p,i,by rw[r],SqL.of k,d,λt a c f m=>q _ _ _ _ (h t a (b.out c) f m) (by rw[a0C]) (b.set (.new c) ⟨_,a0s,a4Q a⟩) (.new c)⟩
theorem b2p (e:G p=some (.lst (ss.map Z.str))) (z:ss.length<64) (h:∀ (t:Addr) (ts:List Str),G t=none->ts.Perm ss->kH ts=true->R (.ref t) (put G t (.lst (ts.map Z.str)))):a9K [.ref p] G R:=⟨ss,e,z,h⟩
end L3
namespace L2
open PySem PySem.Spec PyProof.Rows
structure Cl where
 x:Str
 np:Pos
 b₀:Stmt
 suite:List Stmt
 hp:Pos
noncomputable def Cl.h (n:Str) (c:Cl):ExceptHandler:=.ExceptHandler (some (.Name c.x c.np)) (some n) (c.b₀::c.suite) c.hp
inductive Picks (X:Cx) (C:Addr) (th:Addr->TS):List Cl->Prop
 | here {c:Cl} {cs:List Cl} {D:Addr} (hg:Gl X c.x) (hm:X.mg c.x=some (.ref D)) (hd:(c.x==("__debug__":Str))=false) (hD:PySem.W.exmOne X.K (.ref C) (.ref D)=some true)
   (hh:∀ e oe,oe.cls=.ref C->oe.dict=none->PySem.W.notCls oe=true->PSs (X.hnd e oe) (c.b₀::c.suite) (th e)):Picks X C th (c::cs)
 | next {c:Cl} {cs:List Cl} {D:Addr} (hg:Gl X c.x) (hm:X.mg c.x=some (.ref D)) (hd:(c.x==("__debug__":Str))=false) (hD:PySem.W.exmOne X.K (.ref C) (.ref D)=some false) (hp:Picks X C th cs):Picks X C th (c::cs)
section
variable {X:Cx}{n:Str}{pos tpos:Pos}{ce:Expr}
end
end L2
namespace L3
open PySem PySem.Spec PyProof.Rows L2
inductive Alt (X:Cx) (cs:List Cl):List (Addr×(Addr->X3))->Prop
 | nil:Alt X cs []
 | cons {C:Addr} {th:Addr->X3} {l:List (Addr×(Addr->X3))} (h:Picks X C (λe=>lowS X.K (th e)) cs) (hs:Alt X cs l):Alt X cs ((C,th)::l)
theorem Alt.get:∀ {l:List (Addr×(Addr->X3))},Alt X cs l->∀ p∈l,Picks X p.1 (λe=>lowS X.K (p.2 e)) cs
 | _,.nil,p,h=>by simp at h
 | _,.cons h hs,p,hp=>by
  rcases eC.mp hp with rfl | hp
  ·omega
  ·exact hs.get p hp
section
variable {X:Cx}{e:Expr}{es:List Expr}{n:Str}{p pos tpos:Pos}{t:A3}{k:Nat}{f:Addr}{fd:jQ}{ps:List Str}{sp:PX3}
end
end L3
namespace L2
open PySem PySem.W
end L2
namespace L2
open PySem PySem.Spec PyProof.Rows
theorem Inv.melt (I:Inv X pins σ H s) (e:H a=some (.frz o (.dK kvs))) (n:∀ o u,X.H₀ a≠some (.frz o u)):Inv X pins σ (upd H a (.dK kvs)) s:=by
 obtain⟨g,E,j,A,B,t⟩:=(I.hok a _ e);have i:∀ b,H b=none->b≠a:=λb q z=>by rw[z,e]at q;cases q
 have k:∀ b d,H b=some (.tup d)->b≠a:=λb d q z=>by rw[z,e]at q;cases q
 have D:∀ b f,H b=some (.tbl f)->b≠a:=λb f q z=>by rw[z,e]at q;cases q
 have L:∀ b c,H b=some (.own c)->b≠a:=λb c q z=>by rw[z,e]at q;cases q
 refine⟨I.ok,I.os,I.bare,⟨I.base.keep,I.base.slot,λb o F C y=>?_,I.base.there,λb d q=>?_,λb o u q=>?_,λb f q=>?_⟩,I.loc,I.cell,?_,λx c q=>?_,λp M=>?_,λb u q=>?_,I.len⟩
 ·have h:=I.base.free b o F C y;rw[a0r (i b h)];exact h
 ·have h:=I.base.tups b d q;rw[a0r (k b d h)];exact h
 ·rw[a0r (λz=>n o u (by simp_all))];exact I.base.frzs b o u q
 ·obtain⟨m,h⟩:=I.base.tbls b f q;exact⟨m,by rw[a0r (D b _ h)];exact h⟩
 ·rw[a0r (i _ I.free)];exact I.free
 ·have h:=I.freeC x c q;rw[a0r (i _ h)];exact h
 ·obtain⟨G,l,J⟩:=I.pin p M;exact⟨G,by rw[a0r (i _ l)];exact l,J⟩
 ·by_cases hb:b=a
  ·subst hb;rw[a0s]at q;cases q;exact⟨E,j,A,B,t⟩
  ·rw[a0r hb]at q;exact (I.hok b u q).stay (λc v _ r=>r) (λc r=>by rw[a0r (L c b r)];exact r) λc d r=>by rw[a0r (k c d r)];exact r
end L2
namespace L3
open PySem PySem.Spec PyProof.Rows L2
section
variable {X:Cx}{K:Fg}{H H1:Hp}{a:Addr}{us us1:List (Key×V)}{o:Obj}{e:Expr}{t:E3}{G:Hq}{kvs:List (Key×Z)}
theorem a5V (h:H1 a=some (.frz o (.dK us1))):TW K H1 (upd H1 a (.dK us1)):=
 ⟨λc b q=>by rw[a0r (λz=>by rw[z,h]at q;cases q)];exact q,λc b q=>by
  rcases q with ⟨o',q⟩ | q
  ·exact .inl ⟨o',by rw[a0r (λz=>by rw[z,h]at q;cases q)];exact q⟩
  ·exact .inr q⟩
theorem b6y (h0:H a=some (.dK us)) (t:TK K H H1) (h:H1 a=some (.frz o (.dK us1))):TK K H (upd H1 a (.dK us1)):=
 ⟨λc b q=>(a5V (K:=K) h).tup c b (t.tup c b q),λc b q=>(a5V (K:=K) h).frz c b (t.frz c b q),λc d u q=>by
  rw[a0r (λz=>by rw[z,h0]at q;cases q)];exact t.frd c d u q⟩
theorem c0Y (t:TW K H H1) (e:H1 b=H b) (h:ROb K H b o'):ROb K H1 b o':=by
 cases o' with
 | lst ws=>obtain⟨a,q,r⟩:=h;exact⟨a,e.trans q,r.monoW t⟩
 | dK kvs=>obtain⟨a,q,n,r⟩:=h;exact⟨a,e.trans q,n,r.monoW t⟩
 | ins C dx fs=>obtain⟨a,q,n,r⟩:=h;exact⟨a,e.trans q,n,r.monoW t⟩
 | dF kvs=>obtain⟨c,a,q,n,r⟩:=h;exact⟨c,a,e.trans q,n,r.monoW t⟩
 | dT ks=>obtain⟨a,q,n⟩:=h;exact⟨a,e.trans q,n⟩
theorem b6z (g:RH K G H1) (e1:G a=some (.dF kvs)):∃ o us1,H1 a=some (.frz o (.dK us1))/\RH K (put G a (.dK kvs)) (upd H1 a (.dK us1)):=by
 obtain⟨o,c,h,d,f⟩:=g _ _ e1;refine⟨o,c,h,λb e q=>?_⟩
 by_cases hb:b=a
 ·subst hb;rw[a0d]at q;cases q;exact⟨c,a0s,d,f.monoW (a5V h)⟩
 ·rw[a0x hb]at q;exact c0Y (a5V h) (a0r hb) (g b e q)
noncomputable def uUnf (t:E3):E3:=fun σ G R=>∃ a kvs,G a=some (.dK kvs)/\t σ G λv G'=>G' a=some (.dF kvs)/\R v (put G' a (.dK kvs))
theorem c0Z (h:QE X e t):QE X e (uUnf t):=⟨λf s τ H Q I z=>by
 obtain⟨σ,G,R,y,j,⟨a,d,x,A⟩,C⟩:=z;obtain⟨F,k,L,J⟩:=j _ _ x;refine thn (h.p f s τ H (λv c=>∃ w b,Rep X.K c w v/\RH X.K b c/\TK X.K H c/\b a=some _/\R w _) I ⟨σ,G,_,y,j,A,λw b v c q r g t=>⟨w,b,r,g,t,q.1,q.2⟩⟩) λu E ⟨v,c,l,m,w,b,r,g,t,n,q⟩=>?_;obtain⟨o,D,i,B⟩:=b6z g n;exact⟨v,_,l.melt i (λo u z=>by have:=I.base.frzs a o u z;rw[k]at this;cases this),m,C w _ v _ q (r.monoW (a5V i)) B (b6y k t i)⟩⟩
theorem c00 (e:G a=some (.dK kvs)) (h:t σ G λv G'=>G' a=some (.dF kvs)/\R v (put G' a (.dK kvs))):uUnf t σ G R:=⟨a,kvs,e,h⟩
end
end L3
namespace DictP
open PySem PyProof.Rows
theorem a3r:entryFor table "dict.update.loop"=some jV.«dict.update.loop»:=entryFor_of_tree (by kernel_rfl)
theorem a1k:plainId "dict.update.loop"=true:=by decide +kernel
theorem b6A:typeLookup (.type "list") "keys"=pure none:=am_miss_of_fast (by decide +kernel)
section
variable {prog:jO}{w:World}{A:Around}{E:Value->Shared->Prop}{s:Shared}{a:Addr}{xs:Array Value}{k:Nat}{sl:Array (Option Value)}
theorem b2q (hx:s.heap.get? a=some { cls:=.type "list",dict:=none,data:=.seq xs k,slots:=sl }) (hA:A.handled=none)
  (h:∀ h' tk,(∀ b ob,s.heap.get? b=some ob->h'.get? b=some ob)->Q none { s with heap:=h',toks:=tk }):wpAny (model prog w) A (getAttr? (.ref a) "keys") Q E s:=by
 obtain⟨hp,g,d,tk,os⟩:=s;have hT:∀ tk',(⟨hp,g,d,tk',os⟩:Shared).TypeIs (.ref a) "list":=λ_=>⟨_,hx,rfl⟩;have f1:=sub_AttributeError;have f3:=F.slot_list_getattribute.lookup;have f4:=F.slot_list_getattribute.bind (.ref a);have f5:=am_list_getattr_none;unfold getAttr? getAttrBy? getAttrBy
 repeat (any_goals (first | assumption | exact hT _ | ((with_reducible show wpAny _ _ (call (Value.builtin "list.__getattribute__") _ _) _ _ _);refine kM F.slot_list_getattribute (hT _) am_entry_list_getattribute (F.args_list_getattribute_2 _ _) (meets_getattribute_miss_list a xs k sl "keys" _ b6A (by decide +kernel)) ⟨hx,hA,λh' tk' e hx'=>?_⟩) | wp_step))
 obtain⟨t',u',he⟩:=hx'.there
 show wpAny _ _ (getattributeRaised _ _ _ _ _ _ _) _ _ _
 unfold getattributeRaised
 repeat (any_goals (first | assumption | wp_step))
 exact h _ _ hx'.keeps
theorem a6S (g:s.heap.get? t=some o) (hc:o.cls=.type "tuple") (hd:o.data=.seq #[x,y] n) (h:Q [x,y] s):wpAny (model prog w) A (jV.Dict.pairItems (.ref t)) Q E s:=by
 obtain⟨c,a,b,e⟩:=o;simp only at hc hd;subst hc hd
 repeat (any_goals (first | assumption | wp_step))
end
section
variable {prog:jO}{w:World}{A:Around}{R:Result->Shared->Prop}{I:Addr}{fp wr:List Addr}{G:Array lb->Array lb->Prop}{n:Nat}{P:Nat->Value->Prop}{St:Nat->Shared->Prop}{K:Type}[DecidableEq K] {knd:KeyKind prog w K}
noncomputable def b87 (knd:KeyKind prog w K) (h:Heap) (v:Value) (r:K×Value):Prop:=∃ t o key m,v=.ref t/\h.get? t=some o/\o.cls=.type "tuple"/\o.data=.seq #[key,r.2] m/\knd.is r.1 key=true
theorem loop (W:WalksS prog w A.in1 I fp wr G n P St) (d:Addr) (hdf:d∉fp) (rows:List (K×Value)) (hn:n=rows.length) (hz:rows.length<=jK) :
  ∀ (k i:Nat) (s:Shared),n - i=k->i<=n->St i s->(∀ j v,P j v->∃ r,rows[j]?=some r/\b87 knd s.heap v r/\v≠.ref d)->(∀ j v,P j v->∀ b,v=.ref b->b∉wr)->s.heap.DictOf knd d (merged [] (rows.take i)) ->
   (∀ s',Moved (d::wr) G s s'->s'.heap.DictOf knd d (merged [] rows)->R (.ok (.ret .none)) s') ->
   kj (model prog w) A (.builtin "dict.update.loop" ⟨[.ref d,.ref I,rawInt i,.none],[]⟩) R s:=by
 have x:d∉wr:=λh=>hdf (W.sub _ h);have up:∀ b∈wr,b∈d::wr:=λb p=>fB _ p;intro k
 induction k with
 | zero=>
  intro i s hk hi q N l u M;have V:i=n:=by omega
  subst V;refine lZ a3r ?_;rw[Around.under_plainId a1k _];refine jJ (W.done s _ _ q λa f=>?_)
  show wpAny _ A.in1 _ _ _ a
  refine jJ (jR (jR (M a (f.mono up) ?_)));rw[ft (by omega)]at u;obtain⟨o,J,S,L,c⟩:=u;exact⟨o,J,S,f.heap d _ x L,c⟩
 | succ k ih=>
  intro i s hk hi q N l u M;have U:i<n:=by omega
  refine lZ a3r ?_;rw[Around.under_plainId a1k _];refine jJ (W.item i s _ _ U q λv a C H f=>?_);obtain⟨r,hr,⟨t,o,y,m,rfl,g,hc,hd,D⟩,hne⟩:=N i v C;have g':=f.heap t _ (l i _ C t rfl) g;have X:a.heap.DictOf knd d (merged [] (rows.take i)):=by
   obtain⟨o,J,S,L,c⟩:=u;exact⟨o,J,S,f.heap d _ x L,c⟩
  refine jJ (j3 ?_);refine jJ (wpAny_tryCatch (a6S g' hc hd ?_));refine j3 ?_;have hl:(merged [] (rows.take i)).length<=sizeLine:=by
   have:=merged_length_le [] (rows.take i)
   rw[eK]at this;simp at this;omega
  refine wpAny_dictSet_pairs D X (λh' B hsb=>?_) hl;rw[<- merged_take_succ _ _ _ _ hr]at B;have Q:∀ b o,b≠d->a.heap.get? b=some o->h'.get? b=some o:=λb o nb e=>by rw[hsb.2 b nb];exact e
  refine jR ⟨mz a1k _,?_⟩
  have:=ih (i+1) { a with heap:=h',toks:=a.toks+1 } (by omega) (by omega) (W.frame _ a _ _ H (gH _) λb p o e=>Q b o (λz=>hdf (z▸p)) e) (λj v hv=>?_) l B λT E F=>?_
  ·exact this
  ·obtain⟨r,h1,⟨t,o,y,m,rfl,h2,h3⟩,Y⟩:=N j v hv;exact⟨r,h1,⟨t,o,y,m,rfl,Q t o (λz=>Y (by rw[z])) (f.heap t _ (l j _ hv t rfl) h2),h3⟩,Y⟩
  ·refine M T (Moved.trans W.gtrans ((f.mono up).then_heap (gH _) λb o p e=>Q b o (λz=>p (by rw[z];exact fA)) e) E) F
end
end DictP
namespace L2
open PySem PySem.Spec PyProof.Rows
section
variable {X:Cx}
end
section
variable {P:jO}{w:World}{A:Around}{E:Value->Shared->Prop}{s:Shared}
theorem b0A (h64:ss.length<64)
  (hcol:∀ R:List Value->Shared->Prop,(∀ (g:Heap) (tk:Nat) (d:Drawn) (vs:List Value) (ks:List Str),(∀ b o,s.heap.get? b=some o->g.get? b=some o)->kR vs ks->ks.Perm ss->R vs { s with heap:=g,drawn:=d,toks:=tk })->wpAny (model P w) A.in1 (collect (.ref r)) R E s)
  (h:∀ (g g':Heap) (tk:Nat) (d:Drawn) (out:List Value) (n:Nat) (ts:List Str),(∀ b o,s.heap.get? b=some o->g.get? b=some o)->(∀ b o,g.get? b=some o->g'.get? b=some o)->g'.get? g.objs.size=some { cls:=.type "list",data:=.seq out.toArray n } ->
   kR out ts->ts.Perm ss->kH ts=true->Q (.ref g.objs.size) { s with heap:=g',drawn:=d,toks:=tk }):wpAny (model P w) A (call (.builtin "sorted") [.ref r]) Q E s:=by
 refine Calls.call_function_entry lQ lR lS (lT _) ?_;refine jJ (jR (jJ (hcol _ λg t d f D x c l=>?_)));have F:=c.length.trans l.length_eq;have z:f.length<=sizeLine:=by rw[jZ];omega
 refine jJ (kZ ?_ z);have k:(g.push _).get? g.objs.size=some (seqObj "list" f.toArray 0):=Heap.get?_push_size _ rfl;refine jJ (j3 (lr lU ⟨_,k,rfl⟩ lV (list_sort_treeK strKind_oneLt k c.keysOf (λH G B e=>keyKind_strs (by rw[<- e];exact c)) (by omega) λi p v=>⟨_,rfl,?_⟩) (lW _)));obtain⟨y,u,C,q⟩:=sorted_out_str c p v;have a:=lX (out:=(arrOf i).map (·.2)) k;obtain⟨n,a⟩:=a;refine jR ⟨_,rfl,h g _ t d ((arrOf i).map (·.2)).toList n y x (λb o e=>?_) (by omega) u (C.trans l) q⟩;have j:=Heap.lt_size e;rw[lY (eJ j) (by rw[Heap.size_push];exact gg j)];exact Heap.get?_push_of_some _ e
theorem b6B (hl:vs.length=ss.length) (h:∀ (i:Nat) (v:Value),vs[i]?=some v->∃ (x:Str) (t:Tok),ss[i]?=some x/\v=Value.str x t):kR vs ss:=by
 induction vs generalizing ss with
 | nil=>cases ss with
  | nil=>exact .nil
  | cons _ _=>simp at hl
 | cons v vs ih=>cases ss with
  | nil=>simp at hl
  | cons x ss=>
   obtain⟨y,t,a,rfl⟩:=h 0 v rfl;cases a;exact .cons x t (ih (by simpa using hl) λi v e=>by simpa using h (i+1) v (by simpa using e))
end
section
variable {X:Cx}
noncomputable def b37 (K:Fg):List V->Hp->VK->Prop:=λxs H Q=>∃ (p:Addr) (kvs:List (Key×V)) (ss:List Str),xs=[.ref p]/\H p=some (.dK kvs)/\kvs.map (·.1)=ss.map (λs=>(Sum.inr s:Key))/\ss.length<64 /\
 ∀ (t:Addr) (ts:List Str),H t=none->ts.Perm ss->kH ts=true->Q (.ref t) (upd H t (.lst (ts.map V.str)))
theorem a77 (hc:X.calm=true):CallR X (.builtin "sorted") (b37 X.K):=by
 intro y s σ H xs us Q I r h;obtain⟨p,kvs,ss,rfl,hd,L,F,q⟩:=h;obtain⟨u,rfl,rx⟩:=a3M r;cases rx;have hh:=I.ok.hd hc;refine b0A F (λR U=>?_) λg g' j d E n M k1 k2 e T N a3=>?_
 ·obtain⟨z,lo,B,m,dd⟩:=b1m I.hok hd;obtain⟨ep,C⟩:=dd.dictAt;have D:B.length=ss.length:=by rw[<- m.length,<- dY,L,dY]
  refine PySem.W.kdu_collect (PySem.W.kdl_dict lo) hh C (by rw[D,jZ];omega) λg j S Y b=>?_;refine U g j s.drawn S.toList ss Y (b6B (by rw[fT,b.1,D]) λi v e=>?_) (.refl _);obtain⟨k,x,e1,e2⟩:=b.2 i v (by simp_all);have l:B.map (·.1)=ss.map λs=>(Sum.inr s):=by rw[<- m.keys];exact L
  have c:(ss.map λs=>(Sum.inr s))[i]?=some k:=by rw[<- l,eE,e1];rfl
  rw[eE]at c;cases hn:ss[i]? with
  | none=>rw[hn]at c;cases c
  | some n=>
   rw[hn]at c;cases c;obtain⟨t,e4⟩:=Value.isStrOf_shape e2;exact⟨n,t,rfl,e4⟩
 ·have G:Inv X y σ H { s with heap:=g,drawn:=d,toks:=j }:=(I.drew d).kept k1;exact⟨.ref g.objs.size,_,G.laid k2 (eh _) (show ObjOk X.prog X.w _ g' _ (.lst _) from ⟨by rw[dY,N.length_eq,jZ];omega,E,n,a5U T,e⟩),rfl,q _ M (G.hok.fresh (eh _)) N a3⟩
end
end L2
namespace L3
open PySem PySem.Spec PyProof.Rows L2
section
variable {X:Cx}{K:Fg}{H:Hp}
theorem b38 (h:Rep K H (keyW k) v):v=kV k:=by
 match k,h with
 | .inl (some i),h=>rw[show keyW _=.int i from rfl,a0t]at h;exact h
 | .inl none,h=>rw[show keyW _=.non from rfl,a0S]at h;exact h
 | .inr x,h=>rw[show keyW _=.str x from rfl,a0G]at h;exact h
noncomputable def a9L:List Z->Hq->K3->Prop:=λxs G R=>match xs with
 | [.ref p]=>∃ (kvs:List (Key×Z)) (ss:List Str),G p=some (.dK kvs)/\kvs.map (·.1)=ss.map (λs=>(Sum.inr s:Key))/\ss.length<64/\∀ (t:Addr) (ts:List Str),G t=none->ts.Perm ss->kH ts=true->R (.ref t) (put G t (.lst (ts.map Z.str)))
 | _=>False
theorem a78 (hc:X.calm=true):a2r X (.builtin "sorted") a9L:=a04 (a77 hc) λy H Q l=>l.un λg G R f b h u=>by
 match g,h with
 | [.ref p],h=>
  obtain⟨v,rfl,r⟩:=f.one;obtain⟨w,i,e,m,d,h⟩:=h;obtain⟨q,s,j,x⟩:=b _ _ e;exact⟨p,q,i,by rw[r],s,by rw[j];exact m,d,λt c a n k=>u _ _ _ _ (h t c (b.out a) n k) (by rw[a0C]) (b.set (.new a) ⟨_,a0s,a4Q c⟩) (.new a)⟩
theorem a6T (e:G p=some (.dK kvs)) (k:kvs.map (·.1)=ss.map (λs=>(Sum.inr s:Key))) (z:ss.length<64) (h:∀ (t:Addr) (ts:List Str),G t=none->ts.Perm ss->kH ts=true->R (.ref t) (put G t (.lst (ts.map Z.str)))):a9L [.ref p] G R:=⟨kvs,ss,e,k,z,h⟩
theorem Reps.dropLast:∀ {ws:List Z}{vs:List V},Reps K H ws vs->Reps K H ws.dropLast vs.dropLast
 | [],vs,h=>by rw[a0q]at h;subst h;exact .nil
 | [w],vs,h=>by
  obtain⟨v,rfl,_⟩:=h.one;exact .nil
 | w::w'::ws,vs,h=>by
  obtain⟨v,r,rfl,c,b⟩:=h;have a:=b;obtain⟨e,d,rfl,_,_⟩:=a;exact .cons c (Reps.dropLast b)
end
end L3
namespace L2
open PySem PySem.Spec PyProof.Rows Tim
noncomputable def ptV:Pz->V
 | .inl none=>.non
 | .inl (some i)=>.int i
 | .inr s=>.str s
theorem c01:∀ {x:Pz}{u:Value},RelV (ptV x) u->PtIs x u
 | .inl none,_,h=>h
 | .inl (some _),_,h=>h
 | .inr _,_,h=>h
theorem a7k:∀ {xs:List Pz}{us:List Value},Vals (xs.map ptV) us->PtsAre xs us
 | [],us,r=>by rw[eQ]at r;cases r;trivial
 | x::xs,us,r=>by
  cases r with
  | cons r1 r2=>exact⟨c01 r1,a7k r2⟩
theorem a7l:∀ {bs:List Addr}{us:List Value},Vals (bs.map V.ref) us->us=bs.map Value.ref
 | [],us,r=>by rw[eQ]at r;cases r;rfl
 | b::bs,us,r=>by
  cases r with
  | cons r1 r2=>rw[a7l r2,r1];rfl
theorem a4R:∀ bs:List Addr,Vals (bs.map V.ref) (bs.map Value.ref)
 | []=>.nil
 | b::bs=>.cons rfl (a4R bs)
theorem b0B:∀ {bs:List Addr}{out:List Value},out.Perm (bs.map Value.ref)->∃ cs:List Addr,out=cs.map Value.ref:=λ{g a} h=>by
 have:∀ v∈a,∃ b,v=Value.ref b:=λv f=>by
  obtain⟨b,_,e⟩:=eq.mp (h.mem_iff.mp f);exact⟨b,e.symm⟩
 clear h
 induction a with
 | nil=>exact⟨[],rfl⟩
 | cons v a ih=>
  obtain⟨b,rfl⟩:=this v (.head _);obtain⟨d,rfl⟩:=ih λu c=>this u (.tail _ c);exact⟨b::d,rfl⟩
noncomputable def a6U (H:Hp) (bs:List Addr) (rows:List (List Pz)):Prop:=bs.length=rows.length/\∀ (i:Nat) (b:Addr) (x:List Pz),bs[i]?=some b->rows[i]?=some x->H b=some (.tup (x.map ptV))
theorem a79 (I:Inv X pins σ H s):∀ {bs:List Addr}{rows:List (List Pz)},a6U H bs rows->RowsIn s.heap (bs.map Value.ref) rows
 | [],[],_=>trivial
 | [],_::_,h=>by have:=h.1;simp at this
 | _::_,[],h=>by have:=h.1;simp at this
 | b::bs,x::rows,h=>by
  refine⟨?_,a79 I ⟨by have:=h.1;simpa using this,λi c y e d=>h.2 (i+1) c y (by simp_all) (by simp_all)⟩⟩;obtain⟨_,j,r,o,g,a,n,f⟩:=(I.hok b _ (h.2 0 b x rfl rfl));exact⟨b,o,_,n,rfl,g,a,f,by simpa using a7k r⟩
noncomputable def b39 (K:Fg):List V->Hp->VK->Prop:=λxs H Q=>∃ (p:Addr) (bs:List Addr) (rows:List (List Pz)) (m:Nat),xs=[.ref p]/\SqL K H p (bs.map V.ref)/\a6U H bs rows/\bs.length<=100000/\(a1Y rows\/a5u rows)/\(∀ x∈rows,x.length=m)/\(∀ x∈rows,∀ y∈rows,cmpT x y=true) /\
 ∀ (t:Addr) (cs:List Addr) (os:List (List Pz)),H t=none->a6U H cs os->os.Perm rows->os.Pairwise (λx y=>ltT y x=false)->Q (.ref t) (upd H t (.lst (cs.map V.ref)))
theorem a8a:CallR X (.builtin "sorted") (b39 X.K):=by
 intro t s σ H xs us Q I r h;obtain⟨p,a,k,m,rfl,hq,C,hbl,hf,hm,hc,q⟩:=h;obtain⟨u,rfl,rx⟩:=a3M r;cases rx;obtain⟨N,rv,pl,_⟩:=I.list hq
 have:=a7l rv
 subst this;have R:(a.map Value.ref).length<=sizeLine:=by rw[dY,jZ];omega
 refine Calls.call_function_entry lQ lR lS (lT _) ?_;unfold jV.«sorted»;refine jJ (jR (jJ (my pl.isList ?_ R)));have G:∀ b o,s.heap.get? b=some o->((s.heap.push (seqObj "list" #[] 0)).update s.heap.objs.size (Obj.mapSeq (·++(a.map Value.ref).toArray))).get? b=some o:=λb o e=>by
  have d:=Heap.lt_size e;rw[Heap.get?_update_ne _ _ _ _ (eJ d)];exact Heap.get?_push_of_some _ e
 generalize (s.heap.push (seqObj "list" #[] 0)).update s.heap.objs.size (Obj.mapSeq (·++(a.map Value.ref).toArray))=g at G ⊢;have z:=I.kept (t':=s.toks) G;refine jJ (kZ ?_ R);have D:(g.push _).get? g.objs.size=some (seqObj "list" (a.map Value.ref).toArray 0):=Heap.get?_push_size _ rfl;have U:Inv X t σ H { s with heap:=g.push (seqObj "list" (a.map Value.ref).toArray 0) }:=z.kept (t':=s.toks) λb o e=>Heap.get?_push_of_some _ e;refine jJ (j3 (lr lU ⟨_,D,rfl⟩ lV (Tim.sort_tups D (by rw[dY];omega) (a79 U C) hf hm hc λout S A F a3 a4=>⟨_,rfl,?_⟩) (lW _)));have l:=lX (out:=out.toArray) D;obtain⟨n,l⟩:=l;obtain⟨f,rfl⟩:=b0B A;have hcl:f.length=a.length:=by have:=A.length_eq;simpa using this
 have tc:a6U H f S:=by
  refine⟨by rw[F,dY,dY],λi c x T M=>?_⟩;rw[F,eE,eE,T]at M;cases M;have B:=A.mem_iff.mp (eU (eP T));obtain⟨c',E,e⟩:=eq.mp B;cases e;obtain⟨j,L⟩:=gz E;obtain⟨y,hy⟩:∃ y,k[j]?=some y:=⟨k[j]'(by have:=(eL.mp L).1;rw[<- C.1];exact this),by simp⟩;have J:=C.2 j c y L hy;obtain⟨_,N,r,o,Y,W,n,h3⟩:=(U.hok c _ J)
  have:RowIn (g.push (seqObj "list" (a.map Value.ref).toArray 0)) (.ref c) y:=⟨c,o,_,n,rfl,Y,W,h3,by simpa using a7k r⟩
  show H c=some _
  rw[a1X this];exact J
 refine jR ⟨_,rfl,?_⟩;exact⟨.ref g.objs.size,_,z.laid (t':=s.toks) (λb o e=>by
  have d:=Heap.lt_size e;rw[lY (eJ d) (by rw[Heap.size_push];exact gg d)];exact Heap.get?_push_of_some _ e) (eh _) (show ObjOk X.prog X.w _ _ _ (.lst (f.map V.ref)) from ⟨by rw[dY,jZ];omega,f.map Value.ref,n,a4R f,by simpa using l⟩),rfl,q _ f S (z.hok.fresh (eh _)) tc a3 a4⟩
end L2
namespace L3
open PySem PySem.Spec PyProof.Rows L2 Tim
noncomputable def ptZ:Pz->Z
 | .inl none=>.non
 | .inl (some i)=>.int i
 | .inr s=>.str s
noncomputable def tupZ (x:List Pz):Z:=.tup (x.map ptZ)
theorem rep_pt {K:Fg}:∀ {x:Pz}{v:V},Rep K H (ptZ x) v↔v=ptV x
 | .inl none,v=>by unfold ptZ ptV;rw[a0S]
 | .inl (some _),v=>by unfold ptZ ptV;rw[a0t]
 | .inr _,v=>by unfold ptZ ptV;rw[a0G]
theorem reps_pts {K:Fg}:∀ {xs:List Pz}{vs:List V},Reps K H (xs.map ptZ) vs↔vs=xs.map ptV
 | [],vs=>by rw[eQ,a0q,eQ]
 | x::xs,vs=>by
  rw[eG,a03,eG]
  constructor
  ·rintro⟨v,r,rfl,a,b⟩;rw[rep_pt.mp a,reps_pts.mp b]
  ·rintro rfl;exact⟨_,_,rfl,rep_pt.mpr rfl,reps_pts.mpr rfl⟩
theorem a8b {K:Fg}:∀ {rows:List (List Pz)}{vs:List V},Reps K H (rows.map tupZ) vs->∃ bs:List Addr,vs=bs.map V.ref/\a6U H bs rows
 | [],vs,h=>by
  subst h;exact⟨[],rfl,rfl,λi b x e=>by simp at e⟩
 | x::rows,vs,h=>by
  obtain⟨v,r,rfl,c,m⟩:=h;obtain⟨a,n,rfl,e,k⟩:=c;rw[reps_pts.mp k]at e;obtain⟨l,rfl,j,g⟩:=a8b m;refine⟨a::l,rfl,by rw[eu,eu,j],λi b y d f=>?_⟩;cases i with
  | zero=>cases d;cases f;exact e
  | succ i=>exact g i b y (by simp_all) (by simp_all)
theorem a8c {K:Fg}:∀ {bs:List Addr}{rows:List (List Pz)},a6U H bs rows->Reps K H (rows.map tupZ) (bs.map V.ref)
 | [],[],_=>by rw[eQ,eQ,a0q]
 | [],_::_,h=>by have:=h.1;simp at this
 | _::_,[],h=>by have:=h.1;simp at this
 | b::bs,x::rows,h=>by
  refine⟨_,_,rfl,?_,a8c ⟨by have:=h.1;simpa using this,λi c y d a=>h.2 (i+1) c y (by simp_all) (by simp_all)⟩⟩;exact⟨b,_,rfl,h.2 0 b x rfl rfl,reps_pts.mpr rfl⟩
noncomputable def a9M:List Z->Hq->K3->Prop:=λxs G R=>match xs with
 | [.ref p]=>∃ (rows:List (List Pz)) (m:Nat),G p=some (.lst (rows.map tupZ))/\rows.length<=100000/\(a1Y rows\/a5u rows)/\(∀ x∈rows,x.length=m)/\(∀ x∈rows,∀ y∈rows,cmpT x y=true)/\∀ (t:Addr) (os:List (List Pz)),G t=none->os.Perm rows->os.Pairwise (λx y=>ltT y x=false)->R (.ref t) (put G t (.lst (os.map tupZ)))
 | _=>False
theorem b2r:a2r X (.builtin "sorted") a9M:=a04 a8a λL H Q y=>y.un λn G R B d h J=>by
 match n,h with
 | [.ref p],h=>
  obtain⟨v,rfl,r⟩:=B.one;obtain⟨c,m,e,w,k,I,s,h⟩:=h;obtain⟨M,u,D⟩:=d _ _ e;obtain⟨A,rfl,g⟩:=a8b D;exact⟨p,A,c,m,by rw[r],SqL.of u,g,by rw[g.1];exact w,k,I,s,λt N f a j l E=>J _ _ _ _ (h t f (d.out a) l E) (by rw[a0C]) (d.set (.new a) ⟨_,a0s,a8c ⟨j.1,λi b x C F=>by
   have q:=j.2 i b x C F;rw[a0r (λz=>by rw[z,a]at q;cases q)];exact q⟩⟩) (.new a)⟩
theorem b2s (e:G p=some (.lst (rows.map tupZ))) (z:rows.length<=100000) (hf:a5u rows) (hm:∀ x∈rows,x.length=m) (hc:∀ x∈rows,∀ y∈rows,cmpT x y=true) (h:∀ (t:Addr) (os:List (List Pz)),G t=none->os.Perm rows->os.Pairwise (λx y=>ltT y x=false)->R (.ref t) (put G t (.lst (os.map tupZ)))):a9M [.ref p] G R:=⟨rows,m,e,z,.inr hf,hm,hc,h⟩
end L3
namespace L2
open PySem PySem.Spec PyProof.Rows
end L2
namespace L3
open PySem PySem.Spec PyProof.Rows L2
end L3
namespace L2
open PySem PySem.Spec PyProof.Rows
section
variable {X:Cx}
end
end L2
namespace L3
open PySem PySem.Spec PyProof.Rows L2
section
variable {X:Cx}{e:Expr}{es:List Expr}{t:A3}{x y:Str}{p p2 pos pos2:Pos}
end
end L3
namespace DictP
open PySem PyProof.Rows
section
variable {prog:jO}{w:World}{K:Type}[DecidableEq K] {knd:KeyKind prog w K}
theorem a7m (x:(j5 knd).is h k a) (q:∀ o,h.get? a=some o->h'.get? a=some o):(j5 knd).is h' k a:=by
 obtain⟨o,b,n,e,r⟩:=x;exact⟨o,b,n,q o e,r⟩
noncomputable def mergedH (acc rows:List (List K×Addr×Value)):List (List K×Addr×Value):=rows.foldl (λacc r=>ko acc r.1 r.2.1 r.2.2) acc
theorem b0C {k:List K}(h:x∈ko xs k a v):x.2.1=a\/∃ y∈xs,x.2.1=y.2.1:=by
 unfold ko at h
 split at h
 ·obtain⟨y,b,rfl⟩:=eq.mp h;refine .inr ⟨y,b,?_⟩;unfold putAt
  split<;>rfl
 ·rcases ei.mp h with h | h
  ·exact .inr ⟨x,h,rfl⟩
  ·rw[et.mp h];exact .inl rfl
theorem b0D {k:List K}:(ko xs k a v).length<=xs.length+1:=by
 unfold ko
 split<;>simp
theorem a5W:∀ {rows acc:List (List K×Addr×Value)}{x:List K×Addr×Value},x∈mergedH acc rows->(∃ y∈rows,x.2.1=y.2.1)\/∃ y∈acc,x.2.1=y.2.1
 | [],acc,x,h=>.inr ⟨x,h,rfl⟩
 | r::rows,acc,x,h=>by
  rcases a5W (rows:=rows) h with ⟨y,hy,e⟩ | ⟨y,hy,e⟩
  ·exact .inl ⟨y,.tail _ hy,e⟩
  ·rcases b0C hy with e2 | ⟨z,hz,e2⟩
   ·exact .inl ⟨r,.head _,e.trans e2⟩
   ·exact .inr ⟨z,hz,e.trans e2⟩
theorem a5X:∀ {rows acc:List (List K×Addr×Value)},(mergedH acc rows).length<=acc.length+rows.length
 | [],_=>eh _
 | r::rows,acc=>by
  have c:=a5X (rows:=rows) (acc:=ko acc r.1 r.2.1 r.2.2);have b:=b0D (xs:=acc) (k:=r.1) (a:=r.2.1) (v:=r.2.2)
  show (mergedH (ko acc r.1 r.2.1 r.2.2) rows).length<=_
  rw[eu];omega
theorem a8d {rows:List (List K×Addr×Value)}(h:rows[i]?=some r):mergedH [] (rows.take (i+1))=ko (mergedH [] (rows.take i)) r.1 r.2.1 r.2.2:=by
 unfold mergedH;rw[fN,h,jt]
 rfl
theorem a82 {h h':Heap}(D:h.DictOfH (j5 knd) d xs) (hd:∀ o,h.get? d=some o->h'.get? d=some o) (q:∀ x∈xs,∀ o,h.get? x.2.1=some o->h'.get? x.2.1=some o):h'.DictOfH (j5 knd) d xs:=by
 obtain⟨o,e,j,b,g,f,i,k,c⟩:=D;exact⟨o,e,j,hd o b,g,f,i,λx a=>a7m (k x a) (q x a),c⟩
noncomputable def PairT (knd:KeyKind prog w K) (h:Heap) (v:Value) (r:List K×Addr×Value):Prop:=∃ t o m,v=.ref t/\h.get? t=some o/\o.cls=.type "tuple"/\o.data=.seq #[.ref r.2.1,r.2.2] m/\(j5 knd).is h r.1 r.2.1
end
section
variable {prog:jO}{w:World}{A:Around}{R:Result->Shared->Prop}{I:Addr}{fp wr:List Addr}{G:Array lb->Array lb->Prop}{n:Nat}{P:Nat->Value->Prop}{St:Nat->Shared->Prop}{K:Type}[DecidableEq K] {knd:KeyKind prog w K}
theorem c02 (W:WalksS prog w A.in1 I fp wr G n P St) (d:Addr) (hdf:d∉fp) (rows:List (List K×Addr×Value)) (hn:n=rows.length) (hz:rows.length<=jK) (hu:A.units+1<cLine) (hrw:∀ r∈rows,r.2.1≠d/\r.2.1∉wr) :
  ∀ (k i:Nat) (s:Shared),n - i=k->i<=n->St i s->(∀ j v,P j v->∃ r,rows[j]?=some r/\PairT knd s.heap v r/\v≠.ref d)->(∀ j v,P j v->∀ b,v=.ref b->b∉wr)->s.heap.DictOfH (j5 knd) d (mergedH [] (rows.take i)) ->
   (∀ s',Moved (d::wr) G s s'->s'.heap.DictOfH (j5 knd) d (mergedH [] rows)->R (.ok (.ret .none)) s') ->
   kj (model prog w) A (.builtin "dict.update.loop" ⟨[.ref d,.ref I,rawInt i,.none],[]⟩) R s:=by
 have D:d∉wr:=λh=>hdf (W.sub _ h);have V:∀ b∈wr,b∈d::wr:=λb p=>fB _ p;have F:∀ i x,x∈mergedH [] (rows.take i)->x.2.1≠d/\x.2.1∉wr:=λi x l=>by
  rcases a5W l with ⟨y,hy,e⟩ | ⟨y,hy,_⟩
  ·rw[e];exact hrw y (fF hy)
  ·simp at hy
 intro k
 induction k with
 | zero=>
  intro i s hk hi u J f T S;have hin:i=n:=by omega
  subst hin;refine lZ a3r ?_;rw[Around.under_plainId a1k _];refine jJ (W.done s _ _ u λc a=>?_)
  show wpAny _ A.in1 _ _ _ c
  refine jJ (jR (jR (S c (a.mono V) ?_)));have X:=a82 T (a.heap d · D) λx l o e=>a.heap _ o (F _ x l).2 e;rw[ft (by omega)]at X;exact X
 | succ k ih=>
  intro i s hk hi u J f T S;have hlt:i<n:=by omega
  refine lZ a3r ?_;rw[Around.under_plainId a1k _];refine jJ (W.item i s _ _ hlt u λv c H L a=>?_);obtain⟨r,hr,⟨t,o,m,rfl,g,hc,hd,N⟩,hne⟩:=J i v H;have g':=a.heap t _ (f i _ H t rfl) g;have C:=a7m N λo e=>a.heap _ o (hrw r (eP hr)).2 e;have hD':=a82 T (a.heap d · D) λx l o e=>a.heap _ o (F _ x l).2 e;refine jJ (j3 ?_);refine jJ (wpAny_tryCatch (a6S g' hc hd ?_));refine j3 ?_;have hl:(mergedH [] (rows.take i)).length<=sizeLine:=by
   have:=a5X (acc:=[]) (rows:=rows.take i)
   rw[eK]at this;simp at this;omega
  refine wpAny_dictSet_heap (lH hu) C hD' (λh' E U=>?_) hl;rw[<- a8d hr]at E;have B:∀ b o,b≠d->c.heap.get? b=some o->h'.get? b=some o:=λb o nb e=>by rw[U.2 b nb];exact e
  refine jR ⟨mz a1k _,?_⟩
  have:=ih (i+1) { c with heap:=h',toks:=c.toks+(j5 knd).draws r.1 } (by omega) (by omega) (W.frame _ c _ _ L (ju _ _) λb p o e=>B b o (λz=>hdf (z▸p)) e) (λj v hv=>?_) f E λs'' M Q=>?_
  ·exact this
  ·obtain⟨r,h1,⟨t,o,m,rfl,h2,h3,h4,h5⟩,Y⟩:=J j v hv;refine⟨r,h1,⟨t,o,m,rfl,B t o (λz=>Y (by rw[z])) (a.heap t _ (f j _ hv t rfl) h2),h3,h4,?_⟩,Y⟩;have q:=hrw r (eP h1);exact a7m h5 λo e=>B _ o q.1 (a.heap _ o q.2 e)
  ·refine S s'' (Moved.trans W.gtrans ((a.mono V).then_heap (ju _ _) λb o p e=>B b o (λz=>p (by rw[z];exact fA)) e) M) Q
theorem call_pairsT (hh:A.handled=none) (hu:A.units+5<cLine)
  (hl:s.heap.get? l=some { cls:=.type "list",dict:=none,data:=.seq items c,slots:=sl }) (hi:∀ (j:Nat) v,items[j]?=some v->∃ r,rows[j]?=some r/\PairT knd s.heap v r) (hn:items.size=rows.length) (hz:rows.length<=jK)
  (h:∀ (h':Heap) (tk:Nat),h'.DictOfH (j5 knd) s.heap.objs.size (mergedH [] rows)->(∀ b o,s.heap.get? b=some o->h'.get? b=some o)->Q (.ref s.heap.objs.size) { s with heap:=h',toks:=tk }) :
  wpAny (model prog w) A (call (.type "dict") [.ref l]) Q E s:=by
 refine callType_codes (Q₁:=λC M=>C=.ref s.heap.objs.size/\M={ s with heap:=s.heap.push { cls:=.type "dict",data:=.dict #[] } }) F.kt_called_dict (F.kt_typeCall_dict_1 _) F.entry_dict_init (kt_code_dict_new _ ⟨rfl,rfl⟩) ?_;rintro C M ⟨rfl,rfl⟩;have a:(s.heap.push { cls:=.type "dict",data:=.dict #[] }).DictOfH (j5 knd) s.heap.objs.size []:=Heap.DictOfH.new s.heap;have i:(s.heap.push { cls:=.type "dict",data:=.dict #[] }).get? l=some { cls:=.type "list",dict:=none,data:=.seq items c,slots:=sl }:=Heap.get?_push_of_some _ hl;have Y:Shared.TypeIs { s with heap:=s.heap.push { cls:=.type "dict",data:=.dict #[] } } (.ref l) "list":=⟨_,i,rfl⟩;refine⟨a.typeIs,F.args_dict_init_2 _ _,?_⟩;unfold jV.«dict.__init__»;refine jJ ?_;unfold jV.Dict.selfAndRest;refine jJ (wpAny_notOrdered_dict a.typeIs ?_)
 show wpAny _ _ _ _ _ _
 refine jR ?_
 show wpAny _ _ (jV.Dict.updateFrom "dict.__init__" s.heap.objs.size (.ref l) [] .none) _ _ _
 unfold jV.Dict.updateFrom;refine jJ (wpAny_typeOf Y ?_);rw[if_pos (by decide)];refine jJ (b2q i (by simp[hh]) λf t1 p=>?_);have gd:=p _ _ (Heap.get?_push_size _ rfl);have k:=λb o e=>p b o (Heap.get?_push_of_some _ e);have L:f.IsList l items:=⟨_,p l _ i,rfl,c,rfl⟩;refine jJ (lc (jJ (me L ?_)));refine jR ⟨mz a1k _,?_⟩;have G:=Heap.lt_size hl;have g:=Heap.lt_size gd;have h3:A.in1.in1.handled=none:=by simp[hh]
 have nI:=eJ (gM G g);have nf:s.heap.objs.size∉[f.objs.size,l]:=by
  simp;exact⟨eJ g,g4 G⟩
 have pt:∀ (j:Nat) v,items[j]?=some v->∀ b,v=.ref b->b<s.heap.objs.size:=λj v e b D=>by
  obtain⟨r,_,t,o,m,n,d,_⟩:=hi j v e;rw[D]at n;cases n;exact Heap.lt_size d
 have H:∀ r∈rows,r.2.1<s.heap.objs.size:=λr q=>by
  obtain⟨j,J⟩:=gz q;have hji:=(eL.mp J).1;obtain⟨r',n,t,o,m,_,_,_,_,o',_,_,d,_⟩:=hi j (items[j]'(by omega)) (by simp);rw[J]at n;cases n;exact Heap.lt_size d
 refine c02 (knd:=knd) ((Walks.list h3 _ l nI items).toS) s.heap.objs.size nf rows hn hz (show A.units+1+1<cLine by omega) (λr q=>⟨eJ (H r q),λz=>?_⟩) (items.size - 0) 0 _ (by omega) (fg _)
  ⟨⟨_,Heap.get?_push_size _ rfl,rfl,rfl⟩,L.push _⟩ (λj v e=>?_) (λj v e b D B=>?_) ?_ λs' y X=>?_
 ·have:=H r q
  rw[et.mp z]at this;exact absurd (gM this g) (fj _)
 ·obtain⟨r,R,t,o,m,rfl,d,V,e4,S⟩:=hi j v e;refine⟨r,R,⟨t,o,m,rfl,Heap.get?_push_of_some _ (k _ _ d),V,e4,a7m S λo e=>Heap.get?_push_of_some _ (k _ _ e)⟩,λz=>?_⟩;injection z with z
  exact absurd (Heap.lt_size d) (by rw[z];exact fj _)
 ·have:=pt j v e b D
  rw[et.mp B]at this;exact absurd (gM this g) (fj _)
 ·rw[List.take_zero]
  show Heap.DictOfH (j5 knd) _ _ []
  exact a82 a (λo e=>Heap.get?_push_of_some _ (p _ _ e)) λx W=>by simp at W
 ·obtain⟨h',U,T,N,I⟩:=s';have eg:U=s.gens:=y.gens;have ed:T=s.drawn:=y.drawn;have eo:I=s.os:=y.os;subst eg ed eo;refine⟨rfl,h h' N X λb o e=>y.heap b o (λB=>?_) (Heap.get?_push_of_some _ (k b o e))⟩;have u:=Heap.lt_size e;simp at B;rcases B with z | z
  ·rw[z]at u;exact fj _ u
  ·rw[z]at u;exact fj _ (gM u g)
end
end DictP
namespace L2
open PySem PySem.Spec PyProof.Rows
section
variable {X:Cx}
noncomputable def a8e (rows:List (Addr×Addr×List Key×V)) (acc:List (List Key×V)):List (List Key×V):=rows.foldl (λacc r=>putK acc r.2.2.1 r.2.2.2) acc
noncomputable def b88 (X:Cx):List V->Hp->VK->Prop:=λxs H Q=>∃ (p:Addr) (rows:List (Addr×Addr×List Key×V)),xs=[.ref p]/\SqL X.K H p (rows.map λr=>V.ref r.1)/\(∀ r∈rows,H r.1=some (.tup [.ref r.2.1,r.2.2.2])/\H r.2.1=some (.tup (r.2.2.1.map kV)))/\rows.length<=1000 /\
 ∀ t,H t=none->Q (.ref t) (upd H t (.dT (a8e rows [])))
theorem a8f (ok:HOk P w H h):∀ {rows:List (Addr×Addr×List Key×V)},(∀ r∈rows,H r.1=some (.tup [.ref r.2.1,r.2.2.2])/\H r.2.1=some (.tup (r.2.2.1.map kV)))->∃ vs:List (List Key×Addr×Value),vs.length=rows.length /\
  (∀ (j:Nat) r,rows[j]?=some r->∃ q,vs[j]?=some q/\DictP.PairT (a0N P w) h (.ref r.1) q)/\∀ acc bcc,KT H acc bcc->KT H (a8e rows acc) (DictP.mergedH bcc vs)
 | [],_=>⟨[],rfl,λj r e=>by simp at e,λ_ _ k=>k⟩
 | r::rows,hr=>by
  obtain⟨l,m,t,s⟩:=a8f ok λr c=>hr r (.tail _ c);obtain⟨b,a⟩:=hr r (.head _);obtain⟨_,z,g,o,f,p,n,x⟩:=(ok _ _ b);obtain⟨d,u,rfl,v,i⟩:=Vals.two g;cases (v);refine⟨(r.2.2.1,r.2.1,u)::l,by rw[eu,eu,m],λj q e=>?_,λA y k=>s _ _ (k.put r.2.2.1 a i)⟩;cases j with
  | zero=>
   cases e;exact⟨_,rfl,r.1,o,n,rfl,f,p,x,a7P ok a⟩
  | succ j=>exact t j q (by simpa using e)
theorem a8g:∀ (rows:List (Addr×Addr×List Key×V)) (acc:List (List Key×V)),(a8e rows acc).length<=acc.length+rows.length
 | [],_=>eh _
 | r::rows,acc=>by
  have:=a8g rows (putK acc r.2.2.1 r.2.2.2)
  have:=a2l acc r.2.2.1 r.2.2.2
  show (a8e rows (putK acc r.2.2.1 r.2.2.2)).length<=_
  rw[eu];omega
theorem b0E (hc:X.calm=true) (hu:X.A.units+66<cLine):CallR X (.type "dict") (b88 X):=by
 intro k s σ H xs us Q I r h;obtain⟨p,rows,rfl,T,ht,hz,q⟩:=h;obtain⟨u,rfl,rx⟩:=a3M r;cases rx;obtain⟨f,m,⟨o,n,R,D,t,J⟩,_⟩:=I.list T;obtain⟨c,dd,dt,sl⟩:=o;simp only at D t J;subst D t J;obtain⟨B,E,h2,U⟩:=a8f I.hok ht;have hl:f.length=rows.length:=by have:=m.length;rw[dY]at this;omega
 have d:B.length<=sizeLine:=by rw[E,jZ];omega
 refine DictP.call_pairsT (knd:=a0N X.prog X.w) (I.ok.hd hc) (by omega) R (λj v e=>?_) (by rw[E,fv];exact hl) d λg G hD kp=>?_
 ·have C:f[j]?=some v:=by simpa using e
  obtain⟨r,z⟩:∃ r,rows[j]?=some r:=⟨rows[j]'(by grind),eI _⟩;obtain⟨q,y,pa⟩:=h2 j r z;obtain⟨u,F,V⟩:=m.get (by rw[eE,z];rfl);rw[C]at F;cases F;rw[V];exact⟨q,y,pa⟩
 ·have k0:=U [] [] .nil;have l:=I.hok.fresh (eh s.heap.objs.size);have N:=(a9o (P:=X.prog) (w:=X.w) (H:=λ_=>none) s.heap I.big).2.1;have S:=a8g rows [];obtain⟨ob,es,ep,M,g2,g3,L,_,Y⟩:=hD;have W:=
   I.laid (t':=G) kp (eh _) (show ObjOk X.prog X.w _ g _ (.dT (a8e rows [])) from ⟨by rw[jZ];simp at S;omega,N,_,k0.keeps λb ys e=>by rw[a0r (a1J e l)];exact e,ob,es,ep,M,g2,g3,L,Y⟩)
  exact⟨.ref s.heap.objs.size,_,W,rfl,q _ l⟩
end
end L2
namespace L3
open PySem PySem.Spec PyProof.Rows L2
section
variable {X:Cx}{K:Fg}{H:Hp}
theorem a8h:∀ {k:List Key}{vs:List V},Reps K H (k.map keyW) vs->vs=k.map kV
 | [],vs,h=>by rw[eQ,a0q]at h;exact h
 | k::ks,vs,h=>by
  obtain⟨v,r,rfl,b,a⟩:=h;rw[b38 b,a8h a];rfl
theorem a9N {k:List Key}(h:Rep K H (.tup (k.map keyW)) v):∃ b,v=.ref b/\H b=some (.tup (k.map kV)):=by
 obtain⟨a,e,rfl,d,c⟩:=h;exact⟨a,rfl,by rw[d,a8h c]⟩
noncomputable def prT (r:List Key×Z):Z:=.tup [.tup (r.1.map keyW),r.2]
theorem b4a {k j:List Key}:j∈(putK kvs k v).map (·.1)↔j=k\/j∈kvs.map (·.1):=by
 unfold putK
 split
 ·next hc=>
  obtain⟨p,b,c⟩:=fX.mp hc;have e:(kvs.map λa=>if a.1=k then (a.1,v) else a).map (·.1)=kvs.map (·.1):=by
   rw[eO];refine fq λx _=>?_
   show (if x.1=k then _ else x).1=x.1
   split<;>rfl
  rw[e];refine⟨.inr,λh=>h.elim (λz=>?_) id⟩;rw[z,<- of_decide_eq_true c];exact eU b
 ·rw[eD,ei]
  constructor
  ·rintro (h | h)
   ·exact .inr h
   ·exact .inl (by simp_all)
  ·rintro (h | h)
   ·exact .inr (by simp[h])
   ·exact .inl h
theorem a9O:∀ {rows:List (List Key×Z)}{vs:List V},Reps K H (rows.map prT) vs->∃ rs:List (Addr×Addr×List Key×V),vs=rs.map (λr=>V.ref r.1)/\(∀ r∈rs,H r.1=some (.tup [.ref r.2.1,r.2.2.2])/\H r.2.1=some (.tup (r.2.2.1.map kV)))/\rs.length=rows.length /\
  ∀ bcc j,j∈(a8e rs bcc).map (·.1)↔j∈rows.map (·.1)\/j∈bcc.map (·.1)
 | [],vs,h=>by
  exact⟨[],h,λr f=>by simp at f,rfl,λc j=>by simp[a8e]⟩
 | r::rows,vs,h=>by
  obtain⟨v,w,rfl,e,k⟩:=h;obtain⟨i,rfl,n,m,p⟩:=a9O k;obtain⟨a,t,rfl,l,f⟩:=e;obtain⟨x,g,rfl,s,u⟩:=f.two;obtain⟨b,rfl,o⟩:=a9N s;refine⟨(a,b,r.1,g)::i,rfl,λq d=>?_,by rw[eu,eu,m],λc j=>?_⟩
  ·rcases eC.mp d with rfl | d
   ·simp_all
   ·exact n q d
  ·show j∈(a8e i _).map _↔_
   rw[p,b4a,eG,eC]
   constructor
   ·rintro (h | h | h)
    ·exact .inl (.inr h)
    ·exact .inl (.inl h)
    ·exact .inr h
   ·rintro ((h | h) | h)
    ·exact .inr (.inl h)
    ·exact .inl h
    ·exact .inr (.inr h)
noncomputable def b5d:List Z->Hq->K3->Prop:=λxs G R=>match xs with
 | [.ref p]=>∃ rows:List (List Key×Z),G p=some (.lst (rows.map prT))/\rows.length<=1000/\∀ t ks,G t=none->(∀ j,j∈ks↔j∈rows.map (·.1))->R (.ref t) (put G t (.dT ks))
 | _=>False
theorem b2t (hc:X.calm=true) (hu:X.A.units+66<cLine):a2r X (.type "dict") b5d:=a04 (b0E hc hu) λq H Q i=>i.un λf G R c a h n=>by
 match f,h with
 | [.ref p],h=>
  obtain⟨v,rfl,r⟩:=c.one;obtain⟨g,e,u,h⟩:=h;obtain⟨s,l,k⟩:=a _ _ e;obtain⟨c,rfl,d,w,m⟩:=a9O k;exact⟨p,c,by rw[r],SqL.of l,d,by omega,λt b=>n _ _ _ _ (h t _ (a.out b) λj=>by rw[m [] j];simp) (by rw[a0C]) (a.set (.new b) ⟨_,a0s,rfl⟩) (.new b)⟩
theorem b2u {rows:List (List Key×Z)}(e:G p=some (.lst (rows.map prT))) (z:rows.length<=1000) (h:∀ t ks,G t=none->(∀ j,j∈ks↔j∈rows.map (·.1))->R (.ref t) (put G t (.dT ks))):b5d [.ref p] G R:=⟨rows,e,z,h⟩
noncomputable def hasK (ks:List (List Key)) (k:List Key):Bool:=ks.any λj=>decide (j=k)
theorem b4b:hasK ks k=true↔k∈ks:=by simp[hasK]
noncomputable def zTIn (f:Bool->Bool):R3:=λx y G R=>match y with
 | .ref p=>∃ ks k,G p=some (.dT ks)/\x=.tup (k.map keyW)/\R (.bl (f (hasK ks k))) G
 | _=>False
theorem b2v:(valV kvs k).isSome=hasK (kvs.map (·.1)) k:=by
 rw[<- a66];unfold hasK;rw[List.any_map]
 rfl
theorem a9P (hu:X.A.units+66<cLine):OpQ X (jT .NotIn) (zTIn not):=a5K (b2j hu) λx y H Q g=>g.un λa b G R n f d h i=>by
 cases b with
 | ref p=>
  obtain⟨o,k,e,rfl,h⟩:=h;obtain⟨l,j,rfl⟩:=d _ _ e;obtain⟨c,rfl,m⟩:=a9N n;exact⟨p,valV l k,f,DGet.t j m,i _ _ _ _ h (by rw[a0O,b2v]) d (.refl _ _)⟩
 | _=>exact er h
theorem b89 (e:G p=some (.dT ks)) (ex:x=.tup (k.map keyW)) (h:R (.bl (f (hasK ks k))) G):zTIn f x (.ref p) G R:=⟨ks,k,e,ex,h⟩
end
noncomputable def uAny {ι:Type}(u:ι->E3):E3:=fun σ G R=>∃ b,u b σ G R
theorem b9a {ι:Type}{u:ι->E3}(h:∀ b,QE X e (u b)):QE X e (uAny u):=⟨λa s τ H Q I ⟨σ,G,R,c,d,⟨b,f⟩,g⟩=>(h b).p a s τ H Q I ⟨σ,G,R,c,d,f,g⟩⟩
theorem b9b {ι:Type}{u:ι->E3}(b:ι) (h:u b σ G R):uAny u σ G R:=⟨b,h⟩
end L3
namespace L2
open PySem PySem.Spec PyProof.Rows
structure OwnK (K:Fg) (C:Addr):Prop where
 cl:Cls K C
 ha:PySem.W.findIn K (.ref C) "__class__"=some (some (.builtin "object.__class__"))
 hn:PySem.W.specialIn K (.builtin "object.__class__") "__get__"=some (some (.builtin "getset_descriptor.__get__"))
 ht:PySem.W.takesIn K (.builtin "object.__class__")=some true
 hm:PySem.W.mroIn K C (.type "object")=some true
noncomputable def rIsI (K:Fg) (C D:Addr) (b:Bool):List V->Hp->VK->Prop:=λxs H Q=>∃ p dx fs,xs=[.ref p,.ref D]/\H p=some (.ins C dx fs)/\Q (.bl b) H
theorem b4c (o:OwnK X.K C) (k:PySem.W.kitOne X.K (.ref C) (.ref D)=some b):CallR X (.builtin "isinstance") (rIsI X.K C D b):=by
 intro d s σ H l j Q I r h;obtain⟨p,m,i,rfl,e,q⟩:=h;obtain⟨u,a,rfl,g,f⟩:=b0j r;cases (f);exact a7E I g (.ins e o.cl o.ha o.hn o.ht o.hm) k λc=>⟨.bl b,H,I.tok c,rfl,q⟩
end L2
namespace L3
open PySem PySem.Spec PyProof.Rows L2
noncomputable def zIsI (C D:Addr) (b:Bool):List Z->Hq->K3->Prop:=λxs G R=>∃ p dx fs,xs=[.ref p,.ref D]/\G p=some (.ins C dx fs)/\R (.bl b) G
theorem c03 (o:OwnK X.K C) (k:PySem.W.kitOne X.K (.ref C) (.ref D)=some b):a2r X (.builtin "isinstance") (zIsI C D b):=a04 (b4c o k) λs H Q i=>i.un λq G R f c h j=>by
 obtain⟨p,l,n,rfl,e,h⟩:=h;obtain⟨v,r,rfl,a,d⟩:=f.two;obtain⟨m,g,_⟩:=c _ _ e;exact⟨p,l,m,by rw[a,d],g,j _ _ _ _ h (by rw[a0O]) c (.refl _ _)⟩
theorem c04 (e:G p=some (.ins C dx fs)) (h:R (.bl b) G):zIsI C D b [.ref p,.ref D] G R:=⟨p,dx,fs,rfl,e,h⟩
end L3
namespace Tim
open PySem PyProof.Rows PySem.W
noncomputable def RowQ (h:Heap) (v:Value) (xs:List Pz):Prop:=∃ a o its n ps b,v=.ref a/\h.get? a=some o/\o.cls=.type "tuple"/\o.data=.seq its n/\its.toList=ps++[Value.ref b]/\PtsAre xs ps
theorem RowQ.uniq (r:RowQ h v xs) (q:RowQ h v ys):xs=ys:=by
 obtain⟨a,o,s,n,x,b,rfl,j,_,m,l,g⟩:=r;obtain⟨z,y,k,u,t,w,i,f,_,d,c,p⟩:=q;cases i;rw[j]at f;cases f;rw[m]at d;cases d;rw[l]at c;have e:=(jv c rfl).1;subst e;exact g.uniq p
open Classical in
noncomputable def rowQ (h:Heap) (v:Value):List Pz:=if e:∃ xs,RowQ h v xs then e.choose else []
theorem a3W (r:RowQ h v xs):rowQ h v=xs:=by
 unfold rowQ;have e:∃ xs,RowQ h v xs:=⟨xs,r⟩;rw[dif_pos e];exact e.choose_spec.uniq r
noncomputable def kQ (h:Heap) (rows:List (List Pz)):KF:=λp=>(rk rows (rowQ h p.1):Int)
noncomputable def RowsQ (h:Heap):List Value->List (List Pz)->Prop
 | [],[]=>True
 | v::vs,x::xs=>RowQ h v x/\RowsQ h vs xs
 | _,_=>False
theorem RowsQ.mem:∀ {vs:List Value}{rows:List (List Pz)},RowsQ h vs rows->∀ v∈vs,∃ x∈rows,RowQ h v x
 | v::vs,x::xs,⟨r,q⟩,u,hu=>by
  rcases eC.mp hu with rfl | hu
  ·exact⟨x,.head _,r⟩
  ·obtain⟨y,a,b⟩:=q.mem u hu;exact⟨y,.tail _ a,b⟩
 | [],[],_,u,hu=>by simp at hu
 | [],_::_,r,_,_=>r.elim
 | _::_,[],r,_,_=>r.elim
theorem RowsQ.inj:∀ {vs:List Value}{rows:List (List Pz)},RowsQ h vs rows->rows.Nodup->∀ {v u x},v∈vs->u∈vs->RowQ h v x->RowQ h u x->v=u
 | w::vs,y::ys,⟨r,q⟩,nd,v,u,x,hv,hu,e1,e2=>by
  obtain⟨e,g⟩:=gb.mp nd;have c:∀ {z},z∈vs->RowQ h z x->RowQ h w x->False:=λf a b=>by
   obtain⟨j,d,i⟩:=q.mem _ f;rw[i.uniq a]at d;rw[b.uniq r]at d;exact e d
  rcases eC.mp hv with c1 | c1
  ·rcases eC.mp hu with c2 | c2
   ·simp_all
   ·rw[c1]at e1;exact (c c2 e2 e1).elim
  ·rcases eC.mp hu with c2 | c2
   ·rw[c2]at e2;exact (c c1 e1 e2).elim
   ·exact q.inj g c1 c2 e1 e2
 | [],[],_,_,_,_,_,hv,_,_,_=>by simp at hv
 | [],_::_,r,_,_,_,_,_,_,_,_=>r.elim
 | _::_,[],r,_,_,_,_,_,_,_,_=>r.elim
theorem RowQ.mid {vs ws:List Value}(ho:h.get? a=some (seqObj "list" ws.toArray n)) (r:RowQ h v x):RowQ (a19 h a vs) v x:=by
 obtain⟨b,o,f,m,i,c,j,d,e,k,g⟩:=r;refine⟨b,o,f,m,i,c,j,b42 (λz=>?_) d,e,k,g⟩;rw[z,ho]at d;cases d;simp at e
theorem RowsQ.mid {us ws:List Value}(ho:h.get? a=some (seqObj "list" ws.toArray n)):∀ {vs:List Value}{rows:List (List Pz)},RowsQ h vs rows->RowsQ (a19 h a us) vs rows
 | [],[],_=>trivial
 | _::_,_::_,⟨r,q⟩=>⟨r.mid ho,q.mid ho⟩
 | [],_::_,r=>r.elim
 | _::_,[],r=>r.elim
theorem RowsQ.kat:∀ {vs:List Value}{rows:List (List Pz)},RowsQ h vs rows->a1Y rows->∃ fs:List Value,KatTups h vs fs/\fs.length=vs.length/\∀ v∈fs,∃ f:Str,PtIs (.inr f) v
 | [],[],_,_=>⟨[],trivial,rfl,λv a=>by simp at a⟩
 | v::vs,x::xs,⟨r,q⟩,hf=>by
  obtain⟨j,g,s,u⟩:=q.kat λy t=>hf y (.tail _ t);obtain⟨y,z,rfl⟩:=hf x (.head _);obtain⟨b,o,w,m,n,c,rfl,i,p,l,e,d⟩:=r;cases n with
  | nil=>exact d.elim
  | cons f fr=>
   obtain⟨k,_⟩:=d;refine⟨f::j,KatTups.cons i p l (by rw[<- fO,e];rfl) g,by rw[eu,eu,s],λv a=>?_⟩;rcases eC.mp a with rfl | a
   ·exact⟨y,k⟩
   ·simp_all
 | [],_::_,r,_=>r.elim
 | _::_,[],r,_=>r.elim
section
variable {prog:jO}{w:World}{A:Around}{E:Value->Shared->Prop}{s:Shared}{ajj:Array Keyed}{b:Bool}{Q:Bool->Shared->Prop}
theorem b0F (h:Q true s):wpAny (model prog w) A (eqBool (.ref c) (.ref c)) Q E s:=by
 refine j3 ?_;rw[if_pos (by simp)];exact jJ (lc (jR h))
theorem b9c:∀ {xs ys:List Pz}{vs us:List Value}{i:Nat},PtsAre xs vs->PtsAre ys us->cmpT xs ys=true->(xs=ys->c=d)->Q (ltT xs ys) s->KatLex prog w A b false Q ((vs++[Value.ref c]).zip (us++[Value.ref d])) i s
 | [],[],[],[],_,_,_,_,hb,h=>by
  rw[hb rfl];exact kat_cons (b0F (kat_yes h))
 | x::xs,y::ys,p::vs,q::us,i,⟨a,c⟩,⟨d,e⟩,hc,hb,h=>by
  unfold cmpT at hc;unfold ltT at h
  by_cases exy:x=y
  ·rw[if_pos exy]at hc h;refine kat_cons (b3X a d (.inl exy) ?_);rw[decide_eq_true exy];exact kat_yes (b9c c e hc (λz=>hb (by grind)) h)
  ·rw[if_neg exy]at hc h;refine kat_cons (b3X a d (.inr hc) ?_);rw[decide_eq_false exy];exact kat_no (b45 a d hc h)
 | [],_::_,_,_,_,_,_,hc,_,_=>by simp[cmpT]at hc
 | _::_,[],_,_,_,_,_,hc,_,_=>by simp[cmpT]at hc
 | [],[],_::_,_,_,h,_,_,_,_=>h.elim
 | [],[],[],_::_,_,_,h,_,_,_=>h.elim
 | _::_,_::_,[],_,_,h,_,_,_,_=>h.elim
 | _::_,_::_,_::_,[],_,_,h,_,_,_=>h.elim
theorem lt_q (h0:∀ p∈ajj.toList,∃ x∈rows,RowQ s.heap p.1 x) (hu:∀ p∈ajj.toList,∀ q∈ajj.toList,∀ x,RowQ s.heap p.1 x->RowQ s.heap q.1 x->p.1=q.1) (hm:∀ x∈rows,x.length=m) (hc:∀ x∈rows,∀ y∈rows,cmpT x y=true):LtOk (model prog w) A E s (kQ s.heap rows) (lP b) ajj:=λp q B H U Q S h=>by
 obtain⟨x,i,v⟩:=h0 p B;obtain⟨y,g,r⟩:=h0 q H;have R:Q (some (ltT x y)) U:=by
  have e:decide (kQ s.heap rows p<kQ s.heap rows q)=ltT x y:=by
   unfold kQ;rw[a3W v,a3W r]
   have:=b44 i g (hc x i y g)
   cases e:ltT x y
   ·grind
   ·grind
  rw[e]at h;exact h
 have t:=λz:x=y=>hu p B q H y (z▸v) r;obtain⟨a,o,j,n,W,c,M,L,e3,G,u,C⟩:=v;obtain⟨a',X,d,Y,V,c',F,k,f3,l,f,I⟩:=r;rw[lt'_eq];refine jL (j9 ?_);rw[S,M,F];refine jL (lO (mw (kat_lt L G k l ?_)));have D:=a5S C;have J:=a5S I;rw[hm x i]at D;rw[hm y g]at J;have T:j.toList.length=m+1:=by rw[u,eB,D];rfl
 have N:d.toList.length=m+1:=by rw[f,eB,J];rfl
 rw[fT]at T N;rw[decide_eq_false (by omega),u,f];refine b9c C I (hc x i y g) (λz=>?_) ⟨rfl,jM R⟩;have e:=t z;rw[M,F]at e;cases e;rw[L]at k;cases k;rw[G]at l;cases l;rw[u]at f
 have:=(jv f rfl).2
 simpa using this
theorem sort_q (ho:s.heap.get? a=some (seqObj "list" vs.toArray n)) (hz:vs.length<=100000) (hr:RowsQ s.heap vs rows) (nd:rows.Nodup) (hf:a1Y rows)
  (hm:∀ x∈rows,x.length=m) (hc:∀ x∈rows,∀ y∈rows,cmpT x y=true)
  (h:∀ out:List Value,out.Perm vs->(out.map (rowQ s.heap)).Pairwise (λx y=>ltT y x=false)->P (.done (.ret .none)) { s with heap:=lv s.heap a vs out.toArray }):wpAny (model prog w) A (jV.«list.sort» ⟨[.ref a],[]⟩) P E s:=by
 have g:RowsQ (a19 s.heap a vs) vs rows:=hr.mid ho;have j:∀ p∈(kf vs).toList,p.1∈vs:=λp c=>by
  rw[k7,a4h]at c;obtain⟨v,i,rfl⟩:=eq.mp c;exact i
 refine b17 (k0:=lP true) ho hz (λH Q r=>?_) (λH=>lt_q (λp c=>g.mem _ (j p c)) (λp c q r x o N=>g.inj nd (j p c) (j q r) o N) hm hc) λD c S=>?_
 ·obtain⟨fs,L,k2,U⟩:=g.kat hf;refine kat_kind (T:=.type "str") L (by omega) (λv i=>?_) (by rfl) r;obtain⟨x,t,rfl⟩:=U v i;exact .now
 ·rw[k7,a4h]at c;have o:(D.map (·.2)).Perm vs:=by
   have:=c.map (·.2)
   rw[eO,show (_∘λv:Value=>(v,v))=id from rfl,gC]at this;exact this
  have k:∀ p∈D,p.1=p.2/\p.2∈vs:=λp l=>by
   obtain⟨v,i,rfl⟩:=eq.mp (c.mem_iff.mp l);exact⟨rfl,i⟩
  refine h _ o ?_;rw[eZ,eZ];refine fk.imp_of_mem (λ{p q} l C z=>?_) S;obtain⟨J,R⟩:=k p l;obtain⟨I,G⟩:=k q C;obtain⟨x,x1,B⟩:=hr.mem _ R;obtain⟨y,M,F⟩:=hr.mem _ G;rw[a3W B,a3W F];unfold kQ at z;rw[J,I,a3W (B.mid ho),a3W (F.mid ho)]at z;cases e:ltT y x with
  | false=>rfl
  | true=>have:=b3W M e;omega
end
theorem a8i {α β:Type}{f:α->β}:∀ {l:List α}{m:List β},m.Perm (l.map f)->∃ l':List α,l'.Perm l/\l'.map f=m:=by
 intro l m h;generalize hk:l.map f=k at h
 induction h generalizing l with
 | nil=>exact⟨l,.refl _,hk⟩
 | cons x _ ih=>
  cases l with
  | nil=>simp at hk
  | cons y l=>
   injection hk with h1 h2
   obtain⟨e,c,d⟩:=ih h2;exact⟨y::e,c.cons y,by rw[eG,h1,d]⟩
 | swap x y t=>
  match l,hk with
  | a::b::l,hk=>
   injection hk with h1 hk
   injection hk with h2 h3
   exact⟨b::a::l,.swap ..,by rw[eG,eG,h1,h2,h3]⟩
 | trans _ _ ih1 ih2=>
  obtain⟨n,c,d⟩:=ih2 hk;obtain⟨g,j,i⟩:=ih1 d;exact⟨g,j.trans c,i⟩
end Tim
namespace L2
open PySem PySem.Spec PyProof.Rows Tim
theorem a8j:∀ {vs:List V}{v:V}{us:List Value},Vals (vs++[v]) us->∃ ws u,us=ws++[u]/\Vals vs ws/\RelV v u
 | [],v,us,h=>by
  cases h with
  | cons r1 r2=>cases r2;exact⟨[],_,rfl,.nil,r1⟩
 | x::vs,v,us,h=>by
  cases h with
  | cons r1 r2=>
   obtain⟨a,u,rfl,b,c⟩:=a8j r2;exact⟨_::a,u,rfl,.cons r1 b,c⟩
noncomputable def b6C (H:Hp) (bs:List Addr) (xs:List (List Pz)):Prop:=bs.length=xs.length/\∀ (i:Nat) (b:Addr) (x:List Pz),bs[i]?=some b->xs[i]?=some x->∃ c,H b=some (.tup (x.map ptV++[V.ref c]))
theorem b2w (I:Inv X pins σ H s) (e:H b=some (.tup (x.map ptV++[V.ref c]))):RowQ s.heap (.ref b) x:=by
 obtain⟨_,j,r,o,a,i,n,h⟩:=(I.hok b _ e);obtain⟨d,u,rfl,g,f⟩:=a8j r;exact⟨b,o,_,n,d,c,rfl,a,i,h,by rw[f],a7k g⟩
theorem a6V (I:Inv X pins σ H s):∀ {bs:List Addr}{xs:List (List Pz)},b6C H bs xs->RowsQ s.heap (bs.map Value.ref) xs
 | [],[],_=>trivial
 | [],_::_,h=>by have:=h.1;simp at this
 | _::_,[],h=>by have:=h.1;simp at this
 | b::bs,x::xs,h=>by
  obtain⟨c,e⟩:=h.2 0 b x rfl rfl;exact⟨b2w I e,a6V I ⟨by have:=h.1;simpa using this,λi c y a d=>h.2 (i+1) c y (by simpa using a) (by simpa using d)⟩⟩
noncomputable def b4d (K:Fg):List V->Hp->VK->Prop:=λvs H Q=>∃ (p:Addr) (bs:List Addr) (xs:List (List Pz)) (m:Nat),vs=[.ref p]/\SqL K H p (bs.map V.ref)/\b6C H bs xs/\bs.length<=100000/\xs.Nodup/\a1Y xs/\(∀ x∈xs,x.length=m)/\(∀ x∈xs,∀ y∈xs,cmpT x y=true) /\
 ∀ (t:Addr) (ys:List (Addr×List Pz)),H t=none->ys.Perm (bs.zip xs)->(ys.map (·.2)).Pairwise (λx y=>ltT y x=false)->Q (.ref t) (upd H t (.lst (ys.map λy=>V.ref y.1)))
theorem a8k:CallR X (.builtin "sorted") (b4d X.K):=by
 intro k s σ H xs us Q I r h;obtain⟨p,a,z,m,rfl,W,j,hbl,U,Y,R,N,q⟩:=h;obtain⟨u,rfl,S⟩:=a3M r;cases S;obtain⟨its,rv,pl,_⟩:=I.list W
 have:=a7l rv
 subst this;have L:(a.map Value.ref).length<=sizeLine:=by rw[dY,jZ];omega
 refine Calls.call_function_entry lQ lR lS (lT _) ?_;unfold jV.«sorted»;refine jJ (jR (jJ (my pl.isList ?_ L)));have F:∀ b o,s.heap.get? b=some o->((s.heap.push (seqObj "list" #[] 0)).update s.heap.objs.size (Obj.mapSeq (·++(a.map Value.ref).toArray))).get? b=some o:=λb o e=>by
  have f:=Heap.lt_size e;rw[Heap.get?_update_ne _ _ _ _ (eJ f)];exact Heap.get?_push_of_some _ e
 generalize (s.heap.push (seqObj "list" #[] 0)).update s.heap.objs.size (Obj.mapSeq (·++(a.map Value.ref).toArray))=g at F ⊢;have v:=I.kept (t':=s.toks) F;refine jJ (kZ ?_ L);have A:(g.push _).get? g.objs.size=some (seqObj "list" (a.map Value.ref).toArray 0):=Heap.get?_push_size _ rfl;have M:Inv X k σ H { s with heap:=g.push (seqObj "list" (a.map Value.ref).toArray 0) }:=v.kept (t':=s.toks) λb o e=>Heap.get?_push_of_some _ e;refine jJ (j3 (lr lU ⟨_,A,rfl⟩ lV (Tim.sort_q A (by rw[dY];omega) (a6V M j) U Y R N λout G E=>⟨_,rfl,?_⟩) (lW _)));have l:=lX (out:=out.toArray) A;obtain⟨n,l⟩:=l;have J:a.map Value.ref=(a.zip z).map λy=>Value.ref y.1:=by
  rw[show (λy:Addr×List Pz=>Value.ref y.1)=Value.ref∘Prod.fst from rfl,<- eO,List.map_fst_zip (by have:=j.1;omega)]
 rw[J]at G;obtain⟨d,B,rfl⟩:=a8i G;have hcl:d.length=a.length:=by have:=B.length_eq;rw[iO,j.1,Nat.min_self]at this;rw[this,j.1]
 have D:∀ y∈d,rowQ (g.push (seqObj "list" (a.map Value.ref).toArray 0)) (Value.ref y.1)=y.2:=λy C=>by
  obtain⟨i,hi,e⟩:=iF (B.mem_iff.mp C);rw[iO]at hi;rw[jw]at e;obtain⟨c,hH⟩:=j.2 i y.1 y.2 (by grind) (by grind);exact a3W (b2w M hH)
 have T:(d.map (·.2)).Pairwise (λx y=>ltT y x=false):=by
  have e:(d.map λy=>Value.ref y.1).map (rowQ (g.push (seqObj "list" (a.map Value.ref).toArray 0)))=d.map (·.2):=by
   rw[eO];exact fq λy C=>D y C
  rw[e]at E;exact E
 refine jR ⟨_,rfl,?_⟩;exact⟨.ref g.objs.size,_,v.laid (t':=s.toks) (λb o e=>by
  have f:=Heap.lt_size e;rw[lY (eJ f) (by rw[Heap.size_push];exact gg f)];exact Heap.get?_push_of_some _ e) (eh _) (show ObjOk X.prog X.w _ _ _ (.lst _) from ⟨by rw[dY,jZ];omega,d.map (λy=>Value.ref y.1),n,by
   have:=a4R (d.map (·.1))
   rw[eO,eO]at this;exact this,by simpa using l⟩),rfl,q _ d (v.hok.fresh (eh _)) B T⟩
end L2
namespace L3
open PySem PySem.Spec PyProof.Rows L2 Tim
noncomputable def rowW (x:List Pz×List Z):Z:=.tup (x.1.map ptZ++[.tup x.2])
theorem a8l {K:Fg}:∀ {rows:List (List Pz×List Z)}{vs:List V},Reps K H (rows.map rowW) vs->∃ bs:List Addr,vs=bs.map V.ref/\b6C H bs (rows.map (·.1))/\∀ (i:Nat) b x,bs[i]?=some b->rows[i]?=some x->Rep K H (rowW x) (.ref b)
 | [],vs,h=>by
  rw[eQ,a0q]at h;subst h;exact⟨[],rfl,⟨rfl,λi b x e=>by simp at e⟩,λi b x e=>by simp at e⟩
 | x::rows,vs,h=>by
  obtain⟨v,r,rfl,d,g⟩:=h;have q:=d;unfold rowW at d;rw[a1K]at d;obtain⟨a,f,rfl,e,o⟩:=d;obtain⟨m,rfl,⟨s,t⟩,u⟩:=a8l g;have n:∃ c,f=x.1.map ptV++[V.ref c]:=by
   have:∀ {j:List Pz}{f:List V},Reps K H (j.map ptZ++[.tup x.2]) f->∃ c,f=j.map ptV++[V.ref c]:=by
    intro j
    induction j with
    | nil=>
     intro f h;obtain⟨v,r,rfl,d,g⟩:=h;rw[a0q]at g;rw[a1K]at d;obtain⟨c,_,rfl,_⟩:=d;exact⟨c,by rw[g];rfl⟩
    | cons p j ih=>
     intro f h;obtain⟨v,r,rfl,d,g⟩:=h;obtain⟨c,rfl⟩:=ih g;exact⟨c,by rw[rep_pt.mp d];rfl⟩
   exact this o
  obtain⟨c,rfl⟩:=n;refine⟨a::m,rfl,⟨by rw[eu,s];simp,λi b y l k=>?_⟩,λi b y l k=>?_⟩
  ·cases i with
   | zero=>cases l;cases k;exact⟨c,e⟩
   | succ i=>exact t i b y (by simpa using l) (by simpa using k)
  ·cases i with
   | zero=>cases l;cases k;exact q
   | succ i=>exact u i b y (by simpa using l) (by simpa using k)
noncomputable def a9Q:List Z->Hq->K3->Prop:=λxs G R=>match xs with
 | [.ref p]=>∃ (rows:List (List Pz×List Z)) (m:Nat),G p=some (.lst (rows.map rowW))/\rows.length<=100000/\(rows.map (·.1)).Nodup/\a1Y (rows.map (·.1))/\(∀ x∈rows,x.1.length=m)/\(∀ x∈rows,∀ y∈rows,cmpT x.1 y.1=true)/\∀ (t:Addr) (os:List (List Pz×List Z)),G t=none->os.Perm rows->(os.map (·.1)).Pairwise (λx y=>ltT y x=false)->R (.ref t) (put G t (.lst (os.map rowW)))
 | _=>False
theorem b2x:a2r X (.builtin "sorted") a9Q:=a04 a8k λxs H Q d=>d.un λC G R S q h N=>by
 match C,h with
 | [.ref p],h=>
  obtain⟨v,rfl,r⟩:=S.one;obtain⟨a,m,e,k,nd,D,I,L,h⟩:=h;obtain⟨vs,M,J⟩:=q _ _ e;obtain⟨g,rfl,A,T⟩:=a8l J;have U:g.length=a.length:=by have:=A.1;simpa using this
  have c:∀ {P:List Pz->Prop},(∀ x∈a,P x.1)->∀ y∈a.map (·.1),P y:=λh y s=>by grind
  refine⟨p,g,a.map (·.1),m,by rw[r],SqL.of M,A,by rw[U];exact k,nd,D,c I,c λx d=>c λy s=>L x d y s,λt ys f n w=>?_⟩;have W:g.zip (a.map (·.1))=(g.zip a).map λz=>(z.1,z.2.1):=by rw[List.zip_map_right];rfl
  rw[W]at n;obtain⟨b,l,rfl⟩:=a8i n;have B:(b.map (·.2)).Perm a:=by
   have:=l.map (·.2)
   rw[List.map_snd_zip (by omega)]at this;exact this
  have F:Reps X.K H ((b.map (·.2)).map rowW) (b.map λz=>V.ref z.1):=by
   have j:∀ z∈b,Rep X.K H _ (.ref z.1):=λz k=>by
    obtain⟨i,hi,e⟩:=iF (l.mem_iff.mp k);rw[iO]at hi;rw[jw]at e;exact T i z.1 z.2 (by rw[<- e];exact eI (by omega)) (by rw[<- e];exact eI (by omega))
   clear l n w B
   induction b with
   | nil=>rw[eQ,eQ,eQ,a0q]
   | cons z b ih=>
    exact⟨_,_,rfl,j z (.head _),ih λu Y=>j u (.tail _ Y)⟩
  have E:=h t (b.map (·.2)) (q.out f) B (by rw[eO];rw[eO]at w;exact w);rw[eO];exact N _ _ _ _ E (by rw[a0C]) (q.set (.new f) ⟨_,a0s,Reps.mono (.new f) _ _ F⟩) (.new f)
theorem b2y (e:G p=some (.lst (rows.map rowW))) (z:rows.length<=100000) (nd:(rows.map (·.1)).Nodup) (hf:a1Y (rows.map (·.1))) (hm:∀ x∈rows,x.1.length=m) (hc:∀ x∈rows,∀ y∈rows,cmpT x.1 y.1=true) (h:∀ (t:Addr) (os:List (List Pz×List Z)),G t=none->os.Perm rows->(os.map (·.1)).Pairwise (λx y=>ltT y x=false)->R (.ref t) (put G t (.lst (os.map rowW)))):a9Q [.ref p] G R:=⟨rows,m,e,z,nd,hf,hm,hc,h⟩
end L3
set_option maxHeartbeats 4000000
namespace L3
set_option genInjectivity false in
inductive Ex4 {α0 α1 α2 α3:Type}(p:α0->α1->α2->α3->Prop):Prop
 | mk (a0:α0) (a1:α1) (a2:α2) (a3:α3) (h:p a0 a1 a2 a3):Ex4 p
set_option genInjectivity false in
inductive Ex5 {α0 α1 α2 α3 α4:Type}(p:α0->α1->α2->α3->α4->Prop):Prop
 | mk (a0:α0) (a1:α1) (a2:α2) (a3:α3) (a4:α4) (h:p a0 a1 a2 a3 a4):Ex5 p
set_option genInjectivity false in
inductive Ex6 {α0 α1 α2 α3 α4 α5:Type}(p:α0->α1->α2->α3->α4->α5->Prop):Prop
 | mk (a0:α0) (a1:α1) (a2:α2) (a3:α3) (a4:α4) (a5:α5) (h:p a0 a1 a2 a3 a4 a5):Ex6 p
set_option genInjectivity false in
inductive Ex7 {α0 α1 α2 α3 α4 α5 α6:Type}(p:α0->α1->α2->α3->α4->α5->α6->Prop):Prop
 | mk (a0:α0) (a1:α1) (a2:α2) (a3:α3) (a4:α4) (a5:α5) (a6:α6) (h:p a0 a1 a2 a3 a4 a5 a6):Ex7 p
set_option genInjectivity false in
inductive Ex9 {α0 α1 α2 α3 α4 α5 α6 α7 α8:Type}(p:α0->α1->α2->α3->α4->α5->α6->α7->α8->Prop):Prop
 | mk (a0:α0) (a1:α1) (a2:α2) (a3:α3) (a4:α4) (a5:α5) (a6:α6) (a7:α7) (a8:α8) (h:p a0 a1 a2 a3 a4 a5 a6 a7 a8):Ex9 p
end L3
namespace Lw
open PySem L2 L3
noncomputable def top (i:Nat):Stmt:=PySem.Challenge.pw_twotimes_k21_tiles_told.main.body.getD i (.Pass ⟨0,0,0,0⟩)
abbrev a2A:Stmt:=top 9
abbrev a2B:Stmt:=top 10
abbrev a2a:Stmt:=top 11
abbrev a1N:Stmt:=top 12
abbrev a2b:Stmt:=top 14
abbrev a1l:Stmt:=top 15
abbrev a1a:Stmt:=top 16
abbrev a1Z:Stmt:=top 19
abbrev a00:Stmt:=top 21
abbrev a2C:Stmt:=top 20
abbrev a4S:Stmt:=top 18
abbrev a1m:Stmt:=top 23
abbrev a1O:Stmt:=top 24
abbrev a2D:Stmt:=a1z (top 25) 3
abbrev a01:Stmt:=a1z (top 25) 7
abbrev a0W:Stmt:=a1z (top 25) 9
abbrev a4T:Stmt:=top 31
abbrev a1P:Stmt:=top 32
abbrev a2E:Stmt:=top 33
abbrev a0X:Stmt:=a1z (top 34) 2
abbrev a1b:Stmt:=a1z (top 25) 6
abbrev a1B:Stmt:=a1z (top 25) 2
abbrev a2F:Stmt:=top 28
abbrev a0P:Stmt:=top 30
abbrev a1Q:Stmt:=a1z (top 25) 5
abbrev a1C:Stmt:=top 29
abbrev a3a:Stmt:=top 27
abbrev a5Y:Stmt:=top 36
abbrev b6D:Stmt:=top 37
abbrev a83:Stmt:=top 38
abbrev a5Z:Stmt:=top 39
abbrev a50:Stmt:=top 40
abbrev a84:Stmt:=top 41
abbrev b2z:Stmt:=top 42
abbrev a7n:Stmt:=top 43
abbrev a2G:Stmt:=a1z (top 34) 0
abbrev a85:Stmt:=top 44
abbrev a1D:Stmt:=a1z (top 25) 0
abbrev a1n:Stmt:=a1z (top 25) 8
abbrev a1o:Stmt:=a1z (top 34) 1
abbrev a3b:Stmt:=a1z (top 25) 1
abbrev a7o:Stmt:=top 45
theorem a0T (hr:Room k A):A.units+66<cLine:=by have:=hr.un;omega
local macro_rules | `(tactic| walk_at "sc")=>`(tactic| exact⟨rfl,rfl,rfl,by decide +kernel,rfl,by decide +kernel,by decide +kernel⟩)
theorem a8m:FnScope ["thing"] ["thing"] (a0e a2A):=by walk_at "sc"
theorem a6p:FnScope ["thing"] ["thing"] (a0e a2B):=by walk_at "sc"
theorem a51:FnScope ["begin","end"] ["begin","end"] (a0e a2a):=by walk_at "sc"
theorem a5e:FnScope ["end","other"] ["end","other"] (a0e a1N):=by walk_at "sc"
theorem a52:FnScope ["thing"] ["thing"] (a0e a2b):=by walk_at "sc"
theorem a4j:FnScope ["begin","end"] ["begin","end"] (a0e a1l):=by walk_at "sc"
theorem a3X:FnScope ["knowing","last"] ["knowing","last"] (a0e a1a):=by walk_at "sc"
theorem a7p:FnScope ["line","moment"] ["line","moment"] (a0e a1Z):=by walk_at "sc"
theorem sc_p_with_alike_joined:FnScope ["pieces","told","piece"] ["pieces"] (a0e a00):=by walk_at "sc"
theorem a8n:FnScope ["line","moment"] ["line","moment"] (a0e a2C):=by walk_at "sc"
theorem sc_p_put_on:FnScope ["line","begin","end","worth","pieces"] ["line","begin","end","worth"] (a0e a4S):=by walk_at "sc"
theorem sc_p_check_telling:FnScope ["telling","name"] ["telling"] (a0e a1m):=by walk_at "sc"
theorem sc_p_line_behind:FnScope ["line","telling","worth"] ["line","telling"] (a0e a1O):=by walk_at "sc"
theorem a6q:FnScope ["self"] ["self"] (a0e a2D):=by walk_at "sc"
theorem a2Z:FnScope ["self","knowing"] ["self","knowing"] (a0e a01):=by walk_at "sc"
theorem sc_Sheet_known_line:FnScope ["self","key","knowing","since","line"] ["self","key","knowing"] (a0e a0W):=by walk_at "sc"
theorem a86:FnScope ["tile"] ["tile"] (a0e a4T):=by walk_at "sc"
theorem a5f:FnScope ["tile"] ["tile"] (a0e a1P):=by walk_at "sc"
theorem a6r:FnScope ["tile","knowing"] ["tile","knowing"] (a0e a2E):=by walk_at "sc"
theorem a3Y:FnScope ["self","key","knowing"] ["self","key","knowing"] (a0e a0X):=by walk_at "sc"
theorem a5g:FnScope ["self","knowing"] ["self","knowing"] (a0e a1b):=by walk_at "sc"
theorem a4U:FnScope ["self"] ["self"] (a0e a1B):=by walk_at "sc"
theorem sc_p_keys_ever:FnScope ["sheet","seen","knowing","key"] ["sheet"] (a0e a2F):=by walk_at "sc"
theorem sc_p_tiled_on:FnScope ["tiles","key","line","knowing","wanted","standing","begun","ended"] ["tiles","key","line","knowing"] (a0e a0P):=by walk_at "sc"
theorem a5h:FnScope ["self","key","knowing"] ["self","key","knowing"] (a0e a1Q):=by walk_at "sc"
theorem sc_p_tiles_of_key:FnScope ["sheet","key","tiles","knowing"] ["sheet","key"] (a0e a1C):=by walk_at "sc"
theorem sc_p_tiles_of:FnScope ["sheet","told","key"] ["sheet"] (a0e a3a):=by walk_at "sc"
theorem b0G:FnScope ["script","k"] ["script","k"] (a0e a5Y):=by walk_at "sc"
theorem sc_mix:FnScope ["cell","k","one"] ["cell","k"] (a0e b6D):=by walk_at "sc"
theorem sc_parts:FnScope ["cell","way","bounds","found","k"] ["cell","way","bounds"] (a0e a83):=by walk_at "sc"
theorem sc_names:FnScope ["cell","way","many","letters","xs","stem","at","found"] ["cell","way","many"] (a0e a5Z):=by walk_at "sc"
theorem sc_telling:FnScope ["cell","way","keys","worths","xs","begin","end"] ["cell","way","keys","worths"] (a0e a50):=by walk_at "sc"
theorem sc_until:FnScope ["lines","run","knowing","k"] ["lines","run","knowing"] (a0e a84):=by walk_at "sc"
theorem sc_due:FnScope ["sheet","keys","found","key","lines","knowing","run","until"] ["sheet","keys"] (a0e b2z):=by walk_at "sc"
theorem sc_kinds:FnScope ["tiles","tile"] ["tiles"] (a0e a7n):=by walk_at "sc"
theorem sc_Tiled_tiles:FnScope ["self","told","name","key","worth","begin","end","since","until"] ["self"] (a0e a2G):=by walk_at "sc"
theorem sc_right:FnScope ["sheet","tiled","keys","held","due","told"] ["sheet","tiled","keys","held"] (a0e a85):=by walk_at "sc"
theorem a4V:FnScope ["self"] ["self"] (a0e a1D):=by walk_at "sc"
theorem a4k:FnScope ["self","key","line"] ["self","key","line"] (a0e a1n):=by walk_at "sc"
theorem a4l:FnScope ["self","key","line"] ["self","key","line"] (a0e a1o):=by walk_at "sc"
theorem sc_Sheet_tell:FnScope ["self","telling","key","line"] ["self","telling"] (a0e a3b):=by walk_at "sc"
theorem sc_law:FnScope ["script","way","keys","worths","sheet","tiled","held","cell","telling"] ["script"] (a0e a7o):=by walk_at "sc"
theorem c05:fc (α:=Str) ["sign"]:=by decide +kernel
theorem b0H:fc (α:=Str) ["begin","end","worth","moment"]:=by decide +kernel
theorem b6E:fc (α:=Str) ["begin","end","worth"]:=by decide +kernel
theorem c06:fc (α:=Str) ["tile","knowing"]:=by decide +kernel
theorem c07:fc (α:=Str) ["key","knowing","self"]:=by decide +kernel
theorem c08:fc (α:=Str) ["run"]:=by decide +kernel
theorem c09:fc (α:=Str) ["tile"]:=by decide +kernel
theorem c1a:fc (α:=Str) ["run","standing"]:=by decide +kernel
theorem c1b:fc (α:=Str) ["tile","wanted","knowing"]:=by decide +kernel
theorem b6F:fc (α:=Str) ["begin","end","worth","key","knowing"]:=by decide +kernel
theorem b9d:fc (α:=Str) ["k","letters","xs"]:=by decide +kernel
theorem b9e:fc (α:=Str) ["k","stem","letters","at","xs"]:=by decide +kernel
theorem b9f:fc (α:=Str) ["knowing","key","sheet"]:=by decide +kernel
theorem b9g:fc (α:=Str) ["row"]:=by decide +kernel
theorem b9h:fc (α:=Str) ["part"]:=by decide +kernel
theorem b5e:fc (α:=Str) ["told","kept"]:=by decide +kernel
set_option genInjectivity false in
structure Ad where
 f0:Addr
 d0:jQ
 f1:Addr
 d1:jQ
 f2:Addr
 d2:jQ
 f3:Addr
 d3:jQ
 f4:Addr
 d4:jQ
 f5:Addr
 d5:jQ
 f6:Addr
 d6:jQ
 f7:Addr
 d7:jQ
 f8:Addr
 d8:jQ
 f9:Addr
 d9:jQ
 f10:Addr
 d10:jQ
 f11:Addr
 d11:jQ
 f12:Addr
 d12:jQ
 f13:Addr
 d13:jQ
 f14:Addr
 d14:jQ
 f15:Addr
 d15:jQ
 f16:Addr
 d16:jQ
 f17:Addr
 d17:jQ
 f18:Addr
 d18:jQ
 f19:Addr
 d19:jQ
 f20:Addr
 d20:jQ
 f21:Addr
 d21:jQ
 f22:Addr
 d22:jQ
 f23:Addr
 d23:jQ
 f24:Addr
 d24:jQ
 f25:Addr
 d25:jQ
 f26:Addr
 d26:jQ
 f27:Addr
 d27:jQ
 f28:Addr
 d28:jQ
 f29:Addr
 d29:jQ
 f30:Addr
 d30:jQ
 f31:Addr
 d31:jQ
 f32:Addr
 d32:jQ
 f33:Addr
 d33:jQ
 f34:Addr
 d34:jQ
 f35:Addr
 d35:jQ
 f36:Addr
 d36:jQ
 f37:Addr
 d37:jQ
 f38:Addr
 d38:jQ
 f39:Addr
 d39:jQ
 f40:Addr
 d40:jQ
 f41:Addr
 d41:jQ
 c_Sheet:Addr
 c_Tiled:Addr
 x_NoName:Addr
 x_NoStretch:Addr
 x_NoKnowing:Addr
structure Fns (K:Fg) (a:Ad):Prop where
 n0:Fun K "is_name" "is_name" a2A a.f0 a.d0
 n1:Fun K "is_moment" "is_moment" a2B a.f1 a.d1
 n2:Fun K "is_stretch" "is_stretch" a2a a.f2 a.d2
 n3:Fun K "earlier_end" "earlier_end" a1N a.f3 a.d3
 n4:Fun K "check_name" "check_name" a2b a.f4 a.d4
 n5:Fun K "check_stretch" "check_stretch" a1l a.f5 a.d5
 n6:Fun K "check_in_reach" "check_in_reach" a1a a.f6 a.d6
 n7:Fun K "ahead_of" "ahead_of" a1Z a.f7 a.d7
 n8:Fun K "with_alike_joined" "with_alike_joined" a00 a.f8 a.d8
 n9:Fun K "from_on" "from_on" a2C a.f9 a.d9
 n10:Fun K "put_on" "put_on" a4S a.f10 a.d10
 n11:Fun K "check_telling" "check_telling" a1m a.f11 a.d11
 n12:Fun K "line_behind" "line_behind" a1O a.f12 a.d12
 n13:Fun K "first" "Sheet.first" a2D a.f13 a.d13
 n14:Fun K "check_knowing" "Sheet.check_knowing" a01 a.f14 a.d14
 n15:Fun K "known_line" "Sheet.known_line" a0W a.f15 a.d15
 n16:Fun K "run_of" "run_of" a4T a.f16 a.d16
 n17:Fun K "is_standing" "is_standing" a1P a.f17 a.d17
 n18:Fun K "stands_at" "stands_at" a2E a.f18 a.d18
 n19:Fun K "known_line" "Tiled.known_line" a0X a.f19 a.d19
 n20:Fun K "keys_at" "Sheet.keys_at" a1b a.f20 a.d20
 n21:Fun K "knowings" "Sheet.knowings" a1B a.f21 a.d21
 n22:Fun K "keys_ever" "keys_ever" a2F a.f22 a.d22
 n23:Fun K "tiled_on" "tiled_on" a0P a.f23 a.d23
 n24:Fun K "line_at" "Sheet.line_at" a1Q a.f24 a.d24
 n25:Fun K "tiles_of_key" "tiles_of_key" a1C a.f25 a.d25
 n26:Fun K "tiles_of" "tiles_of" a3a a.f26 a.d26
 n27:Fun K "_law_cell_at" "_law_cell_at" a5Y a.f27 a.d27
 n28:Fun K "_law_mix" "_law_mix" b6D a.f28 a.d28
 n29:Fun K "_law_parts" "_law_parts" a83 a.f29 a.d29
 n30:Fun K "_law_names" "_law_names" a5Z a.f30 a.d30
 n31:Fun K "_law_telling" "_law_telling" a50 a.f31 a.d31
 n32:Fun K "_law_until" "_law_until" a84 a.f32 a.d32
 n33:Fun K "_law_due" "_law_due" b2z a.f33 a.d33
 n34:Fun K "_law_kinds" "_law_kinds" a7n a.f34 a.d34
 n35:Fun K "tiles" "Tiled.tiles" a2G a.f35 a.d35
 n36:Fun K "_law_right" "_law_right" a85 a.f36 a.d36
 n37:Fun K "__init__" "Sheet.__init__" a1D a.f37 a.d37
 n38:Fun K "keep_line" "Sheet.keep_line" a1n a.f38 a.d38
 n39:Fun K "keep_line" "Tiled.keep_line" a1o a.f39 a.d39
 n40:Fun K "tell" "Sheet.tell" a3b a.f40 a.d40
 n41:Fun K "law" "law" a7o a.f41 a.d41
theorem a8o {K:Fg}{a:Ad}(F:Fns K a):Binds K a.d0 ["thing"] []:=F.n0.binds λ_ _ _ _ _ _=>lnS λ_=>ln0 rfl
theorem a3A {K:Fg}{a:Ad}(F:Fns K a):Binds K a.d1 ["thing"] []:=F.n1.binds λ_ _ _ _ _ _=>lnS λ_=>ln0 rfl
theorem a53 {K:Fg}{a:Ad}(F:Fns K a):Binds K a.d2 ["begin","end"] []:=F.n2.binds λ_ _ _ _ _ _=>lnS λ_=>lnS λ_=>ln0 rfl
theorem a5i {K:Fg}{a:Ad}(F:Fns K a):Binds K a.d3 ["end","other"] []:=F.n3.binds λ_ _ _ _ _ _=>lnS λ_=>lnS λ_=>ln0 rfl
theorem a3c {K:Fg}{a:Ad}(F:Fns K a):Binds K a.d4 ["thing"] []:=F.n4.binds λ_ _ _ _ _ _=>lnS λ_=>ln0 rfl
theorem a4m {K:Fg}{a:Ad}(F:Fns K a):Binds K a.d5 ["begin","end"] []:=F.n5.binds λ_ _ _ _ _ _=>lnS λ_=>lnS λ_=>ln0 rfl
theorem a3Z {K:Fg}{a:Ad}(F:Fns K a):Binds K a.d6 ["knowing","last"] []:=F.n6.binds λ_ _ _ _ _ _=>lnS λ_=>lnS λ_=>ln0 rfl
theorem a7q {K:Fg}{a:Ad}(F:Fns K a):Binds K a.d7 ["line","moment"] []:=F.n7.binds λ_ _ _ _ _ _=>lnS λ_=>lnS λ_=>ln0 rfl
theorem a20 {K:Fg}{a:Ad}(F:Fns K a):Binds K a.d8 ["pieces"] []:=F.n8.binds λ_ _ _ _ _ _=>lnS λ_=>ln0 rfl
theorem a8p {K:Fg}{a:Ad}(F:Fns K a):Binds K a.d9 ["line","moment"] []:=F.n9.binds λ_ _ _ _ _ _=>lnS λ_=>lnS λ_=>ln0 rfl
theorem a87 {K:Fg}{a:Ad}(F:Fns K a):Binds K a.d10 ["line","begin","end","worth"] []:=F.n10.binds λ_ _ _ _ _ _=>lnS λ_=>lnS λ_=>lnS λ_=>lnS λ_=>ln0 rfl
theorem a4n {K:Fg}{a:Ad}(F:Fns K a):Binds K a.d11 ["telling"] []:=F.n11.binds λ_ _ _ _ _ _=>lnS λ_=>ln0 rfl
theorem a5j {K:Fg}{a:Ad}(F:Fns K a):Binds K a.d12 ["line","telling"] []:=F.n12.binds λ_ _ _ _ _ _=>lnS λ_=>lnS λ_=>ln0 rfl
theorem a3B {K:Fg}{a:Ad}(F:Fns K a):Binds K a.d13 ["self"] []:=F.n13.binds λ_ _ _ _ _ _=>lnS λ_=>ln0 rfl
theorem a1g {K:Fg}{a:Ad}(F:Fns K a):Binds K a.d14 ["self","knowing"] []:=F.n14.binds λ_ _ _ _ _ _=>lnS λ_=>lnS λ_=>ln0 rfl
theorem a30 {K:Fg}{a:Ad}(F:Fns K a):Binds K a.d15 ["self","key","knowing"] []:=F.n15.binds λ_ _ _ _ _ _=>lnS λ_=>lnS λ_=>lnS λ_=>ln0 rfl
theorem a31 {K:Fg}{a:Ad}(F:Fns K a):Binds K a.d16 ["tile"] []:=F.n16.binds λ_ _ _ _ _ _=>lnS λ_=>ln0 rfl
theorem a1E {K:Fg}{a:Ad}(F:Fns K a):Binds K a.d17 ["tile"] []:=F.n17.binds λ_ _ _ _ _ _=>lnS λ_=>ln0 rfl
theorem a6s {K:Fg}{a:Ad}(F:Fns K a):Binds K a.d18 ["tile","knowing"] []:=F.n18.binds λ_ _ _ _ _ _=>lnS λ_=>lnS λ_=>ln0 rfl
theorem a32 {K:Fg}{a:Ad}(F:Fns K a):Binds K a.d19 ["self","key","knowing"] []:=F.n19.binds λ_ _ _ _ _ _=>lnS λ_=>lnS λ_=>lnS λ_=>ln0 rfl
theorem a5k {K:Fg}{a:Ad}(F:Fns K a):Binds K a.d20 ["self","knowing"] []:=F.n20.binds λ_ _ _ _ _ _=>lnS λ_=>lnS λ_=>ln0 rfl
theorem a1p {K:Fg}{a:Ad}(F:Fns K a):Binds K a.d21 ["self"] []:=F.n21.binds λ_ _ _ _ _ _=>lnS λ_=>ln0 rfl
theorem a6t {K:Fg}{a:Ad}(F:Fns K a):Binds K a.d22 ["sheet"] []:=F.n22.binds λ_ _ _ _ _ _=>lnS λ_=>ln0 rfl
theorem a4o {K:Fg}{a:Ad}(F:Fns K a):Binds K a.d23 ["tiles","key","line","knowing"] []:=F.n23.binds λ_ _ _ _ _ _=>lnS λ_=>lnS λ_=>lnS λ_=>lnS λ_=>ln0 rfl
theorem a2P {K:Fg}{a:Ad}(F:Fns K a):Binds K a.d24 ["self","key","knowing"] []:=F.n24.binds λ_ _ _ _ _ _=>lnS λ_=>lnS λ_=>lnS λ_=>ln0 rfl
theorem a4W {K:Fg}{a:Ad}(F:Fns K a):Binds K a.d25 ["sheet","key"] []:=F.n25.binds λ_ _ _ _ _ _=>lnS λ_=>lnS λ_=>ln0 rfl
theorem a2H {K:Fg}{a:Ad}(F:Fns K a):Binds K a.d26 ["sheet"] []:=F.n26.binds λ_ _ _ _ _ _=>lnS λ_=>ln0 rfl
theorem a4X {K:Fg}{a:Ad}(F:Fns K a):Binds K a.d27 ["script","k"] []:=F.n27.binds λ_ _ _ _ _ _=>lnS λ_=>lnS λ_=>ln0 rfl
theorem b5f {K:Fg}{a:Ad}(F:Fns K a):Binds K a.d28 ["cell","k"] []:=F.n28.binds λ_ _ _ _ _ _=>lnS λ_=>lnS λ_=>ln0 rfl
theorem a9R {K:Fg}{a:Ad}(F:Fns K a):Binds K a.d29 ["cell","way","bounds"] []:=F.n29.binds λ_ _ _ _ _ _=>lnS λ_=>lnS λ_=>lnS λ_=>ln0 rfl
theorem a9S {K:Fg}{a:Ad}(F:Fns K a):Binds K a.d30 ["cell","way","many"] []:=F.n30.binds λ_ _ _ _ _ _=>lnS λ_=>lnS λ_=>lnS λ_=>ln0 rfl
theorem b0I {K:Fg}{a:Ad}(F:Fns K a):Binds K a.d31 ["cell","way","keys","worths"] []:=F.n31.binds λ_ _ _ _ _ _=>lnS λ_=>lnS λ_=>lnS λ_=>lnS λ_=>ln0 rfl
theorem b4e {K:Fg}{a:Ad}(F:Fns K a):Binds K a.d32 ["lines","run","knowing"] []:=F.n32.binds λ_ _ _ _ _ _=>lnS λ_=>lnS λ_=>lnS λ_=>ln0 rfl
theorem b9i {K:Fg}{a:Ad}(F:Fns K a):Binds K a.d33 ["sheet","keys"] []:=F.n33.binds λ_ _ _ _ _ _=>lnS λ_=>lnS λ_=>ln0 rfl
theorem b4f {K:Fg}{a:Ad}(F:Fns K a):Binds K a.d34 ["tiles"] []:=F.n34.binds λ_ _ _ _ _ _=>lnS λ_=>ln0 rfl
theorem a2c {K:Fg}{a:Ad}(F:Fns K a):Binds K a.d35 ["self"] []:=F.n35.binds λ_ _ _ _ _ _=>lnS λ_=>ln0 rfl
theorem a7r {K:Fg}{a:Ad}(F:Fns K a):Binds K a.d36 ["sheet","tiled","keys","held"] []:=F.n36.binds λ_ _ _ _ _ _=>lnS λ_=>lnS λ_=>lnS λ_=>lnS λ_=>ln0 rfl
theorem a2f {K:Fg}{a:Ad}(F:Fns K a):Binds K a.d37 ["self"] []:=F.n37.binds λ_ _ _ _ _ _=>lnS λ_=>ln0 rfl
theorem a4p {K:Fg}{a:Ad}(F:Fns K a):Binds K a.d38 ["self","key","line"] []:=F.n38.binds λ_ _ _ _ _ _=>lnS λ_=>lnS λ_=>lnS λ_=>ln0 rfl
theorem a4q {K:Fg}{a:Ad}(F:Fns K a):Binds K a.d39 ["self","key","line"] []:=F.n39.binds λ_ _ _ _ _ _=>lnS λ_=>lnS λ_=>lnS λ_=>ln0 rfl
theorem a4r {K:Fg}{a:Ad}(F:Fns K a):Binds K a.d40 ["self","telling"] []:=F.n40.binds λ_ _ _ _ _ _=>lnS λ_=>lnS λ_=>ln0 rfl
noncomputable def FE (K:Fg) (x q:Str) (st:Stmt) (f:Addr):Prop:=∃ d,Fun K x q st f d
theorem fe_mk {K:Fg}{x qual:Str}{st:Stmt}{f:Addr}{oc:Value}{od an:Option Addr}{osl:Array (Option Value)}{kV doc pm cdv ct:Value}(l:K.lookup f=some ⟨oc,od,.func (PySem.W.fnOf x qual (a3N st) (a12 st) (a0e st) .none kV doc pm an cdv ct),osl⟩) (c:PySem.W.codeIn K cdv qual=true) (k:PySem.W.keepIn K (.ref f)=true):FE K x qual st f:=⟨_,b4J l c k⟩
structure Txt (K:Fg) (mg:Str->Option Value) (a:Ad):Prop where
 m0:mg "is_name"=some (.ref a.f0)
 m1:mg "is_moment"=some (.ref a.f1)
 m2:mg "is_stretch"=some (.ref a.f2)
 m3:mg "earlier_end"=some (.ref a.f3)
 m4:mg "check_name"=some (.ref a.f4)
 m5:mg "check_stretch"=some (.ref a.f5)
 m6:mg "check_in_reach"=some (.ref a.f6)
 m7:mg "ahead_of"=some (.ref a.f7)
 m8:mg "with_alike_joined"=some (.ref a.f8)
 m9:mg "from_on"=some (.ref a.f9)
 m10:mg "put_on"=some (.ref a.f10)
 m11:mg "check_telling"=some (.ref a.f11)
 m12:mg "line_behind"=some (.ref a.f12)
 mt13:Meth K a.c_Sheet "first" a.f13
 mtT_Sheet_first:Meth K a.c_Tiled "first" a.f13
 mt14:Meth K a.c_Sheet "check_knowing" a.f14
 mtT_Sheet_check_knowing:Meth K a.c_Tiled "check_knowing" a.f14
 mt15:Meth K a.c_Sheet "known_line" a.f15
 m16:mg "run_of"=some (.ref a.f16)
 m17:mg "is_standing"=some (.ref a.f17)
 m18:mg "stands_at"=some (.ref a.f18)
 mt19:Meth K a.c_Tiled "known_line" a.f19
 mt20:Meth K a.c_Sheet "keys_at" a.f20
 mtT_Sheet_keys_at:Meth K a.c_Tiled "keys_at" a.f20
 mt21:Meth K a.c_Sheet "knowings" a.f21
 mtT_Sheet_knowings:Meth K a.c_Tiled "knowings" a.f21
 m22:mg "keys_ever"=some (.ref a.f22)
 m23:mg "tiled_on"=some (.ref a.f23)
 mt24:Meth K a.c_Sheet "line_at" a.f24
 mtT_Sheet_line_at:Meth K a.c_Tiled "line_at" a.f24
 m25:mg "tiles_of_key"=some (.ref a.f25)
 m26:mg "tiles_of"=some (.ref a.f26)
 m27:mg "_law_cell_at"=some (.ref a.f27)
 m28:mg "_law_mix"=some (.ref a.f28)
 m29:mg "_law_parts"=some (.ref a.f29)
 m30:mg "_law_names"=some (.ref a.f30)
 m31:mg "_law_telling"=some (.ref a.f31)
 m32:mg "_law_until"=some (.ref a.f32)
 m33:mg "_law_due"=some (.ref a.f33)
 m34:mg "_law_kinds"=some (.ref a.f34)
 mt35:Meth K a.c_Tiled "tiles" a.f35
 m36:mg "_law_right"=some (.ref a.f36)
 mt37:Meth K a.c_Sheet "__init__" a.f37
 mtT_Sheet___init__:Meth K a.c_Tiled "__init__" a.f37
 mt38:Meth K a.c_Sheet "keep_line" a.f38
 mt39:Meth K a.c_Tiled "keep_line" a.f39
 mt40:Meth K a.c_Sheet "tell" a.f40
 mtT_Sheet_tell:Meth K a.c_Tiled "tell" a.f40
 m41:mg "law"=some (.ref a.f41)
 b_all:mg "all"=none
 b_isinstance:mg "isinstance"=none
 b_str:mg "str"=none
 b_len:mg "len"=none
 b_bool:mg "bool"=none
 b_int:mg "int"=none
 b_min:mg "min"=none
 b_max:mg "max"=none
 b_reversed:mg "reversed"=none
 b_sorted:mg "sorted"=none
 b_range:mg "range"=none
 b_dict:mg "dict"=none
 b_list:mg "list"=none
 b_tuple:mg "tuple"=none
 cl_Sheet:Cls K a.c_Sheet
 mg_Sheet:mg "Sheet"=some (.ref a.c_Sheet)
 mk_Sheet:Mk K a.c_Sheet a.f37
 cl_Tiled:Cls K a.c_Tiled
 mg_Tiled:mg "Tiled"=some (.ref a.c_Tiled)
 mk_Tiled:Mk K a.c_Tiled a.f37
 na_last:NoAttr K a.c_Sheet "last"
 naT_last:NoAttr K a.c_Tiled "last"
 na_kept:NoAttr K a.c_Sheet "kept"
 naT_kept:NoAttr K a.c_Tiled "kept"
 ow_Tiled:OwnK K a.c_Tiled
 ki_Tiled_Sheet:PySem.W.kitOne K (.ref a.c_Tiled) (.ref a.c_Sheet)=some true
 x_NoName:mg "NoName"=some (.ref a.x_NoName)
 x_NoStretch:mg "NoStretch"=some (.ref a.x_NoStretch)
 x_NoKnowing:mg "NoKnowing"=some (.ref a.x_NoKnowing)
 xi_NoName:PySem.W.excIn K a.x_NoName veM "ValueError.__new__"=true
 xi_NoStretch:PySem.W.excIn K a.x_NoStretch veM "ValueError.__new__"=true
 xi_NoKnowing:PySem.W.excIn K a.x_NoKnowing veM "ValueError.__new__"=true
 c_LONGEST_NAME:∃ t,mg "LONGEST_NAME"=some (.int 8 t)
 c_LAST_MOMENT:∃ t,mg "LAST_MOMENT"=some (.int 1000000000000 t)
noncomputable def Ad.cK (a:Ad) (b:Bool):Addr:=cond b a.c_Tiled a.c_Sheet
theorem clK {K:Fg}{mg:Str->Option Value}{a:Ad}(T:Txt K mg a) (b:Bool):Cls K (a.cK b):=by
 cases b
 ·exact T.cl_Sheet
 ·exact T.cl_Tiled
theorem a3s {K:Fg}{mg:Str->Option Value}{a:Ad}(T:Txt K mg a) (b:Bool):NoAttr K (a.cK b) "last":=by
 cases b
 ·exact T.na_last
 ·exact T.naT_last
theorem a9T {K:Fg}{mg:Str->Option Value}{a:Ad}(T:Txt K mg a) (b:Bool):NoAttr K (a.cK b) "kept":=by
 cases b
 ·exact T.na_kept
 ·exact T.naT_kept
theorem a3d {K:Fg}{mg:Str->Option Value}{a:Ad}(T:Txt K mg a) (b:Bool):Meth K (a.cK b) "first" a.f13:=by
 cases b
 ·exact T.mt13
 ·exact T.mtT_Sheet_first
theorem a1c {K:Fg}{mg:Str->Option Value}{a:Ad}(T:Txt K mg a) (b:Bool):Meth K (a.cK b) "check_knowing" a.f14:=by
 cases b
 ·exact T.mt14
 ·exact T.mtT_Sheet_check_knowing
theorem a4Y {K:Fg}{mg:Str->Option Value}{a:Ad}(T:Txt K mg a) (b:Bool):Meth K (a.cK b) "keys_at" a.f20:=by
 cases b
 ·exact T.mt20
 ·exact T.mtT_Sheet_keys_at
theorem a1d {K:Fg}{mg:Str->Option Value}{a:Ad}(T:Txt K mg a) (b:Bool):Meth K (a.cK b) "knowings" a.f21:=by
 cases b
 ·exact T.mt21
 ·exact T.mtT_Sheet_knowings
theorem a2g {K:Fg}{mg:Str->Option Value}{a:Ad}(T:Txt K mg a) (b:Bool):Meth K (a.cK b) "line_at" a.f24:=by
 cases b
 ·exact T.mt24
 ·exact T.mtT_Sheet_line_at
theorem a3C {K:Fg}{mg:Str->Option Value}{a:Ad}(T:Txt K mg a) (b:Bool):Meth K (a.cK b) "tell" a.f40:=by
 cases b
 ·exact T.mt40
 ·exact T.mtT_Sheet_tell
theorem a9U (hg:Gl X x) (hm:∃ t,X.mg x=some (.int i t)) (hd:(x==("__debug__":Str))=false:=by decide):PE X (.Name x pos) (tC (.int i)):=by
 obtain⟨t,h⟩:=hm;exact b0V hg h ⟨t,rfl⟩ hd
noncomputable def a8q:P3:=λws G R=>∃ a ns,ws=[.scr a ns]/\ns.length<=63/\∀ G',R (.bl true) G'
theorem b2A {K:Fg}{H:Hp}{E:XK}(a:Addr) (ns:List Int) (hl:ns.length<=63) (f:Fz K H a (ns.map V.int)):lowP K a8q [.ref a] H (λv _=>v=.bl true) E:=
 ⟨[.scr a ns],λ_=>none,λw _=>w=.bl true,.cons (by rw[a4M];exact⟨rfl,f⟩) .nil,λ_ _ e=>(nomatch e),⟨a,ns,rfl,hl,λ_=>rfl⟩,λw G v H' e r _ _=>by subst e;rw[a0O]at r;exact r⟩
theorem lenK (h:Nat.ble n 1000=true):n<=sizeLine:=ga (a0v (jf h))
theorem a4s (h:n<=1000):n<=sizeLine:=ga (a0v h)
noncomputable def b9j (x w:Int):Prop:=w=0\/(w=1/\0<=x/\x<536870909)
abbrev RowO (x w:Int):O:=.lst [.int x,.int w]
noncomputable def RowAt (G:Hq) (r:Addr):Prop:=∃ x w,G r=some (RowO x w)/\b9j x w
local macro_rules | `(tactic| walk_at "sd")=>`(tactic| first | assumption | (exact a4s (by first | decide | omega | (simp;done) | (simp;omega))) | (exact a0v (by first | decide | omega | (simp;done) | (simp;omega))) | decide | omega)
local macro_rules | `(tactic| walk_at "hp")=>`(tactic| first | assumption | exact a0d | (refine a0k ?_ (by assumption);walk_at "hp") | (refine Sm.get (by assumption) ?_;walk_at "hp"))
local macro_rules | `(tactic| walk_at "go1")=>`(tactic| with_reducible (first
 | refine c0t ?_ | refine c0k (by with_unfolding_all rfl) ?_ | refine i_c ?_ | refine i_op ?_ | refine i_un ?_ | refine b8q ?_ | refine b6d ?_ | refine c0l ?_ | refine i_or ?_ | refine c0m ?_ | refine b8r ?_ | refine c0n ?_ | refine i_notV ?_ | refine i_if ?_
 | refine c0o ?_ | refine i_truI ?_ | refine i_truB ?_ | refine i_sl ?_ | refine b3Q ?_ | refine b8s ?_ | refine c0p ?_ | refine b8t ?_ | refine c0q ?_ | refine c0r ?_ | refine i_cb ?_ | refine i_uss ?_ | refine c0s ?_ | refine i_bm ?_ | refine b8u ?_
 | refine b8v ?_ | refine b8w ?_ | refine c0u ?_ | refine i_retN ?_ | refine c0v ?_ | refine c0w ?_ | refine c0x ?_ | refine i_aug (by with_unfolding_all rfl) ?_ | refine i_break ?_ | refine i_cont ?_ | refine b8F ?_ | refine c0E ?_ | refine i_iL ?_ | refine i_iT ?_ | refine i_iS ?_ | refine c0F ?_ | refine c0G ?_ | refine i_wkC ?_ | refine c0H ?_ | refine c0I ?_ | refine i_tt ?_
 | refine b8x ?_ | refine i_I0 ?_ | refine c0y ?_ | refine i_CI ?_ | refine i_CS ?_ | refine b6e ?_ | refine i_isB ?_ | refine b8y ?_ | refine i_eqB ?_ | refine b8z ?_ | refine c0z ?_ | refine i_inS ?_ | refine b8A ?_ | refine i_nm ?_ | refine a7f (by with_unfolding_all rfl) ?_ | refine b8B ?_ | refine b8C ?_ | refine i_mm ?_ | refine c0D ?_
 | refine ifT ?_ | refine ifF ?_ | refine ifNN ?_ | refine ifNI ?_ | refine ifNS ?_ | refine ifNU ?_ | refine ifMN ?_ | refine ifMI ?_ | refine ifMS ?_ | refine ifMU ?_ | refine a7f at0 ?_ | refine a7f at1 ?_ | refine a7f at2 ?_ | refine i_find ?_ | refine b8R ?_ | refine i_iR3 ?_ | refine i_iZip ?_ | refine b8U ?_ | refine b6q ?_ | refine b6r ?_ | refine b8V ?_ | refine b8W ?_ | refine i_disp ?_ | refine i_pcons ?_ | refine i_pnil ?_ | refine⟨_,rfl,?_⟩))
local macro_rules | `(tactic| walk_at "go")=>`(tactic| repeat walk_at "go1")
local macro_rules | `(tactic| symm)=>`(tactic| walk_at "go")
noncomputable def a6W:P3:=λws G R=>∃ p ns k,ws=[.scr p ns,.int k]/\0<=k/\∀ i,R (.int i) G
theorem a88 (h:a6W ws G R):ws.length=2:=by obtain⟨_,_,_,rfl,_⟩:=h;rfl
variable {P:jO}{w:World}{K:Fg}{mg:Str->Option Value}{base:Heap}{a:Ad}
theorem b0J (F:Fns K a) (T:Txt K mg a):FnOk P w K mg base CX0 1 a.f27 a.d27 ["script","k"] (lowP K a6W):=by
 refine fn3 F.n27 b0G (λg G R h=>(by exact a88 h)) (λl A b s H E g G R d h=>?_);have m:=a0T d;refine⟨_,(a0l (z_if (a0E o_lt (a0c (pv 1)) (a0w b_len rfl T.b_len PySem.boot_len (a0b (a0c (pv 0)) a0g a0a)) (a0B _))
  (a0o (a0D (q_ix x_ix (a0c (pv 0)) (a0c (pv 1)) (λ_ _=>rfl))))
  a1f)
  (a0o (a0D a0h))),?_⟩
 obtain⟨p,f,k,rfl,e,q⟩:=h;symm;refine ifD (λc=>?_) λ_=>?_
 ·obtain⟨j,rfl⟩:=gm e;have i:j<f.length:=by omega
  symm;exact c0A (a2k (eI i)) (q _)
 ·symm;exact q _
theorem m9 (x:Int):0<=x % 536870909/\x % 536870909<536870909:=⟨fQ _ (by decide),fY _ (by decide)⟩
theorem RowAt.new (h:RowAt G r) (n:G p=none):RowAt (put G p o) r:=by
 obtain⟨x,w,e,k⟩:=h;exact⟨x,w,a0k e n,k⟩
theorem RowAt.at {G:Hq}{r:Addr}{x w:Int}(k:b9j x w):RowAt (put G r (RowO x w)) r:=⟨x,w,a0d,k⟩
structure Rw where
 b:Int
 e:Option Int
 w:List Z
@[reducible] noncomputable def oz:Option Int->Z
 | none=>.non
 | some i=>.int i
theorem b9k (h:oz x=oz y):x=y:=by
 cases x<;>cases y<;>first | rfl | cases h<;>rfl
noncomputable def Rw.z (r:Rw):Z:=.tup (.int r.b::oz r.e::r.w)
theorem Rw.z_inj {r s:Rw}(h:r.z=s.z):r=s:=by
 obtain⟨b,e,w⟩:=r;simp only[Rw.z,Z.tup.injEq,fU.injEq,Z.int.injEq]at h;obtain⟨rfl,a,rfl⟩:=h;rw[b9k a]
noncomputable def bef (t:Int):Option Int->Bool
 | none=>true
 | some e=>decide (t<e)
noncomputable def Rw.has (r:Rw) (t:Int):Bool:=decide (r.b<=t)&&bef t r.e
noncomputable def Rw.good (r:Rw):Prop:=bef r.b r.e=true
noncomputable def val (l:List Rw) (t:Int):Option (List Z):=(l.find? (·.has t)).map (·.w)
theorem a3e:val [] t=none:=rfl
theorem a0M:val (r::l) t=if r.has t=true then some r.w else val l t:=by
 unfold val;rw[fK];cases h:r.has t<;>simp
theorem a1q:val (l++m) t=(val l t).or (val m t):=by
 unfold val;rw[iP];cases h:l.find? _<;>simp
noncomputable def Lt (r s:Rw):Prop:=∃ e,r.e=some e/\e<=s.b
noncomputable def Lt2 (r s:Rw):Prop:=∃ e,r.e=some e/\e<=s.b/\(e=s.b->r.w≠s.w)
noncomputable def Rise (l:List Rw):Prop:=(∀ r∈l,r.good)/\l.Pairwise Lt
noncomputable def Can (l:List Rw):Prop:=(∀ r∈l,r.good)/\l.Pairwise Lt2
theorem Lt2.lt {r s:Rw}(h:Lt2 r s):Lt r s:=let ⟨e,a,b,_⟩:=h;⟨e,a,b⟩
theorem Can.rise (h:Can l):Rise l:=⟨h.1,h.2.imp Lt2.lt⟩
theorem Can.nil:Can []:=⟨λ_ h=>by simp at h,.nil⟩
theorem Rise.nil:Rise []:=Can.nil.rise
theorem Can.tail (h:Can (r::l)):Can l:=⟨λs a=>h.1 s (.tail _ a),(eW.mp h.2).2⟩
theorem Rise.tail (h:Rise (r::l)):Rise l:=⟨λs a=>h.1 s (.tail _ a),(eW.mp h.2).2⟩
theorem a8r {r:Rw}(h:r.good):r.has r.b=true:=by
 unfold Rw.has;rw[h];simp
theorem Lt.has (h:Lt r s) (a:r.has t=true):s.has t=false:=by
 obtain⟨e,c,d⟩:=h;unfold Rw.has at a ⊢;rw[c]at a;simp only[bef,fE,decide_eq_true_eq]at a
 have:decide (s.b<=t)=false:=decide_eq_false (by omega)
 rw[this,jx]
theorem Lt.b (g:r.good) (h:Lt r s):r.b<s.b:=by
 obtain⟨e,a,c⟩:=h
 have:bef r.b r.e=true:=g
 rw[a]at this;simp only[bef,decide_eq_true_eq]at this;omega
theorem a7s (h:∀ r∈l,r.has t=false):val l t=none:=by simp_all[val]
theorem b4g {l:List Rw}{t:Int}{w:List Z}(h:val l t=some w):∃ r∈l,r.has t=true/\r.w=w:=by
 induction l with
 | nil=>cases h
 | cons r l ih=>
  rw[a0M]at h
  split at h
  ·next e=>cases h;exact⟨r,.head _,e,rfl⟩
  ·obtain⟨s,h1,h2⟩:=ih h;exact⟨s,.tail _ h1,h2⟩
theorem b9l {r:Rw}(h:t<r.b):r.has t=false:=by
 unfold Rw.has;rw[decide_eq_false (by omega),jx]
theorem b9m (h:Can (r::l)) (h':Can (s::m)) (q:∀ t,val (r::l) t=val (s::m) t):¬ r.b<s.b:=λc=>by
 have d:=q r.b;rw[a0M,a8r (h.1 r (.head _)),if_pos rfl,a7s]at d
 ·grind
 ·intro x a;refine b9l ?_;rcases eC.mp a with rfl | a
  ·omega
  ·have:=(((eW.mp h'.2).1 x a).lt).b (h'.1 s (.head _))
   omega
theorem b6G (h:Can (r::l)) (hb:r.b=s.b) (hw:r.w=s.w) (q:∀ t,val (r::l) t=val (s::m) t) (he:r.e=some e):bef e s.e=false:=by
 cases hc:bef e s.e with
 | false=>rfl
 | true=>
  exfalso;have g:bef r.b r.e=true:=h.1 r (.head _)
  rw[he]at g;simp only[bef,decide_eq_true_eq]at g;have c:=q e;have i:s.has e=true:=by unfold Rw.has;rw[hc,decide_eq_true (show s.b<=e by omega)];rfl
  have k:r.has e=false:=by unfold Rw.has;rw[he];simp[bef]
  rw[a0M,a0M,i,k,if_pos rfl,if_neg (by simp)]at c;obtain⟨x,n,a,d⟩:=b4g c;obtain⟨u,f,p,j⟩:=(eW.mp h.2).1 x n;rw[he]at f;cases f;have o:x.b<=e:=by unfold Rw.has at a;simp at a;exact a.1
  exact j (by omega) (by simp_all)
theorem b5g:∀ {l m:List Rw},Can l->Can m->(∀ t,val l t=val m t)->l=m
 | [],[],_,_,_=>rfl
 | [],s::m,_,h',q=>by
  have:=q s.b
  rw[a3e,a0M,a8r (h'.1 s (.head _)),if_pos rfl]at this;cases this
 | r::l,[],h,_,q=>by
  have:=q r.b
  rw[a3e,a0M,a8r (h.1 r (.head _)),if_pos rfl]at this;cases this
 | r::l,s::m,h,h',q=>by
  have a:r.b=s.b:=by
   have f:=b9m h h' q;have g:=b9m h' h λt=>(q t).symm;omega
  have c:r.w=s.w:=by
   have f:=q r.b;have g:s.has r.b=true:=by rw[a];exact a8r (h'.1 s (.head _))
   rw[a0M,a0M,a8r (h.1 r (.head _)),g,if_pos rfl,if_pos rfl]at f;exact fu.inj f
  have i:r.e=s.e:=by
   cases e1:r.e with
   | none=>
    cases e2:s.e with
    | none=>rfl
    | some e=>
     have:=b6G h' a.symm c.symm (λt=>(q t).symm) e2
     rw[e1]at this;cases this
   | some e=>
    have:=b6G h a c q e1
    cases e2:s.e with
    | none=>rw[e2]at this;cases this
    | some e'=>
     have k:=b6G h' a.symm c.symm (λt=>(q t).symm) e2;rw[e1]at k;rw[e2]at this;simp only[bef,decide_eq_false_iff_not]at this k
     congr 1
     omega
  have j:r=s:=by
   obtain⟨_,_,_⟩:=r;simp only at a c i;rw[a,c,i]
  subst j
  congr 1
  refine b5g h.tail h'.tail λt=>?_;cases ht:r.has t with
  | true=>
   rw[a7s λx d=>((eW.mp h.2).1 x d).lt.has ht,a7s λx d=>((eW.mp h'.2).1 x d).lt.has ht]
  | false=>
   have:=q t
   rw[a0M,a0M,ht,if_neg (by simp),if_neg (by simp)]at this;exact this
noncomputable def jn (told:List Rw) (p:Rw):List Rw:=match told.getLast? with
 | some l=>if l.e=some p.b/\l.w=p.w then told.dropLast++[⟨l.b,p.e,p.w⟩] else told++[p]
 | none=>told++[p]
noncomputable def join (ps:List Rw):List Rw:=ps.foldl jn []
theorem a4t {α:Type}{l:List α}{x:α}(h:l.getLast?=some x):l=l.dropLast++[x]:=by
 obtain⟨a,rfl⟩:=List.getLast?_eq_some_iff.mp h;simp
theorem c1c (h:Can told) (g:p.good) (hlt:∀ r∈told,Lt r p):Can (jn told p)/\(∀ t,val (jn told p) t=(val told t).or (val [p] t))/\(∀ x,(∀ r∈told,Lt r x)->Lt p x->∀ r∈jn told p,Lt r x)/\(jn told p).length<=told.length+1/\∀ r∈jn told p,r.w=p.w\/∃ r'∈told,r.w=r'.w:=by
 unfold jn;cases hl:told.getLast? with
 | none=>
  have:told=[]:=jy.mp hl
  subst this;exact⟨⟨λr a=>by simp at a;rw[a];exact g,by simp⟩,λt=>by simp[a3e],λx _ f r a=>by simp at a;rw[a];exact f,by simp,λr a=>by simp at a;rw[a];exact .inl rfl⟩
 | some l=>
  have d:=a4t hl;generalize told.dropLast=init at d;subst d;have i:l∈init++[l]:=by simp
  have k:=eS.mp h.2;dsimp only
  split
  ·next hc=>
   obtain⟨n,o⟩:=hc;have D:l.b<p.b:=by
    have:bef l.b l.e=true:=h.1 l i
    rw[n]at this;simpa[bef]using this
   have v:(⟨l.b,p.e,p.w⟩:Rw).good:=by
    show bef l.b p.e=true
    have:bef p.b p.e=true:=g
    cases hpe:p.e with
    | none=>rfl
    | some e=>
     rw[hpe]at this;simp only[bef,decide_eq_true_eq]at this ⊢;omega
   refine⟨⟨λr a=>?_,?_⟩,λt=>?_,λx m f r a=>?_,by simp,λr a=>?_⟩
   ·rcases ei.mp a with a | a
    ·exact h.1 r (by simp[a])
    ·rw[et.mp a];exact v
   ·refine eS.mpr ⟨k.1,by simp,λr a s d=>?_⟩;rw[et.mp d];obtain⟨e,c,j,A⟩:=k.2.2 r a l (by simp);exact⟨e,c,j,λz=>by rw[<- o];exact A z⟩
   ·rw[a1q,a1q];cases val init t with
    | some w=>rfl
    | none=>
     have y:(⟨l.b,p.e,p.w⟩:Rw).has t=(l.has t||p.has t):=by
      unfold Rw.has;rw[n]
      have:bef p.b p.e=true:=g
      cases hpe:p.e with
      | none=>
       simp only[bef,im]
       by_cases c1:l.b<=t<;>by_cases c2:t<p.b<;>by_cases c3:p.b<=t<;>simp[c1,c2,c3]<;>omega
      | some e=>
       rw[hpe]at this;simp only[bef,decide_eq_true_eq]at this ⊢
       by_cases c1:l.b<=t<;>by_cases c2:t<p.b<;>by_cases c3:p.b<=t<;>by_cases c4:t<e<;>simp[c1,c2,c3,c4]<;>omega
     simp only[a0M,a3e,y,o,Option.none_or];cases l.has t<;>cases p.has t<;>simp
   ·rcases ei.mp a with a | a
    ·exact m r (by simp[a])
    ·rw[et.mp a];obtain⟨e,c,j⟩:=f;exact⟨e,c,j⟩
   ·rcases ei.mp a with a | a
    ·exact .inr ⟨r,by simp[a],rfl⟩
    ·rw[et.mp a];exact .inl rfl
  ·next hc=>
   refine⟨⟨λr a=>?_,?_⟩,λt=>a1q,λx m f r a=>?_,by simp,λr a=>?_⟩
   ·rcases ei.mp a with a | a
    ·exact h.1 r a
    ·rw[et.mp a];exact g
   ·refine eS.mpr ⟨h.2,by simp,λr a s d=>?_⟩;rw[et.mp d];obtain⟨e,c,j⟩:=hlt r a;refine⟨e,c,j,λz u=>?_⟩;rcases ei.mp a with hr' | hr'
    ·obtain⟨C,q,B,_⟩:=k.2.2 r hr' l (by simp);rw[c]at q;cases q
     have:=(hlt l i).b (h.1 l i)
     omega
    ·simp_all
   ·rcases ei.mp a with a | a
    ·exact m r a
    ·rw[et.mp a];exact f
   ·rcases ei.mp a with a | a
    ·exact .inr ⟨r,a,rfl⟩
    ·rw[et.mp a];exact .inl rfl
theorem b2B:∀ (ps told:List Rw),Can told->Rise ps->(∀ r∈told,∀ p∈ps,Lt r p)->Can (ps.foldl jn told)/\(∀ t,val (ps.foldl jn told) t=(val told t).or (val ps t))/\(ps.foldl jn told).length<=told.length+ps.length/\∀ r∈ps.foldl jn told,∃ r'∈told++ps,r.w=r'.w
 | [],told,h,_,_=>⟨h,λt=>by simp[a3e],by simp,λr f=>⟨r,by simpa using f,rfl⟩⟩
 | p::ps,told,h,f,hlt=>by
  have l:=eW.mp f.2;have a:=c1c h (f.1 p (.head _)) λr q=>hlt r q p (.head _);have b:=b2B ps _ a.1 f.tail λr q x j=>a.2.2.1 x (λg k=>hlt g k x (.tail _ j)) (l.1 x j) r q;refine⟨b.1,λt=>?_,?_,λr i=>?_⟩
  ·show val (ps.foldl jn _) t=_
   rw[b.2.1 t,a.2.1 t,show p::ps=[p]++ps from rfl,a1q,Option.or_assoc]
  ·grind
  ·obtain⟨g,c,d⟩:=b.2.2.2 r i;rcases ei.mp c with c | c
   ·rcases a.2.2.2.2 g c with e | ⟨r2,e1,e2⟩
    ·exact⟨p,by simp,d.trans e⟩
    ·grind
   ·exact⟨g,by simp[c],d⟩
theorem b6H (h:Rise ps):Can (join ps)/\(∀ t,val (join ps) t=val ps t)/\(join ps).length<=ps.length/\∀ r∈join ps,∃ r'∈ps,r.w=r'.w:=by
 have:=b2B ps [] .nil h λr a=>by simp at a
 unfold join;exact⟨this.1,λt=>by rw[this.2.1 t];rfl,by simpa using this.2.2.1,by simpa using this.2.2.2⟩
noncomputable def emin:Option Int->Option Int->Option Int
 | none,o=>o
 | some e,none=>some e
 | some e,some o=>some (if o<e then o else e)
noncomputable def a3D (m:Option Int) (r:Rw):Option Rw:=if bef r.b m=true then some ⟨r.b,emin r.e m,r.w⟩ else none
noncomputable def ahead (m:Option Int) (l:List Rw):List Rw:=l.filterMap (a3D m)
noncomputable def a7t (m:Int) (r:Rw):Option Rw:=if bef m r.e=true then some ⟨if m > r.b then m else r.b,r.e,r.w⟩ else none
noncomputable def fromOn (m:Int) (l:List Rw):List Rw:=l.filterMap (a7t m)
theorem b2C (h1:∀ r r',f r=some r'->r'.has t=(r.has t&&c)/\r'.w=r.w) (h2:∀ r,f r=none->(r.has t&&c)=false):∀ l:List Rw,val (l.filterMap f) t=if c=true then val l t else none
 | []=>by simp[a3e]
 | r::l=>by
  have a:=b2C h1 h2 l;rw[fG];cases hf:f r with
  | none=>
   have:=h2 r hf
   rw[a,a0M];cases c with
   | true=>rw[im]at this;rw[this];rfl
   | false=>rfl
  | some r'=>
   obtain⟨d,b⟩:=h1 r r' hf;rw[a0M,a,d,b,a0M];cases c<;>cases r.has t<;>rfl
theorem a9V:bef t (emin x y)=(bef t x&&bef t y):=by
 cases x with
 | none=>cases y<;>simp[bef,emin]
 | some a=>
  cases y with
  | none=>simp[bef,emin]
  | some b=>
   simp only[bef,emin];rw[<- Bool.decide_and];apply a1x;rw[eq_iff_iff]
   split<;>omega
theorem a8s (m:Option Int) (l:List Rw) (t:Int):val (ahead m l) t=if bef t m=true then val l t else none:=by
 refine b2C (λr a h=>?_) (λr h=>?_) l
 ·unfold a3D at h
  split at h
  ·cases h;refine⟨?_,rfl⟩;unfold Rw.has;simp only[a9V,Bool.and_assoc]
  ·cases h
 ·unfold a3D at h
  split at h
  ·cases h
  ·next hc=>
   unfold Rw.has;cases m with
   | none=>exact absurd rfl hc
   | some m=>
    simp only[bef,decide_eq_true_eq]at hc ⊢
    by_cases c1:r.b<=t
    ·rw[decide_eq_false (show ¬ t<m by omega),iC]
    ·rw[decide_eq_false c1];rfl
theorem b4h (m:Int) (l:List Rw) (t:Int):val (fromOn m l) t=if m<=t then val l t else none:=by
 have:(if m<=t then val l t else none)=if decide (m<=t)=true then val l t else none:=by simp
 rw[this];refine b2C (λr a h=>?_) (λr h=>?_) l
 ·unfold a7t at h
  split at h
  ·cases h;unfold Rw.has
   have:decide ((if m > r.b then m else r.b)<=t)=(decide (r.b<=t)&&decide (m<=t)):=by grind
   rw[this];cases decide (r.b<=t)<;>cases decide (m<=t)<;>simp
  ·cases h
 ·unfold a7t at h
  split at h
  ·cases h
  ·next hc=>
   unfold Rw.has;cases he:r.e with
   | none=>rw[he]at hc;exact absurd rfl hc
   | some e=>
    rw[he]at hc;simp only[bef]at hc ⊢
    by_cases c1:m<=t
    ·grind
    ·simp_all
theorem a4u (h:x∈ahead m l):∃ r∈l,bef r.b m=true/\x=⟨r.b,emin r.e m,r.w⟩:=by
 obtain⟨r,d,a⟩:=gG.mp h;unfold a3D at a
 split at a
 ·next c=>cases a;exact⟨r,d,c,rfl⟩
 ·cases a
theorem a5w (h:x∈fromOn m l):∃ r∈l,bef m r.e=true/\x=⟨if m > r.b then m else r.b,r.e,r.w⟩:=by
 obtain⟨r,d,a⟩:=gG.mp h;unfold a7t at a
 split at a
 ·next c=>cases a;exact⟨r,d,c,rfl⟩
 ·cases a
theorem b6I (hf:∀ r s r' s',R r s->f r=some r'->f s=some s'->R r' s'):∀ {l:List Rw},l.Pairwise R->(l.filterMap f).Pairwise R
 | [],_=>by simp
 | r::l,h=>by
  have b:=eW.mp h;have c:=b6I hf b.2;rw[fG];cases e:f r with
  | none=>exact c
  | some r'=>
   refine eW.mpr ⟨λs i=>?_,c⟩;obtain⟨a,d,g⟩:=gG.mp i;exact hf r a r' s (b.1 a d) e g
theorem b6J {x:Int}{m:Option Int}:∃ e,emin (some x) m=some e/\e<=x:=by
 cases m with
 | none=>exact⟨x,rfl,fi _⟩
 | some o=>
  refine⟨_,rfl,?_⟩
  split<;>omega
theorem b0K (m:Option Int) (h:Rise l):Rise (ahead m l):=by
 refine⟨λx j=>?_,b6I (λr s t p d a c=>?_) h.2⟩
 ·obtain⟨r,k,i,rfl⟩:=a4u j
  show bef r.b _=true
  rw[a9V,i,im];exact h.1 r k
 ·unfold a3D at a c
  split at a
  ·split at c
   ·cases a;cases c;obtain⟨e,g,o⟩:=d;obtain⟨f,n,q⟩:=@b6J e m;exact⟨f,by rw[<- n,<- g],by show f<=s.b;omega⟩
   ·grind
  ·grind
theorem b2D (m:Int) (h:Rise l):Rise (fromOn m l):=by
 refine⟨λx j=>?_,b6I (λr s n k d a c=>?_) h.2⟩
 ·obtain⟨r,f,g,rfl⟩:=a5w j
  split
  ·exact g
  ·exact h.1 r f
 ·unfold a7t at a c
  split at a
  ·split at c
   ·cases a;cases c;obtain⟨e,i,o⟩:=d;exact⟨e,i,by show e<=(if m > s.b then m else s.b);split<;>omega⟩
   ·grind
  ·grind
theorem a8t (m:Option Int) (l:List Rw):(ahead m l).length<=l.length:=gO _ _
theorem b4i (m:Int) (l:List Rw):(fromOn m l).length<=l.length:=gO _ _
theorem a9W (hbe:b<=e):∀ {l:List Rw},Rise l->(ahead (some b) l).length+(fromOn e l).length<=l.length+1
 | [],_=>by simp[ahead,fromOn]
 | r::l,h=>by
  have i:=a9W hbe h.tail;have d:=(eW.mp h.2).1;have c:(ahead (some b) (r::l)).length=(if bef r.b (some b)=true then 1 else 0)+(ahead (some b) l).length:=by
   unfold ahead;unfold a3D
   split
   ·grind
   ·grind
  have a:(fromOn e (r::l)).length=(if bef e r.e=true then 1 else 0)+(fromOn e l).length:=by
   unfold fromOn;unfold a7t
   split
   ·grind
   ·grind
  rw[c,a,eu]
  by_cases c1:bef r.b (some b)=true
  ·by_cases c2:bef e r.e=true
   ·have:ahead (some b) l=[]:=by
     unfold ahead;rw[List.filterMap_eq_nil_iff];intro s g;unfold a3D;obtain⟨j,f,k⟩:=d s g;rw[f]at c2;simp only[bef,decide_eq_true_eq]at c1 c2 ⊢;rw[if_neg (by omega)]
    have:=b4i e l
    simp_all;omega
   ·grind
  ·rw[if_neg c1];split<;>omega
noncomputable def a2Q (l:List Rw) (b:Int) (e:Option Int) (w:Option (List Z)):List Rw:=
 ahead (some b) l++(match w with | some w=>[⟨b,e,w⟩] | none=>[])++(match e with | some e=>fromOn e l | none=>[])
theorem a8u {l:List Rw}{b:Int}{e:Option Int}{w:Option (List Z)}(h:Rise l) (g:bef b e=true):Rise (a2Q l b e w)/\(∀ t,val (a2Q l b e w) t=if (decide (b<=t)&&bef t e)=true then w else val l t)/\(a2Q l b e w).length<=l.length+2:=by
 have hA:=b0K (some b) h;have eA:∀ r∈ahead (some b) l,∃ x,r.e=some x/\x<=b:=λr hr=>by
  obtain⟨r0,_,_,rfl⟩:=a4u hr
  show ∃ x,emin r0.e (some b)=some x/\x<=b
  cases r0.e with
  | none=>exact⟨b,rfl,fi _⟩
  | some x=>refine⟨_,rfl,?_⟩;split<;>omega
 have hM:Rise (match w with | some w=>[(⟨b,e,w⟩:Rw)] | none=>[]):=by
  cases w with
  | none=>exact .nil
  | some w=>exact⟨λr hr=>by rw[et.mp hr];exact g,by simp⟩
 have mM:∀ r∈(match w with | some w=>[(⟨b,e,w⟩:Rw)] | none=>[]),r.b=b/\r.e=e:=λr hr=>by
  cases w with
  | none=>simp at hr
  | some w=>rw[et.mp hr];exact⟨rfl,rfl⟩
 have vM:∀ t,val (match w with | some w=>[(⟨b,e,w⟩:Rw)] | none=>[]) t=if (decide (b<=t)&&bef t e)=true then w else none:=λt=>by
  cases w with
  | none=>simp[a3e]
  | some w=>rw[a0M,a3e];rfl
 have app:∀ {A B:List Rw},Rise A->Rise B->(∀ r∈A,∀ s∈B,Lt r s)->Rise (A++B):=λha hb hab=>⟨λr hr=>(ei.mp hr).elim (ha.1 r) (hb.1 r),eS.mpr ⟨ha.2,hb.2,hab⟩⟩;unfold a2Q;cases e with
 | none=>
  dsimp only;rw[eR];refine⟨app hA hM λr hr s hs=>?_,λt=>?_,?_⟩
  ·obtain⟨x,a1,a2⟩:=eA r hr;exact⟨x,a1,by rw[(mM s hs).1];exact a2⟩
  ·rw[a1q,a8s,vM];simp only[bef,im,decide_eq_true_eq]
   by_cases c:b<=t
   ·rw[if_neg (by omega),if_pos c,if_pos c];rfl
   ·rw[if_pos (by omega),if_neg c,if_neg c];simp
  ·rw[eB]
   have:=a8t (some b) l
   cases w<;>simp<;>omega
 | some e=>
  have hbe:b<e:=by simpa[bef]using g
  have hF:=b2D e h;have bF:∀ s∈fromOn e l,e<=s.b:=λs hs=>by
   obtain⟨r0,_,_,rfl⟩:=a5w hs
   show e<=(if e > r0.b then e else r0.b)
   split<;>omega
  dsimp only;refine⟨app (app hA hM λr hr s hs=>?_) hF λr hr s hs=>?_,λt=>?_,?_⟩
  ·obtain⟨x,a1,a2⟩:=eA r hr;exact⟨x,a1,by rw[(mM s hs).1];exact a2⟩
  ·have hs':=bF s hs;rcases ei.mp hr with hr | hr
   ·obtain⟨x,a1,a2⟩:=eA r hr;exact⟨x,a1,by omega⟩
   ·exact⟨e,(mM r hr).2,hs'⟩
  ·rw[a1q,a1q,a8s,vM,b4h];simp only[bef,fE,decide_eq_true_eq]
   by_cases c1:b<=t
   ·by_cases c2:t<e
    ·rw[if_neg (by omega),if_pos ⟨c1,c2⟩,if_neg (by omega),if_pos ⟨c1,c2⟩];simp
    ·rw[if_neg (by omega),if_neg (by omega),if_pos (by omega),if_neg (by omega)];rfl
   ·rw[if_pos (by omega),if_neg (by omega),if_neg (by omega),if_neg (by omega)];simp
  ·rw[eB,eB]
   have:=a9W (b:=b) (e:=e) (by omega) h
   cases w<;>simp<;>omega
noncomputable def a3E (puts:List Rw) (t:Int):Z:=match puts.reverse.find? (·.has t) with
 | some r=>r.w.headD .non
 | none=>.non
noncomputable def optW (z:Z):Option (List Z):=if z=.non then none else some [z]
theorem a54 (puts:List Rw) (p:Rw) (t:Int):a3E (puts++[p]) t=if p.has t=true then p.w.headD .non else a3E puts t:=by
 unfold a3E;rw[fW,gq,List.reverse_nil,gc,ij,fK];cases p.has t<;>rfl
noncomputable def a8v (l:List Rw) (b:Int) (e:Option Int) (w:Option (List Z)):List Rw:=join (a2Q l b e w)
theorem b4j {l:List Rw}{b:Int}{e:Option Int}{w:Option (List Z)}(h:Rise l) (g:bef b e=true):Can (a8v l b e w)/\(∀ t,val (a8v l b e w) t=if (decide (b<=t)&&bef t e)=true then w else val l t)/\(a8v l b e w).length<=l.length+2:=by
 have a:=a8u (w:=w) h g;have j:=b6H a.1;exact⟨j.1,λt=>by rw[<- a.2.1 t];exact j.2.1 t,eF j.2.2.1 a.2.2⟩
noncomputable def okW (w:List Z):Prop:=w≠[]/\w.length<=4/\w.all (flat 4)=true
noncomputable def OkR (l:List Rw):Prop:=∀ r∈l,okW r.w
theorem a4v:∀ {n m:Nat}{z:Z},n<=m->flat n z=true->flat m z=true:=by
 intro n
 induction n with
 | zero=>intro m z _ h;cases z<;>first | (simp[flat]at h;done) | (cases m<;>simp_all[flat])
 | succ n ih=>
  intro m z b h;cases m with
  | zero=>omega
  | succ m=>
   cases z with
   | tup ws=>
    simp only[flat,fL]at h ⊢;exact λx a=>ih (by omega) (h x a)
   | _=>first | (simp[flat];done) | (simp[flat]at h;done) | (simp only[flat]at h ⊢;exact h)
theorem b4k {ws:List Z}(hm:n<=m) (h:ws.all (flat n)=true):ws.all (flat m)=true:=by
 rw[fL]at h ⊢;exact λx a=>a4v hm (h x a)
theorem a89:flat n (oz e)=true:=by
 cases e<;>cases n<;>rfl
theorem a5x:flat n (.int i)=true:=by cases n<;>rfl
theorem b4l:flat n .non=true:=by cases n<;>rfl
theorem b4m {r:Rw}(h:okW r.w):flat 5 r.z=true:=by
 show ((Z.int r.b::oz r.e::r.w).all _)=true
 rw[fM,fM,a5x,a89,h.2.2];rfl
theorem b2E (h:OkR l):(l.map Rw.z).all (flat 8)=true:=by
 rw[fL];intro x b;obtain⟨r,a,rfl⟩:=eq.mp b;exact a4v (by simp) (b4m (h r a))
noncomputable def wz:Option (List Z)->Z
 | none=>.non
 | some w=>w.headD .non
theorem c1d (h:R (.bl (!e.isSome)) G):zIs false (oz e) .non G R:=by
 cases e with
 | none=>exact b6e h
 | some e=>exact b6e h
theorem b9n (h:R (.bl (decide (e=some b))) G):zEq id (oz e) (.int b) G R:=by
 cases e with
 | none=>
  refine (⟨b4l,a5x,?_⟩)
  have:decide (Z.non=Z.int b)=decide (none=some b):=by simp
  exact h
 | some e=>
  refine b8z ?_
  have:decide (e=b)=decide (some e=some b):=a1x (by simp)
  rw[this];exact h
theorem c1e (h1:flat 8 (.tup xs)=true) (h2:flat 8 (.tup ys)=true) (h:R (.bl (f (decide (xs=ys)))) G):zEq f (.tup xs) (.tup ys) G R:=by
 refine (⟨h1,h2,?_⟩);rw[a1x (Z.tup.injEq _ _)];exact h
noncomputable def a2R:P3:=λws G R=>∃ x y,ws=[oz x,oz y]/\R (oz (emin x y)) G
theorem a4Z (h:a2R ws G R):ws.length=2:=by obtain⟨_,_,rfl,_⟩:=h;rfl
theorem a5l (F:Fns K a) (T:Txt K mg a):FnOk P w K mg base CX0 1 a.f3 a.d3 ["end","other"] (lowP K a2R):=by
 refine fn3 F.n3 a5e (λd G R h=>(by exact a4Z h)) (λe A b s H E d G R c h=>?_);have f:=a0T c;refine⟨_,(a0l (z_if (a0E o_is (a0c (pv 0)) a4c (a0B _))
  (a0o (a0D (a0c (pv 1))))
  a1f)
  (a0l (z_if (a0E o_is (a0c (pv 1)) a4c (a0B _))
  (a0o (a0D (a0c (pv 0))))
  a1f)
  (a0o (a0D (a0w (b_min rfl) rfl T.b_min rfl (a0b (a0c (pv 0)) (a0b (a0c (pv 1)) a0g a0a) a0a)))))),?_⟩
 obtain⟨x,y,rfl,q⟩:=h;cases x with
 | none=>
  symm;cases y<;>exact q
 | some x=>
  cases y with
  | none=>
   symm;exact q
  | some y=>
   symm;exact q
theorem a9a {α β:Type}{l:List α}{g:α->Z}{g':β->Z}(f:α->Option β) (hok:∀ ys,ok (put G1 D (.lst ys))) (hz:l.length<=1000)
  (turn:∀ x,x∈l->∀ (ys:List Z) (K1:K3) (K2:Hq->Prop),(∀ y,f x=some y->K1 (g' y) (put G1 D (.lst ys)))->(f x=none->K2 (put G1 D (.lst ys)))->∃ σ',a5L pt (g x) (cap3 cap σ)=some σ'/\tt σ' (put G1 D (.lst ys)) λb G4=>if b=true then te σ' G4 K1 else K2 G4)
  (fin:R (.ref D) (put G1 D (.lst ((l.filterMap f).map g')))):LCB (l.map g) ok cap pt tt te σ R D G1:=by
 refine b0v (λi c G=>c=((l.take i).filterMap f).map g'/\G=put G1 D (.lst c)) ⟨by simp,rfl⟩ ?_ ?_ ?_
 ·simp_all
 ·rintro i x c G d ⟨e,rfl⟩;rw[eE]at d;cases hx':l[i]? with
  | none=>rw[hx']at d;cases d
  | some a=>
   rw[hx']at d;cases d;refine turn a (eP hx') c _ _ (λy j=>⟨a0d,?_,?_,?_⟩) λh=>⟨?_,rfl⟩
   ·rw[e,dY];exact ge (eF (gO _ _) (by rw[eK];omega)) (a0v (eh 1000))
   ·rw[a06 hx',j,e,eD];rfl
   ·rw[a2q]
   ·rw[a06 hx',h,e];simp
 ·simp_all
noncomputable def One (l:List Rw):Prop:=∀ r∈l,∃ x,r.w=[x]
noncomputable def a4w:P3:=λws G R=>∃ p l m,ws=[.ref p,oz m]/\G p=some (.lst (l.map Rw.z))/\One l/\l.length<=1000/\∀ t,G t=none->R (.ref t) (put G t (.lst ((ahead m l).map Rw.z)))
theorem a6u (h:a4w ws G R):ws.length=2:=by obtain⟨_,_,_,rfl,_⟩:=h;rfl
theorem a7u (F:Fns K a) (T:Txt K mg a):FnOk P w K mg base CX0 2 a.f7 a.d7 ["line","moment"] (lowP K a4w):=by
 have G_p_earlier_end:=a5l (P:=P) (w:=w) (base:=base) F T;refine fn3 F.n7 a7p (λws G R h=>(by exact a6u h)) (λcdv A outer s H E ws G R hr h=>?_);have hu:=a0T hr;refine⟨_,(a0o (a0D (q_lc (N₀:=["line","moment"]) (so:=a0e a1Z) (N':=["begin","end","worth","moment"]) (cap:=[none,none,none,some 1]) (pt:=(.tp [0,1,2])) rfl rfl rfl (by decide +kernel) rfl (a0L (a0c (pv 0))) (λ_ _ _ _=>(show QP _ _ (.tp [0,1,2]) from (a5D rfl (a0z (a0n (i:=0) b0H rfl (ee rfl)) (a0z (a0n (i:=1) b0H rfl (ee rfl)) (a0z (a0n (i:=2) b0H rfl (ee rfl)) a3L)))))) (λ_ _ _ _=>(a27 (QW.qt (q_or (a0E o_is (a0c (pv 3)) a4c (a0B _)) (a7b (a0E o_lt (a0c (pv 0)) (a0c (pv 3)) (a0B _))))))) (λ_ _ _ _=>(a2Y (a0b (a0c (pv 0)) (a0b (a0y G_p_earlier_end (hr.mono (by decide)) rfl T.m3 F.n3.kp (a5i F) (a0b (a0c (pv 1)) (a0b (a0c (pv 3)) a0g a0a) a0a) (he:=a0a) (hpl:=(a0m a0a a0j))) (a0b (a0c (pv 2)) a0g a0a) a0I) a0a)))))),?_⟩;obtain⟨p,l,m,rfl,hp,h1,hz,q⟩:=h;symm;refine a17 hp ?_;intro D hD;refine a9a (a3D m) (λys=>a0k hp hD) hz ?_ (q D hD);intro r hr ys K1 K2 k1 k2;obtain⟨x,hx⟩:=h1 r hr;obtain⟨b,e,w⟩:=r;cases hx;refine⟨_,rfl,?_⟩;cases m with
 | none=>
  symm;refine⟨e,none,rfl,?_⟩;symm;refine⟨lenK rfl,?_⟩;exact k1 _ rfl
 | some m=>
  symm;refine ifD (λc=>?_) λc=>?_
  ·symm;refine⟨e,some m,rfl,?_⟩;symm;refine⟨lenK rfl,?_⟩;refine k1 ⟨b,emin e (some m),[x]⟩ ?_;unfold a3D;rw[if_pos (by simpa[bef]using c)]
  ·refine k2 ?_;unfold a3D;rw[if_neg (by simpa[bef]using c)]
noncomputable def a48:P3:=λws G R=>∃ p l m,ws=[.ref p,.int m]/\G p=some (.lst (l.map Rw.z))/\One l/\l.length<=1000/\∀ t,G t=none->R (.ref t) (put G t (.lst ((fromOn m l).map Rw.z)))
theorem a7v (h:a48 ws G R):ws.length=2:=by obtain⟨_,_,_,rfl,_⟩:=h;rfl
theorem a8w (F:Fns K a) (T:Txt K mg a):FnOk P w K mg base CX0 1 a.f9 a.d9 ["line","moment"] (lowP K a48):=by
 refine fn3 F.n9 a8n (λws G R h=>(by exact a7v h)) (λcdv A outer s H E ws G R hr h=>?_);have hu:=a0T hr;refine⟨_,(a0o (a0D (q_lc (N₀:=["line","moment"]) (so:=a0e a2C) (N':=["begin","end","worth","moment"]) (cap:=[none,none,none,some 1]) (pt:=(.tp [0,1,2])) rfl rfl rfl (by decide +kernel) rfl (a0L (a0c (pv 0))) (λ_ _ _ _=>(show QP _ _ (.tp [0,1,2]) from (a5D rfl (a0z (a0n (i:=0) b0H rfl (ee rfl)) (a0z (a0n (i:=1) b0H rfl (ee rfl)) (a0z (a0n (i:=2) b0H rfl (ee rfl)) a3L)))))) (λ_ _ _ _=>(a27 (QW.qt (q_or (a0E o_is (a0c (pv 1)) a4c (a0B _)) (a7b (a0E o_lt (a0c (pv 3)) (a0c (pv 1)) (a0B _))))))) (λ_ _ _ _=>(a2Y (a0b (a0w (b_max rfl) rfl T.b_max rfl (a0b (a0c (pv 0)) (a0b (a0c (pv 3)) a0g a0a) a0a) (he:=a0a) (hpl:=(a0m a0a a0j))) (a0b (a0c (pv 1)) (a0b (a0c (pv 2)) a0g a0a) a0a) a0I)))))),?_⟩;obtain⟨p,l,m,rfl,hp,h1,hz,q⟩:=h;symm;refine a17 hp ?_;intro D hD;refine a9a (a7t m) (λys=>a0k hp hD) hz ?_ (q D hD);intro r hr ys K1 K2 k1 k2;obtain⟨x,hx⟩:=h1 r hr;obtain⟨b,e,w⟩:=r;cases hx;refine⟨_,rfl,?_⟩;cases e with
 | none=>
  symm;refine⟨lenK rfl,?_⟩;exact k1 ⟨if m > b then m else b,none,[x]⟩ rfl
 | some e=>
  symm;refine ifD (λc=>?_) λc=>?_
  ·symm;refine⟨lenK rfl,?_⟩;refine k1 ⟨if m > b then m else b,some e,[x]⟩ ?_;unfold a7t;rw[if_pos (by simpa[bef]using c)]
  ·refine k2 ?_;unfold a7t;rw[if_neg (by simpa[bef]using c)]
theorem a9b (h:0<n):ixN n (-1)=some (n - 1):=by grind [ixN]
theorem a9c {α:Type}{l:List α}{x:α}(h:l.getLast?=some x):atI l (-1)=some x:=by
 have a:l≠[]:=λz=>by subst z;simp at h
 unfold atI;rw[a9b (gA.mpr a)]
 show l[l.length - 1]?=some x
 rw[<- List.getLast?_eq_getElem?];exact h
theorem a9X {α:Type}{l:List α}{x y:α}(h:l.getLast?=some x):l.set (l.length - 1) y=l.dropLast++[y]:=by
 have a:=a4t h;generalize l.dropLast=i at a;subst a;simp
theorem sIx2 {a b:Z}{w:List Z}:HT.sIx (a::b::w).length 0 (some 2)=2:=by
 have:=HT.sIx_nat (a::b::w).length 0 2
 rw[show ((2:Nat):Int)=2 from rfl]at this;rw[this];simp
theorem cut2 {a b:Z}{w:List Z}:cutZ (a::b::w) (some 2) none=w:=by
 unfold cutZ;rw[sIx2,HT.sIx_none];simp
theorem b2F {a b:Z}{w:List Z}:¬ (HT.sIx (a::b::w).length 0 (some 2)=0/\HT.sIx (a::b::w).length (a::b::w).length none=(a::b::w).length):=by
 rw[sIx2];intro h;exact absurd h.1 (by decide)
noncomputable def a0U:P3:=λws G R=>∃ p ps,ws=[.ref p]/\G p=some (.lst (ps.map Rw.z))/\OkR ps/\ps.length<=1000/\∀ t,G t=none->R (.ref t) (put G t (.lst ((join ps).map Rw.z)))
theorem a2I (h:a0U ws G R):ws.length=1:=by obtain⟨_,_,rfl,_⟩:=h;rfl
theorem b6K {G:Hq}{R:K3}{a b:Z}{w:List Z}(h:R (.tup w) G):zSl (.tup (a::b::w)) (some 2) none G R:=b10 b2F (by rw[cut2];exact h)
theorem b2G {w:List Z}(h:okW w):flat 8 (.tup w)=true:=b4k (n:=4) (m:=7) (by decide) h.2.2
theorem a9Y:∀ (ps told:List Rw),OkR told->OkR ps->OkR (ps.foldl jn told)
 | [],_,h,_=>h
 | p::ps,told,h,h'=>by
  refine a9Y ps _ (λr a=>?_) λr a=>h' r (.tail _ a);unfold jn at a
  split at a
  ·next l hl=>
   split at a
   ·rcases ei.mp a with a | a
    ·exact h r (iQ _ a)
    ·rw[et.mp a];exact h' p (.head _)
   ·rcases ei.mp a with a | a
    ·exact h r a
    ·rw[et.mp a];exact h' p (.head _)
  ·rcases ei.mp a with a | a
   ·exact h r a
   ·rw[et.mp a];exact h' p (.head _)
theorem b9o (told:List Rw) (p:Rw):(jn told p).length<=told.length+1:=by
 unfold jn
 split
 ·split<;>simp
 ·simp
theorem a9Z:∀ (ps told:List Rw),(ps.foldl jn told).length<=told.length+ps.length
 | [],told=>by simp
 | p::ps,told=>by
  have b:=a9Z ps (jn told p);have a:=b9o told p
  show (ps.foldl jn (jn told p)).length<=_
  rw[eu];omega
theorem b2H {ps:List Rw}(h:ps[i]?=some p):(ps.take (i+1)).foldl jn []=jn ((ps.take i).foldl jn []) p:=by
 rw[fN,h];simp
theorem a21 (F:Fns K a) (T:Txt K mg a):FnOk P w K mg base CX0 1 a.f8 a.d8 ["pieces"] (lowP K a0U):=by
 refine fn3 F.n8 sc_p_with_alike_joined (λws G R h=>(by exact a2I h)) (λcdv A outer s H E ws G R hr h=>?_);have hu:=a0T hr;refine⟨_,(a0l (a02 (i:=1) sc_p_with_alike_joined.nd rfl (ee rfl) (a15 a0g))
  (a0l (a26 (pt:=(.nm 2)) j0.never rfl (a0L (a0c (pv 0))) (show QP _ _ (.nm 2) from (a0n (i:=2) sc_p_with_alike_joined.nd rfl (ee rfl)))
  (a0o (z_if (QW.qt (b0t (b78 (a0c (pv 1)) (λ_=>rfl)) (b0t (a0E (o_eq hu) (q_ix x_ix (q_ix x_ix (a0c (pv 1)) (q_un a5N a0h) (λ_ _=>rfl)) a0h (λ_ _=>rfl)) (q_ix x_ix (a0c (pv 2)) a0h (λ_ _=>rfl)) (a0B _)) (a7R (a0E (o_eq hu) (a14 x_sl (q_ix x_ix (a0c (pv 1)) (q_un a5N a0h) (λ_ _=>rfl)) (a2O a0h) a1W) (a14 x_sl (a0c (pv 2)) (a2O a0h) a1W) (a0B _))))))
  (a0o (a7T (q_op a1L (a2Y (a0b (q_ix x_ix (q_ix x_ix (a0c (pv 1)) (q_un a5N a0h) (λ_ _=>rfl)) a0h (λ_ _=>rfl)) (a0b (q_ix x_ix (a0c (pv 2)) a0h (λ_ _=>rfl)) a0g a0i) a0i)) (a14 x_sl (a0c (pv 2)) (a2O a0h) a1W)) (a0c (pv 1)) (q_un a5N a0h) b6b))
  (a0o (a05 (q_bm PySem.F.plainAttrs_list PySem.F.slot_list_append PySem.F.type_list_append a1G (a0c (pv 1)) (a0b (a0c (pv 2)) a0g a0a)))))))
  (a0o (a0D (a0c (pv 1)))))),?_⟩
 obtain⟨p,ps,rfl,hp,hok,hz,q⟩:=h;symm;refine⟨lenK rfl,λt ht=>?_⟩;symm;refine a17 (a0k hp ht) ?_;refine a08 (λi σ G'=>∃ v,σ=[some (.ref p),some (.ref t),v]/\G'=put G t (.lst (((ps.take i).foldl jn []).map Rw.z))) ⟨_,rfl,by simp⟩ (by rintro i σ G' _ ⟨v,_,e⟩;exact by rw[e];exact a0k hp ht) ?_ ?_
 ·rintro i x σ G' hx ⟨v,rfl,rfl⟩;rw[eE]at hx;cases hx':ps[i]? with
  | none=>rw[hx']at hx;cases hx
  | some r=>
   rw[hx']at hx;cases hx;have hr:=hok r (eP hx');have hot:OkR ((ps.take i).foldl jn []):=a9Y _ _ (λr hr=>by simp at hr) λr hr=>hok r (fF hr);have hlt:=a9Z (ps.take i) [];rw[eK]at hlt;have hi:=(eL.mp hx').1;rw[b2H hx'];generalize (ps.take i).foldl jn []=told at hot hlt ⊢;simp only[List.length_nil]at hlt;refine⟨_,rfl,?_⟩;have app:∀ G',G'=put G t (.lst (told.map Rw.z))->jn told r=told++[r]->a8R (.ref t) [r.z] G' (λ_ G1=>∃ v,([some (.ref p),some (.ref t),some r.z]:S3)=[some (.ref p),some (.ref t),v]/\G1=put G t (.lst ((jn told r).map Rw.z))):=by
    rintro _ rfl e;refine a1t a0d (by rw[dY];exact a0v (by omega)) ⟨_,rfl,?_⟩;rw[a2q,e,eD]
    rfl
   symm;refine b4V a0d ?_;cases hl:told.getLast? with
   | none=>
    have e0:told=[]:=jy.mp hl;subst e0;refine ifF ?_;symm;refine a3R a0d ?_;symm;exact app _ rfl (by unfold jn;rw[hl])
   | some k=>
    have hne:told≠[]:=λz=>by subst z;simp at hl
    have hlm:(told.map Rw.z).getLast?=some k.z:=by rw[List.getLast?_map,hl];rfl
    have he:(told.map Rw.z).isEmpty=false:=by cases told with | nil=>exact absurd rfl hne | cons _ _=>rfl
    have hk:=hot k (List.mem_of_getLast? hl);rw[he];refine ifT ?_;symm;refine a0Q a0d (a9c hlm) ?_;symm;refine a7f at1 ?_;symm;refine a7f at0 ?_;refine b9n ?_;symm;refine ifD (λc1=>?_) λc1=>?_
    ·symm;refine a0Q a0d (a9c hlm) ?_;symm;refine b6K ?_;symm;refine b6K ?_;refine c1e (b2G hk) (b2G hr) ?_;symm;refine ifD (λc2=>?_) λc2=>?_
     ·symm;refine a0Q a0d (a9c hlm) ?_;symm;refine a7f at0 ?_;symm;refine a7f at1 ?_;symm;refine⟨lenK rfl,?_⟩;symm;refine b6K ?_;refine b4W (by simp) (a4s (by have:=hr.2.1;simp;omega)) ?_;symm;refine b6h a0d (a9b (by rw[dY];exact gA.mpr hne)) ?_;refine⟨_,rfl,?_⟩;rw[a2q,a9X hlm]
      congr 1
      unfold jn;rw[hl];dsimp only;rw[if_pos ⟨c1,c2⟩,eD,List.map_dropLast]
      rfl
     ·symm;refine a3R a0d ?_;symm;exact app _ rfl (by unfold jn;rw[hl];dsimp only;rw[if_neg λz=>c2 z.2])
    ·refine ifF ?_;symm;refine a3R a0d ?_;symm;exact app _ rfl (by unfold jn;rw[hl];dsimp only;rw[if_neg λz=>c1 z.1])
 ·rintro σ G' ⟨v,rfl,rfl⟩;symm;rw[dY,ff];exact q t ht
theorem Rise.drop (h:Rise l) (k:Nat):Rise (l.drop k):=⟨λr a=>h.1 r (ie a),h.2.sublist (jh _ _)⟩
theorem drop_get {α:Type}{l:List α}{x:α}(h:l[k]?=some x):l.drop k=x::l.drop (k+1):=by
 obtain⟨b,a⟩:=eL.mp h;rw[h9 b,a]
theorem take_snoc {α:Type}{l:List α}{x:α}(h:l[i]?=some x):l.take (i+1)=l.take i++[x]:=by rw[fN,h];rfl
theorem b2I (h:OkR l):OkR (ahead m l):=λx a=>by
 obtain⟨r,b,_,rfl⟩:=a4u a;exact h r b
theorem b4n (h:OkR l):OkR (fromOn m l):=λx a=>by
 obtain⟨r,b,_,rfl⟩:=a5w a;exact h r b
noncomputable def okV (z:Z):Prop:=flat 4 z=true
theorem b9p (h:okV z):okW [z]:=⟨by simp,by simp,by rw[fM,h];rfl⟩
theorem b0L (h:OkR l) (hz:okV z):OkR (a2Q l b e (optW z)):=by
 intro r a;rcases ei.mp a with a | a
 ·rcases ei.mp a with a | a
  ·exact b2I h r a
  ·unfold optW at a
   split at a
   ·next w e=>
          split at e
          ·cases e
          ·cases e;rw[et.mp a];exact b9p hz
   ·simp_all
 ·cases e with
  | none=>simp at a
  | some e=>exact b4n h r a
noncomputable def a33:P3:=λws G R=>Ex5 λp l b e z=>ws=[.ref p,.int b,oz e,z]/\G p=some (.lst (l.map Rw.z))/\Rise l/\OkR l/\One l/\l.length<=900/\bef b e=true/\okV z /\
 ∀ t G',G t=none->Sm G G'->G' t=some (.lst ((a8v l b e (optW z)).map Rw.z))->R (.ref t) G'
theorem a8x (h:a33 ws G R):ws.length=4:=by obtain⟨_,_,_,_,_,rfl,_⟩:=h;rfl
theorem a9d (F:Fns K a) (T:Txt K mg a):FnOk P w K mg base CX0 3 a.f10 a.d10 ["line","begin","end","worth"] (lowP K a33):=by
 have G_p_ahead_of:=a7u (P:=P) (w:=w) (base:=base) F T;have G_p_with_alike_joined:=a21 (P:=P) (w:=w) (base:=base) F T;have G_p_from_on:=a8w (P:=P) (w:=w) (base:=base) F T;refine fn3 F.n10 sc_p_put_on (λws G R h=>(by exact a8x h)) (λcdv A outer s H E ws G R hr h=>?_);have hu:=a0T hr;refine⟨_,(a0l (a02 (i:=4) sc_p_put_on.nd rfl (ee rfl) (a0y G_p_ahead_of (hr.mono (by decide)) rfl T.m7 F.n7.kp (a7q F) (a0b (a0c (pv 0)) (a0b (a0c (pv 1)) a0g a0a) a0a) (he:=a0a) (hpl:=(a0m a0a a0j))))
  (b3L (z_if (a0E b1T (a0c (pv 3)) a4c (a0B _))
  (a0o (a05 (q_bm PySem.F.plainAttrs_list PySem.F.slot_list_append PySem.F.type_list_append a1G (a0c (pv 4)) (a0b (a2Y (a0b (a0c (pv 1)) (a0b (a0c (pv 2)) (a0b (a0c (pv 3)) a0g a0a) a0a) a0a)) a0g a2u))))
  a1f)
  (b3L (z_if (a0E b1T (a0c (pv 2)) a4c (a0B _))
  (a0o (a05 (q_bm PySem.F.plainAttrs_list PySem.F.slot_list_extend PySem.F.type_list_extend a9w (a0c (pv 4)) (a0b (a0y G_p_from_on (hr.mono (by decide)) rfl T.m9 F.n9.kp (a8p F) (a0b (a0c (pv 0)) (a0b (a0c (pv 2)) a0g a0a) a0a) (he:=a0a) (hpl:=(a0m a0a a0j))) a0g a0I))))
  a1f)
  (a0o (a0D (a0y G_p_with_alike_joined (hr.mono (by decide)) rfl T.m8 F.n8.kp (a20 F) (a0b (a0c (pv 4)) a0g a0a) (he:=a0a) (hpl:=a0j))))))),?_⟩
 obtain⟨p,l,b,e,z,rfl,hp,hr,hok,h1,hz,g,hv,q⟩:=h;have hpc:=(a8u (w:=optW z) hr g).2.2;symm;refine⟨p,l,some b,rfl,hp,h1,by omega,λt ht=>?_⟩;symm;have la:=a8t (some b) l;refine b3R (fun σ' G'=>σ'=[some (.ref p),some (.int b),some (oz e),some z,some (.ref t)]/\G'=put G t (.lst ((ahead (some b) l++(match optW z with | some w=>[(⟨b,e,w⟩:Rw)] | none=>[])).map Rw.z))) ?_ ?_
 ·symm;refine ifN (λc=>?_) λc=>?_
  ·symm;refine a3R a0d ?_;symm;refine⟨lenK rfl,?_⟩;symm;refine a1t a0d (by rw[dY];exact a0v (by omega)) ⟨rfl,?_⟩;rw[a2q,optW,if_neg c,eD];rfl
  ·symm;refine⟨rfl,?_⟩;rw[optW,if_pos c];simp
 ·rintro σ' G' ⟨rfl,rfl⟩;have hp1:∀ o,put G t o p=some (.lst (l.map Rw.z)):=λo=>a0k hp ht;have fin:∀ G' ,Sm G G'->G' t=some (.lst ((a2Q l b e (optW z)).map Rw.z))->a0U [.ref t] G' R:=λG' s ht'=>by
   refine⟨t,_,rfl,ht',b0L hok hv,by omega,λu hu=>?_⟩;exact q u _ (s.free hu) (s.trans (Sm.new hu)) a0d
  refine b3R (fun σ' G'=>σ'=[some (.ref p),some (.int b),some (oz e),some z,some (.ref t)]/\Sm G G'/\G' t=some (.lst ((a2Q l b e (optW z)).map Rw.z))) ?_ ?_
  ·cases e with
   | none=>
    symm;refine⟨rfl,Sm.new ht,?_⟩;unfold a2Q;rw[eR];exact a0d
   | some e=>
    symm;refine a3R a0d ?_;symm;refine⟨p,l,e,rfl,hp1 _,h1,by omega,λu hu=>?_⟩;have hut:t≠u:=λz=>by subst z;rw[a0d]at hu;cases hu
    have hpl:(a2Q l b (some e) (optW z)).length=(ahead (some b) l++(match optW z with | some w=>[(⟨b,some e,w⟩:Rw)] | none=>[])).length+(fromOn e l).length:=by
     unfold a2Q;exact eB
    generalize hA:(ahead (some b) l++(match optW z with | some w=>[(⟨b,some e,w⟩:Rw)] | none=>[]))=A at hu hpl ⊢
    have e1:put (put G t (.lst (A.map Rw.z))) u (.lst ((fromOn e l).map Rw.z)) t=some (.lst (A.map Rw.z)):=by rw[a0x hut];exact a0d
    symm;refine a9y e1 a0d (by rw[dY,dY];exact a4s (by omega)) ?_;refine⟨rfl,?_,?_⟩
    ·exact ((Sm.new ht).trans (Sm.new hu)).put ht
    ·rw[a0d,<- eD,<- hA]
     rfl
  ·rintro σ' G' ⟨rfl,s,ht'⟩;symm;exact fin G' s ht'
noncomputable def okS (s:Str):Prop:=s.length<=1000/\PyData.strOk s=true
noncomputable def Th (G:Hq):Z->Prop
 | .non=>True
 | .bl _=>True
 | .int _=>True
 | .str s=>okS s
 | .tup _=>True
 | .ref p=>(∃ ws,G p=some (.lst ws))\/∃ kvs,G p=some (.dK kvs)
 | _=>False
theorem Th.sm (s:Sm G G') (h:Th G x):Th G' x:=by
 cases x with
 | ref p=>
  rcases h with ⟨ws,e⟩ | ⟨ws,e⟩
  ·exact .inl ⟨ws,s _ _ e⟩
  ·exact .inr ⟨ws,s _ _ e⟩
 | _=>exact h
structure Kd (G:Hq) (x:Z) (n:String):Prop where
 ty:tyN G x=some n
 is:n="NoneType"\/n="bool"\/n="int"\/n="str"\/n="tuple"\/n="list"\/n="dict"
theorem Th.kd (h:Th G x):∃ n,Kd G x n:=by
 cases x with
 | non=>exact⟨_,rfl,.inl rfl⟩
 | bl _=>exact⟨_,rfl,.inr (.inl rfl)⟩
 | int _=>exact⟨_,rfl,.inr (.inr (.inl rfl))⟩
 | str _=>exact⟨_,rfl,.inr (.inr (.inr (.inl rfl)))⟩
 | tup _=>exact⟨_,rfl,.inr (.inr (.inr (.inr (.inl rfl))))⟩
 | ref p=>
  rcases h with ⟨ws,e⟩ | ⟨ws,e⟩
  ·exact⟨"list",by simp[tyN,e],.inr (.inr (.inr (.inr (.inr (.inl rfl)))))⟩
  ·exact⟨"dict",by simp[tyN,e],.inr (.inr (.inr (.inr (.inr (.inr rfl)))))⟩
 | _=>exact er h
theorem b6L (h:n="NoneType"\/n="bool"\/n="int"\/n="str"\/n="tuple"\/n="list"\/n="dict"):kit0 n "str"=some (decide (n="str")):=by
 rcases h with rfl | rfl | rfl | rfl | rfl | rfl | rfl<;>decide +kernel
theorem b4o (h:n="NoneType"\/n="bool"\/n="int"\/n="str"\/n="tuple"\/n="list"\/n="dict"):kit0 n "bool"=some (decide (n="bool")):=by
 rcases h with rfl | rfl | rfl | rfl | rfl | rfl | rfl<;>decide +kernel
theorem b6M (h:n="NoneType"\/n="bool"\/n="int"\/n="str"\/n="tuple"\/n="list"\/n="dict"):kit0 n "int"=some (decide (n="int")||decide (n="bool")):=by
 rcases h with rfl | rfl | rfl | rfl | rfl | rfl | rfl<;>decide +kernel
noncomputable def isS:Z->Bool
 | .str _=>true
 | _=>false
noncomputable def isB:Z->Bool
 | .bl _=>true
 | _=>false
noncomputable def isI:Z->Bool
 | .int _=>true
 | .bl _=>true
 | _=>false
theorem c1f (h:Th G x) (q:R (.bl (isS x)) G):zIsT [x,.ty "str"] G R:=by
 obtain⟨n,k⟩:=h.kd;refine⟨n,_,k.ty,b6L k.is,?_⟩;have e:decide (n="str")=isS x:=by
  have:=k.ty
  cases x with
  | ref p=>rcases h with ⟨ws,e⟩ | ⟨ws,e⟩<;>(simp[tyN,e]at this;subst this;show _=false;decide)
  | _=>first | (cases this;show _=false;decide;done) | (cases this;show _=true;decide;done) | exact er h
 rw[e];exact q
theorem b9q (h:Th G x) (q:R (.bl (isB x)) G):zIsT [x,.ty "bool"] G R:=by
 obtain⟨n,k⟩:=h.kd;refine⟨n,_,k.ty,b4o k.is,?_⟩;have e:decide (n="bool")=isB x:=by
  have:=k.ty
  cases x with
  | ref p=>rcases h with ⟨ws,e⟩ | ⟨ws,e⟩<;>(simp[tyN,e]at this;subst this;show _=false;decide)
  | _=>first | (cases this;show _=false;decide;done) | (cases this;show _=true;decide;done) | exact er h
 rw[e];exact q
theorem b9r (h:Th G x) (q:R (.bl (isI x)) G):zIsT [x,.ty "int"] G R:=by
 obtain⟨n,k⟩:=h.kd;refine⟨n,_,k.ty,b6M k.is,?_⟩;have e:(decide (n="int")||decide (n="bool"))=isI x:=by
  have:=k.ty
  cases x with
  | ref p=>rcases h with ⟨ws,e⟩ | ⟨ws,e⟩<;>(simp[tyN,e]at this;subst this;show _=false;decide)
  | _=>first | (cases this;show _=false;decide;done) | (cases this;show _=true;decide;done) | exact er h
 rw[e];exact q
noncomputable def okC (c:Nat):Bool:=decide (97<=c)&&decide (c<=122)
noncomputable def a3x:Z->Bool
 | .str s=>decide (1<=s.length)&&decide (s.length<=8)&&s.cps.toList.all okC
 | _=>false
noncomputable def momB:Z->Bool
 | .int i=>decide (0<=i)&&decide (i<=1000000000000)
 | _=>false
theorem a7w:momB (.int i)=(decide (0<=i)&&decide (i<=1000000000000)):=rfl
noncomputable def strB (x y:Z):Bool:=momB x&&match y with
 | .non=>true
 | .int j=>momB (.int j)&&match x with | .int i=>decide (i<j) | _=>false
 | _=>false
noncomputable def spB1 (f:Z->Bool):P3:=λws G R=>∃ x,ws=[x]/\Th G x/\∀ G',Sm G G'->R (.bl (f x)) G'
theorem b9s (h:spB1 f ws G R):ws.length=1:=by obtain⟨_,rfl,_⟩:=h;rfl
noncomputable def spB2 (f:Z->Z->Bool):P3:=λws G R=>∃ x y,ws=[x,y]/\Th G x/\Th G y/\∀ G',Sm G G'->R (.bl (f x y)) G'
theorem c1g (h:spB2 f ws G R):ws.length=2:=by obtain⟨_,_,rfl,_⟩:=h;rfl
abbrev a8y:P3:=spB1 a3x
abbrev a3F:P3:=spB1 momB
abbrev a55:P3:=spB2 strB
theorem b2J (a b:Nat):ltS ⟨#[a]⟩ ⟨#[b]⟩=decide (a<b):=by
 by_cases h:a<b
 ·rw[decide_eq_true h];exact decide_eq_true (jz.mpr (.inl h))
 ·rw[decide_eq_false h];refine decide_eq_false λq=>?_;rcases jz.mp q with q | q
  ·simp_all
  ·simp_all
theorem strA:(Str.ofString "a")=⟨#[97]⟩:=by decide +kernel
theorem strZ:(Str.ofString "z")=⟨#[122]⟩:=by decide +kernel
theorem b4p (x:Str) (g:Nat->Option Z) (f:Z->Option Z) (h:∀ c,f (.str ⟨#[c]⟩)=g c):(a5d x).filterMap f=x.cps.toList.filterMap g:=by
 unfold a5d;rw[ja]
 congr 1
 funext c
 exact h c
theorem b2K (h:x.length<=1000):(a5d x).length<=1000:=by unfold a5d;rw[dY,fT];exact h
theorem b9t (l:List Nat):(l.filterMap λc=>some (Z.bl (okC c)))=(l.map okC).map Z.bl:=by simp
theorem b6N (l:List Nat):(l.map okC).all id=l.all okC:=by simp
theorem a5y:a3x (.str s)=(decide (1<=s.length)&&decide (s.length<=8)&&s.cps.toList.all okC):=rfl
theorem a8z (F:Fns K a) (T:Txt K mg a):FnOk P w K mg base CX0 1 a.f0 a.d0 ["thing"] (lowP K a8y):=by
 refine fn3 F.n0 a8m (λws G R h=>(by exact b9s h)) (λcdv A outer s H E ws G R hr h=>?_);have hu:=a0T hr;refine⟨_,(a0l (z_if (a1V (a2t (a0w a7W rfl T.b_isinstance rfl (a0b (a0c (pv 0)) (a0b (q_ty (a23 (v:=.ty "str") rfl T.b_str rfl rfl)) a0g a0a) a0a) (he:=a0a) (hpl:=(a0m a0a a0j)))))
  (a0o (a0D q_bl))
  a1f)
  (a0l (z_if (QW.qt (q_or (a0E o_lt (a0w b_len rfl T.b_len PySem.boot_len (a0b (a0c (pv 0)) a0g a0a) (he:=a0a) (hpl:=a0j)) a0h (a0B _)) (a7b (a0E o_gt (a0w b_len rfl T.b_len PySem.boot_len (a0b (a0c (pv 0)) a0g a0a) (he:=a0a) (hpl:=a0j)) (b4M (a9U rfl T.c_LONGEST_NAME)) (a0B _)))))
  (a0o (a0D q_bl))
  a1f)
  (a0o (a0D (a0w (b_all rfl) rfl T.b_all rfl (a0b (q_lc (N₀:=["thing"]) (so:=a0e a2A) (N':=["sign"]) (cap:=[none]) (pt:=(.nm 0)) rfl rfl rfl (by decide +kernel) rfl (b8p (a0c (pv 0))) (λ_ _ _ _=>(show QP _ _ (.nm 0) from (a0n (i:=0) c05 rfl (ee rfl)))) (λ_ _ _ _=>a2v) (λ_ _ _ _=>(b1A o_le o_le a5b (a0c (pv 0)) a5b))) a0g a0J) (he:=a0J) (hpl:=a0j)))))),?_⟩
 obtain⟨x,rfl,hx,q⟩:=h;symm;refine c1f hx ?_;symm;refine ifNB (λc=>?_) λc=>?_
 ·symm;have e:a3x x=false:=by cases x<;>first | rfl | cases c
  have:=q G (Sm.refl G)
  rw[e]at this;exact this
 ·obtain⟨s,rfl⟩:∃ s,x=.str s:=by cases x<;>first | exact⟨_,rfl⟩ | cases c
  have hs:okS s:=hx;symm;refine a9x (a4s hs.1) ?_;symm;have no:a3x (.str s)=false->R (.bl false) G:=λe=>by have:=q G (Sm.refl G);rw[e]at this;exact this
  refine ifD (λc1=>?_) λc1=>?_
  ·symm;exact no (by rw[a5y,decide_eq_false (show ¬ 1<=s.length by omega)];rfl)
  ·symm;refine a9x (a4s hs.1) ?_;symm;refine ifD (λc2=>?_) λc2=>?_
   ·symm;exact no (by rw[a5y,decide_eq_false (show ¬ s.length<=8 by omega),iC];rfl)
   ·symm;intro D hD;refine b1J (λx=>match x with | .str z=>some (.bl (!ltS z (Str.ofString "a")&&!ltS (Str.ofString "z") z)) | _=>none) (λ_=>True.intro) (b2K hs.1) ?_ ?_
    ·intro x hm ys K1 K2 k1 k2;unfold a5d at hm;obtain⟨c,_,rfl⟩:=eq.mp hm;refine⟨_,rfl,?_⟩;symm;refine ifB (λz=>?_) λz=>?_
     ·symm;refine k1 _ ?_;dsimp only;rw[z];rfl
     ·refine k1 _ ?_;dsimp only;rw[z];rfl
    ·have e:(a5d s).filterMap (λx=>match x with | .str z=>some (.bl (!ltS z (Str.ofString "a")&&!ltS (Str.ofString "z") z)) | _=>none)=(s.cps.toList.map okC).map Z.bl:=by
      rw[b4p s (λc=>some (.bl (okC c))) _ λc=>?_,b9t];dsimp only;rw[strA,strZ,b2J,b2J];unfold okC
      congr 2
      by_cases h1:c<97<;>by_cases h2:122<c<;>simp[h1,h2]<;>omega
     have e2:a3x (.str s)=s.cps.toList.all okC:=by rw[a5y,decide_eq_true (show 1<=s.length by omega),decide_eq_true (show s.length<=8 by omega),fx,fx]
     refine c0C (by rw[e];exact a0d) ?_;rw[b6N,<- e2];exact q _ (Sm.new hD)
theorem a6v (F:Fns K a) (T:Txt K mg a):FnOk P w K mg base CX0 1 a.f1 a.d1 ["thing"] (lowP K a3F):=by
 refine fn3 F.n1 a6p (λws G R h=>(by exact b9s h)) (λcdv A outer s H E ws G R hr h=>?_);have hu:=a0T hr;refine⟨_,(a0l (z_if (QW.qt (q_or (a2t (a0w a7W rfl T.b_isinstance rfl (a0b (a0c (pv 0)) (a0b (q_ty (a23 (v:=.ty "bool") rfl T.b_bool rfl rfl)) a0g a0a) a0a) (he:=a0a) (hpl:=(a0m a0a a0j)))) (a7b (a1V (a2t (a0w a7W rfl T.b_isinstance rfl (a0b (a0c (pv 0)) (a0b (q_ty (a23 (v:=.ty "int") rfl T.b_int rfl rfl)) a0g a0a) a0a) (he:=a0a) (hpl:=(a0m a0a a0j))))))))
  (a0o (a0D q_bl))
  a1f)
  (a0o (a0D (b1A o_le o_le a0h (a0c (pv 0)) (b4M (a9U rfl T.c_LAST_MOMENT)))))),?_⟩
 obtain⟨x,rfl,hx,q⟩:=h;have no:momB x=false->R (.bl false) G:=λe=>by have:=q G (Sm.refl G);rw[e]at this;exact this
 symm;refine b9q hx ?_;symm;refine ifB (λc=>?_) λc=>?_
 ·symm;exact no (by cases x<;>first | rfl | cases c)
 ·symm;refine b9r hx ?_;symm;refine ifNB (λc2=>?_) λc2=>?_
  ·symm;exact no (by cases x<;>first | rfl | cases c2)
  ·obtain⟨i,rfl⟩:∃ i,x=.int i:=by cases x<;>first | exact⟨_,rfl⟩ | (cases c;done) | (cases c2;done)
   symm;refine ifD (λz=>?_) λz=>?_
   ·symm
    have:=q G (Sm.refl G)
    rw[a7w,decide_eq_true z,fx]at this;exact this
   ·exact no (by rw[a7w,decide_eq_false z];rfl)
theorem a56 (F:Fns K a) (T:Txt K mg a):FnOk P w K mg base CX0 2 a.f2 a.d2 ["begin","end"] (lowP K a55):=by
 have b:FnOk P w K mg base CX0 1 a.f1 a.d1 ["thing"] (lowP K a3F):=a6v F T;refine fn3 F.n2 a51 (λo G R h=>(by exact c1g h)) (λu A n s H E o G R l h=>?_);have v:=a0T l;refine⟨_,(a0l (z_if (a1V (a2t (a0y b (l.mono (by decide)) rfl T.m1 F.n1.kp (a3A F) (a0b (a0c (pv 0)) a0g a0a))))
  (a0o (a0D q_bl))
  a1f)
  (a0l (z_if (a0E o_is (a0c (pv 1)) a4c (a0B _))
  (a0o (a0D q_bl))
  a1f)
  (a0o (a0D (b4N (a0y b (l.mono (by decide)) rfl T.m1 F.n1.kp (a3A F) (a0b (a0c (pv 1)) a0g a0a)) (b51 (b0s o_lt (a0c (pv 0)) (a0c (pv 1)) (a0B _)))))))),?_⟩
 obtain⟨x,y,rfl,t,r,q⟩:=h;symm;refine⟨x,rfl,t,λC g=>?_⟩;have m:∀ d,Sm G d->strB x y=false->R (.bl false) d:=λd s e=>by have:=q d s;rw[e]at this;exact this
 symm;refine ifNB (λc=>?_) λc=>?_
 ·symm;exact m _ g (by unfold strB;rw[c];rfl)
 ·symm;refine ifD (λz=>?_) λz=>?_
  ·symm
   have:=q _ g
   unfold strB at this;rw[c,z]at this;exact this
  ·symm;refine⟨y,rfl,r.sm g,λB p=>?_⟩;have k:=g.trans p;symm;refine ifB (λf=>?_) λf=>?_
   ·obtain⟨i,rfl⟩:∃ i,x=.int i:=by cases x<;>first | exact⟨_,rfl⟩ | cases c
    obtain⟨j,rfl⟩:∃ j,y=.int j:=by cases y<;>first | exact⟨_,rfl⟩ | cases f
    symm
    have:=q _ k
    unfold strB at this;rw[c]at this;dsimp only at this;rw[f,fx,fx]at this;exact this
   ·refine m _ k ?_;unfold strB;rw[c,fx];cases y<;>first | rfl | exact absurd rfl z | (dsimp only;rw[f];rfl)
noncomputable def isL (c:Nat):Prop:=97<=c/\c<=122
noncomputable def nmOk (s:Str):Prop:=1<=s.cps.toList.length/\s.cps.toList.length<=8/\∀ c∈s.cps.toList,isL c
theorem a5m (s:Str):s.length=s.cps.toList.length:=by rw[fT];rfl
theorem a5z (h:∀ c∈s.cps.toList,isL c):PyData.strOk s=true:=by
 unfold PyData.strOk;rw[Array.all_eq_true_iff_forall_mem];intro c a
 have:=(h c (by simp_all)).2
 exact decide_eq_true (by omega)
theorem b6O (h:nmOk s):flat n (.str s)=true:=by
 have:=a5z h.2.2
 cases n<;>exact this
theorem b2L (h:nmOk s):Th G (.str s):=⟨by rw[a5m];have:=h.2.1;omega,a5z h.2.2⟩
theorem nm_b (h:nmOk s):a3x (.str s)=true:=by
 rw[a5y,decide_eq_true (by rw[a5m];exact h.1),decide_eq_true (by rw[a5m];exact h.2.1)];rw[fx,fx,fL];intro c b;obtain⟨a,d⟩:=h.2.2 c b;unfold okC;rw[decide_eq_true a,decide_eq_true d];rfl
noncomputable def T12:Int:=1000000000000
noncomputable def stOk (b:Int) (e:Option Int):Prop:=0<=b/\b<=T12/\∀ x,e=some x->b<x/\x<=T12
theorem stOk.bef (h:stOk b e):bef b e=true:=by
 cases e with
 | none=>rfl
 | some x=>simp only[Lw.bef,decide_eq_true_eq];exact (h.2.2 x rfl).1
theorem st_b (h:stOk b e):strB (.int b) (oz e)=true:=by
 obtain⟨c,g,a⟩:=h;unfold T12 at *;unfold strB;rw[a7w,decide_eq_true c,decide_eq_true g];cases e with
 | none=>rfl
 | some x=>
  obtain⟨f,d⟩:=a x rfl
  show (true&&(momB _&&decide _))=true
  rw[a7w,decide_eq_true (show 0<=x by omega),decide_eq_true d,decide_eq_true f];rfl
noncomputable def Plain (l:List Rw):Prop:=∀ r∈l,∃ x,r.w=[x]/\flat 0 x=true
theorem Plain.one (h:Plain l):One l:=λr a=>let ⟨x,e,_⟩:=h r a;⟨x,e⟩
theorem Plain.okR (h:Plain l):OkR l:=λr a=>by
 obtain⟨x,e,f⟩:=h r a;rw[e];exact b9p (a4v (by simp) f)
theorem Plain.nil:Plain []:=λr hr=>by simp at hr
theorem b2M (z:Z):wz (optW z)=z:=by
 unfold optW
 split
 ·next h=>rw[h];rfl
 ·rfl
theorem b2N (h:Plain L) (f:flat 0 z=true):Plain (a8v L b e (optW z)):=λr a=>by
 have m:Plain (a2Q L b e (optW z)):=λr a=>by
  rcases ei.mp a with a | a
  ·rcases ei.mp a with a | a
   ·obtain⟨j,i,_,rfl⟩:=a4u a;exact h j i
   ·unfold optW at a
    split at a
    ·next w e=>
           split at e
           ·cases e
           ·cases e;rw[et.mp a];exact⟨z,rfl,f⟩
    ·simp_all
  ·cases e with
   | none=>simp at a
   | some e=>
    obtain⟨j,i,_,rfl⟩:=a5w a;exact h j i
 have l:∀ d c,Plain c->Plain d->Plain (d.foldl jn c):=by
  intro d
  induction d with
  | nil=>exact λ_ h _=>h
  | cons p d ih=>
   intro c k g;refine ih _ (λr a=>?_) λr a=>g r (.tail _ a)
   have:=g p (.head _)
   unfold jn at a
   split at a
   ·split at a
    ·rcases ei.mp a with a | a
     ·exact k r (iQ _ a)
     ·simp_all
    ·rcases ei.mp a with a | a
     ·exact k r a
     ·simp_all
   ·simp_all
 exact l _ [] Plain.nil m r a
structure Tl where
 key:Str
 w:Option Str
 b:Int
 e:Option Int
abbrev sPut:Str:=Str.ofString "put"
abbrev b5h:Str:=Str.ofString "clear"
noncomputable def Tl.z (τ:Tl):Z:=match τ.w with
 | some w=>.tup [.str sPut,.str τ.key,.str w,.int τ.b,oz τ.e]
 | none=>.tup [.str b5h,.str τ.key,.int τ.b,oz τ.e]
noncomputable def Tl.v (τ:Tl):Z:=match τ.w with
 | some w=>.str w
 | none=>.non
structure Tl.Ok (τ:Tl):Prop where
 k:nmOk τ.key
 w:∀ s,τ.w=some s->nmOk s
 st:stOk τ.b τ.e
theorem Tl.Ok.v {τ:Tl}(h:τ.Ok):flat 0 τ.v=true:=by
 unfold Tl.v;cases e:τ.w with
 | none=>rfl
 | some w=>exact b6O (h.w w e)
noncomputable def Tl.rw (τ:Tl):Rw:=⟨τ.b,τ.e,[τ.v]⟩
noncomputable def a22 (T:List Tl) (k:Str):List Rw:=(T.filter fun τ=>decide (τ.key=k)).map Tl.rw
theorem a2h:a22 (T++[τ]) k=a22 T k++(if τ.key=k then [τ.rw] else []):=by
 unfold a22
 by_cases c:τ.key=k<;>simp[c]
noncomputable def OkT (T:List Tl):Prop:=∀ τ∈T,τ.Ok
structure IsLine (T:List Tl) (k:Str) (L:List Rw):Prop where
 can:Can L
 pl:Plain L
 len:L.length<=2*T.length
 v:∀ t,val L t=optW (a3E (a22 T k) t)
theorem IsLine.nil (h:a22 T k=[]):IsLine T k []:=⟨Can.nil,Plain.nil,by simp,λt=>by rw[h];rfl⟩
theorem IsLine.snoc (h:IsLine T τ.key L) (o:τ.Ok):IsLine (T++[τ]) τ.key (a8v L τ.b τ.e (optW τ.v)):=by
 have a:=b4j (w:=optW τ.v) h.can.rise o.st.bef;refine⟨a.1,b2N h.pl o.v,by have:=a.2.2;have:=h.len;simp;omega,λt=>?_⟩;rw[a2h,if_pos rfl,a54,a.2.1 t,h.v t]
 show _=optW (if (decide (τ.b<=t)&&bef t τ.e)=true then τ.v else a3E _ t)
 split<;>rfl
noncomputable def ixF (k:Str):Nat->List Tl->List Int
 | _,[]=>[]
 | n,τ::T=>(if τ.key=k then [(n:Int)+1] else [])++ixF k (n+1) T
noncomputable def ix (T:List Tl) (k:Str):List Int:=ixF k 0 T
theorem a90:∀ (n:Nat) (T:List Tl),ixF k n (T++[τ])=ixF k n T++(if τ.key=k then [(n+T.length:Int)+1] else [])
 | n,[]=>by simp[ixF]
 | n,σ::T=>by
  rw[gT,ixF,a90,ixF,eT]
  congr 2
  split
  ·congr 1;rw[eu];omega
  ·rfl
theorem a1R:ix (T++[τ]) k=ix T k++(if τ.key=k then [(T.length:Int)+1] else []):=by
 unfold ix;rw[a90];simp
theorem b2O:∀ {n:Nat}{T:List Tl}{i:Int},i∈ixF k n T->(n:Int)+1<=i/\i<=n+T.length
 | _,[],i,h=>by simp[ixF]at h
 | n,τ::T,i,h=>by
  rw[eu];rcases ei.mp h with h | h
  ·split at h
   ·rw[et.mp h];omega
   ·simp_all
  ·have:=b2O h;omega
theorem b6P (h:i∈ix T k):1<=i/\i<=T.length:=by
 have:=b2O h
 simpa using this
theorem b2P:∀ (n:Nat) (T:List Tl),(ixF k n T).length<=T.length
 | _,[]=>by simp[ixF]
 | n,τ::T=>by
  have:=b2P (k:=k) (n+1) T
  rw[ixF,eB,eu]
  split<;>simp<;>omega
theorem b2Q (T:List Tl) (k:Str):(ix T k).length<=T.length:=b2P 0 T
theorem a6X:∀ (n:Nat) (T:List Tl),(ixF k n T).Pairwise (·<·)
 | _,[]=>.nil
 | n,τ::T=>by
  refine eS.mpr ⟨by split<;>simp,a6X _ T,λx a y b=>?_⟩
  have:=b2O b
  split at a
  ·rw[et.mp a];omega
  ·grind
theorem a57 (T:List Tl) (k:Str):(ix T k).Pairwise (·<·):=a6X 0 T
theorem a5A:∀ (n:Nat) (T:List Tl) (s q:Nat),s<=q->(∀ i∈ixF k n T,(i:Int)<=n+s\/(n+q:Int)<i)->a22 (T.take q) k=a22 (T.take s) k
 | n,[],s,q,_,_=>by simp
 | n,τ::T,s,0,hs,_=>by grind
 | n,τ::T,0,q+1,hs,h=>by
  have d:¬ τ.key=k:=λe=>by
   have:=h (n+1) (by rw[ixF,if_pos e];simp)
   omega
  have a:=a5A (k:=k) (n+1) T 0 q (by omega) λi b=>by
   rcases h i (by rw[ixF];simp[b]) with c | c
   omega;omega
  rw[iR];unfold a22 at a ⊢;rw[fw,if_neg (by simpa using d),a];simp
 | n,τ::T,s+1,q+1,hs,h=>by
  have a:=a5A (k:=k) (n+1) T s q (by omega) λi b=>by
   rcases h i (by rw[ixF];simp[b]) with c | c
   ·left;omega
   omega
  rw[iR,iR];unfold a22 at a ⊢;rw[fw,fw]
  split
  ·grind
  ·exact a
theorem IsLine.cut {s q:Nat}(h:IsLine (T.take s) k L) (hs:s<=q) (hi:∀ i∈ix T k,i<=(s:Int)\/(q:Int)<i):IsLine (T.take q) k L:=by
 have e:=a5A 0 T s q hs λi h=>by have:=hi i h;simpa using this
 exact⟨h.can,h.pl,by have:=h.len;rw[eK]at this ⊢;omega,λt=>by rw[e];exact h.v t⟩
theorem a58 {q:Nat}(h:∀ i∈ix T k,(q:Int)<i):a22 (T.take q) k=[]:=by
 have:=a5A 0 T 0 q (fg _) λi a=>by right;have:=h i a;simpa using this
 rw[this];rfl
theorem b6Q (h:Rise l) (hr:r∈l) (ht:r.has t=true):val l t=some r.w:=by
 induction l with
 | nil=>simp at hr
 | cons s l ih=>
  rw[a0M];rcases eC.mp hr with rfl | hr
  ·rw[if_pos ht]
  ·rw[if_neg]
   ·exact ih h.tail hr
   ·intro z
    have:=(gU h.2 hr).has z
    rw[ht]at this;cases this
theorem b0M {T:List Tl}{k:Str}{t:Int}:a3E (a22 T k) t=.non\/∃ w,a3E (a22 T k) t=.str w:=by
 unfold a3E;cases e:(a22 T k).reverse.find? _ with
 | none=>exact .inl rfl
 | some r=>
  have:=iU e
  rw[List.mem_reverse]at this;obtain⟨τ,a,rfl⟩:=eq.mp this;unfold Tl.rw Tl.v;cases τ.w with
  | none=>exact .inl rfl
  | some w=>exact .inr ⟨w,rfl⟩
theorem a3t (h:IsLine T k L) (hr:r∈L):∃ w,r.w=[.str w]:=by
 have a:=b6Q h.can.rise hr (a8r (h.can.1 r hr));rw[h.v]at a;unfold optW at a
 split at a
 ·cases a
 ·next q=>
  rcases @b0M T k r.b with e | ⟨w,e⟩
  ·exact absurd e q
  ·rw[e]at a;injection a with a;exact⟨w,a.symm⟩
structure Ti where
 r:Rw
 s:Int
 u:Option Int
noncomputable def Ti.z (k:Str) (t:Ti):Z:=.tup [.str k,t.r.w.headD .non,.int t.r.b,oz t.r.e,.int t.s,oz t.u]
noncomputable def Ti.at_ (t:Ti) (q:Int):Bool:=decide (t.s<=q)&&bef q t.u
noncomputable def hasR (L:List Rw) (r:Rw):Bool:=L.any λx=>decide (x.z=r.z)
theorem hasR_iff:hasR L r=true↔r∈L:=by
 unfold hasR;rw[fX];exact⟨λ⟨x,h,e⟩=>Rw.z_inj (of_decide_eq_true e)▸h,λh=>⟨r,h,decide_eq_true rfl⟩⟩
theorem hasR_no:hasR L r=false↔r∉L:=by
 rw[<- hasR_iff,Bool.not_eq_true]
noncomputable def stR (ts:List Ti):List Rw:=(ts.filter (·.u.isNone)).map (·.r)
noncomputable def endR (L:List Rw) (n:Int) (t:Ti):Ti:=if (t.u.isNone&&!hasR L t.r)=true then ⟨t.r,t.s,some n⟩ else t
noncomputable def newR (n:Int) (r:Rw):Ti:=⟨r,n,none⟩
noncomputable def tOn (ts:List Ti) (L:List Rw) (n:Int):List Ti:=ts.map (endR L n)++(L.filter λr=>!hasR (stR ts) r).map (newR n)
noncomputable def a1F (ts:List Ti) (q:Int):List Rw:=(ts.filter (·.at_ q)).map (·.r)
theorem a8A:(endR L n t).r=t.r:=by unfold endR;split<;>rfl
theorem a8B:(endR L n t).s=t.s:=by unfold endR;split<;>rfl
theorem b4q:a1F (ts++us) q=a1F ts q++a1F us q:=by simp[a1F]
theorem b2R {α β:Type}{f:α->α}{g:α->β}{p p':α->Bool}:∀ {l:List α},(∀ t∈l,p (f t)=p' t)->(∀ t∈l,g (f t)=g t)->((l.map f).filter p).map g=(l.filter p').map g
 | [],_,_=>rfl
 | t::l,h1,h2=>by
  have a:=b2R (λt h=>h1 t (.tail _ h)) (λt h=>h2 t (.tail _ h));rw[eG,fw,fw,h1 t (.head _)]
  split
  ·simp_all
  ·omega
theorem b4r (h:q<n):a1F (tOn ts L n) q=a1F ts q:=by
 unfold tOn;rw[b4q];have b:a1F ((L.filter λr=>!hasR (stR ts) r).map (newR n)) q=[]:=by
  unfold a1F;rw[gX,iV];intro t a;obtain⟨r,_,rfl⟩:=eq.mp a;unfold Ti.at_ newR;rw[decide_eq_false (by grind)];simp
 rw[b,eR];refine b2R (λt _=>?_) λt _=>a8A;unfold Ti.at_;rw[a8B]
 congr 1
 unfold endR
 split
 ·next c=>
  rw[fE,Option.isNone_iff_eq_none]at c;rw[c.1];exact decide_eq_true h
 ·rfl
structure TsOk (ts:List Ti) (n:Int):Prop where
 s:∀ t∈ts,t.s<=n
 u:∀ t∈ts,∀ x,t.u=some x->x<=n
theorem a59 (h:TsOk ts n) (hq:n<=q):a1F ts q=stR ts:=by
 unfold a1F stR
 congr 1
 refine List.filter_congr λt a=>?_;unfold Ti.at_;rw[decide_eq_true (by have:=h.s t a;omega),fx];cases e:t.u with
 | none=>rfl
 | some x=>
  exact decide_eq_false (by have:=h.u t a x e;omega)
theorem c1h:stR (tOn ts L n)=(stR ts).filter (hasR L)++L.filter λr=>!hasR (stR ts) r:=by
 have f:stR (ts.map (endR L n))=(stR ts).filter (hasR L):=by
  unfold stR
  conv=>rhs;rw[List.filter_map,List.filter_filter]
  refine b2R (λt _=>?_) λt _=>a8A;unfold endR;cases e:t.u with
  | none=>cases c:hasR L t.r<;>simp[c,e]
  | some x=>simp[e]
 have g:∀ l:List Rw,stR (l.map (newR n))=l:=λl=>by
  unfold stR;rw[List.filter_eq_self.mpr (λt h=>by obtain⟨r,_,rfl⟩:=eq.mp h;rfl),eO];exact gC l
 have d:∀ a b:List Ti,stR _=stR a++stR b:=λa b=>by unfold stR;rw[jA,eD]
 unfold tOn;rw[d,f,g]
theorem b6R {S L:List Rw}(hS:S.Nodup) (hL:L.Nodup):(S.filter (hasR L)++L.filter λr=>!hasR S r).Perm L:=by
 refine (io ?_ hL).mpr λr=>?_
 ·refine fP.mpr ⟨hS.sublist fZ,hL.sublist fZ,λx b y f e=>?_⟩;subst e;have d:=(fb.mp b).1;have a:=(fb.mp f).2;rw[hasR_iff.mpr d]at a;cases a
 ·rw[ei,fb,fb,hasR_iff]
  constructor
  ·rintro (h | h)
   ·simp_all
   ·exact h.1
  ·intro h
   by_cases c:r∈S
   ·exact .inl ⟨c,h⟩
   ·exact .inr ⟨h,by rw[hasR_no.mpr c];rfl⟩
theorem c1i (h:TsOk ts m) (hm:m<=n):TsOk (tOn ts L n) n:=by
 refine⟨λt a=>?_,λt a x e=>?_⟩
 ·rcases ei.mp a with a | a
  ·obtain⟨c,b,rfl⟩:=eq.mp a;rw[a8B];have:=h.s c b;omega
  ·obtain⟨r,_,rfl⟩:=eq.mp a;exact fi _
 ·rcases ei.mp a with a | a
  ·obtain⟨c,b,rfl⟩:=eq.mp a;unfold endR at e
   split at e
   ·grind
   ·have:=h.u c b x e;omega
  ·obtain⟨r,_,rfl⟩:=eq.mp a;cases e
theorem b9u:(tOn ts L n).length<=ts.length+L.length:=by grind [tOn]
noncomputable def TF (es:List (Int×List Rw)):List Ti:=es.foldl (λts e=>tOn ts e.2 e.1) []
noncomputable def a1y (es:List (Int×List Rw)) (q:Int):List Rw:=match es.reverse.find? (λe=>decide (e.1<=q)) with
 | some e=>e.2
 | none=>[]
theorem a2d:TF (es++[e])=tOn (TF es) e.2 e.1:=by
 unfold TF;rw[jt];rfl
theorem a2J:a1y (es++[e]) q=if e.1<=q then e.2 else a1y es q:=by
 unfold a1y;rw[fW,gi,ij,fK]
 by_cases c:e.1<=q
 ·simp_all
 ·rw[decide_eq_false c,if_neg c]
theorem a6a (h:Can L):L.Nodup:=by
 have:=(fk.and_mem.mp h.2).imp λ{r s} ⟨a,_,q⟩=>q.lt.b (h.1 r a)
 exact this.imp λ{r s} q e=>by subst e;omega
theorem a3f {α:Type}{P:List α->Prop}(h0:P []) (h1:∀ l a,P l->P (l++[a])) (l:List α):P l:=by
 rw[<- List.reverse_reverse l]
 induction l.reverse with
 | nil=>exact h0
 | cons a l ih=>rw[gq];exact h1 _ _ ih
structure Run (es:List (Int×List Rw)) (n:Int):Prop where
 ok:TsOk (TF es) n
 p:∀ q,(a1F (TF es) q).Perm (a1y es q)
 c:∀ q,Can (a1y es q)
theorem b4s:∀ {es:List (Int×List Rw)}{n:Int},es.Pairwise (λa b=>a.1<b.1)->(∀ e∈es,e.1<=n)->(∀ e∈es,Can e.2)->Run es n:=by
 intro j
 induction j using a3f with
 | h0=>exact λ_ _ _=>⟨⟨λt h=>by simp[TF]at h,λt h=>by simp[TF]at h⟩,λq=>.refl _,λq=>Can.nil⟩
 | h1 j e ih=>
  intro n w v k;obtain⟨m,_,r⟩:=eS.mp w;have o:=λx f=>fy (r x f e (.head _));have R:=ih m o λx f=>k x (by simp[f]);have l:=k e (by simp);have g:=v e (by simp);have d:=c1i (L:=e.2) R.ok (fi e.1);refine⟨by rw[a2d];exact⟨λt i=>eY (d.s t i) g,λt i x f=>eY (d.u t i x f) g⟩,λq=>?_,λq=>?_⟩
  ·rw[a2d,a2J]
   by_cases c:e.1<=q
   ·rw[if_pos c,a59 d c,c1h];refine b6R ?_ (a6a l);rw[<- a59 R.ok (fi e.1)];exact (R.p e.1).nodup_iff.mpr (a6a (R.c e.1))
   ·rw[if_neg c,b4r (by omega)];exact R.p q
  ·rw[a2J]
   split
   ·omega
   ·exact R.c q
theorem b5i:∀ {es:List (Int×List Rw)}{m:Nat},(∀ e∈es,e.2.length<=m)->(TF es).length<=es.length*m:=by
 intro a
 induction a using a3f with
 | h0=>exact λ_=>by simp[TF]
 | h1 a e ih=>
  intro m h;have h1:=ih λx c=>h x (by simp[c]);have h2:=b9u (ts:=TF a) (L:=e.2) (n:=e.1);have h3:=h e (by simp);rw[a2d,eB,g8,ip,iq];omega
theorem b6S (hi:es.map (·.1)=ix T k) (hl:∀ e∈es,IsLine (T.take e.1.toNat) k e.2) (q:Nat):IsLine (T.take q) k (a1y es q):=by
 have b:es.reverse.Pairwise (λx y=>y.1<x.1):=by
  have:=a57 T k
  rw[<- hi]at this;rw[jB];exact eZ.mp this
 unfold a1y;cases e:es.reverse.find? _ with
 | none=>
  refine IsLine.nil (a58 λi h=>?_);rw[<- hi]at h;obtain⟨x,a,rfl⟩:=eq.mp h
  have:=ir.mp e x (by grind)
  simpa using this
 | some x=>
  obtain⟨g,r,s,o,n⟩:=List.find?_eq_some_iff_append.mp e;have a:x∈es:=by simp_all
  have g:=of_decide_eq_true g;refine (hl x a).cut (by omega) λj l=>?_;rw[<- hi]at l;obtain⟨y,m,rfl⟩:=eq.mp l;have d:y∈es.reverse:=by grind
  rw[o]at d b;rcases ei.mp d with c | c
  ·right
   have:=n y c
   simpa using this
  ·left
   rcases eC.mp c with rfl | c
   ·omega
   ·have:=gU (eS.mp b).2.1 c
    omega
theorem a6b {es:List (Int×List Rw)}(hi:es.map (·.1)=ix T k):es.Pairwise (λa b=>a.1<b.1):=by
 have:=a57 T k
 rw[<- hi]at this;exact eZ.mp this
noncomputable def rnK (r:Rw):List Key:=[.inl (some r.b),.inl r.e,match r.w with | [.str s]=>.inr s | _=>.inl none]
theorem b2S {r:Rw}(h:∃ w,r.w=[.str w]):.tup ((rnK r).map keyW)=r.z:=by
 obtain⟨w,h⟩:=h;unfold rnK Rw.z;rw[h];cases r.e<;>rfl
theorem c1j (h:∃ w,r.w=[.str w]):L3.tupZ (rnK r)=r.z:=by
 obtain⟨w,h⟩:=h;unfold L3.tupZ rnK Rw.z;rw[h];cases r.e<;>rfl
theorem b6T (h:∃ w,r.w=[.str w]) (h':∃ w,s.w=[.str w]) (e:rnK r=rnK s):r=s:=Rw.z_inj (by rw[<- b2S h,<- b2S h',e])
theorem a91:∀ x:List Tim.Pz,Tim.cmpT x x=true
 | []=>rfl
 | a::x=>by unfold Tim.cmpT;rw[if_pos rfl];exact a91 x
theorem b9v (h:Can L):∀ r∈L,∀ s∈L,Tim.cmpT (rnK r) (rnK s)=true:=λr a s f=>by
 have d:=(fk.and_mem.mp h.2).imp λ{r s} ⟨a,_,q⟩=>q.lt.b (h.1 r a)
 by_cases c:r=s
 ·rw[c];exact a91 _
 ·have g:=λe=>c ((fk.forall_of_forall_of_flip (R:=λr s=>r.b=s.b->r=s) (λx _ _=>rfl) (d.imp λ{r s} q e=>by omega) (d.imp λ{r s} q e=>by have:=e;omega)) a f e);unfold rnK Tim.cmpT;rw[if_neg (by simp_all)]
  rfl
theorem b2T:∀ {L M:List Rw},Can L->M.Perm L->(M.map rnK).Pairwise (λx y=>Tim.ltT y x=false)->M=L:=λ{L M} h p s=>by
 have c:=(fk.and_mem.mp h.2).imp λ{r s} ⟨m,_,q⟩=>q.lt.b (h.1 r m);have k:=p.nodup_iff.mpr (a6a h);have d:M.Pairwise λr s=>r.b<s.b:=by
  have g:=(eZ.mp s).and k;refine (fk.and_mem.mp g).imp λ{x y} ⟨i,l,q,j⟩=>?_;have f:x.b≠y.b:=λe=>j ((fk.forall_of_forall_of_flip (R:=λr s=>r.b=s.b->r=s) (λx _ _=>rfl) (c.imp λ{r s} q e=>by omega) (c.imp λ{r s} q e=>by have:=e;omega)) (p.mem_iff.mp i) (p.mem_iff.mp l) e);unfold rnK Tim.ltT at q;rw[if_neg (by simpa using Ne.symm f)]at q
  have:=q
  have:=of_decide_eq_false this
  omega
 exact p.eq_of_pairwise (λa b _ _ n o=>by omega) d c
abbrev a9e:Str:=Str.ofString "last"
abbrev b2U:Str:=Str.ofString "kept"
noncomputable def shF (n:Int) (d:Addr):List (Str×Z):=[(a9e,.int n),(b2U,.ref d)]
theorem c1s:¬ (a9e=b2U):=by decide +kernel
theorem b6U:putQ b2U (.ref d) [(a9e,.int n)]=shF n d:=by
 rfl
theorem b6V:putQ a9e (.int m) (shF n d)=shF m d:=rfl
theorem a3g:(shF n d).lookup a9e=some (.int n):=rfl
theorem a3h:(shF n d).lookup b2U=some (.ref d):=rfl
theorem a2K (h1:(m==a9e)=false) (h2:(m==b2U)=false):(shF n d).lookup m=none:=by
 unfold shF;rw[fD,h1,fD,h2];rfl
abbrev enZ (e:Int×Addr):Z:=.tup [.int e.1,.ref e.2]
structure Hist (G:Hq) (S:Addr->Prop) (T:List Tl) (k:Str) (h:Addr) (es:List (Int×Addr)):Prop where
 s:S h
 at_:G h=some (.lst (es.map enZ))
 ix:es.map (·.1)=ix T k
 ne:es≠[]
 ln:∀ e∈es,S e.2/\∃ L,G e.2=some (.lst (L.map Rw.z))/\IsLine (T.take e.1.toNat) k L
structure Tils (G:Hq) (S:Addr->Prop) (T:List Tl) (k:Str) (h:Addr) (es:List (Int×List Rw)):Prop where
 s:S h
 at_:G h=some (.lst ((TF es).map (Ti.z k)))
 ix:es.map (·.1)=ix T k
 ne:es≠[]
 ln:∀ e∈es,IsLine (T.take e.1.toNat) k e.2
noncomputable def Rec (b:Bool) (G:Hq) (S:Addr->Prop) (T:List Tl) (k:Str) (h:Addr):Prop:=cond b (∃ es,Tils G S T k h es) (∃ es,Hist G S T k h es)
theorem Rec.keepL (H:Rec b G S T k h) (q:∀ x ws,S x->G x=some (.lst ws)->G' x=some (.lst ws)):Rec b G' S T k h:=by
 cases b with
 | false=>
  obtain⟨d,H⟩:=H;exact⟨d,H.s,q _ _ H.s H.at_,H.ix,H.ne,λe f=>let ⟨s,L,a,c⟩:=H.ln e f;⟨s,L,q _ _ s a,c⟩⟩
 | true=>
  obtain⟨d,H⟩:=H;exact⟨d,H.s,q _ _ H.s H.at_,H.ix,H.ne,H.ln⟩
theorem Rec.at_ (H:Rec b G S T k h):S h/\∃ ws,G h=some (.lst ws):=by
 cases b with
 | false=>obtain⟨a,H⟩:=H;exact⟨H.s,_,H.at_⟩
 | true=>obtain⟨a,H⟩:=H;exact⟨H.s,_,H.at_⟩
structure ShM (a:Ad) (b:Bool) (G:Hq) (p:Addr) (S:Addr->Prop) (T:List Tl) (n:Int) (dx d:Addr) (kvs:List (Key×Z)):Prop where
 ob:G p=some (.ins (a.cK b) dx (shF n d))
 sp:S p
 sd:S d
 dc:G d=some (.dK kvs)
 len:kvs.length<=T.length
 no:∀ k,valZ kvs (.inr k)=none->ix T k=[]
 hs:∀ k z,valZ kvs (.inr k)=some z->∃ h,z=.ref h/\Rec b G S T k h
 inj:∀ k k' z,valZ kvs (.inr k)=some z->valZ kvs (.inr k')=some z->k=k'
 al:∀ b,S b->∃ o,G b=some o
 nd:(kvs.map (·.1)).Nodup
 sk:∀ q∈kvs,∃ s,q.1=Sum.inr s
noncomputable def Sheet (a:Ad) (b:Bool) (G:Hq) (p:Addr) (S:Addr->Prop) (T:List Tl):Prop:=∃ dx d kvs,ShM a b G p S T T.length dx d kvs
noncomputable def KS (S:Addr->Prop) (G G':Hq):Prop:=∀ b o,S b->G b=some o->G' b=some o
noncomputable def KN (S:Addr->Prop) (G G':Hq):Prop:=∀ b o,¬ S b->G b=some o->G' b=some o
theorem Sm.ks (s:Sm G G'):KS S G G':=λb o _ e=>s b o e
theorem Sm.kn (s:Sm G G'):KN S G G':=λb o _ e=>s b o e
theorem KN.trans (a:KN S G G1) (b:KN S G1 G2):KN S G G2:=λc o n e=>b c o n (a c o n e)
theorem ShM.keep {a:Ad}{b:Bool}{G G':Hq}{p:Addr}{S:Addr->Prop}{T:List Tl}{n:Int}{dx d:Addr}{kvs:List (Key×Z)}(H:ShM a b G p S T n dx d kvs) (q:KS S G G'):ShM a b G' p S T n dx d kvs:=
 ⟨q _ _ H.sp H.ob,H.sp,H.sd,q _ _ H.sd H.dc,H.len,H.no,λk z e=>let ⟨h,c,g⟩:=H.hs k z e;⟨h,c,g.keepL λx ws s e=>q x _ s e⟩,H.inj,(λb hb=>let ⟨o,e⟩:=H.al b hb;⟨o,q b o hb e⟩),H.nd,H.sk⟩
theorem Sheet.keep {a:Ad}{b:Bool}{G G':Hq}{p:Addr}{S:Addr->Prop}{T:List Tl}(H:Sheet a b G p S T) (q:KS S G G'):Sheet a b G' p S T:=let ⟨dx,d,kvs,h⟩:=H;⟨dx,d,kvs,h.keep q⟩
structure ShV (a:Ad) (b:Bool) (G:Hq) (p:Addr) (S:Addr->Prop) (T:List Tl) (n:Int) (dx d:Addr) (kvs:List (Key×Z)):Prop where
 ob:G p=some (.ins (a.cK b) dx (shF n d))
 sp:S p
 sd:S d
 dc:G d=some (.dK kvs)\/G d=some (.dF kvs)
 len:kvs.length<=T.length
 no:∀ k,valZ kvs (.inr k)=none->ix T k=[]
 hs:∀ k z,valZ kvs (.inr k)=some z->∃ h,z=.ref h/\Rec b G S T k h
 al:∀ b,S b->∃ o,G b=some o
 nd:(kvs.map (·.1)).Nodup
 sk:∀ q∈kvs,∃ s,q.1=Sum.inr s
theorem ShM.v {a:Ad}{b:Bool}{G:Hq}{p:Addr}{S:Addr->Prop}{T:List Tl}{n:Int}{dx d:Addr}{kvs:List (Key×Z)}(H:ShM a b G p S T n dx d kvs):ShV a b G p S T n dx d kvs:=⟨H.ob,H.sp,H.sd,.inl H.dc,H.len,H.no,H.hs,H.al,H.nd,H.sk⟩
theorem ShV.keep {a:Ad}{b:Bool}{G G':Hq}{p:Addr}{S:Addr->Prop}{T:List Tl}{n:Int}{dx d:Addr}{kvs:List (Key×Z)}(H:ShV a b G p S T n dx d kvs) (q:KS S G G'):ShV a b G' p S T n dx d kvs:=
 ⟨q _ _ H.sp H.ob,H.sp,H.sd,H.dc.imp (q _ _ H.sd) (q _ _ H.sd),H.len,H.no,λk z e=>let ⟨h,c,g⟩:=H.hs k z e;⟨h,c,g.keepL λx ws s e=>q x _ s e⟩,(λb hb=>let ⟨o,e⟩:=H.al b hb;⟨o,q b o hb e⟩),H.nd,H.sk⟩
noncomputable def SheetV (a:Ad) (b:Bool) (G:Hq) (p:Addr) (S:Addr->Prop) (T:List Tl):Prop:=∃ dx d kvs,ShV a b G p S T T.length dx d kvs
theorem Sheet.v {a:Ad}{b:Bool}{G:Hq}{p:Addr}{S:Addr->Prop}{T:List Tl}(H:Sheet a b G p S T):SheetV a b G p S T:=let ⟨dx,d,kvs,h⟩:=H;⟨dx,d,kvs,h.v⟩
theorem SheetV.keep {a:Ad}{b:Bool}{G G':Hq}{p:Addr}{S:Addr->Prop}{T:List Tl}(H:SheetV a b G p S T) (q:KS S G G'):SheetV a b G' p S T:=let ⟨dx,d,kvs,h⟩:=H;⟨dx,d,kvs,h.keep q⟩
theorem b6W (h:t σ G λws G1=>sp ws G1 R EE):b49 sp EE t σ G R:=h
theorem b6X (h:te σ G λ_ G1=>EE C G1):b5a EE C te nx rt bk ct σ G:=h
theorem b6Y (h:to σ G λx G1=>∃ q dx fs,x=.ref q/\G1 q=some (.ins C dx fs)/\fs.lookup m=none/\t σ G1 λws G2=>sp (.ref q::ws) G2 R EE):b5b C m sp EE to t σ G R:=h
local macro_rules | `(tactic| walk_at "go1")=>`(tactic| with_reducible (first | refine b6W ?_ | refine b6X ?_ | refine b6Y ?_ | refine i_tryM ?_))
noncomputable def a1S (a:Ad):PX3:=λws G R EE=>∃ x,ws=[x]/\Th G x/\∀ G',Sm G G'->if a3x x=true then R .non G' else EE a.x_NoName G'
theorem a5n {a:Ad}{ws:List Z}{G:Hq}{R:K3}{EE:Addr->Hq->Prop}(h:a1S a ws G R EE):ws.length=1:=by obtain⟨_,rfl,_⟩:=h;rfl
theorem a3i (F:Fns K a) (T:Txt K mg a):FnOk P w K mg base (CXx P w) 2 a.f4 a.d4 ["thing"] (a4P K (a1S a)):=by
 have b:FnOk P w K mg base CX0 1 a.f0 a.d0 ["thing"] _:=a8z F T;refine fn3x F.n4 a52 (λg G R m h=>(by exact a5n h)) (λn A f s H E g G R m e h j=>?_);refine⟨_,(a0o (z_if (a1V (a2t (a0y b (e.mono (by decide)) rfl T.m0 F.n0.kp (a8o F) (a0b (a0c (pv 0)) a0g a0a))))
  (a0o (a81 Outs.of j rfl rfl T.x_NoName T.xi_NoName a5b a0f a0j))
  a1f)),?_⟩
 obtain⟨x,rfl,k,q⟩:=h;symm;refine⟨_,rfl,k,λl i=>?_⟩;have d:=q l i;symm;refine ifNB (λc=>?_) λc=>?_
 ·rw[c]at d;exact d
 ·rw[c]at d;symm;exact d
noncomputable def a10 (a:Ad):PX3:=λws G R EE=>∃ x y,ws=[x,y]/\Th G x/\Th G y/\∀ G',Sm G G'->if strB x y=true then R .non G' else EE a.x_NoStretch G'
theorem a34 {a:Ad}{ws:List Z}{G:Hq}{R:K3}{EE:Addr->Hq->Prop}(h:a10 a ws G R EE):ws.length=2:=by obtain⟨_,_,rfl,_⟩:=h;rfl
theorem a4x (F:Fns K a) (T:Txt K mg a):FnOk P w K mg base (CXx P w) 3 a.f5 a.d5 ["begin","end"] (a4P K (a10 a)):=by
 have b:FnOk P w K mg base CX0 2 a.f2 a.d2 ["begin","end"] _:=a56 F T;refine fn3x F.n5 a4j (λk G R j h=>(by exact a34 h)) (λo A f s H E k G R j e h n=>?_);have p:=a0T e;refine⟨_,(a0o (z_if (a1V (a2t (a0y b (e.mono (by decide)) rfl T.m2 F.n2.kp (a53 F) (a0b (a0c (pv 0)) (a0b (a0c (pv 1)) a0g a0a) a0a))))
  (a0o (a81 Outs.of n rfl rfl T.x_NoStretch T.xi_NoStretch a5b a0f a0j))
  a1f)),?_⟩
 obtain⟨x,y,rfl,m,i,q⟩:=h;symm;refine⟨_,_,rfl,m,i,λg l=>?_⟩;have d:=q g l;symm;refine ifNB (λc=>?_) λc=>?_
 ·rw[c]at d;symm;exact d
 ·rw[c]at d;symm;exact d
structure Tel (G:Hq) (z:Z) (h:Z) (nm:List Z) (x y:Z):Prop where
 e:z=.tup (h::(nm++[x,y]))
 l:(∃ k,nm=[k])\/∃ k w,nm=[k,w]
 n:∀ z∈nm,Th G z
 x:Th G x
 y:Th G y
theorem Tel.sm {x y:Z}(T:Tel G z h nm x y) (s:Sm G G'):Tel G' z h nm x y:=⟨T.e,T.l,λz a=>(T.n z a).sm s,T.x.sm s,T.y.sm s⟩
noncomputable def a11 (a:Ad):PX3:=λws G R EE=>Ex5 λ(z h:Z) (nm:List Z) (x y:Z)=>ws=[z]/\Tel G z h nm x y/\∀ G',Sm G G'->if nm.all a3x=true then (if strB x y=true then R .non G' else EE a.x_NoStretch G') else EE a.x_NoName G'
theorem a35 {a:Ad}{ws:List Z}{G:Hq}{R:K3}{EE:Addr->Hq->Prop}(h:a11 a ws G R EE):ws.length=1:=by obtain⟨_,_,_,_,_,rfl,_⟩:=h;rfl
theorem c1k:cutZ [h,k,x,y] (some 1) (some (-2))=[k]:=rfl
theorem c1l {h k w x y:Z}:cutZ [h,k,w,x,y] (some 1) (some (-2))=[k,w]:=rfl
theorem a8C {l:List Z}(h:x∈l) (c:f x=false):l.all f=false:=List.all_eq_false.mpr ⟨x,h,by rw[c];decide⟩
theorem a92 {l:List Z}(h:(l.take i).all f=true) (e:l[i]?=some x) (c:f x=true):(l.take (i+1)).all f=true:=by
 rw[fN,List.all_append,h,e]
 show (true&&([x].all f))=true
 rw[fM,c];rfl
theorem a4y (F:Fns K a) (T:Txt K mg a):FnOk P w K mg base (CXx P w) 4 a.f11 a.d11 ["telling"] (a4P K (a11 a)):=by
 have G_p_check_stretch:=a4x (P:=P) (w:=w) (base:=base) F T;have G_p_check_name:=a3i (P:=P) (w:=w) (base:=base) F T;refine fn3x F.n11 sc_p_check_telling (λws G R EE h=>(by exact a35 h)) (λcdv A outer s H E ws G R EE hr h ux=>?_);have hu:=a0T hr;refine⟨_,(a0l (a26 (pt:=(.nm 1)) j0.leaving rfl (b4Q (a14 x_sl (a0c (pv 0)) (a2O a0h) (a2O (q_un a5N a0h)))) (show QP _ _ (.nm 1) from (a0n (i:=1) sc_p_check_telling.nd rfl (ee rfl)))
  (a0o (a05 (a5T (a2p Outs.of) ux.since G_p_check_name (hr.mono (by decide)) rfl T.m4 F.n4.kp (a3c F) (a0b (a0c (pv 1)) a0g a0a) (he:=a0a) (hpl:=a0j)))))
  (a0o (a05 (a5T (a2p Outs.of) ux.since G_p_check_stretch (hr.mono (by decide)) rfl T.m5 F.n5.kp (a4m F) (a0b (q_ix x_ix (a0c (pv 0)) (q_un a5N a0h) (λ_ _=>rfl)) (a0b (q_ix x_ix (a0c (pv 0)) (q_un a5N a0h) (λ_ _=>rfl)) a0g a0i) a0i) (he:=a0i) (hpl:=(a0m a0i a0j)))))),?_⟩
 obtain⟨z,h,nm,x,y,rfl,⟨rfl,hl,hn,hx,hy⟩,q⟩:=h;rcases hl with ⟨k,rfl⟩ | ⟨k,w,rfl⟩
 ·show uSeq _ _ _ _ _ _ (a46 _ [.tup [h,k,x,y]]) _
  symm;refine b10 (show ¬ (HT.sIx 4 0 (some 1)=0/\HT.sIx 4 4 (some (-2))=4) by decide) ?_;rw[c1k];symm;refine a08 (λi σ G'=>∃ v:Option Z,Sm G G'/\(([k]:List Z).take i).all a3x=true/\σ=[some (.tup [h,k,x,y]),v]) ⟨_,Sm.refl _,rfl,rfl⟩ (λ_ _ _ _ _=>True.intro) ?_ ?_
  ·rintro i u σ G' hu ⟨v,s,ha,rfl⟩;have hm:=eP hu;refine⟨_,rfl,?_⟩;symm;refine⟨u,rfl,(hn u hm).sm s,λG1 s1=>?_⟩;have q':=q G1 (s.trans s1);refine ifB (λc=>?_) λc=>?_
   ·symm;exact⟨_,s.trans s1,a92 ha hu c,rfl⟩
   ·rw[a8C hm c]at q';exact q'
  ·rintro σ G' ⟨v,s,ha,rfl⟩;have ha:([k]:List Z).all a3x=true:=ha;symm;refine⟨x,y,rfl,hx.sm s,hy.sm s,λG1 s1=>?_⟩;have q':=q G1 (s.trans s1);rw[ha]at q';refine ifB (λc=>?_) λc=>?_
   ·rw[c]at q';symm;exact q'
   ·rw[c]at q';exact q'
 ·show uSeq _ _ _ _ _ _ (a46 _ [.tup [h,k,w,x,y]]) _
  symm;refine b10 (show ¬ (HT.sIx 5 0 (some 1)=0/\HT.sIx 5 5 (some (-2))=5) by decide) ?_;rw[c1l];symm;refine a08 (λi σ G'=>∃ v:Option Z,Sm G G'/\(([k,w]:List Z).take i).all a3x=true/\σ=[some (.tup [h,k,w,x,y]),v]) ⟨_,Sm.refl _,rfl,rfl⟩ (λ_ _ _ _ _=>True.intro) ?_ ?_
  ·rintro i u σ G' hu ⟨v,s,ha,rfl⟩;have hm:=eP hu;refine⟨_,rfl,?_⟩;symm;refine⟨u,rfl,(hn u hm).sm s,λG1 s1=>?_⟩;have q':=q G1 (s.trans s1);refine ifB (λc=>?_) λc=>?_
   ·symm;exact⟨_,s.trans s1,a92 ha hu c,rfl⟩
   ·rw[a8C hm c]at q';exact q'
  ·rintro σ G' ⟨v,s,ha,rfl⟩;have ha:([k,w]:List Z).all a3x=true:=ha;symm;refine⟨x,y,rfl,hx.sm s,hy.sm s,λG1 s1=>?_⟩;have q':=q G1 (s.trans s1);rw[ha]at q';refine ifB (λc=>?_) λc=>?_
   ·rw[c]at q';symm;exact q'
   ·rw[c]at q';exact q'
noncomputable def a1T (a:Ad):PX3:=λws G R EE=>∃ q n:Int,ws=[.int q,.int n]/\if 0<=q/\q<=n then R .non G else EE a.x_NoKnowing G
theorem a3y {a:Ad}{ws:List Z}{G:Hq}{R:K3}{EE:Addr->Hq->Prop}(h:a1T a ws G R EE):ws.length=2:=by obtain⟨_,_,rfl,_⟩:=h;rfl
theorem a36 (F:Fns K a) (T:Txt K mg a):FnOk P w K mg base (CXx P w) 1 a.f6 a.d6 ["knowing","last"] (a4P K (a1T a)):=by
 refine fn3x F.n6 a3X (λg G R e h=>(by exact a3y h)) (λj A b s H E g G R e f h d=>?_);have l:=a0T f;refine⟨_,(a0o (z_if (QW.qt (q_or (a0E o_lt (a0c (pv 0)) a0h (a0B _)) (a7b (a0E o_gt (a0c (pv 0)) (a0c (pv 1)) (a0B _)))))
  (a0o (a81 Outs.of d rfl rfl T.x_NoKnowing T.xi_NoKnowing a5b a0f a0j))
  a1f)),?_⟩
 obtain⟨q,n,rfl,k⟩:=h;symm;refine ifD (λc=>?_) λc=>?_
 ·rw[if_neg (by omega)]at k;symm;exact k
 ·symm;refine ifD (λi=>?_) λi=>?_
  ·rw[if_neg (by omega)]at k;symm;exact k
  ·rw[if_pos (by omega)]at k;symm;exact k
noncomputable def a2S:P3:=λws G R=>∃ (l:Addr) (L:List Rw) (τ:Tl),ws=[.ref l,τ.z]/\G l=some (.lst (L.map Rw.z))/\Rise L/\Plain L/\L.length<=400/\τ.Ok /\
 ∀ t G',G t=none->Sm G G'->G' t=some (.lst ((a8v L τ.b τ.e (optW τ.v)).map Rw.z))->R (.ref t) G'
theorem a40 (h:a2S ws G R):ws.length=2:=by obtain⟨_,_,_,rfl,_⟩:=h;rfl
theorem c1m:¬ (b5h=sPut):=by decide +kernel
theorem a5o (F:Fns K a) (T:Txt K mg a):FnOk P w K mg base CX0 4 a.f12 a.d12 ["line","telling"] (lowP K a2S):=by
 have d:FnOk P w K mg base CX0 3 a.f10 a.d10 ["line","begin","end","worth"] (lowP K a33):=a9d F T;refine fn3 F.n12 sc_p_line_behind (λp G R h=>(by exact a40 h)) (λu A n s H E p G R f h=>?_);have o:=a0T f;refine⟨_,(a0l (a02 (i:=2) sc_p_line_behind.nd rfl (ee rfl) (q_if (a0E (o_eq o) (q_ix x_ix (a0c (pv 1)) a0h (λ_ _=>rfl)) a5b (a0B _)) (q_ix x_ix (a0c (pv 1)) a0h (λ_ _=>rfl)) a4c))
  (a0o (a0D (a0y d (f.mono (by decide)) rfl T.m10 F.n10.kp (a87 F) (a0b (a0c (pv 0)) (a0b (q_ix x_ix (a0c (pv 1)) (q_un a5N a0h) (λ_ _=>rfl)) (a0b (q_ix x_ix (a0c (pv 1)) (q_un a5N a0h) (λ_ _=>rfl)) (a0b (a0c (pv 2)) a0g a0a) a0i) a0i) a0a))))),?_⟩
 obtain⟨l,L,⟨t,w,b,e⟩,rfl,j,f,g,x,k,q⟩:=h;have m:=k.st.bef;have r:=k.v;cases w with
 | none=>
  unfold Tl.z;symm;refine ifD (λc=>absurd c c1m) λ_=>?_;symm;exact⟨l,L,b,e,.non,rfl,j,f,g.okR,g.one,by omega,m,rfl,q⟩
 | some w=>
  unfold Tl.z;symm;refine ifD (λ_=>?_) λc=>absurd rfl c;symm;exact⟨l,L,b,e,.str w,rfl,j,f,g.okR,g.one,by omega,m,a4v (by decide) r,q⟩
noncomputable def a2i (a:Ad):P3:=λws G R=>∃ b p dx,ws=[.ref p]/\G p=some (.ins (a.cK b) dx [])/\∀ d G',G d=none->(∀ b o,G b=some o->b≠p->G' b=some o)->Sheet a b G' p (λx=>x=p\/x=d) []->R .non G'
theorem a4z {a:Ad}{ws:List Z}{G:Hq}{R:K3}(h:a2i a ws G R):ws.length=1:=by obtain⟨_,_,_,rfl,_⟩:=h;rfl
theorem a41 (F:Fns K a) (T:Txt K mg a):FnOk P w K mg base CX0 1 a.f37 a.d37 ["self"] (lowP K (a2i a)):=by
 refine fn3 F.n37 a4V (λt G R h=>(by exact a4z h)) (λu A l s H E t G R n h=>?_);have x:=a0T n;obtain⟨b,h⟩:=h;refine⟨_,(a0l (b8S (clK T b) (a3s T b) (a0c (pv 0)) a0h)
  (a0o (b8S (clK T b) (a9T T b) (a0c (pv 0)) b4U))),?_⟩
 obtain⟨p,g,rfl,m,q⟩:=h;symm;refine⟨p,g,[],rfl,m,by decide,?_⟩;symm;intro d i;have c:p≠d:=a0u a0d i;symm;refine⟨p,g,[(a9e,.int 0)],rfl,by rw[a0x c];exact a0d,by decide,?_⟩;rw[b6U];symm;have f:G d=none:=by rw[a0x (Ne.symm c)]at i;exact i
 refine q d _ f (λb o e j=>?_) ⟨g,d,[],⟨a0d,.inl rfl,.inr rfl,?_,by simp,λk _=>rfl,(λk z e=>by cases e),(λk v z e=>by cases e),?_,.nil,λq r=>by simp at r⟩⟩
 ·rw[a0x j,a0x (a0u e f),a0x j];exact e
 ·rw[a0x (Ne.symm c)];exact a0d
 ·rintro b (rfl | rfl)
  ·exact⟨_,a0d⟩
  ·exact⟨_,by rw[a0x (Ne.symm c)];exact a0d⟩
noncomputable def a0V (a:Ad):PX3:=λws G R EE=>∃ b:Bool,Ex4 λ(p:Addr) (S:Addr->Prop) (T:List Tl) (q:Int)=>ws=[.ref p,.int q]/\SheetV a b G p S T/\if 0<=q/\q<=T.length then R .non G else EE a.x_NoKnowing G
theorem a2L {a:Ad}{ws:List Z}{G:Hq}{R:K3}{EE:Addr->Hq->Prop}(h:a0V a ws G R EE):ws.length=2:=by obtain⟨_,_,_,_,_,rfl,_⟩:=h;rfl
theorem a1h (F:Fns K a) (T:Txt K mg a):FnOk P w K mg base (CXx P w) 2 a.f14 a.d14 ["self","knowing"] (a4P K (a0V a)):=by
 have e:FnOk P w K mg base (CXx P w) 1 a.f6 a.d6 ["knowing","last"] _:=a36 F T;refine fn3x F.n14 a2Z (λj G R n h=>(by exact a2L h)) (λr A g s H E j G R n f h l=>?_);have t:=a0T f;obtain⟨b,h⟩:=h;refine⟨_,(a0o (a05 (a5T (a2p Outs.of) l.since e (f.mono (by decide)) rfl T.m6 F.n6.kp (a3Z F) (a0b (a0c (pv 1)) (a0b (a4i (clK T b) (a3s T b) (a0c (pv 0))) a0g a0Y) a0a)))),?_⟩;obtain⟨p,S,T',q,rfl,⟨i,d,o,m⟩,k⟩:=h;symm;refine⟨p,i,_,_,rfl,m.ob,a3g,?_⟩;symm;refine⟨q,_,rfl,?_⟩
 by_cases c:0<=q/\q<=T'.length
 ·omega
 ·omega
noncomputable def a1u (a:Ad) (b:Bool):P3:=λws G R=>Ex9 λ(p:Addr) (S:Addr->Prop) (T:List Tl) (k:Str) (q:Int) (n:Int) (dx d:Addr) (kvs:List (Key×Z))=>ws=[.ref p,.str k,.int q]/\ShV a b G p S T n dx d kvs/\0<=q/\q<=T.length/\T.length<=200 /\
 ∀ t L G',G t=none->Sm G G'->G' t=some (.lst (L.map Rw.z))->IsLine (T.take q.toNat) k L->R (.ref t) G'
theorem a3j {a:Ad}{b:Bool}{ws:List Z}{G:Hq}{R:K3}(h:a1u a b ws G R):ws.length=3:=by obtain⟨_,_,_,_,_,_,_,_,_,rfl,_⟩:=h;rfl
abbrev a37 (a:Ad):P3:=a1u a false
abbrev a38 (a:Ad):P3:=a1u a true
theorem b6Z (l:List Rw):l.filterMap (λr=>some r)=l:=by simp
theorem a39 (F:Fns K a) (T:Txt K mg a):FnOk P w K mg base CX0 3 a.f15 a.d15 ["self","key","knowing"] (lowP K (a37 a)):=by
 refine fn3 F.n15 sc_Sheet_known_line (λws G R h=>(by exact a3j h)) (λcdv A outer s H E ws G R hr h=>?_);have hu:=a0T hr;refine⟨_,(a0l (a26 (pt:=(.tp [3,4])) j0.never rfl (a8Z rfl T.b_reversed (a0b (q_bm PySem.F.plainAttrs_dict PySem.F.slot_dict_get PySem.F.type_dict_get (b2k hu) (a4i T.cl_Sheet T.na_kept (a0c (pv 0))) (a0b (a0c (pv 1)) (a0b (a15 a0g) a0g a4N) a0a)) a0g a0I)) (show QP _ _ (.tp [3,4]) from (a5D rfl (a0z (a0n (i:=3) sc_Sheet_known_line.nd rfl (ee rfl)) (a0z (a0n (i:=4) sc_Sheet_known_line.nd rfl (ee rfl)) a3L))))
  (a0o (z_if (a0E o_le (a0c (pv 3)) (a0c (pv 2)) (a0B _))
  (a0o (a0D (q_lc (N₀:=["self","key","knowing","since","line"]) (so:=a0e a0W) (N':=["begin","end","worth"]) (cap:=[none,none,none]) (pt:=(.tp [0,1,2])) rfl rfl rfl (by decide +kernel) rfl (a0L (a0c (pv 4))) (λ_ _ _ _=>(show QP _ _ (.tp [0,1,2]) from (a5D rfl (a0z (a0n (i:=0) b6E rfl (ee rfl)) (a0z (a0n (i:=1) b6E rfl (ee rfl)) (a0z (a0n (i:=2) b6E rfl (ee rfl)) a3L)))))) (λ_ _ _ _=>a2v) (λ_ _ _ _=>(a2Y (a0b (a0c (pv 0)) (a0b (a0c (pv 1)) (a0b (a0c (pv 2)) a0g a0a) a0a) a0a))))))
  a1f)))
  (a0o (a0D (a15 a0g)))),?_⟩
 obtain⟨p,S,T,k,q,n,dx,d,kvs,rfl,sh,h0,h1,hT,fin⟩:=h;obtain⟨q,rfl⟩:=gm h0;symm;refine⟨p,dx,_,_,rfl,sh.ob,a3h,?_⟩;refine b82 sh.dc ?_;symm;refine⟨lenK rfl,λt0 ht0=>?_⟩;symm;refine b2l (sh.dc.imp (λe=>a0k e ht0) λe=>a0k e ht0) rfl ?_;have s0:Sm G (put G t0 (.lst [])):=Sm.new ht0;have none_:(∀ i∈ix T k,(q:Int)<i)->∀ (v1 v2:Option Z) (G1:Hq),Sm G G1->∀ t,G1 t=none->R (.ref t) (put G1 t (.lst [])):=λhi _ _ G1 s1 t ht=>
  fin t [] _ (s1.free ht) (s1.trans (Sm.new ht)) a0d (by
   have e:((q:Int)).toNat=q:=by omega
   rw[e];exact IsLine.nil (a58 hi))
 cases hv:valZ kvs (.inr k) with
 | none=>
  symm;refine⟨t0,[],rfl,a0d,?_⟩;refine a08 (λi σ G'=>∃ v1 v2:Option Z,σ=[some (.ref p),some (.str k),some (.int q),v1,v2]/\G'=put G t0 (.lst [])) ⟨_,_,rfl,rfl⟩ (λi σ G' _ ⟨_,_,_,e⟩=>by rw[e];exact a0d) ?_ ?_
  ·rintro i x σ G' hx _;simp at hx
  ·rintro σ G' ⟨v1,v2,rfl,rfl⟩;symm;refine⟨lenK rfl,λt ht=>?_⟩;exact none_ (λi hi=>by rw[sh.no k hv]at hi;simp at hi) v1 v2 _ s0 t ht
 | some z=>
  obtain⟨h,rfl,es,H⟩:=sh.hs k z hv;symm;refine⟨h,_,rfl,a0k H.at_ ht0,?_⟩;rw[<- List.map_reverse];refine a08 (λi σ G'=>∃ v1 v2:Option Z,(∀ (j:Nat) e,j<i->es.reverse[j]?=some e->(q:Int)<e.1)/\σ=[some (.ref p),some (.str k),some (.int q),v1,v2]/\G'=put G t0 (.lst [])) ⟨_,_,λj e hj=>by omega,rfl,rfl⟩ (λi σ G' _ ⟨_,_,_,_,e⟩=>by rw[e];exact a0k H.at_ ht0) ?_ ?_
  ·rintro i x σ G' hx ⟨v1,v2,hall,rfl,rfl⟩;rw[eE]at hx;cases hx':es.reverse[i]? with
   | none=>rw[hx']at hx;cases hx
   | some e=>
   rw[hx']at hx;cases hx;obtain⟨s,l⟩:=e;have hmem:(s,l)∈es:=by have:=eP hx';simpa using this
   have hix:s∈ix T k:=by rw[<- H.ix];exact eU (f:=(·.1)) hmem
   obtain⟨hs1,hs2⟩:=b6P hix;obtain⟨_,L,gl,il⟩:=H.ln _ hmem;refine⟨_,rfl,?_⟩;symm;refine ifD (λc=>?_) λc=>?_
   ·symm;refine a17 (a0k gl ht0) ?_;intro D hD;have hone:=il.pl.one;have hll:L.length<=1000:=by have:=il.len;rw[eK]at this;omega
    refine a9a (g':=Rw.z) (λr=>some r) (λys=>a0k (a0k gl ht0) hD) hll ?_ ?_
    ·intro r hr ys K1 K2 k1 k2;obtain⟨x,hx⟩:=hone r hr;obtain⟨b,e,w⟩:=r;cases hx;refine⟨_,rfl,?_⟩;symm;refine⟨lenK rfl,?_⟩;exact k1 ⟨b,e,[x]⟩ rfl
    ·rw[b6Z];refine fin D L _ (s0.free hD) (s0.trans (Sm.new hD)) a0d ?_;have e1:((q:Int)).toNat=q:=by omega
     rw[e1];have il':IsLine (T.take s.toNat) k L:=il;refine il'.cut (by omega) λj hj=>?_;rw[<- H.ix]at hj;obtain⟨e2,he2,rfl⟩:=eq.mp hj
     by_cases c2:e2.1<=s
     ·left;omega
     ·right
      have he3:e2∈es.reverse:=by simpa using he2
      obtain⟨m,hm⟩:=gz he3
      by_cases hmi:m<i
      ·exact hall m e2 hmi hm
      ·exfalso;have hst:(ix T k).Pairwise (·<·):=a57 T k
       rw[<- H.ix]at hst;have hst2:es.reverse.Pairwise (λx y=>y.1<x.1):=by
        rw[jB];exact eZ.mp hst
       by_cases hmi2:m=i
       ·subst hmi2;rw[hx']at hm;cases hm;omega
       ·obtain⟨l1,e5⟩:=eL.mp hx';obtain⟨l2,e6⟩:=eL.mp hm
        have:=gy.mp hst2 i m l1 l2 (by omega)
        rw[e5,e6]at this;simp only at this;omega
   ·symm;refine⟨_,_,λj e hj he=>?_,rfl,rfl⟩
    by_cases hji:j<i
    ·exact hall j e hji he
    ·have:j=i:=by omega
     subst this;rw[hx']at he;cases he;simp only;omega
  ·rintro σ G' ⟨v1,v2,hall,rfl,rfl⟩;symm;refine⟨lenK rfl,λt ht=>?_⟩;refine none_ (λj hj=>?_) v1 v2 _ s0 t ht;rw[<- H.ix]at hj;obtain⟨e2,he2,rfl⟩:=eq.mp hj;have he3:e2∈es.reverse:=by simpa using he2
   obtain⟨m,hm⟩:=gz he3;exact hall m e2 (by rw[dY];exact (eL.mp hm).1) hm
noncomputable def Nmd (l:List Rw):Prop:=∀ r∈l,∃ w,r.w=[.str w]
noncomputable def NmT (ts:List Ti):Prop:=∀ t∈ts,∃ w,t.r.w=[.str w]
theorem a49 {α β:Type}{l:List α}{g:α->Z}{g':β->Z}(f:α->Option β) (hok:∀ ys,ok (put G1 D (.lst ys))) (hz:l.length<=100000)
  (turn:∀ x,x∈l->∀ (ys:List Z) (K1:K3) (K2:Hq->Prop),(∀ y,f x=some y->K1 (g' y) (put G1 D (.lst ys)))->(f x=none->K2 (put G1 D (.lst ys)))->∃ σ',a5L pt (g x) (cap3 cap σ)=some σ'/\tt σ' (put G1 D (.lst ys)) λb G4=>if b=true then te σ' G4 K1 else K2 G4)
  (fin:R (.ref D) (put G1 D (.lst ((l.filterMap f).map g')))):LCB (l.map g) ok cap pt tt te σ R D G1:=by
 refine b0v (λi c G=>c=((l.take i).filterMap f).map g'/\G=put G1 D (.lst c)) ⟨by simp,rfl⟩ ?_ ?_ ?_
 ·simp_all
 ·rintro i x c G d ⟨e,rfl⟩;rw[eE]at d;cases hx':l[i]? with
  | none=>rw[hx']at d;cases d
  | some a=>
   rw[hx']at d;cases d;have k:=(eL.mp hx').1;refine turn a (eP hx') c _ _ (λy j=>⟨a0d,?_,?_,?_⟩) λh=>⟨?_,rfl⟩
   ·rw[e,dY];refine ge (eF (gO _ _) (by rw[eK];omega:_<=99999)) (by decide)
   ·rw[a06 hx',j,e,eD];rfl
   ·rw[a2q]
   ·rw[a06 hx',h,e];simp
 ·simp_all
noncomputable def a6c:P3:=λws G R=>∃ (k:Str) (t:Ti),ws=[t.z k]/\(∃ w,t.r.w=[.str w])/\R t.r.z G
theorem a8D (h:a6c ws G R):ws.length=1:=by obtain⟨_,_,rfl,_⟩:=h;rfl
theorem a6d (F:Fns K a) (T:Txt K mg a):FnOk P w K mg base CX0 1 a.f16 a.d16 ["tile"] (lowP K a6c):=by
 refine fn3 F.n16 a86 (λe G R h=>(by exact a8D h)) (λf A c s H E e G R d h=>?_);refine⟨_,(a0o (a0D (a2Y (a0b (q_ix x_ix (a0c (pv 0)) a0h (λ_ _=>rfl)) (a0b (q_ix x_ix (a0c (pv 0)) a0h (λ_ _=>rfl)) (a0b (q_ix x_ix (a0c (pv 0)) a0h (λ_ _=>rfl)) a0g a0i) a0i) a0i)))),?_⟩;obtain⟨k,⟨⟨j,l,g⟩,s,u⟩,rfl,⟨w,b⟩,q⟩:=h;subst b;unfold Ti.z;symm;refine⟨lenK rfl,?_⟩;symm;exact q
noncomputable def a2T:P3:=λws G R=>∃ (k:Str) (t:Ti),ws=[t.z k]/\R (.bl t.u.isNone) G
theorem a42 (h:a2T ws G R):ws.length=1:=by obtain⟨_,_,rfl,_⟩:=h;rfl
theorem a2U (F:Fns K a) (T:Txt K mg a):FnOk P w K mg base CX0 1 a.f17 a.d17 ["tile"] (lowP K a2T):=by
 refine fn3 F.n17 a5f (λd G R h=>(by exact a42 h)) (λe A b s H E d G R c h=>?_);refine⟨_,(a0o (a0D (b0s o_is (q_ix x_ix (a0c (pv 0)) a0h (λ_ _=>rfl)) a4c (a0B _)))),?_⟩;obtain⟨k,⟨r,s,u⟩,rfl,q⟩:=h;unfold Ti.z;symm;refine c1d ?_;rw[Option.not_isSome];exact q
noncomputable def a3G:P3:=λws G R=>∃ (k:Str) (t:Ti) (n:Int),ws=[t.z k,.int n]/\R (.bl (t.at_ n)) G
theorem a6e (h:a3G ws G R):ws.length=2:=by obtain⟨_,_,_,rfl,_⟩:=h;rfl
theorem a6w (F:Fns K a) (T:Txt K mg a):FnOk P w K mg base CX0 2 a.f18 a.d18 ["tile","knowing"] (lowP K a3G):=by
 have b:FnOk P w K mg base CX0 1 a.f17 a.d17 ["tile"] _:=a2U F T;refine fn3 F.n18 a6r (λg G R h=>(by exact a6e h)) (λi A f s H E g G R d h=>?_);have j:=a0T d;refine⟨_,(a0o (a0D (b4N (b0s o_le (q_ix x_ix (a0c (pv 0)) a0h (λ_ _=>rfl)) (a0c (pv 1)) (a0B _)) (b51 (c0g (a0y b (d.mono (by decide)) rfl T.m17 F.n17.kp (a1E F) (a0b (a0c (pv 0)) a0g a0a)) (b51 (b0s o_lt (a0c (pv 1)) (q_ix x_ix (a0c (pv 0)) a0h (λ_ _=>rfl)) (a0B _)))))))),?_⟩;obtain⟨k,t,n,rfl,q⟩:=h;unfold Ti.at_ at q;unfold Ti.z;symm;refine ifD (λc=>?_) λc=>?_
 ·rw[decide_eq_true c]at q;symm;refine⟨k,t,rfl,?_⟩;cases e:t.u with
  | none=>
   rw[e]at q;symm;exact q
  | some x=>
   rw[e]at q;symm;rw[if_neg (by simp)];symm;exact q
 ·simp_all
noncomputable def a2M:P3:=λws G R=>Ex6 λ(p l:Addr) (k:Str) (ts:List Ti) (L:List Rw) (n:Int)=>ws=[.ref p,.str k,.ref l,.int n]/\G p=some (.lst (ts.map (Ti.z k)))/\G l=some (.lst (L.map Rw.z))/\NmT ts/\Nmd L/\ts.length<=90000/\L.length<=900/\(stR ts).length<=900 /\
 ∀ t G',G t=none->Sm G G'->G' t=some (.lst ((tOn ts L n).map (Ti.z k)))->R (.ref t) G'
theorem a6x (h:a2M ws G R):ws.length=4:=by obtain⟨_,_,_,_,_,_,rfl,_⟩:=h;rfl
noncomputable def prR (r:Rw):Z:=.tup [r.z,.bl true]
noncomputable def prK (r:Rw):List Key×Z:=(rnK r,.bl true)
theorem b5j (h:Nmd L):L.map prR=(L.map prK).map prT:=by
 rw[eO];refine fq λr a=>?_
 show Z.tup [r.z,.bl true]=.tup [.tup ((rnK r).map keyW),.bl true]
 rw[b2S (h r a)]
theorem b5k (h:Nmd L) (hr:∃ w,r.w=[.str w]) (hk:∀ j,j∈ks↔j∈(L.map prK).map (·.1)):hasK ks (rnK r)=hasR L r:=by
 rw[fI,b4b,hasR_iff,hk,eO,eq];exact⟨λ⟨s,a,e⟩=>b6T (h s a) hr e▸a,λa=>⟨r,a,rfl⟩⟩
theorem c1n (ts:List Ti):ts.filterMap (λt=>if t.u.isNone=true then some t.r else none)=stR ts:=by
 unfold stR
 induction ts with
 | nil=>rfl
 | cons t ts ih=>
  rw[fG,fw];cases t.u.isNone
  ·exact ih
  ·show t.r::_=_
   rw[ih];rfl
theorem b60 {α:Type}(l:List α):l.filterMap (λr=>some r)=l:=by simp
theorem b2V {α:Type}{p:α->Bool}(l:List α):l.filterMap (λr=>if p r=true then some r else none)=l.filter p:=by
 induction l with
 | nil=>rfl
 | cons r l ih=>
  rw[fG,fw];cases p r
  ·exact ih
  ·simp_all
theorem b5l {α β:Type}{f:α->β}(l:List α):l.filterMap (λr=>some (f r))=l.map f:=by simp
theorem cut5 {a b c d e f:Z}:cutZ [a,b,c,d,e,f] none (some 5)=[a,b,c,d,e]:=rfl
theorem b5m (h:NmT ts):Nmd (stR ts):=λr b=>by
 obtain⟨t,a,rfl⟩:=eq.mp b;exact h t (fb.mp a).1
theorem a4A (F:Fns K a) (T:Txt K mg a):FnOk P w K mg base CX0 2 a.f23 a.d23 ["tiles","key","line","knowing"] (lowP K a2M):=by
 have G_p_run_of:=a6d (P:=P) (w:=w) (base:=base) F T;have G_p_is_standing:=a2U (P:=P) (w:=w) (base:=base) F T;refine fn3 F.n23 sc_p_tiled_on (λws G R h=>(by exact a6x h)) (λcdv A outer s H E ws G R hr h=>?_);have hu:=a0T hr;refine⟨_,(a0l (a02 (i:=4) sc_p_tiled_on.nd rfl (fJ rfl) (a7c (b2t rfl hu) rfl T.b_dict rfl (a0b (q_lc (N₀:=["tiles","key","line","knowing","wanted","standing","begun","ended"]) (so:=a0e a0P) (N':=["run"]) (cap:=[none]) (pt:=(.nm 0)) rfl rfl rfl (by decide +kernel) rfl (a0L (a0c (pv 2))) (λ_ _ _ _=>(show QP _ _ (.nm 0) from (a0n (i:=0) c08 rfl (ee rfl)))) (λ_ _ _ _=>a2v) (λ_ _ _ _=>(a2Y (a0b (a0c (pv 0)) (a0b q_bl a0g a0f) a0a)))) a0g a0J) (he:=a0J) (hpl:=a0j)))
  (a0l (a02 (i:=5) sc_p_tiled_on.nd rfl (fJ rfl) (a7c (b2t rfl hu) rfl T.b_dict rfl (a0b (q_lc (N₀:=["tiles","key","line","knowing","wanted","standing","begun","ended"]) (so:=a0e a0P) (N':=["tile"]) (cap:=[none]) (pt:=(.nm 0)) rfl rfl rfl (by decide +kernel) rfl (a0L (a0c (pv 0))) (λ_ _ _ _=>(show QP _ _ (.nm 0) from (a0n (i:=0) c09 rfl (ee rfl)))) (λ_ _ _ _=>(a27 (a2t (a0y G_p_is_standing (hr.mono (by decide)) rfl T.m17 F.n17.kp (a1E F) (a0b (a0c (pv 0)) a0g a0a) (he:=a0a) (hpl:=a0j))))) (λ_ _ _ _=>(a2Y (a0b (a0y G_p_run_of (hr.mono (by decide)) rfl T.m16 F.n16.kp (a31 F) (a0b (a0c (pv 0)) a0g a0a) (he:=a0a) (hpl:=a0j)) (a0b q_bl a0g a0f) a0I)))) a0g a0J) (he:=a0J) (hpl:=a0j)))
  (a0l (a7e (i:=6) sc_p_tiled_on.nd rfl rfl (N₀:=["tiles","key","line","knowing","wanted","standing","begun","ended"]) (so:=a0e a0P) (N':=["run","standing"]) (cap:=[none,some 5]) (pt:=(.nm 0)) rfl rfl rfl (by decide +kernel) rfl (a0L (a0c (pv 2))) (λ_ _ _ _=>(show QP _ _ (.nm 0) from (a0n (i:=0) c1a rfl (ee rfl)))) (λ_ _ _ _=>(a27 (a0E (a9P hu) (a0c (pv 0)) (a0c (pv 1)) (by with_unfolding_all rfl)))) (λ_ _ _ _=>(a0c (pv 0))))
  (a0l (a7e (i:=7) sc_p_tiled_on.nd rfl rfl (N₀:=["tiles","key","line","knowing","wanted","standing","begun","ended"]) (so:=a0e a0P) (N':=["tile","wanted","knowing"]) (cap:=[none,some 4,some 3]) (pt:=(.nm 0)) rfl rfl rfl (by decide +kernel) rfl (a0L (a0c (pv 0))) (λ_ _ _ _=>(show QP _ _ (.nm 0) from (a0n (i:=0) c1b rfl (ee rfl)))) (λ_ _ _ _=>a2v) (λ_ _ _ _=>(q_if (QW.qt (b0t (a2t (a0y G_p_is_standing (hr.mono (by decide)) rfl T.m17 F.n17.kp (a1E F) (a0b (a0c (pv 0)) a0g a0a) (he:=a0a) (hpl:=a0j))) (a7R (a0E (a9P hu) (a0y G_p_run_of (hr.mono (by decide)) rfl T.m16 F.n16.kp (a31 F) (a0b (a0c (pv 0)) a0g a0a) (he:=a0a) (hpl:=a0j)) (a0c (pv 1)) (by with_unfolding_all rfl))))) (q_op a1L (a14 x_sl (a0c (pv 0)) a1W (a2O a0h)) (a2Y (a0b (a0c (pv 2)) a0g a0a))) (a0c (pv 0)))))
  (a0o (a0D (q_op a1L (a0c (pv 7)) (q_lc (N₀:=["tiles","key","line","knowing","wanted","standing","begun","ended"]) (so:=a0e a0P) (N':=["begin","end","worth","key","knowing"]) (cap:=[none,none,none,some 1,some 3]) (pt:=(.tp [0,1,2])) rfl rfl rfl (by decide +kernel) rfl (a0L (a0c (pv 6))) (λ_ _ _ _=>(show QP _ _ (.tp [0,1,2]) from (a5D rfl (a0z (a0n (i:=0) b6F rfl (ee rfl)) (a0z (a0n (i:=1) b6F rfl (ee rfl)) (a0z (a0n (i:=2) b6F rfl (ee rfl)) a3L)))))) (λ_ _ _ _=>a2v) (λ_ _ _ _=>(a2Y (a0b (a0c (pv 3)) (a0b (a0c (pv 2)) (a0b (a0c (pv 0)) (a0b (a0c (pv 1)) (a0b (a0c (pv 4)) (a0b a4c a0g a0f) a0a) a0a) a0a) a0a) a0a))))))))))),?_⟩
 obtain⟨p,l,k,ts,L,n,rfl,gp,gl,nt,nl,zt,zl,zs,fin⟩:=h;symm;refine a17 gl ?_;intro D hD;refine a49 (g':=prR) (λr=>some r) (λys=>a0k gl hD) (by omega) ?_ ?_
 ·intro r hr ys K1 K2 k1 k2;refine⟨_,rfl,?_⟩;symm;refine⟨lenK rfl,?_⟩;symm;exact k1 r rfl
 rw[b60,b5j nl];have gD:put G D (.lst ((L.map prK).map prT)) D=some (.lst ((L.map prK).map prT)):=a0d;have s1:Sm G (put G D (.lst ((L.map prK).map prT))):=Sm.new hD;generalize put G D (.lst ((L.map prK).map prT))=G1 at gD s1 ⊢;symm;refine b2u gD (by rw[dY];omega) λW ks hW hks=>?_;have gW:put G1 W (.dT ks) W=some (.dT ks):=a0d;have s2:Sm G (put G1 W (.dT ks)):=s1.trans (Sm.new hW);generalize put G1 W (.dT ks)=G2 at gW s2 ⊢;clear gD s1 hD hW;symm;refine a17 (s2 _ _ gp) ?_;intro E hE;refine a49 (g':=prR) (λt=>if t.u.isNone=true then some t.r else none) (λys=>a0k (s2 _ _ gp) hE) (by omega) ?_ ?_
 ·intro t ht ys K1 K2 k1 k2;refine⟨_,rfl,?_⟩;symm;refine⟨k,t,rfl,?_⟩;refine⟨_,rfl,?_⟩;refine ifB (λc=>?_) λc=>?_
  ·symm;refine⟨k,t,rfl,nt t ht,?_⟩;symm;refine⟨lenK rfl,?_⟩;symm;exact k1 t.r (if_pos c)
  ·exact k2 (if_neg (by rw[c];simp))
 rw[c1n,b5j (b5m nt)];have gE:put G2 E (.lst (((stR ts).map prK).map prT)) E=some (.lst (((stR ts).map prK).map prT)):=a0d;have s3:Sm G2 (put G2 E (.lst (((stR ts).map prK).map prT))):=Sm.new hE;generalize put G2 E (.lst (((stR ts).map prK).map prT))=G3 at gE s3 ⊢;symm;refine b2u gE (by rw[dY];omega) λV vs hV hvs=>?_;have gV:put G3 V (.dT vs) V=some (.dT vs):=a0d;have s4:Sm G2 (put G3 V (.dT vs)):=s3.trans (Sm.new hV);generalize put G3 V (.dT vs)=G4 at gV s4 ⊢;have gW4:=s4 _ _ gW;have s04:=s2.trans s4;clear gE s3 hE hV s2 s4 gW;symm;refine a17 (s04 _ _ gl) ?_;intro B hB;refine a49 (g':=Rw.z) (λr=>if (!hasR (stR ts) r)=true then some r else none) (λys=>a0k (s04 _ _ gl) hB) (by omega) ?_ ?_
 ·intro r hr ys K1 K2 k1 k2;refine⟨_,rfl,?_⟩;symm;refine b89 (a0k gV hB) (b2S (nl r hr)).symm ?_;rw[b5k (b5m nt) (nl r hr) hvs];refine⟨_,rfl,?_⟩;refine ifB (λc=>?_) λc=>?_
  ·symm;exact k1 r (if_pos c)
  ·exact k2 (if_neg (by rw[c];simp))
 rw[b2V];have gB:put G4 B (.lst ((L.filter λr=>!hasR (stR ts) r).map Rw.z)) B=some (.lst ((L.filter λr=>!hasR (stR ts) r).map Rw.z)):=a0d;have s5:Sm G4 (put G4 B (.lst ((L.filter λr=>!hasR (stR ts) r).map Rw.z))):=Sm.new hB;generalize put G4 B (.lst ((L.filter λr=>!hasR (stR ts) r).map Rw.z))=G5 at gB s5 ⊢;have gW5:=s5 _ _ gW4;have s05:=s04.trans s5;symm;refine a17 (s05 _ _ gp) ?_;intro N hN;refine a49 (g':=Ti.z k) (λt=>some (endR L n t)) (λys=>a0k (s05 _ _ gp) hN) (by omega) ?_ ?_
 ·intro t ht ys K1 K2 k1 k2;refine⟨_,rfl,?_⟩;have kk:∀ t',endR L n t=t'->K1 (t'.z k) (put G5 N (.lst ys)):=λt' e=>k1 t' (by rw[e]);symm;refine⟨k,t,rfl,?_⟩;refine⟨_,rfl,?_⟩;refine ifB (λc=>?_) λc=>?_
  ·symm;refine⟨k,t,rfl,nt t ht,?_⟩;symm;refine b89 (a0k gW5 hN) (b2S (nt t ht)).symm ?_;rw[b5k nl (nt t ht) hks];refine⟨_,rfl,?_⟩;refine ifB (λc2=>?_) λc2=>?_
   ·have kk:=kk _ (if_pos (by rw[c];exact c2));symm;unfold Ti.z;refine b10 (show ¬ (HT.sIx 6 0 none=0/\HT.sIx 6 6 (some 5)=6) by decide) ?_;rw[cut5];symm;refine⟨lenK rfl,?_⟩;symm;refine b4W (by simp) (lenK rfl) ?_;exact kk
   ·have kk:=kk _ (if_neg (by rw[c,show (!hasR L t.r)=false from c2];simp));symm;exact kk
  ·have kk:=kk _ (if_neg (by rw[c];simp));symm;exact kk
 rw[b5l];have gN:put G5 N (.lst ((ts.map (endR L n)).map (Ti.z k))) N=some (.lst ((ts.map (endR L n)).map (Ti.z k))):=a0d;have s6:Sm G5 (put G5 N (.lst ((ts.map (endR L n)).map (Ti.z k)))):=Sm.new hN;generalize put G5 N (.lst ((ts.map (endR L n)).map (Ti.z k)))=G6 at gN s6 ⊢;have gB6:=s6 _ _ gB;have s06:=s05.trans s6;symm;refine a17 gB6 ?_;intro M hM;refine a49 (g':=Ti.z k) (λr=>some (newR n r)) (λys=>a0k gB6 hM) (eF (iW _ _) (by omega)) ?_ ?_
 ·intro r hr ys K1 K2 k1 k2;obtain⟨w,hw⟩:=nl r (fb.mp hr).1;obtain⟨rb,re,rw0⟩:=r;simp only at hw;subst hw;refine⟨_,rfl,?_⟩;symm;refine⟨lenK rfl,?_⟩;exact k1 _ rfl
 rw[b5l];refine b1Y (a0k gN hM) a0d ?_ λt ht=>?_
 ·rw[dY,dY,dY,dY]
  have:=iW (λr=>!hasR (stR ts) r) L
  exact eF (by omega:_<=91000) (by decide)
 ·have sM:Sm G (put G6 M (.lst (((L.filter λr=>!hasR (stR ts) r).map (newR n)).map (Ti.z k)))):=s06.trans (Sm.new hM);refine fin t _ (sM.free ht) (sM.trans (Sm.new ht)) ?_;rw[a0d];unfold tOn;rw[eD]
theorem c1o:∀ {es:List (Int×List Rw)},(∀ e∈es,Nmd e.2)->NmT (TF es):=by
 intro b
 induction b using a3f with
 | h0=>exact λ_ t a=>by simp[TF]at a
 | h1 b e ih=>
  intro h t a;rw[a2d]at a;rcases ei.mp a with a | a
  ·obtain⟨f,h0,rfl⟩:=eq.mp a;rw[a8A];exact ih (λx d=>h x (by simp[d])) f h0
  ·obtain⟨r,g,rfl⟩:=eq.mp a;exact h e (by simp) r (fb.mp g).1
theorem b61 (ts:List Ti) (q:Int):ts.filterMap (λt=>if t.at_ q=true then some t.r else none)=a1F ts q:=by
 unfold a1F
 induction ts with
 | nil=>rfl
 | cons t ts ih=>
  rw[fG,fw];cases t.at_ q
  ·exact ih
  ·show t.r::_=_
   rw[ih];rfl
noncomputable def unK:List Key->Rw
 | [.inl (some b),.inl e,.inr s]=>⟨b,e,[.str s]⟩
 | _=>⟨0,none,[]⟩
theorem b5n (h:∃ w,r.w=[.str w]):unK (rnK r)=r:=by
 obtain⟨b,e,w⟩:=r;obtain⟨s,h⟩:=h;subst h
 rfl
theorem b9w (h:Nmd l):(l.map rnK).map unK=l:=by
 rw[eO];exact (fq λr a=>b5n (h r a)).trans (gC l)
theorem b5o (h:Nmd l):(l.map rnK).map L3.tupZ=l.map Rw.z:=by
 rw[eO];exact fq λr a=>c1j (h r a)
theorem b2W {L M:List Rw}{os:List (List Key)}(hc:Can L) (nl:Nmd L) (p:M.Perm L) (ho:os.Perm (M.map rnK)) (s:os.Pairwise (λx y=>Tim.ltT y x=false)):os.map L3.tupZ=L.map Rw.z:=by
 have c:=λr a=>nl r (p.mem_iff.mp a);have b:(os.map unK).map rnK=os:=by
  rw[eO];refine (fq λx f=>?_).trans (gC os);obtain⟨r,a,rfl⟩:=eq.mp (ho.mem_iff.mp f)
  show rnK _=rnK r
  rw[b5n (c r a)]
 have d:(os.map unK).Perm L:=by
  have:=ho.map unK
  rw[b9w c]at this;exact this.trans p
 have e:=b2T hc d (by simp_all);rw[<- b,e,b5o nl]
structure TsV (T:List Tl) (k:Str) (es:List (Int×List Rw)):Prop where
 ix:es.map (·.1)=ix T k
 ln:∀ e∈es,IsLine (T.take e.1.toNat) k e.2
theorem TsV.le {T:List Tl}{k:Str}{es:List (Int×List Rw)}(h:TsV T k es) {e:Int×List Rw}(he:e∈es):1<=e.1/\e.1<=T.length:=b6P (by rw[<- h.ix];exact eU he)
theorem TsV.run (h:TsV T k es):Run es T.length:=b4s (a6b h.ix) (λ_ a=>(h.le a).2) λe a=>(h.ln e a).can
theorem TsV.nm (h:TsV T k es):NmT (TF es):=c1o λe b r a=>a3t (h.ln e b) a
theorem TsV.len (h:TsV T k es) (hT:T.length<=200):(TF es).length<=80000:=by
 have d:=b5i (m:=400) λe c=>by
  have:=(h.ln e c).len
  rw[eK]at this;omega
 have a:es.length<=200:=by
  have b:=congrArg fh h.ix;rw[dY]at b
  have:=b2Q T k
  omega
 omega
theorem TsV.line (h:TsV T k es) (q:Nat):IsLine (T.take q) k (a1y es q):=b6S h.ix h.ln q
theorem TsV.st (h:TsV T k es):(stR (TF es)).length<=2*T.length:=by
 rw[<- a59 h.run.ok (fi _),(h.run.p _).length_eq]
 have:=(h.line T.length).len
 rw[ff]at this;exact this
theorem a93 {a:Ad}{G:Hq}{p:Addr}{S:Addr->Prop}{T:List Tl}{n:Int}{dx d t0:Addr}{kvs:List (Key×Z)}(sh:ShV a true G p S T n dx d kvs) (ht0:G t0=none) (k:Str) :
  ∃ h es,(valZ kvs (.inr k)).getD (.ref t0)=.ref h/\put G t0 (.lst []) h=some (.lst ((TF es).map (Ti.z k)))/\TsV T k es/\(valZ kvs (.inr k)=none->es=[]):=by
 cases hv:valZ kvs (.inr k) with
 | none=>exact⟨t0,[],rfl,a0d,⟨by rw[sh.no k hv];rfl,λe he=>by simp at he⟩,λ_=>rfl⟩
 | some z=>
  obtain⟨h,rfl,es,H⟩:=sh.hs k z hv;exact⟨h,es,rfl,a0k H.at_ ht0,⟨H.ix,H.ln⟩,λe=>by cases e⟩
theorem a4a (F:Fns K a) (T:Txt K mg a):FnOk P w K mg base CX0 3 a.f19 a.d19 ["self","key","knowing"] (lowP K (a38 a)):=by
 have G_p_run_of:=a6d (P:=P) (w:=w) (base:=base) F T;have G_p_stands_at:=a6w (P:=P) (w:=w) (base:=base) F T;refine fn3 F.n19 a3Y (λws G R h=>(by exact a3j h)) (λcdv A outer s H E ws G R hr h=>?_);have hu:=a0T hr;refine⟨_,(a0o (a0D (a0w b2r rfl T.b_sorted rfl (a0b (q_lc (N₀:=["self","key","knowing"]) (so:=a0e a0X) (N':=["tile","knowing"]) (cap:=[none,some 2]) (pt:=(.nm 0)) rfl rfl rfl (by decide +kernel) rfl (a0L (q_bm PySem.F.plainAttrs_dict PySem.F.slot_dict_get PySem.F.type_dict_get (b2k hu) (a4i T.cl_Tiled T.naT_kept (a0c (pv 0))) (a0b (a0c (pv 1)) (a0b (a15 a0g) a0g a4N) a0a))) (λ_ _ _ _=>(show QP _ _ (.nm 0) from (a0n (i:=0) c06 rfl (ee rfl)))) (λ_ _ _ _=>(a27 (a2t (a0y G_p_stands_at (hr.mono (by decide)) rfl T.m18 F.n18.kp (a6s F) (a0b (a0c (pv 0)) (a0b (a0c (pv 1)) a0g a0a) a0a) (he:=a0a) (hpl:=(a0m a0a a0j)))))) (λ_ _ _ _=>(a0y G_p_run_of (hr.mono (by decide)) rfl T.m16 F.n16.kp (a31 F) (a0b (a0c (pv 0)) a0g a0a) (he:=a0a) (hpl:=a0j)))) a0g a0J) (he:=a0J) (hpl:=a0j)))),?_⟩;obtain⟨p,S,T,k,q,n,dx,d,kvs,rfl,sh,h0,h1,hT,fin⟩:=h;obtain⟨q,rfl⟩:=gm h0;symm;refine⟨p,dx,_,_,rfl,sh.ob,a3h,?_⟩;refine b82 sh.dc ?_;symm;refine⟨lenK rfl,λt0 ht0=>?_⟩;symm;refine b2l (sh.dc.imp (λe=>a0k e ht0) λe=>a0k e ht0) rfl ?_;have s0:Sm G (put G t0 (.lst [])):=Sm.new ht0;obtain⟨h,es,hval,gh,tv,_⟩:=a93 sh ht0 k;rw[hval];generalize put G t0 (.lst [])=G1 at s0 gh ⊢;symm;refine a17 gh ?_;intro D hD;refine a49 (g':=Rw.z) (λt=>if t.at_ (q:Int)=true then some t.r else none) (λys=>a0k gh hD) (by have:=tv.len hT;omega) ?_ ?_
 ·intro t ht ys K1 K2 k1 k2;refine⟨_,rfl,?_⟩;symm;refine⟨k,t,_,rfl,?_⟩;refine⟨_,rfl,?_⟩;refine ifB (λc=>?_) λc=>?_
  ·symm;exact⟨k,t,rfl,tv.nm t ht,k1 t.r (if_pos c)⟩
  ·exact k2 (if_neg (by rw[c];simp))
 rw[b61];have il:=tv.line q;have nl:Nmd (a1y es q):=λr hr=>a3t il hr;have pm:=tv.run.p q;have nm:Nmd (a1F (TF es) q):=λr hr=>nl r (pm.mem_iff.mp hr);have s1:Sm G (put G1 D (.lst ((a1F (TF es) q).map Rw.z))):=s0.trans (Sm.new hD);refine b2s (rows:=(a1F (TF es) q).map rnK) (m:=3) (by rw[b5o nm];exact a0d) ?_ ?_ ?_ ?_ λt os ht hp hs=>?_
 ·rw[dY,pm.length_eq]
  have:=il.len
  rw[eK]at this;omega
 ·intro x hx;obtain⟨r,hr,rfl⟩:=eq.mp hx;exact⟨r.b,_,rfl⟩
 ·intro x hx;obtain⟨r,hr,rfl⟩:=eq.mp hx
  rfl
 ·intro x hx y hy;obtain⟨r,hr,rfl⟩:=eq.mp hx;obtain⟨s,hs,rfl⟩:=eq.mp hy;exact b9v il.can r (pm.mem_iff.mp hr) s (pm.mem_iff.mp hs)
 ·rw[b2W il.can nl pm hp hs];refine fin t (a1y es q) _ (s1.free ht) (s1.trans (Sm.new ht)) a0d ?_;rw[show ((q:Int)).toNat=q by omega];exact il
theorem a3u:valZ (putZ kvs k v) j=if j=k then some v else valZ kvs j:=by
 unfold putZ
 split
 ·next hc=>
  have m:∀ kvs:List (Key×Z),valZ (kvs.map λkv=>if kv.1=k then (kv.1,v) else kv) j=(valZ kvs j).map λx=>if j=k then v else x:=by
   intro kvs
   induction kvs with
   | nil=>rfl
   | cons p r ih=>
    unfold valZ at ih ⊢;rw[eG,fK,fK];have h:(if p.1=k then (p.1,v) else p).1=p.1:=by split<;>rfl
    rw[h];cases c:decide (p.1=j) with
    | false=>exact ih
    | true=>
     have d:=of_decide_eq_true c;simp
     by_cases ck:p.1=k
     ·simp_all
     ·simp_all
  rw[m]
  by_cases c:j=k
  ·subst c;obtain⟨p,f,g⟩:=fX.mp hc
   have:(kvs.find? λkv=>decide (kv.1=j)).isSome=true:=jC.mpr ⟨p,f,g⟩
   unfold valZ;cases e:kvs.find? λkv=>decide (kv.1=j) with
   | none=>rw[e]at this;cases this
   | some q=>simp
  ·simp_all
 ·next hc=>
  unfold valZ;rw[iP]
  by_cases c:j=k
  ·subst c
   have:kvs.find? (λkv=>decide (kv.1=j))=none:=by
    rw[ir];intro p i l;exact hc (fX.mpr ⟨p,i,l⟩)
   rw[this];simp
  ·rw[if_neg c]
   have:[(k,v)].find? (λkv=>decide (kv.1=j))=none:=by simp;exact λz=>c z.symm
   rw[this,Option.or_none]
theorem a94 {kvs:List (Key×Z)}{k:Key}{v:Z}:(putZ kvs k v).length<=kvs.length+1:=by
 unfold putZ
 split<;>simp
theorem Hist.ne_row {L:List Rw}(H:Hist G S T k h es) (e:G x=some (.lst (L.map Rw.z))):x≠h:=λz=>by
 subst z
 have:=e.symm.trans H.at_
 have b:L.map Rw.z=es.map enZ:=by simp_all
 cases es with
 | nil=>exact H.ne rfl
 | cons a es=>
  cases L with
  | nil=>simp at b
  | cons r L=>
   have c:=(fU.inj b).1;simp only[Rw.z,Z.tup.injEq,fU.injEq]at c;obtain⟨i,d,g⟩:=r;have f:=c.2.1;cases d<;>cases f
theorem a8E (h:valZ kvs k=none):∀ q∈kvs,q.1≠k:=λq b e=>by
 unfold valZ at h
 have:(kvs.find? λa=>decide (a.1=k)).isSome=true:=jC.mpr ⟨q,b,decide_eq_true e⟩
 cases e2:kvs.find? λa=>decide (a.1=k) with
 | none=>rw[e2]at this;cases this
 | some x=>rw[e2]at h;cases h
theorem b62 (h:valZ kvs k=none):putZ kvs k v=kvs++[(k,v)]:=by
 unfold putZ;rw[if_neg λz=>?_];obtain⟨q,a,b⟩:=fX.mp z;exact a8E h q a (of_decide_eq_true b)
theorem b5p (h:valZ kvs k=none) (nd:(kvs.map (·.1)).Nodup):((putZ kvs k v).map (·.1)).Nodup:=by
 rw[b62 h,eD,fP];refine⟨nd,by simp,λx a y c=>?_⟩;obtain⟨q,b,rfl⟩:=eq.mp a
 have:y=k:=by simpa using c
 rw[this];exact a8E h q b
theorem b5q (sk:∀ q∈kvs,∃ s,q.1=Sum.inr s):∀ q∈putZ kvs (.inr k) v,∃ s,q.1=Sum.inr s:=λq a=>by
 unfold putZ at a
 split at a
 ·obtain⟨d,c,e⟩:=eq.mp a;obtain⟨s,b⟩:=sk d c;refine⟨s,?_⟩;rw[<- e]
  split
  ·omega
  ·omega
 ·rcases ei.mp a with a | a
  ·exact sk q a
  ·exact⟨k,by rw[et.mp a]⟩
noncomputable def a1I (a:Ad) (b:Bool):P3:=λws G R=>Ex9 λ(p:Addr) (S:Addr->Prop) (T:List Tl) (τ:Tl) (l:Addr) (L:List Rw) (dx d:Addr) (kvs:List (Key×Z))=>ws=[.ref p,.str τ.key,.ref l]/\ShM a b G p S T ((T.length:Int)+1) dx d kvs/\G l=some (.lst (L.map Rw.z))/\¬ S l/\IsLine (T++[τ]) τ.key L/\T.length<=200 /\
 ∀ (S':Addr->Prop) G',(∀ b,S b->S' b)->(∀ b,S' b->S b\/b=l\/G b=none)->KN S G G'->Sheet a b G' p S' (T++[τ])->R .non G'
theorem a3H {a:Ad}{b:Bool}{ws:List Z}{G:Hq}{R:K3}(h:a1I a b ws G R):ws.length=3:=by obtain⟨_,_,_,_,_,_,_,_,_,rfl,_⟩:=h;rfl
abbrev a4B (a:Ad):P3:=a1I a false
abbrev a4C (a:Ad):P3:=a1I a true
theorem a4D (h:s∈ix T k):(T++[τ]).take s.toNat=T.take s.toNat:=by
 have:=b6P h
 rw[gj (by omega)]
theorem a7x:(T++[τ]).take ((T.length:Int)+1).toNat=T++[τ]:=by
 rw[ft];rw[eB,g8];omega
theorem a4E (F:Fns K a) (T:Txt K mg a):FnOk P w K mg base CX0 3 a.f38 a.d38 ["self","key","line"] (lowP K (a4B a)):=by
 refine fn3 F.n38 a4k (λws G R h=>(by exact a3H h)) (λcdv A outer s H E ws G R hr h=>?_);have hu:=a0T hr;refine⟨_,(a0o (a05 (q_bm PySem.F.plainAttrs_list PySem.F.slot_list_append PySem.F.type_list_append a1G (q_bm PySem.F.plainAttrs_dict PySem.F.slot_dict_setdefault PySem.F.type_dict_setdefault a75 (a4i T.cl_Sheet T.na_kept (a0c (pv 0))) (a0b (a0c (pv 1)) (a0b (a15 a0g) a0g a4N) a0a)) (a0b (a2Y (a0b (a4i T.cl_Sheet T.na_last (a0c (pv 0))) (a0b (a0c (pv 2)) a0g a0a) a0Y)) a0g a2u)))),?_⟩;obtain⟨p,S,T,τ,l,L,dx,d,kvs,rfl,sh,gl,nl,il,hT,q⟩:=h;symm;refine⟨p,dx,_,_,rfl,sh.ob,a3h,?_⟩;refine b81 sh.dc ?_;symm;refine⟨lenK rfl,λt0 ht0=>?_⟩;symm;have npd:p≠d:=λz=>by have e:=sh.ob;rw[z,sh.dc]at e;cases e
 have hlen:((T++[τ]).length:Int)=(T.length:Int)+1:=by simp
 refine b80 (a0k sh.dc ht0) rfl (a0v (by have:=sh.len;omega)) (λz hz=>?_) λhz=>?_
 ·obtain⟨h,rfl,es,H⟩:=sh.hs _ z hz;have hpe:p≠h:=λz=>by have e:=sh.ob;rw[z,H.at_]at e;cases e
  have hde:d≠h:=λz=>by have e:=sh.dc;rw[z,H.at_]at e;cases e
  have hle:l≠h:=λz=>nl (z▸H.s);refine a3R (a0k H.at_ ht0) ?_;symm;refine⟨p,dx,_,_,rfl,a0k sh.ob ht0,a3g,?_⟩;symm;refine⟨lenK rfl,?_⟩;symm;have hel:es.length<=T.length:=by
   have e1:=congrArg fh H.ix;rw[dY]at e1;rw[e1];exact b2Q T τ.key
  refine a1t (a0k H.at_ ht0) (by rw[dY];exact a0v (by omega)) ?_;have keep:∀ b o,b≠h->G b=some o->put (put G t0 (.lst [])) h (.lst (es.map enZ++[.tup [.int ((T.length:Int)+1),.ref l]])) b=some o:=λb o nb e=>by rw[a0x nb];exact a0k e ht0
  refine q (λb=>S b\/b=l) _ (λb hb=>.inl hb) (λb hb=>hb.elim .inl λz=>.inr (.inl z)) (λb o nb e=>keep b o (λz=>nb (z▸H.s)) e) ⟨dx,d,kvs,?_⟩;refine⟨by rw[hlen];exact keep _ _ hpe sh.ob,.inl sh.sp,.inl sh.sd,keep _ _ hde sh.dc,by have:=sh.len;simp;omega,λk hk=>?_,λk z e=>?_,sh.inj,(λb hb=>?_),sh.nd,sh.sk⟩
  ·rw[a1R,sh.no k hk,if_neg]
   ·rfl
   ·rintro rfl;rw[hz]at hk;cases hk
  ·by_cases ck:k=τ.key
   ·subst ck;rw[hz]at e;cases e;refine⟨h,rfl,es++[((T.length:Int)+1,l)],.inl H.s,by rw[a0d,eD];rfl,by rw[eD,H.ix,a1R,if_pos rfl];rfl,by simp,λe he=>?_⟩;rcases ei.mp he with he | he
    ·obtain⟨s1,L1,g1,i1⟩:=H.ln e he;refine⟨.inl s1,L1,keep _ _ (H.ne_row g1) g1,?_⟩;rw[a4D (k:=τ.key) (by rw[<- H.ix];exact eU (f:=(·.1)) he)];exact i1
    ·rw[et.mp he];refine⟨.inr rfl,L,keep _ _ hle gl,?_⟩;rw[a7x];exact il
   ·obtain⟨h',ez,es',H'⟩:=sh.hs k z e;have hh:h'≠h:=λw=>ck (sh.inj k τ.key z e (by rw[hz,ez,w]));refine⟨h',ez,es',.inl H'.s,keep _ _ hh H'.at_,by rw[H'.ix,a1R,if_neg (Ne.symm ck),eR],H'.ne,λe he=>?_⟩;obtain⟨s1,L1,g1,i1⟩:=H'.ln e he;refine⟨.inl s1,L1,keep _ _ (H.ne_row g1) g1,?_⟩;rw[a4D (k:=k) (by rw[<- H'.ix];exact eU (f:=(·.1)) he)];exact i1
  ·by_cases c:b=h
   ·rw[c];exact⟨_,a0d⟩
   ·rcases hb with hb | hb
    ·obtain⟨o,e⟩:=sh.al b hb;exact⟨o,keep b o c e⟩
    ·rw[hb]at c ⊢;exact⟨_,keep l _ c gl⟩
 ·have hdt:d≠t0:=a0u sh.dc ht0;have hpt:p≠t0:=a0u sh.ob ht0;have hlt:l≠t0:=a0u gl ht0;have gt1:put (put G t0 (.lst [])) d (.dK (putZ kvs (.inr τ.key) (.ref t0))) t0=some (.lst []):=by rw[a0x (Ne.symm hdt)];exact a0d
  refine a3R gt1 ?_;symm;refine⟨p,dx,_,_,rfl,by rw[a0x npd];exact a0k sh.ob ht0,a3g,?_⟩;symm;refine⟨lenK rfl,?_⟩;symm;refine a1t gt1 (a0v (by decide)) ?_;have keep:∀ b o,b≠d->G b=some o->put (put (put G t0 (.lst [])) d (.dK (putZ kvs (.inr τ.key) (.ref t0)))) t0 (.lst ([]++[.tup [.int ((T.length:Int)+1),.ref l]])) b=some o:=λb o nb e=>by
   rw[a0x (a0u e ht0),a0x nb];exact a0k e ht0
  have nS:∀ h',S h'->∀ o,G h'=some o->h'≠t0:=λh' _ o e=>a0u e ht0;refine q (λb=>S b\/b=l\/b=t0) _ (λb hb=>.inl hb) (λb hb=>hb.elim .inl λz=>z.elim (λz=>.inr (.inl z)) λz=>.inr (.inr (by rw[z];exact ht0))) (λb o nb e=>keep b o (λz=>nb (z▸sh.sd)) e) ⟨dx,d,putZ kvs (.inr τ.key) (.ref t0),?_⟩;refine⟨by rw[hlen];exact keep _ _ npd sh.ob,.inl sh.sp,.inl sh.sd,by rw[a0x hdt];exact a0d,by have h1:=sh.len;have h2:=@a94 kvs (.inr τ.key) (.ref t0);simp;omega,λk hk=>?_,λk z e=>?_,λk k' z e e'=>?_,(λb hb=>?_),b5p hz sh.nd,b5q sh.sk⟩
  ·rw[a3u]at hk
   split at hk
   ·cases hk
   ·next c=>
    rw[a1R,sh.no k hk,if_neg λz=>c (by rw[z])]
    rfl
  ·rw[a3u]at e
   split at e
   ·next c=>
    cases e;have ck:k=τ.key:=by simpa using c
    subst ck;refine⟨t0,rfl,[((T.length:Int)+1,l)],.inr (.inr rfl),by rw[a0d];rfl,by rw[a1R,sh.no _ hz,if_pos rfl];rfl,by simp,λe he=>?_⟩;rw[et.mp he];refine⟨.inr (.inl rfl),L,keep _ _ (λz=>by have z':l=d:=z;rw[z',sh.dc]at gl;cases gl) gl,?_⟩;rw[a7x];exact il
   ·next c=>
    obtain⟨h',ez,es',H'⟩:=sh.hs k z e;have hd':h'≠d:=λw=>by have e:=H'.at_;rw[w,sh.dc]at e;cases e
    refine⟨h',ez,es',.inl H'.s,keep _ _ hd' H'.at_,by rw[H'.ix,a1R,if_neg λz=>c (by rw[z]),eR],H'.ne,λe he=>?_⟩;obtain⟨s1,L1,g1,i1⟩:=H'.ln e he;refine⟨.inl s1,L1,keep _ _ (λw=>by rw[w,sh.dc]at g1;cases g1) g1,?_⟩;rw[a4D (k:=k) (by rw[<- H'.ix];exact eU (f:=(·.1)) he)];exact i1
  ·rw[a3u]at e e'
   split at e
   ·next c=>
    split at e'
    ·next c'=>simpa using c.trans c'.symm
    ·cases e;obtain⟨h',ez,es',H'⟩:=sh.hs k' _ e';cases ez;exact absurd rfl (nS _ H'.s _ H'.at_)
   ·split at e'
    ·cases e';obtain⟨h',ez,es',H'⟩:=sh.hs k _ e;cases ez;exact absurd rfl (nS _ H'.s _ H'.at_)
    ·exact sh.inj k k' z e e'
  ·by_cases c:b=t0
   ·rw[c];exact⟨_,a0d⟩
   ·by_cases c2:b=d
    ·rw[c2];exact⟨_,by rw[a0x hdt];exact a0d⟩
    ·rcases hb with hb | hb | hb
     ·obtain⟨o,e⟩:=sh.al b hb;exact⟨o,keep b o c2 e⟩
     ·rw[hb]at c2 ⊢;exact⟨_,keep l _ c2 gl⟩
     ·exact absurd hb c
theorem b4t (h:valZ kvs k≠none):(putZ kvs k v).map (·.1)=kvs.map (·.1):=by
 unfold putZ;rw[if_pos]
 ·rw[eO];refine fq λx _=>?_
  show (if x.1=k then _ else x).1=x.1
  split<;>rfl
 ·rw[fX];unfold valZ at h;cases e:kvs.find? λa=>decide (a.1=k) with
  | none=>rw[e]at h;exact absurd rfl h
  | some x=>
   have:=jD e
   exact⟨x,iU e,this⟩
theorem b63 (nd:(kvs.map (·.1)).Nodup):((putZ kvs k v).map (·.1)).Nodup:=by
 by_cases h:valZ kvs k=none
 ·exact b5p h nd
 ·rw[b4t h];exact nd
theorem a4F (F:Fns K a) (T:Txt K mg a):FnOk P w K mg base CX0 3 a.f39 a.d39 ["self","key","line"] (lowP K (a4C a)):=by
 have i:FnOk P w K mg base CX0 2 a.f23 a.d23 ["tiles","key","line","knowing"] (lowP K a2M):=a4A F T;refine fn3 F.n39 a4l (λws G R h=>(by exact a3H h)) (λcdv A outer s H E ws G R hr h=>?_);have hu:=a0T hr;refine⟨_,(a0o (a7T (a0y i (hr.mono (by decide)) rfl T.m23 F.n23.kp (a4o F) (a0b (q_bm PySem.F.plainAttrs_dict PySem.F.slot_dict_get PySem.F.type_dict_get (b2k hu) (a4i T.cl_Tiled T.naT_kept (a0c (pv 0))) (a0b (a0c (pv 1)) (a0b (a15 a0g) a0g a4N) a0a)) (a0b (a0c (pv 1)) (a0b (a0c (pv 2)) (a0b (a4i T.cl_Tiled T.naT_last (a0c (pv 0))) a0g a0Y) a0a) a0a) a0I)) (a4i T.cl_Tiled T.naT_kept (a0c (pv 0))) (a0c (pv 1)) (b47 hu))),?_⟩;obtain⟨p,S,T,τ,l,L,dx,d,kvs,rfl,g,gl,nl,il,hT,q⟩:=h;symm;refine⟨p,dx,_,_,rfl,g.ob,a3h,?_⟩;refine b81 g.dc ?_;symm;refine⟨lenK rfl,λt0 I=>?_⟩;symm;refine b8Z (a0k g.dc I) rfl ?_;have D:Sm G (put G t0 (.lst [])):=Sm.new I;obtain⟨h,es,hval,gh,B,hno⟩:=a93 g.v I τ.key;rw[hval];generalize put G t0 (.lst [])=G1 at D gh ⊢;symm;refine⟨p,dx,_,_,rfl,D _ _ g.ob,a3g,?_⟩;symm;have lL:L.length<=900:=by have:=il.len;rw[eB,g8]at this;omega
 refine⟨h,l,τ.key,TF es,L,_,rfl,gh,D _ _ gl,B.nm,λr hr=>a3t il hr,by have:=B.len hT;omega,lL,by have:=B.st;omega,λt G2 ht s2 gt=>?_⟩;have y:=D.trans s2;have hGt:G t=none:=D.free ht;have npd:p≠d:=λz=>by have e:=g.ob;rw[z,g.dc]at e;cases e
 have ntd:t≠d:=λz=>by rw[z,y _ _ g.dc]at gt;cases gt
 have hlen:((T++[τ]).length:Int)=(T.length:Int)+1:=by simp
 symm;refine⟨p,dx,_,_,rfl,y _ _ g.ob,a3h,?_⟩;symm;refine b48 (y _ _ g.dc) rfl (a0v (by have:=g.len;omega)) ?_;have x:∀ b o,b≠d->G b=some o->put G2 d (.dK (putZ kvs (.inr τ.key) (.ref t))) b=some o:=λb o nb e=>by rw[a0x nb];exact y _ _ e
 have nS:∀ z m,z=Z.ref m->S m->z≠.ref t:=λz m e hs n=>by
  rw[e]at n;cases n;obtain⟨o,eo⟩:=g.al _ hs;rw[hGt]at eo;cases eo
 refine q (λb=>S b\/b=t) _ (λb u=>.inl u) (λb u=>u.elim .inl λz=>.inr (.inr (by rw[z];exact hGt))) (λb o nb e=>x b o (λz=>nb (z▸g.sd)) e) ⟨dx,d,putZ kvs (.inr τ.key) (.ref t),?_⟩;refine⟨by rw[hlen];exact x _ _ npd g.ob,.inl g.sp,.inl g.sd,a0d,by have h1:=g.len;have h2:=@a94 kvs (.inr τ.key) (.ref t);simp;omega,λk hk=>?_,λk z e=>?_,λk k' z e n=>?_,(λb u=>?_),b63 g.nd,b5q g.sk⟩
 ·rw[a3u]at hk
  split at hk
  ·cases hk
  ·next c=>
   rw[a1R,g.no k hk,if_neg λz=>c (by rw[z])]
   rfl
 ·rw[a3u]at e
  split at e
  ·next c=>
   cases e;have ck:k=τ.key:=by simpa using c
   subst ck;refine⟨t,rfl,es++[((T.length:Int)+1,L)],.inr rfl,by rw[a0x ntd,gt,a2d],by rw[eD,B.ix,a1R,if_pos rfl];rfl,by simp,λe he=>?_⟩;rcases ei.mp he with he | he
   ·have:=B.ln e he
    rw[a4D (by rw[<- B.ix];exact eU he)];exact this
   ·rw[et.mp he]
    show IsLine ((T++[τ]).take ((T.length:Int)+1).toNat) τ.key L
    rw[a7x];exact il
  ·next c=>
   obtain⟨m,C,es',H'⟩:=g.hs k z e;refine⟨m,C,es',.inl H'.s,x _ _ (λw=>by have e:=H'.at_;rw[w,g.dc]at e;cases e) H'.at_,by rw[H'.ix,a1R,if_neg λz=>c (by rw[z]),eR],H'.ne,λe he=>?_⟩
   have:=H'.ln e he
   rw[a4D (by rw[<- H'.ix];exact eU he)];exact this
 ·rw[a3u]at e n
  split at e
  ·next c=>
   split at n
   ·next c'=>simpa using c.trans c'.symm
   ·cases e;obtain⟨m,C,H'⟩:=g.hs k' _ n;exact absurd rfl (nS _ m C H'.at_.1)
  ·split at n
   ·cases n;obtain⟨m,C,H'⟩:=g.hs k _ e;exact absurd rfl (nS _ m C H'.at_.1)
   ·exact g.inj k k' z e n
 ·by_cases c2:b=d
  ·rw[c2];exact⟨_,a0d⟩
  ·rcases u with u | u
   ·obtain⟨o,e⟩:=g.al b u;exact⟨o,x b o c2 e⟩
   ·rw[u];exact⟨_,by rw[a0x ntd];exact gt⟩
theorem a1U {P:jO}{w:World}{K:Fg}{mg:Str->Option Value}{base:Heap}{a:Ad}(F:Fns K a) (T:Txt K mg a) (b:Bool):∃ f d,Meth K (a.cK b) "known_line" f/\FnOk P w K mg base CX0 3 f d ["self","key","knowing"] (lowP K (a1u a b))/\Binds K d ["self","key","knowing"] []:=by
 cases b
 ·exact⟨_,_,T.mt15,a39 F T,a30 F⟩
 ·exact⟨_,_,T.mt19,a4a F T,a32 F⟩
theorem a6y {P:jO}{w:World}{K:Fg}{mg:Str->Option Value}{base:Heap}{a:Ad}(F:Fns K a) (T:Txt K mg a) (b:Bool):∃ f d,Meth K (a.cK b) "keep_line" f/\FnOk P w K mg base CX0 3 f d ["self","key","line"] (lowP K (a1I a b))/\Binds K d ["self","key","line"] []:=by
 cases b
 ·exact⟨_,_,T.mt38,a4E F T,a4p F⟩
 ·exact⟨_,_,T.mt39,a4F F T,a4q F⟩
noncomputable def BadT (a:Ad) (G:Hq) (z:Z) (c:Addr):Prop:=Ex4 λ(h:Z) (nm:List Z) (x y:Z)=>Tel G z h nm x y/\((nm.all a3x=false/\c=a.x_NoName)\/(nm.all a3x=true/\strB x y=false/\c=a.x_NoStretch))
noncomputable def a4G (a:Ad):PX3:=λws G R EE=>∃ b:Bool,∃ (p:Addr) (S:Addr->Prop) (T:List Tl),Sheet a b G p S T/\((∃ τ:Tl,ws=[.ref p,τ.z]/\τ.Ok/\T.length<=150 /\
 ∀ (S':Addr->Prop) G',(∀ b,S b->S' b)->(∀ b,S' b->S b\/G b=none)->KN S G G'->Sheet a b G' p S' (T++[τ])->R (.int ((T.length:Int)+1)) G') \/
 ∃ (z:Z) (c:Addr),ws=[.ref p,z]/\BadT a G z c/\∀ G',Sm G G'->EE c G')
theorem a6z {a:Ad}{ws:List Z}{G:Hq}{R:K3}{EE:Addr->Hq->Prop}(h:a4G a ws G R EE):ws.length=2:=by obtain⟨_,_,_,_,_,⟨_,rfl,_⟩ | ⟨_,_,rfl,_⟩⟩:=h<;>rfl
theorem b9x {τ:Tl}:∃ ws,τ.z=.tup ws/\atI ws 1=some (.str τ.key):=by
 obtain⟨k,w,b,e⟩:=τ;cases w<;>exact⟨_,rfl,at1⟩
theorem b9y:Th G (oz e):=by cases e<;>exact True.intro
theorem Tl.Ok.tel {τ:Tl}(ok:τ.Ok):∃ (h:Z) (nm:List Z),Tel G τ.z h nm (.int τ.b) (oz τ.e)/\nm.all a3x=true/\strB (.int τ.b) (oz τ.e)=true:=by
 obtain⟨k,w,b,e⟩:=τ;have d:=ok.k;have a:=ok.w;have f:=st_b ok.st;cases w with
 | none=>exact⟨_,[.str k],⟨rfl,.inl ⟨_,rfl⟩,λz c=>by rw[et.mp c];exact b2L d,True.intro,b9y⟩,by rw[fM,nm_b d];rfl,f⟩
 | some w=>
  have a:=a w rfl;refine⟨_,[.str k,.str w],⟨rfl,.inr ⟨_,_,rfl⟩,λz c=>?_,True.intro,b9y⟩,by rw[fM,nm_b d,fM,nm_b a];rfl,f⟩;simp at c;rcases c with rfl | rfl
  ·exact b2L d
  ·exact b2L a
theorem a7y (F:Fns K a) (T:Txt K mg a):FnOk P w K mg base (CXx P w) 5 a.f40 a.d40 ["self","telling"] (a4P K (a4G a)):=by
 have G_p_check_telling:=a4y (P:=P) (w:=w) (base:=base) F T;have G_p_line_behind:=a5o (P:=P) (w:=w) (base:=base) F T;refine fn3x F.n40 sc_Sheet_tell (λws G R EE h=>(by exact a6z h)) (λcdv A outer s H E ws G R EE hr h ux=>?_);have hu:=a0T hr;obtain⟨b,h⟩:=h;obtain⟨fO_keep_line,dO_keep_line,mtO_keep_line,GO_keep_line,bdO_keep_line⟩:=a6y (P:=P) (base:=base) F T b;obtain⟨fO_known_line,dO_known_line,mtO_known_line,GO_known_line,bdO_known_line⟩:=a1U (P:=P) (base:=base) F T b;refine⟨_,(a0l (a05 (a5T (a2p Outs.of) ux.since G_p_check_telling (hr.mono (by decide)) rfl T.m11 F.n11.kp (a4n F) (a0b (a0c (pv 1)) a0g a0a) (he:=a0a) (hpl:=a0j)))
  (a0l (a02 (i:=2) sc_Sheet_tell.nd rfl (ee rfl) (q_ix x_ix (a0c (pv 1)) a0h (λ_ _=>rfl)))
  (a0l (a02 (i:=3) sc_Sheet_tell.nd rfl (ee rfl) (a0y G_p_line_behind (hr.mono (by decide)) rfl T.m12 F.n12.kp (a5j F) (a0b (a9H (a0c (pv 0)) (clK T b) mtO_known_line GO_known_line (hr.mono (by decide)) bdO_known_line (a0b (a0c (pv 2)) (a0b (a4i (clK T b) (a3s T b) (a0c (pv 0))) a0g a0Y) a0a) (hst:=a0a) (hpl:=(a0m a0Y a0j))) (a0b (a0c (pv 1)) a0g a0a) a0I) (he:=a0I) (hpl:=(a0m a0a a0j))))
  (a0l (b31 (clK T b) (a3s T b) (a0c (pv 0)) a0h b8e)
  (a0l (a05 (a9H (a0c (pv 0)) (clK T b) mtO_keep_line GO_keep_line (hr.mono (by decide)) bdO_keep_line (a0b (a0c (pv 2)) (a0b (a0c (pv 3)) a0g a0a) a0a) (hst:=a0a) (hpl:=(a0m a0a a0j))))
  (a0o (a0D (a4i (clK T b) (a3s T b) (a0c (pv 0)))))))))),?_⟩
 obtain⟨p,S,T,⟨dx,d,kvs,sh⟩,⟨τ,rfl,ok,hT,q⟩ | ⟨z,c,rfl,⟨h,nm,x,y,tel,hb⟩,q⟩⟩:=h
 rotate_left
 ·symm;refine⟨z,h,nm,x,y,rfl,tel,λG1 s1=>?_⟩;have q':=q G1 s1;rcases hb with ⟨e1,rfl⟩ | ⟨e1,e2,rfl⟩
  ·rw[e1];exact ifF q'
  ·rw[e1,e2];exact ifT (ifF q')
 symm;obtain⟨th,tn,tel,ta,ts⟩:=ok.tel (G:=G);refine⟨_,_,_,_,_,rfl,tel,λG1 s1=>?_⟩;rw[ta,ts];refine ifT (ifT ?_);have sh1:=sh.keep (Sm.ks s1);obtain⟨ws,ez,ek⟩:=@b9x τ;symm;rw[ez];refine a7f ek ?_;rw[<- ez];symm;refine⟨p,dx,_,rfl,sh1.ob,a2K (by decide +kernel) (by decide +kernel),?_⟩;symm;refine⟨p,dx,_,_,rfl,sh1.ob,a3g,?_⟩;symm;refine⟨p,S,T,τ.key,_,_,dx,d,kvs,rfl,sh1.v,by omega,by omega,by omega,λt L G2 ht s2 gt il=>?_⟩;rw[show ((T.length:Int)).toNat=T.length by omega,ff]at il;have sh2:=sh1.keep (Sm.ks s2);symm;have hll:=il.len;refine⟨t,L,τ,rfl,gt,il.can.rise,il.pl,by omega,ok,λu G3 hu s3 gu=>?_⟩;have sh3:=sh2.keep (Sm.ks s3);have S13:=(s1.trans s2).trans s3;have hu0:G u=none:=(s1.trans s2).free hu;have nu:¬ S u:=λz=>by obtain⟨o,e⟩:=sh.al u z;rw[hu0]at e;cases e
 symm;refine⟨p,dx,_,_,rfl,sh3.ob,a3g,?_⟩;symm;refine⟨dx,_,sh3.ob,by show 2<1000;decide,?_⟩;rw[b6V];have hup:u≠p:=λz=>nu (z▸sh.sp);have sh4:ShM a b (put G3 p (.ins (a.cK b) dx (shF ((T.length:Int)+1) d))) p S T ((T.length:Int)+1) dx d kvs:=by
  have kp:∀ x o,x≠p->G3 x=some o->put G3 p (.ins (a.cK b) dx (shF ((T.length:Int)+1) d)) x=some o:=λx o nb e=>by rw[a0x nb];exact e
  refine⟨a0d,sh3.sp,sh3.sd,kp _ _ (λz=>by have e:=sh3.dc;rw[z,sh3.ob]at e;cases e) sh3.dc,sh3.len,sh3.no,λk z e=>?_,sh3.inj,(λb hb=>?_),sh3.nd,sh3.sk⟩
  ·obtain⟨h,ez,H⟩:=sh3.hs k z e;exact⟨h,ez,H.keepL λx ws _ g1=>kp _ _ (λz=>by rw[z,sh3.ob]at g1;cases g1) g1⟩
  ·by_cases c:b=p
   ·rw[c];exact⟨_,a0d⟩
   ·obtain⟨o,e⟩:=sh3.al b hb;exact⟨o,kp b o c e⟩
 have gu4:put G3 p (.ins (a.cK b) dx (shF ((T.length:Int)+1) d)) u=some (.lst ((a8v L τ.b τ.e (optW τ.v)).map Rw.z)):=by rw[a0x hup];exact gu
 have kn4:KN S G (put G3 p (.ins (a.cK b) dx (shF ((T.length:Int)+1) d))):=λb o nb e=>by rw[a0x (show b≠p from λz=>nb (by rw[z];exact sh.sp))];exact S13 _ _ e
 have nn4:∀ x,put G3 p (.ins (a.cK b) dx (shF ((T.length:Int)+1) d)) x=none->G x=none:=λx e=>by
  by_cases c:x=p
  ·rw[c,a0d]at e;cases e
  ·rw[a0x c]at e;exact S13.free e
 generalize put G3 p (.ins (a.cK b) dx (shF ((T.length:Int)+1) d))=G4 at sh4 gu4 kn4 nn4 ⊢;symm;refine⟨p,dx,_,rfl,sh4.ob,a2K (by decide +kernel) (by decide +kernel),?_⟩;symm;refine⟨p,S,T,τ,u,_,dx,d,kvs,rfl,sh4,gu4,nu,il.snoc ok,by omega,λS' G5 i1 i2 kn5 sh5=>?_⟩;have sh5':=sh5;obtain⟨dx5,d5,kvs5,m5⟩:=sh5';symm;refine⟨p,dx5,_,_,rfl,m5.ob,a3g,?_⟩;have e:(((T++[τ]).length:Nat):Int)=(T.length:Int)+1:=by simp
 rw[e];refine q S' G5 i1 (λb hb=>?_) (kn4.trans kn5) sh5;rcases i2 b hb with h | h | h
 ·exact .inl h
 ·rw[h];exact .inr hu0
 ·exact .inr (nn4 b h)
local macro_rules | `(tactic| walk_at "go1")=>`(tactic| with_reducible (first | refine i_intB ?_ | refine i_iD ?_))
theorem ShV.frz {a:Ad}{b:Bool}{G:Hq}{p:Addr}{S:Addr->Prop}{T:List Tl}{n:Int}{dx d:Addr}{kvs:List (Key×Z)}(H:ShV a b G p S T n dx d kvs):ShV a b (put G d (.dF kvs)) p S T n dx d kvs:=by
 have k:∀ b o,b≠d->G b=some o->put G d (.dF kvs) b=some o:=λb o r e=>by rw[a0x r];exact e
 have j:∀ b f,G b=some (.lst f)->b≠d:=λb f e z=>by
  rw[z]at e;rcases H.dc with c | c<;>(rw[c]at e;cases e)
 refine⟨k _ _ (λz=>?_) H.ob,H.sp,H.sd,.inr a0d,H.len,H.no,λl z e=>?_,λb i=>?_,H.nd,H.sk⟩
 ·have e:=H.ob;rw[z]at e;rcases H.dc with c | c<;>(rw[c]at e;cases e)
 ·obtain⟨h,q,m⟩:=H.hs l z e;exact⟨h,q,m.keepL λx f _ g=>k _ _ (j _ _ g) g⟩
 ·by_cases c:b=d
  ·rw[c];exact⟨_,a0d⟩
  ·obtain⟨o,e⟩:=H.al b i;exact⟨o,k b o c e⟩
noncomputable def a2j (a:Ad):P3:=λws G R=>∃ b:Bool,∃ (p:Addr) (S:Addr->Prop) (T:List Tl),ws=[.ref p]/\Sheet a b G p S T/\R (.int T.length) G
theorem a4H {a:Ad}{ws:List Z}{G:Hq}{R:K3}(h:a2j a ws G R):ws.length=1:=by obtain⟨_,_,_,_,rfl,_⟩:=h;rfl
theorem a1r (F:Fns K a) (T:Txt K mg a):FnOk P w K mg base CX0 1 a.f21 a.d21 ["self"] (lowP K (a2j a)):=by
 refine fn3 F.n21 a4U (λe G R h=>(by exact a4H h)) (λj A c s H E e G R f h=>?_);obtain⟨b,h⟩:=h;refine⟨_,(a0o (a0D (a4i (clK T b) (a3s T b) (a0c (pv 0))))),?_⟩;obtain⟨p,S,T',rfl,⟨g,d,k,i⟩,q⟩:=h;symm;exact⟨p,g,_,_,rfl,i.ob,a3g,q⟩
noncomputable def inR (T:List Tl) (q:Int):Prop:=0<=q/\q<=T.length
noncomputable def a2V (a:Ad):PX3:=λws G R EE=>∃ b:Bool,Ex5 λ(p:Addr) (S:Addr->Prop) (T:List Tl) (x:Z) (q:Int)=>ws=[.ref p,x,.int q]/\Sheet a b G p S T/\(∀ G'',Th G'' x)/\T.length<=200 /\
 ((inR T q/\∃ k,x=.str k/\nmOk k/\∀ t L G',G t=none->Sm G G'->G' t=some (.lst (L.map Rw.z))->IsLine (T.take q.toNat) k L->R (.ref t) G')\/(¬ inR T q/\∀ G',Sm G G'->EE a.x_NoKnowing G')\/(inR T q/\a3x x=false/\∀ G',Sm G G'->EE a.x_NoName G'))
theorem a43 {a:Ad}{ws:List Z}{G:Hq}{R:K3}{EE:Addr->Hq->Prop}(h:a2V a ws G R EE):ws.length=3:=by obtain⟨_,_,_,_,_,_,rfl,_⟩:=h;rfl
theorem a2W (F:Fns K a) (T:Txt K mg a):FnOk P w K mg base (CXx P w) 4 a.f24 a.d24 ["self","key","knowing"] (a4P K (a2V a)):=by
 have c:FnOk P w K mg base (CXx P w) 2 a.f14 a.d14 ["self","knowing"] (a4P K (a0V a)):=a1h F T;have g:FnOk P w K mg base (CXx P w) 2 a.f4 a.d4 ["thing"] (a4P K (a1S a)):=a3i F T;refine fn3x F.n24 a5h (λX G R Q h=>(by exact a43 h)) (λcdv A M s H E X G R Q n h u=>?_);have hu:=a0T n;obtain⟨b,h⟩:=h;obtain⟨l,j,i,GO_known_line,f⟩:=a1U F T b;refine⟨_,(a0l (a05 (a3V (a2p Outs.of) u.since (a0c (pv 0)) (clK T b) (a1c T b) c (n.mono (by decide)) (a1g F) (a0b (a0c (pv 2)) a0g a0a)))
  (a0l (a05 (a5T (a2p Outs.of) u.since g (n.mono (by decide)) rfl T.m4 F.n4.kp (a3c F) (a0b (a0c (pv 1)) a0g a0a)))
  (a0o (a0D (a9H (a0c (pv 0)) (clK T b) i GO_known_line (n.mono (by decide)) f (a0b (a0c (pv 1)) (a0b (a0c (pv 2)) a0g a0a) a0a)))))),?_⟩
 obtain⟨p,S,T',x,q,rfl,B,y,U,h⟩:=h;have z:=B;obtain⟨r,d,C,D⟩:=z;symm;refine⟨p,r,_,rfl,D.ob,a2K (by decide +kernel) (by decide +kernel),?_⟩;symm;refine⟨b,p,S,T',q,rfl,B.v,?_⟩;rcases h with ⟨hq,k,rfl,hk,fin⟩ | ⟨hq,e⟩ | ⟨hq,hn,e⟩
 ·have J:0<=q/\q<=T'.length:=hq;rw[if_pos J];symm;refine⟨_,rfl,y _,λI m=>?_⟩;rw[nm_b hk];refine ifT ?_;have o:=D.keep (Sm.ks m);symm;refine⟨p,r,_,rfl,o.ob,a2K (by decide +kernel) (by decide +kernel),?_⟩;symm;exact⟨p,S,T',k,q,_,r,d,C,rfl,o.v,hq.1,hq.2,U,λt L G2 Y N gt V=>fin t L G2 (m.free Y) (m.trans N) gt V⟩
 ·rw[if_neg (show ¬ (0<=q/\q<=T'.length) from hq)];exact e G (Sm.refl _)
 ·rw[if_pos (show 0<=q/\q<=T'.length from hq)];symm;refine⟨_,rfl,y _,λI m=>?_⟩;rw[hn];exact ifF (e I m)
theorem Rec.ne (H:Rec b G S T k h):ix T k≠[]:=λz=>by
 cases b with
 | false=>
  obtain⟨a,H⟩:=H
  have:=H.ix
  rw[z]at this;exact H.ne (gX.mp this)
 | true=>
  obtain⟨a,H⟩:=H
  have:=H.ix
  rw[z]at this;exact H.ne (gX.mp this)
noncomputable def NE (T:List Tl) (k:Str):Prop:=∃ L,IsLine T k L/\L≠[]
structure KeysAt (T:List Tl) (ts:List Str):Prop where
 so:PyProof.Rows.sortedS ts=true
 nd:ts.Nodup
 is:∀ s,s∈ts↔NE T s
theorem IsLine.uniq (h:IsLine T k L) (g:IsLine T k M):L=M:=b5g h.can g.can λt=>by rw[h.v,g.v]
theorem a9f (h:ix T k=[]) (q:Nat):a22 (T.take q) k=[]:=a58 λi a=>by rw[h]at a;simp at a
noncomputable def Few (T:List Tl):Prop:=T.length<=200/\∃ kn:List Str,kn.length<=63/\∀ τ∈T,τ.key∈kn
theorem a95:∀ {xs ys:List Str},xs.Nodup->(∀ x∈xs,x∈ys)->xs.length<=ys.length
 | [],_,_,_=>fg _
 | x::xs,ys,h,m=>by
  rw[gb]at h;have b:=m x (.head _)
  have:=a95 (ys:=ys.erase x) h.2 λy a=>(List.mem_erase_of_ne (λz=>h.1 (by simp_all))).mpr (m y (.tail _ a))
  rw[List.length_erase_of_mem b]at this
  have:=List.length_pos_of_mem b
  rw[eu];omega
theorem a8F:∀ {T:List Tl}{k:Str}{n:Nat},ixF k n T≠[]->∃ τ∈T,τ.key=k
 | [],_,_,h=>absurd rfl h
 | τ::T,k,n,h=>by
  by_cases c:τ.key=k
  ·exact⟨τ,.head _,c⟩
  ·unfold ixF at h;rw[if_neg c,gc]at h;obtain⟨σ,b,a⟩:=a8F h;exact⟨σ,.tail _ b,a⟩
theorem b2X {ks:List Str}(h:kvs.map (·.1)=ks.map Sum.inr) (m:s∈ks):∃ z,valZ kvs (.inr s)=some z:=by
 unfold valZ;cases e2:kvs.find? λc=>decide (c.1=Sum.inr s) with
 | some q=>exact⟨_,rfl⟩
 | none=>
  have a:(Sum.inr s)∈kvs.map (·.1):=by rw[h];exact eU m
  obtain⟨q,b,d⟩:=eq.mp a
  have:=ir.mp e2 q b
  simp[d]at this
noncomputable def a2X (a:Ad):PX3:=λws G R EE=>∃ b:Bool,Ex4 λ(p:Addr) (S:Addr->Prop) (T:List Tl) (q:Int)=>ws=[.ref p,.int q]/\Sheet a b G p S T/\Few T /\
 ((inR T q/\∀ t ts G',G t=none->Sm G G'->G' t=some (.lst (ts.map Z.str))->KeysAt (T.take q.toNat) ts->ts.length<=63->R (.ref t) G')\/(¬ inR T q/\∀ G',Sm G G'->EE a.x_NoKnowing G'))
theorem a44 {a:Ad}{ws:List Z}{G:Hq}{R:K3}{EE:Addr->Hq->Prop}(h:a2X a ws G R EE):ws.length=2:=by obtain⟨_,_,_,_,_,rfl,_⟩:=h;rfl
theorem a6f:∀ {kvs:List (Key×Z)},(∀ q∈kvs,∃ s,q.1=Sum.inr s)->∃ ks:List Str,kvs.map (·.1)=ks.map Sum.inr/\(kvs.map λq=>keyW q.1)=ks.map Z.str
 | [],_=>⟨[],rfl,rfl⟩
 | q::kvs,h=>by
  obtain⟨s,a⟩:=h q (.head _);obtain⟨e,c,d⟩:=a6f λq b=>h q (.tail _ b);exact⟨s::e,by rw[eG,eG,c,a],by rw[eG,eG,d,a];rfl⟩
theorem b2Y {ks:List Str}(h:kvs.map (·.1)=ks.map Sum.inr) (e:valZ kvs (.inr s)=some z):s∈ks:=by
 unfold valZ at e;cases e2:kvs.find? λg=>decide (g.1=Sum.inr s) with
 | none=>rw[e2]at e;cases e
 | some q=>
  have a:=iU e2;have c:q.1=Sum.inr s:=by have:=jD e2;simpa using this
  have:(Sum.inr s:Key)∈ks.map Sum.inr:=by rw[<- h,<- c];exact eU a
  obtain⟨x,b,d⟩:=eq.mp this;cases d;exact b
theorem a5p (F:Fns K a) (T:Txt K mg a):FnOk P w K mg base (CXx P w) 4 a.f20 a.d20 ["self","knowing"] (a4P K (a2X a)):=by
 have G_Sheet_check_knowing:=a1h (P:=P) (w:=w) (base:=base) F T;refine fn3x F.n20 a5g (λws G R EE h=>(by exact a44 h)) (λcdv A outer s H E ws G R EE hr h ux=>?_);have hu:=a0T hr;obtain⟨b,h⟩:=h;obtain⟨fO_known_line,dO_known_line,mtO_known_line,GO_known_line,bdO_known_line⟩:=a1U (P:=P) (base:=base) F T b;refine⟨_,(a0l (a05 (a3V (a2p Outs.of) ux.since (a0c (pv 0)) (clK T b) (a1c T b) G_Sheet_check_knowing (hr.mono (by decide)) (a1g F) (a0b (a0c (pv 1)) a0g a0a) (hst:=a0a) (hpl:=a0j)))
  (a0o (a0D (c0Z (a0w b2o rfl T.b_sorted rfl (a0b (q_lc (N₀:=["self","knowing"]) (so:=a0e a1b) (N':=["key","knowing","self"]) (cap:=[none,some 1,some 0]) (pt:=(.nm 0)) rfl rfl rfl (by decide +kernel) rfl (b6x (a4i (clK T b) (a9T T b) (a0c (pv 0)))) (λ_ _ _ _=>(show QP _ _ (.nm 0) from (a0n (i:=0) c07 rfl (ee rfl)))) (λ_ _ _ _=>(a27 (b78 (a9H (a0c (pv 2)) (clK T b) mtO_known_line GO_known_line (hr.mono (by decide)) bdO_known_line (a0b (a0c (pv 0)) (a0b (a0c (pv 1)) a0g a0a) a0a) (hst:=a0a) (hpl:=(a0m a0a a0j))) (λ_=>rfl)))) (λ_ _ _ _=>(a0c (pv 0)))) a0g a0J) (he:=a0J) (hpl:=a0j)))))),?_⟩
 obtain⟨p,S,T',q,rfl,sh,hT,h⟩:=h;have sh':=sh;obtain⟨dx,d,kvs,sm⟩:=sh';symm;refine⟨p,dx,_,rfl,sm.ob,a2K (by decide +kernel) (by decide +kernel),?_⟩;symm;refine⟨b,p,S,T',q,rfl,sh.v,?_⟩;rcases h with ⟨hq,fin⟩ | ⟨hq,e⟩
 rotate_left
 ·rw[if_neg (show ¬ (0<=q/\q<=T'.length) from hq)];exact e G (Sm.refl _)
 rw[if_pos (show 0<=q/\q<=T'.length from hq)];symm;refine c00 sm.dc ?_;symm;refine⟨p,dx,_,_,rfl,sm.ob,a3h,?_⟩;symm;refine c0X (.inl sm.dc) ?_;have smF:=sm.v.frz;obtain⟨ks,hk1,hk2⟩:=a6f sm.sk;have hnd:ks.Nodup:=by
  have:=sm.nd
  rw[hk1]at this;exact (eZ.mp this).imp λh z=>h (by rw[z])
 obtain⟨hT2,kn,kn1,kn2⟩:=hT;have hkl:ks.length<=63:=eF (a95 hnd λs hs=>by
  obtain⟨z,ez⟩:=b2X hk1 hs;obtain⟨h,_,hh⟩:=sm.hs s z ez;obtain⟨τ,t1,t2⟩:=a8F (T:=T') (k:=s) (n:=0) (λz=>hh.ne z);rw[<- t2];exact kn2 τ t1) kn1
 rw[hk2];intro D hD;refine b0v (λi ys G'=>∃ ts:List Str,ys=ts.map Z.str/\ts.Nodup/\(∀ s,s∈ts↔s∈ks.take i/\NE (T'.take q.toNat) s)/\ts.length<=i/\Sm (put G d (.dF kvs)) G'/\G' D=some (.lst ys)) ⟨[],rfl,.nil,λs=>by simp,eh _,Sm.new hD,a0d⟩ (λ_ _ _ _ _=>True.intro) ?_ ?_
 ·rintro i x ys G' hx ⟨ts,rfl,hn,hm,hl,s,gD⟩;rw[eE]at hx;cases hx':ks[i]? with
  | none=>rw[hx']at hx;cases hx
  | some k=>
  rw[hx']at hx;cases hx;have hi:=(eL.mp hx').1;have ht1:ks.take (i+1)=ks.take i++[k]:=by rw[fN,hx'];rfl
  have nk:k∉ks.take i:=λz=>by
   have h1:(ks.take (i+1)).Nodup:=hnd.sublist (g6 _ _);rw[ht1,fP]at h1;exact h1.2.2 k z k (by simp) rfl
  have smA:=smF.keep (Sm.ks s);refine⟨_,rfl,?_⟩;symm;refine⟨p,dx,_,rfl,smA.ob,a2K (by decide +kernel) (by decide +kernel),?_⟩;symm;refine⟨p,S,T',k,q,_,dx,d,kvs,rfl,smA,hq.1,hq.2,by omega,λt L G2 ht s2 gt il=>?_⟩;refine b4V gt ?_;cases hL:L with
  | nil=>
   symm;refine⟨ts,rfl,hn,λy=>?_,by omega,s.trans s2,s2 _ _ gD⟩;rw[hm,ht1,ei,et]
   constructor
   ·exact λ⟨a1,a2⟩=>⟨.inl a1,a2⟩
   ·rintro⟨a1 | rfl,a2⟩
    ·exact⟨a1,a2⟩
    ·obtain⟨M,m1,m2⟩:=a2;exact absurd (m1.uniq il) (by rw[hL];exact m2)
  | cons r L'=>
   symm;refine⟨_,rfl,s2 _ _ gD,by rw[dY];exact a0v (by omega),ts++[k],by rw[eD];rfl,?_,λy=>?_,by rw[eB];simp;omega,(s.trans s2).put hD,a0d⟩
   ·rw[fP];exact⟨hn,by simp,λa1 h1 b1 h2 z=>nk (by rw[<- et.mp h2,<- z];exact ((hm a1).mp h1).1)⟩
   ·rw[ei,hm,ht1,ei,et]
    constructor
    ·rintro (⟨a1,a2⟩ | rfl)
     ·exact⟨.inl a1,a2⟩
     ·exact⟨.inr rfl,L,il,by rw[hL];simp⟩
    ·rintro⟨a1 | rfl,a2⟩
     ·exact .inl ⟨a1,a2⟩
     ·exact .inr rfl
 ·rintro ys G' ⟨ts,rfl,hn,hm,hl,s,gD⟩;rw[dY]at hm hl;rw[ff]at hm;symm;refine b2p gD (by omega) λt us ht hp hs=>?_;have gd:G' d=some (.dF kvs):=s _ _ a0d;have td:t≠d:=Ne.symm (a0u gd ht);have fr:G t=none:=by
   have h1:=s.free ht;rw[a0x td]at h1;exact h1
  have sm2:Sm G (put (put G' t (.lst (us.map Z.str))) d (.dK kvs)):=λb o e=>by
   by_cases c:b=d
   ·rw[c,a0d,<- sm.dc,<- c];exact e
   ·rw[a0x c];exact a0k (s _ _ (by rw[a0x c];exact e)) ht
  refine⟨a0k gd ht,fin t us _ fr sm2 (by rw[a0x td];exact a0d) ⟨hs,hp.nodup_iff.mpr hn,λy=>?_⟩ (by rw[hp.length_eq];omega)⟩;rw[hp.mem_iff,hm]
  constructor
  ·exact λz=>z.2
  ·intro z;refine⟨?_,z⟩;cases e:valZ kvs (.inr y) with
   | some w=>exact b2Y hk1 e
   | none=>
    obtain⟨L,l1,l2⟩:=z;exact absurd (l1.uniq (IsLine.nil (a9f (sm.no y e) _))) l2
noncomputable def b5r:P3:=λws G R=>∃ c k:Int,ws=[.int c,.int k]/\0<=k/\k<=1000/\∀ i:Int,0<=i->i<268435449->R (.int i) G
theorem b64 (h:b5r ws G R):ws.length=2:=by obtain⟨_,_,rfl,_⟩:=h;rfl
theorem b5s (F:Fns K a) (T:Txt K mg a):FnOk P w K mg base CX0 1 a.f28 a.d28 ["cell","k"] (lowP K b5r):=by
 refine fn3 F.n28 sc_mix (λf G R h=>(by exact b64 h)) (λg A b s H E f G R d h=>?_);have p:=a0T d;refine⟨_,(a0l (a02 (i:=2) sc_mix.nd rfl (ee rfl) (q_op a5M (q_op a1L (a0c (pv 0)) (q_op b3M a0h (q_op a1L (a0c (pv 1)) a0h))) a0h))
  (a0l (a02 (i:=2) sc_mix.nd rfl (ee rfl) (q_op a5M (q_op b3M (a0c (pv 2)) (a0c (pv 2))) a0h))
  (a0o (a0D (q_op b1K (q_op a5M (q_op b3M (a0c (pv 2)) (q_op a1L (q_op a1L (a0c (pv 2)) a0h) (a0c (pv 1)))) a0h) a0h))))),?_⟩
 obtain⟨c,k,rfl,n,l,q⟩:=h;symm;refine i_I (.inl ⟨by decide,by decide⟩) ?_;symm;refine i_I (show (0:Int)<2147483647 by decide) ?_;symm;generalize ho:(c+104729*(k+1)) % 2147483647=o;refine i_I (.inl ⟨by omega,by omega⟩) ?_;symm;refine i_I (show (0:Int)<2147483629 by decide) ?_;symm;generalize ho2:o*o % 2147483629=o2;refine i_I (.inl ⟨by omega,by omega⟩) ?_;symm;refine i_I (show (0:Int)<2147483587 by decide) ?_;symm;refine i_I ⟨by decide,by decide⟩ ?_;have e:∀ x:Int,0<=x % 2147483587/\x % 2147483587<2147483587:=λx=>⟨fQ _ (by decide),fY _ (by decide)⟩
 have:=e (o2*(o2+7919+k))
 exact q _ (by omega) (by omega)
noncomputable def Bnd (xs bs:List Int):Prop:=xs.length=bs.length/\∀ (i:Nat) x b,xs[i]?=some x->bs[i]?=some b->0<=x/\x<b
theorem Bnd.at (h:Bnd xs bs) {i:Nat}(e:bs[i]?=some b):∃ x,xs[i]?=some x/\0<=x/\x<b:=by
 have c:=(eL.mp e).1;have a:i<xs.length:=by rw[h.1];exact c
 exact⟨xs[i],eI a,h.2 i _ b (eI a) e⟩
theorem a0K {xs:List Int}{i:Nat}(e:xs[i]?=some x):atI (xs.map Z.int) (i:Int)=some (.int x):=a2k (by simp_all)
noncomputable def a96:P3:=λws G R=>Ex4 λ(c w:Int) (p:Addr) (bs:List Int)=>ws=[.int c,.int w,.ref p]/\G p=some (.lst (bs.map Z.int))/\bs.length<=20/\(∀ b∈bs,0<b/\b<2 ^ 60) /\
 ∀ t xs,G t=none->Bnd xs bs->R (.ref t) (put G t (.lst (xs.map Z.int)))
theorem b2Z (h:a96 ws G R):ws.length=3:=by obtain⟨_,_,_,_,rfl,_⟩:=h;rfl
theorem a97 (F:Fns K a) (T:Txt K mg a):FnOk P w K mg base CX0 2 a.f29 a.d29 ["cell","way","bounds"] (lowP K a96):=by
 have G_mix:=b5s (P:=P) (w:=w) (base:=base) F T;refine fn3 F.n29 sc_parts (λws G R h=>(by exact b2Z h)) (λcdv A outer s H E ws G R hr h=>?_);have hu:=a0T hr;refine⟨_,(a0l (a02 (i:=3) sc_parts.nd rfl (ee rfl) (a15 a0g))
  (a0l (a26 (pt:=(.nm 4)) j0.never rfl (a3m rfl T.b_range (a0b (a0w b_len rfl T.b_len PySem.boot_len (a0b (a0c (pv 2)) a0g a0a) (he:=a0a) (hpl:=a0j)) a0g a0I)) (show QP _ _ (.nm 4) from (a0n (i:=4) sc_parts.nd rfl (ee rfl)))
  (a0o (z_if (a0E (o_eq hu) (a0c (pv 1)) a0h (a0B _))
  (a0l (a05 (q_bm PySem.F.plainAttrs_list PySem.F.slot_list_append PySem.F.type_list_append a1G (a0c (pv 3)) (a0b (q_op a5M (a0c (pv 0)) (q_ix x_ix (a0c (pv 2)) (a0c (pv 4)) (λ_ _=>rfl))) a0g a0H)))
  (a0o (a02 (i:=0) sc_parts.nd rfl (ee rfl) (q_op b1K (a0c (pv 0)) (q_ix x_ix (a0c (pv 2)) (a0c (pv 4)) (λ_ _=>rfl))))))
  (a0o (a05 (q_bm PySem.F.plainAttrs_list PySem.F.slot_list_append PySem.F.type_list_append a1G (a0c (pv 3)) (a0b (q_op a5M (q_op b3M (a0y G_mix (hr.mono (by decide)) rfl T.m28 F.n28.kp (b5f F) (a0b (a0c (pv 0)) (a0b (a0c (pv 4)) a0g a0a) a0a) (he:=a0a) (hpl:=(a0m a0a a0j))) a0h) (q_ix x_ix (a0c (pv 2)) (a0c (pv 4)) (λ_ _=>rfl))) a0g a0H)))))))
  (a0o (a0D (a0c (pv 3)))))),?_⟩
 obtain⟨c,w,p,bs,rfl,hp,hl,hb,q⟩:=h;symm;refine⟨lenK rfl,λt ht=>?_⟩;symm;refine a7X (a0k hp ht) ?_;symm;rw[dY];refine⟨by omega,by omega,?_⟩;rw[show ((bs.length:Int)).toNat=bs.length by omega];refine a08 (λi σ G'=>∃ (c:Int) (xs:List Int) (v:Option Z),xs.length=i/\(∀ (j:Nat) x b,xs[j]?=some x->bs[j]?=some b->0<=x/\x<b)/\σ=[some (.int c),some (.int w),some (.ref p),some (.ref t),v]/\G'=put G t (.lst (xs.map Z.int))) ⟨c,[],_,rfl,λj x b h=>by simp at h,rfl,rfl⟩ (λ_ _ _ _ _=>True.intro) ?_ ?_
 ·rintro i x σ G' hx ⟨c,xs,v,hxs,hall,rfl,rfl⟩;obtain⟨hi,rfl⟩:=a16 hx;rw[iu];have hbi:bs[i]?=some bs[i]:=eI hi;have hbb:=hb _ (fV hi);generalize bs[i]=b at hbi hbb;have hbm:=a0K hbi;have hp':=a0k (o:=.lst (xs.map Z.int)) hp ht;have fin:∀ (c' x:Int) (w':Option Z),0<=x->x<b->∃ (c:Int) (xs':List Int) (v:Option Z),xs'.length=i+1/\(∀ (j:Nat) x b,xs'[j]?=some x->bs[j]?=some b->0<=x/\x<b)/\([some (.int c'),some (.int w),some (.ref p),some (.ref t),w']:S3)=[some (.int c),some (.int w),some (.ref p),some (.ref t),v]/\put (put G t (.lst (xs.map Z.int))) t (.lst (xs.map Z.int++[.int x]))=put G t (.lst (xs'.map Z.int)):=λc' x w' x0 x1=>by
   refine⟨c',xs++[x],w',by simp;exact hxs,λj y b' e1 e2=>?_,rfl,by rw[a2q,eD];rfl⟩
   by_cases hj:j<xs.length
   ·rw[gJ hj]at e1;exact hall j y b' e1 e2
   ·have hjl:=(eL.mp e1).1
    have:j=xs.length:=by simp at hjl;omega
    subst this;rw[gI (eh _),Nat.sub_self]at e1;cases e1;rw[hxs,hbi]at e2;cases e2;exact⟨x0,x1⟩
  refine⟨_,rfl,?_⟩;symm;refine ifD (λ_=>?_) λ_=>?_
  ·symm;refine a3R a0d ?_;symm;refine a0Q hp' hbm ?_;symm;refine i_I hbb.1 ?_;symm;refine a1t a0d (by rw[dY];exact a0v (by omega)) ?_;have hne:p≠t:=a0u hp ht;symm;refine a0Q (by rw[a0x hne,a0x hne];exact hp) hbm ?_;symm;refine i_I ⟨hbb.1,by omega⟩ ?_;symm;exact fin _ _ _ (fQ _ (by omega)) (fY _ hbb.1)
  ·symm;refine a3R a0d ?_;symm;refine⟨c,(i:Int),rfl,by omega,by omega,λm m0 m1=>?_⟩;symm;refine i_I (.inl ⟨by omega,by omega⟩) ?_;symm;refine a0Q hp' hbm ?_;symm;refine i_I hbb.1 ?_;symm;refine a1t a0d (by rw[dY];exact a0v (by omega)) ?_;exact fin _ _ _ (fQ _ (by omega)) (fY _ hbb.1)
 ·rintro σ G' ⟨c,xs,v,hxs,hall,rfl,rfl⟩;rw[a0R]at hxs;symm;exact q t xs ht ⟨hxs,hall⟩
abbrev LET:Str:=Str.ofString "etaoinshrdlucmfwypvbgkjqxz"
theorem a5B:LET.cps.toList=[101,116,97,111,105,110,115,104,114,100,108,117,99,109,102,119,121,112,118,98,103,107,106,113,120,122]:=by decide +kernel
theorem b5t (h0:0<=k) (h1:k<26):∃ c,atI LET.cps.toList k=some c/\isL c:=by
 obtain⟨j,rfl⟩:=gm h0;have a:j<26:=by omega
 have:∀ j:Fin 26,∃ c,([101,116,97,111,105,110,115,104,114,100,108,117,99,109,102,119,121,112,118,98,103,107,106,113,120,122])[j.1]?=some c/\97<=c/\c<=122:=by decide
 obtain⟨c,e,h⟩:=this ⟨j,a⟩;exact⟨c,a2k (by rw[a5B];exact e),h⟩
theorem a5C (a b:Str):(a++b).cps.toList=a.cps.toList++b.cps.toList:=by
 show (a.cps++b.cps).toList=_
 rw[Array.toList_append]
theorem b9z {p:Nat}(h:p<=s.cps.toList.length):(Txt.slice s none (some (p:Int))).cps.toList=s.cps.toList.take p:=by
 have:=eq_of_beq (PyProof.Rows.slice_closes_to (x:=s) (j:=p) ⟨by omega,by omega⟩)
 rw[this];simp
theorem b20 {p:Nat}(h:p<=s.cps.toList.length):(Txt.slice s (some (p:Int)) none).cps.toList=s.cps.toList.drop p:=by
 have:=PyProof.Rows.slice_from_eq (x:=s) (i:=p) (by simp) (by rw[a5m];omega) rfl
 rw[this,a5m,ft (by simp)];simp
noncomputable def letN (s:Str) (n:Nat):Prop:=s.cps.toList.length=n/\∀ c∈s.cps.toList,isL c
theorem letN.nm (h:letN s n) (h1:1<=n) (h8:n<=8):nmOk s:=⟨by rw[h.1];exact h1,by rw[h.1];exact h8,h.2⟩
theorem letN.sz (h:letN s n) (h8:n<=100):s.length<=sizeLine:=a4s (by rw[a5m,h.1];omega)
theorem letN.one (h:isL c):letN ⟨#[c]⟩ 1:=⟨rfl,λx a=>by
 have:x=c:=by simpa using a
 rw[this];exact h⟩
theorem letN.add {a b:Str}{n m:Nat}(h:letN a n) (g:letN b m):letN (a++b) (n+m):=⟨by rw[a5C,eB,h.1,g.1],λc hc=>by
 rw[a5C]at hc;rcases ei.mp hc with hc | hc
 ·exact h.2 c hc
 ·exact g.2 c hc⟩
theorem letN.to (h:letN s n) (hp:p<=n):letN (Txt.slice s none (some (p:Int))) p:=⟨by rw[b9z (by rw[h.1];exact hp),eK,h.1];omega,λc a=>by
 rw[b9z (by rw[h.1];exact hp)]at a;exact h.2 c (fF a)⟩
theorem letN.from (h:letN s n) (hp:p<=n):letN (Txt.slice s (some (p:Int)) none) (n - p):=⟨by rw[b20 (by rw[h.1];exact hp),fC,h.1],λc a=>by
 rw[b20 (by rw[h.1];exact hp)]at a;exact h.2 c (ie a)⟩
theorem a6Y:∀ (ys:List Str),(∀ s∈ys,letN s 1)->letN (Str.join (Str.ofString "") ys) ys.length
 | [],_=>⟨by decide +kernel,λc a=>by rw[show (Str.join _ []).cps.toList=[] by decide +kernel]at a;simp at a⟩
 | [s],h=>h s (.head _)
 | s::t::r,h=>by
  have b:=a6Y _ λu d=>h u (.tail _ d);have e:letN (Str.ofString "") 0:=⟨by decide +kernel,λc a=>by rw[show (Str.ofString "").cps.toList=[] by decide +kernel]at a;simp at a⟩
  have:=((h s (.head _)).add e).add b
  rw[show 1+0+(t::r).length=(s::t::r).length by simp;omega]at this;exact this
theorem b21 (ys:List Str) (h:∀ s∈ys,letN s 1):letN (Txt.join (Str.ofString "") ys) ys.length:=by
 have e:Txt.join _ ys=Str.join (Str.ofString "") ys:=StrLaws.glued_eq_join _ _;rw[e];exact a6Y ys h
theorem a98:∀ (ys:List Str),(∀ s∈ys,letN s 1)->(ys.map (·.length)).sum=ys.length
 | [],_=>rfl
 | s::r,h=>by
  rw[eG,List.sum_cons,a98 r λu a=>h u (.tail _ a),eu,a5m,(h s (.head _)).1];omega
theorem b9A:∀ i:Nat,i<8->([8,8,26,26,26,26,26,26,26,26,26,2]:List Int)[3+i]?=some 26:=by decide
theorem a7z {α:Type}{P:α->Prop}{l:List α}{x:α}(h:∀ s∈l,P s) (hx:P x):∀ s∈l++[x],P s:=λs a=>by
 rcases ei.mp a with a | a
 ·exact h s a
 ·simp_all
theorem b65 (h0:0<=k) (h1:k<26) (h0':0<=k') (h1':k'<26) (e:atI LET.cps.toList k=some c) (e':atI LET.cps.toList k'=some c):k=k':=by
 obtain⟨j,rfl⟩:=gm h0;obtain⟨f,rfl⟩:=gm h0';have d:∀ i:Nat,i<26->atI LET.cps.toList i=LET.cps.toList[i]?:=λi l=>by
  obtain⟨x,g⟩:∃ x,LET.cps.toList[i]?=some x:=⟨_,eI (by rw[a5B];exact l)⟩;rw[g];exact a2k g
 rw[d j (by omega),a5B]at e;rw[d f (by omega),a5B]at e';have h:∀ a b:Fin 26,([101,116,97,111,105,110,115,104,114,100,108,117,99,109,102,119,121,112,118,98,103,107,106,113,120,122])[a.1]?=([101,116,97,111,105,110,115,104,114,100,108,117,99,109,102,119,121,112,118,98,103,107,106,113,120,122])[b.1]?->a=b:=by decide +kernel
 have:=h ⟨j,by omega⟩ ⟨f,by omega⟩ (e.trans e'.symm)
 have:j=f:=congrArg Fin.val this
 omega
theorem b66 (h:ns.Nodup) (hl:∀ u∈ns,letN u m) (hs:letN s l) (ne:l≠m) (hn:ns≠[]):(ns.set (ns.length - 1) s).Nodup:=by
 obtain⟨x,d⟩:∃ x,ns.getLast?=some x:=⟨_,List.getLast?_eq_some_getLast hn⟩;rw[a9X d,fP];refine⟨h.sublist (List.dropLast_sublist _),by simp,λa c b e z=>ne ?_⟩;rw[et.mp e]at z
 have:=(hl a (iQ _ c)).1
 rw[z,hs.1]at this;exact this
noncomputable def a99:P3:=λws G R=>∃ (c w n:Int),ws=[.int c,.int w,.int n]/\1<=n/\n<=22/\∀ (t:Addr) (ns:List Str) (G':Hq),G t=none->G' t=some (.lst (ns.map Z.str))->(ns.length:Int)=n->(∀ s∈ns,nmOk s)->ns.Nodup->Sm G G'->R (.ref t) G'
theorem b22 (h:a99 ws G R):ws.length=3:=by obtain⟨_,_,_,rfl,_⟩:=h;rfl
abbrev B12:List Int:=[8,8,26,26,26,26,26,26,26,26,26,2]
theorem b4u (F:Fns K a) (T:Txt K mg a):FnOk P w K mg base CX0 3 a.f30 a.d30 ["cell","way","many"] (lowP K a99):=by
 have G_parts:=a97 (P:=P) (w:=w) (base:=base) F T;refine fn3 F.n30 sc_names (λws G R h=>(by exact b22 h)) (λcdv A outer s H E ws G R hr h=>?_);have hu:=a0T hr;refine⟨_,(a0l (a02 (i:=3) sc_names.nd rfl (fJ rfl) a5b)
  (a0l (a02 (i:=4) sc_names.nd rfl (fJ rfl) (a0y G_parts (hr.mono (by decide)) rfl T.m29 F.n29.kp (a9R F) (a0b (a0c (pv 0)) (a0b (a0c (pv 1)) (a0b (q_op a1L (q_op a1L (a15 (a0b a0h (a0b a0h (a0b a0h a0g a0f) a0f) a0f)) (q_op c0T (a15 (a0b a0h a0g a0f)) a0h)) (a15 (a0b a0h a0g a0f))) a0g a0H) a0a) a0a) (he:=a0a) (hpl:=(a0m a0a (a0m a0H a0j)))))
  (a0l (a02 (i:=5) sc_names.nd rfl (fJ rfl) (q_bm PySem.F.plainAttrs_str PySem.F.slot_str_join PySem.F.type_str_join b8n a5b (a0b (q_lc (N₀:=["cell","way","many","letters","xs","stem","at","found"]) (so:=a0e a5Z) (N':=["k","letters","xs"]) (cap:=[none,some 3,some 4]) (pt:=(.nm 0)) rfl rfl rfl (by decide +kernel) rfl (a3m rfl T.b_range (a0b (q_op a1L a0h (q_ix x_ix (a0c (pv 4)) a0h (λ_ _=>rfl))) a0g a0H)) (λ_ _ _ _=>(show QP _ _ (.nm 0) from (a0n (i:=0) b9d rfl (ee rfl)))) (λ_ _ _ _=>a2v) (λ_ _ _ _=>(q_ix x_ix (a0c (pv 1)) (q_ix x_ix (a0c (pv 2)) (q_op a1L a0h (a0c (pv 0))) (λ_ _=>rfl)) (λ_ _=>rfl)))) a0g a0J)))
  (a0l (a02 (i:=6) sc_names.nd rfl (fJ rfl) (q_op a5M (q_ix x_ix (a0c (pv 4)) a0h (λ_ _=>rfl)) (a0w b_len rfl T.b_len PySem.boot_len (a0b (a0c (pv 5)) a0g a0a) (he:=a0a) (hpl:=a0j))))
  (a0l (a7e (i:=7) sc_names.nd rfl rfl (N₀:=["cell","way","many","letters","xs","stem","at","found"]) (so:=a0e a5Z) (N':=["k","stem","letters","at","xs"]) (cap:=[none,some 5,some 3,some 6,some 4]) (pt:=(.nm 0)) rfl rfl rfl (by decide +kernel) rfl (a3m rfl T.b_range (a0b (a0c (pv 2)) a0g a0a)) (λ_ _ _ _=>(show QP _ _ (.nm 0) from (a0n (i:=0) b9e rfl (ee rfl)))) (λ_ _ _ _=>a2v) (λ_ _ _ _=>(q_op a1L (q_op a1L (a14 x_sl (a0c (pv 1)) a1W (a2O (a0c (pv 3)))) (q_ix x_ix (a0c (pv 2)) (q_op a5M (q_op a1L (q_ix x_ix (a0c (pv 4)) a0h (λ_ _=>rfl)) (a0c (pv 0))) a0h) (λ_ _=>rfl))) (a14 x_sl (a0c (pv 1)) (a2O (q_op a1L (a0c (pv 3)) a0h)) a1W))))
  (b3L (z_if (QW.qt (b0t (a0E (o_eq hu) (q_ix x_ix (a0c (pv 4)) a0h (λ_ _=>rfl)) a0h (a0B _)) (a7R (a0E o_lt (a0w b_len rfl T.b_len PySem.boot_len (a0b (a0c (pv 5)) a0g a0a) (he:=a0a) (hpl:=a0j)) a0h (a0B _)))))
  (a0o (a7T (q_op a1L (q_ix x_ix (a0c (pv 7)) a0h (λ_ _=>rfl)) (q_ix x_ix (q_ix x_ix (a0c (pv 7)) a0h (λ_ _=>rfl)) a0h (λ_ _=>rfl))) (a0c (pv 7)) (q_un a5N a0h) b6b))
  (a0o (z_if (a0E (o_eq hu) (q_ix x_ix (a0c (pv 4)) a0h (λ_ _=>rfl)) a0h (a0B _))
  (a0o (a7T (a14 x_sl (q_ix x_ix (a0c (pv 7)) a0h (λ_ _=>rfl)) (a2O a0h) a1W) (a0c (pv 7)) (q_un a5N a0h) b6b))
  a1f)))
  (a0o (a0D (a0c (pv 7)))))))))),?_⟩
 obtain⟨c,w,n,rfl,n1,n2,q⟩:=h;symm;refine⟨lenK rfl,λa1 h1=>?_⟩;symm;refine⟨lenK rfl,λa2 h2=>?_⟩;symm;refine c0U a0d (by decide) (by decide) (lenK rfl) λa3 h3=>?_;symm;refine b1Y (a0k (a0k a0d h2) h3) a0d (lenK rfl) λa4 h4=>?_;symm;refine⟨lenK rfl,λa5 h5=>?_⟩;symm;refine b1Y (a0k a0d h5) a0d (lenK rfl) λa6 h6=>?_;have s6:=(((((Sm.new (o:=.lst [.int 8,.int 8,.int 26]) h1).trans (Sm.new (o:=.lst [.int 26]) h2)).trans (Sm.new (o:=.lst (eM (8:Int).toNat [Z.int 26]).flatten) h3)).trans (Sm.new (o:=.lst ([.int 8,.int 8,.int 26]++(eM (8:Int).toNat [Z.int 26]).flatten)) h4)).trans (Sm.new (o:=.lst [.int 2]) h5)).trans (Sm.new (o:=.lst ([.int 8,.int 8,.int 26]++(eM (8:Int).toNat [Z.int 26]).flatten++[.int 2])) h6);symm;refine⟨c,w,a6,B12,rfl,a0d,by decide,by decide,λt xs ht hB=>?_⟩;have s7:=s6.trans (Sm.new (o:=.lst (xs.map Z.int)) ht);have gx:put (put (put (put (put (put (put G a1 (.lst [.int 8,.int 8,.int 26])) a2 (.lst [.int 26])) a3 (.lst (eM (8:Int).toNat [Z.int 26]).flatten)) a4 (.lst ([.int 8,.int 8,.int 26]++(eM (8:Int).toNat [Z.int 26]).flatten))) a5 (.lst [.int 2])) a6 (.lst ([.int 8,.int 8,.int 26]++(eM (8:Int).toNat [Z.int 26]).flatten++[.int 2]))) t (.lst (xs.map Z.int)) t=some (.lst (xs.map Z.int)):=a0d;generalize put (put (put (put (put (put (put G a1 (.lst [.int 8,.int 8,.int 26])) a2 (.lst [.int 26])) a3 (.lst (eM (8:Int).toNat [Z.int 26]).flatten)) a4 (.lst ([.int 8,.int 8,.int 26]++(eM (8:Int).toNat [Z.int 26]).flatten))) a5 (.lst [.int 2])) a6 (.lst ([.int 8,.int 8,.int 26]++(eM (8:Int).toNat [Z.int 26]).flatten++[.int 2]))) t (.lst (xs.map Z.int))=G7 at s7 gx ⊢;clear s6 ht h6 h5 h4 h3 h2 h1;obtain⟨x0,e0,x00,x01⟩:=hB.at (i:=0) (b:=8) rfl;obtain⟨x1,e1,x10,x11⟩:=hB.at (i:=1) (b:=8) rfl;obtain⟨x2,e2,x20,x21⟩:=hB.at (i:=2) (b:=26) rfl;obtain⟨x9,e9,x90,x91⟩:=hB.at (i:=11) (b:=2) rfl;symm;refine a0Q gx (a0K e0) ?_;symm;refine⟨by omega,by omega,?_⟩;intro D hD;obtain⟨m,hm⟩:∃ m:Nat,(1+x0).toNat=m:=⟨_,rfl⟩;have hm1:1<=m:=by omega
 have hm8:m<=8:=by omega
 rw[hm];refine b0v (λi ys G'=>∃ ss:List Str,ys=ss.map Z.str/\ss.length=i/\(∀ s∈ss,letN s 1)/\G'=put G7 D (.lst (ss.map Z.str))) ⟨[],rfl,rfl,λs h=>by simp at h,rfl⟩ (λ_ _ _ _ _=>True.intro) ?_ ?_
 ·rintro i x ys G' hx ⟨ss,rfl,hl,hall,rfl⟩;obtain⟨hi,rfl⟩:=a16 hx;obtain⟨y,ey,y0,y1⟩:=hB.at (b9A i (by omega));obtain⟨ch,ech,hch⟩:=b5t y0 y1;refine⟨_,rfl,?_⟩;symm;refine a0Q (a0k gx hD) (by rw[show (3:Int)+(0+(i:Int))=((3+i:Nat):Int) by omega];exact a0K ey) ?_;symm;refine b6f (lenK rfl) ech ?_;refine⟨a0d,by rw[dY];exact a0v (by omega),ss++[⟨#[ch]⟩],by rw[eD];rfl,by simp;exact hl,a7z hall (letN.one hch),?_⟩;rw[a2q,eD];rfl
 ·rintro ys G' ⟨ss,rfl,hl,hall,rfl⟩;rw[a0R]at hl;have hstem:=b21 ss hall;rw[hl]at hstem;symm;refine b8D a0d (by rw[a98 ss hall,hl,show (Str.ofString "").length=0 by decide +kernel];omega) ?_;have gx8:=a0k (o:=.lst (ss.map Z.str)) gx hD;have s8:=s7.trans (Sm.new (o:=.lst (ss.map Z.str)) hD);generalize put G7 D (.lst (ss.map Z.str))=G8 at gx8 s8 ⊢;generalize Txt.join (Str.ofString "") ss=stem at hstem ⊢;have hls:stem.length=m:=by rw[a5m,hstem.1]
  symm;refine a0Q gx8 (a0K e1) ?_;symm;refine a9x (hstem.sz (by omega)) ?_;symm;rw[hls];refine i_I (show (0:Int)<(m:Int) by omega) ?_;symm;have hat:0<=x1 % (m:Int)/\x1 % (m:Int)<m:=⟨fQ _ (by omega),fY _ (by omega)⟩;obtain⟨p,hp⟩:∃ p:Nat,x1 % (m:Int)=(p:Int):=⟨(x1 % (m:Int)).toNat,by omega⟩;rw[hp]at hat ⊢;refine⟨by omega,by omega,?_⟩;intro F hF;refine b0v (λi ys G'=>∃ ns:List Str,ys=ns.map Z.str/\ns.length=i/\(∀ s∈ns,letN s m)/\ns.Nodup/\(∀ s∈ns,∃ (j c:Nat),j<i/\atI LET.cps.toList ((x2+(0+(j:Int))) % 26)=some c/\s.cps.toList=(Txt.slice stem none (some (p:Int))).cps.toList++[c]++(Txt.slice stem (some ((p+1:Nat):Int)) none).cps.toList)/\G'=put G8 F (.lst (ns.map Z.str))) ⟨[],rfl,rfl,(λs h=>by simp at h),.nil,(λs h=>by simp at h),rfl⟩ (λ_ _ _ _ _=>True.intro) ?_ ?_
  ·rintro i x ys G' hx ⟨ns,rfl,hnl,hnall,hnd,hns,rfl⟩;obtain⟨hi,rfl⟩:=a16 hx;refine⟨_,rfl,?_⟩;symm;refine b6g (hstem.sz (by omega)) ?_;have l1:=hstem.to (p:=p) (by omega);symm;refine a0Q (a0k gx8 hF) (a0K e2) ?_;symm;refine i_I (show (0:Int)<26 by decide) ?_;symm;obtain⟨ch,ech,hch⟩:=b5t (fQ (x2+(0+(i:Int))) (by decide:(26:Int)≠0)) (fY _ (by decide));refine b6f (lenK rfl) ech ?_;have l2:=l1.add (letN.one hch);refine b1X (a4s (by rw[a5m,l1.1];show p+1<=1000;omega)) ?_;symm;refine b6g (hstem.sz (by omega)) ?_;have l3:=hstem.from (p:=p+1) (by omega);have l4:=l2.add l3;rw[show p+1+(m - (p+1))=m by omega]at l4;rw[show ((p:Int)+1)=((p+1:Nat):Int) by omega];refine b1X (a4s (by rw[a5m,a5m,l2.1,l3.1];omega)) ?_;have eN:(Txt.slice stem none (some (p:Int))++(⟨#[ch]⟩:Str)++Txt.slice stem (some ((p+1:Nat):Int)) none).cps.toList=(Txt.slice stem none (some (p:Int))).cps.toList++[ch]++(Txt.slice stem (some ((p+1:Nat):Int)) none).cps.toList:=by rw[a5C,a5C]
   have hin:i<22:=by omega
   refine⟨a0d,by rw[dY];exact a0v (by omega),_,by rw[eD];rfl,by simp;exact hnl,a7z hnall l4,?_,?_,?_⟩
   ·rw[fP];refine⟨hnd,by simp,λu hu v hv z=>?_⟩;rw[et.mp hv]at z;obtain⟨j,c',hj,ec',es⟩:=hns u hu;rw[z,eN]at es;have ecc:ch=c':=by simpa using es
    subst ecc
    have:=b65 (fQ _ (by decide)) (fY _ (by decide)) (fQ _ (by decide)) (fY _ (by decide)) ech ec'
    omega
   ·refine a7z (λs hs=>?_) ⟨i,ch,by omega,ech,eN⟩;obtain⟨j,c',hj,r⟩:=hns s hs;exact⟨j,c',by omega,r⟩
   rw[a2q,eD];rfl
  ·rintro ys G' ⟨ns,rfl,hnl,hnall,hnd,_,rfl⟩;rw[a0R]at hnl;have s9:=s8.trans (Sm.new (o:=.lst (ns.map Z.str)) hF);have gx9:=a0k (o:=.lst (ns.map Z.str)) gx8 hF;have gF:put G8 F (.lst (ns.map Z.str)) F=some (.lst (ns.map Z.str)):=a0d;have hFG:G F=none:=s8.free hF;generalize put G8 F (.lst (ns.map Z.str))=G9 at s9 gx9 gF ⊢;have hnn:∀ s∈ns,nmOk s:=λs hs=>(hnall s hs).nm hm1 hm8;obtain⟨a,as,ea⟩:∃ a as,ns=a::as:=by cases ns with | nil=>simp at hnl;omega | cons a as=>exact⟨a,as,rfl⟩
   have ha:=hnall a (by rw[ea];simp);have hla:a.length=m:=by rw[a5m,ha.1]
   have at0a:atI (ns.map Z.str) 0=some (.str a):=by rw[ea];exact at0
   obtain⟨c0,cr,ec⟩:∃ c0 cr,a.cps.toList=c0::cr:=by
    have:=ha.1
    cases h:a.cps.toList with
    | nil=>rw[h]at this;simp at this;omega
    | cons c cr=>exact⟨c,cr,rfl⟩
   have hc0:isL c0:=ha.2 c0 (by rw[ec];simp);have hix:ixN (ns.map Z.str).length (-1)=some ((ns.map Z.str).length - 1):=a9b (by rw[dY,ea];simp);have setok:∀ s l,letN s l->l≠m->nmOk s->∃ ns':List Str,(ns.map Z.str).set ((ns.map Z.str).length - 1) (.str s)=ns'.map Z.str/\ns'.length=ns.length/\ns'.Nodup/\∀ u∈ns',nmOk u:=λs l hsl ne hs=>by
    refine⟨ns.set (ns.length - 1) s,by rw[dY,List.map_set],by simp,b66 hnd hnall hsl ne (by rw[ea];simp),λu hu=>?_⟩;rcases List.mem_or_eq_of_mem_set hu with hu | hu
    ·exact hnn u hu
    ·rw[hu];exact hs
   symm;refine b3R (fun σ' G'=>∃ ns':List Str,ns'.length=ns.length/\(∀ s∈ns',nmOk s)/\ns'.Nodup/\Sm G G'/\G' F=some (.lst (ns'.map Z.str))/\σ'=[some (.int c),some (.int w),some (.int n),some (.str LET),some (.ref t),some (.str stem),some (.int p),some (.ref F)]) ?_ ?_
   ·symm;refine a0Q gx9 (a0K e9) ?_;symm;refine ifD (λc1=>?_) λc1=>?_
    ·symm;refine a9x (hstem.sz (by omega)) ?_;symm;rw[hls];refine ifD (λc2=>?_) λc2=>?_
     ·symm;refine a0Q gF at0a ?_;symm;refine a0Q gF at0a ?_;symm;refine b6f (ha.sz (by omega)) (by rw[ec];exact at0) ?_;refine b1X (a4s (by rw[hla];show m+1<=1000;omega)) ?_;symm;refine b6h gF hix ?_;obtain⟨ns',en,hl',hnd',hok'⟩:=setok _ _ (ha.add (letN.one hc0)) (by omega) ((ha.add (letN.one hc0)).nm (by omega) (by omega));exact⟨ns',hl',hok',hnd',s9.put hFG,by rw[a0d,en],rfl⟩
     ·symm;refine a0Q gx9 (a0K e9) ?_;symm;refine ifD (λ_=>?_) λz=>absurd c1 z;symm;refine a0Q gF at0a ?_;symm;refine b6g (ha.sz (by omega)) ?_;symm;refine b6h gF hix ?_;obtain⟨ns',en,hl',hnd',hok'⟩:=setok _ _ (ha.from (p:=1) (by omega)) (by omega) ((ha.from (p:=1) (by omega)).nm (by omega) (by omega));exact⟨ns',hl',hok',hnd',s9.put hFG,by rw[a0d];exact congrArg _ (congrArg _ en),rfl⟩
    ·symm;refine a0Q gx9 (a0K e9) ?_;symm;refine ifD (λz=>absurd z c1) λ_=>?_;symm;exact⟨hnn,hnd,s9,gF,rfl⟩
   ·rintro σ' G' ⟨ns',hl',hok',hnd',s10,gF',rfl⟩;symm;exact q F ns' G' hFG gF' (by rw[hl',hnl];omega) hok' hnd' s10
theorem b0N:(10:Int) ^ (12:Int).toNat=1000000000000:=by decide
theorem b5u {ns:List Str}(h:∀ s∈ns,nmOk s) (h0:0<=k) (h1:k<(ns.length:Int)):∃ s,atI (ns.map Z.str) k=some (.str s)/\s∈ns/\nmOk s:=by
 obtain⟨j,rfl⟩:=gm h0;have a:j<ns.length:=by omega
 exact⟨ns[j],a2k (by simp_all),fV a,h _ (fV a)⟩
theorem at_3 {a b c:Int}{k:Int}(h0:0<=k) (h1:k<3) {P:Int->Prop}(pa:P a) (pb:P b) (pc:P c):∃ n,atI [Z.int a,.int b,.int c] k=some (.int n)/\P n:=by
 have:k=0\/k=1\/k=2:=by omega
 rcases this with rfl | rfl | rfl
 ·exact⟨_,rfl,pa⟩
 ·exact⟨_,rfl,pb⟩
 ·exact⟨_,rfl,pc⟩
theorem at_4 {a b c d:Int}{k:Int}(h0:0<=k) (h1:k<4) {P:Int->Prop}(pa:P a) (pb:P b) (pc:P c) (pd:P d):∃ n,atI [Z.int a,.int b,.int c,.int d] k=some (.int n)/\P n:=by
 have:k=0\/k=1\/k=2\/k=3:=by omega
 rcases this with rfl | rfl | rfl | rfl
 ·exact⟨_,rfl,pa⟩
 ·exact⟨_,rfl,pb⟩
 ·exact⟨_,rfl,pc⟩
 ·exact⟨_,rfl,pd⟩
noncomputable def a6Z:P3:=λws G R=>Ex6 λ(c w:Int) (ks wsA:Addr) (kn wn:List Str)=>ws=[.int c,.int w,.ref ks,.ref wsA]/\G ks=some (.lst (kn.map Z.str))/\G wsA=some (.lst (wn.map Z.str))/\1<=kn.length/\kn.length<=20/\1<=wn.length/\wn.length<=20/\(∀ s∈kn,nmOk s)/\(∀ s∈wn,nmOk s) /\
 ∀ τ G',Sm G G'->Tl.Ok τ->τ.key∈kn->R τ.z G'
theorem a9g (h:a6Z ws G R):ws.length=4:=by obtain⟨_,_,_,_,_,_,rfl,_⟩:=h;rfl
theorem b0O (F:Fns K a) (T:Txt K mg a):FnOk P w K mg base CX0 3 a.f31 a.d31 ["cell","way","keys","worths"] (lowP K a6Z):=by
 have G_parts:=a97 (P:=P) (w:=w) (base:=base) F T;refine fn3 F.n31 sc_telling (λws G R h=>(by exact a9g h)) (λcdv A outer s H E ws G R hr h=>?_);have hu:=a0T hr;refine⟨_,(a0l (a02 (i:=4) sc_telling.nd rfl (ee rfl) (a0y G_parts (hr.mono (by decide)) rfl T.m29 F.n29.kp (a9R F) (a0b (a0c (pv 0)) (a0b (a0c (pv 1)) (a0b (a15 (a0b a0h (a0b (a0w b_len rfl T.b_len PySem.boot_len (a0b (a0c (pv 2)) a0g a0a) (he:=a0a) (hpl:=a0j)) (a0b (a0w b_len rfl T.b_len PySem.boot_len (a0b (a0c (pv 3)) a0g a0a) (he:=a0a) (hpl:=a0j)) (a0b a0h (a0b a0h (a0b a0h (a0b a0h (a0b (q_op a1L (q_op b1L a0h a0h) a0h) (a0b (q_op b1L a0h a0h) a0g a0H) a0H) a0f) a0f) a0f) a0f) a0I) a0I) a0f)) a0g a4N) a0a) a0a) (he:=a0a) (hpl:=(a0m a0a (a0m a4N a0j)))))
  (a0l (a02 (i:=5) sc_telling.nd rfl (ee rfl) (q_ix x_ix (a15 (a0b (q_ix x_ix (a0c (pv 4)) a0h (λ_ _=>rfl)) (a0b (q_op b55 (q_op b1L a0h a0h) (q_op a5M (q_ix x_ix (a0c (pv 4)) a0h (λ_ _=>rfl)) a0h)) (a0b (q_ix x_ix (a0c (pv 4)) a0h (λ_ _=>rfl)) a0g a0i) a0H) a0i)) (a0w (b_min rfl) rfl T.b_min rfl (a0b a0h (a0b (q_ix x_ix (a0c (pv 4)) a0h (λ_ _=>rfl)) a0g a0i) a0f) (he:=a0f) (hpl:=(a0m a0i a0j))) (λ_ _=>rfl)))
  (a0l (a02 (i:=6) sc_telling.nd rfl (ee rfl) a4c)
  (b3L (z_if (QW.qt (b0t (a0E o_gt (q_ix x_ix (a0c (pv 4)) a0h (λ_ _=>rfl)) a0h (a0B _)) (a7R (a0E o_lt (a0c (pv 5)) (q_op b1L a0h a0h) (a0B _)))))
  (a0o (a02 (i:=6) sc_telling.nd rfl (ee rfl) (a0w (b_min rfl) rfl T.b_min rfl (a0b (q_op b1L a0h a0h) (a0b (q_op a1L (q_op a1L (a0c (pv 5)) a0h) (q_ix x_ix (a15 (a0b (q_op a5M (q_ix x_ix (a0c (pv 4)) a0h (λ_ _=>rfl)) a0h) (a0b (q_ix x_ix (a0c (pv 4)) a0h (λ_ _=>rfl)) (a0b (q_ix x_ix (a0c (pv 4)) a0h (λ_ _=>rfl)) (a0b (q_ix x_ix (a0c (pv 4)) a0h (λ_ _=>rfl)) a0g a0i) a0i) a0i) a0H)) (q_op b55 (q_ix x_ix (a0c (pv 4)) a0h (λ_ _=>rfl)) a0h) (λ_ _=>rfl))) a0g a0H) a0H) (he:=a0H) (hpl:=(a0m a0H a0j)))))
  a1f)
  (a0l (z_if (a0E (o_eq hu) (q_ix x_ix (a0c (pv 4)) a0h (λ_ _=>rfl)) a0h (a0B _))
  (a0o (a0D (a2Y (a0b a5b (a0b (q_ix x_ix (a0c (pv 2)) (q_ix x_ix (a0c (pv 4)) a0h (λ_ _=>rfl)) (λ_ _=>rfl)) (a0b (a0c (pv 5)) (a0b (a0c (pv 6)) a0g a0a) a0a) a0i) a0f))))
  a1f)
  (a0o (a0D (a2Y (a0b a5b (a0b (q_ix x_ix (a0c (pv 2)) (q_ix x_ix (a0c (pv 4)) a0h (λ_ _=>rfl)) (λ_ _=>rfl)) (a0b (q_ix x_ix (a0c (pv 3)) (q_ix x_ix (a0c (pv 4)) a0h (λ_ _=>rfl)) (λ_ _=>rfl)) (a0b (a0c (pv 5)) (a0b (a0c (pv 6)) a0g a0a) a0a) a0i) a0i) a0f))))))))),?_⟩
 obtain⟨c,w,ks,wsA,kn,wn,rfl,hk,hw,kn1,kn2,wn1,wn2,hkn,hwn,q⟩:=h;symm;refine a7X hk ?_;symm;refine a7X hw ?_;symm;refine i_I ⟨by decide,by decide,by decide⟩ ?_;rw[b0N];symm;refine i_I ⟨by decide,by decide,by decide⟩ ?_;rw[b0N];symm;refine⟨lenK rfl,λa1 h1=>?_⟩;symm;rw[dY,dY];refine⟨c,w,a1,[4,(kn.length:Int),(wn.length:Int),24,5,40,8,1000000000000+1,1000000000000],rfl,a0d,by show 9<=20;decide,λb hb=>?_,λt xs ht hB=>?_⟩
 ·simp only[eC,jE,or_false]at hb;rcases hb with rfl | rfl | rfl | rfl | rfl | rfl | rfl | rfl | rfl<;>omega
 have s2:=(Sm.new (o:=.lst [.int 4,.int (kn.length:Int),.int (wn.length:Int),.int 24,.int 5,.int 40,.int 8,.int (1000000000000+1),.int 1000000000000]) h1).trans (Sm.new (o:=.lst (xs.map Z.int)) ht);have gx:put (put G a1 (.lst [.int 4,.int (kn.length:Int),.int (wn.length:Int),.int 24,.int 5,.int 40,.int 8,.int (1000000000000+1),.int 1000000000000])) t (.lst (xs.map Z.int)) t=some (.lst (xs.map Z.int)):=a0d;generalize put (put G a1 (.lst [.int 4,.int (kn.length:Int),.int (wn.length:Int),.int 24,.int 5,.int 40,.int 8,.int (1000000000000+1),.int 1000000000000])) t (.lst (xs.map Z.int))=G2 at s2 gx ⊢;obtain⟨x0,e0,x00,x01⟩:=hB.at (i:=0) rfl;obtain⟨x1,e1,x10,x11⟩:=hB.at (i:=1) rfl;obtain⟨x2,e2,x20,x21⟩:=hB.at (i:=2) rfl;obtain⟨x3,e3,x30,x31⟩:=hB.at (i:=3) rfl;obtain⟨x4,e4,x40,x41⟩:=hB.at (i:=4) rfl;obtain⟨x5,e5,x50,x51⟩:=hB.at (i:=5) rfl;obtain⟨x6,e6,x60,x61⟩:=hB.at (i:=6) rfl;obtain⟨x7,e7,x70,x71⟩:=hB.at (i:=7) rfl;obtain⟨x8,e8,x80,x81⟩:=hB.at (i:=8) rfl;symm;refine a0Q gx (a0K e7) ?_;symm;refine i_I ⟨by decide,by decide,by decide⟩ ?_;rw[b0N];symm;refine a0Q gx (a0K e3) ?_;symm;refine i_I (show (0:Int)<3 by decide) ?_;symm;refine a0Q gx (a0K e3) ?_;symm;refine⟨lenK rfl,λa3 h3=>?_⟩;symm;refine a0Q (a0k gx h3) (a0K e6) ?_;symm;obtain⟨b,eb,b0,b1⟩:=at_3 (a:=x7) (b:=1000000000000 - x3 % 3) (c:=x3) (k:=if x6<2 then x6 else 2) (by split<;>omega) (by split<;>omega) (P:=λn=>0<=n/\n<=1000000000000) ⟨x70,by omega⟩ ⟨by omega,by omega⟩ ⟨x30,by omega⟩
 refine a0Q a0d eb ?_;have s3:=s2.trans (Sm.new (o:=.lst [.int x7,.int (1000000000000 - x3 % 3),.int x3]) h3);have gx3:=a0k (o:=.lst [.int x7,.int (1000000000000 - x3 % 3),.int x3]) gx h3;generalize put G2 a3 (.lst [.int x7,.int (1000000000000 - x3 % 3),.int x3])=G3 at s3 gx3 ⊢;symm;refine b3R (fun σ' G'=>∃ e:Option Int,stOk b e/\Sm G3 G'/\σ'=[some (.int c),some (.int w),some (.ref ks),some (.ref wsA),some (.ref t),some (.int b),some (oz e)]) ?_ ?_
 ·symm;refine a0Q gx3 (a0K e4) ?_;symm;refine ifD (λc1=>?_) λc1=>?_
  ·symm;refine i_I ⟨by decide,by decide,by decide⟩ ?_;rw[b0N];symm;refine ifD (λc2=>?_) λc2=>?_
   ·symm;refine i_I ⟨by decide,by decide,by decide⟩ ?_;rw[b0N];symm;refine a0Q gx3 (a0K e5) ?_;symm;refine i_I (show (0:Int)<4 by decide) ?_;symm;refine a0Q gx3 (a0K e5) ?_;symm;refine a0Q gx3 (a0K e5) ?_;symm;refine a0Q gx3 (a0K e8) ?_;symm;refine⟨lenK rfl,λa4 h4=>?_⟩;symm;refine a0Q (a0k gx3 h4) (a0K e4) ?_;symm;obtain⟨n,en,n0⟩:=at_4 (a:=x5 % 4) (b:=x5) (c:=x5) (d:=x8) (k:=x4 - 1) (by omega) (by omega) (P:=λn=>0<=n) (fQ _ (by decide)) x50 x50 x80;refine a0Q a0d en ?_;symm;refine⟨some (if b+1+n<1000000000000 then b+1+n else 1000000000000),⟨b0,b1,λx hx=>?_⟩,Sm.new h4,rfl⟩;cases hx;unfold T12
    split<;>omega
   ·symm;exact⟨none,⟨b0,b1,λx hx=>nomatch hx⟩,Sm.refl _,rfl⟩
  ·symm;exact⟨none,⟨b0,b1,λx hx=>nomatch hx⟩,Sm.refl _,rfl⟩
 ·rintro σ' G' ⟨e,hst,s4,rfl⟩;have gx4:=s4 _ _ gx3;have S4:=s3.trans s4;obtain⟨kk,ekk,mkk,hkk⟩:=b5u hkn x10 x11;obtain⟨ww,eww,_,hww⟩:=b5u hwn x20 x21;symm;refine a0Q gx4 (a0K e0) ?_;symm;refine ifD (λc1=>?_) λc1=>?_
  ·symm;refine a0Q gx4 (a0K e1) ?_;symm;refine a0Q (S4 _ _ hk) ekk ?_;symm;refine⟨lenK rfl,?_⟩;exact q ⟨kk,none,b,e⟩ G' S4 ⟨hkk,(λs h=>nomatch h),hst⟩ mkk
  ·symm;refine a0Q gx4 (a0K e1) ?_;symm;refine a0Q (S4 _ _ hk) ekk ?_;symm;refine a0Q gx4 (a0K e2) ?_;symm;refine a0Q (S4 _ _ hw) eww ?_;symm;refine⟨lenK rfl,?_⟩;exact q ⟨kk,some ww,b,e⟩ G' S4 ⟨hkk,(λs h=>by cases h;exact hww),hst⟩ mkk
noncomputable def b0P (kvs:List (Key×Z)) (ns:List Int):Prop:=kvs.map (·.1)=ns.map λi=>(Sum.inl (some i):Key)
theorem b4v (h:b0P kvs ns) (hd:ns.Nodup) (x:Int) (v:Z):∃ ms,b0P (putZ kvs (.inl (some x)) v) ms/\ms.Nodup/\ms.length<=ns.length+1/\∀ y,y∈ms↔y∈ns\/y=x:=by
 unfold putZ;have g:(kvs.any λc=>decide (c.1=Sum.inl (some x)))=decide (x∈ns):=by
  rw[fI];simp only[fX,decide_eq_true_eq]
  constructor
  ·rintro⟨c,k,l⟩
   have:c.1∈ns.map λi=>(Sum.inl (some i)):=by rw[<- h];exact eU k
   obtain⟨n,j,f⟩:=eq.mp this;rw[l]at f;cases f;exact j
  ·intro d
   have:(Sum.inl (some x))∈kvs.map (·.1):=by rw[h];exact eU d
   obtain⟨c,j,f⟩:=eq.mp this;exact⟨c,j,f⟩
 rw[g]
 by_cases d:x∈ns
 ·rw[decide_eq_true d,if_pos rfl];refine⟨ns,?_,hd,by omega,λy=>⟨.inl,λh=>h.elim id λe=>e▸d⟩⟩;unfold b0P;rw[<- h,eO];refine fq λc _=>?_
  show (if c.1=Sum.inl (some x) then _ else c).1=c.1
  split<;>rfl
 ·rw[decide_eq_false d,if_neg (by simp)];refine⟨ns++[x],?_,?_,by simp,λy=>by simp⟩
  ·unfold b0P;rw[eD,h,eD];rfl
  ·rw[fP];exact⟨hd,by simp,λa m b o=>by rw[et.mp o];rintro rfl;exact d m⟩
theorem b4w (h:b0P kvs ns):kvs.length=ns.length:=by
 have:=congrArg fh h
 simpa using this
noncomputable def inT (x:Int):Prop:=0<=x/\x<=T12
noncomputable def Ks (kvs:List (Key×Z)) (n:Nat):Prop:=∃ ns:List Int,b0P kvs ns/\ns.Nodup/\ns.length<=n/\ns≠[]/\∀ x∈ns,inT x
theorem Ks.put (h:Ks kvs n) (hx:inT x):Ks (putZ kvs (.inl (some x)) v) (n+1):=by
 obtain⟨j,c,e,m,l,d⟩:=h;obtain⟨f,g,i,k,a⟩:=b4v c e x v;refine⟨f,g,i,by omega,λz=>?_,λy b=>?_⟩
 ·have:=(a x).mpr (.inr rfl)
  rw[z]at this;simp at this
 ·rcases (a y).mp b with h | h
  ·simp_all
  ·simp_all
theorem Ks.mono (h:Ks kvs n) (hm:n<=m):Ks kvs m:=let ⟨ns,h1,h2,h3,h4⟩:=h;⟨ns,h1,h2,eF h3 hm,h4⟩
theorem Ks.len (h:Ks kvs n):kvs.length<=n:=by
 obtain⟨c,a,_,b,_⟩:=h;rw[b4w a];exact b
noncomputable def leS (a b:Str):Prop:=PySem.Spec.ltCps b.cps.toList a.cps.toList=false
theorem leS_iff {a b:Str}:leS a b↔¬ b.cps.toList<a.cps.toList:=by unfold leS;rw[PyProof.Rows.ltCps_eq];simp
theorem b23 {a b c:Str}(h:leS a b) (g:leS b c):leS a c:=by
 rw[leS_iff]at *;exact List.le_trans (α:=Nat) h g
theorem b0a {a b:Str}(h:leS a b) (g:leS b a):a=b:=by
 rw[leS_iff]at *;have e:a.cps.toList=b.cps.toList:=jq (α:=Nat) h g;cases a;cases b;simpa using e
theorem b9B:∀ {l:List Str}{p:Str},PyProof.Rows.risingS p l=true->(p::l).Pairwise leS
 | [],p,_=>ib _ _
 | x::r,p,h=>by
  unfold PyProof.Rows.risingS at h;rw[fE,iX]at h;have b:=b9B h.2;refine eW.mpr ⟨λy a=>?_,b⟩;rcases eC.mp a with rfl | a
  ·exact h.1
  ·exact b23 h.1 (gU b a)
theorem b24:∀ {l:List Str},PyProof.Rows.sortedS l=true->l.Pairwise leS
 | [],_=>fk.nil
 | _::_,h=>b9B h
theorem a6g:∀ {xs ys:List Str},xs.Pairwise leS->ys.Pairwise leS->xs.Perm ys->xs=ys
 | [],ys,_,_,h=>(List.nil_perm.mp h).symm
 | x::xs,[],_,_,h=>by have:=h.length_eq;simp at this
 | x::xs,y::ys,h1,h2,h=>by
  have e:x=y:=by
   have c:=h.mem_iff.mp (fA);have b:=h.mem_iff.mpr (fA);rcases eC.mp c with e | c
   ·omega
   ·rcases eC.mp b with e | b
    ·simp_all
    ·exact b0a (gU h1 b) (gU h2 c)
  subst e;rw[a6g (eW.mp h1).2 (eW.mp h2).2 h.cons_inv]
theorem TsV.uniq (h:TsV T k es) (g:TsV T k fs):es=fs:=by
 have e:=h.ix.trans g.ix.symm;have l:es.length=fs.length:=by have:=congrArg fh e;simpa using this
 refine List.ext_getElem l λi c b=>?_;have a:es[i].1=fs[i].1:=by
  have:(es.map (·.1))[i]?=(fs.map (·.1))[i]?:=by rw[e]
  rw[eE,eE,eI c,eI b]at this;simpa using this
 have f:=h.ln es[i] (fV c);have d:=g.ln fs[i] (fV b);rw[<- a]at d;exact Prod.ext a (f.uniq d)
structure TilesIs (T:List Tl) (ss:List Str) (f:Str->List (Int×List Rw)):Prop where
 so:PyProof.Rows.sortedS ss=true
 nd:ss.Nodup
 is:∀ s,s∈ss↔ix T s≠[]
 tv:∀ s∈ss,TsV T s (f s)
noncomputable def a0p (ss:List Str) (f:Str->List (Int×List Rw)):List Z:=ss.flatMap λs=>(TF (f s)).map (Ti.z s)
theorem TilesIs.uniq (h:TilesIs T ss f) (k:TilesIs T us g):a0p ss f=a0p us g:=by
 have e:=a6g (b24 h.so) (b24 k.so) ((io h.nd k.nd).mpr λs=>by rw[h.is,k.is]);subst e;refine congrArg iY (fq λs a=>?_);rw[(h.tv s a).uniq (k.tv s a)]
noncomputable def a3I (a:Ad):P3:=λws G R=>∃ (p:Addr) (S:Addr->Prop) (T:List Tl),ws=[.ref p]/\Sheet a true G p S T/\OkT T/\Few T/\T.length<=63/\∀ t ss f G',G t=none->Sm G G'->TilesIs T ss f->(a0p ss f).all (flat 8)=true->G' t=some (.lst (a0p ss f))->R (.ref t) G'
theorem a6h {a:Ad}{ws:List Z}{G:Hq}{R:K3}(h:a3I a ws G R):ws.length=1:=by obtain⟨_,_,_,rfl,_⟩:=h;rfl
theorem a4b:a0p (ss++[s]) f=a0p ss f++(TF (f s)).map (Ti.z s):=by
 unfold a0p;simp
theorem a3v:∀ {ss:List Str},(∀ s∈ss,(TF (f s)).length<=m)->(a0p ss f).length<=ss.length*m
 | [],_=>by simp[a0p]
 | s::ss,h=>by
  have b:=a3v λu a=>h u (.tail _ a);have c:=h s (.head _);have e:a0p (s::ss) f=(TF (f s)).map (Ti.z s)++a0p ss f:=by unfold a0p;rw[gY]
  rw[e,eB,dY,eu,ip,iq];omega
theorem b25 {t:Ti}(hk:PyData.strOk k=true) (h:∃ w,t.r.w=[.str w]/\PyData.strOk w=true):flat 8 (t.z k)=true:=by
 obtain⟨w,e,a⟩:=h;unfold Ti.z;rw[e]
 show (([.str k,.str w,.int t.r.b,oz t.r.e,.int t.s,oz t.u]).all _)=true
 simp only[fM];rw[show flat 7 (.str k)=true from hk,show flat 7 (.str w)=true from a,a5x,a5x,a89,a89]
 rfl
theorem TsV.fl (h:TsV T k es) (ok:OkT T):∀ t∈TF es,∃ w,t.r.w=[.str w]/\PyData.strOk w=true:=by
 have l:∀ {b:List _},(∀ e∈b,∀ r∈e.2,∃ w,r.w=[.str w]/\PyData.strOk w=true)->∀ t∈TF b,∃ w,t.r.w=[.str w]/\PyData.strOk w=true:=by
  intro b
  induction b using a3f with
  | h0=>exact λ_ t a=>by simp[TF]at a
  | h1 b e ih=>
   intro h t a;rw[a2d]at a;rcases ei.mp a with a | a
   ·obtain⟨n,h0,rfl⟩:=eq.mp a;rw[a8A];exact ih (λx m=>h x (by simp[m])) n h0
   ·obtain⟨r,c,rfl⟩:=eq.mp a;exact h e (by simp) r (fb.mp c).1
 refine l λe f r c=>?_;obtain⟨w,i⟩:=a3t (h.ln e f) c;obtain⟨x,d,j⟩:=(h.ln e f).pl r c;rw[i]at d;cases d;exact⟨w,i,j⟩
noncomputable def esOf (T:List Tl) (s:Str):List (Int×List Rw):=open Classical in if h:∃ es,TsV T s es then h.choose else []
theorem a1e (h:TsV T s es):esOf T s=es:=by
 unfold esOf;rw[dif_pos ⟨es,h⟩];exact (Exists.choose_spec (⟨es,h⟩)).uniq h
theorem c1p (ok:OkT T) (h:ix T s≠[]):nmOk s:=by
 obtain⟨τ,b,a⟩:=a8F h;rw[<- a];exact (ok τ b).k
theorem a6A (F:Fns K a) (T:Txt K mg a):FnOk P w K mg base CX0 1 a.f35 a.d35 ["self"] (lowP K (a3I a)):=by
 refine fn3 F.n35 sc_Tiled_tiles (λws G R h=>(by exact a6h h)) (λcdv A outer s H E ws G R hr h=>?_);have hu:=a0T hr;refine⟨_,(a0l (a02 (i:=1) sc_Tiled_tiles.nd rfl (ee rfl) (a15 a0g))
  (a0l (a26 (pt:=(.nm 2)) j0.never rfl (a0L (a0w (a78 rfl) rfl T.b_sorted rfl (a0b (a4i T.cl_Tiled T.naT_kept (a0c (pv 0))) a0g a0Y) (he:=a0Y) (hpl:=a0j))) (show QP _ _ (.nm 2) from (a0n (i:=2) sc_Tiled_tiles.nd rfl (ee rfl)))
  (a0o (a26 (pt:=(.tp [3,4,5,6,7,8])) j0.never rfl (a0L (q_ix c0R (a4i T.cl_Tiled T.naT_kept (a0c (pv 0))) (a0c (pv 2)) (λ_ _=>rfl))) (show QP _ _ (.tp [3,4,5,6,7,8]) from (a5D rfl (a0z (a0n (i:=3) sc_Tiled_tiles.nd rfl (ee rfl)) (a0z (a0n (i:=4) sc_Tiled_tiles.nd rfl (ee rfl)) (a0z (a0n (i:=5) sc_Tiled_tiles.nd rfl (ee rfl)) (a0z (a0n (i:=6) sc_Tiled_tiles.nd rfl (ee rfl)) (a0z (a0n (i:=7) sc_Tiled_tiles.nd rfl (ee rfl)) (a0z (a0n (i:=8) sc_Tiled_tiles.nd rfl (ee rfl)) a3L))))))))
  (a0o (a05 (q_bm PySem.F.plainAttrs_list PySem.F.slot_list_append PySem.F.type_list_append a1G (a0c (pv 1)) (a0b (a2Y (a0b (a0c (pv 3)) (a0b (a0c (pv 4)) (a0b (a0c (pv 5)) (a0b (a0c (pv 6)) (a0b (a0c (pv 7)) (a0b (a0c (pv 8)) a0g a0a) a0a) a0a) a0a) a0a) a0a)) a0g a2u)))))))
  (a0o (a0D (a0c (pv 1)))))),?_⟩
 obtain⟨p,S,T',rfl,⟨dx,d,kvs,sh⟩,ok,few,hT,fin⟩:=h;symm;refine⟨lenK rfl,λW hW=>?_⟩;have gW:put G W (.lst []) W=some (.lst []):=a0d;have s0:Sm G (put G W (.lst [])):=Sm.new hW;generalize put G W (.lst [])=G1 at gW s0 ⊢;symm;refine⟨p,dx,_,_,rfl,s0 _ _ sh.ob,a3h,?_⟩;symm;obtain⟨ks,hk1,hk2⟩:=a6f sh.sk;have hnd:ks.Nodup:=by
  have:=sh.nd
  rw[hk1]at this;exact (eZ.mp this).imp λh z=>h (by rw[z])
 have hkl:ks.length<=63:=by
  have:=congrArg fh hk1
  rw[dY,dY]at this
  have:=sh.len
  omega
 refine a6T (s0 _ _ sh.dc) hk1 (by omega) λK ts hK pm so=>?_;have gK:put G1 K (.lst (ts.map Z.str)) K=some (.lst (ts.map Z.str)):=a0d;have s1:Sm G1 (put G1 K (.lst (ts.map Z.str))):=Sm.new hK;have nWK:W≠K:=a0u gW hK;generalize put G1 K (.lst (ts.map Z.str))=G2 at gK s1 ⊢;have gW2:=s1 _ _ gW;have s02:=s0.trans s1;have tl:=pm.length_eq;have at_:∀ s∈ts,∃ h,valZ kvs (.inr s)=some (.ref h)/\G h=some (.lst ((TF (esOf T' s)).map (Ti.z s)))/\TsV T' s (esOf T' s):=λs hs=>by
  obtain⟨z,ez⟩:=b2X hk1 (pm.mem_iff.mp hs);obtain⟨h,rfl,es,H⟩:=sh.hs s z ez;have tv:TsV T' s es:=⟨H.ix,H.ln⟩;rw[a1e tv];exact⟨h,ez,H.at_,tv⟩
 have ti:TilesIs T' ts (esOf T'):=⟨so,pm.nodup_iff.mpr hnd,λs=>⟨λhs=>?_,λhs=>?_⟩,λs hs=>let ⟨_,_,_,tv⟩:=at_ s hs;tv⟩
 rotate_left
 ·obtain⟨z,ez⟩:=b2X hk1 (pm.mem_iff.mp hs);obtain⟨h,rfl,es,H⟩:=sh.hs s z ez;exact λe=>H.ne (gX.mp (H.ix.trans e))
 ·cases ez:valZ kvs (.inr s) with
  | none=>exact absurd (sh.no s ez) hs
  | some z=>exact pm.mem_iff.mpr (b2Y hk1 ez)
 have lenT:∀ i,(a0p (ts.take i) (esOf T')).length<=63*80000:=λi=>eF (a3v (m:=80000) λs hs=>(ti.tv s (fF hs)).len (by omega)) (iw _ (by rw[eK];omega));symm;refine a17 gK ?_;refine a08 (λi σ G'=>Ex7 λ(v1 v2 v3 v4 v5 v6 v7:Option Z)=>Kq W G2 G'/\G' W=some (.lst (a0p (ts.take i) (esOf T')))/\σ=[some (.ref p),some (.ref W),v1,v2,v3,v4,v5,v6,v7]) ⟨_,_,_,_,_,_,_,λ_ _ e _=>e,gW2,rfl⟩ (by rintro i σ G' _ ⟨_,_,_,_,_,_,_,k,_⟩;exact k _ _ gK (Ne.symm nWK)) ?_ ?_
 ·rintro i x σ G3 hx ⟨v1,v2,v3,v4,v5,v6,v7,kq,gW3,rfl⟩;rw[eE]at hx;cases hx':ts[i]? with
  | none=>rw[hx']at hx;cases hx
  | some s=>
  rw[hx']at hx;cases hx;obtain⟨h,ez,gh,tv⟩:=at_ s (eP hx');have l1:=lenT (i+1);rw[take_snoc hx',a4b,eB,dY]at l1;have ne:∀ {b o},G b=some o->b≠W:=λe=>a0u e hW;refine⟨_,rfl,?_⟩;symm;refine⟨p,dx,_,_,rfl,kq _ _ (s02 _ _ sh.ob) (ne sh.ob),a3h,?_⟩;symm;refine c0S (kq _ _ (s02 _ _ sh.dc) (ne sh.dc)) rfl ez ?_;have gh3:=kq _ _ (s02 _ _ gh) (ne gh);symm;refine a17 gh3 ?_;refine a08 (λj σ G'=>Ex6 λ(v2 v3 v4 v5 v6 v7:Option Z)=>Kq W G3 G'/\G' W=some (.lst (a0p (ts.take i) (esOf T')++((TF (esOf T' s)).take j).map (Ti.z s)))/\σ=[some (.ref p),some (.ref W),some (.str s),v2,v3,v4,v5,v6,v7]) ⟨_,_,_,_,_,_,λ_ _ e _=>e,by simpa using gW3,rfl⟩ (by rintro j σ G' _ ⟨_,_,_,_,_,_,k,_⟩;exact k _ _ gh3 (ne gh)) ?_ ?_
  ·rintro j x σ G4 hx ⟨w2,w3,w4,w5,w6,w7,kq4,gW4,rfl⟩;rw[eE]at hx;cases hr:(TF (esOf T' s))[j]? with
   | none=>rw[hr]at hx;cases hx
   | some t=>
   rw[hr]at hx;cases hx;have hj:=(eL.mp hr).1;refine⟨_,rfl,?_⟩;symm;refine a3R gW4 ?_;symm;refine⟨lenK rfl,?_⟩;symm;refine a1t gW4 (by rw[eB,dY,eK];exact ge (by omega:_<=63*80000) (by decide)) ?_;refine⟨_,_,_,_,_,_,λb o e nb=>by rw[a0x nb];exact kq4 b o e nb,?_,rfl⟩;rw[a0d,take_snoc hr,eD,eT]
   rfl
  ·rintro σ G4 ⟨w2,w3,w4,w5,w6,w7,kq4,gW4,rfl⟩;rw[dY,ff]at gW4;symm;refine⟨_,_,_,_,_,_,_,λb o e nb=>kq4 b o (kq b o e nb) nb,?_,rfl⟩;rw[gW4,take_snoc hx',a4b]
 ·rintro σ G3 ⟨v1,v2,v3,v4,v5,v6,v7,kq,gW3,rfl⟩;rw[dY,ff]at gW3;symm;refine fin W ts (esOf T') G3 hW (λb o e=>kq _ _ (s02 _ _ e) (a0u e hW)) ti ?_ gW3;rw[fL];intro z hz;unfold a0p at hz;obtain⟨s,hs,hz⟩:=iZ.mp hz;obtain⟨t,ht,rfl⟩:=eq.mp hz;exact b25 (a5z (c1p ok ((ti.is s).mp hs)).2.2) ((ti.tv s hs).fl ok t ht)
theorem has_iff {r:Rw}:r.has t=true↔r.b<=t/\∀ e,r.e=some e->t<e:=by
 unfold Rw.has;cases he:r.e with
 | none=>simp[bef]
 | some e=>simp[bef]
theorem pw_or:∀ {L:List Rw},L.Pairwise Lt2->r∈L->s∈L->r=s\/Lt2 r s\/Lt2 s r
 | x::L,h,hr,hs=>by
  obtain⟨a,b⟩:=eW.mp h;rcases eC.mp hr with e1 | m1
  ·rcases eC.mp hs with e2 | m2
   ·exact .inl (e1.trans e2.symm)
   ·rw[e1];exact .inr (.inl (a s m2))
  ·rcases eC.mp hs with e2 | m2
   ·rw[e2];exact .inr (.inr (a r m1))
   ·exact pw_or b m1 m2
theorem b4x (h:optW x=optW y):x=y:=by rw[<- b2M x,h,b2M]
structure Same (T U:List Tl):Prop where
 len:T.length=U.length
 key:T.map (·.key)=U.map (·.key)
 v:∀ q k t,a3E (a22 (T.take q) k) t=a3E (a22 (U.take q) k) t
theorem Same.symm (h:Same T U):Same U T:=⟨h.len.symm,h.key.symm,λq k t=>(h.v q k t).symm⟩
theorem Same.line (h:Same T U) (il:IsLine (T.take q) k L):IsLine (U.take q) k L:=by
 refine⟨il.can,il.pl,?_,λt=>by rw[il.v,h.v]⟩
 have:=il.len
 rw[eK]at this ⊢;rw[<- h.len];exact this
theorem b26:∀ {T U:List Tl}(n:Nat),T.map (·.key)=U.map (·.key)->ixF k n T=ixF k n U
 | [],[],_,_=>rfl
 | [],_::_,_,h=>by simp at h
 | _::_,[],_,h=>by simp at h
 | τ::T,υ::U,n,h=>by
  rw[eG,eG]at h;injection h with h1 h2
  rw[ixF,ixF,h1,b26 _ h2]
theorem Same.tsv (h:Same T U) (g:TsV T k es):TsV U k es:=⟨by rw[g.ix];exact b26 0 h.key,λe a=>h.line (g.ln e a)⟩
theorem Same.snoc (h:Same T U) (hk:υ.key=τ.key) (l:IsLine T τ.key L) (m:IsLine (T++[τ]) τ.key M) (pv:∀ t,val M t=if υ.rw.has t=true then optW υ.v else val L t):Same (T++[τ]) (U++[υ]):=by
 have a:=h.len;have b:=λk t=>by
  have:=h.v T.length k t
  rw[ff,a,ff]at this;exact this
 refine⟨by simp[a],by simp[h.key,hk],λq k t=>?_⟩
 by_cases c:q<=T.length
 ·rw[gj c,gj (by omega)];exact h.v q k t
 ·rw[ft (by grind),ft (by grind)]
  by_cases d:τ.key=k
  ·subst d;refine b4x ?_;rw[<- m.v,pv,a2h,if_pos hk,a54,l.v,b]
   split<;>rfl
  ·rw[a2h,a2h,if_neg d,if_neg (by grind),eR,eR,b]
theorem b4y (h:∀ r,r∈stR ts↔r∈L):tOn ts L n=ts:=by
 have d:ts.map (endR L n)=ts:=(fq λt a=>by
  unfold endR;rw[if_neg]
  ·rfl
  ·intro c;rw[fE,iX,hasR_no]at c;exact c.2 ((h t.r).mp (eU (fb.mpr ⟨a,c.1⟩)))).trans (gC ts)
 have b:(L.filter λr=>!hasR _ r)=[]:=iV.mpr λr e=>by
  rw[hasR_iff.mpr ((h r).mpr e)]
  decide
 unfold tOn;rw[d,b,eQ,eR]
theorem TsV.now (h:TsV T k es):IsLine T k (a1y es T.length):=by
 have:=h.line T.length
 rwa [ff]at this
theorem TsV.same (h:TsV T k es) (il:IsLine T k L) (n:Int):tOn (TF es) L n=TF es:=b4y λr=>by
 rw[<- a59 h.run.ok (fi _),(h.run.p _).mem_iff,h.now.uniq il]
theorem IsLine.more (h:IsLine T k L) (c:τ.key≠k):IsLine (T++[τ]) k L:=⟨h.can,h.pl,by have:=h.len;simp;omega,λt=>by rw[h.v,a2h,if_neg c,eR]⟩
theorem TsV.step (h:TsV T k es) (il:IsLine (T++[τ]) k L):∃ es',TsV (T++[τ]) k es'/\TF es'=tOn (TF es) L ((T.length:Int)+1):=by
 have b:∀ e∈es,IsLine ((T++[τ]).take e.1.toNat) k e.2:=λe a=>by
  have:=h.le a
  rw[gj (by omega)];exact h.ln e a
 by_cases c:τ.key=k
 ·refine⟨es++[(_+1,L)],⟨by rw[eD,h.ix,a1R,if_pos c];rfl,λe a=>?_⟩,a2d⟩;rcases ei.mp a with a | a
  ·grind
  ·rw[et.mp a];rw[ft (by simp)];exact il
 ·refine⟨es,⟨by rw[h.ix,a1R,if_neg c,eR],b⟩,?_⟩;rw[il.uniq (h.now.more c),h.same h.now]
theorem TilesIs.ex (h:TilesIs T ss f) (s:Str):∃ es,TsV T s es:=by
 by_cases c:s∈ss
 ·exact⟨_,h.tv s c⟩
 ·have:=Classical.byContradiction λz=>c ((h.is s).mpr z)
  exact⟨[],this.symm,λe a=>by simp at a⟩
theorem TilesIs.tf (h:TilesIs T ss f) (s:Str):(if s∈ss then TF (f s) else [])=TF (esOf T s):=by
 split
 ·next c=>rw[a1e (h.tv s c)]
 ·next c=>
  have:=Classical.byContradiction λz=>c ((h.is s).mpr z)
  rw[a1e (es:=[]) ⟨this.symm,λe a=>by simp at a⟩];rfl
theorem a6i {f:Str->List (Int×List Rw)}{P:Str->Bool}:∀ {ss:List Str},(∀ s∈ss,P s=false->TF (f s)=[])->a0p ss f=a0p (ss.filter P) f
 | [],_=>rfl
 | s::ss,h=>by
  have ih:=a6i (P:=P) (ss:=ss) λu hu=>h u (.tail _ hu);have e:∀ us:List Str,a0p (s::us) f=(TF (f s)).map (Ti.z s)++a0p us f:=λus=>by unfold a0p;rw[gY]
  rw[e,ih,fw];cases c:P s with
  | true=>rw[if_pos rfl,e]
  | false=>rw[if_neg (by decide),h s (.head _) c];rfl
theorem a7A (h1:PyProof.Rows.sortedS ss=true) (n1:ss.Nodup) (h2:PyProof.Rows.sortedS us=true) (n2:us.Nodup) (e:∀ s,(if s∈ss then TF (f s) else [])=if s∈us then TF (g s) else []):a0p ss f=a0p us g:=by
 have d:∀ l:List Ti,l.isEmpty=true->l=[]:=λl h=>List.isEmpty_iff.mp h;have k:a0p ss f=a0p (ss.filter λs=>!(if s∈ss then TF _ else []).isEmpty) f:=a6i λs a z=>by
  rw[jF,if_pos a]at z;exact d _ z
 have j:a0p us g=a0p (us.filter λs=>!(if s∈ss then TF _ else []).isEmpty) g:=a6i λs a z=>by
  rw[jF,e,if_pos a]at z;exact d _ z
 have i:(ss.filter λs=>!(if s∈ss then TF (f s) else []).isEmpty)=us.filter λs=>!(if s∈ss then TF (f s) else []).isEmpty:=by
  refine a6g ((b24 h1).sublist fZ) ((b24 h2).sublist fZ) ((io (n1.sublist fZ) (n2.sublist fZ)).mpr λs=>?_);rw[fb,fb]
  constructor
  ·rintro⟨_,z⟩;refine⟨?_,z⟩;rw[e]at z
   by_cases c:s∈us
   ·grind
   ·grind
  ·rintro⟨_,z⟩;refine⟨?_,z⟩
   by_cases c:s∈ss
   ·grind
   ·grind
 rw[k,j,<- i];refine congrArg iY (fq λs a=>?_);have b:=a;rw[i]at b
 have:=e s
 rw[if_pos (fb.mp a).1,if_pos (fb.mp b).1]at this;rw[this]
theorem Same.tiles (h:Same T U) (a:TilesIs T ss f) (b:TilesIs U us g):a0p ss f=a0p us g:=a7A a.so a.nd b.so b.nd λs=>by
 obtain⟨d,c⟩:=a.ex s;rw[a.tf,b.tf,a1e c,a1e (h.tsv c)]
theorem Same.mid (h:Same T U) (l:IsLine T τ.key L) (m:IsLine (T++[τ]) τ.key L) (a:TilesIs (T++[τ]) ss f) (b:TilesIs U us g):a0p ss f=a0p us g:=a7A a.so a.nd b.so b.nd λs=>by
 obtain⟨p,e⟩:=b.ex s;have d:=h.symm.tsv e;obtain⟨L',j,n⟩:∃ L',IsLine T s L'/\IsLine _ s L':=by
  by_cases c:τ.key=s
  ·subst c;exact⟨L,l,m⟩
  ·exact⟨_,d.now,d.now.more c⟩
 obtain⟨o,k,i⟩:=d.step n;rw[a.tf,b.tf,a1e e,a1e k,i,d.same j]
structure EverIs (T:List Tl) (ss:List Str) (f:Str->List (Int×List Rw)):Prop where
 so:PyProof.Rows.sortedS ss=true
 nd:ss.Nodup
 is:∀ s,s∈ss↔∃ q,NE (T.take q) s
 tv:∀ s∈ss,TsV T s (f s)
theorem b67:∀ {es:List (Int×List Rw)},(∀ e∈es,e.2=[])->TF es=[]:=by
 intro a
 induction a using a3f with
 | h0=>exact λ_=>rfl
 | h1 a e ih=>
  intro h;rw[a2d,ih λx b=>h x (by simp[b]),h e (by simp)];rfl
theorem EverIs.tf (h:EverIs T ss f) (g:TsV T s es):(if s∈ss then TF (f s) else [])=TF (esOf T s):=by
 split
 ·next c=>rw[a1e (h.tv s c)]
 ·next c=>
  rw[a1e g,b67 λe a=>Classical.byContradiction λz=>c ((h.is s).mpr ⟨_,e.2,g.ln e a,z⟩)]
theorem Same.ever (h:Same T U) (a:TilesIs T ss f) (b:EverIs U us g):a0p us g=a0p ss f:=a7A b.so b.nd a.so a.nd λs=>by
 obtain⟨d,c⟩:=a.ex s;rw[a.tf,b.tf (h.tsv c),a1e c,a1e (h.tsv c)]
theorem a6j {a:Ad}{b:Bool}{G:Hq}{p:Addr}{S:Addr->Prop}{T:List Tl}(h:Sheet a b G p S T):∃ dx n d,G p=some (.ins (a.cK b) dx (shF n d)):=let ⟨_,_,_,m⟩:=h;⟨_,_,_,m.ob⟩
noncomputable def a3J:P3:=λws G R=>∃ p:Addr,ws=[.ref p]/\R (.int 0) G
theorem a6k (h:a3J ws G R):ws.length=1:=by obtain⟨_,rfl,_⟩:=h;rfl
theorem a3K (F:Fns K a) (T:Txt K mg a):FnOk P w K mg base CX0 1 a.f13 a.d13 ["self"] (lowP K a3J):=by
 refine fn3 F.n13 a6q (λd G R h=>(by exact a6k h)) (λe A b s H E d G R c h=>?_)
 refine⟨_,(a0o (a0D a0h)),?_⟩;obtain⟨p,rfl,q⟩:=h;exact q
noncomputable def b0Q (kvs:List (Key×Z)) (ss:List Str):Prop:=kvs.map (·.1)=ss.map λs=>(Sum.inr s:Key)
theorem b27 (h:b0Q kvs ss) (hd:ss.Nodup) (x:Str) (v:Z):∃ us,b0Q (putZ kvs (.inr x) v) us/\us.Nodup/\∀ y,y∈us↔y∈ss\/y=x:=by
 unfold putZ;have g:(kvs.any λc=>decide (c.1=Sum.inr x))=decide (x∈ss):=by
  rw[fI];simp only[fX,decide_eq_true_eq]
  constructor
  ·rintro⟨c,k,j⟩
   have:c.1∈ss.map λs=>(Sum.inr s):=by rw[<- h];exact eU k
   obtain⟨n,i,f⟩:=eq.mp this;rw[j]at f;cases f;exact i
  ·intro d
   have:(Sum.inr x)∈kvs.map (·.1):=by rw[h];exact eU d
   obtain⟨c,i,f⟩:=eq.mp this;exact⟨c,i,f⟩
 rw[g]
 by_cases d:x∈ss
 ·rw[decide_eq_true d,if_pos rfl];refine⟨ss,?_,hd,λy=>⟨.inl,λh=>h.elim id λe=>e▸d⟩⟩;unfold b0Q;rw[<- h,eO];refine fq λc _=>?_
  show (if c.1=Sum.inr x then _ else c).1=c.1
  split<;>rfl
 ·rw[decide_eq_false d,if_neg (by simp)];refine⟨ss++[x],?_,?_,λy=>by simp⟩
  ·unfold b0Q;rw[eD,h,eD];rfl
  ·rw[fP];exact⟨hd,by simp,λa l b m=>by rw[et.mp m];rintro rfl;exact d l⟩
theorem NE.mem {T:List Tl}(h:NE (T.take q) s):∃ τ∈T,τ.key=s:=by
 obtain⟨L,e,d⟩:=h
 by_cases c:∃ τ∈T.take q,τ.key=s
 ·obtain⟨τ,f,a⟩:=c;exact⟨τ,fF f,a⟩
 ·have:a22 (T.take q) s=[]:=by
   unfold a22;rw[gX,iV];intro τ b;simpa using λz=>c ⟨τ,b,z⟩
  exact absurd (e.uniq (IsLine.nil this)) d
noncomputable def a2e (a:Ad):P3:=λws G R=>∃ b:Bool,∃ (p:Addr) (S:Addr->Prop) (T:List Tl),ws=[.ref p]/\Sheet a b G p S T/\Few T/\∀ t (us:List Str) G',G t=none->Sm G G'->G' t=some (.lst (us.map Z.str))->PyProof.Rows.sortedS us=true->us.Nodup->(∀ s,s∈us↔∃ q,NE (T.take q) s)->us.length<=63->R (.ref t) G'
theorem a6l {a:Ad}{ws:List Z}{G:Hq}{R:K3}(h:a2e a ws G R):ws.length=1:=by obtain⟨_,_,_,_,rfl,_⟩:=h;rfl
theorem a6B (F:Fns K a) (T:Txt K mg a):FnOk P w K mg base CX0 5 a.f22 a.d22 ["sheet"] (lowP K (a2e a)):=by
 have G_Sheet_first:=a3K (P:=P) (w:=w) (base:=base) F T
 have G_Sheet_keys_at:=a5p (P:=P) (w:=w) (base:=base) F T;have G_Sheet_knowings:=a1r (P:=P) (w:=w) (base:=base) F T;refine fn3 F.n22 sc_p_keys_ever (λws G R h=>(by exact a6l h)) (λcdv A outer s H E ws G R hr h=>?_);have hu:=a0T hr;obtain⟨b,h⟩:=h;refine⟨_,(a0l (a02 (i:=1) sc_p_keys_ever.nd rfl (ee rfl) b4U)
  (a0l (a26 (pt:=(.nm 2)) j0.never rfl (a3n rfl T.b_range (a0b (a28 (a0c (pv 0)) (clK T b) (a3d T b) G_Sheet_first (hr.mono (by decide)) (a3B F)) (a0b (q_op a1L (a28 (a0c (pv 0)) (clK T b) (a1d T b) G_Sheet_knowings (hr.mono (by decide)) (a1p F)) a0h) a0g a0H) a0I)) (show QP _ _ (.nm 2) from (a0n (i:=2) sc_p_keys_ever.nd rfl (ee rfl)))
  (a0o (a26 (pt:=(.nm 3)) j0.never rfl (a0L (a3V a29 up0 (a0c (pv 0)) (clK T b) (a4Y T b) G_Sheet_keys_at (hr.mono (by decide)) (a5k F) (a0b (a0c (pv 2)) a0g a0a) (hst:=a0a) (hpl:=a0j))) (show QP _ _ (.nm 3) from (a0n (i:=3) sc_p_keys_ever.nd rfl (ee rfl)))
  (a0o (a7T q_bl (a0c (pv 1)) (a0c (pv 3)) (b47 hu))))))
  (a0o (a0D (a0w (a78 rfl) rfl T.b_sorted rfl (a0b (a0c (pv 1)) a0g a0a) (he:=a0a) (hpl:=a0j)))))),?_⟩
 obtain⟨p,S,T',rfl,sh,few,fin⟩:=h;have hT:=few.1;obtain⟨_,kn,hkn,hk⟩:=id few;have small:∀ {us:List Str}{P:Str->Prop},us.Nodup->(∀ s,s∈us->∃ q,NE (T'.take q) s)->us.length<=63:=λnd h=>eF (a95 nd λs hs=>by
  obtain⟨q,hq⟩:=h s hs;obtain⟨τ,h1,h2⟩:=hq.mem;rw[<- h2];exact hk τ h1) hkn
 symm;intro d hd;have gd:put G d (.dK []) d=some (.dK []):=a0d;have s1:Sm G (put G d (.dK [])):=Sm.new hd;generalize put G d (.dK [])=G1 at gd s1 ⊢;have sh1:=sh.keep (Sm.ks s1);obtain⟨dx1,n1,d1,ob1⟩:=a6j sh1;symm;refine⟨p,dx1,_,rfl,ob1,a2K (by decide +kernel) (by decide +kernel),?_⟩;symm;refine⟨p,rfl,?_⟩;symm;refine⟨p,dx1,_,rfl,ob1,a2K (by decide +kernel) (by decide +kernel),?_⟩;symm;refine⟨b,p,S,T',rfl,sh1,?_⟩;symm;refine⟨0,_,rfl,⟨by decide,by decide,by omega,by omega⟩,?_⟩;rw[show ((T'.length:Int)+1 - 0).toNat=T'.length+1 by omega];refine a08 (λi σ G'=>Ex4 λ(v2 v3:Option Z) (kvs:List (Key×Z)) (us:List Str)=>b0Q kvs us/\us.Nodup/\(∀ s,s∈us↔∃ q,q<i/\NE (T'.take q) s)/\Sm G G'/\G' d=some (.dK kvs)/\σ=[some (.ref p),some (.ref d),v2,v3]) ⟨_,_,[],[],rfl,.nil,λs=>by simp,s1,gd,rfl⟩ (λ_ _ _ _ _=>True.intro) ?_ ?_
 ·rintro i z σ G2 hz ⟨v2,v3,kvs,us,k1,k2,k3,s2,gd2,rfl⟩;obtain⟨hi,rfl⟩:=a16 hz;rw[iu];have sh2:=sh.keep (Sm.ks s2);obtain⟨dx2,n2,d2,ob2⟩:=a6j sh2;refine⟨_,rfl,?_⟩;symm;refine⟨p,dx2,_,rfl,ob2,a2K (by decide +kernel) (by decide +kernel),?_⟩;symm;refine⟨b,p,S,T',(i:Int),rfl,sh2,few,.inl ⟨⟨by omega,by omega⟩,λf ts G3 hf s3 gf ka tl3=>?_⟩⟩;rw[i3]at ka;have gd3:=s3 _ _ gd2;have nfd:f≠d:=Ne.symm (a0u gd2 hf);have s03:=s2.trans s3;symm;refine a17 gf ?_;refine a08 (λj σ G'=>∃ (v3:Option Z) (kvs:List (Key×Z)) (us':List Str),b0Q kvs us'/\us'.Nodup/\(∀ s,s∈us'↔s∈us\/s∈ts.take j)/\Sm G G'/\G' d=some (.dK kvs)/\G' f=some (.lst (ts.map Z.str))/\σ=[some (.ref p),some (.ref d),some (.int i),v3]) ⟨_,kvs,us,k1,k2,λs=>by simp,s03,gd3,gf,rfl⟩ (by rintro j σ G' _ ⟨_,_,_,_,_,_,_,_,g,_⟩;exact g) ?_ ?_
  ·rintro j y σ G4 hy ⟨v3,kvs,us',k1,k2,k4,s4,gd4,gf4,rfl⟩;rw[eE]at hy;cases hy':ts[j]? with
   | none=>rw[hy']at hy;cases hy
   | some s=>
   rw[hy']at hy;cases hy;have lus:us'.length<=63:=small (P:=λ_=>True) k2 λs hs=>by
    rcases (k4 s).mp hs with h | h
    ·obtain⟨q,_,hq⟩:=(k3 s).mp h;exact⟨q,hq⟩
    ·exact⟨i,(ka.is s).mp (fF h)⟩
   have lk:kvs.length=us'.length:=by have:=congrArg fh k1;simpa using this
   refine⟨_,rfl,?_⟩;symm;refine b48 gd4 rfl (a0v (by omega)) ?_;obtain⟨ms,m1,m2,m4⟩:=b27 k1 k2 s (.bl true);refine⟨_,_,ms,m1,m2,λu=>?_,s4.put hd,a0d,by rw[a0x nfd];exact gf4,rfl⟩;rw[m4,k4,take_snoc hy',ei,et,or_assoc]
  ·rintro σ G4 ⟨v3,kvs,us',k1,k2,k4,s4,gd4,gf4,rfl⟩;rw[dY,ff]at k4;symm;refine⟨_,_,kvs,us',k1,k2,λs=>?_,s4,gd4,rfl⟩;rw[k4,k3,ka.is]
   constructor
   ·rintro (⟨q,h1,h2⟩ | h)
    ·exact⟨q,by omega,h2⟩
    ·exact⟨i,by omega,h⟩
   ·rintro⟨q,h1,h2⟩
    by_cases c:q=i
    ·subst c;exact .inr h2
    ·exact .inl ⟨q,by omega,h2⟩
 ·rintro σ G2 ⟨v2,v3,kvs,us,k1,k2,k3,s2,gd2,rfl⟩;rw[a0R]at k3;have k5:∀ s,s∈us↔∃ q,NE (T'.take q) s:=λs=>by
   rw[k3]
   constructor
   ·rintro⟨q,_,h⟩;exact⟨q,h⟩
   ·rintro⟨q,h⟩
    by_cases c:q<=T'.length
    ·exact⟨q,by omega,h⟩
    ·refine⟨T'.length,by omega,?_⟩;rw[ft (by omega)]at h;rw[ff];exact h
  have lus:=small (P:=λ_=>True) k2 λs hs=>(k5 s).mp hs;symm;refine a6T gd2 k1 (by omega) λt ts ht hp so=>?_;exact fin t ts _ (s2.free ht) (s2.trans (Sm.new ht)) a0d so (hp.nodup_iff.mpr k2) (λs=>by rw[hp.mem_iff,k5]) (by rw[hp.length_eq];exact lus)
noncomputable def a1s (a:Ad):P3:=λws G R=>∃ b:Bool,Ex4 λ(p:Addr) (S:Addr->Prop) (T:List Tl) (k:Str)=>ws=[.ref p,.str k]/\Sheet a b G p S T/\Few T/\nmOk k/\∀ t es G',G t=none->Sm G G'->TsV T k es->G' t=some (.lst ((TF es).map (Ti.z k)))->R (.ref t) G'
theorem a4I {a:Ad}{ws:List Z}{G:Hq}{R:K3}(h:a1s a ws G R):ws.length=2:=by obtain⟨_,_,_,_,_,rfl,_⟩:=h;rfl
theorem a45 (F:Fns K a) (T:Txt K mg a):FnOk P w K mg base CX0 5 a.f25 a.d25 ["sheet","key"] (lowP K (a1s a)):=by
 have G_Sheet_first:=a3K (P:=P) (w:=w) (base:=base) F T
 have G_p_tiled_on:=a4A (P:=P) (w:=w) (base:=base) F T;have G_Sheet_knowings:=a1r (P:=P) (w:=w) (base:=base) F T;have G_Sheet_line_at:=a2W (P:=P) (w:=w) (base:=base) F T;refine fn3 F.n25 sc_p_tiles_of_key (λws G R h=>(by exact a4I h)) (λcdv A outer s H E ws G R hr h=>?_);have hu:=a0T hr;obtain⟨b,h⟩:=h;refine⟨_,(a0l (a02 (i:=2) sc_p_tiles_of_key.nd rfl (ee rfl) (a15 a0g))
  (a0l (a26 (pt:=(.nm 3)) j0.never rfl (a3n rfl T.b_range (a0b (a28 (a0c (pv 0)) (clK T b) (a3d T b) G_Sheet_first (hr.mono (by decide)) (a3B F)) (a0b (q_op a1L (a28 (a0c (pv 0)) (clK T b) (a1d T b) G_Sheet_knowings (hr.mono (by decide)) (a1p F)) a0h) a0g a0H) a0I)) (show QP _ _ (.nm 3) from (a0n (i:=3) sc_p_tiles_of_key.nd rfl (ee rfl)))
  (a0o (a02 (i:=2) sc_p_tiles_of_key.nd rfl (ee rfl) (a0y G_p_tiled_on (hr.mono (by decide)) rfl T.m23 F.n23.kp (a4o F) (a0b (a0c (pv 2)) (a0b (a0c (pv 1)) (a0b (a3V a29 up0 (a0c (pv 0)) (clK T b) (a2g T b) G_Sheet_line_at (hr.mono (by decide)) (a2P F) (a0b (a0c (pv 1)) (a0b (a0c (pv 3)) a0g a0a) a0a) (hst:=a0a) (hpl:=(a0m a0a a0j))) (a0b (a0c (pv 3)) a0g a0a) a0I) a0a) a0a) (he:=a0a) (hpl:=(a0m a0a (a0m a0I (a0m a0a a0j))))))))
  (a0o (a0D (a0c (pv 2)))))),?_⟩
 obtain⟨p,S,T',k,rfl,sh,few,hk,fin⟩:=h;have hT:=few.1;symm;refine⟨lenK rfl,λt0 ht0=>?_⟩;have g0:put G t0 (.lst []) t0=some (.lst (((TF []).map (Ti.z k)))):=a0d;have s1:Sm G (put G t0 (.lst [])):=Sm.new ht0;generalize put G t0 (.lst [])=G1 at g0 s1 ⊢;have sh1:=sh.keep (Sm.ks s1);obtain⟨dx1,n1,d1,ob1⟩:=a6j sh1;symm;refine⟨p,dx1,_,rfl,ob1,a2K (by decide +kernel) (by decide +kernel),?_⟩;symm;refine⟨p,rfl,?_⟩;symm;refine⟨p,dx1,_,rfl,ob1,a2K (by decide +kernel) (by decide +kernel),?_⟩;symm;refine⟨b,p,S,T',rfl,sh1,?_⟩;symm;refine⟨0,_,rfl,⟨by decide,by decide,by omega,by omega⟩,?_⟩;rw[show ((T'.length:Int)+1 - 0).toNat=T'.length+1 by omega];refine a08 (λi σ G'=>∃ (v3:Option Z) (t:Addr) (es:List (Int×List Rw)),TsV (T'.take (i - 1)) k es/\G t=none/\Sm G G'/\G' t=some (.lst ((TF es).map (Ti.z k)))/\σ=[some (.ref p),some (.str k),some (.ref t),v3]) ⟨_,t0,[],⟨rfl,λe he=>by simp at he⟩,ht0,s1,g0,rfl⟩ (λ_ _ _ _ _=>True.intro) ?_ ?_
 ·rintro i z σ G2 hz ⟨v3,t,es,tv,ht,s2,gt,rfl⟩;obtain⟨hi,rfl⟩:=a16 hz;rw[iu];have sh2:=sh.keep (Sm.ks s2);obtain⟨dx2,n2,d2,ob2⟩:=a6j sh2;have lq:(T'.take (i - 1)).length<=200:=by rw[eK];omega
  refine⟨_,rfl,?_⟩;symm;refine⟨p,dx2,_,rfl,ob2,a2K (by decide +kernel) (by decide +kernel),?_⟩;symm;refine⟨b,p,S,T',.str k,(i:Int),rfl,sh2,(λ_=>b2L hk),hT,.inl ⟨⟨by omega,by omega⟩,k,rfl,hk,λl L G3 hl s3 gl il=>?_⟩⟩;rw[i3]at il;have ll:=il.len;rw[eK]at ll;symm;refine⟨t,l,k,TF es,L,i,rfl,s3 _ _ gt,gl,tv.nm,λr hr=>a3t il hr,by have:=tv.len lq;omega,by omega,by have:=tv.st;omega,λt2 G4 ht2 s4 gt2=>?_⟩;obtain⟨es',tv',e'⟩:∃ es',TsV (T'.take i) k es'/\TF es'=tOn (TF es) L i:=by
   cases i with
   | zero=>exact⟨es,tv,(tv.same il _).symm⟩
   | succ j=>
    have hj:T'[j]?=some T'[j]:=eI (by omega);rw[take_snoc hj]at il ⊢
    have:=tv.step (T:=T'.take j) il
    rw[eK,jG (by omega)]at this;exact this
  rw[<- e']at gt2;exact⟨_,rfl,_,t2,es',tv',(s2.trans s3).free ht2,(s2.trans s3).trans s4,gt2,rfl⟩
 ·rintro σ G2 ⟨v3,t,es,tv,ht,s2,gt,rfl⟩;rw[a0R]at tv;have tv:TsV (T'.take T'.length) k es:=tv;rw[ff]at tv;symm;exact fin t es G2 ht s2 tv gt
noncomputable def a4J (a:Ad):P3:=λws G R=>∃ b:Bool,∃ (p:Addr) (S:Addr->Prop) (T:List Tl),ws=[.ref p]/\Sheet a b G p S T/\Few T/\OkT T/\∀ t us f G',G t=none->Sm G G'->EverIs T us f->(a0p us f).all (flat 8)=true->G' t=some (.lst (a0p us f))->R (.ref t) G'
theorem a6C {a:Ad}{ws:List Z}{G:Hq}{R:K3}(h:a4J a ws G R):ws.length=1:=by obtain⟨_,_,_,_,rfl,_⟩:=h;rfl
theorem a7B (F:Fns K a) (T:Txt K mg a):FnOk P w K mg base CX0 6 a.f26 a.d26 ["sheet"] (lowP K (a4J a)):=by
 have d:FnOk P w K mg base CX0 5 a.f22 a.d22 ["sheet"] (lowP K (a2e a)):=a6B F T;have c:FnOk P w K mg base CX0 5 a.f25 a.d25 ["sheet","key"] (lowP K (a1s a)):=a45 F T;refine fn3 F.n26 sc_p_tiles_of (λws G R h=>(by exact a6C h)) (λcdv A outer s H E ws G R N h=>?_);have e:=a0T N;obtain⟨b,h⟩:=h;refine⟨_,(a0l (a02 (i:=1) sc_p_tiles_of.nd rfl (ee rfl) (a15 a0g))
  (a0l (a26 j0.never rfl (a0L (a0y d (N.mono (by decide)) rfl T.m22 F.n22.kp (a6t F) (a0b (a0c (pv 0)) a0g a0a))) (show QP _ _ (.nm 2) from (a0n (i:=2) sc_p_tiles_of.nd rfl (ee rfl)))
  (a0o (a05 (q_bm PySem.F.plainAttrs_list PySem.F.slot_list_extend PySem.F.type_list_extend a9w (a0c (pv 1)) (a0b (a0y c (N.mono (by decide)) rfl T.m25 F.n25.kp (a4W F) (a0b (a0c (pv 0)) (a0b (a0c (pv 2)) a0g a0a) a0a)) a0g a0I)))))
  (a0o (a0D (a0c (pv 1)))))),?_⟩
 obtain⟨p,S,T',rfl,Y,o,ok,fin⟩:=h;have hT:=o.1;symm;refine⟨lenK rfl,λW U=>?_⟩;have Q:put G W (.lst []) W=some (.lst []):=a0d;have J:Sm G (put G W (.lst [])):=Sm.new U;generalize put G W (.lst [])=G1 at Q J ⊢;symm;refine⟨b,p,S,T',rfl,Y.keep (Sm.ks J),o,λt l G2 ht s2 gt so nd is lus=>?_⟩;have nWt:t≠W:=Ne.symm (a0u Q ht);have s02:=J.trans s2;have C:∀ s∈l,nmOk s:=λs f=>by
  obtain⟨q,hq⟩:=(is s).mp f;obtain⟨τ,h1,h2⟩:=hq.mem;rw[<- h2];exact (ok τ h1).k
 symm;refine a17 gt ?_;refine a08 (λi σ v=>∃ (M:Option Z),(∀ s∈l.take i,TsV T' s (esOf T' s))/\Sm G v/\v t=some (.lst (l.map Z.str))/\v W=some (.lst (a0p (l.take i) (esOf T')))/\σ=[some (.ref p),some (.ref W),M]) ⟨_,λs f=>by simp at f,s02,gt,s2 _ _ Q,rfl⟩ (by rintro i σ v _ ⟨_,_,_,g,_⟩;exact g) ?_ ?_
 ·rintro i x σ G3 r ⟨M,n,y,D,j,rfl⟩;rw[eE]at r;cases hx':l[i]? with
  | none=>rw[hx']at r;cases r
  | some s=>
  rw[hx']at r;cases r;refine⟨_,rfl,?_⟩;symm;refine a3R j ?_;symm;refine⟨b,p,S,T',s,rfl,Y.keep (Sm.ks y),o,C s (eP hx'),λt4 es G4 ht4 L I aa=>?_⟩;symm;have X:=a1e I;have l1:(a0p (l.take i) (esOf T')).length<=63*80000:=eF (a3v (m:=80000) λs f=>(n s f).len (by omega)) (iw _ (by rw[eK];omega));have l2:=I.len (by omega);refine a9y (L _ _ j) aa (by rw[dY];exact eF (by omega:_<=64*80000) (by decide)) ?_;have V:t≠W:=nWt;refine⟨_,λu e=>?_,(y.trans L).put U,by rw[a0x V];exact L _ _ D,?_,rfl⟩
  ·rw[take_snoc hx']at e;rcases ei.mp e with e | e
   ·exact n u e
   ·rw[et.mp e,X];exact I
  ·rw[a0d,take_snoc hx',a4b,X]
 ·rintro σ G3 ⟨M,n,y,D,j,rfl⟩;rw[dY,ff]at n j;symm;refine fin W l (esOf T') G3 U y ⟨so,nd,is,n⟩ ?_ j;rw[fL];intro z B;unfold a0p at B;obtain⟨s,f,B⟩:=iZ.mp B;obtain⟨u,e,rfl⟩:=eq.mp B;exact b25 (a5z (C s f).2.2) ((n s f).fl ok u e)
structure TiP (es:List (Int×List Rw)) (t:Ti):Prop where
 h:t.r∈a1y es t.s
 i:∃ e∈es,e.1=t.s
 u:∀ x,t.u=some x->t.s<x/\t.r∉a1y es x/\∃ e∈es,e.1=x
theorem tip:∀ {es:List (Int×List Rw)},es.Pairwise (λa b=>a.1<b.1)->∀ t∈TF es,TiP es t:=by
 intro d
 induction d using a3f with
 | h0=>exact λ_ t f=>by simp[TF]at f
 | h1 d e ih=>
  intro A t f;obtain⟨B,_,z⟩:=eS.mp A;have q:∀ {x},(∃ y∈d,y.1=x)->x<e.1:=λ⟨y,j,h⟩=>by have:=z y j e (.head _);omega
  have o:∀ {x},(∃ y∈d,y.1=x)->∃ y∈d++[e],y.1=x:=λ⟨y,j,h⟩=>⟨y,iz _ j,h⟩;have n:∀ {x},(∃ y∈d,y.1=x)->a1y (d++[e]) x=a1y d x:=λh=>by rw[a2J,if_neg (by have:=q h;omega)]
  have m:a1y (d++[e]) e.1=e.2:=by rw[a2J,if_pos (fi _)]
  rw[a2d]at f;rcases ei.mp f with f | f
  ·obtain⟨s,h0,rfl⟩:=eq.mp f;have p:=ih B s h0;refine⟨by rw[a8A,a8B,n p.i];exact p.h,by rw[a8B];exact o p.i,λx g=>?_⟩;rw[a8A,a8B];unfold endR at g
   split at g
   ·next c=>
    injection g with g
    subst g;rw[fE,iX,hasR_no]at c;exact⟨q p.i,by rw[m];exact c.2,e,by simp,rfl⟩
   ·obtain⟨w,C,k⟩:=p.u x g;exact⟨w,by rw[n k];exact C,o k⟩
  ·obtain⟨r,v,rfl⟩:=eq.mp f;refine⟨?_,⟨e,by simp,rfl⟩,λx g=>by cases g⟩
   show r∈a1y (d++[e]) e.1
   rw[m];exact (fb.mp v).1
noncomputable def Ord (a b:Ti):Prop:=a.s<b.s\/a.s=b.s/\a.r.b<b.r.b
theorem b9C (h:Can L):L.Pairwise λr s=>r.b<s.b:=(fk.and_mem.mp h.2).imp λ{r s} ⟨a,_,q⟩=>q.lt.b (h.1 r a)
theorem b5v:∀ {es:List (Int×List Rw)},es.Pairwise (λa b=>a.1<b.1)->(∀ e∈es,Can e.2)->(TF es).Pairwise Ord:=by
 intro j
 induction j using a3f with
 | h0=>exact λ_ _=>fk.nil
 | h1 j e ih=>
  intro n g;obtain⟨d,_,m⟩:=eS.mp n;rw[a2d];refine eS.mpr ⟨eZ.mpr ((ih d λx c=>g x (by simp[c])).imp λ{a b} h=>?_),eZ.mpr (((b9C (g e (by simp))).sublist fZ).imp λ{a b} h=>.inr ⟨rfl,h⟩),λx c y o=>?_⟩
  ·unfold Ord at *;rw[a8B,a8B,a8A,a8A];exact h
  ·obtain⟨f,h0,rfl⟩:=eq.mp c;obtain⟨r,_,rfl⟩:=eq.mp o;obtain⟨z,l,ez⟩:=(tip d f h0).i
   have:=m z l e (.head _)
   left
   rw[a8B]
   show f.s<e.1
   omega
noncomputable def Apt (r s:Rw):Prop:=(∀ t,r.has t=true->s.has t=false)/\(r.w=s.w->r.e≠some s.b/\s.e≠some r.b)
theorem Apt.symm (h:Apt r s):Apt s r:=by
 refine⟨λt a=>?_,λe=>(h.2 e.symm).symm⟩;cases e:r.has t with
 | false=>rfl
 | true=>rw[h.1 t e]at a;cases a
theorem b68 (h:Can L):L.Pairwise Apt:=(fk.and_mem.mp h.2).imp λ{r s} ⟨g,d,e,a,m,f⟩=>by
 have k:=(has_iff.mp (a8r (h.1 r g))).2 e a;have i:=(has_iff.mp (a8r (h.1 s d))).2;refine⟨λt b=>?_,λj=>⟨λz=>?_,λz=>?_⟩⟩
 ·cases c:s.has t with
  | false=>rfl
  | true=>
   have n:=(has_iff.mp b).2 e a;have l:=(has_iff.mp c).1;omega
 ·rw[a]at z;injection z with z
  exact f z j
 ·grind
noncomputable def ApT (a b:Ti):Prop:=(∀ q,a.at_ q=true->b.at_ q=true->Apt a.r b.r)/\(a.r=b.r->a.u≠some b.s/\b.u≠some a.s)
theorem b9D (hs:es.Pairwise (λa b=>a.1<b.1)) (R:Run es n):(TF es).Pairwise ApT:=by
 have o:=λq=>by
  have t:=(R.p q).symm.pairwise (b68 (R.c q)) λh=>h.symm;have v:=List.pairwise_filter.mp (eZ.mp t);exact v.imp λ{a b} h m s=>h m s
 rw[gy];intro i j k l f;refine⟨λq=>gy.mp (o q) i j k l f,λe=>?_⟩;have g:=tip hs _ (fV k);have d:=tip hs _ (fV l);exact⟨λz=>(g.u _ z).2.1 (by rw[e];exact d.h),λz=>(d.u _ z).2.1 (by rw[<- e];exact g.h)⟩
noncomputable def allT (ss:List Str) (f:Str->List (Int×List Rw)):List (Str×Ti):=ss.flatMap λs=>(TF (f s)).map (Prod.mk s)
noncomputable def zT (x:Str×Ti):Z:=x.2.z x.1
theorem a6m:a0p ss f=(allT ss f).map zT:=by
 unfold a0p allT;rw[List.map_flatMap]
 congr 1
 funext s
 rw[eO];rfl
noncomputable def RelT (x y:Str×Ti):Prop:=(x.1=y.1->ApT x.2 y.2)/\(x.1=y.1/\Ord x.2 y.2\/x.1≠y.1/\leS x.1 y.1)
theorem TilesIs.rel (h:TilesIs T ss f):(allT ss f).Pairwise RelT:=by
 refine jH.mpr ⟨λs i=>eZ.mpr ?_,?_⟩
 ·have d:=h.tv s i;have g:=a6b d.ix;exact ((b9D g d.run).and (b5v g λe j=>(d.ln e j).can)).imp λ{a b} h=>⟨λ_=>h.1,.inl ⟨rfl,h.2⟩⟩
 ·refine ((b24 h.so).and h.nd).imp λ{a b} c x l y k=>?_;obtain⟨_,_,rfl⟩:=eq.mp l;obtain⟨_,_,rfl⟩:=eq.mp k;exact⟨λz=>absurd z c.2,.inr ⟨c.2,c.1⟩⟩
noncomputable def roK (x:Str×Ti):List Key:=[.inr x.1,.inl (some x.2.s),.inl (some x.2.r.b)]
theorem b9E (x y:Str×Ti):Tim.cmpT (roK x) (roK y)=true:=by
 unfold roK Tim.cmpT
 split
 ·unfold Tim.cmpT
  split
  ·unfold Tim.cmpT
   split
   ·rfl
   ·rfl
  ·rfl
 ·rfl
theorem c1q (h:RelT x y):Tim.ltT (roK y) (roK x)=false:=by
 unfold roK Tim.ltT;rcases h.2 with ⟨e,o⟩ | ⟨n,o⟩
 ·rw[if_pos (by rw[e])];unfold Tim.ltT;rcases o with o | ⟨o1,o2⟩
  ·rw[if_neg (λz=>by injection z with z;injection z with z;omega)];exact decide_eq_false (by omega)
  ·rw[if_pos (by rw[o1])];unfold Tim.ltT;rw[if_neg (λz=>by injection z with z;injection z with z;omega)];exact decide_eq_false (by omega)
 ·rw[if_neg (λz=>by injection z with z;exact n z.symm)];exact decide_eq_false (leS_iff.mp o)
theorem b69 (h:Tim.ltT (roK y) (roK x)=false) (g:Tim.ltT (roK x) (roK y)=false):roK x=roK y:=by
 unfold roK Tim.ltT at h g
 by_cases c:x.1=y.1
 ·rw[if_pos (by rw[c])]at h g;unfold Tim.ltT at h g
  by_cases d:x.2.s=y.2.s
  ·rw[if_pos (by rw[d])]at h g;unfold Tim.ltT at h g
   by_cases e:x.2.r.b=y.2.r.b
   ·unfold roK;rw[c,d,e]
   ·rw[if_neg (λz=>by injection z with z;injection z with z;omega)]at h g;have h:=of_decide_eq_false h;have g:=of_decide_eq_false g;omega
  ·rw[if_neg (λz=>by injection z with z;injection z with z;omega)]at h g;have h:=of_decide_eq_false h;have g:=of_decide_eq_false g;omega
 ·rw[if_neg (λz=>by injection z with z;exact c z.symm)]at h;rw[if_neg (λz=>by injection z with z;exact c z)]at g;exact absurd (b0a (leS_iff.mpr (of_decide_eq_false h)) (leS_iff.mpr (of_decide_eq_false g))) c
noncomputable def unt (L:Nat->List Rw) (n:Nat) (r:Rw) (q:Nat):Option Int:=((fR n).find? λj=>decide (q<j+1)&&!hasR (L (j+1)) r).map λj=>((j+1:Nat):Int)
theorem b4z (h:q<n+1):unt L (n+1) r q=(unt L n r q).or (if (!hasR (L (n+1)) r)=true then some ((n+1:Nat):Int) else none):=by
 unfold unt;rw[jI,iP];cases e:(fR n).find? λj=>decide (q<j+1)&&!hasR _ r with
 | some j=>rfl
 | none=>
  rw[fK,decide_eq_true h,fx];cases hasR _ r<;>rfl
theorem b4A:unt L n r n=none:=by
 unfold unt;rw[ir.mpr λj a=>?_]
 ·rfl
 ·grind
noncomputable def a8G (L:Nat->List Rw) (j:Nat):List Rw:=(L (j+1)).filter λr=>!hasR (L j) r
noncomputable def dueT (L:Nat->List Rw) (n m:Nat):List Ti:=(fR m).flatMap λj=>(a8G L j).map λr=>⟨r,((j+1:Nat):Int),unt L n r (j+1)⟩
theorem a3w:dueT L n (m+1)=dueT L n m++(a8G L m).map λr=>⟨r,((m+1:Nat):Int),unt L n r (m+1)⟩:=by
 unfold dueT;rw[jI,List.flatMap_append];simp
theorem b28:∀ {m:Nat},m<=n->dueT L (n+1) m=(dueT L n m).map (endR (L (n+1)) ((n+1:Nat):Int))
 | 0,_=>rfl
 | m+1,h=>by
  rw[a3w,a3w,eD,b28 (by omega),eO]
  congr 1
  refine fq λr _=>?_
  show _=endR _ _ ⟨r,_,unt L n r _⟩
  rw[b4z (by omega)];unfold endR;cases e:unt L n r _ with
  | some u=>rfl
  | none=>cases hasR _ r<;>rfl
theorem b9F (h:∀ r,r∈stR (dueT L n n)↔r∈L n):tOn (dueT L n n) (L (n+1)) ((n+1:Nat):Int)=dueT L (n+1) (n+1):=by
 have e:∀ r,hasR (stR _) r=hasR (L n) r:=λr=>by
  rw[fI,hasR_iff,hasR_iff,h]
 unfold tOn;rw[a3w,b28 (eh n)]
 congr 1
 simp only[e];refine fq λr _=>?_;rw[b4A];rfl
theorem TsV.st_mem (h:TsV T k es) (il:IsLine T k L) (r:Rw):r∈stR (TF es)↔r∈L:=by
 rw[<- a59 h.run.ok (fi _),(h.run.p _).mem_iff,h.now.uniq il]
theorem b5w {T:List Tl}(hL:∀ q,q<=T.length->IsLine (T.take q) k (L q)):∀ {n:Nat},n<=T.length->∃ es,TsV (T.take n) k es/\TF es=dueT L n n
 | 0,_=>⟨[],⟨rfl,λe j=>by simp at j⟩,rfl⟩
 | n+1,h=>by
  obtain⟨l,a,d⟩:=b5w hL (n:=n) (by omega);have f:T[n]?=some T[n]:=eI (by omega);have c:=hL _ h;rw[take_snoc f]at c ⊢;obtain⟨b,i,g⟩:=a.step c;refine⟨b,i,?_⟩;rw[g,d,eK,jG (by omega)];exact b9F λr=>by rw[<- d];exact a.st_mem (hL n (by omega)) r
theorem b9G (hL:∀ q,q<=T.length->IsLine (T.take q) k (L q)):TsV T k (esOf T k)/\TF (esOf T k)=dueT L T.length T.length:=by
 obtain⟨c,a,b⟩:=b5w hL (eh T.length);rw[ff]at a;rw[a1e a];exact⟨a,b⟩
noncomputable def itT (x:Str×Ti):List Z:=[.str x.1,x.2.r.w.headD .non,.int x.2.r.b,oz x.2.r.e,.int x.2.s,oz x.2.u]
noncomputable def rowT (x:Str×Ti):List Key×List Z:=(roK x,itT x)
theorem b9H {k:Str}{a b:Ti}(h:Ord a b):roK (k,a)≠roK (k,b):=by grind [Ord,roK]
theorem b5x (nd:kn.Nodup) (h:∀ k∈kn,TsV T k (f k)):((allT kn f).map roK).Nodup:=by
 rw[fc,eZ];refine jH.mpr ⟨λs i=>eZ.mpr ?_,?_⟩
 ·have c:=h s i;exact (b5v (a6b c.ix) λe g=>(c.ln e g).can).imp λ{a b} h=>b9H h
 ·refine nd.imp λ{a b} d x l y j z=>?_;obtain⟨_,_,rfl⟩:=eq.mp l;obtain⟨_,_,rfl⟩:=eq.mp j;injection z with z _
  injection z with z
  exact d z
theorem a8H {α:Type}{g:Str->List α}{P:Str->Bool}:∀ {l:List Str},(∀ s∈l,P s=false->g s=[])->l.flatMap g=(l.filter P).flatMap g
 | [],_=>rfl
 | s::l,h=>by
  have b:=a8H λu a=>h u (.tail _ a);rw[gY,fw,b];cases c:P s with
  | true=>rw[if_pos rfl,gY]
  | false=>rw[if_neg (by simp),h s (.head _) c];rfl
theorem b4B (ti:TilesIs T ss f) (nd:kn.Nodup) (hk:∀ τ∈T,τ.key∈kn):(allT kn (esOf T)).Perm (allT ss f):=by
 have e:allT ss f=allT ss (esOf T):=by
  refine congrArg iY (fq λs a=>?_);rw[a1e (ti.tv s a)]
 have d:allT kn (esOf T)=allT (kn.filter λs=>decide (s∈ss)) (esOf T):=by
  refine a8H λs a z=>?_;have c:=of_decide_eq_false z
  have:=ti.tf s
  rw[if_neg c]at this;rw[<- this];rfl
 rw[e,d];refine fm.flatMap_right _ ((io (nd.sublist fZ) ti.nd).mpr λs=>?_);rw[fb,decide_eq_true_eq];refine⟨λh=>h.2,λh=>⟨?_,h⟩⟩;obtain⟨τ,g,b⟩:=a8F ((ti.is s).mp h);rw[<- b];exact hk τ g
theorem b5y {α β:Type}{f:α->β}:∀ {l:List α},(l.map f).Nodup->∀ {x y},x∈l->y∈l->f x=f y->x=y
 | a::l,h,x,y,hx,hy,e=>by
  obtain⟨b,c⟩:=gb.mp h;rcases eC.mp hx with c1 | c1
  ·rcases eC.mp hy with c2 | c2
   ·simp_all
   ·rw[c1]at e;exact absurd (eU (f:=f) c2) (by rw[<- e];exact b)
  ·rcases eC.mp hy with c2 | c2
   ·rw[c2]at e;exact absurd (eU (f:=f) c1) (by rw[e];exact b)
   ·exact b5y c c1 c2 e
theorem b0R {os:List (List Key×List Z)}(ti:TilesIs T ss f) (nd:kn.Nodup) (hk:∀ τ∈T,τ.key∈kn) (p:os.Perm ((allT kn (esOf T)).map rowT)) (s:(os.map (·.1)).Pairwise (λx y=>Tim.ltT y x=false)):os.map (λx=>Z.tup x.2)=a0p ss f:=by
 have i:=ti.rel;have j:=p.trans ((b4B ti nd hk).map _);have g:(((allT ss f).map rowT).map (·.1)).Nodup:=by
  rw[eO];exact b5x ti.nd ti.tv
 have e:os=(allT ss f).map rowT:=by
  refine j.eq_of_pairwise (λa b l d k m=>?_) (eZ.mp s) (eZ.mpr (i.imp λ{x y} h=>c1q h));have c:=j.mem_iff.mp l;refine b5y g c d ?_;obtain⟨x,_,rfl⟩:=eq.mp c;obtain⟨y,_,rfl⟩:=eq.mp d;exact b69 k m
 rw[e,eO,a6m];rfl
theorem b7a (ok:OkT T):∃ L,IsLine T k L:=by
 induction T using a3f with
 | h0=>exact⟨[],IsLine.nil rfl⟩
 | h1 T τ ih=>
  obtain⟨L,a⟩:=ih λu b=>ok u (by simp[b])
  by_cases c:τ.key=k
  ·subst c;exact⟨_,a.snoc (ok τ (by simp))⟩
  ·exact⟨L,a.more c⟩
noncomputable def lnOf (T:List Tl) (k:Str) (q:Nat):List Rw:=open Classical in if h:∃ L,IsLine (T.take q) k L then h.choose else []
theorem b29 (il:IsLine (T.take q) k L):lnOf T k q=L:=by
 unfold lnOf;have h:∃ L,IsLine _ k L:=⟨L,il⟩;rw[dif_pos h];exact h.choose_spec.uniq il
theorem a9h (ok:OkT T) (q:Nat):IsLine (T.take q) k (lnOf T k q):=by
 obtain⟨L,a⟩:=b7a fun τ h=>ok τ (fF h);rw[b29 a];exact a
theorem b9I (h1:q<k+1) (h2:k+1<=n) (h3:hasR (L (k+1)) r=false) (h4:∀ j,q<j+1->j<k->hasR (L (j+1)) r=true):unt L n r q=some ((k+1:Nat):Int):=by
 unfold unt;rw[List.find?_range_eq_some.mpr ⟨by rw[decide_eq_true h1,h3];rfl,iy.mpr (by omega),λj a=>?_⟩]
 ·rfl
 ·by_cases c:q<j+1
  ·rw[h4 j c a];simp
  ·rw[decide_eq_false c];rfl
theorem b9J (h4:∀ j,q<j+1->j<n->hasR (L (j+1)) r=true):unt L n r q=none:=by
 unfold unt;rw[List.find?_range_eq_none.mpr λj a=>?_]
 ·rfl
 ·by_cases c:q<j+1
  ·rw[h4 j c a];simp
  ·rw[decide_eq_false c];rfl
theorem b3a:decide (r.z∈L.map Rw.z)=hasR L r:=by
 rw[fI,decide_eq_true_eq,hasR_iff,eq];exact⟨λ⟨s,h,e⟩=>Rw.z_inj e▸h,λh=>⟨r,h,rfl⟩⟩
structure Lns (G:Hq) (li:Addr) (ps:List Addr) (L:Nat->List Rw):Prop where
 gl:G li=some (.lst (ps.map Z.ref))
 at_:∀ k a,ps[k]?=some a->G a=some (.lst ((L k).map Rw.z))
 fl:∀ k,((L k).map Rw.z).all (flat 8)=true
theorem Lns.get (h:Lns G li ps L) (hk:k<ps.length):∃ a,atI (ps.map Z.ref) (k:Int)=some (.ref a)/\G a=some (.lst ((L k).map Rw.z)):=⟨ps[k],a2k (by simp_all),h.at_ k _ (eI hk)⟩
noncomputable def b0b:P3:=λws G R=>Ex5 λ(li:Addr) (ps:List Addr) (L:Nat->List Rw) (r:Rw) (q:Nat)=>ws=[.ref li,r.z,.int q]/\Lns G li ps L/\flat 8 r.z=true/\q<ps.length/\ps.length<=64/\R (oz (unt L (ps.length - 1) r q)) G
theorem b3b (h:b0b ws G R):ws.length=3:=by obtain⟨_,_,_,_,_,rfl,_⟩:=h;rfl
theorem b4C (F:Fns K a) (T:Txt K mg a):FnOk P w K mg base CX0 1 a.f32 a.d32 ["lines","run","knowing"] (lowP K b0b):=by
 refine fn3 F.n32 sc_until (λx G R h=>(by exact b3b h)) (λD A n s H E x G R t h=>?_);have l:=a0T t;refine⟨_,(a0l (a26 (pt:=(.nm 3)) j0.never rfl (a3n rfl T.b_range (a0b (q_op a1L (a0c (pv 2)) a0h) (a0b (a0w b_len rfl T.b_len PySem.boot_len (a0b (a0c (pv 0)) a0g a0a) (he:=a0a) (hpl:=a0j)) a0g a0I) a0H)) (show QP _ _ (.nm 3) from (a0n (i:=3) sc_until.nd rfl (ee rfl)))
  (a0o (z_if (a0E (b1Q l) (a0c (pv 1)) (q_ix x_ix (a0c (pv 0)) (a0c (pv 3)) (λ_ _=>rfl)) (by with_unfolding_all rfl))
  (a0o (a0D (a0c (pv 3))))
  a1f)))
  (a0o (a0D a4c))),?_⟩
 obtain⟨B,M,L,r,q,rfl,I,p,N,Q,b⟩:=h;symm;refine a7X I.gl ?_;symm;rw[dY];refine⟨_,_,rfl,⟨by omega,by omega,by omega,by omega⟩,?_⟩;refine a08 (λi σ m=>∃ v:Option Z,m=G/\(∀ j,q<j+1->j<q+i->hasR (L (j+1)) r=true)/\σ=[some (.ref B),some r.z,some (.int q),v]) ⟨_,rfl,λj d g=>by omega,rfl⟩ (λ_ _ _ _ _=>True.intro) ?_ ?_
 ·rintro i u σ m l ⟨v,rfl,f,rfl⟩;obtain⟨J,rfl⟩:=a16 l;have o:(q:Int)+1+(i:Int)=((q+i+1:Nat):Int):=by omega
  rw[o];obtain⟨S,C,y⟩:=I.get (k:=q+i+1) (by omega);refine⟨_,rfl,?_⟩;symm;refine a0Q I.gl C ?_;symm;refine b8E y p (I.fl _) ?_;rw[b3a];refine⟨_,rfl,ifNB (λc=>?_) λc=>?_⟩
  ·symm;rw[b9I (k:=q+i) (by omega) (by omega) c λj d g=>f j d g]at b;exact b
  ·symm;refine⟨_,rfl,λj d g=>?_,rfl⟩
   by_cases e:j=q+i
   ·rw[e];exact c
   ·exact f j d (by omega)
 ·rintro σ m ⟨v,rfl,f,rfl⟩;rw[a0R]at f;symm;rw[b9J λj d g=>f j d (by omega)]at b;exact b
noncomputable def b0c:P3:=λws G R=>∃ (p:Addr) (al:List (Str×Ti)),ws=[.ref p]/\G p=some (.lst (al.map zT))/\(∀ x∈al,∃ w,x.2.r.w=[.str w])/\∀ G',Sm G G'->R (.bl true) G'
theorem b3c (h:b0c ws G R):ws.length=1:=by obtain⟨_,_,rfl,_⟩:=h;rfl
theorem b4D (F:Fns K a) (T:Txt K mg a):FnOk P w K mg base CX0 1 a.f34 a.d34 ["tiles"] (lowP K b0c):=by
 refine fn3 F.n34 sc_kinds (λws G R h=>(by exact b3c h)) (λcdv A outer s H E ws G R hr h=>?_);have hu:=a0T hr;refine⟨_,(a0l (z_if (a1V (a2t (a0w a7W rfl T.b_isinstance rfl (a0b (a0c (pv 0)) (a0b (q_ty (a23 (v:=.ty "list") rfl T.b_list rfl rfl)) a0g a0a) a0a) (he:=a0a) (hpl:=(a0m a0a a0j)))))
  (a0o (a0D q_bl))
  a1f)
  (a0l (a26 (pt:=(.nm 1)) j0.never rfl (a0L (a0c (pv 0))) (show QP _ _ (.nm 1) from (a0n (i:=1) sc_kinds.nd rfl (ee rfl)))
  (a0l (z_if (QW.qt (q_or (a1V (a2t (a0w a7W rfl T.b_isinstance rfl (a0b (a0c (pv 1)) (a0b (q_ty (a23 (v:=.ty "tuple") rfl T.b_tuple rfl rfl)) a0g a0a) a0a) (he:=a0a) (hpl:=(a0m a0a a0j))))) (a7b (a0E (o_ne hu) (a0w b_len rfl T.b_len PySem.boot_len (a0b (a0c (pv 1)) a0g a0a) (he:=a0a) (hpl:=a0j)) a0h (a0B _)))))
  (a0o (a0D q_bl))
  a1f)
  (a0l (z_if (QW.qt (q_or (a1V (a2t (a0w a7W rfl T.b_isinstance rfl (a0b (q_ix x_ix (a0c (pv 1)) a0h (λ_ _=>rfl)) (a0b (q_ty (a23 (v:=.ty "str") rfl T.b_str rfl rfl)) a0g a0a) a0i) (he:=a0i) (hpl:=(a0m a0a a0j))))) (a7b (a1V (a2t (a0w a7W rfl T.b_isinstance rfl (a0b (q_ix x_ix (a0c (pv 1)) a0h (λ_ _=>rfl)) (a0b (q_ty (a23 (v:=.ty "str") rfl T.b_str rfl rfl)) a0g a0a) a0i) (he:=a0i) (hpl:=(a0m a0a a0j))))))))
  (a0o (a0D q_bl))
  a1f)
  (a0o (z_if (a0E (o_ne hu) (q_lc (N₀:=["tiles","tile"]) (so:=a0e a7n) (N':=["part"]) (cap:=[none]) (pt:=(.nm 0)) rfl rfl rfl (by decide +kernel) rfl (b4Q (a14 x_sl (a0c (pv 1)) (a2O a0h) a1W)) (λ_ _ _ _=>(show QP _ _ (.nm 0) from (a0n (i:=0) b9h rfl (ee rfl)))) (λ_ _ _ _=>(a27 (a2t (a0w a7W rfl T.b_isinstance rfl (a0b (a0c (pv 0)) (a0b (q_ty (a23 (v:=.ty "bool") rfl T.b_bool rfl rfl)) a0g a0a) a0a) (he:=a0a) (hpl:=(a0m a0a a0j)))))) (λ_ _ _ _=>(a0c (pv 0)))) (a15 a0g) (a0B _))
  (a0o (a0D q_bl))
  a1f)))))
  (a0o (a0D q_bl)))),?_⟩
 obtain⟨p,al,rfl,gp,hw,fin⟩:=h;symm;refine b11 (n:="list") (b:=true) (by simp[tyN,gp]) (by decide +kernel) ?_;symm;refine ifF ?_;symm;refine a17 gp ?_;refine a08 (λi σ G'=>∃ v:Option Z,Sm G G'/\σ=[some (.ref p),v]) ⟨_,Sm.refl _,rfl⟩ (by rintro i σ G' _ ⟨_,s,_⟩;exact s _ _ gp) ?_ ?_
 ·rintro i u σ G1 hu ⟨v,s1,rfl⟩;rw[eE]at hu;cases hu':al[i]? with
  | none=>rw[hu']at hu;cases hu
  | some x=>
  rw[hu']at hu;cases hu;obtain⟨w,ew⟩:=hw x (eP hu');have ez:zT x=.tup [.str x.1,.str w,.int x.2.r.b,oz x.2.r.e,.int x.2.s,oz x.2.u]:=by unfold zT Ti.z;rw[ew];rfl
  rw[ez];refine⟨_,rfl,?_⟩;symm;refine b11 (n:="tuple") (b:=true) rfl (by decide +kernel) ?_;refine⟨_,rfl,ifF ?_⟩;symm;refine ifN (λz=>absurd rfl z) λ_=>?_;symm;refine b11 (n:="str") (b:=true) rfl (by decide +kernel) ?_;refine⟨_,rfl,ifF ?_⟩;symm;refine b11 (n:="str") (b:=true) rfl (by decide +kernel) ?_;symm;refine ifF ?_;symm;refine b10 (show ¬ (HT.sIx 6 0 (some 2)=0/\HT.sIx 6 6 none=6) by decide) ?_;rw[show cutZ [Z.str x.1,.str w,.int x.2.r.b,oz x.2.r.e,.int x.2.s,oz x.2.u] (some 2) none=[.int x.2.r.b,oz x.2.r.e,.int x.2.s,oz x.2.u] from rfl];symm;intro D hD;refine b1J (λ_=>none) (λys=>True.intro) (show 4<=1000 by decide) ?_ ?_
  ·intro y hy ys K1 K2 k1 k2;have ty:∀ {G:Hq},∃ n,tyN G y=some n/\kit0 n "bool"=some false:=λ{G}=>by
    simp only[eC,jE,or_false]at hy;have o:∀ e:Option Int,∃ n,tyN G (oz e)=some n/\kit0 n "bool"=some false:=λe=>by
     cases e with
     | none=>exact⟨_,rfl,by decide +kernel⟩
     | some e=>exact⟨_,rfl,by decide +kernel⟩
    rcases hy with rfl | rfl | rfl | rfl
    ·exact o (some _)
    ·exact o _
    ·exact o (some _)
    ·exact o _
   refine⟨_,rfl,?_⟩;symm;obtain⟨n,e1,e2⟩:=@ty (put G1 D (.lst ys));refine b11 e1 e2 ?_;exact⟨_,rfl,ifF (k2 rfl)⟩
  rw[show ([Z.int x.2.r.b,oz x.2.r.e,.int x.2.s,oz x.2.u].filterMap λ_=>none)=([]:List Z) from rfl];symm;refine⟨lenK rfl,λE hE=>?_⟩;refine b1Z (a0k a0d hE) a0d rfl rfl ?_;rw[decide_eq_true rfl];refine⟨_,rfl,ifF ?_⟩;symm;exact⟨_,(s1.trans (Sm.new hD)).trans (Sm.new hE),rfl⟩
 ·rintro σ G1 ⟨v,s1,rfl⟩;symm;exact fin G1 s1
theorem b3d (h:∀ j,(L j).length<=b):∀ m,(dueT L n m).length<=m*b
 | 0=>by simp[dueT]
 | m+1=>by
  rw[a3w,eB,dY,ip,iq];have c:=b3d (n:=n) h m;have d:(a8G L m).length<=(L _).length:=iW _ _;have a:=h (m+1);omega
theorem b3e:allT (ss++[s]) f=allT ss f++(TF (f s)).map (Prod.mk s):=by
 unfold allT;simp
theorem b3f:∀ {ss:List Str},(∀ s∈ss,(TF (f s)).length<=b)->(allT ss f).length<=ss.length*b
 | [],_=>by simp[allT]
 | s::ss,h=>by
  have d:=b3f λu a=>h u (.tail _ a);have c:=h s (.head _);have e:allT (s::ss) f=(TF (f s)).map (Prod.mk s)++allT ss f:=by unfold allT;rw[gY]
  rw[e,eB,dY,eu,ip,iq];omega
noncomputable def wT (x:Str×Ti):Z:=L3.rowW (rowT x)
structure DIn (a:Ad) (b:Bool) (G:Hq) (p:Addr) (S:Addr->Prop) (T:List Tl) (ks:Addr) (kn:List Str):Prop where
 sh:Sheet a b G p S T
 ok:OkT T
 few:Few T
 len:T.length<=63
 gk:G ks=some (.lst (kn.map Z.str))
 nm:∀ s∈kn,nmOk s
 nd:kn.Nodup
 l4:kn.length<=4
 km:∀ τ∈T,τ.key∈kn
theorem DIn.sm {a:Ad}{b:Bool}{G G':Hq}{p:Addr}{S:Addr->Prop}{T:List Tl}{ks:Addr}{kn:List Str}(h:DIn a b G p S T ks kn) (s:Sm G G'):DIn a b G' p S T ks kn:={ h with sh:=h.sh.keep (Sm.ks s),gk:=s _ _ h.gk }
noncomputable def b5z (a:Ad):P3:=λws G R=>∃ b:Bool,Ex5 λ(p:Addr) (S:Addr->Prop) (T:List Tl) (ks:Addr) (kn:List Str)=>ws=[.ref p,.ref ks]/\DIn a b G p S T ks kn/\∀ t Zs G',G t=none->Sm G G'->(∀ ss f,TilesIs T ss f->Zs=a0p ss f)->G' t=some (.lst Zs)->R (.ref t) G'
theorem b4E {a:Ad}{ws:List Z}{G:Hq}{R:K3}(h:b5z a ws G R):ws.length=2:=by obtain⟨_,_,_,_,_,_,rfl,_⟩:=h;rfl
theorem b9K (F:Fns K a) (T:Txt K mg a):FnOk P w K mg base CX0 5 a.f33 a.d33 ["sheet","keys"] (lowP K (b5z a)):=by
 have G_Sheet_line_at:=a2W (P:=P) (w:=w) (base:=base) F T;have G_until:=b4C (P:=P) (w:=w) (base:=base) F T;have G_Sheet_knowings:=a1r (P:=P) (w:=w) (base:=base) F T;refine fn3 F.n33 sc_due (λws G R h=>(by exact b4E h)) (λcdv A outer s H E ws G R hr h=>?_);have hu:=a0T hr;obtain⟨b,h⟩:=h;refine⟨_,(a0l (a02 (i:=2) sc_due.nd rfl (ee rfl) (a15 a0g))
  (a0l (a26 (pt:=(.nm 3)) j0.never rfl (a0L (a0c (pv 1))) (show QP _ _ (.nm 3) from (a0n (i:=3) sc_due.nd rfl (fJ rfl)))
  (a0l (a7e (i:=4) sc_due.nd rfl rfl (N₀:=["sheet","keys","found","key","lines","knowing","run","until"]) (so:=a0e b2z) (N':=["knowing","key","sheet"]) (cap:=[none,some 3,some 0]) (pt:=(.nm 0)) rfl rfl rfl (by decide +kernel) rfl (a3m rfl T.b_range (a0b (q_op a1L (a28 (a0c (pv 0)) (clK T b) (a1d T b) G_Sheet_knowings (hr.mono (by decide)) (a1p F)) a0h) a0g a0H)) (λ_ _ _ _=>(show QP _ _ (.nm 0) from (a0n (i:=0) b9f rfl (ee rfl)))) (λ_ _ _ _=>a2v) (λ_ _ _ _=>(a3V a29 up0 (a0c (pv 2)) (clK T b) (a2g T b) G_Sheet_line_at (hr.mono (by decide)) (a2P F) (a0b (a0c (pv 1)) (a0b (a0c (pv 0)) a0g a0a) a0a) (hst:=a0a) (hpl:=(a0m a0a a0j)))))
  (a0o (a26 (pt:=(.nm 5)) j0.never rfl (a3n rfl T.b_range (a0b a0h (a0b (a0w b_len rfl T.b_len PySem.boot_len (a0b (a0c (pv 4)) a0g a0a) (he:=a0a) (hpl:=a0j)) a0g a0I) a0f)) (show QP _ _ (.nm 5) from (a0n (i:=5) sc_due.nd rfl (ee rfl)))
  (a0o (a26 (pt:=(.nm 6)) j0.never rfl (a0L (q_ix x_ix (a0c (pv 4)) (a0c (pv 5)) (λ_ _=>rfl))) (show QP _ _ (.nm 6) from (a0n (i:=6) sc_due.nd rfl (ee rfl)))
  (a0o (z_if (a0E (b1Q hu) (a0c (pv 6)) (q_ix x_ix (a0c (pv 4)) (q_op b55 (a0c (pv 5)) a0h) (λ_ _=>rfl)) (by with_unfolding_all rfl))
  (a0l (a02 (i:=7) sc_due.nd rfl (ee rfl) (a0y G_until (hr.mono (by decide)) rfl T.m32 F.n32.kp (b4e F) (a0b (a0c (pv 4)) (a0b (a0c (pv 6)) (a0b (a0c (pv 5)) a0g a0a) a0a) a0a) (he:=a0a) (hpl:=(a0m a0a (a0m a0a a0j)))))
  (a0o (a05 (q_bm PySem.F.plainAttrs_list PySem.F.slot_list_append PySem.F.type_list_append a1G (a0c (pv 2)) (a0b (a2Y (a0b (a0c (pv 3)) (a0b (a0c (pv 5)) (a0b (q_ix x_ix (a0c (pv 6)) a0h (λ_ _=>rfl)) (a0b (a2Y (a0b (a0c (pv 3)) (a0b (q_ix x_ix (a0c (pv 6)) a0h (λ_ _=>rfl)) (a0b (q_ix x_ix (a0c (pv 6)) a0h (λ_ _=>rfl)) (a0b (q_ix x_ix (a0c (pv 6)) a0h (λ_ _=>rfl)) (a0b (a0c (pv 5)) (a0b (a0c (pv 7)) a0g a0a) a0a) a0i) a0i) a0i) a0a)) a0g a2u) a0i) a0a) a0a)) a0g a2u)))))
  a1f))))))))
  (a0o (a0D (q_lc (N₀:=["sheet","keys","found","key","lines","knowing","run","until"]) (so:=a0e b2z) (N':=["row"]) (cap:=[none]) (pt:=(.nm 0)) rfl rfl rfl (by decide +kernel) rfl (a0L (a0w b2x rfl T.b_sorted rfl (a0b (a0c (pv 2)) a0g a0a) (he:=a0a) (hpl:=a0j))) (λ_ _ _ _=>(show QP _ _ (.nm 0) from (a0n (i:=0) b9g rfl (ee rfl)))) (λ_ _ _ _=>a2v) (λ_ _ _ _=>(q_ix x_ix (a0c (pv 0)) a0h (λ_ _=>rfl)))))))),?_⟩
 obtain⟨p,S,T',ks,kn,rfl,I,fin⟩:=h;have hT:=I.len;have h4:=I.l4;symm;refine⟨lenK rfl,λW hW=>?_⟩;have gW:put G W (.lst []) W=some (.lst []):=a0d;have s1:Sm G (put G W (.lst [])):=Sm.new hW;generalize put G W (.lst [])=G1 at gW s1 ⊢;have es:∀ k∈kn,TsV T' k (esOf T' k)/\TF (esOf T' k)=dueT (lnOf T' k) T'.length T'.length:=λk _=>b9G λq _=>a9h I.ok q;have lL:∀ k q,(lnOf T' k q).length<=126:=λk q=>by
  have:=(a9h (k:=k) I.ok q).len
  rw[eK]at this;omega
 have lD:∀ k m,m<=63->(dueT (lnOf T' k) T'.length m).length<=7938:=λk m hm=>eF (b3d (lL k) m) (by have:=iw 126 hm;omega);have lA:∀ i,(allT (kn.take i) (esOf T')).length<=31752:=λi=>eF (b3f (b:=7938) λs hs=>by rw[(es s (fF hs)).2];exact lD s _ hT) (by have:=iw 7938 (show (kn.take i).length<=4 by rw[eK];omega);omega);symm;refine a17 (s1 _ _ I.gk) ?_;refine a08 (λi σ G'=>Ex5 λ(v3 v4 v5 v6 v7:Option Z)=>Sm G G'/\G' W=some (.lst ((allT (kn.take i) (esOf T')).map wT))/\σ=[some (.ref p),some (.ref ks),some (.ref W),v3,v4,v5,v6,v7]) ⟨_,_,_,_,_,s1,gW,rfl⟩ (by rintro i σ G' _ ⟨_,_,_,_,_,s,_⟩;exact s _ _ I.gk) ?_ ?_
 ·rintro i x σ G2 hx ⟨v3,v4,v5,v6,v7,s2,gW2,rfl⟩;rw[eE]at hx;cases hx':kn[i]? with
  | none=>rw[hx']at hx;cases hx
  | some k=>
  rw[hx']at hx;cases hx;have mk:=eP hx';have hk:=I.nm k mk;have I2:=I.sm s2;obtain⟨dx2,n2,d2,ob2⟩:=a6j I2.sh;have lis:=λq=>a9h (k:=k) I.ok q;refine⟨_,rfl,?_⟩;symm;refine⟨p,dx2,_,rfl,ob2,a2K (by decide +kernel) (by decide +kernel),?_⟩;symm;refine⟨b,p,S,T',rfl,I2.sh,?_⟩;symm;refine⟨by omega,by omega,?_⟩;rw[show ((T'.length:Int)+1).toNat=T'.length+1 by omega];intro D hD;refine b0v (λj ys G'=>∃ ps:List Addr,ys=ps.map Z.ref/\ps.length=j/\(∀ l a,ps[l]?=some a->G' a=some (.lst ((lnOf T' k l).map Rw.z))/\a≠D/\a≠W)/\Sm G2 G'/\G' D=some (.lst ys)) ⟨[],rfl,rfl,λl a h=>by simp at h,Sm.new hD,a0d⟩ (λ_ _ _ _ _=>True.intro) ?_ ?_
  ·rintro j y ys G3 hy ⟨ps,rfl,hpl,hps,s3,gD⟩;obtain⟨hj,rfl⟩:=a16 hy;rw[iu];have I3:=I2.sm s3;obtain⟨dx3,n3,d3,ob3⟩:=a6j I3.sh;refine⟨_,rfl,?_⟩;symm;refine⟨p,dx3,_,rfl,ob3,a2K (by decide +kernel) (by decide +kernel),?_⟩;symm;refine⟨b,p,S,T',.str k,(j:Int),rfl,I3.sh,(λ_=>b2L hk),by omega,.inl ⟨⟨by omega,by omega⟩,k,rfl,hk,λl L G4 hl s4 gl il=>?_⟩⟩;rw[i3]at il;have nl:l≠D:=Ne.symm (a0u gD hl);have nlW:l≠W:=Ne.symm (a0u (s3 _ _ gW2) hl);refine⟨s4 _ _ gD,by rw[dY];exact a0v (by omega),ps++[l],by rw[eD];rfl,by rw[eB,hpl];rfl,λl' a' e=>?_,(s3.trans s4).put hD,a0d⟩
   by_cases c:l'<ps.length
   ·rw[gJ c]at e;obtain⟨e1,e2,e3⟩:=hps l' a' e;exact⟨by rw[a0x e2];exact s4 _ _ e1,e2,e3⟩
   ·rw[gI (by omega)]at e;have c':l' - ps.length=0:=by
     cases c2:l' - ps.length with
     | zero=>rfl
     | succ m=>rw[c2]at e;simp at e
    rw[c']at e;cases e
    have:l'=j:=by omega
    subst this;rw[b29 il];exact⟨by rw[a0x nl];exact gl,nl,nlW⟩
  ·rintro ys G3 ⟨ps,rfl,hpl,hps,s3,gD⟩;rw[a0R]at hpl;have LN:Lns G3 D ps (lnOf T' k):=⟨gD,λl a' e=>(hps l a' e).1,λl=>b2E (lis l).pl.okR⟩;have gW3:=s3 _ _ gW2;have s03:=s2.trans s3;have nDW:D≠W:=Ne.symm (a0u gW2 hD);have keep:∀ {G':Hq},Kq W G3 G'->Lns G' D ps (lnOf T' k):=λk'=>⟨k' _ _ gD nDW,λl a' e=>k' _ _ (hps l a' e).1 (hps l a' e).2.2,LN.fl⟩;have lAi:=lA i;have lDj:=λj (hj:j<=63)=>lD k j hj;have ek:=(es k mk).2;symm;refine a7X gD ?_;rw[dY];symm;refine⟨1,_,rfl,⟨by decide,by decide,by omega,by omega⟩,?_⟩;rw[show ((ps.length:Int) - 1).toNat=T'.length by omega];refine a08 (λj σ G'=>∃ (v5 v6 v7:Option Z),Kq W G3 G'/\G' W=some (.lst ((allT (kn.take i) (esOf T')++(dueT (lnOf T' k) T'.length j).map (Prod.mk k)).map wT))/\σ=[some (.ref p),some (.ref ks),some (.ref W),some (.str k),some (.ref D),v5,v6,v7]) ⟨_,_,_,Kq.refl _ _,by rw[show dueT (lnOf T' k) T'.length 0=[] from rfl,eQ,eR];exact gW3,rfl⟩ (λ_ _ _ _ _=>True.intro) ?_ ?_
   ·rintro j y σ G4 hy ⟨v5,v6,v7,k4,gW4,rfl⟩;obtain⟨hj,rfl⟩:=a16 hy;have ej:(1:Int)+(j:Int)=((j+1:Nat):Int):=by omega
    rw[ej];have LN4:=keep k4;obtain⟨a1,ea1,ga1⟩:=LN4.get (k:=j+1) (by omega);have na1:a1≠W:=by
     obtain⟨c,hc⟩:∃ c,ps[j+1]?=some c:=⟨ps[j+1]'(by omega),eI _⟩
     have:a1=c:=by
      have e':atI (ps.map Z.ref) ((j+1:Nat):Int)=some (.ref c):=a2k (by rw[eE,hc];rfl);rw[ea1]at e';injection e' with e'
      injection e'
     rw[this];exact (hps _ _ hc).2.2
    have lDj1:=lDj (j+1) (by omega);rw[a3w,eB,dY]at lDj1;refine⟨_,rfl,?_⟩;symm;refine a0Q LN4.gl ea1 ?_;symm;refine a17 ga1 ?_;refine a08 (λl σ G'=>∃ (v6 v7:Option Z),Kq W G3 G'/\G' W=some (.lst ((allT (kn.take i) (esOf T')++(dueT (lnOf T' k) T'.length j).map (Prod.mk k)++((((lnOf T' k (j+1)).take l).filter λr=>!hasR (lnOf T' k j) r).map λr=>((⟨r,((j+1:Nat):Int),unt (lnOf T' k) T'.length r (j+1)⟩:Ti))).map (Prod.mk k)).map wT))/\σ=[some (.ref p),some (.ref ks),some (.ref W),some (.str k),some (.ref D),some (.int ((j+1:Nat):Int)),v6,v7]) ⟨_,_,k4,by simpa using gW4,rfl⟩ (by rintro l σ G' _ ⟨_,_,k',_⟩;exact ((keep k').get (k:=j+1) (by omega)).elim λc hc=>by rw[ea1]at hc;cases hc.1;exact hc.2) ?_ ?_
    ·rintro l y σ G5 hy ⟨v6,v7,k5,gW5,rfl⟩;rw[eE]at hy;cases hy':(lnOf T' k (j+1))[l]? with
     | none=>rw[hy']at hy;cases hy
     | some r=>
     rw[hy']at hy;cases hy;have mr:=eP hy';obtain⟨w,hw⟩:=a3t (lis (j+1)) mr;have hz:r.z=.tup [.int r.b,oz r.e,.str w]:=by unfold Rw.z;rw[hw]
     have fr:flat 8 r.z=true:=fL.mp (LN.fl (j+1)) _ (eU mr);have LN5:=keep k5;obtain⟨a2,ea2,ga2⟩:=LN5.get (k:=j) (by omega);have tk:((lnOf T' k (j+1)).take (l+1)).filter (λr=>!hasR (lnOf T' k j) r)=((lnOf T' k (j+1)).take l).filter (λr=>!hasR (lnOf T' k j) r)++[r].filter (λr=>!hasR (lnOf T' k j) r):=by rw[take_snoc hy',jA]
     refine⟨_,rfl,?_⟩;symm;rw[show ((j+1:Nat):Int) - 1=(j:Int) by omega];refine a0Q LN5.gl ea2 ?_;symm;refine b8E ga2 fr (LN.fl _) ?_;rw[b3a];refine⟨_,rfl,ifNB (λc=>?_) λc=>?_⟩
     ·symm;refine⟨D,ps,lnOf T' k,r,j+1,rfl,LN5,fr,by omega,by omega,?_⟩;rw[show ps.length - 1=T'.length by omega];symm;refine a3R gW5 ?_;rw[hz];symm;refine⟨lenK rfl,?_⟩;symm;refine⟨lenK rfl,?_⟩;symm;refine a1t gW5 ?_ ?_
      ·have l1:(((lnOf T' k (j+1)).take l).filter λr=>!hasR (lnOf T' k j) r).length<=(a8G (lnOf T' k) j).length:=by
        unfold a8G;exact List.Sublist.length_le ((g6 _ _).filter _)
       rw[dY,eB,eB,dY,dY,dY];exact ge (by omega:_<=50000) (by decide)
      refine⟨_,_,λx o e nx=>by rw[a0x nx];exact k5 x o e nx,?_,rfl⟩
      ·rw[a0d,tk,show [r].filter (λr=>!hasR (lnOf T' k j) r)=[r] by simp[c]];have ew:wT (k,⟨r,((j+1:Nat):Int),unt (lnOf T' k) T'.length r (j+1)⟩)=.tup [.str k,.int ((j+1:Nat):Int),.int r.b,.tup [.str k,.str w,.int r.b,oz r.e,.int ((j+1:Nat):Int),oz (unt (lnOf T' k) T'.length r (j+1))]]:=by
        unfold wT L3.rowW rowT itT roK;rw[hw];rfl
       simp only[eD,eG,eQ,eT,ew]
     ·symm;refine⟨_,_,k5,?_,rfl⟩;rw[tk,show [r].filter (λr=>!hasR (lnOf T' k j) r)=[] by simp[c],eR];exact gW5
    ·rintro σ G5 ⟨v6,v7,k5,gW5,rfl⟩;rw[dY,ff]at gW5;refine⟨_,_,_,k5,?_,rfl⟩;rw[gW5,a3w];simp only[eD,eT]
     rfl
   ·rintro σ G4 ⟨v5,v6,v7,k4,gW4,rfl⟩;rw[a0R,<- ek]at gW4;refine⟨_,_,_,_,_,λx o e=>k4 x o (s03 x o e) (a0u e hW),?_,rfl⟩;rw[gW4,take_snoc hx',b3e]
 ·rintro σ G2 ⟨v3,v4,v5,v6,v7,s2,gW2,rfl⟩;rw[dY,ff]at gW2;have e1:(allT kn (esOf T')).map wT=((allT kn (esOf T')).map rowT).map L3.rowW:=by rw[eO];rfl
  rw[e1]at gW2;symm;have lA':=lA kn.length;rw[ff]at lA';refine b2y (m:=3) gW2 (by rw[dY];omega) ?_ ?_ ?_ ?_ ?_
  ·rw[eO];exact b5x I.nd λk hk=>(es k hk).1
  ·intro r hr;rw[eO]at hr;obtain⟨x,_,rfl⟩:=eq.mp hr;exact⟨_,_,rfl⟩
  ·intro r hr;obtain⟨x,_,rfl⟩:=eq.mp hr
   rfl
  ·intro r hr r' hr';obtain⟨x,_,rfl⟩:=eq.mp hr;obtain⟨y,_,rfl⟩:=eq.mp hr';exact b9E x y
  intro t os ht po so;have gt:put G2 t (.lst (os.map L3.rowW)) t=some (.lst (os.map L3.rowW)):=a0d;have s3:Sm G2 (put G2 t (.lst (os.map L3.rowW))):=Sm.new ht;generalize put G2 t (.lst (os.map L3.rowW))=G3 at gt s3 ⊢;have lo:=po.length_eq;rw[dY]at lo;have row3:∀ x∈os,∃ k i j,x.1=[.inr k,.inl (some i),.inl (some j)]:=λx hx=>by
   obtain⟨y,_,rfl⟩:=eq.mp (po.mem_iff.mp hx);exact⟨_,_,_,rfl⟩
  symm;refine a17 gt ?_;intro D hD;refine a49 (g':=λx:List Key×List Z=>Z.tup x.2) (λx=>some x) (λys=>a0k gt hD) (by omega) ?_ ?_
  ·intro x hx ys K1 K2 k1 k2;obtain⟨k,i,j,e⟩:=row3 x hx;have ez:L3.rowW x=.tup [.str k,.int i,.int j,.tup x.2]:=by unfold L3.rowW;rw[e];rfl
   rw[ez];refine⟨_,rfl,?_⟩;symm;exact k1 _ rfl
  rw[show os.filterMap (λx=>some x)=os from List.filterMap_some];symm;exact fin D _ _ (s2.free (s3.free hD)) ((s2.trans s3).trans (Sm.new hD)) (λss f ti=>b0R ti I.nd I.km po so) a0d
theorem b4F {kn:List Str}(h:TilesIs T ss f) (hT:T.length<=63) (hk:∀ τ∈T,τ.key∈kn) (hn:kn.length<=4):(allT ss f).length<=32000:=by
 have b:=eF (a95 h.nd λs c=>by
  obtain⟨τ,b,a⟩:=a8F ((h.is s).mp c);rw[<- a];exact hk τ b) hn
 have a:(a0p ss f).length<=ss.length*7938:=a3v λs c=>by
  have d:=h.tv s c;have b:=b5i (m:=126) λe i=>by
   have:=(d.ln e i).len
   rw[eK]at this;omega
  have a:(f s).length<=63:=by
   have g:=congrArg fh d.ix;rw[dY]at g
   have:=b2Q T s
   omega
  omega
 rw[a6m,dY]at a;omega
structure He where
 a:Addr
 b:Addr
 z:List Z
noncomputable def He.yy (e:He):Z:=.tup [.ref e.a,.ref e.b]
structure HOk (G:Hq) (N:Addr->Prop) (e:He):Prop where
 a:G e.a=some (.lst e.z)
 b:G e.b=some (.lst e.z)
 f:e.z.all (flat 8)=true
 na:¬ N e.a
 nb:¬ N e.b
theorem HOk.keep (h:HOk G N e) (k:∀ x o,G x=some o->¬ N x->G' x=some o/\¬ N' x):HOk G' N' e:=⟨(k _ _ h.a h.na).1,(k _ _ h.b h.nb).1,h.f,(k _ _ h.a h.na).2,(k _ _ h.b h.nb).2⟩
theorem Same.refl:Same T T:=⟨rfl,rfl,λ_ _ _=>rfl⟩
theorem Sheet.al {a:Ad}{G:Hq}{T:List Tl}{b:Bool}{p:Addr}{S:Addr->Prop}(h:Sheet a b G p S T) {x:Addr}(hx:S x) (e:G x=none):False:=by
 obtain⟨_,_,_,m⟩:=h;obtain⟨o,c⟩:=m.al x hx;rw[e]at c;cases c
structure RI (a:Ad) (G:Hq) (p0 p1:Addr) (S0 S1:Addr->Prop) (T:List Tl) (ks hl:Addr) (kn:List Str) (hs:List He):Prop where
 s0:Sheet a false G p0 S0 T
 s1:Sheet a true G p1 S1 T
 ok:OkT T
 len:T.length<=63
 gk:G ks=some (.lst (kn.map Z.str))
 nm:∀ s∈kn,nmOk s
 nd:kn.Nodup
 l4:kn.length<=4
 km:∀ τ∈T,τ.key∈kn
 gh:G hl=some (.lst (hs.map He.yy))
 hh:hs.length<=500
 n0:¬ S0 hl
 n1:¬ S1 hl
 nk:ks≠hl
theorem RI.few {a:Ad}{G:Hq}{p0 p1:Addr}{S0 S1:Addr->Prop}{T:List Tl}{ks hl:Addr}{kn:List Str}{hs:List He}(h:RI a G p0 p1 S0 S1 T ks hl kn hs):Few T:=⟨by have:=h.len;omega,kn,by have:=h.l4;omega,h.km⟩
theorem Kq.ks (k:Kq r G G') (n:¬ S r):KS S G G':=λb o a e=>k b o e λz=>n (z▸a)
noncomputable def b0d (a:Ad):P3:=λws G R=>Ex9 λ(p0 p1:Addr) (S0 S1:Addr->Prop) (T:List Tl) (ks hl:Addr) (kn:List Str) (hs:List He)=>ws=[.ref p0,.ref p1,.ref ks,.ref hl]/\RI a G p0 p1 S0 S1 T ks hl kn hs /\
 ∀ es G',Kq hl G G'->(∀ e∈es,HOk G' (λx=>S0 x\/S1 x\/x=hl) e)->es.length=3->G' hl=some (.lst ((hs++es).map He.yy))->R (.bl true) G'
theorem b3g {a:Ad}{ws:List Z}{G:Hq}{R:K3}(h:b0d a ws G R):ws.length=4:=by obtain⟨_,_,_,_,_,_,_,_,_,rfl,_⟩:=h;rfl
theorem b9L (ti:TilesIs T ss f):∀ x∈allT ss f,∃ w,x.2.r.w=[.str w]:=λx a=>by
 obtain⟨s,c,a⟩:=iZ.mp a;obtain⟨t,b,rfl⟩:=eq.mp a;exact (ti.tv s c).nm t b
theorem b4G (F:Fns K a) (T:Txt K mg a):FnOk P w K mg base CX0 7 a.f36 a.d36 ["sheet","tiled","keys","held"] (lowP K (b0d a)):=by
 have G_due:=b9K (P:=P) (w:=w) (base:=base) F T;have G_p_tiles_of:=a7B (P:=P) (w:=w) (base:=base) F T;have G_Tiled_tiles:=a6A (P:=P) (w:=w) (base:=base) F T;have G_kinds:=b4D (P:=P) (w:=w) (base:=base) F T;refine fn3 F.n36 sc_right (λws G R h=>(by exact b3g h)) (λcdv A outer s H E ws G R hr h=>?_);have hu:=a0T hr;refine⟨_,(a0l (a02 (i:=4) sc_right.nd rfl (ee rfl) (a0y G_due (hr.mono (by decide)) rfl T.m33 F.n33.kp (b9i F) (a0b (a0c (pv 0)) (a0b (a0c (pv 2)) a0g a0a) a0a) (he:=a0a) (hpl:=(a0m a0a a0j))))
  (a0l (a26 (pt:=(.nm 5)) j0.never rfl (a0L (a15 (a0b (a0y G_p_tiles_of (hr.mono (by decide)) rfl T.m26 F.n26.kp (a2H F) (a0b (a0c (pv 0)) a0g a0a) (he:=a0a) (hpl:=a0j)) (a0b (a0y G_p_tiles_of (hr.mono (by decide)) rfl T.m26 F.n26.kp (a2H F) (a0b (a0c (pv 1)) a0g a0a) (he:=a0a) (hpl:=a0j)) (a0b (a28 (a0c (pv 1)) T.cl_Tiled T.mt35 G_Tiled_tiles (hr.mono (by decide)) (a2c F)) a0g a0I) a0I) a0I))) (show QP _ _ (.nm 5) from (a0n (i:=5) sc_right.nd rfl (ee rfl)))
  (a0l (z_if (QW.qt (q_or (a1V (a2t (a0y G_kinds (hr.mono (by decide)) rfl T.m34 F.n34.kp (b4f F) (a0b (a0c (pv 5)) a0g a0a) (he:=a0a) (hpl:=a0j)))) (a7b (a0E (o_ne hu) (a0c (pv 5)) (a0c (pv 4)) (a0B _)))))
  (a0o (a0D q_bl))
  a1f)
  (a0o (a05 (q_bm PySem.F.plainAttrs_list PySem.F.slot_list_append PySem.F.type_list_append a1G (a0c (pv 3)) (a0b (a2Y (a0b (a0c (pv 5)) (a0b (a7c b_list rfl T.b_list rfl (a0b (a0c (pv 5)) a0g a0a) (he:=a0a) (hpl:=a0j)) a0g a0I) a0a)) a0g a2u))))))
  (a0l (a05 (q_bm PySem.F.plainAttrs_list PySem.F.slot_list_append PySem.F.type_list_append a1G (a28 (a0c (pv 1)) T.cl_Tiled T.mt35 G_Tiled_tiles (hr.mono (by decide)) (a2c F)) (a0b (a2Y (a0b a5b (a0b a5b (a0b a0h (a0b a4c (a0b a0h (a0b a4c a0g a0f) a0f) a0f) a0f) a0f) a0f)) a0g a2u)))
  (a0l (a05 (c0i PySem.F.plainAttrs_list PySem.F.slot_list_clear PySem.F.type_list_clear b6c (a0y G_p_tiles_of (hr.mono (by decide)) rfl T.m26 F.n26.kp (a2H F) (a0b (a0c (pv 1)) a0g a0a) (he:=a0a) (hpl:=a0j))))
  (a0o (a0D (b0s (o_eq hu) (a28 (a0c (pv 1)) T.cl_Tiled T.mt35 G_Tiled_tiles (hr.mono (by decide)) (a2c F)) (a0c (pv 4)) (a0B _)))))))),?_⟩
 obtain⟨p0,p1,S0,S1,T',ks,hl,kn,hs,rfl,I,fin⟩:=h;have hT:=I.len;have few:=I.few;symm;refine⟨false,p0,S0,T',ks,kn,rfl,⟨I.s0,I.ok,few,hT,I.gk,I.nm,I.nd,I.l4,I.km⟩,λt Zs G1 ht s1 hz gt=>?_⟩;symm;refine⟨false,p0,S0,T',rfl,I.s0.keep (Sm.ks s1),few,I.ok,λt1 us1 f1 G2 ht1 s2 ev1 fl1 gt1=>?_⟩;have s02:=s1.trans s2;symm;refine⟨true,p1,S1,T',rfl,I.s1.keep (Sm.ks s02),few,I.ok,λt2 us2 f2 G3 ht2 s3 ev2 fl2 gt2=>?_⟩;have s03:=s02.trans s3;have sh3:=I.s1.keep (Sm.ks s03);obtain⟨dx3,n3,d3,ob3⟩:=a6j sh3;symm;refine⟨p1,dx3,_,rfl,ob3,a2K (by decide +kernel) (by decide +kernel),?_⟩;symm;refine⟨p1,S1,T',rfl,sh3,I.ok,few,hT,λt3 ss f G4 ht3 s4 til fl gt3=>?_⟩;have s04:=s03.trans s4;rw[hz ss f til]at gt;rw[Same.refl.ever til ev1]at gt1;rw[Same.refl.ever til ev2]at gt2;have g0:=(s2.trans (s3.trans s4)) _ _ gt;have g1:=(s3.trans s4) _ _ gt1;have g2:=s4 _ _ gt2;have out:∀ {x},G x=none->¬ (S0 x\/S1 x\/x=hl):=λe z=>by
  rcases z with z | z | z
  ·exact I.s0.al z e
  ·exact I.s1.al z e
  ·rw[z,I.gh]at e;cases e
 have o1:=out (s1.free ht1);have o2:=out (s02.free ht2);have o3:=out (s03.free ht3);have o0:t≠hl:=λz=>by rw[z,I.gh]at ht;cases ht
 have hwn:=b9L til;have ez:a0p ss f=(allT ss f).map zT:=a6m;have ez':=ez;have lall:=b4F til hT I.km I.l4;generalize a0p ss f=Y at gt gt1 gt2 gt3 g0 g1 g2 fl ez;clear gt gt1 gt2 fl1 fl2 s2 s3 s4 s02 s1;symm;refine⟨lenK rfl,λli hli=>?_⟩;have gli:put G4 li (.lst [.ref t1,.ref t2,.ref t3]) li=some (.lst [.ref t1,.ref t2,.ref t3]):=a0d;have s5:Sm G4 (put G4 li (.lst [.ref t1,.ref t2,.ref t3])):=Sm.new hli;have nli:li≠hl:=Ne.symm (a0u (s04 _ _ I.gh) hli);generalize put G4 li (.lst [.ref t1,.ref t2,.ref t3])=G5 at gli s5 ⊢;have s05:=s04.trans s5
 replace g0:=s5 _ _ g0
 replace g1:=s5 _ _ g1
 replace g2:=s5 _ _ g2
 have g3:=s5 _ _ gt3;symm;refine a17 gli ?_;refine a08 (λi σ G'=>∃ (es:List He) (v5:Option Z),es.length=i/\(∀ e∈es,HOk G' (λx=>S0 x\/S1 x\/x=hl) e)/\Kq hl G5 G'/\G' hl=some (.lst ((hs++es).map He.yy))/\σ=[some (.ref p0),some (.ref p1),some (.ref ks),some (.ref hl),some (.ref t),v5]) ⟨[],_,rfl,(λe h=>by simp at h),Kq.refl _ _,by rw[eR];exact s05 _ _ I.gh,rfl⟩ (by rintro i σ G' _ ⟨_,_,_,_,k,_⟩;exact k _ _ gli nli) ?_ ?_
 ·rintro i x σ G6 hx ⟨es,v5,hes,ho,k6,gh6,rfl⟩;obtain⟨u,rfl,gu,ou⟩:∃ u,x=.ref u/\G5 u=some (.lst Y)/\¬ (S0 u\/S1 u\/u=hl):=by
   match i,hx with
   | 0,hx=>exact⟨t1,by simpa using hx.symm,g1,o1⟩
   | 1,hx=>exact⟨t2,by simpa using hx.symm,g2,o2⟩
   | 2,hx=>exact⟨t3,by simpa using hx.symm,g3,o3⟩
   | i+3,hx=>simp at hx
  have hi:i<=3:=by have:=(eL.mp hx).1;simp at this;omega
  have gu6:=k6 _ _ gu λz=>ou (.inr (.inr z));have g06:=k6 _ _ g0 o0;refine⟨_,rfl,?_⟩;symm;refine⟨u,allT ss f,rfl,by rw[gu6,ez],hwn,λG7 s7=>?_⟩;refine⟨_,rfl,ifF ?_⟩;symm;refine b1Z (s7 _ _ gu6) (s7 _ _ g06) fl fl ?_;rw[decide_eq_true rfl];symm;refine ifF ?_;symm;refine a3R (s7 _ _ gh6) ?_;symm;refine b6i (s7 _ _ gu6) λu2 hu2=>?_;have gu2:put G7 u2 (.lst Y) u2=some (.lst Y):=a0d;have s8:Sm G7 (put G7 u2 (.lst Y)):=Sm.new hu2;generalize put G7 u2 (.lst Y)=G8 at gu2 s8 ⊢;have s68:=s7.trans s8;have free:∀ {x},G6 x=none->G x=none:=λ{x} e=>by
   cases c:G x with
   | none=>rfl
   | some o=>
    by_cases n:x=hl
    ·rw[n,gh6]at e;cases e
    ·rw[k6 _ _ (s05 _ _ c) n]at e;cases e
  have ou2:=out (free (s7.free hu2));symm;refine⟨lenK rfl,?_⟩;symm;refine a1t (s68 _ _ gh6) (by rw[dY,eB];exact a0v (by have:=I.hh;omega)) ?_;have k9:Kq hl G8 (put G8 hl (.lst ((hs++es).map He.yy++[.tup [.ref u,.ref u2]]))):=Kq.at
  have gh9:put G8 hl (.lst ((hs++es).map He.yy++[.tup [.ref u,.ref u2]])) hl=some (.lst ((hs++(es++[He.mk u u2 Y])).map He.yy)):=by rw[a0d,<- eT,eD (l₂:=[_])];rfl
  generalize put G8 hl (.lst ((hs++es).map He.yy++[.tup [.ref u,.ref u2]]))=G9 at k9 gh9 ⊢;have k69:Kq hl G6 G9:=λx o e n=>k9 x o (s68 x o e) n;refine⟨es++[⟨u,u2,Y⟩],_,by rw[eB,hes];rfl,λe he=>?_,k6.trans k69,gh9,rfl⟩;rcases ei.mp he with he | he
  ·exact (ho e he).keep λx o e n=>⟨k69 x o e λz=>n (.inr (.inr z)),n⟩
  ·rw[et.mp he];exact⟨k69 _ _ gu6 λz=>ou (.inr (.inr z)),k9 _ _ gu2 λz=>ou2 (.inr (.inr z)),fl,ou,ou2⟩
 ·rintro σ G6 ⟨es,v5,hes,ho,k6,gh6,rfl⟩;have k06:Kq hl G G6:=λx o e n=>k6 x o (s05 x o e) n;have sh6:=I.s1.keep (Kq.ks k06 I.n1);have g06:=k6 _ _ g0 o0;obtain⟨dx6,n6,d6,ob6⟩:=a6j sh6;symm;refine⟨p1,dx6,_,rfl,ob6,a2K (by decide +kernel) (by decide +kernel),?_⟩;symm;refine⟨p1,S1,T',rfl,sh6,I.ok,few,hT,λt7 ss7 f7 G7 ht7 s7 til7 fl7 gt7=>?_⟩;refine a3R gt7 ?_;symm;refine⟨lenK rfl,?_⟩;symm;have l7:(a0p ss7 f7).length<=32000:=by rw[til7.uniq til,ez',dY];exact lall
  refine a1t gt7 (ge l7 (by decide)) ?_;have s8:Sm G6 (put G7 t7 (.lst (a0p ss7 f7++[.tup [.str (Str.ofString "a"),.str (Str.ofString "a"),.int 0,.non,.int 1,.non]]))):=s7.put ht7;generalize put G7 t7 (.lst (a0p ss7 f7++[.tup [.str (Str.ofString "a"),.str (Str.ofString "a"),.int 0,.non,.int 1,.non]]))=G8 at s8 ⊢;clear s7 gt7 l7;symm;refine⟨true,p1,S1,T',rfl,sh6.keep (Sm.ks s8),few,I.ok,λt9 us9 f9 G9 ht9 s9 ev9 fl9 gt9=>?_⟩;refine a3R gt9 ?_;symm;refine⟨_,gt9,?_⟩;have s10:Sm G6 (put G9 t9 (.lst [])):=(s8.trans s9).put (s8.free ht9);generalize put G9 t9 (.lst [])=G10 at s10 ⊢;clear s8 s9 gt9;have sh10:=sh6.keep (Sm.ks s10);obtain⟨dx10,n10,d10,ob10⟩:=a6j sh10;symm;refine⟨p1,dx10,_,rfl,ob10,a2K (by decide +kernel) (by decide +kernel),?_⟩;symm;refine⟨p1,S1,T',rfl,sh10,I.ok,few,hT,λt11 ss11 f11 G11 ht11 s11 til11 fl11 gt11=>?_⟩;have s611:=s10.trans s11;rw[til11.uniq til,ez',<- ez]at gt11;symm;refine b1Z gt11 (s611 _ _ g06) fl fl ?_;rw[decide_eq_true rfl];exact fin es G11 (λx o e n=>s611 x o (k06 x o e n)) (λe he=>(ho e he).keep λx o e n=>⟨s611 x o e,n⟩) (by rw[hes,eu,eu,eu];rfl) (s611 _ _ gh6)
local macro_rules | `(tactic| walk_at "go1")=>`(tactic| first | refine i_I (show (0:Int)<_ by decide) ?_ | refine a0Q (by assumption) (by with_unfolding_all rfl) ?_ | (refine i_I ⟨by decide,by decide,by decide⟩ ?_;rw[b0N]))
structure TV (a:Ad) (H G:Hq) (N:Addr->Prop) (b0 b1:Bool) (p0 p1 hl:Addr) (S0 S1:Addr->Prop) (T U:List Tl) (hs:List He):Prop where
 s0:Sheet a b0 G p0 S0 T
 s1:Sheet a b1 G p1 S1 U
 d:∀ x,S0 x->¬ S1 x
 f0:∀ x,S0 x->N x\/H x=none
 f1:∀ x,S1 x->N x\/H x=none
 n0:¬ S0 hl
 n1:¬ S1 hl
 gh:G hl=some (.lst (hs.map He.yy))
 ho:∀ e∈hs,HOk G (λx=>S0 x\/S1 x\/x=hl) e
 kp:∀ x o,H x=some o->¬ N x->x≠hl->G x=some o
section
variable {a:Ad}{H G G':Hq}{N:Addr->Prop}{b0 b1:Bool}{p0 p1 hl:Addr}{S0 S1 S':Addr->Prop}{T U W:List Tl}{hs es:List He}
theorem TV.sm (h:TV a H G N b0 b1 p0 p1 hl S0 S1 T U hs) (s:Sm G G'):TV a H G' N b0 b1 p0 p1 hl S0 S1 T U hs:={ h with s0:=h.s0.keep (Sm.ks s),s1:=h.s1.keep (Sm.ks s),gh:=s _ _ h.gh,ho:=λe b=>(h.ho e b).keep λ_ _ e n=>⟨s _ _ e,n⟩,kp:=λx o e n c=>s _ _ (h.kp x o e n c) }
theorem TV.swap (h:TV a H G N b0 b1 p0 p1 hl S0 S1 T U hs):TV a H G N b1 b0 p1 p0 hl S1 S0 U T hs:=⟨h.s1,h.s0,λx b g=>h.d x g b,h.f1,h.f0,h.n1,h.n0,h.gh,λe f=>(h.ho e f).keep λ_ _ e n=>⟨e,λz=>n (z.elim (λc=>.inr (.inl c)) λz=>z.elim .inl λc=>.inr (.inr c))⟩,h.kp⟩
theorem TV.t0 (h:TV a H G N b0 b1 p0 p1 hl S0 S1 T U hs) (i2:∀ x,S' x->S0 x\/G x=none) (kn:KN S0 G G') (sh:Sheet a b0 G' p0 S' W):TV a H G' N b0 b1 p0 p1 hl S' S1 W U hs:=by
 refine⟨sh,h.s1.keep λx o b e=>kn x o (λz=>h.d x z b) e,λx b f=>?_,λx b=>?_,h.f1,λb=>?_,h.n1,kn _ _ h.n0 h.gh,λe g=>(h.ho e g).keep λx o e n=>⟨kn x o (λz=>n (.inl z)) e,λz=>?_⟩,λx o e n c=>kn x o (λz=>?_) (h.kp x o e n c)⟩
 ·rcases i2 x b with w | w
  ·exact h.d x w f
  ·exact h.s1.al f w
 ·rcases i2 x b with w | w
  ·exact h.f0 x w
  ·by_cases n:N x
   ·simp_all
   ·right
    cases e:H x with
    | none=>rfl
    | some o=>
     by_cases c:x=hl
     ·rw[c,h.gh]at w;cases w
     ·rw[h.kp x o e n c]at w;cases w
 ·rcases i2 _ b with w | w
  ·exact h.n0 w
  ·rw[h.gh]at w;cases w
 ·rcases z with z | z
  ·rcases i2 _ z with w | w
   ·simp_all
   ·simp_all
  ·simp_all
 ·rcases h.f0 x z with w | w
  ·simp_all
  ·simp_all
theorem TV.t1 (h:TV a H G N b0 b1 p0 p1 hl S0 S1 T U hs) (i2:∀ x,S' x->S1 x\/G x=none) (kn:KN S1 G G') (sh:Sheet a b1 G' p1 S' W):TV a H G' N b0 b1 p0 p1 hl S0 S' T W hs:=(h.swap.t0 i2 kn sh).swap
theorem TV.add (h:TV a H G N b0 b1 p0 p1 hl S0 S1 T U hs) (k:Kq hl G G') (ho:∀ e∈es,HOk G' (λx=>S0 x\/S1 x\/x=hl) e) (g:G' hl=some (.lst ((hs++es).map He.yy))):TV a H G' N b0 b1 p0 p1 hl S0 S1 T U (hs++es):=
 { h with
  s0:=h.s0.keep (Kq.ks k h.n0)
  s1:=h.s1.keep (Kq.ks k h.n1)
  gh:=g
  ho:=λe b=>by
   rcases ei.mp b with b | b
   ·exact (h.ho e b).keep λx o e n=>⟨k x o e λz=>n (.inr (.inr z)),n⟩
   ·exact ho e b
  kp:=λx o e n c=>k _ _ (h.kp x o e n c) c }
end
theorem b7b (h:OkT T) (o:τ.Ok):OkT (T++[τ]):=λu a=>by
 rcases ei.mp a with a | a
 ·exact h u a
 ·simp_all
theorem b9M (hp:G p=none) (k:∀ x o,put G p (.ins C dx []) x=some o->x≠p->G' x=some o):Sm G G':=λx o e=>k x o (a0k e hp) (a0u e hp)
theorem b9N (hp:G p=none) (hd:put G p (.ins C dx []) d=none) (hx:x=p\/x=d):G x=none:=by
 rcases hx with rfl | rfl
 ·omega
 ·exact (Sm.new hp).free hd
theorem b7c (h:a8q ws G R):ws.length=1:=by obtain⟨_,_,rfl,_⟩:=h;rfl
theorem b9O (F:Fns K a) (T:Txt K mg a):FnOk P w K mg base CX0 8 a.f41 a.d41 ["script"] (lowP K a8q):=by
 have G_names:=b4u (P:=P) (w:=w) (base:=base) F T;have G_Sheet___init__:=a41 (P:=P) (w:=w) (base:=base) F T;have G_cell_at:=b0J (P:=P) (w:=w) (base:=base) F T;have G_telling:=b0O (P:=P) (w:=w) (base:=base) F T;have G_right:=b4G (P:=P) (w:=w) (base:=base) F T;have G_Sheet_tell:=a7y (P:=P) (w:=w) (base:=base) F T;have G_mix:=b5s (P:=P) (w:=w) (base:=base) F T;refine fn3 F.n41 sc_law (λws G R h=>(by exact b7c h)) (λcdv A outer s H E ws G R hr h=>?_);have hu:=a0T hr;refine⟨_,(a0l (a02 (i:=1) sc_law.nd rfl (ee rfl) (q_op a5M (a0y G_cell_at (hr.mono (by decide)) rfl T.m27 F.n27.kp (a4X F) (a0b (a0c (pv 0)) (a0b a0h a0g a0f) a0a) (he:=a0a) (hpl:=(a0m a0f a0j))) a0h))
  (a0l (a02 (i:=2) sc_law.nd rfl (ee rfl) (a0y G_names (hr.mono (by decide)) rfl T.m30 F.n30.kp (a9S F) (a0b (q_op b1K (a0y G_cell_at (hr.mono (by decide)) rfl T.m27 F.n27.kp (a4X F) (a0b (a0c (pv 0)) (a0b a0h a0g a0f) a0a) (he:=a0a) (hpl:=(a0m a0f a0j))) a0h) (a0b (a0c (pv 1)) (a0b a0h a0g a0f) a0a) a0H) (he:=a0H) (hpl:=(a0m a0a (a0m a0f a0j)))))
  (a0l (a02 (i:=3) sc_law.nd rfl (ee rfl) (a0y G_names (hr.mono (by decide)) rfl T.m30 F.n30.kp (a9S F) (a0b (a0y G_cell_at (hr.mono (by decide)) rfl T.m27 F.n27.kp (a4X F) (a0b (a0c (pv 0)) (a0b a0h a0g a0f) a0a) (he:=a0a) (hpl:=(a0m a0f a0j))) (a0b (a0c (pv 1)) (a0b a0h a0g a0f) a0a) a0I) (he:=a0I) (hpl:=(a0m a0a (a0m a0f a0j)))))
  (a0l (a02 (i:=4) sc_law.nd rfl (ee rfl) (b2i T.mk_Sheet G_Sheet___init__ (hr.mono (by decide)) rfl T.mg_Sheet (a2f F)))
  (a0l (a02 (i:=5) sc_law.nd rfl (ee rfl) (b2i T.mk_Tiled G_Sheet___init__ (hr.mono (by decide)) rfl T.mg_Tiled (a2f F)))
  (a0l (a02 (i:=6) sc_law.nd rfl (ee rfl) (a15 a0g))
  (a0l (z_if (QW.qt (q_or (a1V (a2t (a0w (c03 T.ow_Tiled T.ki_Tiled_Sheet) rfl T.b_isinstance rfl (a0b (a0c (pv 5)) (a0b (b83 (b34 rfl T.mg_Sheet)) a0g a0a) a0a) (he:=a0a) (hpl:=(a0m a0a a0j))))) (a7b (a1V (a2t (a0y G_right (hr.mono (by decide)) rfl T.m36 F.n36.kp (a7r F) (a0b (a0c (pv 4)) (a0b (a0c (pv 5)) (a0b (a0c (pv 2)) (a0b (a0c (pv 6)) a0g a0a) a0a) a0a) a0a) (he:=a0a) (hpl:=(a0m a0a (a0m a0a (a0m a0a a0j))))))))))
  (a0o (a0D q_bl))
  a1f)
  (a0l (a26 (pt:=(.nm 7)) j0.never rfl (a0L (a14 x_sl (a0c (pv 0)) (a2O a0h) (a2O a0h))) (show QP _ _ (.nm 7) from (a0n (i:=7) sc_law.nd rfl (ee rfl)))
  (a0l (a02 (i:=8) sc_law.nd rfl (ee rfl) (a0y G_telling (hr.mono (by decide)) rfl T.m31 F.n31.kp (b0I F) (a0b (a0c (pv 7)) (a0b (a0c (pv 1)) (a0b (a0c (pv 2)) (a0b (a0c (pv 3)) a0g a0a) a0a) a0a) a0a) (he:=a0a) (hpl:=(a0m a0a (a0m a0a (a0m a0a a0j))))))
  (a0l (z_if (a0E (o_ne hu) (b9a λb=>(a3V a29 up0 (a0c (pv 4)) (clK T b) (a3C T b) G_Sheet_tell (hr.mono (by decide)) (a4r F) (a0b (a0c (pv 8)) a0g a0a) (hst:=a0a) (hpl:=a0j))) (b9a λb=>(a3V a29 up0 (a0c (pv 5)) (clK T b) (a3C T b) G_Sheet_tell (hr.mono (by decide)) (a4r F) (a0b (a0c (pv 8)) a0g a0a) (hst:=a0a) (hpl:=a0j))) (a0B _))
  (a0o (a0D q_bl))
  a1f)
  (a0o (z_if (QW.qt (b0t (a0E (o_eq hu) (q_op a5M (a0y G_mix (hr.mono (by decide)) rfl T.m28 F.n28.kp (b5f F) (a0b (a0c (pv 7)) (a0b a0h a0g a0f) a0a) (he:=a0a) (hpl:=(a0m a0f a0j))) a0h) a0h (a0B _)) (a7R (a1V (a2t (a0y G_right (hr.mono (by decide)) rfl T.m36 F.n36.kp (a7r F) (a0b (a0c (pv 4)) (a0b (a0c (pv 5)) (a0b (a0c (pv 2)) (a0b (a0c (pv 6)) a0g a0a) a0a) a0a) a0a) (he:=a0a) (hpl:=(a0m a0a (a0m a0a (a0m a0a a0j))))))))))
  (a0o (a0D q_bl))
  a1f)))))
  (a0l (z_if (a1V (a2t (a0y G_right (hr.mono (by decide)) rfl T.m36 F.n36.kp (a7r F) (a0b (a0c (pv 4)) (a0b (a0c (pv 5)) (a0b (a0c (pv 2)) (a0b (a0c (pv 6)) a0g a0a) a0a) a0a) a0a) (he:=a0a) (hpl:=(a0m a0a (a0m a0a (a0m a0a a0j)))))))
  (a0o (a0D q_bl))
  a1f)
  (a0o (a0D (b0s (o_eq hu) (q_lc (N₀:=["script","way","keys","worths","sheet","tiled","held","cell","telling"]) (so:=a0e a7o) (N':=["told","kept"]) (cap:=[none,none]) (pt:=(.tp [0,1])) rfl rfl rfl (by decide +kernel) rfl (a0L (a0c (pv 6))) (λ_ _ _ _=>(show QP _ _ (.tp [0,1]) from (a5D rfl (a0z (a0n (i:=0) b5e rfl (ee rfl)) (a0z (a0n (i:=1) b5e rfl (ee rfl)) a3L))))) (λ_ _ _ _=>(a27 (a0E (o_ne hu) (a0c (pv 0)) (a0c (pv 1)) (a0B _)))) (λ_ _ _ _=>(a0c (pv 0)))) (a15 a0g) (a0B _))))))))))))),?_⟩
 obtain⟨sa,ns,rfl,hl',q⟩:=h;symm;refine⟨sa,ns,0,rfl,by decide,λc0=>?_⟩;symm;generalize c0 % 2=way;refine⟨sa,ns,0,rfl,by decide,λc2=>?_⟩;symm;refine i_I ⟨by decide,by decide⟩ ?_;symm;refine⟨_,_,4,rfl,by decide,by decide,λks kn G1 hks gks kl kno knd s1=>?_⟩;symm;refine⟨sa,ns,1,rfl,by decide,λc3=>?_⟩;symm;refine⟨_,_,3,rfl,by decide,by decide,λwsA wn G3 hws gws hwn hwno _ s3=>?_⟩;have gks3:=s3 _ _ gks;clear gks s1 hks s3 hws;symm;intro p0 dx0 hp0;refine⟨false,p0,dx0,rfl,a0d,λd0 H0 hd0 k0 sh0=>⟨rfl,?_⟩⟩;have m0:=b9M hp0 k0;have n0:∀ {x},(x=p0\/x=d0)->G3 x=none:=b9N hp0 hd0;clear k0 hp0 hd0;symm;intro p1 dx1 hp1;refine⟨true,p1,dx1,rfl,a0d,λd1 H1 hd1 k1 sh1=>⟨rfl,?_⟩⟩;have m1:=b9M hp1 k1;have n1:∀ {x},(x=p1\/x=d1)->H0 x=none:=b9N hp1 hd1;clear k1 hp1 hd1;symm;refine⟨lenK rfl,λhl hhl=>?_⟩;have ghl:put H1 hl (.lst []) hl=some (.lst (([]:List He).map He.yy)):=a0d;have m2:Sm H1 (put H1 hl (.lst [])):=Sm.new hhl;have nkl:ks≠hl:=a0u (m1 _ _ (m0 _ _ gks3)) hhl;have nwl:wsA≠hl:=a0u (m1 _ _ (m0 _ _ gws)) hhl;generalize put H1 hl (.lst [])=H2 at ghl m2 ⊢;have no:∀ {b p S T} {K K':Hq}{x:Addr},Sheet a b K p S T->Sm K K'->S x->K' x=none->False:=λsh s hx e=>(sh.keep (Sm.ks s)).al hx e;have ndd:∀ {K K':Hq}{x:Addr}{o:O},Sm K K'->K x=some o->K' x=none->False:=λs e e'=>by rw[s _ _ e]at e';cases e'
 obtain⟨N,hN⟩:∃ N:Addr->Prop,∀ x,N x↔(x=p0\/x=d0)\/(x=p1\/x=d1):=⟨_,λ_=>Iff.rfl⟩;have nN:∀ {x o},G3 x=some o->¬ N x:=λe z=>by
  rcases (hN _).mp z with z | z
  ·exact ndd (Sm.refl _) e (n0 z)
  ·exact ndd m0 e (n1 z)
 have nK:=nN gks3;have nW:=nN gws;have nN2:∀ {x} {K:Hq},Sm H1 K->K x=none->¬ N x:=λs e z=>by
  rcases (hN _).mp z with z | z
  ·exact no sh0 (m1.trans s) z e
  ·exact no sh1 s z e
 have m12:=m1.trans m2;have h:TV a H2 H2 N false true p0 p1 hl (λx=>x=p0\/x=d0) (λx=>x=p1\/x=d1) [] [] []:=
  ⟨sh0.keep (Sm.ks m12),sh1.keep (Sm.ks m2),λx h1 h2=>no sh0 (Sm.refl _) h1 (n1 h2),λx h=>.inl ((hN x).mpr (.inl h)),λx h=>.inl ((hN x).mpr (.inr h)),λz=>no sh0 m1 z hhl,λz=>no sh1 (Sm.refl _) z hhl,ghl,λe he=>by simp at he,λx o e _ _=>e⟩
 have gk6:=m12 _ _ (m0 _ _ gks3);have gw6:=m12 _ _ (m0 _ _ gws);have nnew:∀ {x},H2 x=none->¬ N x:=nN2 m2;clear sh0 sh1 n0 n1 m0 m1 m2 m12 no ndd nN hN gks3 gws hhl ghl nN2;generalize (λx=>x=p0\/x=d0)=S0 at h;generalize (λx=>x=p1\/x=d1)=S1 at h;obtain⟨dxa,da,kva,ma⟩:=id h.s1;have oa:H2 p1=some (.ins a.c_Tiled dxa _):=ma.ob;symm;refine c04 oa ?_;refine⟨_,rfl,ifF ?_⟩;symm;refine⟨p0,p1,S0,S1,[],ks,hl,kn,[],rfl,⟨h.s0,h.s1,(fun τ h=>by simp at h),by decide,gk6,kno,knd,by omega,(fun τ h=>by simp at h),h.gh,by decide,h.n0,h.n1,nkl⟩,λes G4 k4 ho4 le4 gh4=>?_⟩;symm;refine ifF ?_
 replace h:=h.add k4 ho4 gh4
 have les:([]++es).length<=3:=by rw[gc];omega
 generalize []++es=hs at h les;clear k4 ho4 le4 gh4 oa ma;symm;refine c0B λc hc=>?_;have hcl:(cutZ ns (some 2) (some 82)).length<=63:=eF (a8Q ..) hl';generalize cutZ ns (some 2) (some 82)=cs at hcl ⊢;have gc6:put G4 c (.lst (cs.map Z.int)) c=some (.lst (cs.map Z.int)):=a0d;have m4:Sm G4 (put G4 c (.lst (cs.map Z.int))):=Sm.new hc;have ncl:c≠hl:=Ne.symm (a0u h.gh hc);have gk4:=h.kp _ _ gk6 nK nkl;have gw4:=h.kp _ _ gw6 nW nwl;generalize put G4 c (.lst (cs.map Z.int))=G6 at gc6 m4 ⊢;have fS:∀ {x o},G4 x=some o->(S0 x\/S1 x)->(S0 x\/S1 x)\/G6 x=none:=λ_ z=>.inl z;have nKS:¬ (S0 ks\/S1 ks):=λz=>z.elim (λz=>(h.f0 _ z).elim nK λe=>by rw[e]at gk6;cases gk6) λz=>(h.f1 _ z).elim nK λe=>by rw[e]at gk6;cases gk6
 have nWS:¬ (S0 wsA\/S1 wsA):=λz=>z.elim (λz=>(h.f0 _ z).elim nW λe=>by rw[e]at gw6;cases gw6) λz=>(h.f1 _ z).elim nW λe=>by rw[e]at gw6;cases gw6
 have nCS:¬ (S0 c\/S1 c):=λz=>z.elim (λz=>h.s0.al z hc) λz=>h.s1.al z hc;have gk:=m4 _ _ gk4;have gw:=m4 _ _ gw4;have h':=h.sm m4;have th:TV a G6 G6 (λx=>S0 x\/S1 x) false true p0 p1 hl S0 S1 [] [] hs:=⟨h'.s0,h'.s1,h'.d,λx z=>.inl (.inl z),λx z=>.inl (.inr z),h'.n0,h'.n1,h'.gh,h'.ho,λx o e _ _=>e⟩;clear h h' gk4 gw4 gk6 gw6 nK nW nnew m4 hc fS;obtain⟨M,hM⟩:∃ M:Addr->Prop,M=λx=>S0 x\/S1 x:=⟨_,rfl⟩;rw[<- hM]at th
 replace nKS:¬ M ks:=by rw[hM];exact nKS
 replace nWS:¬ M wsA:=by rw[hM];exact nWS
 replace nCS:¬ M c:=by rw[hM];exact nCS
 clear hM;symm;refine a17 gc6 ?_;refine a08 (λi σ G'=>Ex6 λ(S0 S1:Addr->Prop) (T:List Tl) (hs:List He) (v1 v2:Option Z)=>T.length=i/\hs.length<=3+3*i/\OkT T/\(∀ τ∈T,τ.key∈kn)/\TV a G6 G' M false true p0 p1 hl S0 S1 T T hs/\σ=[some (.scr sa ns),some (.int way),some (.ref ks),some (.ref wsA),some (.ref p0),some (.ref p1),some (.ref hl),v1,v2])
  ⟨S0,S1,[],hs,_,_,rfl,by omega,(fun τ h=>by simp at h),(fun τ h=>by simp at h),th,rfl⟩ (by rintro i σ G' _ ⟨_,_,_,_,_,_,_,_,_,_,h,_⟩;exact h.kp _ _ gc6 nCS ncl) ?_ ?_
 ·rintro i x σ G' hx ⟨S0,S1,T1,hs,v1,v2,hTl,lhs,ok,km,h,rfl⟩;rw[eE]at hx;cases hx':cs[i]? with
  | none=>rw[hx']at hx;cases hx
  | some cl=>
  rw[hx']at hx;cases hx;have hi:=(eL.mp hx').1;refine⟨_,rfl,?_⟩;symm;refine⟨_,_,ks,wsA,kn,wn,rfl,h.kp _ _ gk nKS nkl,h.kp _ _ gw nWS nwl,by omega,by omega,by omega,by omega,kno,hwno,fun τ Ga sA okτ mk=>?_⟩
  replace h:=h.sm sA
  obtain⟨dxa,na,da,oba⟩:=a6j h.s0;symm;refine b9b false ?_;symm;refine⟨p0,dxa,_,rfl,oba,a2K (by decide +kernel) (by decide +kernel),?_⟩;symm;refine⟨false,p0,S0,T1,h.s0,.inl ⟨τ,rfl,okτ,by omega,λS0' Gb i1 i2 knb shb=>?_⟩⟩
  replace h:=h.t0 i2 knb shb
  clear oba i1 i2 knb shb sA;obtain⟨dxa,na,da,oba⟩:=a6j h.s1;symm;refine b9b true ?_;symm;refine⟨p1,dxa,_,rfl,oba,a2K (by decide +kernel) (by decide +kernel),?_⟩;symm;refine⟨true,p1,S1,T1,h.s1,.inl ⟨τ,rfl,okτ,by omega,λS1' Gc i1 i2 knc shc=>?_⟩⟩
  replace h:=h.t1 i2 knc shc
  clear oba i1 i2 knc shc
  replace ok:=b7b ok okτ
  replace km:∀ u∈T1++[τ],u.key∈kn:=λu hu=>by
   rcases ei.mp hu with hu | hu
   ·exact km u hu
   ·rw[et.mp hu];exact mk
  have hT2:(T1++[τ]).length=i+1:=by rw[eB,hTl];rfl
  generalize T1++[τ]=T2 at h ok km hT2;symm;refine ifN (λz=>absurd rfl z) λ_=>?_;symm;refine⟨_,50,rfl,by decide,by decide,λr r0 r1=>?_⟩;symm;refine ifD (λ_=>?_) λ_=>?_
  ·symm;refine⟨p0,p1,S0',S1',T2,ks,hl,kn,hs,rfl,⟨h.s0,h.s1,ok,by omega,h.kp _ _ gk nKS nkl,kno,knd,by omega,km,h.gh,by omega,h.n0,h.n1,nkl⟩,λes Gd kd hod led ghd=>?_⟩;symm;refine ifF ?_;symm;exact⟨S0',S1',T2,hs++es,_,_,hT2,by rw[eB];omega,ok,km,h.add kd hod ghd,rfl⟩
  ·symm;exact⟨S0',S1',T2,hs,_,_,hT2,by omega,ok,km,h,rfl⟩
 ·rintro σ G' ⟨S0,S1,T1,hs,v1,v2,hTl,lhs,ok,km,h,rfl⟩;rw[dY]at hTl lhs;symm;refine⟨p0,p1,S0,S1,T1,ks,hl,kn,hs,rfl,⟨h.s0,h.s1,ok,by omega,h.kp _ _ gk nKS nkl,kno,knd,by omega,km,h.gh,by omega,h.n0,h.n1,nkl⟩,λes Gd kd hod led ghd=>?_⟩
  replace h:=h.add kd hod ghd
  have lh:(hs++es).length<=500:=by rw[eB];omega
  generalize hs++es=hs2 at h lh;symm;refine ifF ?_;symm;refine a17 h.gh ?_;intro D hD;refine a49 (g':=λz:Z=>z) (λ_=>none) (λys=>a0k h.gh hD) (by omega) ?_ ?_
  ·intro e he ys K1 K2 k1 k2;have ho:=h.ho e he;refine⟨_,rfl,?_⟩;symm;refine b1Z (a0k ho.a hD) (a0k ho.b hD) ho.f ho.f ?_;rw[decide_eq_true rfl];exact⟨_,rfl,ifF (k2 rfl)⟩
  have e0:∀ l:List He,l.filterMap (λ_=>(none:Option Z))=[]:=λl=>by simp
  rw[e0];symm;refine⟨lenK rfl,λE hE=>?_⟩;refine b1Z (a0k a0d hE) a0d rfl rfl ?_;rw[decide_eq_true (show [].map (λz:Z=>z)=[] from rfl)];exact q _
theorem all_mk {l:PySem.W.OpenLaw}{w:World}{K:Fg}{h:Heap}{mg:Str->Option Value}{fa:Addr}(X:K.In h) (G:h.Ns jP mg) (hfa:mg "law"=some (.ref fa))
  {bu bd a9 a3 ba aU aQ bk aL bv bF aV a4 aO ah az bG a5 be aA aB ap bf bl aC a0 bm bL cP cc cd bM ce cQ cf aY cg aq aH aI aR cR:Addr}
  {dy cX:Option Addr}{dz:Array (Option Value)}{dA cY cZ c0 cz c1:Value}
  {bC:Tok}
  {bJ:Tok}
  {ac:Addr}
  {ab:Addr}
  (c6:PySem.W.nsIn K jP "Sheet"=some (some (.ref ac))) (c7:PySem.W.plainGet K ac Str.empty=true) (c8:PySem.W.hasDictIn K ac=true) (c9:PySem.W.plainOver K ac=true) (da:PySem.W.findIn K (.ref ac) "__setattr__"=some (some (.builtin "object.__setattr__")))
  (db:PySem.W.makesIn K ac=true) (dc:PySem.W.keepIn K (.ref ac)=true)
  (dd:PySem.W.nsIn K jP "Tiled"=some (some (.ref ab))) (cA:PySem.W.plainGet K ab Str.empty=true) (cB:PySem.W.hasDictIn K ab=true) (cC:PySem.W.plainOver K ab=true) (cD:PySem.W.findIn K (.ref ab) "__setattr__"=some (some (.builtin "object.__setattr__")))
  (de:PySem.W.makesIn K ab=true) (df:PySem.W.keepIn K (.ref ab)=true)
  (dp:PySem.W.findIn K (.ref ac) "last"=some none)
  (dg:PySem.W.findIn K (.ref ab) "last"=some none)
  (dq:PySem.W.findIn K (.ref ac) "kept"=some none)
  (dh:PySem.W.findIn K (.ref ab) "kept"=some none)
  (di:PySem.W.findIn K (.ref ab) "__class__"=some (some (.builtin "object.__class__"))) (dj:PySem.W.specialIn K (.builtin "object.__class__") "__get__"=some (some (.builtin "getset_descriptor.__get__"))) (dk:PySem.W.takesIn K (.builtin "object.__class__")=some true) (dl:PySem.W.mroIn K ab (.type "object")=some true)
  (ch:PySem.W.kitOne K (.ref ab) (.ref ac)=some true)
  {b2:Addr}
  {bw:Addr}
  {bx:Addr}
  (c2:PySem.W.nsIn K jP "NoName"=some (some (.ref b2)))
  (cE:PySem.W.nsIn K jP "NoStretch"=some (some (.ref bw)))
  (cF:PySem.W.nsIn K jP "NoKnowing"=some (some (.ref bx)))
  (c3:PySem.W.excIn K b2 veM "ValueError.__new__"=true)
  (cG:PySem.W.excIn K bw veM "ValueError.__new__"=true)
  (cH:PySem.W.excIn K bx veM "ValueError.__new__"=true)
  (cN:PySem.W.nsIn K jP "is_name"=some (some (.ref bu))) (bz:FE K "is_name" "is_name" a2A bu)
  (cr:PySem.W.nsIn K jP "is_moment"=some (some (.ref bd))) (bg:FE K "is_moment" "is_moment" a2B bd)
  (ci:PySem.W.nsIn K jP "is_stretch"=some (some (.ref a9))) (bb:FE K "is_stretch" "is_stretch" a2a a9)
  (b7:PySem.W.nsIn K jP "earlier_end"=some (some (.ref a3))) (a6:FE K "earlier_end" "earlier_end" a1N a3)
  (cj:PySem.W.nsIn K jP "check_name"=some (some (.ref ba))) (bc:FE K "check_name" "check_name" a2b ba)
  (bV:PySem.W.nsIn K jP "check_stretch"=some (some (.ref aU))) (aW:FE K "check_stretch" "check_stretch" a1l aU)
  (bN:PySem.W.nsIn K jP "check_in_reach"=some (some (.ref aQ))) (aS:FE K "check_in_reach" "check_in_reach" a1a aQ)
  (cI:PySem.W.nsIn K jP "ahead_of"=some (some (.ref bk))) (bn:FE K "ahead_of" "ahead_of" a1Z bk)
  (bD:PySem.W.nsIn K jP "with_alike_joined"=some (some (.ref aL))) (aM:FE K "with_alike_joined" "with_alike_joined" a00 aL)
  (cO:PySem.W.nsIn K jP "from_on"=some (some (.ref bv))) (bA:FE K "from_on" "from_on" a2C bv)
  (cS:PySem.W.nsIn K jP "put_on"=some (some (.ref bF))) (bH:FE K "put_on" "put_on" a4S bF)
  (bW:PySem.W.nsIn K jP "check_telling"=some (some (.ref aV))) (aX:FE K "check_telling" "check_telling" a1m aV)
  (b8:PySem.W.nsIn K jP "line_behind"=some (some (.ref a4))) (a7:FE K "line_behind" "line_behind" a1O a4)
  (cs:PySem.W.findIn K (.ref ac) "first"=some (some (.ref aO))) (bK:PySem.W.isFn K (.ref aO)=true) (aP:FE K "first" "Sheet.first" a2D aO)
  (ck:PySem.W.findIn K (.ref ab) "first"=some (some (.ref aO)))
  (bE:PySem.W.findIn K (.ref ac) "check_knowing"=some (some (.ref ah))) (a2:PySem.W.isFn K (.ref ah)=true) (ai:FE K "check_knowing" "Sheet.check_knowing" a01 ah)
  (bB:PySem.W.findIn K (.ref ab) "check_knowing"=some (some (.ref ah)))
  (bO:PySem.W.findIn K (.ref ac) "known_line"=some (some (.ref az))) (bP:PySem.W.isFn K (.ref az)=true) (aD:FE K "known_line" "Sheet.known_line" a0W az)
  (cT:PySem.W.nsIn K jP "run_of"=some (some (.ref bG))) (bI:FE K "run_of" "run_of" a4T bG)
  (b9:PySem.W.nsIn K jP "is_standing"=some (some (.ref a5))) (a8:FE K "is_standing" "is_standing" a1P a5)
  (ct:PySem.W.nsIn K jP "stands_at"=some (some (.ref be))) (bh:FE K "stands_at" "stands_at" a2E be)
  (bQ:PySem.W.findIn K (.ref ab) "known_line"=some (some (.ref aA))) (bR:PySem.W.isFn K (.ref aA)=true) (aE:FE K "known_line" "Tiled.known_line" a0X aA)
  (ca:PySem.W.findIn K (.ref ac) "keys_at"=some (some (.ref aB))) (bs:PySem.W.isFn K (.ref aB)=true) (aF:FE K "keys_at" "Sheet.keys_at" a1b aB)
  (b3:PySem.W.findIn K (.ref ab) "keys_at"=some (some (.ref aB)))
  (b4:PySem.W.findIn K (.ref ac) "knowings"=some (some (.ref ap))) (bo:PySem.W.isFn K (.ref ap)=true) (ax:FE K "knowings" "Sheet.knowings" a1B ap)
  (bX:PySem.W.findIn K (.ref ab) "knowings"=some (some (.ref ap)))
  (cu:PySem.W.nsIn K jP "keys_ever"=some (some (.ref bf))) (bi:FE K "keys_ever" "keys_ever" a2F bf)
  (cJ:PySem.W.nsIn K jP "tiled_on"=some (some (.ref bl))) (bp:FE K "tiled_on" "tiled_on" a0P bl)
  (cb:PySem.W.findIn K (.ref ac) "line_at"=some (some (.ref aC))) (bt:PySem.W.isFn K (.ref aC)=true) (aG:FE K "line_at" "Sheet.line_at" a1Q aC)
  (b5:PySem.W.findIn K (.ref ab) "line_at"=some (some (.ref aC)))
  (b6:PySem.W.nsIn K jP "tiles_of_key"=some (some (.ref a0))) (a1:FE K "tiles_of_key" "tiles_of_key" a1C a0)
  (cK:PySem.W.nsIn K jP "tiles_of"=some (some (.ref bm))) (bq:FE K "tiles_of" "tiles_of" a3a bm)
  (c4:PySem.W.nsIn K jP "_law_cell_at"=some (some (.ref bL))) (bS:FE K "_law_cell_at" "_law_cell_at" a5Y bL)
  (dE:PySem.W.nsIn K jP "_law_mix"=some (some (.ref cP))) (cU:FE K "_law_mix" "_law_mix" b6D cP)
  (dr:PySem.W.nsIn K jP "_law_parts"=some (some (.ref cc))) (cl:FE K "_law_parts" "_law_parts" a83 cc)
  (ds:PySem.W.nsIn K jP "_law_names"=some (some (.ref cd))) (cm:FE K "_law_names" "_law_names" a5Z cd)
  (c5:PySem.W.nsIn K jP "_law_telling"=some (some (.ref bM))) (bT:FE K "_law_telling" "_law_telling" a50 bM)
  (dt:PySem.W.nsIn K jP "_law_until"=some (some (.ref ce))) (cn:FE K "_law_until" "_law_until" a84 ce)
  (dF:PySem.W.nsIn K jP "_law_due"=some (some (.ref cQ))) (cV:FE K "_law_due" "_law_due" b2z cQ)
  (du:PySem.W.nsIn K jP "_law_kinds"=some (some (.ref cf))) (co:FE K "_law_kinds" "_law_kinds" a7n cf)
  (cv:PySem.W.findIn K (.ref ab) "tiles"=some (some (.ref aY))) (cw:PySem.W.isFn K (.ref aY)=true) (aZ:FE K "tiles" "Tiled.tiles" a2G aY)
  (dv:PySem.W.nsIn K jP "_law_right"=some (some (.ref cg))) (cp:FE K "_law_right" "_law_right" a85 cg)
  (br:PySem.W.findIn K (.ref ac) "__init__"=some (some (.ref aq))) (aN:PySem.W.isFn K (.ref aq)=true) (ay:FE K "__init__" "Sheet.__init__" a1D aq)
  (bj:PySem.W.findIn K (.ref ab) "__init__"=some (some (.ref aq)))
  (bY:PySem.W.findIn K (.ref ac) "keep_line"=some (some (.ref aH))) (bZ:PySem.W.isFn K (.ref aH)=true) (aJ:FE K "keep_line" "Sheet.keep_line" a1n aH)
  (b0:PySem.W.findIn K (.ref ab) "keep_line"=some (some (.ref aI))) (b1:PySem.W.isFn K (.ref aI)=true) (aK:FE K "keep_line" "Tiled.keep_line" a1o aI)
  (cL:PySem.W.findIn K (.ref ac) "tell"=some (some (.ref aR))) (bU:PySem.W.isFn K (.ref aR)=true) (aT:FE K "tell" "Sheet.tell" a3b aR)
  (cx:PySem.W.findIn K (.ref ab) "tell"=some (some (.ref aR)))
  (dn:PySem.W.nsIn K jP "law"=some (some (.ref cR))) (dG:K.lookup cR=some ⟨dA,dy,.func (PySem.W.fnOf "law" "law" (a3N a7o) (a12 a7o) (a0e a7o) .none cY cZ c0 cX cz c1),dz⟩) (dH:PySem.W.codeIn K cz "law"=true) (dI:PySem.W.keepIn K (.ref cR)=true)
  (dJ:PySem.W.nsIn K jP "all"=some none)
  (cM:PySem.W.nsIn K jP "isinstance"=some none)
  (dK:PySem.W.nsIn K jP "str"=some none)
  (dL:PySem.W.nsIn K jP "len"=some none)
  (dB:PySem.W.nsIn K jP "bool"=some none)
  (dM:PySem.W.nsIn K jP "int"=some none)
  (dN:PySem.W.nsIn K jP "min"=some none)
  (dO:PySem.W.nsIn K jP "max"=some none)
  (cW:PySem.W.nsIn K jP "reversed"=some none)
  (dm:PySem.W.nsIn K jP "sorted"=some none)
  (dw:PySem.W.nsIn K jP "range"=some none)
  (dC:PySem.W.nsIn K jP "dict"=some none)
  (dD:PySem.W.nsIn K jP "list"=some none)
  (dx:PySem.W.nsIn K jP "tuple"=some none)
  (cq:PySem.W.nsIn K jP "LONGEST_NAME"=some (some (.int 8 bC)))
  (cy:PySem.W.nsIn K jP "LAST_MOMENT"=some (some (.int 1000000000000 bJ))) :
  ∃ fd:jQ,(∀ (s:Shared) (v:Value),kJ s fd ⟨[v],[]⟩ [("script",v)])/\∀ base:Heap,K.In base->base.Ns jP mg->FnOk l.prog w K mg base CX0 8 fa fd ["script"] (lowP K a8q):=by
 have e:=hfa.symm.trans (PySem.W.mg_of X G dn);cases e;obtain⟨d_p_is_name,bz⟩:=bz;obtain⟨av,bg⟩:=bg;obtain⟨an,bb⟩:=bb;obtain⟨ak,a6⟩:=a6;obtain⟨ao,bc⟩:=bc;obtain⟨aa,aW⟩:=aW;obtain⟨L,aS⟩:=aS;obtain⟨d_p_ahead_of,bn⟩:=bn;obtain⟨C,aM⟩:=aM;obtain⟨d_p_from_on,bA⟩:=bA;obtain⟨d_p_put_on,bH⟩:=bH;obtain⟨U,aX⟩:=aX;obtain⟨aj,a7⟩:=a7;obtain⟨au,aP⟩:=aP;obtain⟨D,ai⟩:=ai;obtain⟨M,aD⟩:=aD;obtain⟨d_p_run_of,bI⟩:=bI;obtain⟨ag,a8⟩:=a8;obtain⟨aw,bh⟩:=bh;obtain⟨S,aE⟩:=aE;obtain⟨am,aF⟩:=aF;obtain⟨af,ax⟩:=ax;obtain⟨as,bi⟩:=bi;obtain⟨d_p_tiled_on,bp⟩:=bp;obtain⟨al,aG⟩:=aG;obtain⟨ae,a1⟩:=a1;obtain⟨d_p_tiles_of,bq⟩:=bq;obtain⟨d_cell_at,bS⟩:=bS;obtain⟨d_mix,cU⟩:=cU;obtain⟨d_parts,cl⟩:=cl;obtain⟨d_names,cm⟩:=cm;obtain⟨d_telling,bT⟩:=bT;obtain⟨d_until,cn⟩:=cn;obtain⟨d_due,cV⟩:=cV;obtain⟨d_kinds,co⟩:=co;obtain⟨ar,aZ⟩:=aZ;obtain⟨d_right,cp⟩:=cp;obtain⟨ad,ay⟩:=ay;obtain⟨Y,aJ⟩:=aJ;obtain⟨V,aK⟩:=aK;obtain⟨d_Sheet_tell,aT⟩:=aT
 let a:Ad:=⟨bu,d_p_is_name,bd,av,a9,an,a3,ak,ba,ao,aU,aa,aQ,L,bk,d_p_ahead_of,aL,C,bv,d_p_from_on,bF,d_p_put_on,aV,U,a4,aj,aO,au,ah,D,az,M,bG,d_p_run_of,a5,ag,be,aw,aA,S,aB,am,ap,af,bf,as,bl,d_p_tiled_on,aC,al,a0,ae,bm,d_p_tiles_of,bL,d_cell_at,cP,d_mix,cc,d_parts,cd,d_names,bM,d_telling,ce,d_until,cQ,d_due,cf,d_kinds,aY,ar,cg,d_right,aq,ad,aH,Y,aI,V,aR,d_Sheet_tell,fa,(PySem.W.fnOf "law" "law" (a3N a7o) (a12 a7o) (a0e a7o) .none cY cZ c0 cX cz c1),ac,ab,b2,bw,bx⟩
 have F:Fns K a:=⟨bz,bg,bb,a6,bc,aW,aS,bn,aM,bA,bH,aX,a7,aP,ai,aD,bI,a8,bh,aE,aF,ax,bi,bp,aG,a1,bq,bS,cU,cl,cm,bT,cn,cV,co,aZ,cp,ay,aJ,aK,aT,b4J dG dH dI⟩;have T:Txt K mg a:=⟨PySem.W.mg_of X G cN,PySem.W.mg_of X G cr,PySem.W.mg_of X G ci,PySem.W.mg_of X G b7,PySem.W.mg_of X G cj,PySem.W.mg_of X G bV,PySem.W.mg_of X G bN,PySem.W.mg_of X G cI,PySem.W.mg_of X G bD,PySem.W.mg_of X G cO,PySem.W.mg_of X G cS,PySem.W.mg_of X G bW,PySem.W.mg_of X G b8,⟨cs,bK,aP.kp⟩,⟨ck,bK,aP.kp⟩,⟨bE,a2,ai.kp⟩,⟨bB,a2,ai.kp⟩,⟨bO,bP,aD.kp⟩,PySem.W.mg_of X G cT,PySem.W.mg_of X G b9,PySem.W.mg_of X G ct,⟨bQ,bR,aE.kp⟩,⟨ca,bs,aF.kp⟩,⟨b3,bs,aF.kp⟩,⟨b4,bo,ax.kp⟩,⟨bX,bo,ax.kp⟩,PySem.W.mg_of X G cu,PySem.W.mg_of X G cJ,⟨cb,bt,aG.kp⟩,⟨b5,bt,aG.kp⟩,PySem.W.mg_of X G b6,PySem.W.mg_of X G cK,PySem.W.mg_of X G c4,PySem.W.mg_of X G dE,PySem.W.mg_of X G dr,PySem.W.mg_of X G ds,PySem.W.mg_of X G c5,PySem.W.mg_of X G dt,PySem.W.mg_of X G dF,PySem.W.mg_of X G du,⟨cv,cw,aZ.kp⟩,PySem.W.mg_of X G dv,⟨br,aN,ay.kp⟩,⟨bj,aN,ay.kp⟩,⟨bY,bZ,aJ.kp⟩,⟨b0,b1,aK.kp⟩,⟨cL,bU,aT.kp⟩,⟨cx,bU,aT.kp⟩,PySem.W.mg_of X G dn,PySem.W.mg_none_of X G dJ,PySem.W.mg_none_of X G cM,PySem.W.mg_none_of X G dK,PySem.W.mg_none_of X G dL,PySem.W.mg_none_of X G dB,PySem.W.mg_none_of X G dM,PySem.W.mg_none_of X G dN,PySem.W.mg_none_of X G dO,PySem.W.mg_none_of X G cW,PySem.W.mg_none_of X G dm,PySem.W.mg_none_of X G dw,PySem.W.mg_none_of X G dC,PySem.W.mg_none_of X G dD,PySem.W.mg_none_of X G dx,⟨c7,c8,c9,da⟩,PySem.W.mg_of X G c6,⟨db,br,aN,dc⟩,⟨cA,cB,cC,cD⟩,PySem.W.mg_of X G dd,⟨de,bj,aN,df⟩,dp,dg,dq,dh,⟨⟨cA,cB,cC,cD⟩,di,dj,dk,dl⟩,ch,PySem.W.mg_of X G c2,PySem.W.mg_of X G cE,PySem.W.mg_of X G cF,c3,cG,cH,⟨bC,PySem.W.mg_of X G cq⟩,⟨bJ,PySem.W.mg_of X G cy⟩⟩;exact⟨a.d41,λs v=>.of_eq rfl,λbase _ _=>b9O F T⟩
theorem walk {l:PySem.W.OpenLaw}{K:Params->Fg}(hn:l.most=some 63) (hdf:d.params.defaults=[])
  (hY:∀ (w:World) (h:Heap),YP w h->(K w.params).In h)
  (F:∀ (w:World) (mg:Str->Option Value) (fa:Addr) (h:Heap),(K w.params).In h->h.Ns jP mg->mg d.name=some (.ref fa) ->
   ∃ fd:jQ,(∀ (s:Shared) (u:Value),kJ s fd ⟨[u],[]⟩ [("script",u)])/\∀ base:Heap,(K w.params).In base->base.Ns jP mg->FnOk l.prog w (K w.params) mg base CX0 8 fa fd ["script"] (lowP (K w.params) a8q)) :
  PySem.W.WalkO q loose XP YP l.row.toRowW d [] (λf vs=>PySem.call f vs):=
 L2.walk_of hn (by decide) hdf ⟨rfl,by decide,by decide⟩ hY F (λ_ _ a c e b g=>b2A a c e (Fz.of b g)) λ_ _ _ _ _ z=>z
end Lw
end
open PySem PySem.W PyProof.Rows
set_option maxRecDepth 100000 in
set_option maxHeartbeats 0 in
theorem PySem.Challenge.cw_twotimes_k21_tiles_told_holds : PySem.Challenge.rw_twotimes_k21_tiles_told.Holds := by
 w_on;o_law;k_head;(case hw=>w_witness2)
 k_fill
 refine Lw.walk (l:=PySem.Challenge.rw_twotimes_k21_tiles_told) rfl rfl (fun w h Y=>PySem.W.kIn_of Y) ?F
 case F=>
  intro w mg fa h KX G hmg;refine' Lw.all_mk KX G hmg ?aa ?ab ?ac ?ad ?ae ?af ?ag ?ah ?ai ?aj ?ak ?al ?am ?an ?ao ?ap ?aq ?ar ?au ?av ?aw ?ax ?ay ?az ?aA ?aB ?aC ?aD ?aE ?aF (Lw.fe_mk ?aG ?aH ?aI) ?aJ (Lw.fe_mk ?aK ?aL ?aM) ?aN (Lw.fe_mk ?aO ?aP ?aQ) ?aR (Lw.fe_mk ?aS ?aT ?aU) ?aV (Lw.fe_mk ?aW ?aX ?aY) ?aZ (Lw.fe_mk ?a0 ?a1 ?a2) ?a3 (Lw.fe_mk ?a4 ?a5 ?a6) ?a7 (Lw.fe_mk ?a8 ?a9 ?ba) ?bb (Lw.fe_mk ?bc ?bd ?be) ?bf (Lw.fe_mk ?bg ?bh ?bi) ?bj (Lw.fe_mk ?bk ?bl ?bm) ?bn (Lw.fe_mk ?bo ?bp ?bq) ?br (Lw.fe_mk ?bs ?bt ?bu) ?bv ?bw (Lw.fe_mk ?bx ?bz ?bA) ?bB ?bC ?bD (Lw.fe_mk ?bE ?bF ?bG) ?bH ?bI ?bJ (Lw.fe_mk ?bK ?bL ?bM) ?bN (Lw.fe_mk ?bO ?bP ?bQ) ?bR (Lw.fe_mk ?bS ?bT ?bU) ?bV (Lw.fe_mk ?bW ?bX ?bY) ?bZ ?b0 (Lw.fe_mk ?b1 ?b2 ?b3) ?b4 ?b5 (Lw.fe_mk ?b6 ?b7 ?b8) ?b9 ?ca ?cb (Lw.fe_mk ?cc ?cd ?ce) ?cf ?cg (Lw.fe_mk ?ch ?ci ?cj) ?ck (Lw.fe_mk ?cl ?cm ?cn) ?co ?cp (Lw.fe_mk ?cq ?cr ?cs) ?ct ?cu (Lw.fe_mk ?cv ?cw ?cx) ?cy (Lw.fe_mk ?cz ?cA ?cB) ?cC (Lw.fe_mk ?cD ?cE ?cF) ?cG (Lw.fe_mk ?cH ?cI ?cJ) ?cK (Lw.fe_mk ?cL ?cM ?cN) ?cO (Lw.fe_mk ?cP ?cQ ?cR) ?cS (Lw.fe_mk ?cT ?cU ?cV) ?cW (Lw.fe_mk ?cX ?cY ?cZ) ?c0 (Lw.fe_mk ?c1 ?c2 ?c3) ?c4 (Lw.fe_mk ?c5 ?c6 ?c7) ?c8 ?c9 (Lw.fe_mk ?da ?db ?dc) ?dd (Lw.fe_mk ?de ?df ?dg) ?dh ?di (Lw.fe_mk ?dj ?dk ?dl) ?dm ?dn ?dp (Lw.fe_mk ?dq ?dr ?ds) ?dt ?du (Lw.fe_mk ?dv ?dw ?dx) ?dy ?dz (Lw.fe_mk ?dA ?dB ?dC) ?dD ?dE ?dF ?dG ?dH ?dI ?dJ ?dK ?dL ?dM ?dN ?dO ?dP ?dQ ?dR ?dS ?dT ?dU ?dV ?dW ?dX
  all_goals try k_is
  (case ay=>kit_is)
  all_goals try k_is
  (case aC=>k_exc)
  (case aD=>k_exc)
  (case aE=>k_exc)
  all_goals try k_is
