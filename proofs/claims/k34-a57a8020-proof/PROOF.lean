import PyProof.Rows.All
import Wide.All
import OpenK.AllK
import Wide.FinOn
import Lean
import PyProof.EqAt
import PyProof.EqKinds
import PyProof.TupleCall
import PyProof.CompFree
import PyProof.P3In
import PyProof.RaisesMany
import PyProof.StationsW
import PyProof.ExcClass3
import PyProof.ExcBaseAll.ValueError
import PyProof.RulesTry
import PyProof.RulesAs
import PyProof.NsDelKeeps
import KE.KTryMore
import PyProof.ExcArgs
import KE.RegKIsAll
import PyProof.Rows.EqDataRows
import KE.KIntText
import KE.KDictOf
import PyProof.StrBlockH
import KE.KWords
import PyProof.CallStr
import PyProof.StrLawsTight
import PyProof.StrLawsChain
import PyProof.AttrMissHeap
import KE.KSortTup
import Wide.Seal
import PySem.Challenge.RW_twotimes_k34_whole_any_sheet
set_option Elab.async false
set_option linter.all false
set_option maxRecDepth 100000
set_option compiler.extract_closed false
set_option bootstrap.genMatcherCode false
noncomputable section
open Or renaming inl→en,inr→gf
open List renaming length_map→er,mem_append→et,mem_singleton→eD,length_append→eE,length_cons→eF,mem_map→eG,mem_cons→eI,getElem?_eq_some_iff→eJ,getElem?_map→eK,length_take→eL,map_append→eN,map_cons→eP,getElem?_eq_getElem→eQ,mem_of_getElem?→eR,pairwise_append→eS,pairwise_cons→eT,append_assoc→eU,append_nil→eW,map_nil→eX,Nodup→eZ,length→fb,Perm→fh,mem_filter→fj,size_toArray→fk,length_drop→fm,take_add_one→fq,take_of_length_le→ft,Pairwise→fv,filter_cons→fw,map_map→fB,mem_map_of_mem→fC,filterMap_cons→fD,mem_cons_of_mem→fE,nodup_cons→fF,lookup_cons→fG,mem_append_right→fH,mem_of_mem_take→fI,mem_cons_self→fJ,find?_cons→fK,getElem_mem→fL,pairwise_map→fM,any_eq_true→fN,cons→fO,all_cons→fP,reverse_append→fQ,take_length→fS,all_eq_true→fV,reverse_singleton→fW,range→fY,reverse_cons→ge,any_cons→gg,length_filterMap_le→gj,pairwise_iff_getElem→gm,getElem?_of_mem→gn,nil_append→gq,length_pos_iff→gr,map_id→gv,map_congr_left→gx,mem_filterMap→gy,drop_eq_getElem_cons→gJ,drop_eq_nil_of_le→gK,take_append_drop→gO,cons_append→gQ,nodup_append→gR,map_eq_nil_iff→gS,mem_range→gT,getElem?_set_ne→gU,lookup→gY,replicate→gZ,getElem?_append_right→g4,length_singleton→g5,lookup_append→g8,mem_of_mem_drop→hZ,extract_eq_take_drop→h7,singleton_append→ib,take_append_of_le_length→ie,mem_of_find?_eq_some→ii,filter_eq_nil_iff→ij,length_filter_le→ik,not_mem_nil→im,getElem?_set_self→io,of_mem_zip→ip,getElem?_append_left→iq,take_sublist→ir,length_eq_zero_iff→iu,pairwise_singleton→iw,getElem?_drop→iy,getElem?_take→iA,drop_append→iC,eraseIdx_cons_succ→iE,ext_getElem?→iF,dropLast_subset→iG,take_succ_cons→iH,filter_filter→iI,filter_append→iJ,filter_sublist→iK,find?_eq_none→iM,getElem?_eq_none_iff→iO,mem_append_left→iQ,any_eq_false→iR,filterMap_map→iX,getD_eq_getElem?_getD→i7,map_take→i8,drop_sublist→i9,perm_middle→ja,perm_append_comm→jc,drop_append_of_le_length→je,flatten_cons→jf,countP_cons→jj,length_reverse→jk,foldl_append→jl,find?_append→jo,getLast?_eq_none_iff→jq,head?_cons→jr,length_nil→js,getLast?_map→jt,cons_lt_cons_iff→ju,rel_of_pairwise_cons→jv,filter_congr→jw,filter_eq_self→jx,pairwise_reverse→jy,find?_isSome→jz,find?_some→jA
open Nat renaming le_refl→eB,le_trans→eM,ne_of_lt→eO,lt_of_lt_of_le→eV,zero_le→e8,lt_irrefl→e9,le_of_lt→fT,le_of_eq→gb,le_of_succ_le→gi,le_succ→gz,lt_of_le_of_lt→gG,lt_trans→gH,lt_succ_of_lt→gI,ne_of_gt→gX,zero_add→ic,add_sub_cancel→iz,add_zero→iB,lt_succ_self→iV,le_of_ble_eq_true→i5,add_assoc→jg,le_add_right→jm
open False renaming elim→eC
open Int renaming le_trans→eY,le_refl→fc,emod_nonneg→fi,emod_lt_of_pos→fu,le_of_lt→fz,eq_ofNat_of_zero_le→fX,not_lt→h8,toNat_natCast→iN
open Bool renaming false_ne_true→e7,true_and→fg,and_eq_true→fU,eq_iff_iff→fZ,and_false→gC,false_eq_true→gM,and_true→ig,false_or→iZ,false_and→jp
open Option renaming some→ff,map_some→g6,isSome_iff_exists→iW,getD_none→iY,isSome_map→i3,bind_some→i6
open Array renaming toList_push→fA,getElem?_toList→fR,length_toList→gc,Perm→gL,getElem?_eq_some_iff→g7,perm_iff_toList_perm→g9,append_assoc→iP,mem_toList_iff→iU,toList_extract→jd,getElem?_modify→jh,size_map→ji
open PySem renaming wpAny_bind→jB,sizeLine→jC,starEach→jE,mainGlobals→jG,Program→jH,FuncData→jI,wpAny_pure→jK,compareOp→jL,NameKind→jM,cellsFrom→jN,Builtin→jO,wpAny_mono→jP,PassesOwn→jQ,binaryOp→jR,tupleKind→jT,holding→jV,sizeLine_eq→jW,wpAny_holding→jY,sysModules→j5,standAt→j7,codeAny→j9,storedH→kb,SetTable→kc,bootBuiltins→ke,swapsWith→kf,assignEach→kg,wpAny_truthy_bool→kh,inplaceOp→ki,wpAny_passesOwn→kj,foldedSetIterable→kl,getMethod→ko,backToKw→kq,keywordEach→kr,typeIs_str→kt,sliceBounds→ku,callerA→kx,behindInMarks→kz,BindsTo→kA,wpAny_field→kB,valueAt→kC,compEnvC→kD,GenState→kH,attributeBase→kI,callWith→kJ,Keyword→kK,getItem→kL,notedBy→kM,wpAny_rule→kP,wpAny_execs_nil→kQ,setItem→kR,unaryOp→kS,codeAny_mono→kU,wpAny_Call_Name_kw→kW,leaving→kZ,tupleKind_room_in1→k6,CellsOk→k7,noteFrame→lb,wpAny_getItem_str_slice→lc,post_val_or_str→lf,unsupported→lh,wpAny_newList→ll,codeAny_builtin→lq,builtinsNs→lr,storeName→lu,wpAny_Name→lv,wpAny_standAt→lz,swapsWithSole→lA,swappedStores→lB,letOwnedTupleGo→lC,wpAny_pyIter_list→lD,DictEntry→lE,wpAny_call_entry→lF,wpAny_newObj_type→lG,seqIndex_of→lI,seqIndex_neg→lJ,call_meets→lK,call_meetsIn→lN,compPost→lO,plainId_quiet→lS
open PyProof.Rows renaming wpS_bind→jD,wpS_pure→jF,pendingOf→jJ,wpS_forRange→jS,wpS_mono→jU,failedOf→jX,IntsAre→jZ,SortKind→j0,wpS_get→j1,wpS_modify→j3,AllBare→j6,pairsOf→j8,reverseSlice'→kE,listUpdate_at→kF,seqEpoch_at→kG,setPending→kO,sortedHeap→lj,pairsOf_toList→lp,gallopOf→lP,wpS_lift→lQ,mergeAt'→lR
abbrev Fg:=PySem.W.Frag
namespace PySem.W.Fast
noncomputable def z:=0
noncomputable def tw18016938686131476171:=z
noncomputable def tw12319253830286962922:=z
noncomputable def tw450457191038222515:=z
noncomputable def tw8232374014454638440:=z
noncomputable def tw10813914706006301602:=z
noncomputable def tw17544798657475009172:=z
noncomputable def tw4537229683893326060:=z
noncomputable def tw17540218541926411403:=z
noncomputable def tw6801739325382569329:=z
noncomputable def tw4744416222325068167:=z
noncomputable def tw3747416631255429937:=z
noncomputable def tw611630893199994933:=z
noncomputable def tw16394723424224971874:=z
noncomputable def tw14527699472580889805:=z
noncomputable def tw15437706667089687492:=z
noncomputable def tw7696007803845741466:=z
noncomputable def tw12160194131070857394:=z
noncomputable def tw8271459607357816346:=z
noncomputable def tw12033060528113003632:=z
noncomputable def tw15290388233517528:=z
noncomputable def tw17551435593691078222:=z
noncomputable def tw6614682792621421395:=z
noncomputable def tw13816488163012987657:=z
noncomputable def tw9803650117658286311:=z
noncomputable def tw12218318042655096650:=z
noncomputable def tw483009073098757753:=z
noncomputable def tw5288232752364747207:=z
noncomputable def tw8146812744879117951:=z
noncomputable def tw3866077437510687134:=z
noncomputable def tw15504471256519830438:=z
noncomputable def tw15385744174706499210:=z
noncomputable def tw1310360513561452237:=z
noncomputable def tw5545363574224835173:=z
noncomputable def tw7910403137744596932:=z
noncomputable def tw11394536286575741044:=z
noncomputable def tw14014232742279546095:=z
noncomputable def tw14133831955954276322:=z
noncomputable def tw746813046470364666:=z
noncomputable def tw10887329142705390143:=z
noncomputable def tw5288075529859138757:=z
noncomputable def tw6682069457754398045:=z
noncomputable def tw10634249895679767313:=z
noncomputable def tw4879965990305937720:=z
noncomputable def tw9833569847112138385:=z
noncomputable def tw14484519342990306487:=z
noncomputable def tw14224169615766710856:=z
noncomputable def tw4709534414566554128:=z
noncomputable def tw15801030461877649946:=z
noncomputable def tw14557911828647557419:=z
noncomputable def tw12750933100304658191:=z
noncomputable def tw16358065385273810497:=z
noncomputable def tw8898405691782428241:=z
noncomputable def tw7970038509180683549:=z
noncomputable def tw7339086759767368814:=z
noncomputable def tw13623261604313892065:=z
noncomputable def tw17383332751980784213:=z
noncomputable def tw5843429363711268916:=z
noncomputable def tw8174864747578448758:=z
noncomputable def tw9100889587226518653:=z
noncomputable def tw4780848272850531805:=z
noncomputable def tw16412354282834605409:=z
noncomputable def tw16401859176757173195:=z
noncomputable def tw10848637941511393417:=z
noncomputable def tw4097494427881461750:=z
noncomputable def tw12200164009636204281:=z
noncomputable def tw12583939944590730139:=z
noncomputable def tw11805950743706577132:=z
noncomputable def tw6250731013476314747:=z
noncomputable def tw9547048279726385848:=z
noncomputable def tw1047991407851952417:=z
noncomputable def tw9626132229648804686:=z
noncomputable def tw18083270925500603708:=z
noncomputable def tw4294449102541552347:=z
noncomputable def tw2488324442382589422:=z
noncomputable def tw3378430249341344646:=z
noncomputable def tw13137840521332182038:=z
noncomputable def tw3315303328705075879:=z
noncomputable def tw2357749868067973798:=z
noncomputable def tw13741500836379370579:=z
noncomputable def tw18145070434343858379:=z
noncomputable def tw12201954592180659300:=z
noncomputable def tw5302695398537083802:=z
noncomputable def tw12679176814203738168:=z
noncomputable def tw14265067144717046825:=z
noncomputable def tw17487229998068135974:=z
noncomputable def tw12827985136932303546:=z
noncomputable def tw10299991297973167697:=z
noncomputable def tw1322102883447996318:=z
noncomputable def tw18341474069174414316:=z
noncomputable def tw17558062886786823889:=z
noncomputable def tw14871866713256109448:=z
noncomputable def tw11533559751783334733:=z
noncomputable def tw6820753224647486600:=z
noncomputable def tw14862347177769894926:=z
noncomputable def tw2625788291683055398:=z
noncomputable def tw6654655186206717538:=z
noncomputable def tw11297411159438261219:=z
noncomputable def tw15183761281250923448:=z
noncomputable def tw12174955700906309506:=z
noncomputable def tw11658447138648223651:=z
noncomputable def tw14672975675462055904:=z
noncomputable def tw7462455319088644922:=z
noncomputable def tw12788078740356082389:=z
noncomputable def tw4100828438469271884:=z
noncomputable def tw9556282505699831503:=z
noncomputable def tw12725156526949657367:=z
noncomputable def tw18180459963791498516:=z
noncomputable def tw10656799224467643325:=z
noncomputable def tw16894434245561086018:=z
noncomputable def tw17069324527588587009:=z
noncomputable def tw12181338323357857650:=z
noncomputable def tw4805751732439823119:=z
noncomputable def tw14521462284959117737:=z
noncomputable def tw12839772922697735170:=z
noncomputable def tw4244437312061020898:=z
noncomputable def tw15701954602904529204:=z
noncomputable def tw8940848172727136800:=z
noncomputable def tw11738247656169934497:=z
noncomputable def tw8952407128213841406:=z
noncomputable def tw6754692066207742433:=z
noncomputable def tw13989850022290879178:=z
noncomputable def tw12497503456200971184:=z
noncomputable def tw17490435465850088334:=z
noncomputable def tw1975965676511399377:=z
noncomputable def tw2769359509188246327:=z
noncomputable def tw2239313039383012023:=z
noncomputable def tw4397789593497290475:=z
noncomputable def tw275113300549503314:=z
noncomputable def tw1101923354420449324:=z
noncomputable def tw10370889227164475166:=z
noncomputable def tw9985249591284385251:=z
noncomputable def tw3499188597514230211:=z
noncomputable def tw15511297555387015061:=z
noncomputable def tw4084804585111028209:=z
noncomputable def tw12831522552349580879:=z
noncomputable def tw17104809769773852466:=z
noncomputable def tw14093368265995826874:=z
noncomputable def tw10577585758100091510:=z
noncomputable def tw6323030112771202456:=z
noncomputable def tw7593926250531427406:=z
noncomputable def tw15521194715364402964:=z
noncomputable def tw17423259486939986860:=z
noncomputable def tw3814188826313373163:=z
noncomputable def tw16191530557840811795:=z
noncomputable def tw7664082150143392324:=z
noncomputable def tw5303328396551276750:=z
noncomputable def tw9501850200316088209:=z
noncomputable def tw7752502265800621393:=z
noncomputable def tw14419360298476435045:=z
noncomputable def tw793714559564914787:=z
noncomputable def tw2640590910226819539:=z
noncomputable def tw18304312902140023310:=z
noncomputable def tw1140771022522899431:=z
noncomputable def tw8407773898282057938:=z
noncomputable def tw169344356435529889:=z
noncomputable def tw9833461068274699991:=z
noncomputable def tw10801668167780103483:=z
noncomputable def tw14918833595295769706:=z
noncomputable def tw219050465673402621:=z
noncomputable def tw1329574983305411776:=z
noncomputable def tw13876580976378216173:=z
noncomputable def tw18237159144545301629:=z
noncomputable def tw15027914285854763687:=z
noncomputable def tw12794531137642821609:=z
noncomputable def tw14088924559036518844:=z
noncomputable def tw2365832125407113832:=z
noncomputable def tw5735101027807292329:=z
noncomputable def tw6872066047609120012:=z
noncomputable def tw10877523022993895532:=z
noncomputable def tw4451239839909540081:=z
noncomputable def tw16040806435458071731:=z
noncomputable def tw7446363425012195526:=z
noncomputable def tw13413246487838595782:=z
noncomputable def tw10462901871946844968:=z
noncomputable def tw6695609856302093892:=z
noncomputable def tw5876231774049926082:=z
noncomputable def tw13291334461747861529:=z
noncomputable def tw12281889776469165884:=z
noncomputable def tw788614736209919006:=z
noncomputable def tw9984332500847719354:=z
noncomputable def tw11368952789795513666:=z
noncomputable def tw5115005338231933407:=z
noncomputable def tw12620433632485316151:=z
noncomputable def tw3393817898631103735:=z
noncomputable def tw8810967651227997546:=z
noncomputable def tw4948359717721728875:=z
noncomputable def tw9318609797619006756:=z
noncomputable def tw15482302998156916689:=z
noncomputable def tw17718676795539259110:=z
noncomputable def tw12807773319663962095:=z
noncomputable def tw10820298360029118545:=z
noncomputable def tw468065475706375215:=z
noncomputable def tw13370644488421116704:=z
noncomputable def tw5004738690758261567:=z
noncomputable def tw8780976960979512080:=z
noncomputable def tw15143253334813292550:=z
noncomputable def tw13244953289104405335:=z
noncomputable def tw12793861762064857264:=z
noncomputable def tw8407911836573674534:=z
noncomputable def tw18208966187104825781:=z
noncomputable def tw2958957378434575377:=z
noncomputable def tw10593210973921818922:=z
noncomputable def tw8300103351627588016:=z
noncomputable def tw14097375297199756747:=z
noncomputable def tw4365166763197912537:=z
noncomputable def tw11121705917682304448:=z
noncomputable def tw10343671281640713330:=z
noncomputable def tw4959726843007827251:=z
noncomputable def tw14510937442787403723:=z
noncomputable def tw15845137530316227842:=z
noncomputable def tw13026021647418711417:=z
noncomputable def tw502650374052491008:=z
noncomputable def tw8419918387556725813:=z
noncomputable def tw14222697107881482877:=z
noncomputable def tw7469785535898545412:=z
noncomputable def tw14672467338508350599:=z
noncomputable def tw2132391657654582879:=z
noncomputable def tw10181785339252661614:=z
noncomputable def tw12754187467733651112:=z
noncomputable def tw9324711478489931829:=z
noncomputable def tw13181660339589929557:=z
noncomputable def tw2577539439082569925:=z
noncomputable def tw12857466746864388396:=z
noncomputable def tw10380481347336989995:=z
noncomputable def tw2779254784217918154:=z
noncomputable def tw3184987799881990057:=z
noncomputable def tw517518575346506784:=z
noncomputable def tw15560571979393894462:=z
noncomputable def tw13003595611509362569:=z
noncomputable def tw3669100132950337964:=z
noncomputable def tw702572848468446684:=z
noncomputable def tw13473427458527714239:=z
noncomputable def tw6879600838127914878:=z
noncomputable def tw12673896895351738771:=z
noncomputable def tw13341770916688132789:=z
noncomputable def tw5616786655655526367:=z
noncomputable def tw15941154985212994842:=z
noncomputable def tw6159194423350521449:=z
noncomputable def tw9798749392445686991:=z
noncomputable def tw1529732759057958287:=z
noncomputable def tw1830669302262973219:=z
noncomputable def tw13754656528965023415:=z
noncomputable def tw10526081715388919801:=z
noncomputable def tw2220961441668040503:=z
noncomputable def tw12330001954792688745:=z
noncomputable def tw17529513471568927095:=z
noncomputable def tw7914748104538598928:=z
noncomputable def tw4229875461400347135:=z
noncomputable def tw9058667661418908500:=z
noncomputable def tw1755360564158746466:=z
noncomputable def tw12585961574090262431:=z
noncomputable def tw15282587865587768983:=z
noncomputable def tw10791915233034044121:=z
noncomputable def tw7433475125727896877:=z
noncomputable def tw1714820676018326337:=z
noncomputable def tw16399841939771747919:=z
noncomputable def tw15069501357316403950:=z
noncomputable def tw17569996668792836514:=z
noncomputable def tw12313909441721536524:=z
noncomputable def tw12491926383720211573:=z
noncomputable def tw3180840526104874394:=z
noncomputable def tw15724954898603745694:=z
noncomputable def tw8654535173364691275:=z
noncomputable def tw14450654538009814638:=z
noncomputable def tw4762319221079348053:=z
noncomputable def tw13488544323282937175:=z
noncomputable def tw13570461739112239580:=z
noncomputable def tw14979081537684315350:=z
noncomputable def tw16372540264103444839:=z
noncomputable def tw13123012847070320524:=z
noncomputable def tw8973444486753257818:=z
noncomputable def tw3683357103293133732:=z
noncomputable def tw3644330656638047179:=z
noncomputable def tw15691658017342486359:=z
noncomputable def tw10449697626046071944:=z
noncomputable def tw1080079786016369442:=z
noncomputable def tw13968691795474111446:=z
noncomputable def tw3748908541369743336:=z
noncomputable def tw8862041670244015002:=z
noncomputable def tw15349185079607574143:=z
noncomputable def tw9373442345364546646:=z
noncomputable def tw10805665983973143638:=z
noncomputable def tw17615103533267235329:=z
noncomputable def tw14308343006155299986:=z
noncomputable def tw2704927611276122924:=z
noncomputable def tw13642653792288215984:=z
noncomputable def tw306441223615528156:=z
noncomputable def tw1237997750012878366:=z
noncomputable def tw6948000411029552387:=z
noncomputable def tw658068471242024517:=z
noncomputable def tw1456130343790378113:=z
noncomputable def tw5424918636795525695:=z
noncomputable def tw1563874022847214341:=z
noncomputable def tw4979911424238079973:=z
noncomputable def tw711907012666355684:=z
noncomputable def tw9039802571394221335:=z
noncomputable def tw16345467177262195903:=z
noncomputable def tw16440718133660714000:=z
noncomputable def tw17454923848900084341:=z
noncomputable def tw16396380266181090582:=z
noncomputable def tw11678575572542274770:=z
noncomputable def tw18337583030551284640:=z
noncomputable def tw456082875992142081:=z
noncomputable def tw1227197005695224297:=z
noncomputable def tw13453116945734529966:=z
noncomputable def tw10751643683930333655:=z
noncomputable def tw5245554418131648518:=z
noncomputable def tw13509320052167915267:=z
noncomputable def tw4236248015693473736:=z
noncomputable def tw16002776799521397936:=z
noncomputable def tw10832609241694210204:=z
noncomputable def tw8030851505713655856:=z
noncomputable def tw12964881786470838059:=z
noncomputable def tw10914940679123649868:=z
noncomputable def tw12124127699090260684:=z
noncomputable def tw18034098392362725748:=z
noncomputable def tw11462325918221582101:=z
noncomputable def tw11386152633726521548:=z
noncomputable def tw7533803841890983009:=z
noncomputable def tw10943672857403696418:=z
noncomputable def tw9716749248988553911:=z
noncomputable def tw3232265669955457504:=z
noncomputable def tw6154456781344214924:=z
noncomputable def tw6313692329364634548:=z
noncomputable def tw3160751651321840176:=z
noncomputable def tw2584664643224169637:=z
noncomputable def tw5260747466228334995:=z
noncomputable def tw14247951696955646638:=z
noncomputable def tw8322595068612347033:=z
noncomputable def tw10205217056834215353:=z
noncomputable def tw12964625416411564990:=z
noncomputable def tw4562066760807003560:=z
noncomputable def tw7858330479214989142:=z
noncomputable def tw14660201140263181444:=z
noncomputable def tw5189108857702152713:=z
noncomputable def tw8963960676854959664:=z
noncomputable def tw1129395453795551740:=z
noncomputable def tw15303723290933671012:=z
noncomputable def tw5855195772437343441:=z
noncomputable def tw8751655048679650933:=z
noncomputable def tw2554553618424744482:=z
noncomputable def tw4206421656799025207:=z
noncomputable def tw9755231749494515771:=z
noncomputable def tw4127185733950622024:=z
noncomputable def tw11901560829353149220:=z
noncomputable def tw11892043324856119566:=z
noncomputable def tw4717435867051667930:=z
noncomputable def tw1532455584322961750:=z
noncomputable def tw4614281513201189919:=z
noncomputable def tw9259438829305689227:=z
noncomputable def tw2227322001629042165:=z
noncomputable def tw14337995755369722647:=z
noncomputable def tw6931885648379189734:=z
noncomputable def tw846272488674378419:=z
noncomputable def tw6093045019762932893:=z
noncomputable def tw16626982493026761453:=z
noncomputable def tw7463750595454763889:=z
noncomputable def tw4749430845434122313:=z
noncomputable def tw2196825158038345674:=z
noncomputable def tw13859837636357634269:=z
noncomputable def tw1342388314850558423:=z
noncomputable def tw13826520069226884745:=z
noncomputable def tw6111121050043223569:=z
noncomputable def tw1870375756432141158:=z
noncomputable def tw10258505496692243435:=z
noncomputable def tw837184868781207968:=z
noncomputable def tw18341708831006459948:=z
noncomputable def tw16083483293790887023:=z
noncomputable def tw11569844955279462279:=z
noncomputable def tw14010359701324279175:=z
noncomputable def tw7934514072173810982:=z
noncomputable def tw17187315534389520416:=z
noncomputable def tw2569792437810101710:=z
noncomputable def tw31625176663636113:=z
noncomputable def tw16572163410105604594:=z
noncomputable def tw5441213973966025280:=z
noncomputable def tw2788860857450292647:=z
noncomputable def tw2217070987084712834:=z
noncomputable def tw11457506358638567750:=z
noncomputable def tw13077385121704071535:=z
noncomputable def tw12326456659564998868:=z
noncomputable def tw12353144751279294858:=z
noncomputable def tw1966028731820443262:=z
noncomputable def tw1135288481317815095:=z
noncomputable def tw18003591256805631045:=z
noncomputable def tw6216872617071678219:=z
noncomputable def tw11789723327000346943:=z
noncomputable def tw17427408527432979050:=z
noncomputable def tw15059339369659005738:=z
noncomputable def tw17420332177910537618:=z
noncomputable def tw2593745429033852945:=z
end PySem.W.Fast
namespace L2
open PySem PySem.Spec PyProof.Rows
abbrev Key:=Sum (Option Int) Str
noncomputable def b9P:Value->Bool
 | .none=>true
 | _=>false
noncomputable def b0z:Key->Value->Bool
 | .inl (some k),v=>Value.isInt k v
 | .inl none,v=>b9P v
 | .inr x,v=>Value.isStrOf x v
noncomputable def keyH (w:World):Key->Int
 | .inl (some k)=>hashInt k
 | .inl none=>reduceHash 0xFCA86420
 | .inr x=>hashStr w x
theorem a0G:∀ {k:Key}{v:Value},b0z k v=true->(∃ i t,k=Sum.inl (some i)/\v=Value.int i t)\/(∃ x t,k=Sum.inr x/\v=Value.str x t)\/(k=Sum.inl none/\v=Value.none)
 | .inl (some i),v,h=>by
  obtain⟨t,e⟩:=Value.isInt_shape h;exact .inl ⟨i,t,rfl,e⟩
 | .inl none,v,h=>by
  cases v<;>first | exact .inr (.inr ⟨rfl,rfl⟩) | cases h
 | .inr x,v,h=>by
  obtain⟨t,e⟩:=Value.isStrOf_shape h;exact .inr (.inl ⟨x,t,rfl,e⟩)
theorem b1g (i:Int) (t:Tok):b0z (.inl (some i)) (.int i t)=true:=by simp[b0z,Value.isInt]
theorem b1h (x:Str) (t:Tok):b0z (.inr x) (.str x t)=true:=by simp[b0z,Value.isStrOf]
theorem b7c (a b:Int):decide ((Sum.inl (some a):Key)=Sum.inl (some b))=(a==b):=by
 by_cases e:a=b
 ·simp_all
 ·simp_all
theorem b7d (a b:Str):decide ((Sum.inr a:Key)=Sum.inr b)=decide (a=b):=by simp
theorem a6B {a b:Key}(h:a≠b):decide (a=b)=false:=decide_eq_false h
noncomputable def a0N (prog:jH) (w:World):PySem.KeyKind prog w Key where
 is:=b0z
 hash:=keyH w
 inj:=λv a b ha hb=>by
  rcases a0G ha with ⟨i,t,rfl,rfl⟩ | ⟨x,t,rfl,rfl⟩ | ⟨rfl,rfl⟩
  ·rcases a0G hb with ⟨j,u,rfl,e⟩ | ⟨y,u,rfl,e⟩ | ⟨rfl,e⟩
   ·injection e with e1 _;rw[e1]
   ·exact nomatch e
   ·exact nomatch e
  ·rcases a0G hb with ⟨j,u,rfl,e⟩ | ⟨y,u,rfl,e⟩ | ⟨rfl,e⟩
   ·exact nomatch e
   ·injection e with e1 _;rw[e1]
   ·exact nomatch e
  ·rcases a0G hb with ⟨j,u,rfl,e⟩ | ⟨y,u,rfl,e⟩ | ⟨rfl,e⟩
   ·exact nomatch e
   ·exact nomatch e
   ·rfl
 byValue:=λk v h=>by
  rcases a0G h with ⟨i,t,rfl,rfl⟩ | ⟨x,t,rfl,rfl⟩ | ⟨rfl,rfl⟩<;>rfl
 pyHash:=λhv h=>by
  rcases a0G hv with ⟨i,t,rfl,rfl⟩ | ⟨x,t,rfl,rfl⟩ | ⟨rfl,rfl⟩
  ·exact wpAny_pyHash_int h
  ·exact wpAny_pyHash_str h
  ·exact PySem.W.pyHash_slot (T:="NoneType") rfl F.slot_NoneType_hash F.entry_NoneType_hash (F.args_NoneType_hash_1 _) (beq_builtin_none _) (.inl rfl) (jB (jK (jB (wpAny_mkInt (jK ⟨_,_,rfl,h⟩)))))
 eqBool:=λhu hv h=>by
  rcases a0G hu with ⟨i,t,rfl,rfl⟩ | ⟨x,t,rfl,rfl⟩ | ⟨rfl,rfl⟩
  ·rcases a0G hv with ⟨j,u,rfl,rfl⟩ | ⟨y,u,rfl,rfl⟩ | ⟨rfl,rfl⟩
   ·rw[b7c]at h;exact wpAny_eqBool_int h
   ·rw[show decide ((Sum.inl (some i):Key)=Sum.inr y)=false from a6B (by simp)]at h;exact SeqAt.EqAt.int_str i t y u _ _ _ _ h
   ·rw[show decide ((Sum.inl (some i):Key)=Sum.inl none)=false from a6B (by simp)]at h;exact SeqAt.EqAt.int_none i t _ _ _ _ h
  ·rcases a0G hv with ⟨j,u,rfl,rfl⟩ | ⟨y,u,rfl,rfl⟩ | ⟨rfl,rfl⟩
   ·rw[show decide ((Sum.inr x:Key)=Sum.inl (some j))=false from a6B (by simp)]at h;exact SeqAt.EqAt.str_int x t j u _ _ _ _ h
   ·rw[b7d]at h;exact wpAny_eqBool_str h
   ·rw[show decide ((Sum.inr x:Key)=Sum.inl none)=false from a6B (by simp)]at h;exact SeqAt.EqAt.str_none x t _ _ _ _ h
  ·rcases a0G hv with ⟨j,u,rfl,rfl⟩ | ⟨y,u,rfl,rfl⟩ | ⟨rfl,rfl⟩
   ·rw[show decide ((Sum.inl none:Key)=Sum.inl (some j))=false from a6B (by simp)]at h;exact SeqAt.EqAt.none_int j u _ _ _ _ h
   ·rw[show decide ((Sum.inl none:Key)=Sum.inr y)=false from a6B (by simp)]at h;exact SeqAt.EqAt.none_str y u _ _ _ _ h
   ·rw[decide_eq_true rfl]at h;unfold PySem.eqBool;refine jY ?_;exact wpAny_ite_split (λ_=>jB (kP (jK h))) λhab=>absurd rfl hab
 «strs»:=λk x t v h=>by
  rcases a0G h with ⟨i,u,rfl,e⟩ | ⟨y,u,rfl,e⟩ | ⟨rfl,e⟩
  ·exact nomatch e
  ·injection e with e1 _
   subst e1;cases v<;>rfl
  ·exact nomatch e
theorem a8Z (prog:jH) (w:World) (i:Int) (t:Tok):(a0N prog w).is (.inl (some i)) (.int i t)=true:=b1g i t
theorem a80 (prog:jH) (w:World) (x:Str) (t:Tok):(a0N prog w).is (.inr x) (.str x t)=true:=b1h x t
inductive V where
 | non | bl (b:Bool) | int (i:Int) | str (x:Str) | byt (b:Array UInt8) | flt (b:UInt64) | ref (a:Addr) | ty (n:String)
 deriving DecidableEq
noncomputable def RelV:V->Value->Prop
 | .non,u=>u=Value.none
 | .bl b,u=>u=Value.bool b
 | .int i,u=>∃ t,u=Value.int i t
 | .str x,u=>∃ t,u=Value.str x t
 | .byt b,u=>∃ t,u=Value.bytes b t
 | .flt b,u=>∃ t,u=Value.float b t
 | .ref a,u=>u=Value.ref a
 | .ty n,u=>u=Value.type n
abbrev Vals:List V->List Value->Prop:=Paired RelV
theorem Vals.length (r:Vals xs us):xs.length=us.length:=Paired.length r
theorem Vals.get:∀ {xs:List V}{us:List Value}{i:Nat}{x:V},Vals xs us->xs[i]?=some x->∃ u,us[i]?=some u/\RelV x u
 | _,_,_,_,.nil,e=>by simp at e
 | _,_,0,_,.cons r _,e=>by simp at e;subst e;exact⟨_,rfl,r⟩
 | _,_,i+1,x,.cons _ t,e=>by
  obtain⟨u,b,a⟩:=Vals.get t (by simpa using e);exact⟨u,by simpa using b,a⟩
theorem Vals.set (r:RelV x u):∀ {xs:List V}{us:List Value}(i:Nat),Vals xs us->Vals (xs.set i x) (us.set i u)
 | _,_,_,.nil=>.nil
 | _,_,0,.cons _ t=>.cons r t
 | _,_,i+1,.cons q t=>.cons q (Vals.set r i t)
theorem Vals.append:∀ {xs ys:List V}{us ws:List Value},Vals xs us->Vals ys ws->Vals (xs++ys) (us++ws)
 | _,_,_,_,.nil,s=>s
 | _,_,_,_,.cons r t,s=>.cons r (Vals.append t s)
theorem Vals.take:∀ {xs:List V}{us:List Value}(n:Nat),Vals xs us->Vals (xs.take n) (us.take n)
 | _,_,0,_=>.nil
 | _,_,_+1,.nil=>.nil
 | _,_,n+1,.cons r t=>.cons r (Vals.take n t)
theorem Vals.drop:∀ {xs:List V}{us:List Value}(n:Nat),Vals xs us->Vals (xs.drop n) (us.drop n)
 | _,_,0,r=>r
 | _,_,_+1,.nil=>.nil
 | _,_,n+1,.cons _ t=>Vals.drop n t
theorem Vals.none_of:∀ {xs:List V}{us:List Value}{i:Nat},Vals xs us->xs[i]?=none->us[i]?=none:=λ{a d i} r e=>by
 have b:=r.length;have c:=iO.mp e;exact iO.mpr (by omega)
noncomputable def RelO:Option V->Option Value->Prop
 | some v,some u=>RelV v u
 | none,none=>True
 | _,_=>False
noncomputable def KV {κ:Type}:List (κ×V)->List (κ×Value)->Prop:=Paired λ(p:κ×V) (q:κ×Value)=>p.1=q.1/\RelV p.2 q.2
noncomputable def kV:Key->V
 | .inl (some i)=>.int i
 | .inl none=>.non
 | .inr x=>.str x
inductive HO where
 /-- a list -/
 | lst (xs:List V)
 /-- a tuple (never changes) -/
 | tup (xs:List V)
 /-- a dict whose keys are ints and texts;one whose keys are tuples of ints and texts (the empty one is both) -/
 | dK (kvs:List (Key×V)) | dT (kvs:List (List Key×V))
 /-- a set of ints: its members,its size -/
 | set (S:Int->Bool) (n:Nat)
 /-- an instance of the class at C,its dict at dx,its attributes -/
 | ins (C dx:Addr) (fs:List (Str×V))
 /-- the dict of the instance at x -/
 | own (x:Addr)
 /-- the dict of an exception -/
 | xd (fs:List (Str×V))
 /-- a bound method,f of x -/
 | met (f x:Addr)
 /-- a range object lo,lo+1,.. below hi -/
 | rng (lo hi:Int)
 /-- a thing that is known to the object (the script;a dict while a loop walks it): read,never written while it is so -/
 | frz (o:Obj) (u:HO)
 /-- a code object's table -/
 | tbl (ps:Array Value)
 /-- any other thing,by what is true of its one object (a def of one's own: SetO a S n:=HO.ext λh=>..) -/
 | ext (φ:Heap->Prop)
abbrev Hp:=Addr->Option HO
noncomputable def upd (H:Hp) (a:Addr) (o:HO):Hp:=λb=>if b=a then some o else H b
theorem a0x:upd H a o a=some o:=by unfold upd;rw[if_pos rfl]
theorem a0t (h:b≠a):upd H a o b=H b:=by unfold upd;rw[if_neg h]
theorem b9Q {H:Hp}(h:H a=some o) (h':H b=some u) (d:o≠u):a≠b:=by
 intro e;subst e;rw[h]at h';exact d (ff.inj h')
theorem a1U {H:Hp}(h:H a=some o) (h':H b=none):a≠b:=by
 intro e;subst e;rw[h]at h';cases h'
section
variable (P:jH) (w:World)
noncomputable def ObjOk (H:Hp) (h:Heap) (a:Addr):HO->Prop
 | .lst xs=>xs.length<=jC/\∃ (its:List Value) (n:Nat),Vals xs its/\h.get? a=some { cls:=.type "list",data:=.seq its.toArray n }
 | .tup xs=>xs.length<=jC/\∃ its:List Value,Vals xs its/\IsTup h a its.toArray
 | .dK kvs=>kvs.length<=jC/\(a==j5)=false/\∃ vs,KV kvs vs/\h.DictOf (a0N P w) a vs
 | .dT kvs=>kvs.length<=jC/\(a==j5)=false/\∃ xs:List (List Key×Addr×Value),
   Paired (λ(p:List Key×V) (q:List Key×Addr×Value)=>p.1=q.1/\H q.2.1=some (.tup (p.1.map kV))/\RelV p.2 q.2.2) kvs xs /\
   ∃ o es ep,h.get? a=some o/\o.ExactDict/\o.data=.dict es ep/\es.toList=xs.map (entryOfKey (jT (a0N P w)))/\(xs.map (·.1)).Nodup
 | .set S n=>h.SetOf (intKind P w) a S n
 | .ins C dx fs=>H dx=some (.own a)/\fs.length<=1000/\dx≠a/\h.get? a=some (PySem.W.instObj C dx) /\
   ∃ mA,h.Ns1 dx mA/\(∀ f,RelO (fs.lookup f) (mA f))/\PySem.Within mA (fs.map (·.1))
 | .own _=>∃ o,h.get? a=some o
 | .xd fs=>∃ mA,h.Ns1 a mA/\∀ f,RelO (fs.lookup f) (mA f)
 | .rng lo hi=>∃ t u v,h.get? a=some { cls:=.type "range",data:=.fields #[.int lo t,.int hi u,.int 1 v] }
 | .frz o u=>h.get? a=some o/\ObjOk H h a u
 | .tbl ps=>h.get? a=some { cls:=.none,data:=.fields ps }
 | .met f x=>h.get? a=some (PySem.W.methodObj (.ref f) (.ref x))
 | .ext φ=>φ h/\(∃ o,h.get? a=some o)/\∀ h1 h2:Heap,φ h1->(∀ o,h1.get? a=some o->h2.get? a=some o)->φ h2
noncomputable def HOk (H:Hp) (h:Heap):Prop:=∀ a o,H a=some o->ObjOk P w H h a o
end
section
variable {P:jH}{w:World}{H H':Hp}{h h':Heap}{a:Addr}{o:HO}
theorem ObjOk.lt (x:ObjOk P w H h a o):a<h.objs.size:=by
 cases o with
 | lst xs=>obtain⟨_,_,_,_,e⟩:=x;exact Heap.lt_size e
 | tup xs=>obtain⟨_,_,_,p⟩:=x;exact p.lt
 | dK kvs=>obtain⟨_,_,_,_,o,_,_,e,_⟩:=x;exact Heap.lt_size e
 | dT kvs=>obtain⟨_,_,_,_,o,_,_,e,_⟩:=x;exact Heap.lt_size e
 | set S n=>obtain⟨o,_,_,_,e,_⟩:=x;exact Heap.lt_size e
 | ins C dx fs=>obtain⟨_,_,_,e,_⟩:=x;exact Heap.lt_size e
 | own y=>obtain⟨_,e⟩:=x;exact Heap.lt_size e
 | xd fs=>obtain⟨_,⟨_,_,_,e,_⟩,_⟩:=x;exact Heap.lt_size e
 | rng lo hi=>obtain⟨_,_,_,e⟩:=x;exact Heap.lt_size e
 | frz ob u=>obtain⟨e,_⟩:=x;exact Heap.lt_size e
 | tbl ps=>exact Heap.lt_size (x)
 | met f y=>exact Heap.lt_size (x)
 | ext φ=>obtain⟨_,⟨_,e⟩,_⟩:=x;exact Heap.lt_size e
theorem Paired.mapP {α β:Type}{F G:α->β->Prop}:∀ {lV:List α}{lW:List β},Paired F lV lW->(∀ a b,F a b->G a b)->Paired G lV lW
 | _,_,.nil,_=>.nil
 | _,_,.cons r t,f=>.cons (f _ _ r) (Paired.mapP t f)
theorem ObjOk.stay (x:ObjOk P w H h a o) (k:∀ b u,(b=a\/H b=some (.own a))->h.get? b=some u->h'.get? b=some u)
  (ho:∀ b,H b=some (.own a)->H' b=some (.own a)) (ht:∀ b xs,H b=some (.tup xs)->H' b=some (.tup xs)):ObjOk P w H' h' a o:=by
 induction o with
 | lst s=>obtain⟨z,l,n,r,e⟩:=x;exact⟨z,l,n,r,k _ _ (.inl rfl) e⟩
 | tup s=>obtain⟨z,l,r,g,e,c⟩:=x;exact⟨z,l,r,g,k _ _ (.inl rfl) e,c⟩
 | dK kvs=>obtain⟨z,y,F,r,g,i,j,e,c⟩:=x;exact⟨z,y,F,r,g,i,j,k _ _ (.inl rfl) e,c⟩
 | dT kvs=>
  obtain⟨z,y,s,r,g,i,j,e,c⟩:=x;exact⟨z,y,s,Paired.mapP r λp q z=>⟨z.1,ht _ _ z.2.1,z.2.2⟩,g,i,j,k _ _ (.inl rfl) e,c⟩
 | set S n=>obtain⟨g,i,j,t,e,c⟩:=x;exact⟨g,i,j,t,k _ _ (.inl rfl) e,c⟩
 | ins C dx fs=>
  obtain⟨d,z,D,e,A,⟨m,i,j,E,c⟩,r⟩:=x;exact⟨ho _ d,z,D,k _ _ (.inl rfl) e,A,⟨m,i,j,k _ _ (.inr d) E,c⟩,r⟩
 | own y=>obtain⟨g,e⟩:=x;exact⟨g,k _ _ (.inl rfl) e⟩
 | xd fs=>obtain⟨A,⟨m,i,j,e,c⟩,r⟩:=x;exact⟨A,⟨m,i,j,k _ _ (.inl rfl) e,c⟩,r⟩
 | rng lo hi=>obtain⟨t,u,v,e⟩:=x;exact⟨t,u,v,k _ _ (.inl rfl) e⟩
 | frz g u ih=>obtain⟨e,q⟩:=x;exact⟨k _ _ (.inl rfl) e,ih q⟩
 | tbl ps=>
  have e:=x;exact k a _ (.inl rfl) e
 | met f y=>
  have e:=x;exact k a _ (.inl rfl) e
 | ext φ=>obtain⟨p,⟨o,e⟩,B⟩:=x;exact⟨B _ _ p λo q=>k _ _ (.inl rfl) q,⟨o,k _ _ (.inl rfl) e⟩,B⟩
theorem HOk.lt (x:HOk P w H h) (e:H a=some o):a<h.objs.size:=(x a o e).lt
theorem HOk.fresh (x:HOk P w H h) (e:h.objs.size<=a):H a=none:=by
 cases q:H a with
 | none=>rfl
 | some u=>exact absurd (eV (x.lt q) e) (e9 _)
theorem HOk.kept (x:HOk P w H h) (k:∀ b u,h.get? b=some u->h'.get? b=some u):HOk P w H h':=λa o e=>
 (x a o e).stay (λb u _ q=>k b u q) (λ_ q=>q) λ_ _ q=>q
theorem HOk.laid (x:HOk P w H h) (k:∀ b u,h.get? b=some u->h'.get? b=some u) (hp:h.objs.size<=a) (new:ObjOk P w (upd H a o) h' a o):HOk P w (upd H a o) h':=λb u e=>by
 have d:=x.fresh hp
 by_cases hb:b=a
 ·subst hb;rw[a0x]at e;cases e;exact new
 ·rw[a0t hb]at e;exact (x b u e).stay (λc v _ q=>k c v q) (λc q=>by rw[a0t (a1U q d)];exact q) λc f q=>by rw[a0t (a1U q d)];exact q
end
noncomputable def Rd (H:Hp) (a:Addr) (u:HO):Prop:=H a=some u\/∃ o,H a=some (.frz o u)
theorem Rd.of (h:H a=some u):Rd H a u:=.inl h
theorem Rd.ok (r:Rd H a u) (x:HOk P w H h):ObjOk P w H h a u:=by
 rcases r with r | ⟨o,r⟩
 ·exact x a u r
 ·obtain⟨_,q⟩:=x a _ r;exact q
noncomputable def Mut:Option HO->Prop
 | some (.lst _)=>True
 | some (.dK _)=>True
 | some (.dT _)=>True
 | some (.set _ _)=>True
 | some (.ins _ _ _)=>True
 | some (.ext _)=>True
 | _=>False
section
variable {P:jH}{w:World}{H:Hp}{h h':Heap}{x e:Addr}{o':HO}
theorem HOk.write (ok:HOk P w H h) (mu:Mut (H x)) (he:e=x\/H e=some (.own x)) (k:∀ b u,b≠e->h.get? b=some u->h'.get? b=some u) (heo:∃ u,h'.get? e=some u)
  (new:ObjOk P w (upd H x o') h' x o'):HOk P w (upd H x o') h':=λb u q=>by
 have a:∀ c y,H c=some (.own y)->c≠x:=λc y r z=>by subst z;rw[r]at mu;exact mu
 have g:∀ c d,H c=some (.tup d)->c≠x:=λc d r z=>by subst z;rw[r]at mu;exact mu
 by_cases hb:b=x
 ·subst hb;rw[a0x]at q;cases q;exact new
 ·rw[a0t hb]at q
  by_cases hbe:b=e
  ·have i:H b=some (.own x):=by
    rcases he with z | z
    ·exact absurd (hbe.trans z) hb
    ·rw[hbe];exact z
   rw[q]at i;cases i;obtain⟨v,j⟩:=heo;exact⟨v,by rw[hbe];exact j⟩
  ·refine (ok b u q).stay (λc v f r=>k c v ?_ r) (λc r=>by rw[a0t (a c b r)];exact r) λc d r=>by rw[a0t (g c d r)];exact r
   rcases f with rfl | f
   ·omega
   ·grind
end
structure Un (fs ex:List Addr) (H H':Hp) (h h':Heap):Prop where
 keep:∀ b o,h.get? b=some o->H b=none->b∉fs->b∉ex->h'.get? b=some o
 slot:∀ b o,h.get? b=some o->H b=none->b∈fs->b∉ex->∃ sl,h'.get? b=some { o with slots:=sl }
 free:∀ b o,h.get? b=some o->H b=none->b∉ex->H' b=none
 there:∀ b o,h.get? b=some o->b∉ex->∃ o',h'.get? b=some o'
 tups:∀ b xs,H b=some (.tup xs)->H' b=some (.tup xs)
 frzs:∀ b o u,H b=some (.frz o u)->H' b=some (.frz o u)
 tbls:∀ b ps,H b=some (.tbl ps)->∃ more,H' b=some (.tbl (ps++more))
section
variable {fs fs' ex ex':List Addr}{H H1 H2:Hp}{h h1 h2 h':Heap}{a x e:Addr}{o:HO}
theorem Un.any (u:Un fs ex H H1 h h1) (q:h.get? b=some ob) (n:H b=none) (hx:b∉ex):∃ sl,h1.get? b=some { ob with slots:=sl }:=by
 by_cases hb:b∈fs
 ·exact u.slot b ob q n hb hx
 ·exact⟨ob.slots,u.keep b ob q n hb hx⟩
theorem Un.trans (a:Un fs ex H H1 h h1) (b:Un fs ex H1 H2 h1 h2):Un fs ex H H2 h h2 where
 keep:=λc ob q n hc hx=>b.keep c ob (a.keep c ob q n hc hx) (a.free c ob q n hx) hc hx
 slot:=λc ob q n hc hx=>by
  obtain⟨sl,e1⟩:=a.slot c ob q n hc hx;obtain⟨sl',e2⟩:=b.slot c _ e1 (a.free c ob q n hx) hc hx;exact⟨sl',e2⟩
 free:=λc ob q n hx=>by
  obtain⟨o',e1⟩:=a.there c ob q hx;exact b.free c o' e1 (a.free c ob q n hx) hx
 there:=λc ob q hx=>by
  obtain⟨o',e1⟩:=a.there c ob q hx;exact b.there c o' e1 hx
 tups:=λc xs q=>b.tups c xs (a.tups c xs q)
 frzs:=λc ob xs q=>b.frzs c ob xs (a.frzs c ob xs q)
 tbls:=λc ps q=>by
  obtain⟨m1,e1⟩:=a.tbls c ps q;obtain⟨m2,e2⟩:=b.tbls c _ e1;exact⟨m1++m2,by rw[e2,iP]⟩
theorem Un.kept (k:∀ b u,h.get? b=some u->h'.get? b=some u):Un fs ex H H h h':=
 ⟨λb a q _ _ _=>k b a q,λb a q _ _ _=>⟨a.slots,k b a q⟩,λ_ _ _ n _=>n,λb a q _=>⟨a,k b a q⟩,λ_ _ q=>q,λ_ _ _ q=>q,λ_ c q=>⟨#[],by rw[q];simp⟩⟩
theorem Un.refl:Un fs ex H H h h:=Un.kept λ_ _ q=>q
theorem Un.laid (k:∀ b u,h.get? b=some u->h'.get? b=some u) (hp:h.objs.size<=a) (hn:H a=none):Un fs ex H (upd H a o) h h' where
 keep:=λb u q _ _ _=>k b u q
 slot:=λb u q _ _ _=>⟨u.slots,k b u q⟩
 free:=λb u q n _=>by rw[a0t (eO (eV (Heap.lt_size q) hp))];exact n
 there:=λb u q _=>⟨u,k b u q⟩
 tups:=λb xs q=>by rw[a0t (a1U q hn)];exact q
 frzs:=λb u xs q=>by rw[a0t (a1U q hn)];exact q
 tbls:=λb ps q=>⟨#[],by rw[a0t (a1U q hn),q];simp⟩
theorem Un.write (mu:Mut (H x)) (he:e=x\/H e=some (.own x)) (k:∀ b u,b≠e->h.get? b=some u->h'.get? b=some u) (heo:∃ u,h'.get? e=some u):Un fs ex H (upd H x o) h h':=by
 have d:∀ b,H b=none->b≠x:=λb n z=>by subst z;rw[n]at mu;exact mu
 have c:∀ b,H b=none->b≠e:=λb n z=>by simp_all
 have a:∀ b u,H b=some u->¬ Mut (some u)->b≠x:=λb u q g z=>by subst z;rw[q]at mu;exact g mu
 refine⟨λb u q n _ _=>k b u (c b n) q,λb u q n _ _=>⟨u.slots,k b u (c b n) q⟩,λb u q n _=>by rw[a0t (d b n)];exact n,λb u q _=>?_,
  λb f q=>by rw[a0t (a b _ q λz=>z)];exact q,λb u f q=>by rw[a0t (a b _ q λz=>z)];exact q,λb i q=>⟨#[],by rw[a0t (a b _ q λz=>z),q];simp⟩⟩
 by_cases hbe:b=e
 ·grind
 ·exact⟨u,k b u hbe q⟩
theorem Un.mono (u:Un fs ex H H1 h h1) (hs:∀ b∈fs,b∈fs') (hx:∀ b∈ex,b∈ex'):Un fs' ex' H H1 h h1:=
 ⟨λb c q n d a=>u.keep b c q n (λz=>d (hs b z)) λz=>a (hx b z),λ_ _ q n _ a=>u.any q n λz=>a (hx _ z),λb c q n a=>u.free b c q n λz=>a (hx b z),λb c q a=>u.there b c q λz=>a (hx b z),u.tups,u.frzs,u.tbls⟩
end
noncomputable def trk (h:Heap) (H:Hp):List Addr:=(fY h.objs.size).filter λa=>(H a).isSome
noncomputable def hidT (h:Heap) (H:Hp):Heap:=PySem.W.hideAll h (trk h H)
theorem b1i (h:Heap) (H:Hp):(hidT h H).objs.size=h.objs.size:=PySem.W.hideAll_size _ _
theorem b3s (e:h.get? b=some o) (n:H b=none):(hidT h H).get? b=some o:=
 PySem.W.hideAll_get _ e λa=>by
  have q:=(fj.mp a).2;rw[n]at q;simp at q
theorem b5B (e:(hidT h H).get? b=some o):h.get? b=some o/\H b=none:=by
 have a:=PySem.W.of_hideAll _ e;refine⟨a,?_⟩;cases q:H b with
 | none=>rfl
 | some x=>
  have c:b∈trk h H:=fj.mpr ⟨gT.mpr (Heap.lt_size a),by simp[q]⟩;have z:(hidT h H).get? b=none:=PySem.W.hideAll_none _ c;rw[z]at e;cases e
noncomputable def b5C (g h:Heap) (L:Addr):List (Addr×Obj):=(fY h.objs.size).filterMap λa=>if a=L\/(g.get? a).isSome=true then none else (h.get? a).map λo=>(a,o)
noncomputable def rest (g h:Heap) (L d:Addr):List (Addr×Obj):=(b5C g h L).filter λp=>decide (p.1≠d)
structure Mod (K:Fg) (mg:Str->Option Value) (base:Heap):Prop where
 kin:K.In base
 glob:base.Ns jG mg
 blt:∃ mb,base.Ns lr mb/\∀ x:Str,x≠"__name__"->mb x=ke x
 nolimit:base.NoLimit
structure Cx where
 prog:jH
 w:World
 K:Fg
 mg:Str->Option Value
 base:Heap
 A:Around
 N:List Str
 s₀:Shared
 H₀:Hp
 env:Env
 outer:List Env
 stack:List Env
 ex:List Addr
 fn:Str->Bool
 calm:Bool
 pn:List (Addr×Obj)
 xe:Value->Shared->Prop
noncomputable def frs (l:List Env):List Addr:=l.filterMap (·.frame)
abbrev Cx.fs (X:Cx):List Addr:=frs X.outer
noncomputable def Vis (sc:Scope) (x:Str):Prop:=sc.names.lookup x=some .local\/sc.names.lookup x=some .cell\/sc.names.lookup x=some .free
noncomputable def Loc (sc:Scope) (x:Str):Prop:=sc.names.lookup x=some .local\/sc.names.lookup x=some .cell
noncomputable def Look (env:Env) (h:Heap) (m:Str->Option Value) (x:Str) (u:Value):Prop:=
 (env.kindOf x=some .local/\m x=some u)\/((env.kindOf x=some .cell\/env.kindOf x=some .free)/\∃ c,env.cells.lookup x=some c/\h.IsCell c (some u))
structure Cx.Ok (X:Cx):Prop where
 mod:Mod X.K X.mg X.base
 kind:X.env.scope.kind=.function
 glob:X.env.globals=jG
 blt:X.env.builtins=lr
 above:X.s₀.heap.objs.size<=X.env.locals
 inj:∀ x y c,X.env.cells.lookup x=some c->X.env.cells.lookup y=some c->x=y
 has:∀ x,(X.env.kindOf x=some .cell\/X.env.kindOf x=some .free)->∃ c,X.env.cells.lookup x=some c
 cab:∀ x c,X.fn x=true->X.env.cells.lookup x=some c->X.s₀.heap.objs.size<=c
 hd:X.calm=true->X.A.handled=none
 frames:X.A.frames=some X.stack
 stk:X.stack=X.outer\/(X.stack=X.env::X.outer/\X.env.frame=some X.env.locals)
 exf:∀ b∈X.ex,b≠X.env.locals/\∀ x c,X.env.cells.lookup x=some c->c≠b
 bs:∀ b o,X.base.get? b=some o->X.s₀.heap.get? b=some o/\X.H₀ b=none
 bsz:X.base.objs.size<=X.s₀.heap.objs.size
 noex:∀ b o,X.base.get? b=some o->b∉X.ex
 exfs:∀ b∈X.ex,b∉X.fs
 funs:X.s₀.heap.FunFrames X.base X.outer
 frf:∀ b∈X.fs,X.H₀ b=none
structure Inv (X:Cx) (pins:List (Addr×Obj)) (σ:List (Option V)) (H:Hp) (s:Shared):Prop where
 ok:X.Ok
 os:s.os=X.s₀.os
 bare:j6 s.gens
 base:Un X.fs X.ex X.H₀ H X.s₀.heap s.heap
 loc:∃ m,s.heap.Ns X.env.locals m/\∀ (i:Nat) (x:Str) (v:V),X.N[i]?=some x->σ[i]?=some (some v)->Vis X.env.scope x->∃ u,RelV v u/\Look X.env s.heap m x u
 cell:∀ x c,X.env.cells.lookup x=some c->∃ v,s.heap.IsCell c v
 free:H X.env.locals=none
 freeC:∀ x c,X.env.cells.lookup x=some c->H c=none
 pin:∀ p∈X.pn++pins,s.heap.get? p.1=some p.2/\H p.1=none/\p.1≠X.env.locals/\p.1∉X.fs/\∀ v,p.2.data≠.cell v
 hok:HOk X.prog X.w H s.heap
 len:σ.length=X.N.length
section
variable {X:Cx}{pins:List (Addr×Obj)}{σ:List (Option V)}{H H':Hp}{s:Shared}{h':Heap}
theorem Cx.Ok.nofr (ok:X.Ok) (e:X.base.get? b=some o):b∉X.fs:=λa=>by
 have:=(ok.funs.mem a).1
 rw[e]at this;cases this
theorem Inv.bs (I:Inv X pins σ H s):∀ b o,X.base.get? b=some o->s.heap.get? b=some o/\H b=none:=λb o e=>
 ⟨I.base.keep b o (I.ok.bs b o e).1 (I.ok.bs b o e).2 (I.ok.nofr e) (I.ok.noex b o e),I.base.free b o (I.ok.bs b o e).1 (I.ok.bs b o e).2 (I.ok.noex b o e)⟩
theorem Inv.bk (I:Inv X pins σ H s):∀ b o,X.base.get? b=some o->s.heap.get? b=some o:=λb o e=>(I.bs b o e).1
theorem Inv.mod (I:Inv X pins σ H s):Mod X.K X.mg X.base:=I.ok.mod
theorem Inv.kIn (I:Inv X pins σ H s):X.K.In s.heap:=I.ok.mod.kin.keeps I.bk
theorem Inv.nolimit (I:Inv X pins σ H s):s.heap.NoLimit:=I.ok.mod.nolimit.keeps I.bk
theorem Inv.fr (I:Inv X pins σ H s):∃ m,Fr X.base X.env.locals s.heap m:=
 let ⟨m,hn,_⟩:=I.loc
 ⟨m,hn,I.bk,eM I.ok.bsz I.ok.above⟩
theorem Inv.lt (I:Inv X pins σ H s):X.env.locals<s.heap.objs.size:=let ⟨_,hn,_⟩:=I.loc;hn.lt
theorem Inv.sz (I:Inv X pins σ H s):X.s₀.heap.objs.size<=s.heap.objs.size:=eM I.ok.above (fT I.lt)
theorem Inv.nofs (I:Inv X pins σ H s) (h:s.heap.objs.size<=a):a∉X.fs:=λc=>by
 obtain⟨_,o,b,_⟩:=I.ok.funs.mem c;exact absurd (eV (Heap.lt_size b) (eM I.sz h)) (e9 _)
theorem Inv.cne (I:Inv X pins σ H s):∀ x c,X.env.cells.lookup x=some c->c≠X.env.locals:=λx c e z=>by
 obtain⟨v,o,d,b⟩:=I.cell x c e;obtain⟨m,⟨i,g,h,a,f,_⟩,_⟩:=I.loc;rw[z,a]at d;cases d;rw[f]at b;cases b
theorem Inv.funs (I:Inv X pins σ H s):s.heap.FunFrames X.base X.outer:=by
 have g:∀ l,(∀ b∈frs l,b∈X.fs)->X.s₀.heap.FunFrames X.base l->s.heap.FunFrames X.base l:=by
  intro l
  induction l with
  | nil=>intro _ _;trivial
  | cons env r ih=>
   intro f h;obtain⟨k,⟨L,o,c,n,m,j⟩,i⟩:=h;have d:=f L (by unfold frs;rw[fD,c];exact fJ);obtain⟨p,e⟩:=I.base.slot L o m (I.ok.frf L d) d λz=>I.ok.exfs L z d;exact⟨k,⟨L,_,c,n,e,j⟩,ih (λb a=>f b (by unfold frs;rw[fD,c];exact fE _ a)) i⟩
 exact g X.outer (λ_ a=>a) I.ok.funs
theorem Inv.stack (I:Inv X pins σ H s):s.heap.FunFrames X.base X.stack:=by
 rcases I.ok.stk with e | ⟨e,hf⟩
 ·rw[e];exact I.funs
 ·rw[e];obtain⟨m,a,_⟩:=I.loc;refine .cons (by rw[I.ok.kind];decide) hf a ?_ I.funs;exact Heap.get?_none_of_le (eM I.ok.bsz I.ok.above)
theorem Inv.stkSub (I:Inv X pins σ H s):∀ b∈frs X.stack,b∈X.env.locals::X.fs:=λb a=>by
 rcases I.ok.stk with e | ⟨e,hf⟩
 ·rw[e]at a;exact fE _ a
 ·rw[e]at a;unfold frs at a;rw[fD,hf]at a;exact a
theorem Inv.stkFree (I:Inv X pins σ H s):∀ b∈frs X.stack,H b=none:=λb a=>by
 rcases eI.mp (I.stkSub b a) with e | a
 ·rw[e];exact I.free
 ·obtain⟨_,o,c,_⟩:=I.ok.funs.mem a;exact I.base.free b o c (I.ok.frf b a) λz=>I.ok.exfs b z a
theorem Inv.step {ch:List Addr}(I:Inv X pins σ H s)
  (hch:∀ b∈ch,(b∈X.ex\/X.s₀.heap.objs.size<=b)/\b≠X.env.locals/\(∀ x c,X.env.cells.lookup x=some c->c≠b)/\∀ p∈X.pn++pins,p.1≠b)
  (keep:∀ b o,b≠X.env.locals->b∉X.fs->b∉ch->s.heap.get? b=some o->H b=none->h'.get? b=some o)
  (slot:∀ b o,b≠X.env.locals->b∈X.fs->b∉ch->s.heap.get? b=some o->H b=none->∃ sl,h'.get? b=some { o with slots:=sl }) (free:∀ b o,b∉ch->s.heap.get? b=some o->H b=none->H' b=none)
  (there:∀ b o,b∉ch->s.heap.get? b=some o->∃ o',h'.get? b=some o')
  (tups:∀ b xs,H b=some (.tup xs)->H' b=some (.tup xs)) (frzs:∀ b o u,H b=some (.frz o u)->H' b=some (.frz o u)) (tbls:∀ b ps,H b=some (.tbl ps)->∃ more,H' b=some (.tbl (ps++more)))
  (ns:∀ m,s.heap.Ns X.env.locals m->h'.Ns X.env.locals m) (hok:HOk X.prog X.w H' h') (hg:j6 g') :
  Inv X pins σ H' { s with heap:=h',gens:=g',drawn:=d',toks:=t' }:=by
 have C:∀ b o,X.s₀.heap.get? b=some o->b≠X.env.locals:=λb o e=>eO (eV (Heap.lt_size e) I.ok.above);have j:∀ b o,X.s₀.heap.get? b=some o->b∉X.ex->b∉ch:=λb o e a h=>by
  rcases (hch b h).1 with z | z
  ·grind
  ·exact absurd (eV (Heap.lt_size e) z) (e9 _)
 have t:∀ x c,X.env.cells.lookup x=some c->∀ v,s.heap.IsCell c v->h'.IsCell c v:=λx c e v ⟨o,y,E⟩=>by
  have g:=λz=>(hch c z).2.2.1 x c e rfl
  by_cases hc:c∈X.fs
  ·obtain⟨S,q⟩:=slot c o (I.cne x c e) hc g y (I.freeC x c e);exact⟨_,q,E⟩
  ·exact⟨o,keep c o (I.cne x c e) hc g y (I.freeC x c e),E⟩
 refine⟨I.ok,I.os,hg,⟨λb o e n h a=>?_,λb o e n h a=>?_,λb o e n a=>?_,λb o e a=>?_,λb B e=>tups b B (I.base.tups b B e),λb o B e=>frzs b o B (I.base.frzs b o B e),λb Q e=>?_⟩,?_,λx c e=>?_,?_,λx c e=>?_,λp L=>?_,hok,I.len⟩
 ·exact keep b o (C b o e) h (j b o e a) (I.base.keep b o e n h a) (I.base.free b o e n a)
 ·obtain⟨S,f⟩:=I.base.slot b o e n h a;obtain⟨F,A⟩:=slot b _ (C b o e) h (j b o e a) f (I.base.free b o e n a);exact⟨F,A⟩
 ·obtain⟨D,f⟩:=I.base.there b o e a;exact free b D (j b o e a) f (I.base.free b o e n a)
 ·obtain⟨D,f⟩:=I.base.there b o e a;exact there b D (j b o e a) f
 ·obtain⟨N,f⟩:=I.base.tbls b Q e;obtain⟨U,A⟩:=tbls b _ f;exact⟨N++U,by rw[A,iP]⟩
 ·obtain⟨m,T,M⟩:=I.loc;refine⟨m,ns m T,λi x v f A R=>?_⟩;obtain⟨u,r,l⟩:=M i x v f A R;refine⟨u,r,?_⟩;rcases l with l | ⟨k,c,e,z⟩
  ·exact .inl l
  ·exact .inr ⟨k,c,e,t x c e _ z⟩
 ·obtain⟨v,z⟩:=I.cell x c e;exact⟨v,t x c e v z⟩
 ·obtain⟨m,⟨o,_,_,y,_⟩,_⟩:=I.loc;exact free _ o (λz=>(hch _ z).2.1 rfl) y I.free
 ·obtain⟨v,o,y,E⟩:=I.cell x c e;exact free c o (λz=>(hch c z).2.2.1 x c e rfl) y (I.freeC x c e)
 ·obtain⟨e,n,G,J,d⟩:=I.pin p L;have g:=λz=>(hch p.1 z).2.2.2 p L rfl;exact⟨keep p.1 p.2 G J g e n,free p.1 p.2 g e n,G,J,d⟩
theorem Inv.un (I:Inv X pins σ H s) (u:Un X.fs [] H H' s.heap h') (hok:HOk X.prog X.w H' h'):Inv X pins σ H' { s with heap:=h',toks:=t' }:=by
 obtain⟨m,⟨o,k,q,g,r⟩,_⟩:=id I.loc;obtain⟨l,j⟩:=u.any g I.free (by simp);exact I.step (ch:=[]) (λ_ z=>nomatch z) (λb o _ c _ e n=>u.keep b o e n c (by simp)) (λb o _ c _ e n=>u.slot b o e n c (by simp)) (λb o _ e n=>u.free b o e n (by simp)) (λb o _ e=>u.there b o e (by simp)) u.tups u.frzs u.tbls (λt h=>by
  obtain⟨p,d,f,a,i⟩:=h;rw[g]at a;cases a;exact⟨_,d,f,j,i⟩) hok I.bare
theorem Inv.call (I:Inv X pins σ H s) (u:Un (frs X.stack) ch H H' s.heap h') (hok:HOk X.prog X.w H' h') (hg:j6 g')
  (hch:∀ b∈ch,(b∈X.ex\/X.s₀.heap.objs.size<=b)/\b≠X.env.locals/\(∀ x c,X.env.cells.lookup x=some c->c≠b)/\∀ p∈X.pn++pins,p.1≠b) :
  Inv X pins σ H' { s with heap:=h',gens:=g',drawn:=d',toks:=t' }:=by
 obtain⟨m,⟨o,q,y,i,r⟩,_⟩:=id I.loc;obtain⟨t,f⟩:=u.any i I.free λz=>(hch _ z).2.1 rfl;exact I.step hch (λb o f l a e n=>u.keep b o e n (λz=>(eI.mp (I.stkSub b z)).elim f l) a) (λb o _ _ a e n=>u.any e n a) (λb o a e n=>u.free b o e n a) (λb o a e=>u.there b o e a) u.tups u.frzs u.tbls (λA j=>by
  obtain⟨v,g,h,d,k⟩:=j;rw[i]at d;cases d;exact⟨_,g,h,f,k⟩) hok hg
theorem Inv.turned (I:Inv X pins σ H s) (k:∀ b o,b≠it->s.heap.get? b=some o->h'.get? b=some o) (hn:H it=none) (hL:it≠X.env.locals)
  (h1:it∈X.ex\/X.s₀.heap.objs.size<=it) (h2:∀ x c,X.env.cells.lookup x=some c->c≠it) (h3:∀ p∈X.pn++pins,p.1≠it):Inv X pins σ H { s with heap:=h',toks:=t' }:=by
 have d:∀ b u,H b=some u->b≠it:=λb u e z=>by rw[z,hn]at e;cases e
 refine I.step (ch:=[it]) (λb i=>?_) (λb o _ _ a e _=>k b o (λz=>a (by simp[z])) e) (λb o _ _ a e _=>⟨o.slots,k b o (λz=>a (by simp[z])) e⟩) (λ_ _ _ _ n=>n)
  (λb o a e=>⟨o,k b o (λz=>a (by simp[z])) e⟩) (λ_ _ e=>e) (λ_ _ _ e=>e) (λb l e=>⟨#[],by rw[e];simp⟩) (λm h=>?_) (λb u e=>?_) I.bare
 ·have e:b=it:=by simpa using i
  subst e;exact⟨h1,hL,h2,h3⟩
 ·obtain⟨o,f,j,g,r⟩:=h;exact⟨o,f,j,k _ o (Ne.symm hL) g,r⟩
 ·refine (I.hok b u e).stay (λc v a q=>k c v ?_ q) (λ_ q=>q) λ_ _ q=>q;rcases a with z | z
  ·rw[z];exact d b u e
  ·exact d c _ z
theorem Inv.tok (I:Inv X pins σ H s) (t:Nat):Inv X pins σ H { s with toks:=t }:=I.un Un.refl I.hok
theorem Inv.kept (I:Inv X pins σ H s) (k:∀ b u,s.heap.get? b=some u->h'.get? b=some u):Inv X pins σ H { s with heap:=h',toks:=t' }:=I.un (Un.kept k) (I.hok.kept k)
theorem Inv.laid (I:Inv X pins σ H s) (k:∀ b u,s.heap.get? b=some u->h'.get? b=some u) (hp:s.heap.objs.size<=a) (new:ObjOk X.prog X.w (upd H a o) h' a o) :
  Inv X pins σ (upd H a o) { s with heap:=h',toks:=t' }:=I.un (Un.laid k hp (I.hok.fresh hp)) (I.hok.laid k hp new)
theorem Inv.write (I:Inv X pins σ H s) (mu:Mut (H x)) (he:e=x\/H e=some (.own x)) (k:∀ b u,b≠e->s.heap.get? b=some u->h'.get? b=some u) (heo:∃ u,h'.get? e=some u)
  (new:ObjOk X.prog X.w (upd H x o) h' x o):Inv X pins σ (upd H x o) { s with heap:=h',toks:=t' }:=I.un (Un.write mu he k heo) (I.hok.write mu he k heo new)
theorem Inv.weak (I:Inv X pins σ H s) (hl:σ'.length=σ.length) (w:∀ (i:Nat) v,σ'[i]?=some (some v)->σ[i]?=some (some v)):Inv X pins σ' H s:=
 ⟨I.ok,I.os,I.bare,I.base,let ⟨m,hn,hl'⟩:=I.loc;⟨m,hn,λi x v b c a=>hl' i x v b (w i v c) a⟩,I.cell,I.free,I.freeC,I.pin,I.hok,hl.trans I.len⟩
theorem Inv.pins_of (I:Inv X pins σ H s) (h:∀ p∈pins',s.heap.get? p.1=some p.2/\H p.1=none/\p.1≠X.env.locals/\p.1∉X.fs/\∀ v,p.2.data≠.cell v):Inv X pins' σ H s:=
 ⟨I.ok,I.os,I.bare,I.base,I.loc,I.cell,I.free,I.freeC,λp a=>(et.mp a).elim (λz=>I.pin p (iQ _ z)) (h p),I.hok,I.len⟩
theorem a9I {N:List Str}(hN:N.Nodup) {i j:Nat}(a:N[i]?=some x) (b:N[j]?=some x):i=j:=by
 obtain⟨f,c⟩:=eJ.mp a;obtain⟨e,d⟩:=eJ.mp b;exact (List.getElem_inj hN).mp (c.trans d.symm)
theorem a7O (I:Inv X pins σ H s) (hN:X.N.Nodup) (hi:X.N[i]?=some x) (hx:Loc X.env.scope x) (r:RelV v u)
  (h:∀ s',Inv X pins (σ.set i (some v)) H s'->(∃ a,Heap.SameBut a s.heap s'.heap/\(a=X.env.locals\/X.env.cells.lookup x=some a))->Q () s') (hf:X.fn x=true\/X.env.scope.names.lookup x=some .local:=by first | exact .inl rfl | exact .inr rfl | assumption):wpAny M A (lu X.env x u) Q E s:=by
 obtain⟨m,hn,hl⟩:=id I.loc;have hcls:(X.env.scope.kind==.class||(X.env.scope.kind==.module&&X.env.locals != X.env.globals))=false:=by rw[I.ok.kind];rfl
 have U:i<σ.length:=by rw[I.len];exact (eJ.mp hi).1
 have J:=I.cne;have B:∀ {a:Addr}{G:Heap},(∃ o,s.heap.get? a=some o/\H a=none)->Heap.SameBut a s.heap G->HOk X.prog X.w H G:=λ{a G} ha f b ob e=>by
  obtain⟨_,_,F⟩:=ha;refine (I.hok b ob e).stay (λc R l q=>(f.2 c ?_).trans q) (λ_ q=>q) λ_ _ q=>q;rintro rfl;rcases l with rfl | l
  ·rw[F]at e;cases e
  ·rw[F]at l;cases l
 rcases hx with hk | hk
 ·refine wpAny_storeName_local hk hn (λG hn' f=>?_) hcls;obtain⟨oL,_,_,hoL,_⟩:=id hn;refine h _ ⟨I.ok,I.os,I.bare,⟨λb o e n D hx=>?_,λb o e n D hx=>?_,I.base.free,λb o e hx=>?_,I.base.tups,I.base.frzs,I.base.tbls⟩,⟨_,hn',λj y v' g C e3=>?_⟩,λy c e=>?_,I.free,I.freeC,λp hp=>?_,B ⟨oL,hoL,I.free⟩ f,by simpa using I.len⟩ ⟨_,f,.inl rfl⟩
  ·exact (f.2 b (eO (eV (Heap.lt_size e) I.ok.above))).trans (I.base.keep b o e n D hx)
  ·obtain⟨sl,g⟩:=I.base.slot b o e n D hx;exact⟨sl,(f.2 b (eO (eV (Heap.lt_size e) I.ok.above))).trans g⟩
  ·obtain⟨o',g⟩:=I.base.there b o e hx;exact⟨o',(f.2 b (eO (eV (Heap.lt_size e) I.ok.above))).trans g⟩
  ·by_cases hj:j=i
   ·subst hj;rw[hi]at g;cases g;rw[io U]at C;cases C;exact⟨u,r,.inl ⟨hk,by simp⟩⟩
   ·rw[gU (Ne.symm hj)]at C;obtain⟨u',r',q⟩:=hl j y v' g C e3;refine⟨u',r',?_⟩;rcases q with ⟨k,e⟩ | ⟨k,c,e,z⟩
    ·refine .inl ⟨k,?_⟩
     have:y≠x:=λe=>hj (a9I hN g (e▸hi))
     simp[this,e]
    ·exact .inr ⟨k,c,e,z.sameBut f (J y c e)⟩
  ·obtain⟨R,z⟩:=I.cell y c e;exact⟨R,z.sameBut f (J y c e)⟩
  ·obtain⟨e,n,S,nf,d⟩:=I.pin p hp;exact⟨(f.2 p.1 S).trans e,n,S,nf,d⟩
 ·have L:X.fn x=true:=by
   rcases hf with z | z
   ·exact z
   ·rw[z]at hk;cases hk
  obtain⟨c,l⟩:=I.ok.has x (.inl hk);obtain⟨R,z⟩:=I.cell x c l;refine wpAny_storeName_cell I.ok.kind hk l z (λG Y f=>?_);obtain⟨oc,W,hocd⟩:=id z;refine h { s with heap:=G } ⟨I.ok,I.os,I.bare,⟨λb o e n D hx=>?_,λb o e n D hx=>?_,I.base.free,λb o e hx=>?_,I.base.tups,I.base.frzs,I.base.tbls⟩,⟨m,hn.sameBut f (Ne.symm (J x c l)),λj y v' g C e3=>?_⟩,λy T e=>?_,I.free,I.freeC,λp hp=>?_,B ⟨oc,W,I.freeC x c l⟩ f,by simpa using I.len⟩ ⟨c,f,.inr l⟩
  ·exact (f.2 b (eO (eV (Heap.lt_size e) (I.ok.cab x c L l)))).trans (I.base.keep b o e n D hx)
  ·obtain⟨sl,g⟩:=I.base.slot b o e n D hx;exact⟨sl,(f.2 b (eO (eV (Heap.lt_size e) (I.ok.cab x c L l)))).trans g⟩
  ·obtain⟨o',g⟩:=I.base.there b o e hx;exact⟨o',(f.2 b (eO (eV (Heap.lt_size e) (I.ok.cab x c L l)))).trans g⟩
  ·by_cases hj:j=i
   ·subst hj;rw[hi]at g;cases g;rw[io U]at C;cases C;exact⟨u,r,.inr ⟨.inl hk,c,l,Y⟩⟩
   ·rw[gU (Ne.symm hj)]at C;obtain⟨u',r',q⟩:=hl j y v' g C e3;refine⟨u',r',?_⟩;rcases q with q | ⟨k,T,e,z'⟩
    ·exact .inl q
    ·refine .inr ⟨k,T,e,z'.sameBut f ?_⟩;rintro rfl;exact hj (a9I hN g (I.ok.inj _ _ _ e l▸hi))
  ·by_cases hcc:T=c
   ·subst hcc;exact⟨_,Y⟩
   ·obtain⟨w2,z2⟩:=I.cell y T e;exact⟨w2,z2.sameBut f hcc⟩
  ·obtain⟨e,n,S,nf,d⟩:=I.pin p hp;refine⟨(f.2 p.1 ?_).trans e,n,S,nf,d⟩;intro q;rw[q,W]at e;have q':=ff.inj e;exact d R (by rw[<- q'];exact hocd)
theorem a65 (I:Inv X pins σ H s) (hN:X.N.Nodup) (hi:X.N[i]?=some x) (hx:Loc X.env.scope x) (r:RelV v u)
  (h:∀ s',Inv X pins (σ.set i (some v)) H s'->Q () s') (hf:X.fn x=true\/X.env.scope.names.lookup x=some .local:=by first | exact .inl rfl | exact .inr rfl | assumption):wpAny M A (lu X.env x u) Q E s:=
 a7O I hN hi hx r (λa b _=>h a b) hf
theorem Inv.call' (I:Inv X pins σ H s) (ho:s'.os=s.os) (u:Un (frs X.stack) ch H H' s.heap s'.heap) (hok:HOk X.prog X.w H' s'.heap) (hg:j6 s'.gens)
  (hch:∀ b∈ch,(b∈X.ex\/X.s₀.heap.objs.size<=b)/\b≠X.env.locals/\(∀ x c,X.env.cells.lookup x=some c->c≠b)/\∀ p∈X.pn++pins,p.1≠b):Inv X pins σ H' s':=by
 obtain⟨h',g',d',t',g⟩:=s';have e:=ho;subst e;exact I.call u hok hg hch
end
abbrev XK:=Value->Option Addr->Hp->Prop
abbrev St:=List (Option V)
abbrev VK:=V->Hp->Prop
abbrev TE:=St->Hp->VK->Prop
abbrev TT:=St->Hp->(Bool->Hp->Prop)->Prop
abbrev TA:=St->Hp->(List V->Hp->Prop)->Prop
structure Ends where
 nx:St->Hp->Prop
 rt:VK
 bk:St->Hp->Prop:=λ_ _=>False
 ct:St->Hp->Prop:=λ_ _=>False
abbrev TS:=Ends->St->Hp->Prop
noncomputable def EP (X:Cx) (pins:List (Addr×Obj)) (σ:St) (Q:VK) (u:Value) (s':Shared):Prop:=∃ v H',Inv X pins σ H' s'/\RelV v u/\Q v H'
noncomputable def TP (X:Cx) (pins:List (Addr×Obj)) (σ:St) (Q:Bool->Hp->Prop) (b:Bool) (s':Shared):Prop:=∃ H',Inv X pins σ H' s'/\Q b H'
noncomputable def AP (X:Cx) (pins:List (Addr×Obj)) (σ:St) (Q:List V->Hp->Prop) (us:List Value) (s':Shared):Prop:=∃ vs H',Inv X pins σ H' s'/\Vals vs us/\Q vs H'
noncomputable def SP (X:Cx) (pins:List (Addr×Obj)) (D:Ends) (f:Flow) (s':Shared):Prop:=
 match f with
 | .next=>∃ σ' H',Inv X pins σ' H' s'/\D.nx σ' H'
 | .brk=>∃ σ' H',Inv X pins σ' H' s'/\D.bk σ' H'
 | .cont=>∃ σ' H',Inv X pins σ' H' s'/\D.ct σ' H'
 | .ret u=>∃ v σ' H',Inv X pins σ' H' s'/\RelV v u/\D.rt v H'
noncomputable def PE (X:Cx) (e:Expr) (t:TE):Prop:=
 ∀ (pins:List (Addr×Obj)) (s:Shared) (σ:St) (H:Hp) (Q:VK),Inv X pins σ H s->t σ H Q->wpAny (model X.prog X.w) X.A (eval e X.env) (EP X pins σ Q) X.xe s
noncomputable def PT (X:Cx) (e:Expr) (t:TT):Prop:=
 ∀ (pins:List (Addr×Obj)) (s:Shared) (σ:St) (H:Hp) (Q:Bool->Hp->Prop),Inv X pins σ H s->t σ H Q->wpAny (model X.prog X.w) X.A (isTrue e X.env (eval e X.env)) (TP X pins σ Q) X.xe s
noncomputable def PW (X:Cx) (e:Expr) (t:TT):Prop:=
 ∀ (whole:Sem Value) (pins:List (Addr×Obj)) (s:Shared) (σ:St) (H:Hp) (Q:Bool->Hp->Prop),Inv X pins σ H s->t σ H Q->wpAny (model X.prog X.w) X.A (isTrue e X.env whole) (TP X pins σ Q) X.xe s
theorem PW.pt (h:PW X e t):PT X e t:=h _
noncomputable def PA (X:Cx) (es:List Expr) (t:TA):Prop:=
 ∀ (pos:Pos) (pins:List (Addr×Obj)) (s:Shared) (σ:St) (H:Hp) (Q:List V->Hp->Prop),Inv X pins σ H s->t σ H Q->wpAny (model X.prog X.w) X.A (spliced (backTo pos (jE es X.env))) (AP X pins σ Q) X.xe s
noncomputable def PS (X:Cx) (st:Stmt) (t:TS):Prop:=
 ∀ (pins:List (Addr×Obj)) (s:Shared) (σ:St) (H:Hp) (D:Ends),Inv X pins σ H s->t D σ H->wpAny (model X.prog X.w) X.A (exec st X.env) (SP X pins D) X.xe s
noncomputable def PSs (X:Cx) (st:List Stmt) (t:TS):Prop:=
 ∀ (pins:List (Addr×Obj)) (s:Shared) (σ:St) (H:Hp) (D:Ends),Inv X pins σ H s->t D σ H->wpAny (model X.prog X.w) X.A (execs st X.env) (SP X pins D) X.xe s
theorem thn {α:Type}{t:Sem α}{Q Q':α->Shared->Prop}(h:wpAny M A t Q E s) (hQ:∀ a s,Q a s->Q' a s):wpAny M A t Q' E s:=jP h hQ λ_ _ x=>x
section
variable {X:Cx}
noncomputable def tVar (i:Nat):TE:=fun σ H Q=>∃ v,σ[i]?=some (some v)/\Q v H
noncomputable def tC (v:V):TE:=λ_ H Q=>Q v H
theorem b7e (hN:X.N[i]?=some x) (hv:Vis X.env.scope x) (hd:(x==("__debug__":Str))=false:=by decide) (hcd:(x==("__classdict__":Str))=false:=by decide):PE X (.Name x pos) (tVar i):=by
 intro b s σ H Q I h;obtain⟨v,e,h⟩:=h;obtain⟨m,f,d⟩:=I.loc;obtain⟨u,r,l⟩:=d i x v hN e hv;have a:EP X b σ Q u s:=⟨v,H,I,r,h⟩;rcases l with ⟨hk,hm⟩ | ⟨hk,c,hc,hcell⟩
 ·exact lv (wpAny_loadName_local I.ok.kind hk f hm a) hd
 ·rcases hk with hk | hk
  ·exact lv (wpAny_loadName_cell I.ok.kind hk hc hcell a) hd
  ·exact lv (wpAny_loadName_free I.ok.kind hk hc hcell a hcd) hd
theorem b7f:PE X (.Constant (.int i) j pos) (tC (.int i)):=λ_ _ _ H _ I h=>wpAny_Constant_int ⟨.int i,H,I.tok _,⟨_,rfl⟩,h⟩
theorem b9R:PE X (.Constant (.bool b) j pos) (tC (.bl b)):=λ_ _ _ H _ I h=>Constant_bool ⟨.bl b,H,I,rfl,h⟩
theorem b7g:PE X (.Constant .none j pos) (tC .non):=λ_ _ _ H _ I h=>Constant_none ⟨.non,H,I,rfl,h⟩
theorem b7h:PE X (.Constant (.str x) j pos) (tC (.str x)):=λ_ _ _ H _ I h=>Calls.Constant_str ⟨.str x,H,I.tok _,⟨_,rfl⟩,h⟩
noncomputable def Gl (X:Cx) (x:Str):Prop:=X.env.kindOf x=some .globalImplicit
theorem a66 (I:Inv X pins σ H s) (hg:Gl X x) (hm:X.mg x=some u) (h:Q u s)
  (hd:(x==("__debug__":Str))=false:=by decide):wpAny (model X.prog X.w) X.A (eval (.Name x pos) X.env) Q E s:=
 Calls.Name_function_global I.ok.kind hg (Calls.loadGlobal_global (by rw[I.ok.glob];exact I.mod.glob.keeps I.bk) hm h) hd
theorem a6C (I:Inv X pins σ H s) (hg:Gl X x) (hm:X.mg x=none) (hv:ke x=some u) (h:Q u s)
  (hn:x≠"__name__":=by decide) (hd:(x==("__debug__":Str))=false:=by decide):wpAny (model X.prog X.w) X.A (eval (.Name x pos) X.env) Q E s:=by
 obtain⟨c,b,a⟩:=I.mod.blt;exact Calls.Name_function_global I.ok.kind hg (Calls.loadGlobal_builtin (by rw[I.ok.glob];exact I.mod.glob.keeps I.bk) hm (by rw[I.ok.blt];exact b.keeps I.bk) ((a x hn).trans hv) h) hd
theorem b5D (hg:Gl X x) (hm:X.mg x=some u) (r:RelV v u) (hd:(x==("__debug__":Str))=false:=by decide):PE X (.Name x pos) (tC v):=
 λ_ _ _ H _ I h=>a66 I hg hm ⟨v,H,I,r,h⟩ hd
theorem a81 (hg:Gl X x) (hm:X.mg x=none) (hv:ke x=some u) (r:RelV v u) (hn:x≠"__name__":=by decide) (hd:(x==("__debug__":Str))=false:=by decide):PE X (.Name x pos) (tC v):=
 λ_ _ _ H _ I h=>a6C I hg hm hv ⟨v,H,I,r,h⟩ hn hd
variable {a b:Expr}{ta tb:TE}{pos:Pos}
noncomputable def PC (X:Cx) (op:CmpOp) (a b:Expr) (t:TE):Prop:=
 ∀ (pins:List (Addr×Obj)) (s:Shared) (σ:St) (H:Hp) (Q:VK),Inv X pins σ H s->t σ H Q ->
  wpAny (model X.prog X.w) X.A (eval a X.env) (λv sj=>wpAny (model X.prog X.w) X.A (eval b X.env) (λu sv=>wpAny (model X.prog X.w) X.A (jL op v u) (EP X pins σ Q) X.xe sv) X.xe sj) X.xe s
noncomputable def tB (t:TE):TT:=fun σ H Q=>t σ H λx H1=>∃ c,x=.bl c/\Q c H1
theorem b7i (h:PE X e t) (he:∀ whole,isTrue e X.env whole=(do let v <- whole;j7 e.pos;jV [v] (truthy v)):=by intro _;rfl):PT X e (tB t):=by
 intro a s σ H Q I f;refine isTrue_plain (thn (h a s σ H _ I f) λv j ⟨x,b,i,g,c⟩=>?_) (he _);obtain⟨d,rfl,q⟩:=c;cases g;exact kh ⟨b,i,q⟩
variable {tA tB':TT}{rest:List Expr}
noncomputable def tAnd (t u:TT):TT:=fun σ H Q=>t σ H λc H1=>if c=true then u σ H1 Q else Q false H1
noncomputable def tOr (t u:TT):TT:=fun σ H Q=>t σ H λc H1=>if c=true then Q true H1 else u σ H1 Q
noncomputable def tNot (t:TT):TT:=fun σ H Q=>t σ H λc H1=>Q (!c) H1
theorem b5E (ha:PT X a tA):PW X (.BoolOp .And [a] pos) tA:=by
 intro f b s σ H Q I h;refine isTrue_and (thn (ha b s σ H Q I h) λc d e=>?_);cases c with
 | true=>exact isTrue_and_nil e
 | false=>exact e
theorem b7j (ha:PT X a tA):PW X (.BoolOp .Or [a] pos) tA:=by
 intro f b s σ H Q I h;refine isTrue_or (thn (ha b s σ H Q I h) λc d e=>?_);cases c with
 | false=>exact isTrue_or_nil e
 | true=>exact e
theorem b7k (ha:PT X a tA) (hb:PW X (.BoolOp .And (b::rest) pos) tB'):PW X (.BoolOp .And (a::b::rest) pos) (tAnd tA tB'):=by
 intro j d s σ H Q I h;refine isTrue_and (thn (ha d s σ H _ I h) λc i ⟨e,g,f⟩=>?_);cases c with
 | true=>exact hb j d i σ e Q g f
 | false=>exact⟨e,g,f⟩
theorem b9S (ha:PT X a tA) (hb:PW X (.BoolOp .Or (b::rest) pos) tB'):PW X (.BoolOp .Or (a::b::rest) pos) (tOr tA tB'):=by
 intro j d s σ H Q I h;refine isTrue_or (thn (ha d s σ H _ I h) λc i ⟨g,e,f⟩=>?_);cases c with
 | true=>exact⟨g,e,f⟩
 | false=>exact hb j d i σ g Q e f
theorem b7l (ha:PT X a tA):PT X (.UnaryOp .Not a pos) (tNot tA):=by
 intro b s σ H Q I h;exact isTrue_not (ha b s σ H _ I h)
noncomputable def b9T (ta tb:TE):TE:=fun σ H Q=>ta σ H λx H1=>∃ c,x=.bl c/\if c=true then tb σ H1 Q else Q (.bl false) H1
noncomputable def tOrV (ta tb:TE):TE:=fun σ H Q=>ta σ H λx H1=>∃ c,x=.bl c/\if c=true then Q (.bl true) H1 else tb σ H1 Q
theorem b7m (h:PE X a t):PE X (.BoolOp op [a] pos) t:=λb s σ H Q I c=>BoolOp_one (h b s σ H Q I c)
theorem b7n (ha:PE X a ta) (hb:PE X (.BoolOp .And (b::rest) pos) tb):PE X (.BoolOp .And (a::b::rest) pos) (b9T ta tb):=by
 intro d s σ H Q I h;refine BoolOp_and (thn (ha d s σ H _ I h) λv j ⟨x,f,g,i,e⟩=>?_);obtain⟨c,rfl,e⟩:=e;cases i;refine kh ?_;cases c with
 | true=>exact hb d j σ f Q g e
 | false=>exact⟨.bl false,f,g,rfl,e⟩
theorem b9U (ha:PE X a ta) (hb:PE X (.BoolOp .Or (b::rest) pos) tb):PE X (.BoolOp .Or (a::b::rest) pos) (tOrV ta tb):=by
 intro d s σ H Q I h;refine BoolOp_or (thn (ha d s σ H _ I h) λv i ⟨x,g,f,j,e⟩=>?_);obtain⟨c,rfl,e⟩:=e;cases j;refine kh ?_;cases c with
 | false=>exact hb d i σ g Q f e
 | true=>exact⟨.bl true,g,f,rfl,e⟩
noncomputable def tIf (t:TT) (ta tb:TE):TE:=fun σ H Q=>t σ H λc H1=>if c=true then ta σ H1 Q else tb σ H1 Q
theorem b3t (hc:PT X c tA) (ha:PE X a ta) (hb:PE X b tb):PE X (.IfExp c a b pos) (tIf tA ta tb):=by
 intro e s σ H Q I h;refine wpAny_IfExp (thn (hc e s σ H _ I h) λd j ⟨i,f,g⟩=>?_);cases d with
 | true=>exact ha e j σ i Q f g
 | false=>exact hb e j σ i Q f g
end
noncomputable def SqL (K:Fg) (H:Hp) (a:Addr) (xs:List V):Prop:=
 Rd H a (.lst xs) \/
  ∃ (o:Obj) (its:Array Value) (n:Nat),K.lookup a=some o/\o.cls=.type "list"/\o.dict=none/\o.data=.seq its n/\its.size<=jC/\Vals xs its.toList
noncomputable def SqT (K:Fg) (H:Hp) (a:Addr) (xs:List V):Prop:=
 Rd H a (.tup xs) \/
  ∃ (o:Obj) (its:Array Value) (n:Nat),K.lookup a=some o/\o.cls=.type "tuple"/\o.data=.seq its n/\its.size<=jC/\Vals xs its.toList
noncomputable def absV:Value->Option V
 | .none=>some .non
 | .bool b=>some (.bl b)
 | .int i _=>some (.int i)
 | .str x _=>some (.str x)
 | .bytes b _=>some (.byt b)
 | .float b _=>some (.flt b)
 | .ref a=>some (.ref a)
 | .type n=>some (.ty n)
 | _=>none
theorem RelV.abs (r:RelV x u):absV u=some x:=by
 cases x with
 | non=>cases r;rfl
 | bl _=>cases r;rfl
 | int _=>obtain⟨t,rfl⟩:=r;rfl
 | str _=>obtain⟨t,rfl⟩:=r;rfl
 | byt _=>obtain⟨t,rfl⟩:=r;rfl
 | flt _=>obtain⟨t,rfl⟩:=r;rfl
 | ref _=>cases r;rfl
 | ty _=>cases r;rfl
theorem RelV.inj (r:RelV x u) (q:RelV y u):x=y:=ff.inj (r.abs.symm.trans q.abs)
theorem Vals.inj:∀ {xs ys:List V}{us:List Value},Vals xs us->Vals ys us->xs=ys
 | _,_,_,.nil,.nil=>rfl
 | _,_,_,.cons r t,.cons r' t'=>by rw[r.inj r',Vals.inj t t']
section
variable {X:Cx}{pins:List (Addr×Obj)}{σ:St}{H:Hp}{s:Shared}{a:Addr}{xs ys:List V}
theorem SqL.of {K:Fg}(h:H a=some (.lst xs)):SqL K H a xs:=.inl (.inl h)
theorem SqT.of {K:Fg}(h:H a=some (.tup xs)):SqT K H a xs:=.inl (.inl h)
theorem Inv.list (I:Inv X pins σ H s) (h:SqL X.K H a xs):∃ its:List Value,Vals xs its/\PlainL s.heap a its.toArray/\xs.length<=sizeLine:=by
 rcases h with h | ⟨o,b,n,hk,hc,hd,hs,hz,r⟩
 ·obtain⟨z,b,n,r,e⟩:=h.ok I.hok;exact⟨b,r,⟨_,n,e,rfl,rfl,rfl⟩,z⟩
 ·refine⟨b.toList,r,⟨o,n,I.kIn a o hk,hc,hd,by simpa using hs⟩,?_⟩;have e:=r.length;simp at e;omega
theorem Inv.tuple (I:Inv X pins σ H s) (h:SqT X.K H a xs):∃ its:List Value,Vals xs its/\IsTup s.heap a its.toArray/\xs.length<=sizeLine:=by
 rcases h with h | ⟨o,b,n,hk,hc,hs,hz,r⟩
 ·obtain⟨z,b,r,p⟩:=h.ok I.hok;exact⟨b,r,p,z⟩
 ·refine⟨b.toList,r,⟨o,I.kIn a o hk,hc,n,by simpa using hs⟩,?_⟩;have e:=r.length;simp at e;omega
theorem Inv.list_inj (I:Inv X pins σ H s) (h:SqL X.K H a xs) (h':SqL X.K H a ys):xs=ys:=by
 obtain⟨f,r,⟨o,n,e,_,_,d⟩,_⟩:=I.list h;obtain⟨b,i,⟨j,k,c,_,_,g⟩,_⟩:=I.list h'
 have:f=b:=by grind
 subst this;exact r.inj i
theorem Inv.tuple_inj (I:Inv X pins σ H s) (h:SqT X.K H a xs) (h':SqT X.K H a ys):xs=ys:=by
 obtain⟨f,r,⟨o,e,_,n,d⟩,_⟩:=I.tuple h;obtain⟨b,i,⟨j,c,_,k,g⟩,_⟩:=I.tuple h'
 have:f=b:=by grind
 subst this;exact r.inj i
end
abbrev Cx.wish (X:Cx) (E:Value->Shared->Prop):Cx:={ X with xe:=E }
abbrev Cx.nox (X:Cx):Cx:=X.wish λ_ _=>False
theorem Cx.Ok.wish {X:Cx}(ok:X.Ok) (E:Value->Shared->Prop):(X.wish E).Ok:=
 ⟨ok.mod,ok.kind,ok.glob,ok.blt,ok.above,ok.inj,ok.has,ok.cab,ok.hd,ok.frames,ok.stk,ok.exf,ok.bs,ok.bsz,ok.noex,ok.exfs,ok.funs,ok.frf⟩
theorem Cx.Ok.unwish {X:Cx}(ok:(X.wish E).Ok):X.Ok:=
 ⟨ok.mod,ok.kind,ok.glob,ok.blt,ok.above,ok.inj,ok.has,ok.cab,ok.hd,ok.frames,ok.stk,ok.exf,ok.bs,ok.bsz,ok.noex,ok.exfs,ok.funs,ok.frf⟩
section
variable {X:Cx}{pins:List (Addr×Obj)}{σ:St}{H:Hp}{s:Shared}{E:Value->Shared->Prop}
theorem Inv.wish (I:Inv X pins σ H s) (E:Value->Shared->Prop):Inv (X.wish E) pins σ H s:=⟨I.ok.wish E,I.os,I.bare,I.base,I.loc,I.cell,I.free,I.freeC,I.pin,I.hok,I.len⟩
theorem Inv.unwish (I:Inv (X.wish E) pins σ H s):Inv X pins σ H s:=⟨I.ok.unwish,I.os,I.bare,I.base,I.loc,I.cell,I.free,I.freeC,I.pin,I.hok,I.len⟩
theorem SP.unwish (h:SP (X.wish E) pins D f s'):SP X pins D f s':=by
 cases f with
 | next=>obtain⟨σ',H',I,q⟩:=h;exact⟨σ',H',I.unwish,q⟩
 | brk=>obtain⟨σ',H',I,q⟩:=h;exact⟨σ',H',I.unwish,q⟩
 | cont=>obtain⟨σ',H',I,q⟩:=h;exact⟨σ',H',I.unwish,q⟩
 | ret u=>obtain⟨v,σ',H',I,r,q⟩:=h;exact⟨v,σ',H',I.unwish,r,q⟩
theorem PE.nox (h:PE X.nox e t):PE X e t:=λa s σ H Q I d=>
 jP (h a s σ H Q (I.wish _) d) (λ_ _ ⟨v,b,c,r,q⟩=>⟨v,b,c.unwish,r,q⟩) λ_ _ z=>eC z
theorem PT.nox (h:PT X.nox e t):PT X e t:=λa s σ H Q I d=>
 jP (h a s σ H Q (I.wish _) d) (λ_ _ ⟨c,b,q⟩=>⟨c,b.unwish,q⟩) λ_ _ z=>eC z
theorem PSs.nox {st:List Stmt}(h:PSs X.nox st t):PSs X st t:=λa s σ H D I b=>
 jP (h a s σ H D (I.wish _) b) (λ_ _ q=>q.unwish) λ_ _ z=>eC z
end
section
variable {X:Cx}{st:Stmt}{rest:List Stmt}{t u:TS}{e:Expr}{te:TE}{pos:Pos}
noncomputable def b9V:TS:=λD σ H=>D.nx σ H
noncomputable def tSeq (t u:TS):TS:=λD σ H=>t { D with nx:=u D } σ H
theorem b5F:PSs X [] b9V:=λ_ _ σ H _ I h=>kQ ⟨σ,H,I,h⟩
theorem a9J (h1:PS X st t) (h2:PSs X rest u):PSs X (st::rest) (tSeq t u):=by
 intro a s σ H D I h;refine wpAny_execs_cons (thn (h1 a s σ H { D with nx:=u D } I h) λf b q=>?_);cases f with
 | next=>
  obtain⟨σ',H',I',q⟩:=q;exact h2 a b σ' H' D I' q
 | ret v=>exact q
 | brk=>exact q
 | cont=>exact q
theorem b5G (h1:PS X st t):PSs X [st] t:=by
 intro a s σ H D I h;refine wpAny_execs_cons (thn (h1 a s σ H D I h) λf b q=>?_);cases f with
 | next=>exact kQ q
 | ret v=>exact q
 | brk=>exact q
 | cont=>exact q
theorem Inv.quiet (I:Inv X pins σ H s):interactive X.env=false:=by simp[interactive,I.ok.kind]
noncomputable def b9W (te:TE):TS:=λD σ H=>te σ H λ_ H1=>D.nx σ H1
theorem b5H (he:PE X e te) (hs:kf e none pos.line X.env=pure false:=by rfl):PS X (.Expr e pos) (b9W te):=by
 intro a s σ H D I h;exact wpAny_Expr_any (thn (he a s σ H _ I h) λv f ⟨x,d,c,g,b⟩=>⟨σ,d,c,b⟩) I.quiet hs
noncomputable def tRet (te:TE):TS:=λD σ H=>te σ H D.rt
theorem b7o (he:PE X e te):PS X (.Return (some e) pos) (tRet te):=by
 intro a s σ H D I h;exact wpAny_Return_some (thn (he a s σ H _ I h) λv g ⟨x,c,b,f,d⟩=>⟨x,σ,c,b,f,d⟩)
noncomputable def tIfS (c:TT) (t u:TS):TS:=λD σ H=>c σ H λb H1=>if b=true then t D σ H1 else u D σ H1
theorem b9X (hc:PT X c tc) (ha:PSs X a t) (hb:PSs X b u):PS X (.If c a b pos) (tIfS tc t u):=by
 intro e s σ H D I h;refine wpAny_If (thn (hc e s σ H _ I h) λd f ⟨g,i,j⟩=>?_);cases d with
 | true=>exact ha e f σ g D i j
 | false=>exact hb e f σ g D i j
end
abbrev TG:=V->St->Hp->(St->Hp->Prop)->Prop
abbrev TGs:=List V->St->Hp->(St->Hp->Prop)->Prop
noncomputable def PG (X:Cx) (target:Expr) (t:TG):Prop:=
 ∀ (pins:List (Addr×Obj)) (s:Shared) (σ:St) (H:Hp) (v:V) (u:Value) (Q:St->Hp->Prop),Inv X pins σ H s->RelV v u->t v σ H Q ->
  wpAny (model X.prog X.w) X.A (assign target X.env u) (λ_ s'=>∃ σ' H',Inv X pins σ' H' s'/\Q σ' H') X.xe s
noncomputable def PGs (X:Cx) (ts:List Expr) (t:TGs):Prop:=
 ∀ (pins:List (Addr×Obj)) (s:Shared) (σ:St) (H:Hp) (vs:List V) (us:List Value) (Q:St->Hp->Prop),Inv X pins σ H s->Vals vs us->t vs σ H Q ->
  wpAny (model X.prog X.w) X.A (assignInOrder ((kg ts X.env).map (·.2)) us) (λ_ s'=>∃ σ' H',Inv X pins σ' H' s'/\Q σ' H') X.xe s
abbrev TSet:=V->V->V->Hp->(Hp->Prop)->Prop
noncomputable def PSet (X:Cx) (t:TSet):Prop:=
 ∀ (pins:List (Addr×Obj)) (s:Shared) (σ:St) (H:Hp) (o i v:V) (ov iv u:Value) (Q:Hp->Prop),Inv X pins σ H s->RelV o ov->RelV i iv->RelV v u->t o i v H Q ->
  wpAny (model X.prog X.w) X.A (kR ov iv u) (λ_ s'=>∃ H',Inv X pins σ H' s'/\Q H') X.xe s
abbrev TIp:=V->V->Hp->VK->Prop
noncomputable def PIp (X:Cx) (op:Operator) (t:TIp):Prop:=
 ∀ (pins:List (Addr×Obj)) (s:Shared) (σ:St) (H:Hp) (x y:V) (v u:Value) (Q:VK),Inv X pins σ H s->RelV x v->RelV y u->t x y H Q ->
  wpAny (model X.prog X.w) X.A (ki op v u) (EP X pins σ Q) X.xe s
section
variable {X:Cx}{pos:Pos}
noncomputable def b1j (i:Nat):TG:=λv σ H Q=>Q (σ.set i (some v)) H
theorem a0p (hN:X.N.Nodup) (hi:X.N[i]?=some x) (hx:Loc X.env.scope x) (hf:X.fn x=true\/X.env.scope.names.lookup x=some .local:=by first | exact .inl rfl | exact .inr rfl | assumption):PG X (.Name x pos) (b1j i):=by
 intro b s σ H v u Q I r h;exact wpAny_assign_Name (a65 I hN hi hx r (λc a=>⟨_,H,a,h⟩) hf)
noncomputable def gNil:TGs:=λvs σ H Q=>vs=[]/\Q σ H
noncomputable def b7p (t:TG) (u:TGs):TGs:=λvs σ H Q=>∃ v r,vs=v::r/\t v σ H fun σ' H'=>u r σ' H' Q
theorem a2v:PGs X [] gNil:=by
 intro a s σ H b c Q I r h;obtain⟨e,h⟩:=h;subst e;exact assignInOrder_nil ⟨σ,H,I,h⟩
theorem a0y (h1:PG X e t) (h2:PGs X es u)
  (hs:(kg (e::es) X.env).map (·.2)=assign e X.env::(kg es X.env).map (·.2):=by rfl):PGs X (e::es) (b7p t u):=by
 intro a s σ H k i Q I r h;obtain⟨v,j,g,h⟩:=h;subst g;cases r with
 | cons r rr=>
  rw[hs];refine assignInOrder_cons (thn (h1 a s σ H _ _ _ I r h) λ_ f ⟨σ1,d,b,c⟩=>?_);exact h2 a f σ1 d _ _ Q b rr c
noncomputable def gTup (K:Fg) (n:Nat) (t:TGs):TG:=λv σ H Q=>∃ a xs,v=.ref a/\SqT K H a xs/\xs.length=n/\t xs σ H Q
theorem a36 (hc:X.calm=true) (h:PGs X es t)
  (hn:(kg es X.env).length=n:=by rfl) (hst:(kg es X.env).findIdx? (·.1)=none:=by rfl):PG X (.Tuple es k pos) (gTup X.K n t):=by
 intro c s σ H v u Q I r d;obtain⟨a,i,q,m,l,d⟩:=d;subst q;cases r;obtain⟨x,f,p,y⟩:=I.tuple m;refine assign_Tuple_tuple (I.ok.hd hc) p (by simp[hn,<- l,f.length]) hst λw j=>?_;have g:=I.kept (t':=s.toks) λb o e=>j b o (eO (Heap.lt_size e)) e;exact h c _ σ H i _ Q g (by omega) d
noncomputable def gSub (to ti:TE) (t:TSet):TG:=λv σ H Q=>to σ H λo H1=>ti σ H1 λi H2=>t o i v H2 λH3=>Q σ H3
theorem b7q (ho:PE X o to) (hi:PE X i ti) (hs:PSet X t)
  (ha:∀ v,assign (.Subscript o i pos) X.env v=(do
   let ov <- jV [v] (eval o X.env)
   let iv <- jV [v,ov] (eval i X.env)
   j7 pos
   jV [v,ov,iv] (kR ov iv v)
   release [v,ov,iv] []):=by intro _;rfl):PG X (.Subscript o i pos) (gSub to ti t):=by
 intro a s σ H v u Q I r h;rw[ha];refine jB (jY (thn (ho a s σ H _ I h) λl n ⟨x,c,e,g,p⟩=>?_));refine jB (jY (thn (hi a n σ c _ e p) λm q ⟨y,f,w,b,k⟩=>?_));refine jB (lz (jB (jY (thn (hs a q σ f x y v l m u _ w g b r k) λ_ A ⟨j,z,d⟩=>?_))));exact wpAny_release ⟨σ,j,z,d⟩
noncomputable def tAsg (te:TE) (g:TG):TS:=λD σ H=>te σ H λx H1=>g x σ H1 D.nx
theorem b4Q (he:PE X e te) (hg:PG X tg g) (hs:lA [tg] e pos.line X.env=pure false:=by rfl) (hw:lB [tg] e X.env=pure none:=by rfl)
  (h1:(kg [tg] X.env).map (·.2)=[assign tg X.env]:=by rfl):PS X (.Assign [tg] e pos) (tAsg te g):=by
 intro a s σ H D I h;refine wpAny_Assign_stores (thn (he a s σ H _ I h) λv c ⟨x,d,b,i,f⟩=>?_) hs hw;rw[h1];exact thn (hg a c σ d x v _ b i f) λ_ j q=>q
theorem b7r (hN:X.N.Nodup) (hi:X.N[i]?=some x) (hx:Loc X.env.scope x) (he:PE X e te) (hs:kf e (some (.Name x pos')) pos.line X.env=pure false:=by rfl) (hf:X.fn x=true\/X.env.scope.names.lookup x=some .local:=by first | exact .inl rfl | exact .inr rfl | assumption) :
  PS X (.Assign [.Name x pos'] e pos) (tAsg te (b1j i)):=by
 intro a s σ H D I h;refine wpAny_Assign_Name (thn (he a s σ H _ I h) λv j ⟨y,f,d,c,g⟩=>?_) hs;exact a65 d hN hi hx c (λk b=>⟨_,f,b,g⟩) hf
noncomputable def tAug (i:Nat) (te:TE) (ti:TIp):TS:=λD σ H=>∃ x,σ[i]?=some (some x)/\te σ H λy H1=>ti x y H1 λz H2=>D.nx (σ.set i (some z)) H2
theorem b7s (hN:X.N.Nodup) (hi:X.N[i]?=some x) (hx:Loc X.env.scope x) (he:PE X e te) (ho:PIp X op ti) (hf:X.fn x=true\/X.env.scope.names.lookup x=some .local:=by first | exact .inl rfl | exact .inr rfl | assumption) :
  PS X (.AugAssign (.Name x pos') op e pos) (tAug i te ti):=by
 intro a s σ H D I h;obtain⟨v,f,h⟩:=h;obtain⟨m,g,j⟩:=I.loc;have b:Vis X.env.scope x:=by rcases hx with k | k;exact .inl k;exact .inr (.inl k)
 obtain⟨u,r,l⟩:=j i x v hi f b;refine wpAny_AugAssign_Name ?_;have d:wpAny (model X.prog X.w) X.A (eval e X.env) (λw B=>wpAny (model X.prog X.w) X.A (ki op u w) (λr G=>wpAny (model X.prog X.w) X.A (lu X.env x r) (λ_=>SP X a D .next) X.xe G) X.xe B) X.xe s:=by
  refine thn (he a s σ H _ I h) λw C ⟨y,n,p,F,t⟩=>?_;refine thn (ho a C σ n v y u w _ p r F t) λz Q ⟨M,E,o,L,J⟩=>?_;exact a65 o hN hi hx L (λR q=>⟨_,E,q,J⟩) hf
 rcases l with ⟨hk,hm⟩ | ⟨hk,c,hc,hcell⟩
 ·exact wpAny_loadName_local I.ok.kind hk g hm d
 ·rcases hk with hk | hk
  ·exact wpAny_loadName_cell I.ok.kind hk hc hcell d
  ·rcases hx with k | k
   ·have:X.env.scope.names.lookup x=some .free:=hk
    rw[k]at this;cases this
   ·have:X.env.scope.names.lookup x=some .free:=hk
    rw[k]at this;cases this
end
section
variable {X:Cx}{pos:Pos}
noncomputable def b7t (c:TT) (tb:TS):TS:=λD σ H=>∃ W:Nat->St->Hp->Prop,(∃ m,W m σ H)/\∀ m σ H,W m σ H ->
 c σ H λb H1=>if b=true then ∃ N:St->Hp->Prop,(∀ σ' H',N σ' H'->∃ m',m'<m/\W m' σ' H')/\tb { D with nx:=N,ct:=N,bk:=D.nx } σ H1 else D.nx σ H1
theorem b3u (hp:jQ (model X.prog X.w) X.A X.env X.xe) (hc:PT X c tc) (hb:PSs X body tb):PS X (.While c body [] pos) (b7t tc tb):=by
 intro a s σ H D I h;obtain⟨W,⟨z,y⟩,g⟩:=h;refine wpAny_While (codeAny_whileLoop (λn t=>∃ σ' H',Inv X a σ' H' t/\W n σ' H') ?_ z ⟨σ,H,I,y⟩);rintro n x ⟨σ1,q,r,u⟩;refine kj hp (thn (hc a x σ1 q _ r (g n σ1 q u)) λb B ⟨o,m,e⟩=>?_);cases b with
 | true=>
  obtain⟨N,p,e⟩:=e;refine kj hp (thn (hb a B σ1 o _ m e) λf C d=>?_);cases f with
  | next=>
   obtain⟨σ3,H3,I3,k⟩:=d;obtain⟨j,l,i⟩:=p σ3 H3 k;exact⟨j,l,σ3,H3,I3,i⟩
  | cont=>
   obtain⟨σ3,H3,I3,k⟩:=d;obtain⟨j,l,i⟩:=p σ3 H3 k;exact⟨j,l,σ3,H3,I3,i⟩
  | brk=>exact d
  | ret v=>exact d
 | false=>
  exact kQ ⟨σ1,o,m,e⟩
end
structure It where
 go:Nat->Hp->Prop
 yld:Nat->Hp->V->Hp->Prop
 stop:Nat->Hp->Prop
noncomputable def FpOk (X:Cx) (pins:List (Addr×Obj)) (H:Hp) (b:Addr):Prop:=
 H b=none/\b≠X.env.locals/\b∉X.fs/\(b∈X.ex\/X.s₀.heap.objs.size<=b)/\(∀ x c,X.env.cells.lookup x=some c->c≠b)/\∀ p∈X.pn++pins,p.1≠b
theorem Inv.fpOk (I:Inv X pins σ H s) (hb:s.heap.objs.size<=b) (hn:H' b=none):FpOk X pins H' b:=by
 refine⟨hn,gX (eV I.lt hb),I.nofs hb,.inr (eM I.sz hb),λx c e z=>?_,λp a z=>?_⟩
 ·obtain⟨v,q⟩:=I.cell x c e;exact absurd (eV q.lt (by simp_all)) (e9 _)
 ·exact absurd (eV (Heap.lt_size (I.pin p a).1) (by simp_all)) (e9 _)
structure Turn (P:jH) (w:World) (K:Fg) (tg:Expr) (J:It) (fp:List Addr) (it:Addr) (tn:Nat->Heap->Prop):Prop where
 mem:it∈fp
 obj:∀ i h,tn i h->∀ b∈fp,∃ o,h.get? b=some o/\∀ v,o.data≠.cell v
 keep:∀ i h h',tn i h->(∀ b∈fp,∀ o,h.get? b=some o->h'.get? b=some o)->tn i h'
 item:∀ (X:Cx),X.prog=P->X.w=w->X.K=K->X.calm=true->∀ (i:Nat) (pins:List (Addr×Obj)) (s:Shared) (σ:St) (H:Hp) (E:Value->Shared->Prop),Inv X pins σ H s->(∀ b∈fp,FpOk X pins H b)->tn i s.heap->J.go i H ->
  wpAny (model P w) X.A (pyNext (.ref it)) (λr s1=>∃ u,r=some u /\
   wpAny (model P w) X.A (lC tg (.ref it) u) (λ_ s2=>∃ x H',Inv X pins σ H' s2/\RelV x u/\J.yld i H x H'/\tn (i+1) s2.heap/\∀ b∈fp,H' b=none) E s1) E s
 done:∀ (X:Cx),X.prog=P->X.w=w->X.K=K->X.calm=true->∀ (i:Nat) (pins:List (Addr×Obj)) (s:Shared) (σ:St) (H:Hp) (E:Value->Shared->Prop),Inv X pins σ H s->(∀ b∈fp,FpOk X pins H b)->tn i s.heap->J.stop i H ->
  wpAny (model P w) X.A (pyNext (.ref it)) (λr s1=>r=none/\Inv X pins σ H s1) E s
 self:∀ (A:Around) (i:Nat) (s:Shared) (Q:Value->Shared->Prop) (E:Value->Shared->Prop),tn i s.heap->Q (.ref it) s->wpAny (model P w) A (pyIter (.ref it)) Q E s
abbrev TI:=St->Hp->(It->Hp->Prop)->Prop
noncomputable def PIE (X:Cx) (pins:List (Addr×Obj)) (σ:St) (tg:Expr) (R:It->Hp->Prop) (itv:Value) (s2:Shared):Prop:=
 ∃ (it:Addr) (fp:List Addr) (tn:Nat->Heap->Prop) (J:It) (H':Hp),itv=.ref it/\Inv X pins σ H' s2/\Turn X.prog X.w X.K tg J fp it tn/\tn 0 s2.heap/\(∀ b∈fp,FpOk X pins H' b)/\R J H'
noncomputable def PI (X:Cx) (tg iter:Expr) (wi:TI):Prop:=
 ∀ (pins:List (Addr×Obj)) (s:Shared) (σ:St) (H:Hp) (R:It->Hp->Prop),Inv X pins σ H s->wi σ H R ->
  wpAny (model X.prog X.w) X.A (eval iter X.env) (λv s1=>wpAny (model X.prog X.w) X.A (pyIter v) (PIE X pins σ tg R) X.xe s1) X.xe s
theorem b0A (ho:s.heap.get? it=some o) (hc:o.cls=.type n) (hd:o.data=.fields vs)
    (hn:["enumerate","zip","dict_itemiterator","dict_reverseitemiterator","odict_iterator","itertools.zip_longest","itertools.pairwise"].contains n=false) (hQ:Q () s):wpAny M A (lC tg (.ref it) u) Q E s:=by
  cases tg<;>first
    | exact jK hQ
    | (cases u<;>first
        | exact jK hQ
        | (refine jB (wpAny_load ho ?_)
           rw[hc,hd]
           show wpAny M A (if _=true then _ else _) Q E s
           rw[if_neg (by grind)];exact jK hQ))
noncomputable def Itl (K:Fg) (a:Addr):It:=
 ⟨λi H=>∃ xs x,SqL K H a xs/\xs[i]?=some x,λi H x H'=>H'=H/\∀ xs,SqL K H a xs->xs[i]?=some x,λi H=>∃ xs,SqL K H a xs/\xs.length<=i⟩
noncomputable def Itt (K:Fg) (a:Addr):It:=
 ⟨λi H=>∃ xs x,SqT K H a xs/\xs[i]?=some x,λi H x H'=>H'=H/\∀ xs,SqT K H a xs->xs[i]?=some x,λi H=>∃ xs,SqT K H a xs/\xs.length<=i⟩
noncomputable def Itr (lo:Int) (n:Nat):It:=⟨λi _=>i<n,λi H x H'=>H'=H/\x=.int (lo+i),λi _=>n<=i⟩
theorem b1k {P:jH}{w:World}{K:Fg}{tg:Expr}(a it:Addr):Turn P w K tg (Itl K a) [it] it (λi h=>h.IsListIter it a i) where
 mem:=by simp
 obj:=λi h st b hb=>by
  have e:b=it:=by simpa using hb
  subst e;obtain⟨o,e,c,d⟩:=st;exact⟨o,e,λv z=>by rw[d]at z;cases z⟩
 keep:=λi h h' st k=>st.at λo e=>k it (by simp) o e
 item:=by
  intro X hP hw hK hc i pins s σ H E I hf st hg;subst hP hw hK;obtain⟨xs,x,hq,hx⟩:=hg;obtain⟨its,rv,p,hz⟩:=I.list hq;obtain⟨u,hu,ru⟩:=rv.get hx;obtain⟨f0,f1,f2,f3,f4,f5⟩:=hf it (by simp);refine wpAny_pyNext_list_item st p.isList (x:=u) (by simpa using hu) λh' st' sb=>?_;have I1:Inv X pins σ H { s with heap:=h' }:=I.turned (t':=s.toks) (λb o hb e=>(sb.2 b hb).trans e) f0 f1 f3 f4 f5;obtain⟨o,e,c,d⟩:=id st';exact⟨u,rfl,b0A (s:={ s with heap:=h' }) e c d (by decide) ⟨x,H,I1,ru,⟨rfl,λys hy=>by rw[I.list_inj hy hq];exact hx⟩,st',λb hb=>(hf b hb).1⟩⟩
 done:=by
  intro X hP hw hK hc i pins s σ H E I hf st hg;subst hP hw hK;obtain⟨xs,hq,hx⟩:=hg;obtain⟨its,rv,p,hz⟩:=I.list hq;obtain⟨f0,f1,f2,f3,f4,f5⟩:=hf it (by simp);have hl:=rv.length;exact wpAny_pyNext_list_end (I.ok.hd hc) st p.isList (by simp;omega) λh' eb=>⟨rfl,I.turned (t':=s.toks) (λb o hb e=>eb b o hb e) f0 f1 f3 f4 f5⟩
 self:=λ_ _ _ _ _ st h=>wpAny_pyIter_listiter st h
theorem b0B {P:jH}{w:World}{K:Fg}{tg:Expr}(a it:Addr):Turn P w K tg (Itt K a) [it] it (λi h=>h.IsTupleIter it a i) where
 mem:=by simp
 obj:=λi h st b hb=>by
  have e:b=it:=by simpa using hb
  subst e;obtain⟨o,e,c,d⟩:=st;exact⟨o,e,λv z=>by rw[d]at z;cases z⟩
 keep:=λi h h' st k=>st.at λo e=>k it (by simp) o e
 item:=by
  intro X hP hw hK hc i pins s σ H E I hf st hg;subst hP hw hK;obtain⟨xs,x,hq,hx⟩:=hg;obtain⟨its,rv,p,hz⟩:=I.tuple hq;obtain⟨u,hu,ru⟩:=rv.get hx;obtain⟨f0,f1,f2,f3,f4,f5⟩:=hf it (by simp);refine wpAny_pyNext_tuple_item st (show s.heap.IsTuple a its.toArray from p) (x:=u) (by simpa using hu) λh' st' sb=>?_;have I1:Inv X pins σ H { s with heap:=h' }:=I.turned (t':=s.toks) (λb o hb e=>(sb.2 b hb).trans e) f0 f1 f3 f4 f5;obtain⟨o,e,c,d⟩:=id st';exact⟨u,rfl,b0A (s:={ s with heap:=h' }) e c d (by decide) ⟨x,H,I1,ru,⟨rfl,λys hy=>by rw[I.tuple_inj hy hq];exact hx⟩,st',λb hb=>(hf b hb).1⟩⟩
 done:=by
  intro X hP hw hK hc i pins s σ H E I hf st hg;subst hP hw hK;obtain⟨xs,hq,hx⟩:=hg;obtain⟨its,rv,p,hz⟩:=I.tuple hq;obtain⟨f0,f1,f2,f3,f4,f5⟩:=hf it (by simp);have hl:=rv.length;exact wpAny_pyNext_tuple_end (I.ok.hd hc) st (show s.heap.IsTuple a its.toArray from p) (by simp;omega) λh' eb=>⟨rfl,I.turned (t':=s.toks) (λb o hb e=>eb b o hb e) f0 f1 f3 f4 f5⟩
 self:=λ_ _ _ _ _ st h=>wpAny_pyIter_tupleiter st h
theorem b0C {P:jH}{w:World}{K:Fg}{tg:Expr}(it:Addr) (lo:Int) (n:Nat):Turn P w K tg (Itr lo n) [it] it (λi h=>IsRangeIter h it (lo+(i:Nat)*1) ((n:Int) - (i:Nat)) 1) where
 mem:=by simp
 obj:=λi h st b hb=>by
  have e:b=it:=by simpa using hb
  subst e;exact⟨_,st,λv z=>by
   have z':Data.fields _=Data.cell v:=z;cases z'⟩
 keep:=λi h h' st k=>k it (by simp) _ st
 item:=by
  intro X hP hw hK hc i pins s σ H E I hf st hg;subst hP hw hK;obtain⟨f0,f1,f2,f3,f4,f5⟩:=hf it (by simp);have W:=Walks.range (prog:=X.prog) (w:=X.w) (I.ok.hd hc) it lo 1 n;refine W.item i s _ _ hg st λv h' tk hv st' kk=>?_;obtain⟨t,rfl⟩:=hv;have I1:Inv X pins σ H { s with heap:=h',toks:=tk }:=I.turned (λb o hb e=>kk b o (by simpa using hb) e) f0 f1 f3 f4 f5;refine⟨_,rfl,b0A (s:={ s with heap:=h',toks:=tk }) (n:="range_iterator") st' rfl rfl (by decide) ⟨.int (lo+i),H,I1,⟨t,?_⟩,⟨rfl,rfl⟩,st',λb hb=>(hf b hb).1⟩⟩;rw[Int.mul_one]
 done:=by
  intro X hP hw hK hc i pins s σ H E I hf st hg;subst hP hw hK;obtain⟨f0,f1,f2,f3,f4,f5⟩:=hf it (by simp);exact wpAny_pyNext_range_end (I.ok.hd hc) st (by have:n<=i:=hg;omega) λh' eb=>⟨rfl,I.turned (t':=s.toks) (λb o hb e=>eb b o hb e) f0 f1 f3 f4 f5⟩
 self:=λ_ _ _ _ _ st h=>wpAny_pyIter_rangeiter st h
section
variable {X:Cx}{tg:Expr}
noncomputable def b9Y (K:Fg) (tl:TE):TI:=fun σ H R=>tl σ H λx H1=>∃ a,x=.ref a/\(∃ xs,SqL K H1 a xs)/\R (Itl K a) H1
noncomputable def iTup (K:Fg) (tl:TE):TI:=fun σ H R=>tl σ H λx H1=>∃ a,x=.ref a/\(∃ xs,SqT K H1 a xs)/\R (Itt K a) H1
theorem b5I (hl:PE X l tl):PI X tg l (b9Y X.K tl):=by
 intro f s σ H R I h;refine thn (hl f s σ H _ I h) λv d ⟨x,m,c,g,i⟩=>?_;obtain⟨a,e,⟨r,j⟩,q⟩:=i;subst e;cases g;obtain⟨n,u,p,t⟩:=c.list j;refine lD p.isList ?_;refine⟨d.heap.objs.size,[d.heap.objs.size],_,_,m,rfl,c.kept λb o e=>Heap.get?_push_of_some _ e,b1k a _,⟨_,Heap.get?_push_size _ rfl,rfl,rfl⟩,λb k=>?_,q⟩;have e:b=d.heap.objs.size:=by simp_all
 subst e;exact c.fpOk (eB _) (c.hok.fresh (eB _))
theorem b7u (hl:PE X l tl):PI X tg l (iTup X.K tl):=by
 intro f s σ H R I h;refine thn (hl f s σ H _ I h) λv c ⟨x,m,d,k,j⟩=>?_;obtain⟨a,e,⟨u,n⟩,q⟩:=j;subst e;cases k;obtain⟨g,t,p,r⟩:=d.tuple n;refine wpAny_pyIter_tuple (p) ?_;refine⟨c.heap.objs.size,[c.heap.objs.size],_,_,m,rfl,d.kept λb o e=>Heap.get?_push_of_some _ e,b0B a _,⟨_,Heap.get?_push_size _ rfl,rfl,rfl⟩,λb i=>?_,q⟩;have e:b=c.heap.objs.size:=by simp_all
 subst e;exact d.fpOk (eB _) (d.hok.fresh (eB _))
theorem a9K {lo hi:Int}(I:Inv X pins σ H s) (h1:-(2 ^ 62)<=lo) (h2:lo<2 ^ 62) (h3:-(2 ^ 62)<=hi) (h4:hi<2 ^ 62)
  (q:R (Itr lo (hi - lo).toNat) H):wpAny (model X.prog X.w) X.A (pyIter (.ref s.heap.objs.size)) (PIE X pins σ tg R) E { s with heap:=s.heap.push { cls:=.type "range",data:=.fields #[.int lo t,.int hi u,.int 1 v] },toks:=tk }:=by
 refine wpAny_pyIter_range (IsRange.new ..) (small_one h1 h2 h3 h4) ?_;have a:Inv X pins σ H { s with heap:=s.heap.push { cls:=.type "range",data:=.fields #[.int lo t,.int hi u,.int 1 v] },toks:=tk }:=I.kept λb o e=>Heap.get?_push_of_some _ e;refine⟨(s.heap.push { cls:=.type "range",data:=.fields #[.int lo t,.int hi u,.int 1 v] }).objs.size,[(s.heap.push { cls:=.type "range",data:=.fields #[.int lo t,.int hi u,.int 1 v] }).objs.size],_,_,H,rfl,
  a.kept λb o e=>Heap.get?_push_of_some _ e,b0C _ lo (hi - lo).toNat,?_,λb d=>?_,q⟩
 ·have c:lo+((0:Nat))*1=lo:=by simp
  have f:(((hi - lo).toNat)) - ((0:Nat))=jO.Range.rangeSize lo hi 1:=by rw[rangeSize_one];split<;>omega
  rw[c,f];exact Heap.get?_push_size _ rfl
 ·have e:b=(s.heap.push { cls:=.type "range",data:=.fields #[.int lo t,.int hi u,.int 1 v] }).objs.size:=by simpa using d
  subst e;exact a.fpOk (eB _) (a.hok.fresh (eB _))
noncomputable def b7v (ta:TA):TI:=fun σ H R=>ta σ H λvs H1=>∃ j:Int,vs=[.int j]/\-(2 ^ 62)<=j/\j<2 ^ 62/\R (Itr 0 j.toNat) H1
noncomputable def b7w (ta:TA):TI:=fun σ H R=>ta σ H λvs H1=>∃ i j:Int,vs=[.int i,.int j]/\(-(2 ^ 62)<=i/\i<2 ^ 62/\-(2 ^ 62)<=j/\j<2 ^ 62)/\R (Itr i (j - i).toNat) H1
theorem b1l (hg:Gl X "range") (hm:X.mg "range"=none) (ha:PA X [a] ta) (hs:jE [a] X.env=[(false,eval a X.env)]:=by rfl):PI X tg (.Call (.Name "range" p) [a] [] pos) (b7v ta):=by
 intro b s σ H R I h;refine Call_ (a6C I hg hm boot_range (PyProof.Rows.callWith_type1 (thn (ha pos b s σ H _ I h) λl k ⟨i,m,d,f,c⟩=>?_) hs rfl));obtain⟨j,e,c,g,q⟩:=c;subst e;cases f with
 | cons r rr=>
  cases rr;obtain⟨t,rfl⟩:=r;exact call_range_1 (a9K d (by simp) (by simp) c g (by grind))
theorem b1m (hg:Gl X "range") (hm:X.mg "range"=none) (ha:PA X [a,b] ta) (hs:jE [a,b] X.env=[(false,eval a X.env),(false,eval b X.env)]:=by rfl) (hs2:jE [b] X.env=[(false,eval b X.env)]:=by rfl) :
  PI X tg (.Call (.Name "range" p) [a,b] [] pos) (b7w ta):=by
 intro d s σ H R I h;refine Call_ (a6C I hg hm boot_range (PyProof.Rows.callWith_type1 (thn (ha pos d s σ H _ I h) λo v ⟨w,u,l,f,c⟩=>?_) (by simp_all) (by rw[hs2];rfl)));obtain⟨i,j,e,⟨c,m,k,g⟩,q⟩:=c;subst e;cases f with
 | cons r rr=>
  cases rr with
  | cons r' rr=>
   cases rr;obtain⟨t,rfl⟩:=r;obtain⟨n,rfl⟩:=r';exact call_range_2 (a9K l c m k g q)
noncomputable def tFor (wi:TI) (g:TG) (tb:TS):TS:=λD σ H=>wi σ H λJ H1=>∃ W:Nat->Nat->St->Hp->Prop,(∃ m,W 0 m σ H1)/\∀ i m σ H,W i m σ H ->
 (J.stop i H/\D.nx σ H)\/(J.go i H/\∃ N:St->Hp->Prop,(∀ σ' H',N σ' H'->∃ m',m'<m/\W (i+1) m' σ' H')/\∀ x H',J.yld i H x H'->g x σ H' fun σ2 H2=>tb { D with nx:=N,ct:=N,bk:=D.nx } σ2 H2)
noncomputable def a9L (fp:List Addr) (h:Heap):List (Addr×Obj):=fp.filterMap λb=>(h.get? b).map λo=>(b,o)
theorem a3f (hb:b∈fp) (e:h.get? b=some o):(b,o)∈a9L fp h:=gy.mpr ⟨b,hb,by rw[e];rfl⟩
theorem b1n (hp:p∈a9L fp h):p.1∈fp/\h.get? p.1=some p.2:=by
 obtain⟨b,a,e⟩:=gy.mp hp;cases q:h.get? b with
 | none=>rw[q]at e;cases e
 | some o=>
  rw[q]at e;have c:=ff.inj e;subst c;exact⟨a,q⟩
theorem Inv.pinned (I:Inv X pins σ H s) (hf:∀ b∈fp,FpOk X pins H b) (ho:∀ b∈fp,∃ o,s.heap.get? b=some o/\∀ v,o.data≠.cell v):Inv X (pins++a9L fp s.heap) σ H s:=
 I.pins_of λp h=>(et.mp h).elim (λz=>I.pin p (fH _ z)) λz=>by
  obtain⟨a,e⟩:=b1n z;obtain⟨g,f,i,_⟩:=hf p.1 a;obtain⟨o,c,d⟩:=ho p.1 a;rw[e]at c;cases c;exact⟨e,g,f,i,d⟩
theorem Inv.unpinned (I:Inv X (pins++pl) σ H s):Inv X pins σ H s:=I.pins_of λp a=>I.pin p (fH _ (iQ _ a))
theorem b7x (hp:jQ (model X.prog X.w) X.A X.env X.xe) (hc:X.calm=true) (hi:PI X tg iter wi) (hg:PG X tg g) (hb:PSs X body tb)
  (hs:∀ x,kl iter X.env x=pure x:=by intro _;rfl):PS X (.For tg iter body [] pos) (tFor wi g tb):=by
 intro a s σ H D I h;refine wpAny_For (thn (hi a s σ H _ I h) λv s1 h1=>thn h1 λitv s2 h2=>?_) hs;obtain⟨it,z,Q,J,H2,e,I2,T,st2,S,W,⟨m0,w0⟩,F⟩:=h2;subst e;have p:∀ {H':Hp},(∀ b∈z,H' b=none)->∀ b∈z,FpOk X a H' b:=λhn b hb=>⟨hn b hb,(S b hb).2⟩;refine codeAny_forLoop_any (λn Y=>∃ i σ' H',Inv X a σ' H' Y/\Q i Y.heap/\(∀ b∈z,H' b=none)/\W i n σ' H') ?_ m0 ⟨0,σ,H2,I2,st2,λb hb=>(S b hb).1,w0⟩;rintro n U ⟨i,σ3,B,R,E,C,w3⟩;rcases F i n σ3 B w3 with ⟨stop,qn⟩ | ⟨go,N,hN,step⟩
 ·refine kj hp (thn (T.done X rfl rfl rfl hc i a U σ3 B X.xe R (p C) E stop) λr s4 ⟨G,I4⟩=>?_);subst G;exact kQ ⟨σ3,B,I4,qn⟩
 ·refine kj hp (thn (T.item X rfl rfl rfl hc i a U σ3 B X.xe R (p C) E go) λr s4 ⟨u,G,h4⟩=>?_);subst G;refine kj hp (thn h4 λ_ s5 ⟨x,H5,I5,r5,y5,y,M⟩=>?_);have V:=I5.pinned (p M) (T.obj _ _ y);refine kj hp (thn (hg _ s5 σ3 H5 x u _ V r5 (step x H5 y5)) λ_ s6 ⟨σ6,H6,I6,q6⟩=>?_);refine kj hp (thn (hb _ s6 σ6 H6 _ I6 q6) λf L l=>?_);have q:∀ {σ7:St}{j:Hp},Inv X _ σ7 j L->N σ7 j->∃ m,m<n/\∃ i σ' H',Inv X a σ' H' L/\Q i L.heap/\(∀ b∈z,H' b=none)/\W i m σ' H':=λ{σ7 j} c t=>by
   obtain⟨m',hm,w7⟩:=hN σ7 j t;refine⟨m',hm,i+1,σ7,j,c.unpinned,T.keep _ _ _ y λb hb o e=>(c.pin _ (fH _ (fH _ (a3f hb e)))).1,λb hb=>?_,w7⟩;obtain⟨o,e,d⟩:=T.obj _ _ y b hb;exact (c.pin _ (fH _ (fH _ (a3f hb e)))).2.1
  cases f with
  | next=>obtain⟨σ7,j,c,t⟩:=l;exact q c t
  | cont=>obtain⟨σ7,j,c,t⟩:=l;exact q c t
  | brk=>obtain⟨σ7,j,c,l⟩:=l;exact⟨σ7,j,c.unpinned,l⟩
  | ret v=>obtain⟨x7,σ7,j,c,r7,l⟩:=l;exact⟨x7,σ7,j,c.unpinned,r7,l⟩
end
abbrev R2:=V->V->Hp->VK->Prop
noncomputable def OpR (X:Cx) (f:Value->Value->Sem Value) (r:R2):Prop:=
 ∀ (pins:List (Addr×Obj)) (s:Shared) (σ:St) (H:Hp) (x y:V) (v u:Value) (Q:VK),Inv X pins σ H s->RelV x v->RelV y u->r x y H Q ->
  wpAny (model X.prog X.w) X.A (f v u) (EP X pins σ Q) X.xe s
noncomputable def UnR (X:Cx) (f:Value->Sem Value) (r:V->Hp->VK->Prop):Prop:=
 ∀ (pins:List (Addr×Obj)) (s:Shared) (σ:St) (H:Hp) (x:V) (v:Value) (Q:VK),Inv X pins σ H s->RelV x v->r x H Q ->
  wpAny (model X.prog X.w) X.A (f v) (EP X pins σ Q) X.xe s
noncomputable def CallR (X:Cx) (f:Value) (r:List V->Hp->VK->Prop):Prop:=
 ∀ (pins:List (Addr×Obj)) (s:Shared) (σ:St) (H:Hp) (xs:List V) (us:List Value) (Q:VK),Inv X pins σ H s->Vals xs us->r xs H Q ->
  wpAny (model X.prog X.w) X.A (call f us) (EP X pins σ Q) X.xe s
noncomputable def TruR (X:Cx) (r:V->Hp->(Bool->Hp->Prop)->Prop):Prop:=
 ∀ (pins:List (Addr×Obj)) (s:Shared) (σ:St) (H:Hp) (x:V) (v:Value) (Q:Bool->Hp->Prop),Inv X pins σ H s->RelV x v->r x H Q ->
  wpAny (model X.prog X.w) X.A (truthy v) (TP X pins σ Q) X.xe s
noncomputable def tOp (r:R2) (ta tb:TE):TE:=fun σ H Q=>ta σ H λx H1=>tb σ H1 λy H2=>r x y H2 Q
noncomputable def tUn (r:V->Hp->VK->Prop) (ta:TE):TE:=fun σ H Q=>ta σ H λx H1=>r x H1 Q
noncomputable def rI (C:Int->Int->Prop) (g:Int->Int->V):R2:=λx y H Q=>∃ i j,x=.int i/\y=.int j/\C i j/\Q (g i j) H
noncomputable def rI0 (g:Int->Int->V):R2:=λx y H Q=>∃ i j,x=.int i/\y=.int j/\Q (g i j) H
noncomputable def rU (g:Int->V):V->Hp->VK->Prop:=λx H Q=>∃ i,x=.int i/\Q (g i) H
section
variable {X:Cx}{a b c:Expr}{ta tb tc:TE}{pos:Pos}
theorem binT (ha:PE X a ta) (hb:PE X b tb) {R:V->V->Hp->Prop}(I:Inv X pins σ H s)
  (h:ta σ H λx H1=>tb σ H1 λy H2=>R x y H2) {f:Value->Value->Sem Value}
  (hf:∀ v u s2 x y H2,Inv X pins σ H2 s2->RelV x v->RelV y u->R x y H2->wpAny (model X.prog X.w) X.A (f v u) Q X.xe s2) :
  wpAny (model X.prog X.w) X.A (eval a X.env) (λv sj=>wpAny (model X.prog X.w) X.A (eval b X.env) (λu sv=>wpAny (model X.prog X.w) X.A (f v u) Q X.xe sv) X.xe sj) X.xe s:=by
 refine thn (ha pins s σ H _ I h) λv c ⟨x,j,i,g,n⟩=>?_;refine thn (hb pins c σ j _ i n) λu e ⟨y,m,d,k,l⟩=>?_;exact hf v u e x y m d g k l
theorem b9Z (ho:OpR X (jR op) r) (ha:PE X a ta) (hb:PE X b tb):PE X (.BinOp a op b pos) (tOp r ta tb):=by
 intro c s σ H Q I h;exact wpAny_BinOp (binT ha hb I h λv u i x y f e d g q=>ho c i σ f x y v u Q e d g q)
theorem b90 (ho:UnR X (kS op) r) (ha:PE X a ta):PE X (.UnaryOp op a pos) (tUn r ta):=by
 intro b s σ H Q I h;exact UnaryOp_ (thn (ha b s σ H _ I h) λv d ⟨x,e,c,g,f⟩=>ho b d σ e x v Q c g f)
theorem opI {g:Int->Int->Int}
  (rule:∀ (i j:Int) (t u:Tok) (s:Shared) (Q:Value->Shared->Prop) (E:Value->Shared->Prop),C i j->Q (.int (g i j) s.toks) { s with toks:=s.toks+1 }->wpAny (model X.prog X.w) X.A (f (.int i t) (.int j u)) Q E s) :
  OpR X f (rI C λi j=>.int (g i j)):=by
 intro b s σ H x y v u Q I a d h;obtain⟨i,j,rfl,rfl,e,q⟩:=h;obtain⟨t,rfl⟩:=a;obtain⟨c,rfl⟩:=d;exact rule i j t c s _ _ e ⟨.int _,H,I.tok _,⟨_,rfl⟩,q⟩
theorem opI0 {g:Int->Int->Int}
  (rule:∀ (i j:Int) (t u:Tok) (s:Shared) (Q:Value->Shared->Prop) (E:Value->Shared->Prop),Q (.int (g i j) s.toks) { s with toks:=s.toks+1 }->wpAny (model X.prog X.w) X.A (f (.int i t) (.int j u)) Q E s) :
  OpR X f (rI0 λi j=>.int (g i j)):=by
 intro a s σ H x y v u Q I d b h;obtain⟨i,j,rfl,rfl,q⟩:=h;obtain⟨t,rfl⟩:=d;obtain⟨c,rfl⟩:=b;exact rule i j t c s _ _ ⟨.int _,H,I.tok _,⟨_,rfl⟩,q⟩
theorem opB0 {g:Int->Int->Bool}
  (rule:∀ (i j:Int) (t u:Tok) (s:Shared) (Q:Value->Shared->Prop) (E:Value->Shared->Prop),Q (.bool (g i j)) s->wpAny (model X.prog X.w) X.A (f (.int i t) (.int j u)) Q E s) :
  OpR X f (rI0 λi j=>.bl (g i j)):=by
 intro d s σ H x y v u Q I c a h;obtain⟨i,j,rfl,rfl,q⟩:=h;obtain⟨t,rfl⟩:=c;obtain⟨b,rfl⟩:=a;exact rule i j t b s _ _ ⟨.bl _,H,I,rfl,q⟩
noncomputable def CPow (i j:Int):Prop:=0<=j/\j<=1000000/\i.natAbs<2 ^ 64
noncomputable def CMul (i j:Int):Prop:=(-(2 ^ 64)<i/\i<2 ^ 64)\/(-(2 ^ 64)<j/\j<2 ^ 64)
theorem CMul.ok (h:CMul i j):IntMulOk i j:=by
 rcases h with ⟨h1,h2⟩ | ⟨h1,h2⟩
 ·exact .of_left (intBits_le_64 h1 h2)
 ·exact .of_right (intBits_le_64 h1 h2)
theorem op_add:OpR X (jR .Add) (rI0 λi j=>.int (i+j)):=opI0 λ_ _ _ _ _ _ _ q=>add_int q
theorem b7y:OpR X (jR .Sub) (rI0 λi j=>.int (i - j)):=opI0 λ_ _ _ _ _ _ _ q=>sub_int q
theorem b7z:OpR X (jR .Mult) (rI CMul λi j=>.int (i*j)):=opI λ_ _ _ _ _ _ _ a q=>mul_int q a.ok
theorem b7A:OpR X (jR .Mod) (rI (λ_ j=>0<j) λi j=>.int (i % j)):=opI λi j _ _ _ _ _ a q=>by
 have b:(0:Int)<j:=a;exact mod_int' (by omega) (by rw[Int.fmod_eq_emod_of_nonneg i (by omega)];exact q)
theorem b7B:OpR X (jR .Pow) (rI CPow λi j=>.int (i ^ j.toNat)):=opI λ_ _ _ _ _ _ _ a q=>pow_int_small a.1 a.2.1 a.2.2 q
theorem b5J:OpR X (ki .Add) (rI0 λi j=>.int (i+j)):=opI0 λ_ _ _ _ _ _ _ q=>iadd_int q
theorem unI {g:Int->Int}
  (rule:∀ (i:Int) (t:Tok) (s:Shared) (Q:Value->Shared->Prop) (E:Value->Shared->Prop),Q (.int (g i) s.toks) { s with toks:=s.toks+1 }->wpAny (model X.prog X.w) X.A (f (.int i t)) Q E s) :
  UnR X f (rU λi=>.int (g i)):=by
 intro b s σ H x v Q I a h;obtain⟨i,rfl,q⟩:=h;obtain⟨t,rfl⟩:=a;exact rule i t s _ _ ⟨.int _,H,I.tok _,⟨_,rfl⟩,q⟩
theorem b7C:UnR X (kS .USub) (rU λi=>.int (-i)):=unI λ_ _ _ _ _ q=>neg_int q
end
noncomputable def scal:V->V->Bool
 | .non,.non=>true | .non,.int _=>true | .int _,.non=>true | .non,.bl _=>true | .bl _,.non=>true | .non,.str _=>true | .str _,.non=>true
 | .int _,.int _=>true | .bl _,.bl _=>true | .str _,.str _=>true | .byt _,.byt _=>true
 | .int _,.str _=>true | .str _,.int _=>true | .bl _,.str _=>true | .str _,.bl _=>true
 | _,_=>false
noncomputable def rEq:R2:=λx y H Q=>scal x y=true/\Q (.bl (decide (x=y))) H
noncomputable def rNe:R2:=λx y H Q=>scal x y=true/\Q (.bl (!decide (x=y))) H
theorem b1o:decide (V.int i=V.int j)=(i==j):=by
 rw[fZ];simp
theorem b1p:decide (V.bl i=V.bl j)=(i==j):=by
 rw[fZ];simp
theorem b1q:decide (V.str i=V.str j)=(i==j):=by
 rw[fZ];simp
theorem b1r:decide (V.byt i=V.byt j)=(i.toList==j.toList):=by
 rw[fZ];cases i;cases j;simp
section
variable {X:Cx}{a b c:Expr}{ta tb tc:TE}{pos:Pos}
theorem a0D (I:Inv X pins σ H s) (q:Q (.bl k) H) (e:k=k'):EP X pins σ Q (.bool k') s:=by
 subst e;exact⟨.bl k,H,I,rfl,q⟩
theorem op_eq:OpR X (jL .Eq) rEq:=by
 intro pins s σ H x y v u Q I rx ry h;obtain⟨hs,q⟩:=h;cases x with
 | non=>
  cases rx;cases y with
  | non=>cases ry;exact PySem.EqNone.eq_none_none (a0D I q (by simp))
  | bl j=>cases ry;exact PySem.EqNone.eq_none_bool (a0D I q (by simp))
  | int j=>obtain⟨t',rfl⟩:=ry;exact PySem.EqNone.eq_none_int (a0D I q (by simp))
  | str j=>obtain⟨t',rfl⟩:=ry;exact PySem.EqNone.eq_none_str (a0D I q (by simp))
  | _=>exact absurd (show false=true from hs) e7
 | bl i=>
  cases rx;cases y with
  | non=>cases ry;exact PySem.EqNone.eq_bool_none (a0D I q (by simp))
  | bl j=>cases ry;exact eq_bool (a0D I q b1p)
  | str j=>obtain⟨t',rfl⟩:=ry;exact PySem.EqMixed.eq_bool_str (a0D I q (by simp))
  | _=>exact absurd (show false=true from hs) e7
 | int i=>
  obtain⟨t,rfl⟩:=rx;cases y with
  | non=>cases ry;exact PySem.EqNone.eq_int_none (a0D I q (by simp))
  | int j=>obtain⟨t',rfl⟩:=ry;exact eq_int (a0D I q b1o)
  | str j=>obtain⟨t',rfl⟩:=ry;exact PySem.EqMixed.eq_int_str (a0D I q (by simp))
  | _=>exact absurd (show false=true from hs) e7
 | str i=>
  obtain⟨t,rfl⟩:=rx;cases y with
  | non=>cases ry;exact PySem.EqNone.eq_str_none (a0D I q (by simp))
  | bl j=>cases ry;exact PySem.EqMixed.eq_str_bool (a0D I q (by simp))
  | int j=>obtain⟨t',rfl⟩:=ry;exact PySem.EqMixed.eq_str_int (a0D I q (by simp))
  | str j=>obtain⟨t',rfl⟩:=ry;exact eq_str (a0D I q b1q)
  | _=>exact absurd (show false=true from hs) e7
 | byt i=>
  obtain⟨t,rfl⟩:=rx;cases y with
  | byt j=>obtain⟨t',rfl⟩:=ry;exact PySem.W.eq_bytes (a0D I q b1r)
  | _=>exact absurd (show false=true from hs) e7
 | _=>cases y<;>exact absurd (show false=true from hs) e7
theorem op_ne:OpR X (jL .NotEq) rNe:=by
 intro e s σ H x y v u Q I d a h;obtain⟨c,q⟩:=h;cases x with
 | non=>
  cases d;cases y with
  | non=>cases a;exact PySem.EqNone.ne_none_none (a0D I q (by simp))
  | bl j=>cases a;exact PySem.EqNone.ne_none_bool (a0D I q (by simp))
  | int j=>obtain⟨b,rfl⟩:=a;exact PySem.EqNone.ne_none_int (a0D I q (by simp))
  | str j=>obtain⟨b,rfl⟩:=a;exact PySem.EqNone.ne_none_str (a0D I q (by simp))
  | _=>exact absurd (show false=true from c) e7
 | bl i=>
  cases d;cases y with
  | non=>cases a;exact PySem.EqNone.ne_bool_none (a0D I q (by simp))
  | bl j=>cases a;exact ne_bool (a0D I q (congrArg not b1p))
  | str j=>obtain⟨b,rfl⟩:=a;exact PySem.EqMixed.ne_bool_str (a0D I q (by simp))
  | _=>exact absurd (show false=true from c) e7
 | int i=>
  obtain⟨t,rfl⟩:=d;cases y with
  | non=>cases a;exact PySem.EqNone.ne_int_none (a0D I q (by simp))
  | int j=>obtain⟨b,rfl⟩:=a;exact ne_int (a0D I q (congrArg not b1o))
  | str j=>obtain⟨b,rfl⟩:=a;exact PySem.EqMixed.ne_int_str (a0D I q (by simp))
  | _=>exact absurd (show false=true from c) e7
 | str i=>
  obtain⟨t,rfl⟩:=d;cases y with
  | non=>cases a;exact PySem.EqNone.ne_str_none (a0D I q (by simp))
  | bl j=>cases a;exact PySem.EqMixed.ne_str_bool (a0D I q (by simp))
  | int j=>obtain⟨b,rfl⟩:=a;exact PySem.EqMixed.ne_str_int (a0D I q (by simp))
  | str j=>obtain⟨b,rfl⟩:=a;exact ne_str (a0D I q (congrArg not b1q))
  | _=>exact absurd (show false=true from c) e7
 | byt i=>
  obtain⟨t,rfl⟩:=d;cases y with
  | byt j=>obtain⟨b,rfl⟩:=a;exact PySem.W.ne_bytes (a0D I q (congrArg not b1r))
  | _=>exact absurd (show false=true from c) e7
 | _=>cases y<;>exact absurd (show false=true from c) e7
theorem b91:OpR X (jL .Lt) (rI0 λi j=>.bl (decide (i<j))):=opB0 λ_ _ _ _ _ _ _ q=>lt_int q
theorem b92:OpR X (jL .LtE) (rI0 λi j=>.bl (decide (i<=j))):=opB0 λ_ _ _ _ _ _ _ q=>le_int q
theorem b93:OpR X (jL .Gt) (rI0 λi j=>.bl (decide (j<i))):=opB0 λ_ _ _ _ _ _ _ q=>gt_int q
theorem b1s:OpR X (jL .Lt) (λx y H Q=>∃ i j,x=.str i/\y=.str j/\Q (.bl (decide (i.cps.toList<j.cps.toList))) H):=by
 intro b s σ H x y v u Q I a c h;obtain⟨i,j,rfl,rfl,q⟩:=h;obtain⟨t,rfl⟩:=a;obtain⟨d,rfl⟩:=c;exact lt_str (a0D I q rfl)
theorem op_isN:OpR X (jL .Is) (λx y H Q=>y=.non/\Q (.bl (decide (x=.non))) H):=by
 intro b s σ H x y v u Q I a c h;obtain⟨rfl,q⟩:=h;cases c;refine is_none_gen (a0D I q ?_);cases x<;>first
  | (cases a;rfl)
  | (obtain⟨t,rfl⟩:=a;rfl)
theorem b5K:OpR X (jL .IsNot) (λx y H Q=>y=.non/\Q (.bl (!decide (x=.non))) H):=by
 intro c s σ H x y v u Q I a b h;obtain⟨rfl,q⟩:=h;cases b;refine isnot_none_gen (a0D I q ?_);cases x<;>first
  | (cases a;rfl)
  | (obtain⟨t,rfl⟩:=a;rfl)
theorem OpR.or (h:OpR X f r) (h':OpR X f r'):OpR X f (λx y H Q=>r x y H Q\/r' x y H Q):=by
 intro a s σ H x y v u Q I c b q;rcases q with q | q
 ·exact h a s σ H x y v u Q I c b q
 ·exact h' a s σ H x y v u Q I c b q
theorem a0o (b:Expr) (h:op≠.In:=by decide) (h2:op≠.NotIn:=by decide):kz op b=false:=by
 have a:(op==CmpOp.In)=false:=by grind
 have c:(op==CmpOp.NotIn)=false:=by grind
 cases b<;>simp[kz,a,c]
theorem b5L (ho:OpR X (jL op) r) (ha:PE X a ta) (hb:PE X b tb) (hm:kz op b=false):PE X (.Compare a [op] [b] pos) (tOp r ta tb):=by
 intro c s σ H Q I h;exact wpAny_Compare1 (binT ha hb I h λv u d x y f g i e q=>ho c d σ f x y v u Q g i e q) hm
noncomputable def b94 (t:TE):TT:=fun σ H Q=>t σ H λx H'=>∃ k,x=.bl k/\Q k H'
theorem b5M (ho:OpR X (jL op) r) (ha:PE X a ta) (hb:PE X b tb) (hm:kz op b=false):PT X (.Compare a [op] [b] pos) (b94 (tOp r ta tb)):=by
 intro d s σ H Q I h;refine wpAny_isTrue_Compare1 (thn (ha d s σ H _ I h) λv l ⟨x,w,f,n,B⟩=>thn (hb d l σ w _ f B) λu t ⟨y,m,i,j,A⟩=>
  thn (ho d t σ m x y v u _ i n j A) λc C ⟨z,q,p,o,k,e,g⟩=>?_) hm
 subst e;cases o;exact kh ⟨q,p,g⟩
noncomputable def b4R (r r':R2) (ta tb tc:TE):TE:=fun σ H Q=>ta σ H λx H1=>tb σ H1 λy H2=>r x y H2 λz H3=>∃ k,z=.bl k /\
 (if k=true then tc σ H3 λw' H4=>r' y w' H4 Q else Q (.bl false) H3)
theorem b3v (ho:OpR X (jL op) r) (ho':OpR X (jL op') r') (ha:PE X a ta) (hb:PE X b tb) (hc:PE X c tc)
  (hm:lastMarks [op,op'] [b,c]=false:=by with_unfolding_all rfl):PE X (.Compare a [op,op'] [b,c] pos) (b4R r r' ta tb tc):=by
 intro f s σ H Q I h;refine Compare_chain (thn (ha f s σ H _ I h) λv m ⟨x,t,J,p,N⟩=>chain_link (thn (hb f m σ t _ J N) λu o ⟨y,C,F,j,L⟩=>
  thn (ho f o σ C x y v u _ F p j L) λd A ⟨z,i,g,n,k,e,l⟩=>?_)) hm
 subst e;cases n;refine kh ?_;cases k with
 | false=>exact ite_ff ⟨.bl false,i,g,rfl,l⟩
 | true=>exact ite_tt (chain_last (thn (hc f A σ i _ g l) λM w ⟨D,q,B,G,E⟩=>ho' f w σ q y D u M Q B j G E))
noncomputable def TruV (K:Fg) (x:V) (H:Hp) (k:Bool):Prop:=
 match x with
 | .non=>k=false
 | .bl b=>k=b
 | .int i=>k=(i != 0)
 | .str y=>y.length<=jC/\k=((y.length:Int) != 0)
 | .byt y=>y.size<=jC/\k=((y.size:Int) != 0)
 | .ref p=>(∃ xs,SqL K H p xs/\k=!xs.isEmpty)\/(∃ xs,SqT K H p xs/\k=!xs.isEmpty)\/∃ kvs,H p=some (.dK kvs)/\k=!kvs.isEmpty
 | _=>False
theorem b0D {κ:Type}{kvs:List (κ×V)}{vs:List (κ×Value)}(r:KV kvs vs):(!vs.isEmpty)=!kvs.isEmpty:=by
 cases r<;>rfl
theorem a6D (r:Vals xs its):(!its.toArray.isEmpty)=!xs.isEmpty:=by
 cases r<;>simp
theorem a7P:(jC:Nat)<2 ^ 63:=by rw[jW];decide
theorem b7D:TruR X (λx H Q=>∃ k,TruV X.K x H k/\Q k H):=by
 intro u s σ H x v Q I c h;obtain⟨k,e,q⟩:=h;have z:=a7P;have A:jC=16777216:=jW;cases x with
 | non=>
  cases c;have a:k=false:=e;subst a;exact truthy_none ⟨H,I,q⟩
 | bl b=>
  cases c;have a:k=b:=e;subst a;exact kh ⟨H,I,q⟩
 | int i=>
  obtain⟨t,rfl⟩:=c;have a:k=(i != 0):=e;subst a;exact PySem.P.truthy_int ⟨H,I,q⟩
 | str y=>
  obtain⟨t,rfl⟩:=c;obtain⟨o,a⟩:=e;subst a;exact PySem.P.truthy_str (by omega) ⟨H,I.tok _,q⟩
 | byt y=>
  obtain⟨t,rfl⟩:=c;obtain⟨o,a⟩:y.size<=jC/\k=((y.size:Int) != 0):=e;subst a;exact PySem.W.truthy_bytes (by omega) ⟨H,I.tok _,q⟩
 | ref p=>
  cases c;have a:=e;rcases a with ⟨xs,hx,a⟩ | ⟨xs,hx,a⟩ | ⟨kvs,hx,a⟩
  ·subst a;obtain⟨l,r,g,j⟩:=I.list hx;have d:=r.length;exact wpAny_truthy_list g.isList (by simp only[fk];omega) ⟨H,I.tok _,by rw[a6D r];exact q⟩
  ·subst a;obtain⟨l,r,g,j⟩:=I.tuple hx;have d:=r.length;exact truthy_tuple g (by simp only[fk];omega) ⟨H,I.tok _,by rw[a6D r];exact q⟩
  ·subst a;obtain⟨j,n,f,r,m⟩:=I.hok p _ hx;have d:kvs.length=f.length:=Paired.length r;exact wpAny_truthy_dict n m (by omega) ⟨H,I.tok _,by rw[b0D r];exact q⟩
 | _=>exact (show False from e).elim
theorem b3w (ha:PE X a ta) (he:∀ whole,isTrue a X.env whole=(do let v <- whole;j7 a.pos;jV [v] (truthy v))) :
  PT X a (fun σ H Q=>ta σ H λx H'=>∃ k,TruV X.K x H' k/\Q k H'):=by
 intro b s σ H Q I h;exact isTrue_plain (thn (ha b s σ H _ I h) λv e ⟨x,f,d,g,c⟩=>b7D b e σ f x v Q d g c) (he _)
theorem op_add_str:OpR X (jR .Add) (λx y H Q=>∃ i j,x=.str i/\y=.str j/\i.length+j.length<=jC/\Q (.str (i++j)) H):=by
 intro b s σ H x y v u Q I a d h;obtain⟨i,j,rfl,rfl,e,q⟩:=h;obtain⟨t,rfl⟩:=a;obtain⟨c,rfl⟩:=d;exact add_str (λc f=>⟨.str (i++j),H,I.tok _,⟨_,rfl⟩,q⟩) e
theorem a4C (r:Vals [x] us):∃ u,us=[u]/\RelV x u:=by
 cases r with
 | cons r1 r2=>cases r2;exact⟨_,rfl,r1⟩
theorem b1t (r:Vals [x,y] us):∃ u w',us=[u,w']/\RelV x u/\RelV y w':=by
 cases r with
 | cons r1 r2=>
  cases r2 with
  | cons r3 r4=>cases r4;exact⟨_,_,rfl,r1,r3⟩
theorem b1u (hc:X.calm=true):CallR X (.builtin "max") (λxs H Q=>∃ i j,xs=[.int i,.int j]/\Q (.int (if j > i then j else i)) H):=by
 intro a s σ H d e Q I r h;obtain⟨i,j,rfl,q⟩:=h;obtain⟨u,f,rfl,⟨t,rfl⟩,⟨b,rfl⟩⟩:=b1t r;refine max_two_ints (I.ok.hd hc) λg c k=>⟨_,H,I.kept k,?_,q⟩
 by_cases hj:j > i
 ·rw[if_pos hj,if_pos hj];exact⟨_,rfl⟩
 ·rw[if_neg hj,if_neg hj];exact⟨_,rfl⟩
theorem b1v (hc:X.calm=true):CallR X (.builtin "min") (λxs H Q=>∃ i j,xs=[.int i,.int j]/\Q (.int (if j<i then j else i)) H):=by
 intro a s σ H d f Q I r h;obtain⟨i,j,rfl,q⟩:=h;obtain⟨u,g,rfl,⟨t,rfl⟩,⟨c,rfl⟩⟩:=b1t r;refine min_two_ints (I.ok.hd hc) λb e k=>⟨_,H,I.kept k,?_,q⟩
 by_cases hj:j<i
 ·rw[if_pos hj,if_pos hj];exact⟨_,rfl⟩
 ·rw[if_neg hj,if_neg hj];exact⟨_,rfl⟩
noncomputable def LenV (K:Fg) (x:V) (H:Hp) (n:Nat):Prop:=
 match x with
 | .str y=>y.length<=jC/\n=y.length
 | .byt y=>y.size<=jC/\n=y.size
 | .ref p=>(∃ xs,SqL K H p xs/\n=xs.length)\/∃ xs,SqT K H p xs/\n=xs.length
 | _=>False
theorem b3x:CallR X (.builtin "len") (λxs H Q=>∃ x n,xs=[x]/\LenV X.K x H n/\Q (.int n) H):=by
 intro j s σ H a v Q I r h;obtain⟨x,n,rfl,e,q⟩:=h;obtain⟨u,rfl,d⟩:=a4C r;have o:=jW;cases x with
 | str y=>
  obtain⟨t,rfl⟩:=d;obtain⟨k,b⟩:=e;subst b;exact len_str (by omega) ⟨.int _,H,I.tok _,⟨_,rfl⟩,q⟩
 | byt y=>
  obtain⟨t,rfl⟩:=d;obtain⟨k,b⟩:=e;subst b;exact PySem.W.len_bytes (by omega) ⟨.int _,H,I.tok _,⟨_,rfl⟩,q⟩
 | ref p=>
  cases d;have b:=e;rcases b with ⟨a,hx,b⟩ | ⟨a,hx,b⟩
  ·subst b;obtain⟨i,g,f,l⟩:=I.list hx;have c:=g.length;exact Calls.call_len_list f.isList (by grind) ⟨.int a.length,H,I.tok _,⟨_,by simp only[fk];rw[c]⟩,q⟩
  ·subst b;obtain⟨i,g,f,l⟩:=I.tuple hx;have c:=g.length;exact len_tuple f (by grind) ⟨.int a.length,H,I.tok _,⟨_,by simp only[fk];rw[c]⟩,q⟩
 | _=>exact (e).elim
end
structure ObjM (h:Heap) (x dx C:Addr) (mA:Str->Option Value):Prop where
 obj:h.get? x=some (PySem.W.instObj C dx)
 ns:h.Ns1 dx mA
 ne:dx≠x
theorem b1w {h:Heap}(n:h.Ns1 dx mA):∃ od,h.get? dx=some od/\∀ name,PySem.W.lookIn name od=some (mA name):=by
 obtain⟨o,d,m,l,j,f,_,g⟩:=n;refine⟨o,l,λc=>?_⟩;have e:=g c;unfold nsFind findBy at e;rw[<- Array.find?_toList]at e;unfold PySem.W.lookIn;rw[j];dsimp only
 split
 ·simp_all
 ·rename_i q
  rw[q]at e;have a:d.toList.any (·.refKey)=false:=by
   rw[iR];intro y k;obtain⟨z,t,b⟩:=f y (iU.mp k);simp[lE.refKey,b]
  have i:¬ d.toList.any (·.refKey)=true:=by rw[a];exact e7
  rw[if_neg i];exact congrArg some e
theorem ObjM.look (I:ObjM h x dx C mA):∃ od,PySem.W.InstAt h x (PySem.W.instObj C dx) C (some od)/\∀ name,PySem.W.lookIn name od=some (mA name):=
 let ⟨od,ho,hl⟩:=b1w I.ns
 ⟨od,⟨I.obj,rfl,rfl,ho⟩,hl⟩
section
variable {prog:jH}{w:World}{A:Around}{E:Value->Shared->Prop}{s:Shared}{K:Fg}{x dx C f:Addr}{mA:Str->Option Value}{name:Str}{v:Value}
theorem b5N (X:K.In s.heap) (I:ObjM s.heap x dx C mA) (hg:PySem.W.plainGet K C name=true) (hh:PySem.W.hasDictIn K C=true)
  (ha:PySem.W.findIn K (.ref C) name=some none) (hv:mA name=some v) (hv':PySem.W.handedIn v=true) (h:Q v { s with toks:=s.toks+1 }) :
  wpAny (model prog w) A (getAttr (.ref x) name expr) Q E s:=by
 obtain⟨b,J,a⟩:=I.look;exact PySem.W.get_value X J (PySem.W.plainGet_of hg).1 (PySem.W.findObj_own hh ha rfl (by simp_all)) hv' h
theorem b3y (X:K.In s.heap) (I:ObjM s.heap x dx C mA) (hg:PySem.W.plainGet K C name=true)
  (hf:PySem.W.findIn K (.ref C) name=some (some (.ref f))) (ht:PySem.W.isFn K (.ref f)=true) (hv:mA name=none) (h:Q (.ref f,[.ref x]) s) :
  wpAny (model prog w) A (ko (.ref x) name pl) Q E s:=by
 obtain⟨b,J,a⟩:=I.look;exact PySem.W.method_fn X J (PySem.W.plainGet_of hg).1 (PySem.W.plainGet_of hg).2 hf (beq_iff_eq.mp ht) (by show (PySem.W.lookIn name b).map _=some false;rw[a,hv];rfl) h
theorem b5O (X:K.In s.heap) (I:ObjM s.heap x dx C mA)
  (hs:PySem.W.findIn K (.ref C) "__setattr__"=some (some (.builtin "object.__setattr__"))) (hp:PySem.W.plainOver K C=true) (ht:PySem.W.takerIn K C name=some none) (hh:PySem.W.hasDictIn K C=true)
  (hw:PySem.Within mA ns) (hsz:ns.length<=jC)
  (h:∀ h',ObjM h' x dx C (λy=>if y=name then some v else mA y)->Heap.SameBut dx s.heap h'->Q () { s with heap:=h',toks:=s.toks+2 }) :
  wpAny (model prog w) A (setAttr (.ref x) name v) Q E s:=by
 obtain⟨p,J,n⟩:=I.look;refine PySem.W.set_plain X J hs (PySem.W.osa_open X J hp ht λb=>?_);obtain⟨o,j,i⟩:=PySem.W.any_some hh;have k:=I.obj;refine jB (jK (jB (jB (wpAny_loadPart k (jB (PySem.W.Looks.here (PySem.W.looks_clsIn X j) ?_))))));rw[i];refine jK (jB (jK (jB ?_)));refine wpAny_nsSet1 I.ns λt d c=>?_;obtain⟨q,l,m,f,g,e⟩:=d.count (PySem.Within.cons name v hw);refine jB (wpAny_lookBehind f (by rw[g];exact pastItsLine_dict (eM e (by grind))) ?_);exact jK (h _ ⟨(c.2 _ (Ne.symm I.ne)).trans I.obj,d,I.ne⟩ c)
theorem b3z (X:K.In s.heap) (hm:PySem.W.makesIn K C=true)
  (hi:PySem.W.findIn K (.ref C) "__init__"=some (some (.ref f))) (hf:PySem.W.typeIn K (.ref f)=some (.type "function"))
  (h:j9 (model prog w) (A.under (.builtin "type.__call__" ⟨.ref C::vs,kw⟩)) (.call (.ref f) ⟨.ref (s.heap.objs.size+1)::vs,kw⟩) (PySem.W.InitBack (s.heap.objs.size+1) R)
   { s with heap:=(s.heap.push PySem.W.emptyDict).push (PySem.W.instObj C s.heap.objs.size) }) :
  j9 (model prog w) A (.call (.ref C) ⟨vs,kw⟩) R s:=PySem.W.make_core (PySem.W.makes_of X hm) (PySem.W.looks_findIn X hi) (λa=>PySem.W.bind_fn X a hf) (.inl rfl) h
end
noncomputable def putF (f:Str) (v:V):List (Str×V)->List (Str×V)
 | []=>[(f,v)]
 | (g,x)::r=>if g=f then (g,v)::r else (g,x)::putF f v r
theorem a5A (f g:Str) (v:V):∀ fs:List (Str×V),(putF f v fs).lookup g=if g=f then some v else fs.lookup g
 | []=>by
  show gY g [_]=_
  by_cases h:g=f
  ·simp_all
  ·simp_all
 | (k,x)::r=>by
  have b:=a5A f g v r;rw[show putF f v _=(if k=f then _::r else (k,x)::putF f v r) from rfl]
  by_cases hk:k=f
  ·rw[if_pos hk]
   by_cases h:g=k
   ·simp_all
   ·have a:=beq_eq_false_iff_ne.mpr h;simp only[gY,a,if_neg (λe:g=f=>h (e.trans hk.symm))]
  ·rw[if_neg hk]
   by_cases h:g=k
   ·simp_all
   ·have a:=beq_eq_false_iff_ne.mpr h;simp only[gY,a];exact b
theorem a5B (f:Str) (v:V):∀ fs:List (Str×V),f∈(putF f v fs).map (·.1)/\∀ g,g∈fs.map (·.1)->g∈(putF f v fs).map (·.1)
 | []=>⟨by simp[putF],λg h=>by simp at h⟩
 | (k,x)::r=>by
  obtain⟨a,b⟩:=a5B f v r;rw[show putF f v _=(if k=f then _::r else (k,x)::putF f v r) from rfl]
  by_cases hk:k=f
  ·grind
  ·rw[if_neg hk];refine⟨?_,λg h=>?_⟩
   ·rw[eP];exact fE _ a
   ·rw[eP]at h ⊢;rcases eI.mp h with e | e
    ·exact eI.mpr (.inl e)
    ·exact fE _ (b g e)
theorem a5C (f:Str) (v:V):∀ fs:List (Str×V),(putF f v fs).length<=fs.length+1
 | []=>by simp[putF]
 | (k,x)::r=>by
  have a:=a5C f v r;rw[show putF f v _=(if k=f then _::r else (k,x)::putF f v r) from rfl]
  by_cases hk:k=f
  ·grind
  ·grind
theorem RelO.some_of (r:RelO (some v) o):∃ u,o=some u/\RelV v u:=by
 cases o with
 | none=>exact (r).elim
 | some u=>exact⟨u,rfl,r⟩
theorem RelO.none_of (r:RelO none o):o=none:=by
 cases o with
 | none=>rfl
 | some u=>exact (r).elim
theorem b1x (r:RelV v u):PySem.W.handedIn u=true:=by
 cases v with
 | non=>cases (r);rfl
 | bl b=>cases (r);rfl
 | int i=>obtain⟨t,e⟩:=(r);cases e;rfl
 | str x=>obtain⟨t,e⟩:=(r);cases e;rfl
 | byt b=>obtain⟨t,e⟩:=(r);cases e;rfl
 | flt b=>obtain⟨t,e⟩:=(r);cases e;rfl
 | ref a=>cases (r);rfl
 | ty n=>cases (r);rfl
section
variable {P:jH}{w:World}{H H':Hp}{h h':Heap}{a C dx:Addr}{fs fs':List (Str×V)}
theorem a67 (hok:HOk P w H h) (e:H a=some (.ins C dx fs)):∃ mA,ObjM h a dx C mA/\(∀ f,RelO (fs.lookup f) (mA f))/\PySem.Within mA (fs.map (·.1))/\fs.length<=1000/\H dx=some (.own a):=by
 obtain⟨d,z,c,g,b,n,r,q⟩:=(hok a _ e);exact⟨b,⟨g,n,c⟩,r,q,z,d⟩
end
structure Cls (K:Fg) (C:Addr):Prop where
 pg:PySem.W.plainGet K C Str.empty=true
 hd:PySem.W.hasDictIn K C=true
 po:PySem.W.plainOver K C=true
 sa:PySem.W.findIn K (.ref C) "__setattr__"=some (some (.builtin "object.__setattr__"))
theorem Cls.get {K:Fg}(c:Cls K C) (f:Str):PySem.W.plainGet K C f=true:=c.pg
noncomputable def NoAttr (K:Fg) (C:Addr) (f:Str):Prop:=PySem.W.findIn K (.ref C) f=some none
theorem NoAttr.taker {K:Fg}(n:NoAttr K C f):PySem.W.takerIn K C f=some none:=by
 unfold PySem.W.takerIn;rw[n]
 rfl
structure Meth (K:Fg) (C:Addr) (m:Str) (f:Addr):Prop where
 at_:PySem.W.findIn K (.ref C) m=some (some (.ref f))
 fn:PySem.W.isFn K (.ref f)=true
 kp:PySem.W.keepIn K (.ref f)=true
section
variable {X:Cx}{pins:List (Addr×Obj)}{σ:St}{H:Hp}{s:Shared}{a C dx:Addr}{fs:List (Str×V)}{f:Str}{v:V}{A:Around}{E:Value->Shared->Prop}
theorem a6E (I:Inv X pins σ H s) (e:H a=some (.ins C dx fs)) (c:Cls X.K C) (n:NoAttr X.K C f) (l:fs.lookup f=some v)
  (h:∀ u s',Inv X pins σ H s'->RelV v u->Q u s'):wpAny (model X.prog X.w) A (getAttr (.ref a) f b) Q E s:=by
 obtain⟨i,O,r,_,_,_⟩:=a67 I.hok e;obtain⟨u,g,d⟩:=RelO.some_of (by rw[<- l];exact r f);exact b5N I.kIn O (c.get f) c.hd n g (b1x d) (h u _ (I.tok _) d)
theorem a6F (I:Inv X pins σ H s) (e:H a=some (.ins C dx fs)) (c:Cls X.K C) (k:Meth X.K C m g) (l:fs.lookup m=none)
  (h:Q (.ref g,[.ref a]) s):wpAny (model X.prog X.w) A (ko (.ref a) m pl) Q E s:=by
 obtain⟨b,O,r,_,_,_⟩:=a67 I.hok e;have d:=RelO.none_of (by rw[<- l];exact r m);exact b3y I.kIn O (c.get m) k.at_ k.fn d h
theorem a6G (I:Inv X pins σ H s) (e:H a=some (.ins C dx fs)) (c:Cls X.K C) (n:NoAttr X.K C f) (hl:fs.length<1000) (ry:RelV y u)
  (h:∀ s',Inv X pins σ (upd H a (.ins C dx (putF f y fs))) s'->Q () s'):wpAny (model X.prog X.w) A (setAttr (.ref a) f u) Q E s:=by
 obtain⟨i,O,r,j,_,k⟩:=a67 I.hok e;have v:(fs.map (·.1)).length<=sizeLine:=by rw[er,jW];omega
 refine b5O I.kIn O c.sa c.po n.taker c.hd j v λm d l=>h _ ?_;have t:∃ o,m.get? dx=some o:=let ⟨o,_,_,e',_⟩:=d.ns;⟨o,e'⟩
 refine I.write (by rw[e];exact True.intro) (.inr k) (λb q p z=>(l.2 b p).trans z) t ?_;refine⟨by rw[a0t O.ne];exact k,?_,O.ne,d.obj,_,d.ns,λg=>?_,λg B=>?_⟩
 ·have:=a5C f y fs;omega
 ·show RelO _ _
  rw[a5A]
  by_cases q:g=f
  ·rw[if_pos q,if_pos q];exact ry
  ·simp_all
 ·by_cases q:g=f
  ·rw[q];exact (a5B f y fs).1
  ·refine (a5B f y fs).2 g (j g λz=>B ?_)
   show (if g=f then some u else i g)=none
   rw[if_neg q];exact z
theorem Inv.made (I:Inv X pins σ H s):Inv X pins σ (upd (upd H s.heap.objs.size (.own (s.heap.objs.size+1))) (s.heap.objs.size+1) (.ins C s.heap.objs.size []))
  { s with heap:=(s.heap.push PySem.W.emptyDict).push (PySem.W.instObj C s.heap.objs.size) }:=by
 have c:(s.heap.push PySem.W.emptyDict).get? s.heap.objs.size=some PySem.W.emptyDict:=Heap.get?_push_size s.heap rfl;have i:((s.heap.push PySem.W.emptyDict).push (PySem.W.instObj C s.heap.objs.size)).get? (s.heap.objs.size+1)=some (PySem.W.instObj C s.heap.objs.size):=by
  have:=Heap.get?_push_size (s.heap.push PySem.W.emptyDict) (o:=PySem.W.instObj C s.heap.objs.size) rfl
  rwa [Heap.size_push]at this
 have g:(s.heap.push PySem.W.emptyDict).Ns s.heap.objs.size _:=⟨PySem.W.emptyDict,#[],_,c,rfl,(λe h=>absurd h (by simp)),λ_=>rfl⟩;have j:=I.laid (o:=.own (s.heap.objs.size+1)) (t':=s.toks) (λb u q=>Heap.get?_push_of_some _ q) (eB _) ⟨_,c⟩;refine j.laid (t':=s.toks) (λb u q=>Heap.get?_push_of_some _ q) (gb (Heap.size_push _ _)) ?_;have d:s.heap.objs.size≠s.heap.objs.size+1:=eO (iV _);refine⟨by rw[a0t d,a0x],e8 _,d,i,λ_=>none,(Heap.Ns1.of_empty g).at λo q=>Heap.get?_push_of_some _ q,λ_=>True.intro,λy f=>absurd rfl f⟩
theorem b5P (hb:kI e f env (eval e env)=eval e env)
  (h:wpAny (model prog w) A (eval e env) (λo sj=>wpAny (model prog w) A (getAttr o f true) Q E sj) E s):wpAny (model prog w) A (eval (.Attribute e f pos) env) Q E s:=
 Attribute_any_ h (by rw[arm_eval_Attribute,hb])
end
noncomputable def tFld (K:Fg) (ta:TE) (f:Str):TE:=fun σ H Q=>ta σ H λx H1=>∃ a C dx fs v,x=.ref a/\H1 a=some (.ins C dx fs)/\Cls K C/\NoAttr K C f/\fs.lookup f=some v/\Q v H1
noncomputable def sFld (K:Fg) (ta tv:TE) (f:Str):TS:=λD σ H=>tv σ H λy H1=>ta σ H1 λx H2=>∃ a C dx fs,x=.ref a/\H2 a=some (.ins C dx fs)/\Cls K C/\NoAttr K C f/\fs.length<1000 /\
 D.nx σ (upd H2 a (.ins C dx (putF f y fs)))
noncomputable def InOp (X:Cx) (op:Operator) (rd:V->V->Hp->VK->Prop):Prop:=
 ∀ (pins:List (Addr×Obj)) (s:Shared) (σ:St) (H:Hp) (x y:V) (u v:Value) (Q:VK),Inv X pins σ H s->RelV x u->RelV y v->rd x y H Q->wpAny (model X.prog X.w) X.A (ki op u v) (EP X pins σ Q) X.xe s
noncomputable def b5Q (K:Fg) (ta tv:TE) (rd:V->V->Hp->VK->Prop) (f:Str):TS:=λD σ H=>ta σ H λx H1=>∃ a C dx fs v,x=.ref a/\H1 a=some (.ins C dx fs)/\Cls K C/\NoAttr K C f/\fs.lookup f=some v /\
 tv σ H1 λy H2=>rd v y H2 λz H3=>∃ dx' fs',H3 a=some (.ins C dx' fs')/\fs'.length<1000/\D.nx σ (upd H3 a (.ins C dx' (putF f z fs')))
section
variable {X:Cx}{o e value:Expr}{f:Str}{pos pos' tpos:Pos}{ta tv:TE}
theorem b7E (he:PE X e ta) (hb:kI e f X.env (eval e X.env)=eval e X.env):PE X (.Attribute e f pos) (tFld X.K ta f):=by
 intro b s σ H Q I h;refine b5P hb (thn (he b s σ H _ I h) λu p ⟨x,d,i,j,a,C,r,w,v,g,m,c,n,l,q⟩=>?_);subst g;obtain rfl:u=Value.ref a:=j;exact a6E i m c n l λy t o k=>⟨v,d,o,k,q⟩
theorem b7F (ha:PE X o ta) (hv:PE X value tv) (hs:kf value (some (.Attribute o f pos')) pos.line X.env=pure false):PS X (.Assign [.Attribute o f pos'] value pos) (sFld X.K ta tv f):=by
 intro b s σ H D I h;refine plainObj_wpAny_Assign_Attribute (thn (hv b s σ H _ I h) λu g ⟨y,d,k,v,q⟩=>thn (ha b g σ d _ k q) λj A ⟨x,B,r,p,a,C,z,E,i,t,c,n,l,m⟩=>?_) hs;subst i;obtain rfl:j=Value.ref a:=p;exact a6G r t c n l v λw e=>⟨σ,_,e,m⟩
theorem b1y (ha:PE X o ta) (hv:PE X value tv) (hop:InOp X op rd):PS X (.AugAssign (.Attribute o f tpos) op value pos) (b5Q X.K ta tv rd f):=by
 intro b s σ H D I h;refine wpAny_AugAssign_AttributeAny (thn (ha b s σ H _ I h) λj T ⟨x,e,k,M,a,C,dx,fs,v,B,p,c,n,l,q⟩=>?_);subst B;obtain rfl:j=Value.ref a:=M;refine a6E k p c n l λu J r m=>thn (hv b J σ e _ r q) λi E ⟨y,t,g,w,L⟩=>thn (hop b E σ t v y u i _ g m w L) λU Y ⟨z,H3,N,A,R,S,d,Q,F⟩=>?_;exact a6G N d c n Q A λW G=>⟨σ,_,G,F⟩
end
section
variable {X:Cx}{pins:List (Addr×Obj)}{σ:St}{H:Hp}{s:Shared}{A:Around}{E:Value->Shared->Prop}{Q:Value->Shared->Prop}{c:Value}{b:Bool}
inductive TyOf (K:Fg) (H:Hp):V->Value->Prop where
 | non:TyOf K H .non (.type "NoneType")
 | bl (x:Bool):TyOf K H (.bl x) (.type "bool")
 | int (i:Int):TyOf K H (.int i) (.type "int")
 | str (x:Str):TyOf K H (.str x) (.type "str")
 | flt (x:UInt64):TyOf K H (.flt x) (.type "float")
 | lst {a:Addr} {xs:List V} (e:H a=some (.lst xs)):TyOf K H (.ref a) (.type "list")
 | frz {a:Addr} {o:Obj} {xs:List V} (e:H a=some (.frz o (.lst xs))):TyOf K H (.ref a) (.type "list")
 | tup {a:Addr} {xs:List V} (e:H a=some (.tup xs)):TyOf K H (.ref a) (.type "tuple")
 | dK {a:Addr} {kvs:List (Key×V)} (e:H a=some (.dK kvs)):TyOf K H (.ref a) (.type "dict")
 | dT {a:Addr} {kvs:List (List Key×V)} (e:H a=some (.dT kvs)):TyOf K H (.ref a) (.type "dict")
 | ins {a C dx:Addr} {fs:List (Str×V)} (e:H a=some (.ins C dx fs)) (cl:Cls K C) (ha:PySem.W.findIn K (.ref C) "__class__"=some (some (.builtin "object.__class__")))
   (hn:PySem.W.specialIn K (.builtin "object.__class__") "__get__"=some (some (.builtin "getset_descriptor.__get__"))) (htk:PySem.W.takesIn K (.builtin "object.__class__")=some true)
   (hm:PySem.W.mroIn K C (.type "object")=some true):TyOf K H (.ref a) (.ref C)
theorem b1z (I:Inv X pins σ H s) (rx:RelV x u) (ty:TyOf X.K H x t) (e:PySem.W.kitOne X.K t c=some b) (h:∀ tk,Q (.bool b) { s with toks:=tk }) :
  wpAny (model X.prog X.w) A (call (.builtin "isinstance") [u,c]) Q E s:=by
 cases ty with
 | non=>cases (rx);exact PySem.W.kia_one PySem.W.kitx_none I.kIn True.intro e (λz=>nomatch z) h
 | bl y=>cases (rx);exact PySem.W.kia_one PySem.W.kitx_bool I.kIn True.intro e (λz=>nomatch z) h
 | int i=>obtain⟨t,q⟩:=(rx);cases q;exact PySem.W.kia_one PySem.W.kitx_int I.kIn True.intro e (λz=>nomatch z) h
 | str y=>obtain⟨t,q⟩:=(rx);cases q;exact PySem.W.kia_one PySem.W.kitx_str I.kIn True.intro e (λz=>nomatch z) h
 | flt y=>obtain⟨t,q⟩:=(rx);cases q;exact PySem.W.kia_one PySem.W.kitx_float I.kIn True.intro e (λz=>nomatch z) h
 | @lst a f ea=>
  cases (rx);obtain⟨_,_,n,_,d⟩:=(I.hok a _ ea);exact PySem.W.kia_one PySem.W.kitx_list I.kIn ⟨_,d,rfl⟩ e (λz=>nomatch z) h
 | @frz a ob f ea=>
  cases (rx);obtain⟨_,_,_,n,_,d⟩:=(I.hok a _ ea);exact PySem.W.kia_one PySem.W.kitx_list I.kIn ⟨_,d,rfl⟩ e (λz=>nomatch z) h
 | @tup a f ea=>
  cases (rx);obtain⟨_,_,_,p⟩:=(I.hok a _ ea);obtain⟨o,d,g,_⟩:=p;exact PySem.W.kia_one PySem.W.kitx_tuple I.kIn ⟨o,d,g⟩ e (λz=>nomatch z) h
 | @dK a kvs ea=>
  cases (rx);obtain⟨_,_,l,_,p⟩:=(I.hok a _ ea);obtain⟨o,j,k,d,g,_⟩:=p;exact PySem.W.kia_one PySem.W.kitx_dict I.kIn ⟨o,d,g.1⟩ e (λz=>nomatch z) h
 | @dT a kvs ea=>
  cases (rx);obtain⟨_,_,f,_,o,j,k,d,g,_⟩:=(I.hok a _ ea);exact PySem.W.kia_one PySem.W.kitx_dict I.kIn ⟨o,d,g.1⟩ e (λz=>nomatch z) h
 | @ins a C dx fs ea cl ha hn htk hm=>
  cases (rx);obtain⟨r,O,_⟩:=a67 I.hok ea;obtain⟨m,J,_⟩:=O.look;exact PySem.W.kia_one (PySem.W.kitx_own (cl.get _) cl.hd ha hn htk hm) I.kIn J e (λz=>nomatch z) h
end
structure Room (k:Nat) (A:Around):Prop where
 hd:A.handled=none
 dp:A.depth+3*k+5<recursionLimit
 un:A.units+16*k+200<cLine
theorem Room.mono (r:Room k A) (h:j<=k):Room j A:=⟨r.hd,by have:=r.dp;omega,by have:=r.un;omega⟩
theorem Room.deeper (r:Room (k+1) A) (env:Env):Room k (A.deeper env):=
 ⟨r.hd,by have:=r.dp;show A.depth+1+3*k+5<_;omega,by have:=r.un;show A.units+3+16*k+200<_;omega⟩
theorem Room.in1 (r:Room (k+1) A):Room k A.in1:=
 ⟨r.hd,by have:=r.dp;show A.depth+3*k+5<_;omega,by have:=r.un;show A.units+1+16*k+200<_;omega⟩
theorem b0E {A:Around}:(A.under (.builtin "type.__call__" ⟨.ref C::us,kw⟩)).depth=A.depth+1:=rfl
theorem b0F {A:Around}:(A.under (.builtin "type.__call__" ⟨.ref C::us,kw⟩)).units=A.units+1:=rfl
theorem Room.make (r:Room (k+1) A) (C:Addr) (us:List Value) (kw:List (Str×Value)):Room k (A.under (.builtin "type.__call__" ⟨.ref C::us,kw⟩)):=
 ⟨r.hd,by have:=r.dp;rw[b0E];omega,by have:=r.un;rw[b0F];omega⟩
theorem Room.depth (r:Room k A):A.depth<recursionLimit:=by have:=r.dp;omega
theorem Room.units (r:Room k A):A.units+64<cLine:=by have:=r.un;omega
noncomputable def tNil:TA:=λ_ H Q=>Q [] H
noncomputable def b95 (ta:TE) (tr:TA):TA:=fun σ H Q=>ta σ H λx H1=>tr σ H1 λxs H2=>Q (x::xs) H2
section
variable {X:Cx}{e:Expr}{es:List Expr}{te:TE}{t:TA}{pos:Pos}
theorem b7G:PA X [] tNil:=λ_ _ _ _ H Q I h=>Calls.spliced_nil ⟨[],H,I,.nil,h⟩
theorem b5R (ha:PE X e te) (hr:PA X es t) (hs:jE (e::es) X.env=(false,eval e X.env)::jE es X.env:=by rfl):PA X (e::es) (b95 te t):=by
 intro b a s σ H Q I h;rw[hs];refine Calls.spliced_cons (thn (ha a s σ H _ I h) λu j ⟨x,d,k,c,g⟩=>?_);exact thn (hr b a j σ d _ k g) λp o ⟨i,f,l,m,n⟩=>⟨x::i,f,l,.cons c m,n⟩
noncomputable def tTup (t:TA):TE:=fun σ H Q=>t σ H λxs H1=>xs.length<=jC/\∀ p,H1 p=none->Q (.ref p) (upd H1 p (.tup xs))
noncomputable def tLst (t:TA):TE:=fun σ H Q=>t σ H λxs H1=>xs.length<=jC/\∀ p,H1 p=none->Q (.ref p) (upd H1 p (.lst xs))
theorem b7H (h:PA X es t):PE X (.Tuple es x1 pos) (tTup t):=by
 intro c s σ H Q I i;refine wpAny_Tuple_spliced (thn (h pos c s σ H _ I i) λk a ⟨g,d,f,r,z,q⟩=>⟨by rw[<- r.length];exact z,?_⟩);have j:=f.hok.fresh (eB _);refine⟨.ref a.heap.objs.size,upd d a.heap.objs.size _,f.laid (λb u e=>Heap.get?_push_of_some _ e) (eB _) ?_,rfl,q _ j⟩;exact⟨z,k,r,⟨_,Heap.get?_push_size _ rfl,rfl,_,rfl⟩⟩
theorem b7I (h:PA X es t):PE X (.List es pos) (tLst t):=by
 intro c s σ H Q I j;refine wpAny_List_spliced (thn (h pos c s σ H _ I j) λi a ⟨k,d,f,r,z,q⟩=>⟨by rw[<- r.length];exact z,?_⟩);have g:=f.hok.fresh (eB _);refine⟨.ref a.heap.objs.size,upd d a.heap.objs.size _,f.laid (λb u e=>Heap.get?_push_of_some _ e) (eB _) ?_,rfl,q _ g⟩;exact⟨z,i,0,r,Heap.get?_push_size _ rfl⟩
end
abbrev Sp:=List V->Hp->VK->XK->Prop
abbrev CXT:=List Env->Hp->Shared->XK->Value->Shared->Prop
structure Env0 (P:jH) (w:World) (K:Fg) (mg:Str->Option Value) (base:Heap) (A:Around) (outer:List Env) (s:Shared) (H:Hp):Prop where
 frames:A.frames=some outer
 mod:Mod K mg base
 bs:∀ b o,base.get? b=some o->s.heap.get? b=some o/\H b=none
 bsz:base.objs.size<=s.heap.objs.size
 funs:s.heap.FunFrames base outer
 frf:∀ b∈frs outer,H b=none
 hok:HOk P w H s.heap
 bare:j6 s.gens
noncomputable def CE (outer:List Env) (P:jH) (w:World) (H:Hp) (s:Shared) (Q:VK) (u:Value) (s':Shared):Prop:=
 ∃ v H',s'.os=s.os/\j6 s'.gens/\Un (frs outer) [] H H' s.heap s'.heap/\HOk P w H' s'.heap/\RelV v u/\Q v H'
noncomputable def CR (CX:CXT) (outer:List Env) (P:jH) (w:World) (H:Hp) (s:Shared) (Q:VK) (E:XK) (r:Result) (s':Shared):Prop:=
 match r with
 | .ok (.ret u)=>CE outer P w H s Q u s'
 | .ok _=>False
 | .error e=>CX outer H s E e s'
structure FnOk (P:jH) (w:World) (K:Fg) (mg:Str->Option Value) (base:Heap) (CX:CXT) (k:Nat) (f:Addr) (fd:jI) (ps:List Str) (sp:Sp):Prop where
 len:∀ vs H Q E,sp vs H Q E->vs.length=ps.length
 run:∀ (A:Around) (outer:List Env) (s:Shared) (H:Hp) (args:Args) (us:List Value) (vs:List V) (Q:VK) (E:XK),Room k A->Env0 P w K mg base A outer s H->kA s fd args (ps.zip us)->Vals vs us->sp vs H Q E ->
  j9 (model P w) A (.call (.ref f) args) (CR CX outer P w H s Q E) s
theorem FnOk.mono {K:Fg}(F:FnOk P w K mg base CX j f fd ps sp) (h:j<=k) :
  FnOk P w K mg base CX k f fd ps sp:=⟨F.len,λA a s H b c e Q E d=>F.run A a s H b c e Q E (d.mono h)⟩
theorem FnOk.imp {K:Fg}(F:FnOk P w K mg base CX k f fd ps sp)
  (h:∀ vs H Q E,sp' vs H Q E->sp vs H Q E):FnOk P w K mg base CX k f fd ps sp':=
 ⟨λb H Q E q=>F.len b H Q E (h _ _ _ _ q),λA a s H c d b Q E j i g l e=>F.run A a s H c d b Q E j i g l (h _ _ _ _ e)⟩
theorem Env0.make {K:Fg}(e:Env0 P w K mg base A outer s H) (C:Addr) (us:List Value) (kw:List (Str×Value)) :
  Env0 P w K mg base (A.under (.builtin "type.__call__" ⟨.ref C::us,kw⟩)) outer s H:=⟨by first | exact e.frames | (simpa using e.frames),e.mod,e.bs,e.bsz,e.funs,e.frf,e.hok,e.bare⟩
theorem Env0.in1 {K:Fg}(e:Env0 P w K mg base A outer s H) :
  Env0 P w K mg base A.in1 outer s H:=⟨e.frames,e.mod,e.bs,e.bsz,e.funs,e.frf,e.hok,e.bare⟩
section
variable {X:Cx}{pins:List (Addr×Obj)}{σ:St}{H:Hp}{s s':Shared}
theorem Inv.env0 (I:Inv X pins σ H s):Env0 X.prog X.w X.K X.mg X.base X.A X.stack s H:=
 ⟨I.ok.frames,I.ok.mod,I.bs,eM I.ok.bsz I.sz,I.stack,I.stkFree,I.hok,I.bare⟩
theorem Inv.after (I:Inv X pins σ H s) (h:CE X.stack X.prog X.w H s Q u s'):EP X pins σ Q u s':=by
 obtain⟨v,H',j,a,f,c,r,q⟩:=h;obtain⟨i,g,d,t,e⟩:=s';obtain rfl:e=s.os:=j;exact⟨v,H',I.call f c a (λb z=>absurd z (by simp)),r,q⟩
end
noncomputable def b96 (sp:Sp) (dvs:List V) (E:XK) (t:TA):TE:=fun σ H Q=>t σ H λvs H1=>sp (vs++dvs) H1 Q E
noncomputable def b5S (C:Addr) (m:Str) (sp:Sp) (dvs:List V) (E:XK) (ta:TE) (t:TA):TE:=fun σ H Q=>ta σ H λx H1=>∃ a dx fs,x=.ref a/\H1 a=some (.ins C dx fs)/\fs.lookup m=none /\
 t σ H1 λvs H2=>sp (x::(vs++dvs)) H2 Q E
noncomputable def b97 (C:Addr) (sp:Sp) (dvs:List V) (E:XK) (t:TA):TE:=fun σ H Q=>t σ H λvs H1=>∀ x dx,H1 x=none->H1 dx=none->dx≠x ->
 sp (.ref x::(vs++dvs)) (upd (upd H1 dx (.own x)) x (.ins C dx [])) (λv H2=>v=.non/\Q (.ref x) H2) E
noncomputable def Binds (K:Fg) (fd:jI) (ps:List Str) (ds:List Value):Prop:=
 ∀ (s:Shared) (us:List Value),K.In s.heap->(us++ds).length=ps.length->kA s fd ⟨us,[]⟩ (ps.zip (us++ds))
theorem Binds.all {K:Fg}(h:∀ us:List Value,us.length=ps.length->bindArgs fd ⟨us,[]⟩=pure (ps.zip us)):Binds K fd ps []:=λs b _ a=>by
 rw[eW]at a ⊢;exact .of_eq (h b a)
noncomputable def a2T (CX:CXT) (X:Cx) (E:XK):Prop:=∀ (pins:List (Addr×Obj)) (σ:St) (H:Hp) (s:Shared) (e:Value) (s':Shared),Inv X pins σ H s->CX X.stack H s E e s'->X.xe e s'
section
variable {X:Cx}{CX:CXT}{k:Nat}{f C:Addr}{fd:jI}{ps:List Str}{sp:Sp}{dvs:List V}{ds:List Value}{E:XK}{x m:Str}{p pos apos:Pos}{e o:Expr}{es:List Expr}{ta:TE}{t:TA}
theorem b1A (F:FnOk X.prog X.w X.K X.mg X.base CX k f fd ps sp) (hr:Room k X.A) (hb:Binds X.K fd ps ds) (hd:Vals dvs ds) (hx:a2T CX X E)
  (I:Inv X pins σ H s) (r:Vals vs us) (h:sp (vs++dvs) H Q E):wpAny (model X.prog X.w) X.A (call (.ref f) us) (EP X pins σ Q) X.xe s:=by
 have b:=r.append hd;have d:(us++ds).length=ps.length:=by rw[<- b.length];exact F.len _ _ _ _ h
 refine wpAny_call (kU (F.run X.A X.stack s H ⟨us,[]⟩ (us++ds) _ Q E hr I.env0 (hb s us I.kIn d) b h) λr c a=>?_);cases r with
 | error e=>exact hx pins σ H s e c I a
 | ok fl=>
  cases fl with
  | ret u=>exact I.after a
  | next=>exact eC a
  | brk=>exact eC a
  | cont=>exact eC a
theorem b1B (F:FnOk X.prog X.w X.K X.mg X.base CX k f fd ps sp) (hr:Room k X.A) (hg:Gl X x) (hm:X.mg x=some (.ref f)) (hk:PySem.W.keepIn X.K (.ref f)=true) (hb:Binds X.K fd ps ds) (hd:Vals dvs ds) (hx:a2T CX X E)
  (ha:PA X (e::es) t) (hdb:(x==("__debug__":Str))=false:=by decide) (he:jE (e::es) X.env=(false,eval e X.env)::jE es X.env:=by rfl) (hpl:(backTo pos (jE es X.env)).any (·.1)=false:=by rfl) :
  PE X (.Call (.Name x p) (e::es) [] pos) (b96 sp dvs E t):=by
 intro a s σ H Q I h;refine kW (a66 I hg hm ?_ hdb);refine PySem.W.callWith_K I.ok.mod.kin hk (thn (ha pos a s σ H _ I h) λi d ⟨c,g,b,r,q⟩=>⟨b.kIn,?_⟩) he hpl;exact b1A F hr hb hd hx b r q
theorem b1C (he:PE X o ta) (c:Cls X.K C) (hm:Meth X.K C m f) (F:FnOk X.prog X.w X.K X.mg X.base CX k f fd ps sp) (hr:Room k X.A) (hb:Binds X.K fd ps ds) (hd:Vals dvs ds) (hx:a2T CX X E) (ha:PA X (e::es) t)
  (hst:jE (e::es) X.env=(false,eval e X.env)::jE es X.env:=by rfl) (hpl:(backTo pos (jE es X.env)).any (·.1)=false:=by rfl)
  (ht:eval (.Call (.Attribute o m apos) (e::es) [] pos) X.env=(do
   let ov <- eval o X.env
   j7 apos.atName
   let (f,first) <- jV [ov] (ko ov m pl)
   kJ pos f first (backTo pos (jE (e::es) X.env)) (kq pos (kr [] X.env))):=by rfl) :
  PE X (.Call (.Attribute o m apos) (e::es) [] pos) (b5S C m sp dvs E ta t):=by
 intro b s σ H Q I h;refine PySem.W.methodCall_KW (thn (he b s σ H _ I h) λu z ⟨x,p,i,n,a,dx,fs,v,y,l,q⟩=>?_) ht;subst v;obtain rfl:u=Value.ref a:=n;refine a6F i y c hm l ?_;refine PySem.W.callWith_K I.ok.mod.kin hm.kp (thn (ha pos b z σ p _ i q) λus s2 ⟨vs,H2,g,r,B⟩=>⟨g.kIn,?_⟩) hst hpl;exact b1A (vs:=.ref a::vs) F hr hb hd hx g (.cons rfl r) B
theorem b3A (he:PE X o ta) (c:Cls X.K C) (hm:Meth X.K C m f) (F:FnOk X.prog X.w X.K X.mg X.base CX k f fd ps sp) (hr:Room k X.A) (hb:Binds X.K fd ps ds) (hd:Vals dvs ds) (hx:a2T CX X E)
  (ht:eval (.Call (.Attribute o m apos) [] [] pos) X.env=(do
   let ov <- eval o X.env
   j7 apos.atName
   let (f,first) <- jV [ov] (ko ov m pl)
   kJ pos f first (backTo pos (jE [] X.env)) (kq pos (kr [] X.env))):=by rfl) :
  PE X (.Call (.Attribute o m apos) [] [] pos) (b5S C m sp dvs E ta tNil):=by
 intro b s σ H Q I h;refine PySem.W.methodCall_KW (thn (he b s σ H _ I h) λu j ⟨x,r,d,i,a,p,n,g,e,l,q⟩=>?_) ht;subst g;obtain rfl:u=Value.ref a:=i;refine a6F d e c hm l ?_;exact PySem.W.callWith_K0 d.kIn hm.kp (b1A (vs:=[.ref a]) F hr hb hd hx d (.cons rfl .nil) q)
structure Mk (K:Fg) (C f:Addr):Prop where
 makes:PySem.W.makesIn K C=true
 init:PySem.W.findIn K (.ref C) "__init__"=some (some (.ref f))
 fn:PySem.W.isFn K (.ref f)=true
 kp:PySem.W.keepIn K (.ref C)=true
theorem b3B (M:Mk X.K C f) (F:FnOk X.prog X.w X.K X.mg X.base CX k f fd ps sp) (hr:Room (k+1) X.A) (hb:Binds X.K fd ps ds) (hd:Vals dvs ds)
  (hx:a2T CX X E) (I:Inv X pins σ H s) (r:Vals vs us)
  (h:∀ x dx,H x=none->H dx=none->dx≠x->sp (.ref x::(vs++dvs)) (upd (upd H dx (.own x)) x (.ins C dx [])) (λv H2=>v=.non/\Q (.ref x) H2) E) :
  wpAny (model X.prog X.w) X.A (call (.ref C) us) (EP X pins σ Q) X.xe s:=by
 have d:=h _ s.heap.objs.size (I.hok.fresh (gz _)) (I.hok.fresh (eB _)) (eO (iV _));have b:=Inv.made (C:=C) I;have c:Vals (V.ref (s.heap.objs.size+1)::_) _:=.cons rfl (r.append hd);have g:(Value.ref (s.heap.objs.size+1)::us++ds).length=ps.length:=by
  have e:=c.length;rw[F.len _ _ _ _ d]at e;exact e.symm
 refine wpAny_call (b3z I.kIn M.makes M.init (beq_iff_eq.mp M.fn) (kU (F.run _ X.stack _ _ ⟨Value.ref (s.heap.objs.size+1)::us,[]⟩ _ _ _ E (hr.make C us [])
  (b.env0.make C us []) (hb _ _ b.kIn g) c d) λr m a=>?_))
 cases r with
 | error e=>exact hx pins σ _ _ e m b a
 | ok fl=>
  cases fl with
  | ret u=>
   obtain⟨v,H',I3,j,l,i⟩:=b.after a;subst l;exact⟨j,⟨V.ref (s.heap.objs.size+1),H',I3,rfl,i⟩⟩
  | next=>exact eC a
  | brk=>exact eC a
  | cont=>exact eC a
theorem b3C (M:Mk X.K C f) (F:FnOk X.prog X.w X.K X.mg X.base CX k f fd ps sp) (hr:Room (k+1) X.A) (hg:Gl X x) (hm:X.mg x=some (.ref C)) (hb:Binds X.K fd ps ds) (hd:Vals dvs ds) (hx:a2T CX X E)
  (hdb:(x==("__debug__":Str))=false:=by decide):PE X (.Call (.Name x p) [] [] pos) (b97 C sp dvs E tNil):=by
 intro a s σ H Q I h;refine kW (a66 I hg hm ?_ hdb);exact PySem.W.callWith_K0 I.kIn M.kp (b3B M F hr hb hd hx I .nil h)
end
section
variable {X:Cx}{CX:CXT}{k:Nat}{f C:Addr}{fd:jI}{ps ks:List Str}{sp:Sp}{E:XK}{x m:Str}{p pos apos kpos:Pos}{e o:Expr}{es:List Expr}{kws:List kK}{te ta:TE}{t tk:TA}{nm:Option Str}
variable {g:List Value->List Value->List Value}{gV:List V->List V->List V}
end
structure FnScope (N P:List Str) (sc:Scope):Prop where
 kind:sc.kind=.function
 co:sc.isCoroutine=false
 gen:sc.isGenerator=false
 nd:N.Nodup
 pre:N.take P.length=P
 par:∀ x∈P,sc.names.lookup x=some .local\/sc.names.lookup x=some .cell
 nofree:∀ y∈sc.names,y.2≠.free
theorem a7Q {kindOf:Str->Option jM}:∀ {binds:List (Str×Value)}{m:Str->Option Value},(∀ v,(x,v)∉binds)->bindL kindOf binds m x=m x
 | [],_,_=>rfl
 | (n,v)::r,m,h=>by
  unfold bindL;rw[a7Q λw a=>h w (fE _ a)]
  split
  ·have:x≠n:=by rintro rfl;exact h v fJ
   simp[this]
  ·rfl
theorem a7R {kindOf:Str->Option jM}:∀ {binds:List (Str×Value)}{m:Str->Option Value},(∀ v,(x,v)∉binds)->bindC kindOf binds m x=m x
 | [],_,_=>rfl
 | (n,v)::r,m,h=>by
  unfold bindC;rw[a7R λw a=>h w (fE _ a)]
  split
  ·rfl
  ·have:x≠n:=by rintro rfl;exact h v fJ
   simp[this]
theorem a7S {kindOf:Str->Option jM}:∀ {P:List Str}{vs:List Value}{i:Nat}{m:Str->Option Value},P.Nodup->P[i]?=some x->vs[i]?=some v->kindOf x=some .local ->
  bindL kindOf (P.zip vs) m x=some v
 | [],_,_,_,_,h,_,_=>by simp at h
 | _::_,[],_,_,_,_,h,_=>by simp at h
 | p::P,w::vs,0,m,nd,h1,h2,hk=>by
  simp at h1 h2;subst h1;subst h2
  show bindL kindOf (_::P.zip vs) m p=_
  unfold bindL;rw[a7Q λv a=>(fF.mp nd).1 (ip a).1,if_pos hk];simp
 | p::P,w::vs,i+1,m,nd,h1,h2,hk=>by
  unfold bindL;exact a7S (fF.mp nd).2 (by simpa using h1) (by simp_all) hk
theorem a7T {kindOf:Str->Option jM}:∀ {P:List Str}{vs:List Value}{i:Nat}{m:Str->Option Value},P.Nodup->P[i]?=some x->vs[i]?=some v->kindOf x≠some .local ->
  bindC kindOf (P.zip vs) m x=some v
 | [],_,_,_,_,h,_,_=>by simp at h
 | _::_,[],_,_,_,_,h,_=>by simp at h
 | p::P,w::vs,0,m,nd,h1,h2,hk=>by
  simp at h1 h2;subst h1;subst h2
  show bindC kindOf (_::P.zip vs) m p=_
  unfold bindC;rw[a7R λv a=>(fF.mp nd).1 (ip a).1,if_neg hk];simp
 | p::P,w::vs,i+1,m,nd,h1,h2,hk=>by
  unfold bindC;exact a7T (fF.mp nd).2 (by simpa using h1) (by simp_all) hk
noncomputable def start (N:List Str) (vs:List V):St:=vs.map some++gZ (N.length - vs.length) none
noncomputable def cxOf (CX:CXT) (P:jH) (w:World) (K:Fg) (mg:Str->Option Value) (base:Heap) (N:List Str) (qual:Str) (scope:Scope) (f:Addr) (cd:Value) (A:Around) (outer:List Env) (s:Shared) (H:Hp) (E:XK):Cx where
 prog:=P
 w:=w
 K:=K
 mg:=mg
 base:=base
 A:=A.deeper (envOfC qual scope s.heap.objs.size f cd)
 N:=N
 s₀:=s
 H₀:=H
 env:=envOfC qual scope s.heap.objs.size f cd
 outer:=outer
 stack:=envOfC qual scope s.heap.objs.size f cd::outer
 ex:=[]
 calm:=true
 fn:=λ_=>true
 pn:=[]
 xe:=λe s'=>wpAny (model P w) (A.deeper (envOfC qual scope s.heap.objs.size f cd)) (kZ (envOfC qual scope s.heap.objs.size f cd) e) (λ_ s''=>CX outer H s E e s'') (λe' s''=>CX outer H s E e' s'') s'
theorem a5o {sc:Scope}(h:sc.names.lookup x=some .cell):∃ c,(jN n sc.names []).lookup x=some c:=by
 have q:=PySem.W.cellsFrom_some sc.names n [] (.inl h);exact iW.mp q
theorem b1D {K:Fg}
  (S:FnScope N ps scope) (hd:A.handled=none) (e0:Env0 P w K mg base A outer s H) (hl:vs.length=ps.length) (r:Vals vs us)
  (x:InCallC s s.heap.objs.size (bindL (envOfC qual scope s.heap.objs.size f cd).kindOf (ps.zip us) λ_=>none) (jN (s.heap.objs.size+1) scope.names []) (bindC (envOfC qual scope s.heap.objs.size f cd).kindOf (ps.zip us) λ_=>none) s1) :
  Inv (cxOf CX P w K mg base N qual scope f cd A outer s H E) [] (start N vs) H s1:=by
 have G:ps.length<=N.length:=by have:=congrArg fb S.pre;rw[eL]at this;omega
 obtain⟨m,J,rfl,C⟩:=x.done;have l:∀ b:Addr,b∉(cxOf CX P w K mg base N qual scope f cd A outer s H E).ex:=λb z=>absurd (show b∈([]) from z) (by simp);refine⟨⟨e0.mod,S.kind,rfl,rfl,eB _,λy z c m d=>?_,λy g=>?_,λy c _ h=>?_,λ_=>hd,Around.frames_deeper e0.frames,.inr ⟨rfl,rfl⟩,λb z=>absurd z (l b),e0.bs,e0.bsz,λb _ _=>l b,λb z=>absurd z (l b),e0.funs,e0.frf⟩,
  rfl,e0.bare,Un.kept C,⟨_,x.toInCall.ns,λi y v m d I=>?_⟩,λy c h=>⟨_,x.cell y c h⟩,e0.hok.fresh (eB _),λy c h=>?_,λp j=>absurd (show p∈([]) from j) (by simp),e0.hok.kept C,?_⟩
 ·exact name_of_addr x.apart (PySem.mem_of_lookup m) (PySem.mem_of_lookup d)
 ·have g:=g;rcases g with g | g
  ·exact a5o g
  ·exact absurd rfl (S.nofree _ (PySem.mem_of_lookup g))
 ·exact fT (x.above y c (PySem.mem_of_lookup h))
 ·have o:i<vs.length:=by
   unfold start at d
   by_cases o:i<vs.length
   ·exact o
   ·rw[g4 (by simp_all)]at d;rw[List.getElem?_replicate]at d
    split at d<;>cases d
  have F:vs[i]?=some v:=by
   unfold start at d;rw[iq (by simpa using o),eK]at d;cases e:vs[i]? with
   | none=>rw[e]at d;cases d
   | some a=>rw[e]at d;cases d;rfl
  obtain⟨u,B,D⟩:=r.get F;have j:ps[i]?=some y:=by
   rw[<- S.pre,List.getElem?_take_of_lt (by omega)];exact m
  have t:ps.Nodup:=by rw[<- S.pre];exact S.nd.sublist (ir _ _)
  refine⟨u,D,?_⟩;rcases S.par y (eR j) with k | k
  ·exact .inl ⟨k,a7S t j B k⟩
  ·obtain⟨c,e⟩:=a5o k;refine .inr ⟨.inl k,c,e,?_⟩;have q:=x.cell y c e;rw[a7T t j B (by show scope.names.lookup y≠_;rw[k];decide)]at q;exact q
 ·exact e0.hok.fresh (fT (x.above y c (PySem.mem_of_lookup h)))
 ·unfold start
  show _=N.length
  rw[eE,er,List.length_replicate];omega
theorem b7J {K:Fg}{dV kV doc pm cdv ct oc:Value}
 (lk:K.lookup f=some ⟨oc,od,.func (PySem.W.fnOf name qual params body scope dV kV doc pm an cdv ct),osl⟩) (hcd:PySem.W.codeIn K cdv qual=true) (S:FnScope N ps scope)
    (len:∀ vs H Q E,sp vs H Q E->vs.length=ps.length)
    (hbody:∀ (A:Around) (outer:List Env) (s:Shared) (H:Hp) (vs:List V) (Q:VK) (E:XK),Room k (A.deeper (envOfC qual scope s.heap.objs.size f cdv))->sp vs H Q E ->
      ∃ t,PSs (cxOf CX P w K mg base N qual scope f cdv A outer s H E) body t/\t { nx:=λ_ H'=>Q .non H',rt:=Q } (start N vs) H) :
    FnOk P w K mg base CX (k+1) f (PySem.W.fnOf name qual params body scope dV kV doc pm an cdv ct) ps sp:=by
  refine⟨len,λA a s H L F m Q E z g R r i=>?_⟩;have M:=len _ _ _ _ i;have C:=g.mod.kin.keeps λb o e=>(g.bs b o e).1;have D:=g.mod.nolimit.keeps λb o e=>(g.bs b o e).1;have h:∀ y∈ps.zip F,scope.names.lookup y.1=some .local\/(scope.names.lookup y.1=some .cell/\((jN (s.heap.objs.size+1) scope.names []).lookup y.1).isSome=true):=λ⟨n,v⟩ G=>by
    rcases S.par n (ip G).1 with q | q
    · exact .inl q
    · exact .inr ⟨q,PySem.W.cellsFrom_some _ _ _ (.inl q)⟩
  refine codeAny_call_function z.depth (C _ _ lk) rfl S.co S.gen rfl (PySem.W.codeRec_of C hcd) (R _ _ _ _ ?_);refine wpAny_newFunctionEnv_cells S.kind h λaa Y B x=>?_;subst Y;refine⟨D.keeps x.toInCall.keep,codeAny_func ?_⟩;obtain⟨t,T,U⟩:=hbody A a s H m Q E (z.deeper _) i;have I:Inv (cxOf CX P w K mg base N qual scope f cdv A a s H E) [] _ H B:=b1D S z.hd g M r x;refine jP (T [] B _ H _ I U) (λX p c=>?_) λe p c=>c;have j:∀ {σ':St}{d:Hp}{v:V}{u:Value},Inv (cxOf CX P w K mg base N qual scope f cdv A a s H E) [] σ' d p->RelV v u->Q v d->CE a P w H s Q u p:=
    λ{σ' d v u} J l q=>⟨v,d,J.os,J.bare,J.base,J.hok,l,q⟩
  cases X with
  | ret u=>
    obtain⟨v,σ',d,J,l,q⟩:=c;exact j J l q
  | next=>
    obtain⟨σ',d,J,q⟩:=c;exact j (v:=V.non) J rfl q
  | brk=>
    obtain⟨_,_,_,q⟩:=c;exact eC q
  | cont=>
    obtain⟨_,_,_,q⟩:=c;exact eC q
section
variable {X:Cx}{x:Str}{p pos:Pos}{e:Expr}{es:List Expr}{t:TA}{id T:String}{r:List V->Hp->VK->Prop}
noncomputable def tCB (r:List V->Hp->VK->Prop) (t:TA):TE:=fun σ H Q=>t σ H λvs H1=>r vs H1 Q
theorem b3D (hc:CallR X (.builtin id) r) (hg:Gl X x) (hm:X.mg x=none) (hv:ke x=some (.builtin id)) (ha:PA X (e::es) t) (hn:x≠"__name__":=by decide) (hdb:(x==("__debug__":Str))=false:=by decide)
  (he:jE (e::es) X.env=(false,eval e X.env)::jE es X.env:=by rfl) (hpl:(backTo pos (jE es X.env)).any (·.1)=false:=by rfl):PE X (.Call (.Name x p) (e::es) [] pos) (tCB r t):=by
 intro a s σ H Q I h;refine kW (a6C I hg hm hv ?_ hn hdb);exact PyProof.Rows.callWith_builtin1 (thn (ha pos a s σ H _ I h) λg c ⟨b,f,i,d,j⟩=>hc a c σ f b g Q i d j) he hpl
theorem b1E (hc:CallR X (.type T) r) (hg:Gl X x) (hm:X.mg x=none) (hv:ke x=some (.type T)) (ha:PA X (e::es) t) (hn:x≠"__name__":=by decide) (hdb:(x==("__debug__":Str))=false:=by decide)
  (he:jE (e::es) X.env=(false,eval e X.env)::jE es X.env:=by rfl) (hpl:(backTo pos (jE es X.env)).any (·.1)=false:=by rfl):PE X (.Call (.Name x p) (e::es) [] pos) (tCB r t):=by
 intro a s σ H Q I h;refine kW (a6C I hg hm hv ?_ hn hdb);exact PyProof.Rows.callWith_type1 (thn (ha pos a s σ H _ I h) λj f ⟨b,g,d,i,c⟩=>hc a f σ g b j Q d i c) he hpl
end
end L2
namespace HT
open PySem PyProof.Rows
section
open PySem.SeqAt
open PySem.AutoSeq1 (wpAny_loadPart')
open PySem.MeetsSeq PySem.MeetsSeq2 PySem.MeetsSeq3
end
section
variable {prog:jH}{w:World}{A:Around}{E:Value->Shared->Prop}{s:Shared}
theorem cat_tup (ht:IsTup s.heap t vs.toArray) (hb:IsTup s.heap b ws.toArray) (hv:vs≠[])
  (h1:ws=[]->Q (.ref t) s) (h2:ws≠[]->Q (.ref s.heap.objs.size) { s with heap:=s.heap.push { cls:=.type "tuple",data:=.seq (vs++ws).toArray } })
  (hsz:vs.length+ws.length<=jC):wpAny (model prog w) A (jR .Add (.ref t) (.ref b)) Q E s:=by
 obtain⟨⟨r,j,p,k⟩,c,l,n,m⟩:=id ht;obtain⟨⟨q,f,o,h⟩,a,g,i,d⟩:=id hb;subst l m g d;have e:vs.toArray++ws.toArray=(vs++ws).toArray:=by simp
 by_cases hw:ws=[]
 ·exact concat_meets ⟨_,c,rfl⟩ ⟨_,a,rfl⟩ noFill_tuple_add seq_tuple_add PySem.F.slot_tuple_add PySem.F.entry_tuple_add (PySem.F.args_tuple_add_2 _ _)
   (tuple_addW1 t b vs.toArray ws.toArray n i j f k h (by simp_all) (by grind)) ⟨c,a,h1 hw⟩
 ·refine concat_meets ⟨_,c,rfl⟩ ⟨_,a,rfl⟩ noFill_tuple_add seq_tuple_add PySem.F.slot_tuple_add PySem.F.entry_tuple_add (PySem.F.args_tuple_add_2 _ _)
   (tuple_addW2 t b vs.toArray ws.toArray n i j f k h (by simp_all) (by simp_all) (by omega)) ⟨c,a,?_⟩
  rw[e];exact h2 hw
noncomputable def sIx (n d:Nat):Option Int->Nat
 | none=>d
 | some v=>if v<0 then (v+(n:Int)).toNat else min v.toNat n
theorem sIx_none (n d:Nat):sIx n d none=d:=rfl
theorem sIx_nat (n d k:Nat):sIx n d (some (k:Int))=min k n:=rfl
theorem c1p (n d:Nat) (hd:d<=n) (o:Option Int):sIx n d o<=n:=by
 cases o with
 | none=>exact hd
 | some v=>
  show (if v<0 then (v+n).toNat else min v.toNat n)<=n
  by_cases hv:v<0
  ·grind
  ·rw[if_neg hv];exact Nat.min_le_right _ _
theorem b1F (v:Int) (n d:Nat):(if v<0 then max (v+(n:Int)) 0 else min v (n:Int))=((sIx n d (some v):Nat):Int):=by grind [sIx]
theorem b0G (lo hi:Option Int) (n:Nat):jO.Slice.sliceAdjust lo hi 1 (n:Int)=(((sIx n 0 lo:Nat):Int),((sIx n n hi:Nat):Int)):=by
 unfold jO.Slice.sliceAdjust;refine Prod.ext ?_ ?_
 ·cases lo with
  | none=>rfl
  | some v=>exact b1F v n 0
 ·cases hi with
  | none=>rfl
  | some v=>exact b1F v n n
theorem b0H (i j:Nat):jO.Slice.slicePlaces (i:Int) (j:Int) 1=j - i:=by
 unfold jO.Slice.slicePlaces;simp
 split<;>omega
theorem a6H (p:IsPart v o) (h:Q o s):wpAny (model prog w) A (jO.Slice.slicePartIndex v) Q E s:=by
 cases p with
 | none=>exact slicePart_none h
 | int i t=>exact slicePart_int h
theorem a49 {lo hi:Option Int}{n:Nat}(hs:s.heap.IsSliceOf sl vl vu .none) (pl:IsPart vl lo) (pu:IsPart vu hi)
  (h:Q (((sIx n 0 lo:Nat):Int),1,sIx n n hi - sIx n 0 lo) s):wpAny (model prog w) A (jO.Slice.sliceApplied (.ref sl) (pure (n:Int))) Q E s:=by
 obtain⟨d,a,c,b⟩:=id hs;refine jB (jB (kB a b rfl (jB (kB a b rfl (jB (kB a b rfl (jK ?_)))))));refine jB (slicePart_none ?_);refine jB (a6H pl (jB (a6H pu (jB (jK ?_)))))
 show wpAny _ _ (match jO.Slice.sliceAdjust lo hi 1 n with | (lo,hi)=>pure (lo,_,jO.Slice.slicePlaces lo hi 1)) _ _ s
 rw[b0G lo hi n]
 show wpAny _ _ (pure _) _ _ s
 rw[b0H];exact jK h
theorem b3E (xs:Array Value) (i k:Nat):((fY k).filterMap λ(m:Nat)=>xs[((i:Int)+(m:Int)*1).toNat]?).toArray=((xs.toList.drop i).take k).toArray:=by
 have e:(λ(m:Nat)=>xs[(i+(m:Int)*1).toNat]?)=λm=>xs[i+m]?:=by
  funext m
  have:(i+(m:Int)*1).toNat=i+m:=by omega
  rw[this]
 rw[e]
 have:=pick_run xs i k
 rw[iX]at this;have a:(_∘λx=>i+x)=λm=>xs[i+m]?:=rfl;rw[a]at this;rw[this]
theorem getItem_tuple_cut {lo hi:Option Int}(ht:IsTup s.heap t items) (hs:s.heap.IsSliceOf sl vl vu .none) (pl:IsPart vl lo) (pu:IsPart vu hi)
  (hw:¬ (sIx items.size 0 lo=0/\sIx items.size items.size hi=items.size))
  (h:Q (.ref s.heap.objs.size) { s with heap:=s.heap.push { cls:=.type "tuple",data:=.seq ((items.toList.drop (sIx items.size 0 lo)).take (sIx items.size items.size hi - sIx items.size 0 lo)).toArray } })
  (hsz:items.size<=jC):wpAny (model prog w) A (kL (.ref t) (.ref sl)) Q E s:=by
 have a:sizeOk (.seq ((items.toList.drop (sIx items.size 0 lo)).take (sIx items.size items.size hi - sIx items.size 0 lo)).toArray):=by
  show ((items.toList.drop (sIx items.size 0 lo)).take (sIx items.size items.size hi - sIx items.size 0 lo)).toArray.size<=jC
  rw[fk,eL,fm,gc];omega
 obtain⟨f,d,e,g⟩:=id hs;have b:s.TypeIs (.ref sl) "slice":=⟨f,d,e⟩;unfold kL
 try with_reducible refine jY ?_
 refine jB (wpAny_sequenceKey ht.typeIs (by decide) ?_);refine jB (wpAny_callSpecial?_slot ht.typeIs PyProof.Rows.slot_tuple_getitem
  (lF PyProof.Rows.slot_tuple_getitem ht.typeIs entry_tuple_getitem ?_ (args_tuple_getitem _ _)))
 show wpAny _ _ (jO.Tuple.tupleItemsOf _ >>= _) _ _ s
 refine jB (tupleItemsOf_ ht ?_);refine jB (wpAny_typeOf b ?_);refine jB (a49 hs pl pu ?_);have c:¬ ((((sIx items.size 0 lo):Int)==0&&(1:Int)==1&&(sIx items.size items.size hi - sIx items.size 0 lo)==items.size)=true):=by grind
 show wpAny _ _ (if (((sIx items.size 0 lo):Int)==0&&(1:Int)==1&&(sIx items.size items.size hi - sIx items.size 0 lo)==items.size)=true then _ else _) _ _ s
 rw[if_neg c,b3E]
 first
  | exact jB (lG (jK ⟨_,rfl,jK h⟩) a)
  | exact jB _
  | exact jB _
  | exact jB _
end
end HT
namespace L2
open PySem PySem.Spec PyProof.Rows
abbrev TO:=St->Hp->(Option Int->Hp->Prop)->Prop
noncomputable def PO (X:Cx) (e:Option Expr) (t:TO):Prop:=
 ∀ (pins:List (Addr×Obj)) (s:Shared) (σ:St) (H:Hp) (Q:Option Int->Hp->Prop),Inv X pins σ H s->t σ H Q ->
  wpAny (model X.prog X.w) X.A (evalPart e X.env) (λu s'=>∃ o H',Inv X pins σ H' s'/\IsPart u o/\Q o H') X.xe s
noncomputable def b5T:TO:=λ_ H Q=>Q none H
noncomputable def b98 (t:TE):TO:=fun σ H Q=>t σ H λx H1=>∃ i,x=.int i/\Q (some i) H1
theorem b0I:∀ {us:List Value},Vals (ns.map V.int) us->jZ us ns:=by
 induction ns with
 | nil=>intro a r;cases r;exact .nil
 | cons n ns ih=>
  intro a r;cases r with
  | cons r1 r2=>
   obtain⟨t,e⟩:=r1;subst e;exact .cons n t (ih r2)
section
variable {X:Cx}{e:Expr}{te:TE}{lo hi:Option Expr}{tl th:TO}{pos p2:Pos}
theorem b5U:PO X none b5T:=by
 intro a s σ H Q I h;exact jK ⟨none,H,I,.none,h⟩
theorem b5V (h:PE X e te):PO X (some e) (b98 te):=by
 intro a s σ H Q I b;refine thn (h a s σ H _ I b) λu j ⟨x,d,f,c,g⟩=>?_;obtain⟨i,rfl,q⟩:=g;obtain⟨t,rfl⟩:=c;exact⟨some i,d,f,.int i t,q⟩
noncomputable def SlR (X:Cx) (r:V->Option Int->Option Int->Hp->VK->Prop):Prop:=
 ∀ (pins:List (Addr×Obj)) (s:Shared) (σ:St) (H:Hp) (x:V) (v vl vu:Value) (lo hi:Option Int) (sl:Addr) (Q:VK),Inv X pins σ H s->RelV x v->s.heap.IsSliceOf sl vl vu .none->IsPart vl lo->IsPart vu hi->r x lo hi H Q ->
  ∃ T id,typeLookup (.type T) "__getitem__"=pure (some (.builtin id))/\s.TypeIs v T/\wpAny (model X.prog X.w) X.A (kL v (.ref sl)) (EP X pins σ Q) X.xe s
theorem SlR.or (h:SlR X r) (h':SlR X r'):SlR X (λx lo hi H Q=>r x lo hi H Q\/r' x lo hi H Q):=by
 intro a s σ H x v b k d j c Q I g i e f q;rcases q with q | q
 ·exact h a s σ H x v b k d j c Q I g i e f q
 ·exact h' a s σ H x v b k d j c Q I g i e f q
noncomputable def tSl (r:V->Option Int->Option Int->Hp->VK->Prop) (te:TE) (tl th:TO):TE:=fun σ H Q=>te σ H λx H1=>tl σ H1 λl H2=>th σ H2 λu H3=>r x l u H3 Q
theorem b3F (hr:SlR X r) (he:PE X e te) (hl:PO X lo tl) (hu:PO X hi th):PE X (.Subscript e (.Slice lo hi none p2) pos) (tSl r te tl th):=by
 intro a s σ H Q I h;refine Subscript_ (thn (he a s σ H _ I h) λv o ⟨x,D,j,t,J⟩=>?_);refine wpAny_Slice (thn (hl a o σ D _ j J) λf B ⟨l,p,m,n,G⟩=>thn (hu a B σ p _ m G) λd c ⟨u,g,y,z,k⟩=>?_);refine jK ?_;have C:Inv X a σ g { c with heap:=c.heap.push { cls:=.type "slice",data:=.fields #[f,d,.none] } }:=y.kept λb L q=>Heap.get?_push_of_some _ q;obtain⟨T,M,F,E,i⟩:=hr a { c with heap:=c.heap.push { cls:=.type "slice",data:=.fields #[f,d,.none] } } σ g x v f d l u c.heap.objs.size Q C t (Heap.IsSliceOf.new ..) n z k;exact tail_any E F i (by with_unfolding_all rfl)
noncomputable def cutV (xs:List V) (lo hi:Option Int):List V:=(xs.drop (HT.sIx xs.length 0 lo)).take (HT.sIx xs.length xs.length hi - HT.sIx xs.length 0 lo)
theorem a5D (xs:List V) (lo hi:Option Int):(cutV xs lo hi).length<=xs.length:=by
 unfold cutV;rw[eL,fm];omega
noncomputable def rSlT (K:Fg):V->Option Int->Option Int->Hp->VK->Prop:=λx lo hi H Q=>∃ a xs,x=.ref a/\SqT K H a xs /\
 ¬ (HT.sIx xs.length 0 lo=0/\HT.sIx xs.length xs.length hi=xs.length)/\∀ p,H p=none->Q (.ref p) (upd H p (.tup (cutV xs lo hi)))
theorem sl_tup:SlR X (rSlT X.K):=by
 intro p s σ H x v A w e f z Q I k m l t h;obtain⟨a,d,rfl,n,u,q⟩:=h;cases k;obtain⟨j,r,g,i⟩:=I.tuple n;have c:j.toArray.size=d.length:=by rw[fk];exact r.length.symm
 refine⟨"tuple",_,PyProof.Rows.slot_tuple_getitem.lookup,g.typeIs,?_⟩;refine HT.getItem_tuple_cut g m l t (by rw[c];exact u) ?_ (by simp_all);rw[c];refine⟨.ref s.heap.objs.size,_,I.laid (λb y q=>Heap.get?_push_of_some _ q) (eB _) ?_,rfl,q _ (I.hok.fresh (eB _))⟩;exact⟨eM (a5D d e f) i,_,(r.drop _).take _,IsTup.new _ _⟩
noncomputable def b99 (K:Fg):R2:=λx y H Q=>∃ a b xs ys,x=.ref a/\y=.ref b/\SqT K H a xs/\SqT K H b ys/\xs≠[]/\xs.length+ys.length<=jC /\
 (ys=[]->Q (.ref a) H)/\(ys≠[]->∀ p,H p=none->Q (.ref p) (upd H p (.tup (xs++ys))))
theorem Vals.nil_iff (r:Vals xs us):us=[]↔xs=[]:=by
 cases r with
 | nil=>simp
 | cons _ _=>simp
theorem op_catT:OpR X (jR .Add) (b99 X.K):=by
 intro r s σ H x y v u Q I p B h;obtain⟨a,b,k,j,rfl,rfl,t,g,f,e,m,n⟩:=h;cases p;cases B;obtain⟨C,d,i,_⟩:=I.tuple t;obtain⟨l,c,A,_⟩:=I.tuple g;refine HT.cat_tup i A (λz=>f (d.nil_iff.mp z)) (λz=>⟨.ref a,H,I,rfl,m (c.nil_iff.mp z)⟩) (λz=>?_) (by rw[<- d.length,<- c.length];exact e);refine⟨.ref s.heap.objs.size,_,I.laid (λb D q=>Heap.get?_push_of_some _ q) (eB _) ?_,rfl,n (λw=>z (c.nil_iff.mpr w)) _ (I.hok.fresh (eB _))⟩;exact⟨by rw[eE];exact e,_,d.append c,IsTup.new _ _⟩
end
noncomputable def ixN (n:Nat) (i:Int):Option Nat:=if 0<=i then (if i<n then some i.toNat else none) else if -(n:Int)<=i then some (i+n).toNat else none
noncomputable def atI {α:Type}(xs:List α) (i:Int):Option α:=(ixN xs.length i).bind λj=>xs[j]?
theorem b1G (h:ixN n i=some j):seqIndex? i n=some j/\j<n/\-(n:Int)<=i/\i<n:=by
 unfold ixN at h
 by_cases h0:0<=i
 ·rw[if_pos h0]at h
  by_cases h1:i<n
  ·rw[if_pos h1]at h;have e:=ff.inj h;exact⟨by rw[lI h0 h1,e],by omega,by omega,h1⟩
  ·simp_all
 ·rw[if_neg h0]at h
  by_cases h1:-n<=i
  ·rw[if_pos h1]at h;have e:=ff.inj h;exact⟨by rw[lJ (by omega) h1,e],by omega,h1,by omega⟩
  ·simp_all
theorem a82 {α:Type}{xs:List α}{v:α}(h:atI xs i=some v):∃ j,seqIndex? i xs.length=some j/\xs[j]?=some v/\j<xs.length/\-(xs.length:Int)<=i/\i<xs.length:=by
 unfold atI at h;cases e:ixN xs.length i with
 | none=>rw[e]at h;cases h
 | some j=>
  rw[e]at h;obtain⟨d,c,b,a⟩:=b1G e;exact⟨j,d,h,c,b,a⟩
theorem a2w {α:Type}{xs:List α}{j:Nat}{v:α}(h:xs[j]?=some v):atI xs (j:Int)=some v:=by
 have a:=(eJ.mp h).1;have e:ixN xs.length j=some j:=by
  unfold ixN;rw[if_pos (by simp),if_pos (by omega)];simp
 unfold atI;rw[e];exact h
noncomputable def b1H (b:Expr):Prop:=∀ o i,subscripted b false o i=operate [o,i] (kL o i)
noncomputable def IxR (X:Cx) (r:R2):Prop:=
 ∀ (value slice:Expr) (pins:List (Addr×Obj)) (s:Shared) (σ:St) (H:Hp) (x y:V) (v u:Value) (Q:VK),Inv X pins σ H s->RelV x v->RelV y u->r x y H Q ->
  subscripted slice false v u=operate [v,u] (kL v u)->wpAny (model X.prog X.w) X.A (subscriptTail value slice v u) (EP X pins σ Q) X.xe s
noncomputable def MtR (X:Cx) (id:String) (r:V->List V->Hp->VK->Prop):Prop:=
 ∀ (pins:List (Addr×Obj)) (s:Shared) (σ:St) (H:Hp) (x:V) (xs:List V) (v:Value) (us:List Value) (Q:VK),Inv X pins σ H s->RelV x v->Vals xs us->r x xs H Q ->
  wpAny (model X.prog X.w) X.A (call (.builtin id) (v::us)) (EP X pins σ Q) X.xe s
section
variable {X:Cx}{a b:Expr}{ta tb:TE}{pos:Pos}
theorem IxR.or (h:IxR X r) (h':IxR X r'):IxR X (λx y H Q=>r x y H Q\/r' x y H Q):=by
 intro b a c s σ H x y v u Q I e f q d;rcases q with q | q
 ·exact h b a c s σ H x y v u Q I e f q d
 ·exact h' b a c s σ H x y v u Q I e f q d
theorem MtR.or {id:String}(h:MtR X id r) (h':MtR X id r'):MtR X id (λx xs H Q=>r x xs H Q\/r' x xs H Q):=by
 intro a s σ H x e v b Q I c d q;rcases q with q | q
 ·exact h a s σ H x e v b Q I c d q
 ·exact h' a s σ H x e v b Q I c d q
theorem c0a (hr:IxR X r) (ha:PE X a ta) (hb:PE X b tb) (hs:b1H b):PE X (.Subscript a b pos) (tOp r ta tb):=by
 intro c s σ H Q I h;exact Subscript_ (binT ha hb I h λv u d x y f g i e q=>hr a b c d σ f x y v u Q g i e q (hs _ _))
noncomputable def rIxL (K:Fg):R2:=λx y H Q=>∃ p xs i v,x=.ref p/\y=.int i/\SqL K H p xs/\atI xs i=some v/\Q v H
noncomputable def rIxT (K:Fg):R2:=λx y H Q=>∃ p xs i v,x=.ref p/\y=.int i/\SqT K H p xs/\atI xs i=some v/\Q v H
noncomputable def rIxS:R2:=λx y H Q=>∃ z i c,x=.str z/\y=.int i/\z.length<=jC/\atI z.cps.toList i=some c/\Q (.str ⟨#[c]⟩) H
theorem ix_list:IxR X (rIxL X.K):=by
 intro n m a s σ H x y v u Q I F o h f;obtain⟨p,M,i,z,rfl,rfl,C,J,q⟩:=h;cases F;obtain⟨t,rfl⟩:=o;obtain⟨l,r,d,R⟩:=I.list C;obtain⟨j,b,B,L,D,A⟩:=a82 J;obtain⟨w,g,k⟩:=r.get B;have G:=r.length;have N:=a7P;have c:EP X a σ Q w s:=⟨z,H,I,k,q⟩
 by_cases h0:0<=i
 ·have e:i.toNat=j:=by
   rw[lI h0 A]at b;exact ff.inj b
  exact item_listR d.isList h0 (by omega) (by rw[e];simpa using g) c f
 ·have e:(i+(l.toArray.size:Int)).toNat=j:=by
   rw[lJ (by omega) D]at b;rw[fk,<- G];exact ff.inj b
  exact subscriptTail_builtinR d.isList.typeIs slot_list_getitem.lookup
   (wpAny_getItem_list_neg d.isList (by omega) (by simp_all) (by omega) (by rw[e];simpa using g) ⟨rfl,c⟩) f
theorem ix_tup:IxR X (rIxT X.K):=by
 intro f e a s σ H x y v u Q I A D h k;obtain⟨p,J,i,z,rfl,rfl,B,C,q⟩:=h;cases A;obtain⟨t,rfl⟩:=D;obtain⟨E,r,d,M⟩:=I.tuple B;obtain⟨j,l,g,G,F,L⟩:=a82 C;obtain⟨w,m,c⟩:=r.get g;have n:=r.length;have N:=a7P;have b:EP X a σ Q w s:=⟨z,H,I,c,q⟩;exact subscriptTail_builtinR d.typeIs slot_tuple_getitem.lookup
  (getItem_tuple d (by omega) (by omega) (by rw[fk,<- n];exact l) (by simp_all) ⟨rfl,b⟩) k
theorem b7K:IxR X rIxS:=by
 intro b d r s σ H x y v u Q I o f h p;obtain⟨z,i,c,rfl,rfl,A,n,q⟩:=h;obtain⟨t,rfl⟩:=o;obtain⟨C,rfl⟩:=f;obtain⟨j,a,l,D,g,w⟩:=a82 n;have k:z.cps.toList.length=z.length:=by simp[Str.length]
 rw[k]at a g w;have B:=a7P;exact tail_any (kt s z t) slot_str_getitem.lookup (getItem_str (by grind) (by rw[a];simpa using l) ⟨.str ⟨#[c]⟩,H,I.tok _,⟨_,rfl⟩,q⟩) p
noncomputable def rIx (K:Fg):R2:=λx y H Q=>rIxL K x y H Q\/rIxT K x y H Q\/rIxS x y H Q
theorem b7L:IxR X (rIx X.K):=ix_list.or (ix_tup.or b7K)
theorem b0J (its:List Value) (n j:Nat) (u:Value):Obj.mapSeq (·.setIfInBounds j u) { cls:=.type "list",data:=.seq its.toArray n }={ cls:=.type "list",data:=.seq (its.set j u).toArray n }:=by
 simp[Obj.mapSeq]
theorem Inv.lst {pins:List (Addr×Obj)}{σ:St}{H:Hp}{s:Shared}{p:Addr}{xs:List V}(I:Inv X pins σ H s) (h:H p=some (.lst xs)) :
  ∃ (its:List Value) (n:Nat),Vals xs its/\s.heap.get? p=some { cls:=.type "list",data:=.seq its.toArray n }/\xs.length<=sizeLine:=by
 obtain⟨z,a,n,r,e⟩:=I.hok p _ h;exact⟨a,n,r,e,z⟩
theorem Inv.lstUpd {its its':List Value}(I:Inv X pins σ H s) (h:H p=some (.lst xs))
  (ho:s.heap.get? p=some { cls:=.type "list",data:=.seq its.toArray n }) (hf:f { cls:=.type "list",data:=.seq its.toArray n }={ cls:=.type "list",data:=.seq its'.toArray n' }) (r:Vals ys its') (hz:ys.length<=jC) (t:Nat) :
  Inv X pins σ (upd H p (.lst ys)) { s with heap:=s.heap.update p f,toks:=t }:=by
 have e:(s.heap.update p f).get? p=some { cls:=.type "list",data:=.seq its'.toArray n' }:=by
  rw[Heap.get?_update_self f ho (by rw[hf]<;>rfl),hf]
 refine I.write (by rw[h];trivial) (.inl rfl) (λb u a q=>(Heap.get?_update_other _ _ (Ne.symm a)).trans q) ⟨_,e⟩ ?_;exact⟨hz,its',n',r,e⟩
noncomputable def c0b:V->V->V->Hp->(Hp->Prop)->Prop:=λo i v H Q=>∃ p xs k j,o=.ref p/\i=.int k/\H p=some (.lst xs)/\ixN xs.length k=some j/\Q (upd H p (.lst (xs.set j v)))
theorem b3G:PSet X c0b:=by
 intro d s σ H o i v D F u Q I x z C h;obtain⟨p,y,k,j,rfl,rfl,g,B,q⟩:=h;cases x;obtain⟨t,rfl⟩:=z;obtain⟨b,n,r,f,A⟩:=I.lst g;obtain⟨a,E,m,w⟩:=b1G B;have e:=r.length;have G:=a7P;have l:=
  I.lstUpd g f (b0J b n j u) (r.set C j) (by simp_all) s.toks
 by_cases h0:0<=k
 ·have c:k.toNat=j:=by
   rw[lI h0 w]at a;exact ff.inj a
  exact PySem.W.ki_setAt f h0 (by omega) (by simp_all) (by rw[c];exact⟨_,l,q⟩)
 ·have c:(k+(b.toArray.size)).toNat=j:=by
   rw[lJ (by omega) m]at a;rw[fk,<- e];exact ff.inj a
  exact PySem.W.ki_setBack f (by omega) (by simp_all) (by omega) (by rw[c];exact⟨_,l,q⟩)
theorem a7U (lo hi:Option Int) (n:Nat):(ku lo hi none n).1=((HT.sIx n 0 lo:Nat):Int)/\(ku lo hi none n).2.1=((HT.sIx n n hi:Nat):Int)/\(ku lo hi none n).2.2=1:=by
 refine⟨?_,?_,rfl⟩
 ·cases lo with
  | none=>simp[ku,HT.sIx]
  | some i=>
   simp only[ku,HT.sIx,iY]
   by_cases h:i<0
   ·grind
   ·grind
 ·cases hi with
  | none=>simp[ku,HT.sIx]
  | some i=>
   simp only[ku,HT.sIx,iY]
   by_cases h:i<0
   ·grind
   ·grind
theorem a68 (its:List Value) (lo hi:Option Int):slicePick its.toArray lo hi none=((its.drop (HT.sIx its.length 0 lo)).take (HT.sIx its.length its.length hi - HT.sIx its.length 0 lo)).toArray:=by
 obtain⟨a,c,b⟩:=a7U lo hi its.toArray.size;unfold slicePick;rw[a,c,b];simp only[sliceRange_one,pick_run]<;>rfl
noncomputable def rSlL (K:Fg):V->Option Int->Option Int->Hp->VK->Prop:=λx lo hi H Q=>∃ a xs,x=.ref a/\SqL K H a xs/\∀ p,H p=none->Q (.ref p) (upd H p (.lst (cutV xs lo hi)))
theorem sl_list:SlR X (rSlL X.K):=by
 intro p s σ H x v u w d e y Q I m i n j h;obtain⟨a,c,rfl,k,q⟩:=h;cases m;obtain⟨t,r,g,l⟩:=I.list k;have f:=r.length;refine⟨"list",_,slot_list_getitem.lookup,g.isList.typeIs,?_⟩;refine wpAny_getItem_list_slice g.isList i n j .none (by simp) ?_ (by grind);rw[a68,<- f];refine⟨.ref s.heap.objs.size,_,I.laid (λb z q=>Heap.get?_push_of_some _ q) (eB _) ?_,rfl,q _ (I.hok.fresh (eB _))⟩;exact⟨eM (a5D c d e) l,_,0,(r.drop _).take _,Heap.get?_push_size _ rfl⟩
theorem CallR.or (h:CallR X f r) (h':CallR X f r'):CallR X f (λxs H Q=>r xs H Q\/r' xs H Q):=by
 intro a s σ H c d Q I b q;rcases q with q | q
 ·exact h a s σ H c d Q I b q
 ·exact h' a s σ H c d Q I b q
noncomputable def tyV (K:Fg) (T:String) (x:V) (H:Hp):Prop:=match x with
 | .str _=>T="str"
 | .int _=>T="int"
 | .ref p=>(T="list"/\∃ xs,SqL K H p xs)\/(T="tuple"/\∃ o,K.lookup p=some o/\o.cls=.type "tuple"/\o.dict=none) \/
   (T="dict"/\((∃ kvs,H p=some (.dK kvs))\/(∃ kvs,H p=some (.dT kvs))\/∃ ob kvs,H p=some (.frz ob (.dK kvs))))\/(T="set"/\∃ S n,H p=some (.set S n))
 | _=>False
theorem b7M (I:Inv X pins σ H s) (r:RelV x v) (ty:tyV X.K T x H) :
  s.TypeIs v T/\∀ a,v=.ref a->∃ ob,s.heap.get? a=some ob/\ob.dict=none:=by
 cases x with
 | str z=>
  obtain⟨t,rfl⟩:=r;cases (ty);exact⟨kt s z t,λ_ e=>nomatch e⟩
 | int i=>
  obtain⟨t,rfl⟩:=r;cases (ty);exact⟨typeIs_int s i t,λ_ e=>nomatch e⟩
 | ref p=>
  cases r;rcases ty with ⟨rfl,xs,hq⟩ | ⟨rfl,o,hk,hc,f⟩ | ⟨rfl,hk⟩ | ⟨rfl,S,n,hk⟩
  ·obtain⟨h,_,g,_⟩:=I.list hq;refine⟨g.isList.typeIs,λa e=>?_⟩;cases e;obtain⟨o,n,e,c,f,_⟩:=g;exact⟨o,e,f⟩
  ·refine⟨⟨o,I.kIn p o hk,hc⟩,λa e=>?_⟩;cases e;exact⟨o,I.kIn _ o hk,f⟩
  ·have z:∃ o,s.heap.get? p=some o/\o.ExactDict:=by
    rcases hk with ⟨kvs,hk⟩ | ⟨kvs,hk⟩ | ⟨ob,kvs,hk⟩
    ·obtain⟨_,_,_,_,o,_,_,e,b,_⟩:=I.hok p _ hk;exact⟨o,e,b⟩
    ·obtain⟨_,_,_,_,o,_,_,e,b,_⟩:=I.hok p _ hk;exact⟨o,e,b⟩
    ·obtain⟨_,_,_,_,_,o,_,_,e,b,_⟩:=I.hok p _ hk;exact⟨o,e,b⟩
   obtain⟨o,e,b⟩:=z;refine⟨⟨o,e,b.1⟩,λa d=>?_⟩;cases d;exact⟨o,e,b.2.1⟩
  ·obtain⟨o,_,_,_,e,b,_⟩:=I.hok p _ hk;refine⟨⟨o,e,b.1⟩,λa d=>?_⟩;cases d;exact⟨o,e,b.2.1⟩
 | _=>exact eC ty
noncomputable def tBM (K:Fg) (T:String) (r:V->List V->Hp->VK->Prop) (to:TE) (t:TA):TE:=fun σ H Q=>to σ H λx H1=>tyV K T x H1/\t σ H1 λxs H2=>r x xs H2 Q
variable {o e:Expr}{es:List Expr}{to:TE}{t:TA}{name:Str}{apos cpos:Pos}{T id:String}{r:V->List V->Hp->VK->Prop}
theorem c0c (pa:PlainAttrs T) (slot:Slot T name id) (hty:typeOf (.builtin id)=pure (.type "method_descriptor")) (hm:MtR X id r) (ho:PE X o to) (ha:PA X (e::es) t)
  (hbase:kI o name X.env (eval o X.env)=eval o X.env:=by rfl)
  (hfew:((backTo cpos (jE (e::es) X.env)).all (λx=>!x.1)&&(kq cpos (kr [] X.env)).all (λx=>x.1.isSome)
   && decide ((e::es).length+([]:List kK).length+(if ([]:List kK).isEmpty then 0 else 1)<30))=true:=by rfl)
  (hline:(apos.endLine==cpos.line)=true:=by rfl) (hs:jE (e::es) X.env=(false,eval e X.env)::jE es X.env:=by rfl) (hplain:(backTo cpos (jE es X.env)).any (·.1)=false:=by rfl) :
  PE X (.Call (.Attribute o name apos) (e::es) [] cpos) (tBM X.K T r to t):=by
 intro a s σ H Q I h;refine wpAny_Call_method_late hbase hfew hline rfl (thn (ho a s σ H _ I h) λv k ⟨x,w,b,c,u,j⟩=>?_);obtain⟨g,n⟩:=b7M b c u;refine⟨T,id,pa,slot,hty,g,n,?_⟩;have d:=ha cpos a k σ w _ b j;rw[hs]at d ⊢;refine Calls.callWith_builtin (by show (false||(backTo cpos _).any _)=false;rw[hplain]<;>rfl) (Calls.evalArgs_plain ?_)
 exact thn d λi m ⟨q,l,y,f,p⟩=>hm a m σ l x q v i Q y c f p
end
noncomputable def MtM (X:Cx) (id:String) (r:V->List V->Hp->VK->Prop):Prop:=
 ∀ (pins:List (Addr×Obj)) (s:Shared) (σ:St) (H:Hp) (x:V) (xs:List V) (v:Value) (us:List Value) (Q:VK),Inv X pins σ H s->RelV x v->Vals xs us->r x xs H Q ->
  wpAny (model X.prog X.w) X.A (call (.builtin id) (v::us)) (EP X pins σ Q) X.xe s
theorem Vals.one:∀ {x:V}{us:List Value},Vals [x] us->∃ u,us=[u]/\RelV x u
 | _,_,.cons r .nil=>⟨_,rfl,r⟩
theorem Vals.two:∀ {x y:V}{us:List Value},Vals [x,y] us->∃ u v,us=[u,v]/\RelV x u/\RelV y v:=by
 intro x y a h;cases h with
 | cons r h=>cases h with
  | cons q h=>cases h;exact⟨_,_,rfl,r,q⟩
theorem Vals.zero:∀ {us:List Value},Vals [] us->us=[]
 | _,.nil=>rfl
theorem Vals.dropLast (h:Vals xs us):Vals xs.dropLast us.dropLast:=by
 induction h with
 | nil=>exact .nil
 | cons r t ih=>
  cases t with
  | nil=>exact .nil
  | cons q t'=>exact .cons r ih
theorem Vals.eraseIdx:∀ {xs:List V}{us:List Value}(i:Nat),Vals xs us->Vals (xs.eraseIdx i) (us.eraseIdx i)
 | _,_,_,.nil=>.nil
 | _,_,0,.cons _ t=>t
 | _,_,i+1,.cons r t=>.cons r (Vals.eraseIdx i t)
theorem Vals.reverse (h:Vals xs us):Vals xs.reverse us.reverse:=by
 induction h with
 | nil=>exact .nil
 | cons r t ih=>rw[ge,ge];exact Vals.append ih (.cons r .nil)
section
variable {X:Cx}{pins:List (Addr×Obj)}{σ:St}{H:Hp}{s:Shared}{l b:Addr}{xs ys zs:List V}
theorem Inv.lset {its its':List Value}(I:Inv X pins σ H s) (hH:H l=some (.lst xs))
  (e:s.heap.get? l=some { cls:=.type "list",data:=.seq its.toArray n }) (hf:f its.toArray=its'.toArray) (hv:Vals ys its') (hz:ys.length<=jC) :
  Inv X pins σ (upd H l (.lst ys)) { s with heap:=s.heap.update l (Obj.mapSeq f),toks:=t' }:=by
 have q:=PySem.IsL.update e f;rw[hf]at q;refine I.write (by rw[hH];exact trivial) (.inl rfl) (λc u a b=>(Heap.get?_update_other s.heap _ (Ne.symm a)).trans b) ⟨_,q⟩ ?_;exact⟨hz,its',_,hv,q⟩
theorem Inv.lnew (I:Inv X pins σ H s) (hv:Vals ys its) (hz:ys.length<=jC) :
  Inv X pins σ (upd H s.heap.objs.size (.lst ys)) { s with heap:=s.heap.push { cls:=.type "list",data:=.seq its.toArray },toks:=t' }:=
 I.laid (λ_ _ q=>Heap.get?_push_of_some _ q) (eB _) ⟨hz,its,0,hv,Heap.get?_push_size _ rfl⟩
theorem Inv.fresh (I:Inv X pins σ H s):H s.heap.objs.size=none:=I.hok.fresh (eB _)
theorem Inv.lstM (I:Inv X pins σ H s) (hH:H l=some (.lst xs)):xs.length<=jC/\∃ (its:List Value) (n:Nat),Vals xs its/\xs.length=its.length/\s.heap.get? l=some { cls:=.type "list",data:=.seq its.toArray n }:=by
 obtain⟨z,a,n,r,e⟩:=I.hok l _ hH;exact⟨z,a,n,r,r.length,e⟩
theorem b3H (h:n<=jC):jO.List.listTooLong n=false:=decide_eq_false (by omega)
end
section
variable {X:Cx}
noncomputable def b5W:V->List V->Hp->VK->Prop:=λx vs H Q=>∃ l xs y,x=.ref l/\vs=[y]/\H l=some (.lst xs)/\xs.length<jC/\Q .non (upd H l (.lst (xs++[y])))
theorem a7V:MtM X "list.append" b5W:=by
 intro c s σ H x k v o Q I f d h;obtain⟨l,j,y,rfl,rfl,b,i,q⟩:=h;cases f;obtain⟨u,rfl,g⟩:=d.one;obtain⟨z,a,n,r,m,e⟩:=I.lstM b;refine lK F.slot_list_append ⟨_,e,rfl⟩ F.entry_list_append (F.args_list_append_2 _ _) (PySem.list_append l a.toArray n u (by grind)) ⟨e,?_⟩;refine⟨.non,_,I.lset b e (by simp) (r.append (.cons g .nil)) ?_,rfl,q⟩;rw[eE,g5];omega
noncomputable def b5X:V->List V->Hp->VK->Prop:=λx vs H Q=>∃ l b xs zs,x=.ref l/\vs=[.ref b]/\H l=some (.lst xs)/\H b=some (.lst zs)/\xs.length+zs.length<=jC/\Q .non (upd H l (.lst (xs++zs)))
theorem b1I:MtM X "list.extend" b5X:=by
 intro k s σ H x A v C Q I i j h;obtain⟨l,b,B,E,rfl,rfl,f,t,G,q⟩:=h;cases i;obtain⟨u,rfl,p⟩:=j.one;cases p;obtain⟨z,c,n,r,D,e⟩:=I.lstM f;obtain⟨J,a,w,m,y,o⟩:=I.lstM t;have g:c.toArray.size+a.toArray.size<=sizeLine:=by grind
 have d:¬ (!c.toArray.isEmpty&&jO.List.listTooLong (c.toArray.size+a.toArray.size))=true:=by
  rw[b3H g,gC];exact e7
 refine lK F.slot_list_extend ⟨_,e,rfl⟩ F.entry_list_extend (F.args_list_extend_2 _ _)
  (AutoSeq1.list_extend_list_list_0 l c.toArray n b a.toArray w d (by grind) (by omega)) ⟨e,o,?_⟩
 refine⟨.non,_,I.lset f e (by simp) (r.append m) ?_,rfl,q⟩;rw[eE];omega
noncomputable def rCat:R2:=λx y H Q=>∃ l b xs zs,x=.ref l/\y=.ref b/\H l=some (.lst xs)/\H b=some (.lst zs)/\xs.length+zs.length<=jC/\∀ p,H p=none->Q (.ref p) (upd H p (.lst (xs++zs)))
theorem b7N:OpR X (jR .Add) rCat:=by
 intro i s σ H x y v u Q I f k h;obtain⟨l,b,C,w,rfl,rfl,m,d,A,q⟩:=h;cases f;cases k;obtain⟨z,c,n,r,t,e⟩:=I.lstM m;obtain⟨B,a,D,o,p,g⟩:=I.lstM d;refine PySem.P.add_list e g ?_ (by grind);have j:c.toArray++a.toArray=(c++a).toArray:=by simp
 rw[j];exact⟨.ref _,_,I.lnew (r.append o) (by grind),rfl,q _ I.fresh⟩
end
section
variable {prog:jH}{w:World}{A:Around}{E:Value->Shared->Prop}{s:Shared}
end
section
variable {X:Cx}
end
end L2
namespace Att
open PySem PySem.W PySem.Calls PyProof.Rows
theorem a5E:∀ (ns:List Int) (vs:List Value),WellAll P h vs (ns.map WData.int)->jZ vs ns:=by
 intro c
 induction c with
 | nil=>
  intro d w;cases w;exact .nil
 | cons n c ih=>
  intro d w;cases w with
  | cons a b=>
   cases a;exact .cons _ _ (ih _ b)
theorem b1J {l:OpenLaw}(hn:l.most=some n)
  (hpre:l.row.toRowW.claim.pre args=true) (hwl:WellAll P h vals args) :
  ∃ a vs ns,vals=[Value.ref a]/\args=[WData.list (ns.map WData.int)]/\h.get? a=some { cls:=.type "list",data:=.seq vs.toArray }/\jZ vs ns/\ns.length<=n:=by
 have i:=(pre_splitW hpre).1;have g:l.pre.holds [] { args:=args }=true:=(pre_splitW hpre).2;obtain⟨d,r,rfl,j,m⟩:=hasAllW_cons i;obtain rfl:=hasAllW_nil m;obtain⟨p,rfl,o⟩:=hasW_list j;obtain⟨b,rfl⟩:=items_int o;have f:b.length<=n:=by
  have c:(WTm.not (.lt (.lit (.int n)) (.len (.arg 0)))).holds [] { args:=[.list (b.map .int)] }=true:=by
   have c:=(holds_andW g).1;rw[hn]at c;exact c
  have e:=condW_of c (w_not (w_lt w_lit (w_len_list (w_arg rfl))))
  first
   | (rw[decide_eq_true k]at e;exact absurd e (by simp))
   | (simp at e;omega)
 cases hwl with
 | cons w1 w2=>
  cases w2;cases w1 with
  | list ho hall=>exact⟨_,_,b,rfl,rfl,ho,a5E b _ hall,f⟩
theorem b1K (l:OpenLaw) (args:List WData):l.row.toRowW.claim.post args (.bool true) args=true:=
 postW_of
  (show WShape.has [] _ .bool=true by first | rfl | decide | simp)
  (w_eq_bool (w_res rfl) w_lit) rfl
theorem attach_call {l:OpenLaw}
  (hn:l.most=some n) (hdf:d.params.defaults=[])
  (call:∀ (w:World) (s₀ sj:Shared) (mg mb:Str->Option Value) (fa:Addr) (o:Obj) (pm cd doc:Value) (a:Addr) (vs:List Value) (ns:List Int),
   Ground q loose [] XP w s₀ mg mb sj.heap->YP w sj.heap ->
   sj.heap.get? fa=some o->o.data=.func (docDef d.name d.params d.body d.scope pm cd doc)->sj.heap.CodeRec cd d.name->mg d.name=some (.ref fa) ->
   sj.heap.get? a=some { cls:=.type "list",data:=.seq vs.toArray }->jZ vs ns->ns.length<=n->sj.gens=#[] ->
   j9 (model l.prog w) kx (.call (.ref fa) ⟨[.ref a],[]⟩) (λr s'=>r=.ok (.ret (.bool true))/\OldK sj.heap s'.heap/\s'.os=sj.os/\j6 s'.gens) sj) :
  WalkO q loose XP YP l.row.toRowW d [] (λf vs=>PySem.call f vs):=by
 intro w C s D y G Y x o F v i Q H L B k h j N u J U c A S m T;obtain rfl:Q=.none:=Dflts.none h hdf;obtain rfl:H=.none:=Dflts.noKw h;obtain⟨a,I,E,rfl,rfl,g,b,e⟩:=b1J hn c m;refine enter_call (kU (call w C s D y x o F v i a I E G Y L (fd_plain B) k j g b e N) λr V R=>?_);obtain⟨rfl,t,z,M⟩:=R;exact⟨.inl ⟨.bool true,.bool true,[],rfl,λ_=>rfl,.bool true,b1K l _,λ_=>⟨fv.nil,λ_ p=>(nomatch p)⟩⟩,t,z,M⟩
section
variable {prog:jH}{w:World}{A:Around}{E:Value->Shared->Prop}{s:Shared}{K:Frag}
end
end Att
namespace L2
open PySem PySem.Spec PyProof.Rows
theorem a7W:∀ {vs:List Value}{ns:List Int},jZ vs ns->Vals (ns.map V.int) vs
 | _,_,.nil=>.nil
 | _,_,.cons n t h=>.cons ⟨t,rfl⟩ (a7W h)
noncomputable def Only (H:Hp):Prop:=∀ b,H b=none\/∃ o xs,H b=some (.frz o (.lst xs))
theorem b3I {K:Fg}
  (KX:K.In sj.heap) (hns:sj.heap.Ns jG mg) (hb:sj.heap.Ns lr mb) (hbb:∀ x:Str,x≠"__name__"->mb x=ke x) (hlim:sj.heap.NoLimit) (hg:sj.gens=#[])
  (ha:sj.heap.get? a=some { cls:=.type "list",data:=.seq vs.toArray }) (hi:jZ vs ns) (hl:ns.length<=jC) (hr:Room k kx)
  (F:∀ base:Heap,K.In base->base.Ns jG mg->FnOk P w K mg base CX k fa fd [x] sp) (hbind:∀ (s:Shared) (u:Value),kA s fd ⟨[u],[]⟩ [(x,u)])
  (hsp:∀ H:Hp,Only H->SqL K H a (ns.map V.int)->sp [.ref a] H (λv _=>v=.bl true) λ_ _ _=>False)
  (hCX:∀ H e s',CX [] H sj (λ_ _ _=>False) e s'->False) :
  j9 (model P w) kx (.call (.ref fa) ⟨[.ref a],[]⟩) (λr s'=>r=.ok (.ret (.bool true))/\OldK sj.heap s'.heap/\s'.os=sj.os/\j6 s'.gens) sj:=by
 have L:=a7W hi;have E:=hi.length;have p:∀ H:Hp,Only H->SqL K H a (ns.map V.int)->HOk P w H sj.heap->(∀ b,H b≠none->b=a)->(H a≠none->K.lookup a=none) ->
   j9 (model P w) kx (.call (.ref fa) ⟨[.ref a],[]⟩) (λr j=>r=.ok (.ret (.bool true))/\OldK sj.heap j.heap/\j.os=sj.os/\j6 j.gens) sj:=by
  intro H I R y G X;have f:∀ {b:Addr}{o:Obj},sj.heap.get? b=some o->H b=none->(hidT sj.heap H).get? b=some o:=λe n=>b3s e n;have N:∀ {b:Addr}{o:Obj}{i:Array lE}{l:Nat},sj.heap.get? b=some o->o.data=.dict i l->H b=none:=λ{b o i l} e d=>by grind
  have g:∀ {b:Addr}{m:Str->Option Value},sj.heap.Ns b m->(hidT sj.heap H).Ns b m:=λ{b m} ⟨o,i,l,e,d,r⟩=>⟨o,i,l,f e (N e d),d,r⟩;have A:=λb o e=>f (KX b o e) (by grind);have T:Mod K mg (hidT sj.heap H):=⟨A,g hns,⟨mb,g hb,hbb⟩,let ⟨mc,h1,h2⟩:=hlim;⟨mc,g h1,h2⟩⟩;have U:Env0 P w K mg (hidT sj.heap H) kx [] sj H:=⟨rfl,T,λb o e=>b5B e,gb (b1i _ _),trivial,λb hb=>absurd (show b∈([]) from hb) (by simp),y,.of_eq hg⟩;refine kU ((F _ A (g hns)).run kx [] sj H ⟨[.ref a],[]⟩ [.ref a] [.ref a] _ _ hr U (hbind sj (.ref a)) (.cons rfl .nil) (hsp H I R)) λr j h=>?_;cases r with
  | error e=>exact (hCX H e j h).elim
  | ok fl=>
   cases fl with
   | next=>exact eC h
   | brk=>exact eC h
   | cont=>exact eC h
   | ret u=>
    obtain⟨v,H',Q,C,J,B,S,q⟩:=h;have q':=q;subst q';obtain rfl:u=Value.bool true:=S;refine⟨rfl,OldK.of_keep λb o e=>?_,Q,C⟩;cases q:H b with
    | none=>exact J.keep b o e q (by intro z;exact absurd (show b∈([]) from z) (by simp)) (by simp)
    | some u=>
     rcases I b with z | ⟨ob,xs,z⟩
     ·rw[q]at z;cases z
     ·have z2:=J.frzs b ob _ z;obtain⟨M,_⟩:=y b _ z;obtain⟨Y,_⟩:=B b _ z2;rw[e]at M;cases M;exact Y
 cases hk:K.lookup a with
 | some o=>
  have e:=KX a o hk;rw[ha]at e;cases e;refine p _ (λ_=>.inl rfl) (.inr ⟨_,vs.toArray,_,hk,rfl,rfl,rfl,by rw[fk,E];exact hl,by simpa using L⟩) (λb u z=>by have t:=z;cases t) (λb z=>absurd rfl z) λz=>absurd rfl z
 | none=>
  refine p (λb=>if b=a then some _ else none) (λb=>?_) (.inl (.inr ⟨{ cls:=.type "list",data:=.seq vs.toArray },if_pos rfl⟩)) (λb u z=>?_) (λb z=>?_) λ_=>hk
  ·grind
  ·by_cases hb:b=a
   ·have t:=(if_pos hb).symm.trans z;cases t;subst hb;exact⟨ha,by rw[er];exact hl,vs,_,L,ha⟩
   ·have t:=(if_neg hb).symm.trans z;cases t
  ·by_cases hb:b=a
   ·exact hb
   ·exact absurd (if_neg hb) z
theorem walk_of {l:PySem.W.OpenLaw}{K:Params->Fg}{CX:World->CXT}{sp:World->Sp}
  (hn:l.most=some n) (hn2:n<=jC) (hdf:d.params.defaults=[]) (hr:Room k kx)
  (hY:∀ (w:World) (h:Heap),YP w h->(K w.params).In h)
  (F:∀ (w:World) (mg:Str->Option Value) (fa:Addr) (h:Heap),(K w.params).In h->h.Ns jG mg->mg d.name=some (.ref fa) ->
   ∃ fd:jI,(∀ (s:Shared) (u:Value),kA s fd ⟨[u],[]⟩ [(x,u)]) /\
    ∀ base:Heap,(K w.params).In base->base.Ns jG mg->FnOk l.prog w (K w.params) mg base (CX w) k fa fd [x] (sp w))
  (hsp:∀ (w:World) (H:Hp) (a:Addr) (ns:List Int),ns.length<=n->Only H->SqL (K w.params) H a (ns.map V.int)->sp w [.ref a] H (λv _=>v=.bl true) λ_ _ _=>False)
  (hCX:∀ (w:World) (H:Hp) (s:Shared) (e:Value) (s':Shared),CX w [] H s (λ_ _ _=>False) e s'->False) :
  PySem.W.WalkO q loose XP YP l.row.toRowW d [] (λf vs=>PySem.call f vs):=by
 refine Att.attach_call hn hdf λw N r y U B o R Q J a S z G Y X M L p j i c D=>?_;have m:=hY w _ Y;obtain⟨fd,C,A⟩:=F w y B _ m G.T.g p;exact b3I m G.T.g G.T.b G.T.builtins G.T.nolimit D j i (eM c hn2) hr A C (λH I E=>hsp w H a z c I E) λH e t=>hCX w H r e t
noncomputable def a1D (s:Stmt) (j:Nat):Stmt:=match s with
 | .ClassDef _ _ _ body _ _ _ _ _ _ _=>body.getD j (.Pass ⟨0,0,0,0⟩)
 | _=>.Pass ⟨0,0,0,0⟩
noncomputable def a3E (s:Stmt):Arguments:=match s with
 | .FunctionDef _ a _ _ _ _ _ _ _ _=>a
 | _=>{ posonlyargs:=[],args:=[],vararg:=none,kwonlyargs:=[],kw_defaults:=[],kwarg:=none,defaults:=[] }
noncomputable def a2c (s:Stmt):List Stmt:=match s with
 | .FunctionDef _ _ b _ _ _ _ _ _ _=>b
 | _=>[]
noncomputable def a0f (s:Stmt):Scope:=match s with
 | .FunctionDef _ _ _ _ _ _ sc _ _ _=>sc
 | _=>{ kind:=.function,names:=[],isGenerator:=false,isCoroutine:=false }
abbrev CX0:CXT:=λ_ _ _ _ _ _=>False
abbrev E0:XK:=λ_ _ _=>False
theorem b3J:a2T CX0 X E0:=λ_ _ _ _ _ _ _ h=>h.elim
structure Fun (K:Fg) (x qual:Str) (st:Stmt) (f:Addr) (fd:jI):Prop where
 ex:∃ (oc:Value) (od:Option Addr) (kV doc pm:Value) (an:Option Addr) (cdv ct:Value) (osl:Array (Option Value)),
  fd=PySem.W.fnOf x qual (a3E st) (a2c st) (a0f st) .none kV doc pm an cdv ct/\K.lookup f=some ⟨oc,od,.func fd,osl⟩/\PySem.W.codeIn K cdv qual=true
 kp:PySem.W.keepIn K (.ref f)=true
section
variable {P:jH}{w:World}{K:Fg}{mg:Str->Option Value}{base:Heap}
theorem Fun.ok {st:Stmt}(F:Fun K x qual st f fd) (S:FnScope N ps (a0f st)) (len:∀ vs H Q E,sp vs H Q E->vs.length=ps.length)
  (hbody:∀ (cdv:Value) (A:Around) (outer:List Env) (s:Shared) (H:Hp) (vs:List V) (Q:VK) (E:XK),Room k (A.deeper (envOfC qual (a0f st) s.heap.objs.size f cdv))->sp vs H Q E ->
   ∃ t,PSs (cxOf CX0 P w K mg base N qual (a0f st) f cdv A outer s H E).nox (a2c st) t/\t { nx:=λ_ H'=>Q .non H',rt:=Q } (start N vs) H):FnOk P w K mg base CX0 (k+1) f fd ps sp:=by
 obtain⟨n,u,r,l,m,o,c,p,j,rfl,i,d⟩:=F.ex;refine b7J i d S len λA a s H g Q E e b=>?_;obtain⟨t,h,q⟩:=hbody c A a s H g Q E e b;exact⟨t,h.nox,q⟩
theorem Fun.binds {st:Stmt}(F:Fun K x qual st f fd)
  (h:∀ (kV doc pm:Value) (an:Option Addr) (cdv ct:Value) (us:List Value),us.length=ps.length->bindArgs (PySem.W.fnOf x qual (a3E st) (a2c st) (a0f st) .none kV doc pm an cdv ct) ⟨us,[]⟩=pure (ps.zip us)):Binds K fd ps []:=by
 obtain⟨k,l,g,a,e,d,b,c,i,rfl,m,j⟩:=F.ex;exact .all (h g a e d b c)
theorem b4S {st:Stmt}{kV doc pm cdv ct:Value}(l:K.lookup f=some ⟨oc,od,.func (PySem.W.fnOf x qual (a3E st) (a2c st) (a0f st) .none kV doc pm an cdv ct),osl⟩)
  (c:PySem.W.codeIn K cdv qual=true) (k:PySem.W.keepIn K (.ref f)=true):Fun K x qual st f (PySem.W.fnOf x qual (a3E st) (a2c st) (a0f st) .none kV doc pm an cdv ct):=⟨⟨oc,od,kV,doc,pm,an,cdv,ct,osl,rfl,l,c⟩,k⟩
end
theorem a0z (h:n<=1000):n<sizeLine:=gG h (by decide)
section
variable {X:Cx}
theorem pv (i:Nat) (hN:X.N[i]?=some x:=by rfl) (hv:Vis X.env.scope x:=by first | exact en rfl | exact gf (en rfl) | exact gf (gf rfl)) (hd:(x==("__debug__":Str))=false:=by decide)
  (hcd:(x==("__classdict__":Str))=false:=by decide):PE X (.Name x pos) (tVar i):=b7e hN hv hd hcd
end
noncomputable def Same (H H':Hp):Prop:=∀ b o,H b=some o->H' b=some o
theorem Same.refl (H:Hp):Same H H:=λ_ _ h=>h
theorem Same.trans (a:Same H H1) (b:Same H1 H2):Same H H2:=λc o h=>b c o (a c o h)
theorem Same.free (e:Same H H') (h:H' l=Option.none):H l=Option.none:=by
 cases q:H l with
 | none=>rfl
 | some o=>
  rw[e l o q]at h;cases h
theorem Same.seq {K:Fg}(e:Same H H') (h:SqL K H a xs):SqL K H' a xs:=by
 rcases h with (h | ⟨o,h⟩) | h
 ·exact .inl (.inl (e _ _ h))
 ·exact .inl (.inr ⟨o,e _ _ h⟩)
 ·exact .inr h
section
variable {κ:Type}[DecidableEq κ]
noncomputable def valV (kvs:List (κ×V)) (k:κ):Option V:=(kvs.find? λkv=>decide (kv.1=k)).map (·.2)
noncomputable def putK (kvs:List (κ×V)) (k:κ) (v:V):List (κ×V):=
 if (kvs.any λkv=>decide (kv.1=k))=true then kvs.map (λkv=>if kv.1=k then (kv.1,v) else kv) else kvs++[(k,v)]
noncomputable def b7O (kvs:List (κ×V)) (k:κ):List (κ×V):=kvs.filter λkv=>decide (kv.1≠k)
theorem a69 {k:κ}(e:p.1=k):valV (p::r) k=some p.2:=by simp[valV,fK,e]
theorem a7a {k:κ}(e:¬ p.1=k):valV (p::r) k=valV r k:=by simp[valV,fK,e]
theorem a7b (k:κ):∀ kvs:List (κ×V),(kvs.any λkv=>decide (kv.1=k))=(valV kvs k).isSome
 | []=>rfl
 | p::r=>by
  rw[gg]
  by_cases e:p.1=k
  ·simp only[a69 e,decide_eq_true e,Bool.true_or,Option.isSome_some]
  ·rw[a7a e,decide_eq_false e,iZ];exact a7b k r
theorem a2x (kvs:List (κ×V)) (k:κ) (v:V):(putK kvs k v).length<=kvs.length+1:=by grind [putK]
theorem RelO.isSome_eq (r:RelO o u):o.isSome=u.isSome:=by
 cases o with
 | none=>cases u with
  | none=>rfl
  | some _=>exact (r).elim
 | some _=>cases u with
  | none=>exact (r).elim
  | some _=>rfl
theorem RelO.getD (r:RelO o u) (rd:RelV d d'):RelV (o.getD d) (u.getD d'):=by
 cases o with
 | none=>cases u with
  | none=>exact rd
  | some _=>exact (r).elim
 | some _=>cases u with
  | none=>exact (r).elim
  | some _=>exact r
theorem KV.val (r:KV kvs vs) (k:κ):RelO (valV kvs k) (kC vs k):=by
 induction r with
 | nil=>exact True.intro
 | @cons p q ps qs h t ih=>
  obtain⟨c,d⟩:=h
  by_cases e:p.1=k
  ·have a:=c.symm.trans e;have b:kC (q::qs) k=some q.2:=by simp[kC,a]
   rw[a69 e,b];exact d
  ·have a:¬ q.1=k:=λz=>e (c.trans z);have b:kC (q::qs) k=kC qs k:=by simp[kC,a]
   rw[a7a e,b];exact ih
theorem KV.any (r:KV kvs vs) (k:κ):(kvs.any λkv=>decide (kv.1=k))=vs.any λkv=>decide (kv.1=k):=by
 induction r with
 | nil=>rfl
 | cons h t ih=>rw[gg,gg,ih,h.1]
theorem KV.repl (r:KV kvs vs) (k:κ) (ry:RelV y u) :
  KV (kvs.map λkv=>if kv.1=k then (kv.1,y) else kv) (vs.map λkv=>if kv.1=k then (kv.1,u) else kv):=by
 induction r with
 | nil=>exact .nil
 | @cons p q ps qs h t ih=>
  rw[eP,eP];refine .cons ?_ ih;obtain⟨a,b⟩:=h
  by_cases e:p.1=k
  ·rw[if_pos e,if_pos (a.symm.trans e)];exact⟨a,ry⟩
  ·rw[if_neg e,if_neg (λz=>e (a.trans z))];exact⟨a,b⟩
theorem KV.put (r:KV kvs vs) (k:κ) (ry:RelV y u):KV (putK kvs k y) (stored vs k u):=by
 unfold putK stored;rw[r.any k]
 by_cases e:(vs.any λkv=>decide (kv.1=k))=true
 ·rw[if_pos e,if_pos e];exact r.repl k ry
 ·rw[if_neg e,if_neg e];exact Paired.snoc r ⟨rfl,ry⟩
theorem KV.drop (r:KV kvs vs) (k:κ):KV (b7O kvs k) (without vs k):=by
 unfold b7O without
 induction r with
 | nil=>exact .nil
 | @cons p q ps qs h t ih=>
  obtain⟨c,d⟩:=h;rw[fw,fw]
  by_cases e:p.1=k
  ·simp_all
  ·have f:¬ q.1=k:=λz=>e (c.trans z);have a:decide (p.1≠k)=true:=by simp[e]
   have b:decide (q.1≠k)=true:=by simp[f]
   rw[if_pos a,if_pos b];exact .cons ⟨c,d⟩ ih
theorem KV.keys {kvs:List (κ×V)}(r:KV kvs vs):kvs.map (·.1)=vs.map (·.1):=by
 induction r with
 | nil=>rfl
 | cons h t ih=>rw[eP,eP,ih,h.1]
theorem KV.length (r:KV kvs vs):kvs.length=vs.length:=Paired.length r
end
theorem b1L (r:RelV (kV k) u):(a0N P w).is k u=true:=by
 match k,r with
 | .inl (some i),r=>obtain⟨t,e⟩:=(r);subst e;exact a8Z P w i t
 | .inl none,r=>rw[r];rfl
 | .inr x,r=>obtain⟨t,e⟩:=(r);subst e;exact a80 P w x t
theorem a7X:∀ {ks:List Key}{us:List Value},Vals (ks.map kV) us->ItemsAre (a0N P w) ks us
 | [],_,r=>by rw[eX]at r;cases r;exact .nil
 | k::ks,_,r=>by
  cases r with
  | cons h t=>exact .cons (b1L h) (a7X t)
abbrev KT (H:Hp):List (List Key×V)->List (List Key×Addr×Value)->Prop:=Paired λp q=>p.1=q.1/\H q.2.1=some (.tup (p.1.map kV))/\RelV p.2 q.2.2
theorem KT.val (r:KT H kvs xs) (k:List Key):RelO (valV kvs k) ((atKey xs k).map (·.2)):=by
 induction r with
 | nil=>exact True.intro
 | @cons p q ps qs h t ih=>
  obtain⟨c,_,d⟩:=h
  by_cases e:p.1=k
  ·have a:=c.symm.trans e;have b:atKey (q::qs) k=some q.2:=by simp[atKey,a]
   rw[a69 e,b];exact d
  ·have a:¬ q.1=k:=λz=>e (c.trans z);have b:atKey (q::qs) k=atKey qs k:=by simp[atKey,a]
   rw[a7a e,b];exact ih
theorem KT.repl (r:KT H kvs xs) (k:List Key) (ry:RelV y u) :
  KT H (kvs.map λkv=>if kv.1=k then (kv.1,y) else kv) (xs.map (putAt k u)):=by
 induction r with
 | nil=>exact .nil
 | @cons p q ps qs h t ih=>
  rw[eP,eP];refine .cons ?_ ih;obtain⟨a,b,c⟩:=h;unfold putAt
  by_cases e:p.1=k
  ·rw[if_pos e,if_pos (a.symm.trans e)];exact⟨a,b,ry⟩
  ·rw[if_neg e,if_neg (λz=>e (a.trans z))];exact⟨a,b,c⟩
theorem KT.put (r:KT H kvs xs) (k:List Key) (hb:H b=some (.tup (k.map kV))) (ry:RelV y u) :
  KT H (putK kvs k y) (kb xs k b u):=by
 have e:(kvs.any λa=>decide (a.1=k))=(atKey xs k).isSome:=by
  rw[a7b,(r.val k).isSome_eq,i3]
 unfold putK kb;rw[e]
 by_cases q:(atKey xs k).isSome=true
 ·rw[if_pos q,if_pos q];exact r.repl k ry
 ·rw[if_neg q,if_neg q];exact Paired.snoc r ⟨rfl,hb,ry⟩
theorem KT.keeps (r:KT H kvs xs) (ht:∀ b ys,H b=some (.tup ys)->H' b=some (.tup ys)):KT H' kvs xs:=
 Paired.mapP r λ_ _ z=>⟨z.1,ht _ _ z.2.1,z.2.2⟩
section
variable {P:jH}{w:World}{H:Hp}{h:Heap}{a:Addr}
theorem b7P (ok:HOk P w H h) (e:Rd H a u):ObjOk P w H h a u:=e.ok ok
theorem b5Y (ok:HOk P w H h) (e:Rd H a (.dK kvs)):kvs.length<=jC/\(a==j5)=false/\∃ vs,KV kvs vs/\h.DictOf (a0N P w) a vs:=
 b7P ok e
theorem b5Z (ok:HOk P w H h) (e:H a=some (.dK kvs)):kvs.length<=jC/\(a==j5)=false/\∃ vs,KV kvs vs/\h.DictOf (a0N P w) a vs:=b5Y ok (.inl e)
theorem a7Y (ok:HOk P w H h) (e:H a=some (.tup (ks.map kV))):(jT (a0N P w)).is h ks a:=by
 obtain⟨_,b,r,o,d,c,n,f⟩:=(ok a _ e);exact⟨o,b.toArray,n,d,c,f,by simpa using a7X r⟩
theorem b50 (ok:HOk P w H h) (e:Rd H a (.dT kvs)):kvs.length<=jC/\(a==j5)=false /\
  ∃ xs,KT H kvs xs/\h.DictOfH (jT (a0N P w)) a xs:=by
 obtain⟨z,y,g,r,o,d,s,j,k,f,n,i⟩:=(b7P ok e);refine⟨z,y,g,r,o,d,s,j,k,f,n,λx b=>?_,i⟩;have c:∀ {l:List _}{m:List _},KT H l m->∀ x∈m,(jT (a0N P w)).is h x.1 x.2.1:=by
  intro l m q
  induction q with
  | nil=>intro x b;exact nomatch b
  | @cons p q ps qs hq t ih=>
   intro x b;rcases eI.mp b with e | b
   ·subst e;exact a7Y ok (by simp_all)
   ·exact ih x b
 exact c r x b
theorem c0d (ok:HOk P w H h) (e:H a=some (.dT kvs)):kvs.length<=jC/\(a==j5)=false /\
  ∃ xs,KT H kvs xs/\h.DictOfH (jT (a0N P w)) a xs:=b50 ok (.inl e)
end
noncomputable def DGet (H:Hp) (a:Addr) (y:V) (r:Option V):Prop:=
 (∃ kvs k,Rd H a (.dK kvs)/\y=kV k/\r=valV kvs k)\/∃ kvs k b,Rd H a (.dT kvs)/\y=.ref b/\H b=some (.tup (k.map kV))/\r=valV kvs k
noncomputable def DPut (H:Hp) (a:Addr) (y v:V) (H':Hp):Prop:=
 (∃ kvs k,H a=some (.dK kvs)/\y=kV k/\kvs.length<jC/\H'=upd H a (.dK (putK kvs k v))) \/
 ∃ kvs k b,H a=some (.dT kvs)/\y=.ref b/\H b=some (.tup (k.map kV))/\kvs.length<jC/\H'=upd H a (.dT (putK kvs k v))
theorem DGet.k {k:Key}(e:H a=some (.dK kvs)):DGet H a (kV k) (valV kvs k):=.inl ⟨kvs,k,.inl e,rfl,rfl⟩
theorem DGet.t {k:List Key}(e:H a=some (.dT kvs)) (eb:H b=some (.tup (k.map kV))):DGet H a (.ref b) (valV kvs k):=.inr ⟨kvs,k,b,.inl e,rfl,eb,rfl⟩
theorem DPut.k {k:Key}(e:H a=some (.dK kvs)) (hl:kvs.length<jC):DPut H a (kV k) v (upd H a (.dK (putK kvs k v))):=.inl ⟨kvs,k,e,rfl,hl,rfl⟩
theorem DPut.t {k:List Key}(e:H a=some (.dT kvs)) (eb:H b=some (.tup (k.map kV))) (hl:kvs.length<jC) :
  DPut H a (.ref b) v (upd H a (.dT (putK kvs k v))):=.inr ⟨kvs,k,b,e,rfl,eb,hl,rfl⟩
section
variable {X:Cx}{pins:List (Addr×Obj)}{σ:St}{H:Hp}{s:Shared}{a:Addr}{y v:V}{u r:Value}{o:Option V}{A:Around}{E:Value->Shared->Prop}
theorem Inv.big (I:Inv X pins σ H s):j5<s.heap.objs.size:=by
 have h:=(I.mod.glob.keeps I.bk).lt;exact gH (by decide) h
theorem b51 (hu:A.units+1<cLine) (I:Inv X pins σ H s) (g:DGet H a y o) (ry:RelV y u) (h:∀ s',Inv X pins σ H s'->Q (.bool (!o.isSome)) s') :
  wpAny (model X.prog X.w) A (jL .NotIn u (.ref a)) Q E s:=by
 rcases g with ⟨kvs,k,e,ey,l⟩ | ⟨kvs,k,b,e,ey,eb,l⟩
 ·subst ey;obtain⟨z,f,i,c,d⟩:=b5Y I.hok e;refine wpAny_notIn_of (b1L ry) f d.mapOf ?_;rw[<- (c.val k).isSome_eq,<- l];exact h _ (I.tok _)
 ·subst ey;cases (ry);obtain⟨z,f,j,c,d⟩:=b50 I.hok e;refine wpAny_notIn_heap (k6 hu) (a7Y I.hok eb) f d ?_;have q:=(c.val k).isSome_eq;rw[i3]at q;rw[<- q,<- l];exact h _ (I.tok _)
theorem a83 (I:Inv X pins σ H s) (mu:Mut (H a)) (hs:Heap.SameBut a s.heap h') (he:∃ q,h'.get? a=some q) (new:ObjOk X.prog X.w (upd H a ob) h' a ob) :
  Inv X pins σ (upd H a ob) { s with heap:=h',toks:=t' }:=
 I.write mu (.inl rfl) (λb q c z=>(hs.2 b c).trans z) he new
theorem b4T (z:kvs.length<=jC) (hd:(a==j5)=false) (rel:KV kvs vs) (dd:h'.DictOf (a0N P w) a vs) :
  ObjOk P w H' h' a (.dK kvs):=⟨z,hd,vs,rel,dd⟩
theorem b1M (hu:A.units+1<cLine) (I:Inv X pins σ H s) (g:DPut H a y v H') (ry:RelV y u) (rv:RelV v r) (h:∀ s',Inv X pins σ H' s'->Q () s') :
  wpAny (model X.prog X.w) A (kR (.ref a) u r) Q E s:=by
 rcases g with ⟨kvs,k,e,ey,l,eH⟩ | ⟨kvs,k,b,e,ey,eb,l,eH⟩
 ·subst ey eH;obtain⟨z,m,F,d,p⟩:=b5Z I.hok e;have o:F.length<=sizeLine:=by rw[<- d.length];exact z
  have n:(putK kvs k v).length<=sizeLine:=by have:=a2x kvs k v;omega
  refine wpAny_setItem_pairs (b1L ry) p λx f j=>h _ ?_;have L:∃ q,x.get? a=some q:=let ⟨q,_,_,i,_⟩:=f;⟨q,i⟩
  exact a83 I (by rw[e];exact True.intro) j L (b4T n m (d.put k rv) f)
 ·subst ey eH;cases (ry);obtain⟨z,m,D,d,p⟩:=c0d I.hok e;have o:D.length<=sizeLine:=by rw[<- Paired.length d];exact z
  have n:(putK kvs k v).length<=sizeLine:=by have:=a2x kvs k v;omega
  refine wpAny_setItem_heap (hsz:=o) (k6 hu) (a7Y I.hok eb) p λx f j=>h _ ?_;obtain⟨q,C,M,i,J,N,B,_,G⟩:=f;refine a83 I (by rw[e];exact True.intro) j ⟨q,i⟩ ⟨n,m,_,(d.put k eb rv).keeps λc R t=>?_,q,C,M,i,J,N,B,G⟩;rw[a0t (b9Q t e (λz=>nomatch z))];exact t
end
section
variable {X:Cx}{pins:List (Addr×Obj)}{σ:St}{H:Hp}{s:Shared}{a:Addr}{kvs:List (Key×V)}{k:Key}{u:Value}{A:Around}{E:Value->Shared->Prop}
end
section
variable {X:Cx}{o i e value:Expr}{pos pos' tpos:Pos}{td ty tv:TE}
end
theorem a9M (h:Heap) (hb:j5<h.objs.size):ObjOk P w H (h.push { cls:=.type "dict",data:=.dict #[] }) h.objs.size (.dK []):=
 ⟨e8 _,beq_eq_false_iff_ne.mpr (Ne.symm (eO hb)),[],.nil,Heap.DictOf.new h⟩
noncomputable def b7Q:TE:=λ_ H Q=>∀ p,H p=none->Q (.ref p) (upd H p (.dK []))
section
variable {X:Cx}{pos:Pos}
theorem b3K:PE X (.Dict [] [] pos) b7Q:=λb s σ H Q I h=>
 wpAny_Dict_empty ⟨.ref s.heap.objs.size,_,I.laid (λ_ _ q=>Heap.get?_push_of_some _ q) (eB _) (a9M s.heap I.big),rfl,h _ (I.hok.fresh (eB _))⟩
end
noncomputable def b7R (kvs more:List (Key×V)):List (Key×V):=more.foldl (λacc kv=>putK acc kv.1 kv.2) kvs
theorem KV.merge:∀ {more:List (Key×V)}{rs:List (Key×Value)}{kvs:List (Key×V)}{vs:List (Key×Value)},KV more rs->KV kvs vs->KV (b7R kvs more) (merged vs rs):=by
 intro d f a b r
 induction r generalizing a b with
 | nil=>intro q;exact q
 | @cons p q ps qs h t ih=>
  intro c;have e:KV (putK a p.1 p.2) (stored b q.1 q.2):=by
   have:=c.put p.1 h.2
   rw[<- h.1];exact this
  exact ih e
section
variable {X:Cx}{pins:List (Addr×Obj)}{σ:St}{H:Hp}{s:Shared}{a:Addr}{y d:V}{u r:Value}{o:Option V}{A:Around}{E:Value->Shared->Prop}
theorem b7S (hu:A.units+1<cLine) (I:Inv X pins σ H s) (g:DGet H a y o) (ry:RelV y u) (rd:RelV d r) (h:∀ w' s',Inv X pins σ H s'->RelV (o.getD d) w'->Q w' s') :
  wpAny (model X.prog X.w) A (call (.builtin "dict.get") [.ref a,u,r]) Q E s:=by
 rcases g with ⟨kvs,k,e,ey,l⟩ | ⟨kvs,k,b,e,ey,eb,l⟩
 ·subst ey;obtain⟨z,i,m,f,c⟩:=b5Y I.hok e;refine lN PySem.F.slot_dict_get c.typeIs PySem.F.entry_dict_get (PySem.F.args_dict_get_3 _ _ _) (meets_dict_get_default _ a (b1L ry) i r) ⟨_,c.mapOf,h _ _ (I.tok _) ?_⟩;rw[l];exact (f.val k).getD rd
 ·subst ey;cases (ry);obtain⟨z,i,j,f,c⟩:=b50 I.hok e;refine lN PySem.F.slot_dict_get c.typeIs PySem.F.entry_dict_get (PySem.F.args_dict_get_3 _ _ _) (meetsH_dict_get_default _ a b i r) ⟨k6 hu,k,j,a7Y I.hok eb,c,h _ _ (I.tok _) ?_⟩;rw[l];exact (f.val k).getD rd
end
section
variable {X:Cx}{o e f:Expr}{apos cpos:Pos}{td ty tx:TE}
end
section
variable {X:Cx}{pins:List (Addr×Obj)}{σ:St}{H:Hp}{s:Shared}{a:Addr}{kvs:List (Key×V)}{A:Around}{E:Value->Shared->Prop}
end
section
variable {X:Cx}{pins:List (Addr×Obj)}{σ:St}{H:Hp}{s:Shared}{a:Addr}{y:V}{u:Value}{A:Around}{E:Value->Shared->Prop}
end
end L2
namespace PySem
noncomputable def a1e (env:Env):List (Str×jM)->List (Str×Addr)->List (Str×Addr)
 | [],cs=>cs
 | (n,k)::r,cs=>if (k==.free)=true then a1e env r ((n,(env.cells.lookup n).getD 0)::cs) else a1e env r cs
theorem a7c (h:∀ x∈scope.names,x.2=.free->∃ c,env.cells.lookup x.1=some c):closureFor scope env=pure (a1e env scope.names []):=by
 simp only[closureFor]
 suffices H:∀ l b,(∀ x∈l,x.2=.free->∃ c,env.cells.lookup x.1=some c) ->
   forIn l b _=pure (a1e env l b) by
  rw[H scope.names [] h];rfl
 intro l
 induction l with
 | nil=>intro b _;rfl
 | cons x l ih=>
  intro b j;obtain⟨n,k⟩:=x;have g:=λb=>ih b λy o=>j y (fE _ o);rw[List.forIn_cons]
  by_cases hk:k=.free
  ·subst hk;obtain⟨c,m⟩:=j _ fJ rfl;have f:cellOf env n=pure c:=by unfold cellOf;rw[m]
   rw[if_pos (show (jM.free==jM.free)=true from rfl),f];have e:a1e env ((n,jM.free)::l) b=a1e env l ((n,c)::b):=by
    show (if (jM.free==jM.free)=true then _ else _)=_
    rw[m];rfl
   rw[e,<- g ((n,c)::b)]
   rfl
  ·have i:(k==jM.free)=false:=by simpa using hk
   have e:a1e env ((n,k)::l) b=a1e env l b:=by
    show (if (k==jM.free)=true then _ else _)=_
    rw[i];rfl
   rw[e,<- g b];rw[i,if_neg e7]
   rfl
theorem a2y:∀ (l:List (Str×jM)) (cs:List (Str×Addr)),(∀ y∈l,y.2=.free->∃ c,env.cells.lookup y.1=some c)->(∀ y c,cs.lookup y=some c->env.cells.lookup y=some c) ->
  ∀ c,(a1e env l cs).lookup x=some c->env.cells.lookup x=some c
 | [],cs,_,hc,c,h=>hc x c h
 | (n,k)::r,cs,hx,hc,c,h=>by
  have g:=λy m=>hx y (fE _ m);unfold a1e at h
  split at h
  ·rename_i hk
   have f:k=.free:=by simpa using hk
   obtain⟨d,j⟩:=hx (n,k) fJ f;refine a2y r _ g (λy i a=>?_) c h;rw[fG]at a;cases e:y==n with
   | true=>
    rw[e]at a;have o:y=n:=by simpa using e
    subst o;have b:=j;rw[b]at a ⊢;exact a
   | false=>rw[e]at a;exact hc y i a
  ·exact a2y r cs g hc c h
theorem a2z:∀ (l:List (Str×jM)) (cs:List (Str×Addr)) (c:Addr),cs.lookup x=some c->∃ c',(a1e env l cs).lookup x=some c'
 | [],cs,c,h=>⟨c,h⟩
 | (n,k)::r,cs,c,h=>by
  unfold a1e
  split
  ·cases e:x==n with
   | true=>exact a2z r _ _ (by rw[fG,e])
   | false=>exact a2z r _ c (by rw[fG,e];exact h)
  ·exact a2z r cs c h
theorem a3g:∀ (l:List (Str×jM)) (cs:List (Str×Addr)),(x,jM.free)∈l->∃ c,(a1e env l cs).lookup x=some c
 | [],cs,h=>by cases h
 | _::r,cs,h=>by
  unfold a1e;rcases eI.mp h with e | e
  ·cases e;exact a2z r _ ((env.cells.lookup x).getD 0) (by simp)
  ·split
   ·exact a3g r _ e
   ·exact a3g r _ e
theorem a3t {env:Env}:∀ (names:List (Str×jM)),
  (names.map λ(n,k)=>if (k==jM.free&&env.scope.kind==.function&&env.kindOf n==some .cell) then (n,jM.cell) else (n,k)).lookup x =
   (names.lookup x).map λk=>if (k==jM.free&&env.scope.kind==.function&&env.kindOf x==some .cell)=true then jM.cell else k
 | []=>rfl
 | (n,k)::r=>by
  have a:=a3t (env:=env) (x:=x) r
  show gY x ((if _=true then _ else (n,k))::_)=_
  cases hx:x==n with
  | true=>
   have e:x=n:=by grind
   subst e
   by_cases hc:(k==jM.free&&env.scope.kind==.function&&env.kindOf x==some .cell)=true
   simp only[fG,hx,g6,if_pos hc];simp only[fG,hx,g6,if_neg hc]
  | false=>
   by_cases hc:(k==jM.free&&env.scope.kind==.function&&env.kindOf n==some .cell)=true
   ·rw[if_pos hc];simp only[fG,hx];exact a
   ·rw[if_neg hc];simp only[fG,hx];exact a
theorem a3F (I:Nat->Shared->Prop)
  (turn:∀ n s,I n s->wpAny (model prog w) A (pyNext it) (λr sj=>match r with
   | none=>R (.ok .next) sj
   | some v=>wpAny (model prog w) A (lC target it v) (λ_ sj=>wpAny (model prog w) A (assign target env v) (λ_ sv=>
     wpAny (model prog w) A (forIn ifs true λc r=>if r=true then do let ok <- isTrue c env (eval c env);pure (ForInStep.yield ok) else pure (ForInStep.yield r)) (λok sx=>
      if ok=true then wpAny (model prog w) A (eval elt env) (λx sy=>
       wpAny (model prog w) A (call (.builtin "list.append") [acc,x]) (λ_ sJ=>∃ m,m<n/\I m sJ) (kM (model prog w) A env λe s'=>R (.error e) s') sy) (kM (model prog w) A env λe s'=>R (.error e) s') sx
      else ∃ m,m<n/\I m sx) (kM (model prog w) A env λe s'=>R (.error e) s') sv) (kM (model prog w) A env λe s'=>R (.error e) s') sj) (λ_ _=>False) sj) (λ_ _=>False) s)
  (n:Nat) (h:I n s) :
  j9 (model prog w) A (.compLoop (.ListComp elt [⟨target,iter,ifs,0⟩] scope pos) 0 it acc env) R s:=by
 refine codeAny_loop rfl I (λn s k=>?_) n h;refine wpAny_noted ?_;refine jB (lz (jB (jP (turn n s k) (λr d a=>?_) λ_ _ f=>f.elim)));cases r with
 | none=>exact jK a
 | some v=>
  refine jB (jP a (λ_ d a=>?_) λ_ _ f=>f.elim);refine jB (jP a (λ_ p g=>jB (jP g (λl z b=>?_) λ_ _ f=>f)) λ_ _ f=>f);cases l with
  | false=>exact jK ⟨rfl,b⟩
  | true=>
   exact jB (jB (jP b (λx o i=>jB (jP i (λ_ u j=>jK (jK ⟨rfl,j⟩)) λ_ _ f=>f)) λ_ _ f=>f))
theorem a1B:∀ (names:List (Str×jM)) (n:Nat) (acc:List (Str×Addr)),jN n names acc=jN n names []++acc
 | [],_,_=>rfl
 | (x,k)::r,n,acc=>by
  rw[jN,jN]
  split
  ·rw[a1B r _ _,a1B r _ [_]];simp
  ·exact a1B r n acc
theorem a5F:∀ {names:List (Str×jM)}{n:Nat},(x,c)∈jN n names []->(x,jM.cell)∈names
 | [],_,h=>by rw[jN]at h;simp at h
 | _::r,n,h=>by
  rw[jN]at h
  split at h
  ·next e=>
   rw[a1B,et]at h;rcases h with h | h
   ·exact .tail _ (a5F h)
   ·grind
  ·exact .tail _ (a5F h)
theorem a7d {code:Value}
  (h:∀ h',h'.Ns s.heap.objs.size (λ_=>none)->(∀ b o,s.heap.get? b=some o->h'.get? b=some o)->k7 h' (s.heap.objs.size+1) (jN (s.heap.objs.size+1) scope.names [])->Q (newEnv scope s.heap.objs.size globals (jN (s.heap.objs.size+1) scope.names closure) qual func code around builtins) { s with heap:=h' }) :
  wpAny M A (newFunctionEnv scope globals closure [] qual func code around builtins) Q E s:=by
 refine jB (wpAny_alloc (jB (wpAny_layCells _ (λ_ _ _=>rfl) scope.names closure _ _ ?_)));have e:=Heap.size_push s.heap { cls:=Value.type (if around.isSome=true then "dict" else "frame"),data:=.dict #[] };have q:=h _ ((Heap.Ns.new s.heap _).keeps (pushCells_keeps _ _)) (λb o h=>pushCells_keeps _ _ _ _ (Heap.get?_push_of_some _ h)) (by
  rw[<- e];exact cellsFrom_ok scope.names _ _ [] ⟨λ_ _ h=>by simp at h,.nil⟩ (eB _))
 rw[<- e]at q;exact jB (jK (jK q))
end PySem
namespace L2
open PySem PySem.Spec PyProof.Rows
noncomputable def a4D (cap:List (Option Nat)) (σ:St):St:=cap.map λo=>o.bind λj=>(σ[j]?).join
noncomputable def a2A:St->St->Prop
 | [],[]=>True
 | none::a,_::b=>a2A a b
 | some x::a,y::b=>y=some x/\a2A a b
 | _,_=>False
theorem a4E:∀ {a b:St},a2A a b->a.length=b.length/\∀ (i:Nat) v,a[i]?=some (some v)->b[i]?=some (some v)
 | [],[],_=>⟨rfl,λi v h=>by simp at h⟩
 | none::a,y::b,h=>by
  have c:=a4E (b:=b) h;refine⟨by simp[c.1],λi v e=>?_⟩;cases i with
  | zero=>simp at e
  | succ i=>simpa using c.2 i v (by simp_all)
 | some x::a,y::b,h=>by
  obtain⟨d,h⟩:=(h);have c:=a4E (b:=b) h;refine⟨by simp[c.1],λi v e=>?_⟩;cases i with
  | zero=>rw[d];simpa using e
  | succ i=>simpa using c.2 i v (by simpa using e)
 | [],_::_,h=>eC h
 | none::_,[],h=>eC h
 | some _::_,[],h=>eC h
theorem a24:∀ a:St,a2A a a
 | []=>True.intro
 | none::a=>a24 a
 | some _::a=>⟨rfl,a24 a⟩
noncomputable def capB (N:List Str) (so sc:Scope) (N':List Str) (cap:List (Option Nat)):Bool:=
 decide (sc.kind=.function)&&decide N'.Nodup&&decide (cap.length=N'.length)&&(sc.names.all λy=>decide (y.2=.cell->sc.names.lookup y.1=some .cell)) &&
 (sc.names.all λy=>decide (y.2=.local->sc.names.lookup y.1=some .local)) &&
 (sc.names.all λy=>decide (y.2=.free->so.names.lookup y.1=some .cell\/so.names.lookup y.1=some .free)) &&
 ((N'.zip cap).all λy=>match y.2 with | none=>true | some j=>decide (N[j]?=some y.1)&&decide (sc.names.lookup y.1=some .free))
structure CapOk (N:List Str) (so sc:Scope) (N':List Str) (cap:List (Option Nat)):Prop where
 kind:sc.kind=.function
 nd:N'.Nodup
 len:cap.length=N'.length
 cms:∀ y∈sc.names,y.2=.cell->sc.names.lookup y.1=some .cell
 nms:∀ y∈sc.names,y.2=.local->sc.names.lookup y.1=some .local
 fre:∀ y∈sc.names,y.2=.free->so.names.lookup y.1=some .cell\/so.names.lookup y.1=some .free
 cap:∀ (i:Nat) x j,N'[i]?=some x->cap[i]?=some (some j)->N[j]?=some x/\sc.names.lookup x=some .free
theorem b1N (h:capB N so sc N' cap=true):CapOk N so sc N' cap:=by
 unfold capB at h;simp only[fU,decide_eq_true_eq,fV]at h;obtain⟨⟨⟨⟨⟨⟨f,k⟩,d⟩,g⟩,b⟩,l⟩,e⟩:=h;refine⟨f,k,d,g,b,l,λi x j c a=>?_⟩;have m:(N'.zip cap)[i]?=some (x,some j):=by rw[List.getElem?_zip_eq_some];exact⟨c,a⟩
 have q:=e (x,some j) (eR m);simpa using q
structure Lk (fr:List Addr) (ex:Addr->Prop) (h h':Heap):Prop where
 keep:∀ b o,h.get? b=some o->b∉fr->¬ ex b->h'.get? b=some o
 slot:∀ b o,h.get? b=some o->¬ ex b->∃ sl,h'.get? b=some { o with slots:=sl }
 size:h.objs.size<=h'.objs.size
theorem Lk.refl {fr:List Addr}{ex:Addr->Prop}{h:Heap}:Lk fr ex h h:=⟨λ_ _ q _ _=>q,λ_ o q _=>⟨o.slots,q⟩,eB _⟩
theorem Lk.trans {fr:List Addr}{ex ex2:Addr->Prop}{h h1 h2:Heap}(a:Lk fr ex h h1) (b:Lk fr ex2 h1 h2) (i:∀ x,ex2 x->ex x\/h.objs.size<=x):Lk fr ex h h2:=by
 have n:∀ {x o},h.get? x=some o->¬ ex x->¬ ex2 x:=λ{x o} q n z=>by
  rcases i x z with z | z
  ·exact n z
  ·exact absurd (Heap.lt_size q) (Nat.not_lt.mpr z)
 refine⟨λx o q f z=>b.keep x o (a.keep x o q f z) f (n q z),λx o q z=>?_,eM a.size b.size⟩;obtain⟨sl,e⟩:=a.slot x o q z;obtain⟨sl2,e2⟩:=b.slot x _ e (n q z);exact⟨sl2,e2⟩
theorem Lk.funs (k:Lk fr ex h h'):∀ {l:List Env},(∀ b∈frs l,¬ ex b)->h.FunFrames base l->h'.FunFrames base l
 | [],_,_=>True.intro
 | env::rest,hx,⟨hk,⟨L,o,hf,hn,ho,hd⟩,hr⟩=>by
  have a:L∈frs (env::rest):=by show L∈(env::rest).filterMap _;rw[fD,hf];exact .head _
  obtain⟨d,e⟩:=k.slot L o ho (hx L a);exact⟨hk,⟨L,_,hf,hn,e,hd⟩,k.funs (λb c=>hx b (by show b∈(env::rest).filterMap _;rw[fD,hf];exact .tail _ c)) hr⟩
noncomputable def FlyT (e:Addr) (cls:Value) (T:Addr) (fl:Value) (h:Heap):Prop:=∃ oe vs oT ts,h.get? e=some oe/\(oe.cls=cls/\oe.dict=none)/\oe.data=.fields vs/\vs[1]?=some (.ref T)/\T≠e/\h.get? T=some oT/\oT.data=.fields ts/\ts[3]?=some fl
section
variable {M:Model}{A:Around}{E:Value->Shared->Prop}{s:Shared}{base:Heap}{env:Env}{outer:List Env}{L e T:Addr}{cls fl:Value}{Q:Unit->Shared->Prop}
theorem a6l (f:Array Value->Array Value) (o:Obj):(o.mapFields f).dict=o.dict:=by
 unfold Obj.mapFields
 split<;>rfl
theorem b4U (hfr:A.frames=some (env::outer)) (hl:s.heap.FunFrames base (env::outer)) (hf:env.frame=some L) (he:s.heap.get? e=some oe) (hn0:oe.dict=none) (hd:oe.data=.fields vs) (hz:1<vs.size)
  (q:∀ h' T',Lk (frs (env::outer)) (·=e) s.heap h'->FlyT e oe.cls T' (rawInt L) h'->s.heap.objs.size<=T'->Q () { s with heap:=h' }) :
  wpAny M A (do let a <- frameOf env;let pl <- entryPlaceOf L hn;let b <- EntryCells.newEntry head a .none (rawInt L) .none pl;setField (.ref e) 1 b) Q E s:=by
 have t:e∉frs _:=λD=>by
  obtain⟨_,F,i,C⟩:=hl.mem D;rw[he]at i;cases i;exact C vs hd
 refine jB (wpAny_frameOf_fun hfr hl hf λc g=>jB (wpAny_entryPlaceOf λl m=>?_));unfold EntryCells.newEntry;refine jB ?_;refine lG ?_ (m.sizeOk5 _ _ _ _ _);generalize ht:([head,Value.ref L,.none,rawInt L,.none]++_).toArray=ts;have w:ts[3]?=some (rawInt L):=by rw[<- ht];simp
 have p:=(g.2.1 e t).trans he;have z:=Heap.lt_size p;have j:=gX z;have k:=Heap.get?_push_of_some { cls:=.type "traceback",dict:=none,data:=.fields ts } p;have r:=Obj.data_mapFields hd (·.setIfInBounds 1 (Value.ref c.objs.size));have u:=Heap.get?_update_self _ k (Obj.isFreed_of_fields r);have y:=(Heap.get?_update_other (c.push { cls:=.type "traceback",dict:=none,data:=.fields ts }) (Obj.mapFields (·.setIfInBounds 1 (Value.ref c.objs.size))) (Ne.symm j)).trans (Heap.get?_push_size c rfl);refine wpAny_setField k hd hz (q _ c.objs.size ?_ ⟨_,_,_,_,u,⟨Obj.cls_mapFields _ _,(a6l _ _).trans hn0⟩,r,by simp[hz],j,y,rfl,w⟩ (gb g.1.symm));have n:∀ b o,b≠e->c.get? b=some o->((c.push { cls:=.type "traceback",dict:=none,data:=.fields ts }).update e (Obj.mapFields (·.setIfInBounds 1 (Value.ref c.objs.size)))).get? b=some o:=λb o d f=>by
  rw[Heap.get?_update_other _ _ (Ne.symm d)];exact Heap.get?_push_of_some _ f
 refine⟨λb o f x d=>n b o d ((g.2.1 b x).trans f),λb o f d=>?_,?_⟩
 ·obtain⟨v,B⟩:=g.2.2 b o f;exact⟨v,n b _ d B⟩
 ·rw[Heap.size_update,<- g.1];exact fT (by simp)
theorem b1O (hT:FlyT e cls T fl s.heap) (q:∀ h',(∀ fr,Lk fr (·=T) s.heap h')->FlyT e cls T x h'->Q () { s with heap:=h' }):wpAny M A (setField (.ref T) 3 x) Q E s:=by
 obtain⟨l,m,oT,ts,r,p,j,k,i,hT,c,t⟩:=hT;have h:=(g7.mp t).1;refine wpAny_setField hT c h (q _ (λfr=>?_) ?_)
 all_goals have d:∀ b,b≠T->(s.heap.update T (Obj.mapFields (·.setIfInBounds 3 x))).get? b=s.heap.get? b:=λb a=>Heap.get?_update_other _ _ (Ne.symm a)
 all_goals have n:=Heap.get?_update_self (Obj.mapFields (·.setIfInBounds 3 x)) hT (Obj.isFreed_of_fields (Obj.data_mapFields c _))
 ·exact⟨λb o a _ g=>(d b g).trans a,λb o a g=>⟨o.slots,(d b g).trans a⟩,by rw[Heap.size_update];exact eB _⟩
 ·exact⟨l,m,_,_,(d e (Ne.symm i)).trans r,p,j,k,i,n,Obj.data_mapFields c _,by simp[h]⟩
theorem FlyT.field {Q:Value->Shared->Prop}(h:FlyT e cls T fl s.heap) (q:Q (.ref T) s):wpAny M A (field (.ref e) 1) Q E s:=by
 obtain⟨_,_,_,_,a,_,b,c,_⟩:=h;exact kB a b c q
theorem FlyT.mark {Q:Value->Shared->Prop}(h:FlyT e cls T fl s.heap) (q:Q fl s):wpAny M A (PySem.field (.ref T) 3) Q E s:=by
 obtain⟨_,_,_,_,_,_,_,_,_,a,c,b⟩:=h;exact kB a c b q
theorem b7T (hT:FlyT e cls T fl s.heap) (q:∀ h',(∀ fr,Lk fr (·=T) s.heap h')->FlyT e cls T (fo.elim .none λf=>rawInt f) h'->Q () { s with heap:=h' }):wpAny M A (setFlight (.ref e) fo) Q E s:=by
 refine jB (hT.field ?_);exact b1O hT q
theorem b3L (hfr:A.frames=some (env::outer)) (hl:s.heap.FunFrames base (env::outer)) (hf:env.frame=some L) (he:s.heap.get? e=some oe) (hn0:oe.dict=none) (hd:oe.data=.fields vs) (h1:vs[1]?=some .none)
  (q:∀ h' T',Lk (frs (env::outer)) (·=e) s.heap h'->FlyT e oe.cls T' (rawInt L) h'->s.heap.objs.size<=T'->Q () { s with heap:=h' }):wpAny M A (lb (.ref e) env) Q E s:=by
 unfold lb;simp only[hf];refine jB ?_;refine kB he hd h1 ?_;exact b4U hfr hl hf he hn0 hd (g7.mp h1).1 q
theorem b7U (hfr:A.frames=some (env::outer)) (hl:s.heap.FunFrames base (env::outer)) (hf:env.frame=some L) (hT:FlyT e cls T fl s.heap)
  (q:∀ h' T',Lk (frs (env::outer)) (λb=>b=e\/b=T) s.heap h'->FlyT e cls T' (rawInt L) h'->T'=T\/s.heap.objs.size<=T'->Q () { s with heap:=h' }):wpAny M A (lb (.ref e) env) Q E s:=by
 unfold lb;simp only[hf];refine jB (hT.field ?_);refine jB (hT.mark ?_)
 by_cases c:(fl==rawInt L)=true
 ·rw[if_pos c];rw[show fl=rawInt L by simpa using c]at hT;exact jK (q s.heap T .refl hT (.inl rfl))
 ·rw[if_neg c];refine jB (b1O hT λh a B=>?_);have l:=(a []).funs (λb v z=>by
   obtain⟨_,I,g,u⟩:=hl.mem v;obtain⟨_,_,_,i,_,_,_,_,_,d,j,_⟩:=hT;rw[z,d]at g;cases g;exact u i j) hl
  obtain⟨D,G,F,i,C,p,t,r,H,d,j,J⟩:=B;refine b4U hfr l hf C p.2 t (g7.mp r).1 λy w k f z=>q y w ?_ (p.1▸f) (.inr (eM (a []).size z));have m:Lk (frs (env::outer)) (λb=>b=e\/b=T) s.heap h:=⟨λb o q f n=>(a _).keep b o q f λz=>n (.inr z),λb o q n=>(a []).slot b o q λz=>n (.inr z),(a []).size⟩;exact m.trans k λx z=>.inl (.inl z)
theorem b3M (hfr:A.frames=some (env::outer)) (hl:s.heap.FunFrames base (env::outer)) (hf:env.frame=some L) (he:s.heap.get? e=some oe) (hn0:oe.dict=none) (hd:oe.data=.fields vs) (h1:vs[1]?=some .none)
  (q:∀ h' T',Lk (frs (env::outer)) (·=e) s.heap h'->FlyT e oe.cls T' .none h'->s.heap.objs.size<=T'->Q () { s with heap:=h' }):wpAny M A (kZ env (.ref e)) Q E s:=
 jB (b3L hfr hl hf he hn0 hd h1 λ_ b k f z=>b7T f λa d c=>q a b (k.trans (d _) λx w=>.inr (by rw[w];exact z)) c z)
theorem b7V (hfr:A.frames=some (env::outer)) (hl:s.heap.FunFrames base (env::outer)) (hf:env.frame=some L) (hT:FlyT e cls T fl s.heap)
  (q:∀ h' T',Lk (frs (env::outer)) (λb=>b=e\/b=T) s.heap h'->FlyT e cls T' .none h'->T'=T\/s.heap.objs.size<=T'->Q () { s with heap:=h' }):wpAny M A (kZ env (.ref e)) Q E s:=
 jB (b7U hfr hl hf hT λ_ c k f z=>b7T f λa g d=>q a c (k.trans (g _) λx w=>by
  rw[w];rcases z with z | z
  ·exact .inl (.inr z)
  ·exact .inr z) d z)
end
theorem Un.lk (u:Un fs ex0 H0 H h0 h) (v:Lk fr ex h h') (hf:∀ b∈fr,b∈fs\/h0.get? b=none) (hx:∀ b,ex b->b∈ex0\/h0.get? b=none):Un fs ex0 H0 H h0 h':=by
 have g:∀ {b o},h0.get? b=some o->b∉ex0->¬ ex b:=λ{b o} q n z=>by
  rcases hx b z with z | z
  ·grind
  ·grind
 refine⟨λb o q n c a=>?_,λb o q n c a=>?_,u.free,λb o q a=>?_,u.tups,u.frzs,u.tbls⟩
 ·refine v.keep b o (u.keep b o q n c a) (λz=>?_) (g q a);rcases hf b z with z | z
  ·grind
  ·grind
 ·obtain⟨j,f⟩:=u.slot b o q n c a;obtain⟨d,e⟩:=v.slot b _ f (g q a);exact⟨d,e⟩
 ·obtain⟨i,f⟩:=u.there b o q a;obtain⟨d,e⟩:=v.slot b _ f (g q a);exact⟨_,e⟩
theorem Un.gone (u:Un fs ex H0 H h0 h) (n:h.get? b=none):b∈ex\/h0.get? b=none:=by
 cases q:h0.get? b with
 | none=>exact .inr rfl
 | some o=>
  by_cases c:b∈ex
  ·exact .inl c
  ·obtain⟨a,e⟩:=u.there b o q c;rw[n]at e;cases e
theorem Un.gone0 (u:Un fs [] H0 H h0 h) (n:h.get? b=none):h0.get? b=none:=(u.gone n).resolve_left (by simp)
theorem ObjOk.is (x:ObjOk P w H h a o):∃ ob,h.get? a=some ob:=by
 cases o with
 | lst xs=>obtain⟨_,_,_,_,e⟩:=x;exact⟨_,e⟩
 | tup xs=>obtain⟨_,_,_,b,e,_⟩:=x;exact⟨_,e⟩
 | dK kvs=>obtain⟨_,_,_,_,o,_,_,e,_⟩:=x;exact⟨_,e⟩
 | dT kvs=>obtain⟨_,_,_,_,o,_,_,e,_⟩:=x;exact⟨_,e⟩
 | set S n=>obtain⟨o,_,_,_,e,_⟩:=x;exact⟨_,e⟩
 | ins C dx fs=>obtain⟨_,_,_,e,_⟩:=x;exact⟨_,e⟩
 | own y=>obtain⟨_,e⟩:=x;exact⟨_,e⟩
 | xd fs=>obtain⟨_,⟨_,_,_,e,_⟩,_⟩:=x;exact⟨_,e⟩
 | rng lo hi=>obtain⟨_,_,_,e⟩:=x;exact⟨_,e⟩
 | frz b u=>obtain⟨e,_⟩:=x;exact⟨_,e⟩
 | tbl ps=>exact⟨_,x⟩
 | met f y=>exact⟨_,x⟩
 | ext φ=>obtain⟨_,⟨_,e⟩,_⟩:=x;exact⟨_,e⟩
theorem HOk.gone (x:HOk P w H h) (n:h.get? a=none):H a=none:=by
 cases q:H a with
 | none=>rfl
 | some u=>obtain⟨b,e⟩:=(x a u q).is;rw[n]at e;cases e
theorem HOk.lk (x:HOk P w H h) (l:Lk fr ex h h') (hf:∀ b∈fr,H b=none) (he:∀ b,ex b->H b=none):HOk P w H h':=λa o q=>
 (x a o q).stay (λb u c r=>by
  have d:H b≠none:=by
   rcases c with rfl | c
   ·simp_all
   ·simp_all
  exact l.keep b u r (λz=>d (hf b z)) λz=>d (he b z)) (λ_ q=>q) λ_ _ q=>q
structure Fly (N:Addr->Prop) (H:Hp) (fl:Value) (e:Addr) (cls:Value) (h:Heap):Prop where
 at_:∃ T,FlyT e cls T fl h/\N T/\H T=none
 old:N e
 free:H e=none
noncomputable def CXx (P:jH) (w:World):CXT:=λouter H s E ev s'=>∃ e C H',ev=.ref e/\s'.os=s.os/\j6 s'.gens/\Un (frs outer) [] H H' s.heap s'.heap/\HOk P w H' s'.heap/\Fly (λb=>s.heap.get? b=none) H' .none e (.ref C) s'.heap/\E (.ref C) none H'
structure TKs (H H':Hp):Prop where
 tup:∀ b xs,H b=some (.tup xs)->H' b=some (.tup xs)
 frz:∀ b o u,H b=some (.frz o u)->H' b=some (.frz o u)
noncomputable def since (H:Hp) (E:XK):XK:=λc d H'=>TKs H H'->E c d H'
structure Outs (X:Cx) (E:XK):Prop where
 xe:∀ ev s',wpAny (model X.prog X.w) X.A (kZ X.env ev) (λ_ s''=>CXx X.prog X.w X.outer X.H₀ X.s₀ E ev s'') (λe' s''=>CXx X.prog X.w X.outer X.H₀ X.s₀ E e' s'') s'->X.xe ev s'
 stk:X.stack=X.env::X.outer
 frm:X.env.frame=some X.env.locals
 ex:X.ex=[]
theorem Outs.of {P:jH}{w:World}{K:Fg}{mg:Str->Option Value}{base:Heap}{N:List Str}{qual:Str}{scope:Scope}{f:Addr}{cd:Value}{A:Around}{outer:List Env}{s:Shared}{H:Hp}{E:XK}:Outs (cxOf (CXx P w) P w K mg base N qual scope f cd A outer s H E) E:=⟨λ_ _ h=>h,rfl,rfl,rfl⟩
section
variable {X:Cx}{E:XK}{pins:List (Addr×Obj)}{σ:St}{H:Hp}{s:Shared}
theorem Outs.frames (O:Outs X E) (I:Inv X pins σ H s):X.A.frames=some (X.env::X.outer):=by rw[<- O.stk];exact I.ok.frames
theorem Outs.sub (O:Outs X E) (I:Inv X pins σ H s):∀ b∈frs (X.env::X.outer),b∈X.fs\/X.s₀.heap.get? b=none:=λb a=>by
 rw[<- O.stk]at a;rcases eI.mp (I.stkSub b a) with z | z
 ·rw[z];exact .inr (Heap.get?_none_of_le I.ok.above)
 ·exact .inl z
theorem Outs.funs (O:Outs X E) (I:Inv X pins σ H s):s.heap.FunFrames X.base (X.env::X.outer):=by rw[<- O.stk];exact I.stack
theorem Outs.free (O:Outs X E) (I:Inv X pins σ H s):∀ b∈frs (X.env::X.outer),H b=none:=by rw[<- O.stk];exact I.stkFree
theorem Outs.base (O:Outs X E) (I:Inv X pins σ H s):Un X.fs [] X.H₀ H X.s₀.heap s.heap:=by have:=I.base;rw[O.ex]at this;exact this
theorem Outs.fin (O:Outs X E) (I:Inv X pins σ H s) {e C T:Addr}{ex:Addr->Prop}{h':Heap}(k:Lk (frs (X.env::X.outer)) ex s.heap h') (f:FlyT e (.ref C) T .none h') (hx:∀ b,ex b->X.s₀.heap.get? b=none/\H b=none) (he:ex e) (hT:ex T\/s.heap.objs.size<=T) (q:since X.H₀ E (.ref C) none H) :
  CXx X.prog X.w X.outer X.H₀ X.s₀ E (.ref e) { s with heap:=h' }:=
 ⟨e,C,H,rfl,I.os,I.bare,(O.base I).lk k (O.sub I) (λb hb=>.inr (hx b hb).1),I.hok.lk k (O.free I) λb hb=>(hx b hb).2,⟨⟨T,f,by
  rcases hT with z | z
  ·exact hx T z
  ·exact⟨Heap.get?_none_of_le (eM I.sz z),I.hok.fresh z⟩⟩,(hx e he).1,(hx e he).2⟩,q ⟨I.base.tups,I.base.frzs⟩⟩
theorem b3N (O:Outs X E) (I:Inv X pins σ H s) (hm:Heap.MadeExcOf s.heap h' e (.ref C) vs) (q:since X.H₀ E (.ref C) none H):X.xe (.ref e) { s with heap:=h' }:=by
 obtain⟨t,d,g,_⟩:=hm.there;have a:Inv X pins σ H { s with heap:=h' }:=I.kept hm.keeps;refine O.xe _ _ (b3M (O.frames I) (O.funs a) O.frm d rfl rfl (by simp) λh T l f z=>?_)
 exact O.fin a l f (λb c=>by rw[c];exact⟨(O.base I).gone0 hm.new,I.hok.gone hm.new⟩) rfl (.inr z) q
theorem a1y (O:Outs X E):a2T (CXx X.prog X.w) X (since X.H₀ E):=by
 intro a σ H s t k I ⟨e,C,o,r,i,c,n,g,⟨⟨T,f,m,d⟩,old,fe⟩,q⟩;subst r;have h:=I.call' i n g c λ_ z=>nomatch z;refine O.xe _ _ (b7V (O.frames I) (O.funs h) O.frm f λv u l p z=>?_);refine O.fin h l p (λb j=>?_) (.inl rfl) (by
  rcases z with z | z
  ·simp_all
  ·exact .inr z) q
 rcases j with rfl | rfl
 ·exact⟨(O.base I).gone0 old,fe⟩
 ·exact⟨(O.base I).gone0 m,d⟩
end
noncomputable def ExC (X:Cx) (E:XK) (C:Addr) (s:Shared) (H:Hp) (fp:List Addr) (ev:Value) (s':Shared):Prop:=
 ∃ e Cl H',ev=.ref e/\s'.os=s.os/\j6 s'.gens/\Un (frs X.stack) fp H H' s.heap s'.heap/\HOk X.prog X.w H' s'.heap/\Fly (λb=>b∈fp\/s.heap.get? b=none) H' .none e (.ref Cl) s'.heap/\(∃ m,s'.heap.Ns C m)/\H' C=none/\C≠e/\E (.ref Cl) none H'
noncomputable def a7e (X:Cx) (EW:XK) (sc:Scope):Prop:=∀ (pins:List (Addr×Obj)) (σ:St) (H:Hp) (s:Shared) (C:Addr) (fp:List Addr) (use:Option (Value->Sem Unit)) (Fin:Value->Shared->Prop) (acc:Value),Inv X pins σ H s->(∀ b∈fp,FpOk X pins H b)->C=s.heap.objs.size ->
 ∀ ev s',ExC X EW C s H fp ev s'->kM (model X.prog X.w) X.A (kD sc (jN (C+1) sc.names (a1e X.env sc.names [])) C X.env) (λe s''=>lO (model X.prog X.w) X.A X.xe use Fin acc C (.error e) s'') ev s'
theorem a9N:a7e X (λ_ _ _=>False) sc:=by
 rintro a σ H s C g d c b _ _ _ e f ⟨_,_,_,_,_,_,_,_,_,_,_,_,q⟩;exact q.elim
noncomputable def cxC (X:Cx) (EW:XK) (N':List Str) (sc:Scope) (C:Addr) (s:Shared) (H:Hp) (fp:List Addr):Cx:=
 { X with N:=N',s₀:=s,H₀:=H,env:=kD sc (jN (C+1) sc.names (a1e X.env sc.names [])) C X.env,outer:=X.stack,stack:=X.stack,ex:=fp,fn:=λx=>sc.names.lookup x==some .cell,pn:=[],xe:=ExC X EW C s H fp }
noncomputable def PIfs (X:Cx) (ifs:List Expr) (t:TT):Prop:=
 ∀ (pins:List (Addr×Obj)) (s:Shared) (σ:St) (H:Hp) (Q:Bool->Hp->Prop),Inv X pins σ H s->t σ H Q ->
  wpAny (model X.prog X.w) X.A (forIn ifs true λc r=>if r=true then do let ok <- isTrue c X.env (eval c X.env);pure (ForInStep.yield ok) else pure (ForInStep.yield r)) (TP X pins σ Q) X.xe s
noncomputable def tTT:TT:=λ_ H Q=>Q true H
theorem b3O:PIfs X [] tTT:=λ_ _ _ H _ I h=>wpAny_tests_nil ⟨H,I,h⟩
theorem b3P (h:PT X c t):PIfs X [c] t:=λa s σ H Q I q=>wpAny_tests_one (h a s σ H Q I q)
noncomputable def LcB (J:It) (cap:List (Option Nat)) (g:TG) (tt:TT) (te:TE) (σ:St) (Q:VK) (D:Addr) (H1:Hp):Prop:=
 ∃ W:Nat->Nat->List V->Hp->Prop,(∃ m,W 0 m [] (upd H1 D (.lst [])))/\∀ i m ys H2,W i m ys H2 ->
  (J.stop i H2/\Q (.ref D) H2) \/
  (J.go i H2/\∃ N:List V->Hp->Prop,(∀ ys' H',N ys' H'->∃ m',m'<m/\W (i+1) m' ys' H')/\∀ x H',J.yld i H2 x H' ->
   g x (a4D cap σ) H' fun σ2 H3=>a2A (a4D cap σ) σ2/\tt σ2 H3 λb H4=>if b=true then te σ2 H4 λy H5=>∃ zs,H5 D=some (.lst zs)/\zs.length<jC/\N (zs++[y]) (upd H5 D (.lst (zs++[y]))) else N ys H4)
noncomputable def tLC (wi:TI) (cap:List (Option Nat)) (g:TG) (tt:TT) (te:TE):TE:=fun σ H Q=>wi σ H λJ H1=>∀ D,H1 D=none->LcB J cap g tt te σ Q D H1
structure CFree (X:Cx) (pins:List (Addr×Obj)) (H:Hp) (C:Addr):Prop where
 free:H C=none
 loc:C≠X.env.locals
 old:X.s₀.heap.objs.size<=C
 cell:∀ x c,X.env.cells.lookup x=some c->c≠C
 pin:∀ p∈X.pn++pins,p.1≠C
section
variable {X:Cx}{pins:List (Addr×Obj)}{σ:St}{H:Hp}{s:Shared}{N':List Str}{sc:Scope}{cap:List (Option Nat)}{C:Addr}{fp:List Addr}{EW:XK}
theorem b1P (I:Inv X pins σ H s) (ck:CapOk X.N X.env.scope sc N' cap):∀ x∈sc.names,x.2=.free->∃ c,X.env.cells.lookup x.1=some c:=λx a b=>
 I.ok.has x.1 (ck.fre x a b)
theorem a6I (I:Inv X pins σ H s) (ck:CapOk X.N X.env.scope sc N' cap) (h:(a1e X.env sc.names []).lookup x=some c):X.env.cells.lookup x=some c:=
 a2y sc.names [] (b1P I ck) (λy c h=>by simp at h) c h
theorem b1Q (h:(jN n sc.names acc).lookup x=some c):(jN n sc.names []).lookup x=some c\/((jN n sc.names []).lookup x=none/\acc.lookup x=some c):=by
 rw[a1B,g8]at h;cases e:(jN n sc.names []).lookup x with
 | none=>rw[e]at h;exact .inr ⟨rfl,h⟩
 | some d=>rw[e]at h;exact .inl h
theorem a7f (I:Inv X pins σ H s) (ck:CapOk X.N X.env.scope sc N' cap) (co:k7 hjq n (jN n sc.names [])) (h:(jN n sc.names (a1e X.env sc.names [])).lookup x=some c):(hjq.IsCell c none/\n<=c)\/X.env.cells.lookup x=some c:=by
 rcases b1Q h with h | ⟨_,h⟩
 ·exact .inl (co.empty _ _ (PySem.mem_of_lookup h))
 ·exact .inr (a6I I ck h)
theorem b1R (env:Env) (x:Str):(kD sc cl C env).kindOf x=(sc.names.lookup x).map λk=>if (k==jM.free&&env.scope.kind==.function&&env.kindOf x==some .cell)=true then jM.cell else k:=
 a3t sc.names
theorem a2d {l:List (Str×jM)}(h:l.lookup x=some k):(x,k)∈l:=PySem.mem_of_lookup h
theorem c0e (I:Inv X pins σ H s) (ck:CapOk X.N X.env.scope sc N' cap) (hf:∀ b∈fp,FpOk X pins H b) (hlt:∀ b∈fp,b<s.heap.objs.size) (hC:C=s.heap.objs.size) (co:k7 hjq (C+1) (jN (C+1) sc.names [])):(cxC X EW N' sc C s H fp).Ok:=by
 have cl:∀ {x:Str}{c:Addr},(jN _ sc.names _).lookup x=some c->_\/X.env.cells.lookup x=some c:=λh=>a7f I ck co h;have j:∀ {x:Str}{c:Addr},X.env.cells.lookup x=some c->c<C:=λe=>by
  obtain⟨v,q⟩:=I.cell _ _ e;rw[hC];exact q.lt
 refine⟨I.ok.mod,ck.kind,I.ok.glob,I.ok.blt,by rw[hC];exact eB _,λx y c t g=>?_,λx m=>?_,λx c h g=>?_,I.ok.hd,I.ok.frames,.inl rfl,λb a=>⟨?_,λx c h=>?_⟩,I.bs,eM I.ok.bsz I.sz,λb o e a=>?_,λb a r=>?_,I.stack,I.stkFree⟩
 ·rcases b1Q t with a1 | ⟨_,a1⟩<;>rcases b1Q g with a2 | ⟨_,a2⟩
  ·exact name_of_addr co.apart (PySem.mem_of_lookup a1) (PySem.mem_of_lookup a2)
  ·exact absurd (eV (j (a6I I ck a2)) (gi (co.empty _ _ (PySem.mem_of_lookup a1)).2)) (e9 _)
  ·exact absurd (eV (j (a6I I ck a1)) (gi (co.empty _ _ (PySem.mem_of_lookup a2)).2)) (e9 _)
  ·exact I.ok.inj x y c (a6I I ck a1) (a6I I ck a2)
 ·have f:(sc.names.lookup x).map (λk=>if (k==jM.free&&X.env.scope.kind==.function&&X.env.kindOf x==some .cell)=true then jM.cell else k)=some .cell \/
    (sc.names.lookup x).map (λk=>if (k==jM.free&&X.env.scope.kind==.function&&X.env.kindOf x==some .cell)=true then jM.cell else k)=some .free:=by
   rw[<- b1R X.env x];exact m
  show ∃ c,(jN _ sc.names _).lookup x=some c
  cases e:sc.names.lookup x with
  | none=>rw[e]at f;rcases f with z | z<;>cases z
  | some k=>
   have p:=a2d e;rw[a1B,g8];cases e2:(jN _ sc.names []).lookup x with
   | some d=>exact⟨d,rfl⟩
   | none=>
    by_cases hk:k=.free
    ·subst hk;exact a3g sc.names [] p
    ·rw[e]at f;have a:(k==jM.free)=false:=by simpa using hk
     simp only[g6,a,ff.injEq]at f;rcases f with z | z
     ·subst z;obtain⟨d,i⟩:=a5o e;rw[i]at e2;cases e2
     ·exact absurd z hk
 ·have e:sc.names.lookup x=some .cell:=by
   have h:(sc.names.lookup x==some .cell)=true:=h;simpa using h
  obtain⟨d,i⟩:=a5o e;have g:(jN _ sc.names _).lookup x=some c:=g;rw[a1B,g8,i]at g;cases g;exact eM (gb hC.symm) (gi (co.empty _ _ (PySem.mem_of_lookup i)).2)
 ·show b≠C
  rw[hC];exact eO (hlt b a)
 ·rcases cl h with ⟨_,z⟩ | z
  ·exact λe=>absurd (eV (hlt b a) (eM (gb hC.symm) (e▸gi z))) (e9 _)
  ·exact (hf b a).2.2.2.2.1 x c z
 ·obtain⟨_,_,_,z,_⟩:=hf b a;rcases z with z | z
  ·exact I.ok.noex b o e z
  ·exact absurd (eV (Heap.lt_size e) (eM I.ok.bsz z)) (e9 _)
 ·rcases eI.mp (I.stkSub b r) with z | z
  ·exact (hf b a).2.1 z
  ·exact (hf b a).2.2.1 z
theorem b7W (I:Inv X pins σ H s) (ck:CapOk X.N X.env.scope sc N' cap) (hf:∀ b∈fp,FpOk X pins H b) (hlt:∀ b∈fp,b<s.heap.objs.size) (hC:C=s.heap.objs.size)
  (hn:hjq.Ns C m) (co:k7 hjq (C+1) (jN (C+1) sc.names [])) (hk:∀ b o,s.heap.get? b=some o->hjq.get? b=some o):Inv (cxC X EW N' sc C s H fp) [] (a4D cap σ) H { s with heap:=hjq,toks:=t' }:=by
 refine⟨c0e I ck hf hlt hC co,rfl,I.bare,Un.kept hk,⟨m,hn,λi x v F a T=>?_⟩,λx c h=>?_,?_,λx c h=>?_,λp G=>absurd (show p∈([]) from G) (by simp),I.hok.kept hk,?_⟩
 ·have B:=F;unfold a4D at a;rw[eK]at a;cases ec:cap[i]? with
  | none=>rw[ec]at a;cases a
  | some o=>
   rw[ec]at a;cases o with
   | none=>simp at a
   | some j=>
    have e:(σ[j]?).join=some v:=by simpa using a
    have t:σ[j]?=some (some v):=by
     cases q:σ[j]? with
     | none=>rw[q]at e;cases e
     | some w=>rw[q]at e;rw[show w=some v from e]
    obtain⟨L,g⟩:=ck.cap i x j B ec;have n:=ck.fre _ (a2d g) rfl;obtain⟨S,_,M⟩:=I.loc;obtain⟨u,E,Q⟩:=M j x v L t (.inr n);refine⟨u,E,.inr ⟨?_,?_⟩⟩
    ·show (kD sc _ C X.env).kindOf x=some .cell\/(kD sc _ C X.env).kindOf x=some .free
     rw[b1R,g];simp only[g6,beq_self_eq_true,fg]
     by_cases hc:(X.env.scope.kind==ScopeKind.function&&X.env.kindOf x==some jM.cell)=true
     ·simp_all
     ·rw[if_neg hc];exact .inr rfl
    ·obtain⟨D,l⟩:=a3g sc.names [] (a2d g);have J:=a6I I ck l;rcases Q with ⟨k,_⟩ | ⟨_,c,ec',z⟩
     ·have R:X.env.scope.names.lookup x=some .local:=k;have f:=n;rw[R]at f;rcases f with q | q<;>cases q
     ·rw[J]at ec';cases ec';obtain⟨y,A,r⟩:=z;refine⟨D,?_,y,hk _ _ A,r⟩
      show (jN (C+1) sc.names _).lookup x=some D
      rw[a1B,g8,l];cases a:(jN (C+1) sc.names []).lookup x with
      | none=>rfl
      | some d=>
       have:=ck.cms _ (a5F (PySem.mem_of_lookup a)) rfl
       rw[g]at this;cases this
 ·rcases a7f I ck co h with ⟨z,_⟩ | z
  ·grind
  ·obtain⟨v,y,A,r⟩:=I.cell x c z;exact⟨v,y,hk _ _ A,r⟩
 ·show H C=none
  rw[hC];exact I.hok.fresh (eB _)
 ·rcases a7f I ck co h with ⟨_,z⟩ | z
  ·exact I.hok.fresh (eM (gb hC.symm) (gi z))
  ·exact I.freeC x c z
 ·show (a4D cap σ).length=N'.length
  unfold a4D;rw[er];exact ck.len
theorem b52 (I:Inv X pins σ H s) (hf:∀ b∈fp,FpOk X pins H b) (J:Inv (cxC X EW N' sc C s H fp) pins' σ' H' s'):Inv X pins σ H' s':=
 I.call' J.os J.base J.hok J.bare λb a=>⟨(hf b a).2.2.2.1,(hf b a).2.1,(hf b a).2.2.2.2.1,(hf b a).2.2.2.2.2⟩
theorem b3Q (I:Inv X pins σ H s) (hC:C=s.heap.objs.size) (J:Inv (cxC X EW N' sc C s H fp) pins' σ' H' s'):CFree X pins H' C:=by
 refine⟨J.free,by rw[hC];exact gX I.lt,by rw[hC];exact I.sz,λx c e z=>?_,λp a z=>?_⟩
 ·obtain⟨v,q⟩:=I.cell x c e;exact absurd q.lt (by simp_all)
 ·exact absurd (Heap.lt_size (I.pin p a).1) (by simp_all)
theorem CFree.after (F:CFree X pins H C) (I:Inv X pins σ H s) (k:∀ b o,b≠C->s.heap.get? b=some o->h'.get? b=some o):Inv X pins σ H { s with heap:=h',toks:=t' }:=
 I.turned k F.free F.loc (.inr F.old) F.cell F.pin
end
section
variable {X:Cx}{elt tg iter:Expr}{ifs:List Expr}{sc:Scope}{pos:Pos}{wi:TI}{g:TG}{tt:TT}{te:TE}{N':List Str}{cap:List (Option Nat)}{EW:XK}
theorem b1S (hc:X.calm=true) (hE:a7e X EW sc) (ck:CapOk X.N X.env.scope sc N' cap) (hi:PI X tg iter wi)
    (hg:∀ C s H fp,PG (cxC X EW N' sc C s H fp) tg g) (ht:∀ C s H fp,PIfs (cxC X EW N' sc C s H fp) ifs tt) (he:∀ C s H fp,PE (cxC X EW N' sc C s H fp) elt te)
    (hs:∀ x,kl iter X.env x=pure x) {Fin:Value->Shared->Prop}
 (I:Inv X pins σ H s) (h:tLC wi cap g tt te σ H Q)
    (fin:∀ D s' C m H',Inv X pins σ H' s'->Q (.ref D) H'->s'.heap.Ns C m->CFree X pins H' C->lO (model X.prog X.w) X.A X.xe use Fin (.ref D) C (.ok .next) s') :
    wpAny (model X.prog X.w) X.A (comprehension (.ListComp elt [⟨tg,iter,ifs,0⟩] sc pos) sc X.env pos' (newList []) false (eval iter X.env) use) Fin X.xe s:=by
  refine wpAny_comprehension_free rfl hs (a7c (b1P I ck)) ck.kind ck.nms ?_;refine thn (hi pins s σ H _ I h) λv s1 h1=>thn h1 λitv j h2=>?_;obtain⟨it,f,tn,J,H2,e,I2,T,st2,f2,h2⟩:=h2;subst e;have hD:=I2.hok.fresh (eB _);obtain⟨W,⟨m0,w0⟩,turn⟩:=h2 j.heap.objs.size hD;refine lG ?_;have t:=I2.lnew (t':=j.toks) .nil (e8 _);generalize hs3:({ j with heap:=j.heap.push { cls:=.type "list",data:=.seq ([]:List Value).toArray } }:Shared)=s3 at t;generalize hH3:upd H2 j.heap.objs.size (.lst [])=H3 at t w0;have ac:∀ b∈f,b<j.heap.objs.size:=λb a=>by
    obtain⟨o,e,_⟩:=T.obj _ _ st2 b a;exact Heap.lt_size e
  have sz3:s3.heap.objs.size=j.heap.objs.size+1:=by rw[<- hs3];exact Heap.size_push _ _
  have L:∀ b∈f,b<s3.heap.objs.size:=λb a=>by rw[sz3];exact gI (ac b a)
  have B:∀ b∈f,FpOk X pins H3 b:=λb a=>by
    refine⟨?_,(f2 b a).2⟩;rw[<- hH3,a0t (eO (ac b a))];exact (f2 b a).1
  have st3:tn 0 s3.heap:=T.keep _ _ _ st2 λb _ o e=>by rw[<- hs3];exact Heap.get?_push_of_some _ e
  refine a7d λhjq hjj hk co=>?_;have I4:=b7W (EW:=EW) (t':=s3.toks) t ck B L rfl hjj co hk;generalize hs4:({ s3 with heap:=hjq,toks:=s3.toks }:Shared)=s4 at I4 ⊢;have st4:tn 0 s4.heap:=T.keep _ _ _ st3 λb _ o e=>by rw[<- hs4];exact hk b o e
  have G:∀ {k:Hp}{l:List (Addr×Obj)},(∀ p∈l,p.1∉f)->(∀ b∈f,k b=none)->∀ b∈f,FpOk (cxC X EW N' sc s3.heap.objs.size s3 H3 f) l k b:=λ{k l} E hn b a=>
    ⟨hn b a,eO (L b a),λz=>by
      rcases eI.mp (t.stkSub b z) with z | z
      · exact (B b a).2.1 z
      · exact (B b a).2.2.1 z,.inl a,λx c e=>by
        rcases a7f t ck co e with ⟨_,z⟩ | z
        · exact λe=>absurd (eV (L b a) (e▸gi z)) (e9 _)
        · exact (B b a).2.2.2.2.1 x c z,λp hp' z=>E p hp' (by rw[z];exact a)⟩
  have hx:=hE pins σ H3 s3 s3.heap.objs.size f use Fin (.ref j.heap.objs.size) t B rfl;have ab:j9 (model X.prog X.w) X.A (.compLoop (.ListComp elt [⟨tg,iter,ifs,0⟩] sc pos) 0 (.ref it) (.ref j.heap.objs.size) (kD sc (jN (s3.heap.objs.size+1) sc.names (a1e X.env sc.names [])) s3.heap.objs.size X.env))
      (lO (model X.prog X.w) X.A X.xe use Fin (.ref j.heap.objs.size) s3.heap.objs.size) s4:=by
    refine a3F (λn s'=>∃ i ys σ' k,Inv (cxC X EW N' sc s3.heap.objs.size s3 H3 f) [] σ' k s'/\a2A (a4D cap σ) σ'/\tn i s'.heap/\(∀ b∈f,k b=none)/\W i n ys k) ?_ m0
      ⟨0,[],a4D cap σ,H3,I4,a24 _,st4,λb a=>(B b a).1,w0⟩
    rintro n s5 ⟨i,ys,σ5,H5,I5,k5,st5,fr5,w5⟩;have kk:=a4E k5;have I5:=I5.weak kk.1 kk.2;rcases turn i n ys H5 w5 with ⟨stop,q⟩ | ⟨go,N,hN,step⟩
    · refine thn (T.done (cxC X EW N' sc s3.heap.objs.size s3 H3 f) rfl rfl rfl hc i [] s5 _ H5 _ I5 (G (λp E=>by cases E) fr5) st5 stop) λr s6 ⟨hr,I6⟩=>?_
      subst hr;obtain⟨m6,n6,_⟩:=I6.loc;exact fin _ s6 _ m6 H5 (b52 t B I6) q n6 (b3Q t rfl I6)
    · refine thn (T.item (cxC X EW N' sc s3.heap.objs.size s3 H3 f) rfl rfl rfl hc i [] s5 _ H5 _ I5 (G (λp E=>by cases E) fr5) st5 go) λr s6 ⟨u,hr,h6⟩=>?_
      subst hr;refine thn h6 λ_ s7 ⟨x,H7,I7,r7,y7,aa,fr7⟩=>?_;have I7':=I7.pinned (G (λp E=>by cases E) fr7) (T.obj _ _ aa);have R:∀ {σ9:St}{F:Hp}{U:Shared}{M:List V},Inv (cxC X EW N' sc s3.heap.objs.size s3 H3 f) ([]++a9L f s7.heap) σ9 F U->a2A (a4D cap σ) σ9->N M F ->
          ∃ m,m<n/\∃ i ys σ' k,Inv (cxC X EW N' sc s3.heap.objs.size s3 H3 f) [] σ' k U/\a2A (a4D cap σ) σ'/\tn i U.heap/\(∀ b∈f,k b=none)/\W i m ys k:=λ{σ9 F U M} Y k9 n9=>by
        obtain⟨m',hm,w9⟩:=hN M F n9;refine⟨m',hm,i+1,M,σ9,F,Y.unpinned,k9,T.keep _ _ _ aa λb a o e=>(Y.pin (b,o) (fH _ (fH _ (a3f a e)))).1,λb a=>?_,w9⟩;obtain⟨o,e,d⟩:=T.obj _ _ aa b a;exact (Y.pin (b,o) (fH _ (fH _ (a3f a e)))).2.1
      refine jP (hg _ _ _ _ _ s7 _ H7 x u _ I7' r7 (step x H7 y7)) (λ_ s8 ⟨σ8,H8,I8,k8,q8⟩=>?_) hx;refine jP (ht _ _ _ _ _ s8 σ8 H8 _ I8 q8) (λb U ⟨F,Y,q9⟩=>?_) hx;cases b with
      | false=>
        rw[if_neg e7]at q9 ⊢;exact R Y k8 q9
      | true=>
        rw[if_pos rfl]at q9 ⊢;refine jP (he _ _ _ _ _ U σ8 F _ Y q9) (λy s10 ⟨vy,H10,I10,r10,zs,hacc,hsz,q10⟩=>?_) hx;refine jP (a7V (X:=cxC X EW N' sc s3.heap.objs.size s3 H3 f) _ s10 σ8 H10 (.ref j.heap.objs.size) [vy] (.ref j.heap.objs.size) [y] (λ_ k=>N (zs++[vy]) k) I10 rfl (.cons r10 .nil) ⟨_,zs,vy,rfl,rfl,hacc,hsz,q10⟩) (λ_ s11 ⟨_,H11,I11,_,q11⟩=>?_) hx;exact R I11 k8 q11
  exact codeAny_compStart_list ab (T.self _ 0 _ _ _ st4 ab)
theorem c0f (hc:X.calm=true) (hE:a7e X EW sc) (hNN:X.N=N₀) (hso:X.env.scope=so) (ck:capB N₀ so sc N' cap=true) (hi:PI X tg iter wi)
  (hg:∀ C s H fp,PG (cxC X EW N' sc C s H fp) tg g) (ht:∀ C s H fp,PIfs (cxC X EW N' sc C s H fp) ifs tt) (he:∀ C s H fp,PE (cxC X EW N' sc C s H fp) elt te)
  (hs:∀ x,kl iter X.env x=pure x:=by intro _;rfl):PE X (.ListComp elt [⟨tg,iter,ifs,0⟩] sc pos) (tLC wi cap g tt te):=by
 intro f s σ H Q I h;subst hNN hso;refine b1S hc hE (b1N ck) hi hg ht he hs I h λD d C m i c q k F=>?_;exact⟨m,k,λl a=>⟨.ref D,i,F.after c (λb o j e=>a.extBut b o j e),rfl,q⟩⟩
theorem b3R (hN:X.N.Nodup) (hx:X.N[i]?=some x) (hl:X.env.scope.names.lookup x=some .local) (hc:X.calm=true) (hE:a7e X EW sc) (hNN:X.N=N₀) (hso:X.env.scope=so) (ck:capB N₀ so sc N' cap=true) (hi:PI X tg iter wi)
  (hg:∀ C s H fp,PG (cxC X EW N' sc C s H fp) tg g) (ht:∀ C s H fp,PIfs (cxC X EW N' sc C s H fp) ifs tt) (he:∀ C s H fp,PE (cxC X EW N' sc C s H fp) elt te)
  (hsw:kf (.ListComp elt [⟨tg,iter,ifs,0⟩] sc pos) (some (.Name x pos')) spos.line X.env=pure true:=by rfl)
  (hs:∀ x,kl iter X.env x=pure x:=by intro _;rfl):PS X (.Assign [.Name x pos'] (.ListComp elt [⟨tg,iter,ifs,0⟩] sc pos) spos) (tAsg (tLC wi cap g tt te) (b1j i)):=by
 subst hNN hso;intro f s σ H D I h;rw[exec_Assign_Name_used _ _ _ _ hsw];refine jB (lz (jB ?_));refine jB (jP (b1S hc hE (b1N ck) hi hg ht he hs I h λd c C m w t q E F=>?_) (λ_ c u=>jK (jK u)) λ_ _ e=>e);refine wpAny_assign_Name (a7O t hN hx (.inl hl) (v:=.ref d) rfl (λj n y=>?_) (.inr hl));obtain⟨a,p,r⟩:=y;have l:C≠a:=by
  rcases r with z | z
  ·rw[z];exact F.loc
  ·exact Ne.symm (F.cell _ _ z)
 exact⟨m,E.sameBut p l,λG k=>⟨_,w,F.after n (λb o B e=>k.extBut b o B e),q⟩⟩
end
section
variable {X:Cx}{st:Stmt}{rest:List Stmt}{t u:TS}{e:Expr}{te:TE}{tt:TT}
end
mutual
def DV (H:Hp):PyData->V->Prop
 | .none,x=>x=.non
 | .bool b,x=>x=.bl b
 | .int i,x=>x=.int i
 | .str s,x=>x=.str s
 | .list ds,x=>∃ a vs,x=.ref a/\H a=some (.lst vs)/\DVs H ds vs
 | .tuple ds,x=>∃ a vs,x=.ref a/\H a=some (.tup vs)/\DVs H ds vs
 | .dict _,_=>False
def DVs (H:Hp):List PyData->List V->Prop
 | [],vs=>vs=[]
 | d::ds,vs=>∃ v r,vs=v::r/\DV H d v/\DVs H ds r
end
mutual
theorem DV.reads {P:jH}{w:World}{H:Hp}{h:Heap}(ok:HOk P w H h):∀ {d:PyData}{x:V}{u:Value},DV H d x->RelV x u->∃ as,Reads h u d as
 | .none,x,u,q,r=>by
  unfold DV at q;subst q;cases (show u=Value.none from r);exact⟨_,.none⟩
 | .bool b,x,u,q,r=>by
  unfold DV at q;subst q;cases (show u=Value.bool b from r);exact⟨_,.bool b⟩
 | .int i,x,u,q,r=>by
  unfold DV at q;subst q;obtain⟨t,e⟩:=(show ∃ t,u=Value.int i t from r);subst e;exact⟨_,.int i t⟩
 | .str s,x,u,q,r=>by
  unfold DV at q;subst q;obtain⟨t,e⟩:=(show ∃ t,u=Value.str s t from r);subst e;exact⟨_,.str s t⟩
 | .list ds,x,u,q,r=>by
  unfold DV at q;obtain⟨a,vs,e,ha,q⟩:=q;subst e;cases (show u=Value.ref a from r);obtain⟨_,its,n,rv,e⟩:=ok a _ ha;obtain⟨as,rd⟩:=DVs.reads ok q rv;exact⟨_,.list e rfl rfl (by simpa using rd)⟩
 | .tuple ds,x,u,q,r=>by
  unfold DV at q;obtain⟨a,vs,e,ha,q⟩:=q;subst e;cases (show u=Value.ref a from r);obtain⟨_,its,rv,o,e,c,n,d⟩:=ok a _ ha;obtain⟨as,rd⟩:=DVs.reads ok q rv;exact⟨_,.tuple e c d (by simpa using rd)⟩
 | .dict _,x,u,q,r=>by unfold DV at q;exact q.elim
theorem DVs.reads {P:jH}{w:World}{H:Hp}{h:Heap}(ok:HOk P w H h):∀ {ds:List PyData}{vs:List V}{us:List Value},DVs H ds vs->Vals vs us->∃ as,ReadsAll h us ds as
 | [],vs,us,q,r=>by
  unfold DVs at q;subst q;cases r;exact⟨_,.nil⟩
 | d::ds,vs,us,q,r=>by
  unfold DVs at q;obtain⟨v,rr,e,q1,q2⟩:=q;subst e;cases r with
  | cons r1 r2=>
   obtain⟨as,h1⟩:=DV.reads ok q1 r1;obtain⟨bs,h2⟩:=DVs.reads ok q2 r2;exact⟨_,.cons h1 h2⟩
end
noncomputable def rEqD:R2:=λx y H Q=>∃ d e,DV H d x/\DV H e y/\SeqAt.shaped d=true/\SeqAt.shaped e=true/\Q (.bl (PyData.eqv d e)) H
noncomputable def rNeD:R2:=λx y H Q=>∃ d e,DV H d x/\DV H e y/\SeqAt.shaped d=true/\SeqAt.shaped e=true/\Q (.bl (!PyData.eqv d e)) H
section
variable {X:Cx}
theorem b7X (hu:X.A.units+66<cLine):OpR X (jL .Eq) rEqD:=by
 intro i s σ H x y v u Q I g k h;obtain⟨d,e,b,f,l,a,q⟩:=h;obtain⟨m,j⟩:=b.reads I.hok g;obtain⟨n,c⟩:=f.reads I.hok k;exact eq_dataH j c l a (by omega) ⟨.bl _,H,I,rfl,q⟩
theorem b7Y (hu:X.A.units+66<cLine):OpR X (jL .NotEq) rNeD:=by
 intro b s σ H x y v u Q I j c h;obtain⟨d,e,a,g,l,i,q⟩:=h;obtain⟨n,f⟩:=a.reads I.hok j;obtain⟨m,k⟩:=g.reads I.hok c;exact ne_dataH f k l i (by omega) ⟨.bl _,H,I,rfl,q⟩
noncomputable def b7Z (_ j:Int):Prop:=0<j/\j<2 ^ 64
theorem b3S:OpR X (jR .FloorDiv) (rI b7Z λi j=>.int (i / j)):=opI λi j _ _ _ _ _ a q=>by
 have c:(0:Int)<j:=a.1;have d:j<2 ^ 64:=a.2;refine floordiv_int (by omega) ?_ (.inl (PyProof.noPylong_of_log2 ?_))
 ·rw[Int.fdiv_eq_ediv_of_nonneg i (by omega)];exact q
 ·have b:j.natAbs<2 ^ 64:=by omega
  have e:=(Nat.log2_lt (by omega)).mpr b;omega
noncomputable def rIsT (K:Fg):List V->Hp->VK->Prop:=λxs H Q=>∃ x T t b,xs=[x,.ty T]/\TyOf K H x t/\PySem.W.kitOne K t (.type T)=some b/\Q (.bl b) H
theorem b3T:CallR X (.builtin "isinstance") (rIsT X.K):=by
 intro c s σ H j k Q I r h;obtain⟨x,T,t,b,rfl,i,e,q⟩:=h;obtain⟨u,g,rfl,f,a⟩:=b1t r;cases (a);exact b1z I f i e λd=>⟨.bl b,H,I.tok d,rfl,q⟩
end
abbrev veM:List Value:=[.type "ValueError",.type "Exception",.type "BaseException",.type "object"]
theorem b70 {K:Fg}(q:PySem.W.excIn K C veM "ValueError.__new__"=true):∃ bm N nm qn bs hd sn sub ab col dd k0 k1 k2 k3 k5,K.lookup C=some (excClassObj nm qn C N bs bm hd sn sub ab col dd k0 k1 k2 k3 k5 "ValueError.__new__") /\
  PySem.W.nsOkIn K N=true/\PySem.W.nsIn K N "__init__"=some none/\PySem.W.tailIn K veM bm=true:=by
 unfold PySem.W.excIn at q
 split at q
 ·rename_i dd cd sl ho
  split at q
  ·rename_i C2 bm k0 k1 k2 k3 nw k5 hm hs
   simp at q;obtain⟨⟨⟨⟨⟨p,k⟩,e⟩,g⟩,b⟩,d⟩:=q;subst p k;obtain⟨r,h,t,m,o,i,n,a,j,c,s⟩:=cd;subst hm e;have f:sl=#[k0,k1,k2,k3,some (.builtin "ValueError.__new__"),k5]:=by
    cases sl with
    | mk l=>dsimp only at hs;rw[hs]
   subst f;exact⟨bm,m,r,o,h,i,n,a,j,c,dd,k0,k1,k2,k3,k5,ho,b,d,g⟩
  ·cases q
 ·cases q
section
variable {X:Cx}{E:XK}
theorem b3U (O:Outs X E) (hc:X.calm=true) (hg:Gl X x) (hm:X.mg x=some (.ref C)) (hq:PySem.W.excIn X.K C veM "ValueError.__new__"=true) (he:PE X e0 te)
  (hs:jE [e0] X.env=(false,eval e0 X.env)::jE [] X.env:=by rfl) (hp:(backTo cpos (jE [] X.env)).any (·.1)=false:=by rfl) (hd:(x==("__debug__":Str))=false:=by decide) :
  PS X (.Raise (some (.Call (.Name x np) [e0] [] cpos)) none pos) (λ_ σ H=>te σ H λ_ H1=>since X.H₀ E (.ref C) none H1):=by
 intro d s σ H D I h;obtain⟨bm,N,nm,qn,bs,k,sn,sub,ab,col,dd,k0,k1,k2,k3,k5,hC,u,z6,z4⟩:=b70 hq;have B:=I.mod.kin;have hN:X.base.Ns N (X.base.nsMap N):=.of_isNs (PySem.W.isNs_of_in B u);have hi:=PySem.W.nsMap_none_of_in B u z6;have T:=PySem.W.tail_of_in B z4;refine wpAny_Raise_call_subT (nm:=nm) (q:=qn) (N:=N) (bs:=bs) (hdct:=k) (sn:=sn) (sub:=sub) (ab:=ab) (col:=col) (dd:=dd) (k0:=k0) (k1:=k1) (k2:=k2) (k3:=k3) (k5:=k5) PySem.F.excBase_ValueError (T.hasType (by decide)) (I.ok.hd hc)
  (by rw[hs];show (false||(backTo cpos _).any (·.1))=false;rw[hp];rfl) hi (a66 I hg hm ⟨rfl,?_⟩ hd)
 rw[hs];refine Calls.evalArgs_plain (Calls.spliced_cons (thn (he d s σ H _ I h) λv s2 ⟨y,H2,a,_,q2⟩=>Calls.spliced_nil ⟨rfl,fT (a0z (i5 rfl)),a.bk _ _ (B _ _ hC),hN.keeps a.bk,T.keeps a.bk,λh' e hm=>b3N O a hm q2⟩))
end
section
variable {X:Cx}{E:XK}
end
end L2
namespace L2
open PySem PySem.Spec PySem.Calls PyProof.Rows PySem.W
structure ExK (K:Frag) (D:Addr):Prop where
 cls:(clsIn K D).isSome=true
 ga:findIn K (.ref D) "__getattribute__"=some (some (.builtin "BaseException.__getattribute__"))
 hk:findIn K (.ref D) "__getattr__"=some none
 ha:findIn K (.ref D) "__class__"=some (some (.builtin "object.__class__"))
 hn:specialIn K (.builtin "object.__class__") "__get__"=some (some (.builtin "getset_descriptor.__get__"))
 tk:takesIn K (.builtin "object.__class__")=some true
 hm:mroIn K D (.type "object")=some true
 hb:mroIn K D (.type "BaseException")=some true
section
variable {prog:jH}{w:World}{A:Around}{E:Value->Shared->Prop}{s:Shared}{K:Frag}{x D:Addr}{ox:Obj}
theorem ExK.find (k:ExK K D):findObj K D none "__class__"=some (.bind (.builtin "getset_descriptor.__get__") (.builtin "object.__class__")):=by
 obtain⟨b,a⟩:=iW.mp k.cls;unfold findObj;rw[a,i6,k.ha,i6];simp[k.hn,k.tk]
end
end L2
namespace L2
open PySem PySem.Spec PyProof.Rows
section
variable {X:Cx}{pins:List (Addr×Obj)}{σ σ':St}{H:Hp}{s:Shared}
theorem Inv.lk (I:Inv X pins σ H s) (k:Lk (frs X.stack) ex s.heap h') (hx:∀ b,ex b->X.s₀.heap.get? b=none/\H b=none/\(∀ x c,X.env.cells.lookup x=some c->c≠b)/\∀ p∈X.pn++pins,p.1≠b)
  (hl:∃ m,h'.Ns X.env.locals m/\∀ (i:Nat) (x:Str) (v:V),X.N[i]?=some x->σ'[i]?=some (some v)->Vis X.env.scope x->∃ u,RelV v u/\Look X.env h' m x u) (hn:σ'.length=σ.length):Inv X pins σ' H { s with heap:=h',toks:=t' }:=by
 refine⟨I.ok,I.os,I.bare,I.base.lk k (λb a=>?_) (λb a=>.inr (hx b a).1),hl,λx c e=>?_,I.free,I.freeC,λp g=>?_,I.hok.lk k I.stkFree λb a=>(hx b a).2.1,hn.trans I.len⟩
 ·rcases eI.mp (I.stkSub b a) with z | z
  ·rw[z];exact .inr (Heap.get?_none_of_le I.ok.above)
  ·simp_all
 ·obtain⟨v,o,l,n⟩:=I.cell x c e;obtain⟨r,d⟩:=k.slot c o l λz=>(hx c z).2.2.1 x c e rfl;exact⟨v,_,d,n⟩
 ·obtain⟨d,q,f,h,j⟩:=I.pin p g;refine⟨k.keep _ _ d (λz=>?_) (λz=>(hx _ z).2.2.2 p g rfl),q,f,h,j⟩;rcases eI.mp (I.stkSub _ z) with z | z
  ·exact f z
  ·exact h z
abbrev Cx.hnd (X:Cx) (e:Addr) (oe:Obj):Cx:={ X with A:=X.A.mark (some (.ref e)),calm:=false,pn:=(e,oe)::X.pn,xe:=λ_ _=>False }
theorem Inv.hnd (I:Inv X pins σ H s) (h1:s.heap.get? e=some oe) (h2:H e=none) (h3:e≠X.env.locals) (h4:e∉X.fs) (h5:∀ v,oe.data≠.cell v):Inv (X.hnd e oe) pins σ H s:=
 ⟨⟨I.ok.mod,I.ok.kind,I.ok.glob,I.ok.blt,I.ok.above,I.ok.inj,I.ok.has,I.ok.cab,(λz=>nomatch z),I.ok.frames,I.ok.stk,I.ok.exf,I.ok.bs,I.ok.bsz,I.ok.noex,I.ok.exfs,I.ok.funs,I.ok.frf⟩,I.os,I.bare,I.base,I.loc,I.cell,I.free,I.freeC,(λp a=>by
  rcases eI.mp (a) with rfl | a
  ·exact⟨h1,h2,h3,h4,h5⟩
  ·exact I.pin p a),I.hok,I.len⟩
end
section
variable {X:Cx}{k:Nat}{f C D:Addr}{fd:jI}{ps:List Str}{sp:Sp}{x n:Str}{p pos np hpos tpos:Pos}{e ce:Expr}{es:List Expr}{t:TA}
end
end L2
namespace L3
open PySem PySem.Spec PyProof.Rows L2
inductive Z where
 | non | bl (b:Bool) | int (i:Int) | str (x:Str) | ref (a:Addr) | ty (n:String) | scr (a:Addr) (ns:List Int)
 | tup (ws:List Z)
mutual
def eqZ:Z->Z->Bool
 | .non,.non=>true
 | .bl a,.bl b=>a==b
 | .int a,.int b=>decide (a=b)
 | .str a,.str b=>decide (a=b)
 | .ref a,.ref b=>decide (a=b)
 | .ty a,.ty b=>decide (a=b)
 | .scr a ns,.scr b ms=>decide (a=b)&&decide (ns=ms)
 | .tup a,.tup b=>eqZs a b
 | _,_=>false
def eqZs:List Z->List Z->Bool
 | [],[]=>true
 | a::as,b::bs=>eqZ a b&&eqZs as bs
 | _,_=>false
end
mutual
theorem b1T:∀ x y:Z,eqZ x y=true↔x=y
 | .tup a,y=>by
  cases y with
  | tup b=>simp only[eqZ,Z.tup.injEq];exact a9O a b
  | _=>simp[eqZ]
 | .non,y=>by cases y<;>simp[eqZ]
 | .bl _,y=>by cases y<;>simp[eqZ]
 | .int _,y=>by cases y<;>simp[eqZ]
 | .str _,y=>by cases y<;>simp[eqZ]
 | .ref _,y=>by cases y<;>simp[eqZ]
 | .ty _,y=>by cases y<;>simp[eqZ]
 | .scr _ _,y=>by cases y<;>simp[eqZ]
theorem a9O:∀ x y:List Z,eqZs x y=true↔x=y
 | [],y=>by cases y<;>simp[eqZs]
 | a::as,y=>by
  cases y with
  | nil=>simp[eqZs]
  | cons b bs=>simp only[eqZs,fU,fO.injEq,b1T a b,a9O as bs]
end
instance:DecidableEq Z:=λx y=>decidable_of_iff _ (b1T x y)
section
variable {K:Fg}{H H' H1 H2:Hp}{a p:Addr}{xs:List V}
noncomputable def Fz (K:Fg) (H:Hp) (a:Addr) (xs:List V):Prop:=
 (∃ o,H a=some (.frz o (.lst xs)))\/∃ (o:Obj) (its:Array Value) (n:Nat),K.lookup a=some o/\o.cls=.type "list"/\o.dict=none/\o.data=.seq its n/\its.size<=jC/\Vals xs its.toList
theorem Fz.sq (h:Fz K H a xs):SqL K H a xs:=by
 rcases h with ⟨o,h⟩ | h
 ·exact .inl (.inr ⟨o,h⟩)
 ·exact .inr h
theorem Fz.of (hO:Only H) (h:SqL K H a xs):Fz K H a xs:=by
 rcases h with (h | h) | h
 ·rcases hO a with z | ⟨o,ys,z⟩
  ·grind
  ·simp_all
 ·exact .inl h
 ·exact .inr h
structure TW (K:Fg) (H H':Hp):Prop where
 tup:∀ a xs,H a=some (.tup xs)->H' a=some (.tup xs)
 frz:∀ a xs,Fz K H a xs->Fz K H' a xs
structure TK (K:Fg) (H H':Hp):Prop where
 tup:∀ a xs,H a=some (.tup xs)->H' a=some (.tup xs)
 frz:∀ a xs,Fz K H a xs->Fz K H' a xs
 frd:∀ a o u,H a=some (.frz o u)->H' a=some (.frz o u)
theorem TK.refl (K:Fg) (H:Hp):TK K H H:=⟨λ_ _ h=>h,λ_ _ h=>h,λ_ _ _ h=>h⟩
theorem TK.trans (a:TK K H H1) (b:TK K H1 H2):TK K H H2:=⟨λc d h=>b.tup c d (a.tup c d h),λc d h=>b.frz c d (a.frz c d h),λc o u h=>b.frd c o u (a.frd c o u h)⟩
theorem TK.upd (h:∀ xs,H p≠some (.tup xs)) (h2:∀ o u,H p≠some (.frz o u)):TK K H (L2.upd H p o):=by
 refine⟨λc b e=>?_,λc b e=>?_,λc a u e=>by rw[a0t (by rintro rfl;exact h2 _ _ e)];exact e⟩
 ·rw[a0t (by rintro rfl;exact h _ e)];exact e
 ·rcases e with ⟨a,e⟩ | e
  ·exact .inl ⟨a,by rw[a0t (by rintro rfl;exact h2 _ _ e)];exact e⟩
  ·exact .inr e
theorem TK.new (h:H p=none):TK K H (L2.upd H p o):=.upd (λa e=>by rw[h]at e;cases e) (λo u e=>by rw[h]at e;cases e)
theorem TK.lst {o:HO}(h:H p=some (.lst xs)):TK K H (L2.upd H p o):=by simp_all[upd]
theorem TK.dK {o:HO}{kvs:List (Key×V)}(h:H p=some (.dK kvs)):TK K H (L2.upd H p o):=by simp_all[upd]
theorem TK.ins {o:HO}{C dx:Addr}{fs:List (Str×V)}(h:H p=some (.ins C dx fs)):TK K H (L2.upd H p o):=by simp_all[upd]
end
mutual
def Rep (K:Fg) (H:Hp):Z->V->Prop
 | .non,v=>v=.non
 | .bl b,v=>v=.bl b
 | .int i,v=>v=.int i
 | .str x,v=>v=.str x
 | .ref a,v=>v=.ref a
 | .ty n,v=>v=.ty n
 | .scr a ns,v=>v=.ref a/\Fz K H a (ns.map V.int)
 | .tup ws,v=>∃ a vs,v=.ref a/\H a=some (.tup vs)/\Reps K H ws vs
def Reps (K:Fg) (H:Hp):List Z->List V->Prop
 | [],vs=>vs=[]
 | w::ws,vs=>∃ v r,vs=v::r/\Rep K H w v/\Reps K H ws r
end
section
variable {K:Fg}{H H':Hp}
theorem a01:Rep K H .non v=(v=.non):=by unfold Rep;rfl
theorem a0W:Rep K H (.bl b) v=(v=.bl b):=by unfold Rep;rfl
theorem a0u:Rep K H (.int i) v=(v=.int i):=by unfold Rep;rfl
theorem a0I:Rep K H (.str x) v=(v=.str x):=by unfold Rep;rfl
theorem a0O:Rep K H (.ref a) v=(v=.ref a):=by unfold Rep;rfl
theorem b1U:Rep K H (.ty n) v=(v=.ty n):=by unfold Rep;rfl
theorem a4F:Rep K H (.scr a ns) v=(v=.ref a/\Fz K H a (ns.map V.int)):=by unfold Rep;rfl
theorem a25:Rep K H (.tup ws) v=(∃ a vs,v=.ref a/\H a=some (.tup vs)/\Reps K H ws vs):=by conv=>lhs;unfold Rep
theorem a0w:Reps K H [] vs=(vs=[]):=by unfold Reps;rfl
theorem a09:Reps K H (w::ws) vs=(∃ v r,vs=v::r/\Rep K H w v/\Reps K H ws r):=by conv=>lhs;unfold Reps
mutual
theorem Rep.monoW (t:TW K H H'):∀ (w:Z) (v:V),Rep K H w v->Rep K H' w v
 | .tup ws,v,h=>by
  rw[a25]at h ⊢;obtain⟨a,vs,e,h,r⟩:=h;exact⟨a,vs,e,t.tup _ _ h,Reps.monoW t ws vs r⟩
 | .scr a ns,v,h=>by
  rw[a4F]at h ⊢;exact⟨h.1,t.frz _ _ h.2⟩
 | .non,v,h=>by rw[a01]at h ⊢;exact h
 | .bl _,v,h=>by rw[a0W]at h ⊢;exact h
 | .int _,v,h=>by rw[a0u]at h ⊢;exact h
 | .str _,v,h=>by rw[a0I]at h ⊢;exact h
 | .ref _,v,h=>by rw[a0O]at h ⊢;exact h
 | .ty _,v,h=>by rw[b1U]at h ⊢;exact h
theorem Reps.monoW (t:TW K H H'):∀ (ws:List Z) (vs:List V),Reps K H ws vs->Reps K H' ws vs
 | [],vs,h=>by rw[a0w]at h ⊢;exact h
 | w::ws,vs,h=>by
  rw[a09]at h ⊢;obtain⟨v,r,e,h1,h2⟩:=h;exact⟨v,r,e,Rep.monoW t w v h1,Reps.monoW t ws r h2⟩
end
theorem Rep.mono (t:TK K H H') (w:Z) (v:V) (h:Rep K H w v):Rep K H' w v:=Rep.monoW ⟨t.tup,t.frz⟩ w v h
theorem Reps.mono (t:TK K H H') (ws:List Z) (vs:List V) (h:Reps K H ws vs):Reps K H' ws vs:=Reps.monoW ⟨t.tup,t.frz⟩ ws vs h
theorem Reps.cons {w:Z}{v:V}{ws:List Z}{vs:List V}(a:Rep K H w v) (b:Reps K H ws vs):Reps K H (w::ws) (v::vs):=by rw[a09];exact⟨v,vs,rfl,a,b⟩
theorem Reps.nil:Reps K H [] []:=by rw[a0w]
theorem Reps.length:∀ {ws:List Z}{vs:List V},Reps K H ws vs->ws.length=vs.length
 | [],vs,h=>by rw[a0w]at h;rw[h];rfl
 | w::ws,vs,h=>by
  obtain⟨v,r,e,_,a⟩:=h;rw[e,eF,eF,Reps.length a]
theorem Reps.get:∀ {ws:List Z}{vs:List V}{i:Nat}{w:Z},Reps K H ws vs->ws[i]?=some w->∃ v,vs[i]?=some v/\Rep K H w v
 | [],_,_,_,_,e=>by simp at e
 | w::ws,vs,i,x,h,e=>by
  obtain⟨v,r,rfl,b,a⟩:=h;cases i with
  | zero=>simp at e;subst e;exact⟨v,rfl,b⟩
  | succ i=>simpa using Reps.get a (by simp_all)
theorem Reps.tog {i:Nat}(h:Reps K H ws vs) (e:vs[i]?=some v):∃ w,ws[i]?=some w/\Rep K H w v:=by
 have c:=h.length;have a:i<ws.length:=by grind
 obtain⟨d,b,r⟩:=h.get (eQ a);rw[e]at b;cases b;exact⟨_,eQ a,r⟩
theorem Reps.append:∀ {ws ws':List Z}{vs vs':List V},Reps K H ws vs->Reps K H ws' vs'->Reps K H (ws++ws') (vs++vs')
 | [],_,vs,_,h,h'=>by rw[a0w]at h;subst h;exact h'
 | w::ws,_,vs,_,h,h'=>by
  obtain⟨v,r,rfl,a,b⟩:=h;exact .cons a (Reps.append b h')
theorem Reps.drop:∀ {ws:List Z}{vs:List V}(n:Nat),Reps K H ws vs->Reps K H (ws.drop n) (vs.drop n)
 | [],vs,n,h=>by rw[a0w]at h;subst h;simpa using Reps.nil
 | w::ws,vs,0,h=>h
 | w::ws,vs,n+1,h=>by
  obtain⟨v,r,rfl,b,a⟩:=h;exact Reps.drop n a
theorem Reps.take:∀ {ws:List Z}{vs:List V}(n:Nat),Reps K H ws vs->Reps K H (ws.take n) (vs.take n)
 | [],vs,n,h=>by rw[a0w]at h;subst h;simpa using Reps.nil
 | w::ws,vs,0,h=>by simpa using Reps.nil
 | w::ws,vs,n+1,h=>by
  obtain⟨v,r,rfl,a,b⟩:=h;exact .cons a (Reps.take n b)
theorem Reps.set (r:Rep K H w v):∀ {ws:List Z}{vs:List V}(i:Nat),Reps K H ws vs->Reps K H (ws.set i w) (vs.set i v)
 | [],vs,i,h=>by rw[a0w]at h;subst h;simpa using Reps.nil
 | x::ws,vs,i,h=>by
  obtain⟨y,s,rfl,b,a⟩:=h;cases i with
  | zero=>exact .cons r a
  | succ i=>exact .cons b (Reps.set r i a)
theorem Reps.reverse:∀ {ws:List Z}{vs:List V},Reps K H ws vs->Reps K H ws.reverse vs.reverse
 | [],vs,h=>by rw[a0w]at h;subst h;exact Reps.nil
 | x::ws,vs,h=>by
  obtain⟨y,s,rfl,b,a⟩:=h;rw[ge,ge];exact (Reps.reverse a).append (.cons b .nil)
theorem a7Z:∀ {ns:List Int}{vs:List V},Reps K H (ns.map Z.int) vs->vs=ns.map V.int
 | [],vs,h=>by rw[eX,a0w]at h;subst h;rfl
 | n::ns,vs,h=>by
  obtain⟨v,r,rfl,a,b⟩:=h;rw[a,a7Z b];rfl
theorem a37:∀ (ns:List Int),Reps K H (ns.map Z.int) (ns.map V.int)
 | []=>Reps.nil
 | n::ns=>.cons (by rw[a0u]) (a37 ns)
theorem Reps.one (h:Reps K H [w] vs):∃ v,vs=[v]/\Rep K H w v:=by
 obtain⟨v,r,rfl,b,a⟩:=h;exact⟨v,by rw[a],b⟩
theorem Reps.two (h:Reps K H [w,w'] vs):∃ v v',vs=[v,v']/\Rep K H w v/\Rep K H w' v':=by
 obtain⟨v,r,rfl,c,a⟩:=h;obtain⟨d,rfl,b⟩:=a.one;exact⟨v,d,rfl,c,b⟩
end
inductive O where
 | lst (ws:List Z)
 | dK (kvs:List (Key×Z))
 | ins (C dx:Addr) (fs:List (Str×Z))
 | dF (kvs:List (Key×Z))
 | dT (ks:List (List Key))
abbrev Hq:=Addr->Option O
noncomputable def put (G:Hq) (a:Addr) (o:O):Hq:=λb=>if b=a then some o else G b
theorem a0e:put G a o a=some o:=by unfold put;rw[if_pos rfl]
theorem a0H (h:b≠a):put G a o b=G b:=by unfold put;rw[if_neg h]
theorem a26:put (put G a o) a u=put G a u:=by
 funext b;unfold put;split<;>rfl
theorem a0R {G:Hq}(h:G a=some o) (h':G b=none):a≠b:=by
 intro e;subst e;rw[h]at h';cases h'
theorem a0m (h:G b=some u) (n:G a=none):put G a o b=some u:=by rw[a0H (a0R h n)];exact h
noncomputable def ROb (K:Fg) (H:Hp) (a:Addr):O->Prop
 | .lst ws=>∃ vs,H a=some (.lst vs)/\Reps K H ws vs
 | .dK kvs=>∃ us,H a=some (.dK us)/\us.map (·.1)=kvs.map (·.1)/\Reps K H (kvs.map (·.2)) (us.map (·.2))
 | .ins C dx fs=>∃ gs,H a=some (.ins C dx gs)/\gs.map (·.1)=fs.map (·.1)/\Reps K H (fs.map (·.2)) (gs.map (·.2))
 | .dF kvs=>∃ o us,H a=some (.frz o (.dK us))/\us.map (·.1)=kvs.map (·.1)/\Reps K H (kvs.map (·.2)) (us.map (·.2))
 | .dT ks=>∃ us,H a=some (.dT us)/\us.map (·.1)=ks
noncomputable def RH (K:Fg) (G:Hq) (H:Hp):Prop:=∀ a o,G a=some o->ROb K H a o
section
variable {K:Fg}{H H':Hp}{G:Hq}{a p:Addr}{o:O}{u:HO}
theorem ROb.some (h:ROb K H a o):∃ u,H a=some u:=by
 cases o with
 | lst ws=>obtain⟨b,e,_⟩:=h;exact⟨_,e⟩
 | dK kvs=>obtain⟨b,e,_⟩:=h;exact⟨_,e⟩
 | ins C dx fs=>obtain⟨b,e,_⟩:=h;exact⟨_,e⟩
 | dF kvs=>obtain⟨c,b,e,_⟩:=h;exact⟨_,e⟩
 | dT ks=>obtain⟨b,e,_⟩:=h;exact⟨_,e⟩
theorem ROb.stay (t:TK K H H') (e:H' a=H a) (h:ROb K H a o):ROb K H' a o:=by
 cases o with
 | lst ws=>obtain⟨b,q,r⟩:=h;exact⟨b,e.trans q,r.mono t⟩
 | dK kvs=>obtain⟨b,q,n,r⟩:=h;exact⟨b,e.trans q,n,r.mono t⟩
 | ins C dx fs=>obtain⟨b,q,n,r⟩:=h;exact⟨b,e.trans q,n,r.mono t⟩
 | dF kvs=>obtain⟨c,b,q,n,r⟩:=h;exact⟨c,b,e.trans q,n,r.mono t⟩
 | dT ks=>obtain⟨b,q,n⟩:=h;exact⟨b,e.trans q,n⟩
theorem RH.out (h:RH K G H) (e:H a=none):G a=none:=by
 cases q:G a with
 | none=>rfl
 | some o=>obtain⟨u,z⟩:=(h a o q).some;rw[e]at z;cases z
theorem RH.hid (h:RH K G H) (e:H p=none):RH K G (upd H p u):=λb o q=>
 (h b o q).stay (.new e) (a0t (by rintro rfl;obtain⟨u,z⟩:=(h _ o q).some;rw[e]at z;cases z))
theorem RH.set (h:RH K G H) (t:TK K H (upd H p u)) (n:ROb K (upd H p u) p o):RH K (put G p o) (upd H p u):=λb a q=>by
 by_cases hb:b=p
 ·subst hb;rw[a0e]at q;cases q;exact n
 ·rw[a0H hb]at q;exact (h b a q).stay t (a0t hb)
end
abbrev S3:=List (Option Z)
abbrev K3:=Z->Hq->Prop
abbrev C3:=S3->Hq->Prop
abbrev E3:=S3->Hq->K3->Prop
abbrev T3:=S3->Hq->(Bool->Hq->Prop)->Prop
abbrev A3:=S3->Hq->(List Z->Hq->Prop)->Prop
abbrev X3:=C3->K3->C3->C3->S3->Hq->Prop
noncomputable def ROp (K:Fg) (H:Hp) (ow:Option Z) (ov:Option V):Prop:=∀ w,ow=some w->∃ v,ov=some v/\Rep K H w v
noncomputable def RSt (K:Fg) (H:Hp):S3->L2.St->Prop:=Paired (ROp K H)
section
variable {K:Fg}{H H':Hp}
theorem RSt.mono (t:TK K H H'):∀ {σ:S3}{τ:L2.St},RSt K H σ τ->RSt K H' σ τ
 | _,_,.nil=>.nil
 | _,_,.cons r s=>.cons (λw e=>let ⟨v,q,h⟩:=r w e;⟨v,q,h.mono t⟩) (RSt.mono t s)
theorem RSt.get:∀ {σ:S3}{τ:L2.St}{i:Nat}{w:Z},RSt K H σ τ->σ[i]?=some (some w)->∃ v,τ[i]?=some (some v)/\Rep K H w v
 | _,_,_,_,.nil,e=>by simp at e
 | _,_,0,w,.cons r _,e=>by
  obtain⟨v,q,h⟩:=r w (by simpa using e);exact⟨v,by rw[q];rfl,h⟩
 | _,_,i+1,w,.cons _ s,e=>by
  obtain⟨v,q,h⟩:=RSt.get s (by simpa using e);exact⟨v,by simpa using q,h⟩
theorem RSt.set (r:Rep K H w v):∀ {σ:S3}{τ:L2.St}(i:Nat),RSt K H σ τ->RSt K H (σ.set i (some w)) (τ.set i (some v))
 | _,_,_,.nil=>.nil
 | _,_,0,.cons _ s=>.cons (λ_ e=>by cases e;exact⟨v,rfl,r⟩) s
 | _,_,i+1,.cons q s=>.cons q (RSt.set r i s)
theorem RSt.length (h:RSt K H σ τ):σ.length=τ.length:=Paired.length h
theorem RSt.nones:∀ n:Nat,RSt K H (gZ n none) (gZ n none)
 | 0=>.nil
 | n+1=>.cons (λ_ e=>nomatch e) (RSt.nones n)
theorem RSt.app:∀ {σ σ':S3}{τ τ':L2.St},RSt K H σ τ->RSt K H σ' τ'->RSt K H (σ++σ') (τ++τ')
 | _,_,_,_,.nil,h=>h
 | _,_,_,_,.cons r s,h=>.cons r (RSt.app s h)
theorem RSt.ofVals:∀ {ws:List Z}{vs:List V},Reps K H ws vs->RSt K H (ws.map some) (vs.map some)
 | [],vs,h=>by rw[a0w]at h;subst h;exact .nil
 | w::ws,vs,h=>by
  obtain⟨v,r,rfl,b,a⟩:=h;exact .cons (λ_ e=>by cases e;exact⟨v,rfl,b⟩) (RSt.ofVals a)
end
noncomputable def a43 (N:List Str) (ws:List Z):S3:=ws.map some++gZ (N.length - ws.length) none
theorem RSt.start {K:Fg}(h:Reps K H ws vs):RSt K H (a43 N ws) (L2.start N vs):=by
 unfold a43 L2.start;rw[h.length];exact (RSt.ofVals h).app (RSt.nones _)
noncomputable def UpV (K:Fg) (H:Hp) (R:K3) (Q:VK):Prop:=∀ w G v H',R w G->Rep K H' w v->RH K G H'->TK K H H'->Q v H'
noncomputable def UpB (K:Fg) (H:Hp) (R:Bool->Hq->Prop) (Q:Bool->Hp->Prop):Prop:=∀ b G H',R b G->RH K G H'->TK K H H'->Q b H'
noncomputable def UpA (K:Fg) (H:Hp) (R:List Z->Hq->Prop) (Q:List V->Hp->Prop):Prop:=∀ ws G vs H',R ws G->Reps K H' ws vs->RH K G H'->TK K H H'->Q vs H'
noncomputable def UpS (K:Fg) (H:Hp) (R:C3) (Q:L2.St->Hp->Prop):Prop:=∀ σ G τ H',R σ G->RSt K H' σ τ->RH K G H'->TK K H H'->Q τ H'
section
variable {K:Fg}{H H':Hp}
theorem UpV.mono (h:UpV K H R Q) (t:TK K H H'):UpV K H' R Q:=λw G v b q r g a=>h w G v b q r g (t.trans a)
theorem UpB.mono (h:UpB K H R Q) (t:TK K H H'):UpB K H' R Q:=λw G b q g a=>h w G b q g (t.trans a)
theorem UpA.mono (h:UpA K H R Q) (t:TK K H H'):UpA K H' R Q:=λw G v b q r g a=>h w G v b q r g (t.trans a)
theorem UpS.mono (h:UpS K H R Q) (t:TK K H H'):UpS K H' R Q:=λw G v b q r g a=>h w G v b q r g (t.trans a)
end
noncomputable def low (K:Fg) (t:E3):TE:=fun τ H Q=>∃ σ G R,RSt K H σ τ/\RH K G H/\t σ G R/\UpV K H R Q
theorem low.un {K:Fg}{C:Prop}(z:low K t τ H Q) (f:∀ σ G R,(RSt K H σ τ)->(RH K G H)->(t σ G R)->(UpV K H R Q)->C):C:=by obtain⟨σ,G,R,d,b,c,a⟩:=z;exact f _ _ _ d b c a
noncomputable def lowT (K:Fg) (t:T3):TT:=fun τ H Q=>∃ σ G R,RSt K H σ τ/\RH K G H/\t σ G R/\UpB K H R Q
theorem lowT.un {K:Fg}{C:Prop}(z:lowT K t τ H Q) (f:∀ σ G R,(RSt K H σ τ)->(RH K G H)->(t σ G R)->(UpB K H R Q)->C):C:=by obtain⟨σ,G,R,b,a,d,c⟩:=z;exact f _ _ _ b a d c
noncomputable def lowA (K:Fg) (t:A3):TA:=fun τ H Q=>∃ σ G R,RSt K H σ τ/\RH K G H/\t σ G R/\UpA K H R Q
theorem lowA.un {K:Fg}{C:Prop}(z:lowA K t τ H Q) (f:∀ σ G R,(RSt K H σ τ)->(RH K G H)->(t σ G R)->(UpA K H R Q)->C):C:=by obtain⟨σ,G,R,d,b,c,a⟩:=z;exact f _ _ _ d b c a
noncomputable def lowS (K:Fg) (t:X3):TS:=λD τ H=>∃ σ G nx rt bk ct,RSt K H σ τ/\RH K G H/\t nx rt bk ct σ G/\UpS K H nx D.nx/\UpV K H rt D.rt/\UpS K H bk D.bk/\UpS K H ct D.ct
theorem lowS.un {K:Fg}{C:Prop}(z:lowS K t D τ H) (f:∀ σ G nx rt bk ct,(RSt K H σ τ)->(RH K G H)->(t nx rt bk ct σ G)->(UpS K H nx D.nx)->(UpV K H rt D.rt)->(UpS K H bk D.bk)->(UpS K H ct D.ct)->C):C:=by obtain⟨σ,G,k,j,l,i,h,a,g,b,c,d,e⟩:=z;exact f _ _ _ _ _ _ h a g b c d e
structure QE (X:Cx) (e:Expr) (t:E3):Prop where
 p:PE X e (low X.K t)
structure QT (X:Cx) (e:Expr) (t:T3):Prop where
 p:PT X e (lowT X.K t)
structure QW (X:Cx) (e:Expr) (t:T3):Prop where
 p:PW X e (lowT X.K t)
structure QA (X:Cx) (es:List Expr) (t:A3):Prop where
 p:PA X es (lowA X.K t)
structure QS (X:Cx) (st:Stmt) (t:X3):Prop where
 p:PS X st (lowS X.K t)
structure QSs (X:Cx) (st:List Stmt) (t:X3):Prop where
 p:PSs X st (lowS X.K t)
theorem QW.qt (h:QW X e t):QT X e t:=⟨PW.pt h.p⟩
section
variable {X:Cx}{e:Expr}{es:List Expr}{st:Stmt}{sts:List Stmt}
theorem a1E (h:PE X e t') (i:∀ σ H Q,t σ H Q->t' σ H Q):PE X e t:=λa s σ H Q I q=>h a s σ H Q I (i σ H Q q)
theorem b3V (h:PT X e t') (i:∀ σ H Q,t σ H Q->t' σ H Q):PT X e t:=λa s σ H Q I q=>h a s σ H Q I (i σ H Q q)
theorem b71 (h:PW X e t') (i:∀ σ H Q,t σ H Q->t' σ H Q):PW X e t:=λw a s σ H Q I q=>h w a s σ H Q I (i σ H Q q)
theorem b72 (h:PA X es t') (i:∀ σ H Q,t σ H Q->t' σ H Q):PA X es t:=λb a s σ H Q I q=>h b a s σ H Q I (i σ H Q q)
theorem a4G (h:PS X st t') (i:∀ D σ H,t D σ H->t' D σ H):PS X st t:=λa s σ H D I q=>h a s σ H D I (i D σ H q)
theorem b1V (h:PSs X sts t') (i:∀ D σ H,t D σ H->t' D σ H):PSs X sts t:=λa s σ H D I q=>h a s σ H D I (i D σ H q)
end
abbrev R3:=Z->Z->Hq->K3->Prop
noncomputable def low2 (K:Fg) (r:R3):R2:=λx y H Q=>∃ a b G R,Rep K H a x/\Rep K H b y/\RH K G H/\r a b G R/\UpV K H R Q
theorem low2.un {K:Fg}{C:Prop}(z:low2 K r x y H Q) (f:∀ a b G R,(Rep K H a x)->(Rep K H b y)->(RH K G H)->(r a b G R)->(UpV K H R Q)->C):C:=by obtain⟨a,b,G,R,e,h,g,c,d⟩:=z;exact f _ _ _ _ e h g c d
noncomputable def low1 (K:Fg) (r:Z->Hq->K3->Prop):V->Hp->VK->Prop:=λx H Q=>∃ a G R,Rep K H a x/\RH K G H/\r a G R/\UpV K H R Q
theorem low1.un {K:Fg}{C:Prop}(z:low1 K r x H Q) (f:∀ a G R,(Rep K H a x)->(RH K G H)->(r a G R)->(UpV K H R Q)->C):C:=by obtain⟨a,G,R,c,e,d,b⟩:=z;exact f _ _ _ c e d b
noncomputable def lowC (K:Fg) (r:List Z->Hq->K3->Prop):List V->Hp->VK->Prop:=λxs H Q=>∃ ws G R,Reps K H ws xs/\RH K G H/\r ws G R/\UpV K H R Q
theorem lowC.un {K:Fg}{C:Prop}(z:lowC K r xs H Q) (f:∀ ws G R,(Reps K H ws xs)->(RH K G H)->(r ws G R)->(UpV K H R Q)->C):C:=by obtain⟨e,G,R,b,d,c,a⟩:=z;exact f _ _ _ b d c a
noncomputable def lowM (K:Fg) (r:Z->List Z->Hq->K3->Prop):V->List V->Hp->VK->Prop:=λx xs H Q=>∃ w ws G R,Rep K H w x/\Reps K H ws xs/\RH K G H/\r w ws G R/\UpV K H R Q
theorem lowM.un {K:Fg}{C:Prop}(z:lowM K r x xs H Q) (f:∀ w ws G R,(Rep K H w x)->(Reps K H ws xs)->(RH K G H)->(r w ws G R)->(UpV K H R Q)->C):C:=by obtain⟨w,g,G,R,a,d,e,b,c⟩:=z;exact f _ _ _ _ a d e b c
noncomputable def OpQ (X:Cx) (f:Value->Value->Sem Value) (r:R3):Prop:=OpR X f (low2 X.K r)
noncomputable def UnQ (X:Cx) (f:Value->Sem Value) (r:Z->Hq->K3->Prop):Prop:=UnR X f (low1 X.K r)
noncomputable def a3G (X:Cx) (f:Value) (r:List Z->Hq->K3->Prop):Prop:=CallR X f (lowC X.K r)
noncomputable def IxQ (X:Cx) (r:R3):Prop:=IxR X (low2 X.K r)
noncomputable def MtQ (X:Cx) (id:String) (r:Z->List Z->Hq->K3->Prop):Prop:=MtR X id (lowM X.K r)
theorem a7g (h:OpR X f r') (i:∀ x y H Q,r x y H Q->r' x y H Q):OpR X f r:=λa s σ H x y v u Q I c b q=>h a s σ H x y v u Q I c b (i x y H Q q)
theorem c0g (h:UnR X f r') (i:∀ x H Q,r x H Q->r' x H Q):UnR X f r:=λa s σ H x v Q I b q=>h a s σ H x v Q I b (i x H Q q)
theorem a1V (h:CallR X f r') (i:∀ xs H Q,r xs H Q->r' xs H Q):CallR X f r:=λa s σ H b d Q I c q=>h a s σ H b d Q I c (i b H Q q)
theorem c0h (h:IxR X r') (i:∀ x y H Q,r x y H Q->r' x y H Q):IxR X r:=λa b c s σ H x y v u Q I e d q=>h a b c s σ H x y v u Q I e d (i x y H Q q)
theorem b0K {id:String}(h:MtR X id r') (i:∀ x xs H Q,r x xs H Q->r' x xs H Q):MtR X id r:=λa s σ H x b v e Q I d c q=>h a s σ H x b v e Q I d c (i x b H Q q)
noncomputable def uVar (i:Nat):E3:=fun σ G R=>∃ w,σ[i]?=some (some w)/\R w G
noncomputable def uC (w:Z):E3:=λ_ G R=>R w G
section
variable {X:Cx}{e a b c:Expr}{pos:Pos}{ta tb tc:E3}
theorem a0c (h:PE X e (tVar i)):QE X e (uVar i):=⟨a1E h fun τ H Q ⟨σ,G,R,c,b,⟨w,e,q⟩,d⟩=>by
 obtain⟨v,a,r⟩:=c.get e;exact⟨v,a,d w G v H q r b (.refl _ _)⟩⟩
theorem b0L (h:PE X e (tC v)) (hr:∀ H,Rep X.K H w v):QE X e (uC w):=⟨a1E h fun τ H Q b=>b.un fun σ G R d a q c=>c w G v H q (hr H) a (.refl _ _)⟩
theorem a0g:QE X (.Constant (.int i) j pos) (uC (.int i)):=b0L b7f λ_=>by rw[a0u]
theorem q_bl {b j pos}:QE X (.Constant (.bool b) j pos) (uC (.bl b)):=b0L b9R λ_=>by rw[a0W]
theorem a1Q:QE X (.Constant .none j pos) (uC .non):=b0L b7g λ_=>by rw[a01]
theorem a38:QE X (.Constant (.str x) j pos) (uC (.str x)):=b0L b7h λ_=>by rw[a0I]
theorem b4V (h:PE X e (tC (.int i))):QE X e (uC (.int i)):=b0L h λ_=>by rw[a0u]
theorem q_ty (h:PE X e (tC (.ty n))):QE X e (uC (.ty n)):=b0L h λ_=>by rw[b1U]
noncomputable def uOp (r:R3) (ta tb:E3):E3:=fun σ G R=>ta σ G λx G1=>tb σ G1 λy G2=>r x y G2 R
noncomputable def uUn (r:Z->Hq->K3->Prop) (ta:E3):E3:=fun σ G R=>ta σ G λx G1=>r x G1 R
theorem a9P {K:Fg}(h:low K (uOp r ta tb) τ H Q):tOp (low2 K r) (low K ta) (low K tb) τ H Q:=by
 obtain⟨σ,G,R,f,k,h,o⟩:=h;refine⟨σ,G,_,f,k,h,λw m v p l i b e=>?_⟩;refine⟨σ,m,_,f.mono e,b,l,λn g q s j d c a=>?_⟩;exact⟨w,n,g,R,i.mono a,d,c,j,o.mono (e.trans a)⟩
theorem b73 {K:Fg}(h:low K (uUn r ta) τ H Q):tUn (low1 K r) (low K ta) τ H Q:=by
 obtain⟨σ,G,R,d,f,h,c⟩:=h;exact⟨σ,G,_,d,f,h,λw e v j g b a i=>⟨w,e,R,b,a,g,c.mono i⟩⟩
theorem q_op (ho:OpQ X (jR op) r) (ha:QE X a ta) (hb:QE X b tb):QE X (.BinOp a op b pos) (uOp r ta tb):=⟨a1E (b9Z ho ha.p hb.p) λ_ _ _=>a9P⟩
theorem q_un (ho:UnQ X (kS op) r) (ha:QE X a ta):QE X (.UnaryOp op a pos) (uUn r ta):=⟨a1E (b90 ho ha.p) λ_ _ _=>b73⟩
theorem a39 (ho:OpQ X (jL op) r) (ha:QE X a ta) (hb:QE X b tb) (hm:kz op b=false):QE X (.Compare a [op] [b] pos) (uOp r ta tb):=⟨a1E (b5L ho ha.p hb.p hm) λ_ _ _=>a9P⟩
noncomputable def b3W (t:E3):T3:=fun σ G R=>t σ G λx G1=>∃ k,x=.bl k/\R k G1
theorem a9Q {K:Fg}(h:lowT K (b3W ta) τ H Q):low K ta τ H λx H'=>∃ k,x=.bl k/\Q k H':=by
 obtain⟨σ,G,R,g,f,h,i⟩:=h;refine⟨σ,G,_,g,f,h,λw l v j ⟨k,e,c⟩ a b d=>?_⟩;subst e;exact⟨k,a,i _ _ _ c b d⟩
theorem a0s (ho:OpQ X (jL op) r) (ha:QE X a ta) (hb:QE X b tb) (hm:kz op b=false):QT X (.Compare a [op] [b] pos) (b3W (uOp r ta tb)):=⟨b3V (b5M ho ha.p hb.p hm) λ_ _ _ h=>a9P (a9Q h)⟩
noncomputable def b1W (r r':R3) (ta tb tc:E3):E3:=fun σ G R=>ta σ G λx G1=>tb σ G1 λy G2=>r x y G2 λz G3=>∃ k,z=.bl k/\(if k=true then tc σ G3 λw G4=>r' y w G4 R else R (.bl false) G3)
theorem b1X {K:Fg}(h:low K (b1W r r' ta tb tc) τ H Q):b4R (low2 K r) (low2 K r') (low K ta) (low K tb) (low K tc) τ H Q:=by
 obtain⟨σ,G,R,g,F,h,p⟩:=h;refine⟨σ,G,_,g,F,h,λw A v N q B l a=>?_⟩;refine⟨σ,A,_,g.mono a,l,q,λm y T L s e j b=>?_⟩;refine⟨w,m,y,_,B.mono b,e,j,s,λz x M S ⟨k,t,f⟩ o d c=>?_⟩;subst t;refine⟨k,o,?_⟩;cases k with
 | false=>exact p _ _ _ _ (by simpa using f) (by rw[a0W]) d ((a.trans b).trans c)
 | true=>
  refine⟨σ,x,_,g.mono ((a.trans b).trans c),d,f,λC E J I D u n i=>?_⟩;exact⟨m,C,E,R,e.mono (c.trans i),u,n,D,p.mono (((a.trans b).trans c).trans i)⟩
theorem b1Y (ho:OpQ X (jL op) r) (ho':OpQ X (jL op') r') (ha:QE X a ta) (hb:QE X b tb) (hc:QE X c tc)
  (hm:lastMarks [op,op'] [b,c]=false:=by with_unfolding_all rfl):QE X (.Compare a [op,op'] [b,c] pos) (b1W r r' ta tb tc):=⟨a1E (b3v ho ho' ha.p hb.p hc.p hm) λ_ _ _=>b1X⟩
noncomputable def uAnd (t u:T3):T3:=fun σ G R=>t σ G λc G1=>if c=true then u σ G1 R else R false G1
noncomputable def uOr (t u:T3):T3:=fun σ G R=>t σ G λc G1=>if c=true then R true G1 else u σ G1 R
noncomputable def uNot (t:T3):T3:=fun σ G R=>t σ G λc G1=>R (!c) G1
variable {t u:T3}{rest:List Expr}
theorem a44 (ha:QT X a t):QW X (.BoolOp .And [a] pos) t:=⟨b5E ha.p⟩
theorem a70 (ha:QT X a t):QW X (.BoolOp .Or [a] pos) t:=⟨b7j ha.p⟩
theorem a7h (ha:QT X a t) (hb:QW X (.BoolOp .And (b::rest) pos) u):QW X (.BoolOp .And (a::b::rest) pos) (uAnd t u):=⟨b71 (b7k ha.p hb.p) fun τ H Q l=>l.un fun σ G R f j h g=>by
 refine⟨σ,G,_,f,j,h,λk i m d c e=>?_⟩;cases k with
 | false=>exact g _ _ _ (by simp_all) c e
 | true=>rw[if_pos rfl]at d ⊢;exact⟨σ,i,R,f.mono e,c,d,g.mono e⟩⟩
theorem q_or (ha:QT X a t) (hb:QW X (.BoolOp .Or (b::rest) pos) u):QW X (.BoolOp .Or (a::b::rest) pos) (uOr t u):=⟨b71 (b9S ha.p hb.p) fun τ H Q l=>l.un fun σ G R f j h g=>by
 refine⟨σ,G,_,f,j,h,λk i m e c d=>?_⟩;cases k with
 | true=>exact g _ _ _ (by simp_all) c d
 | false=>rw[if_neg (by simp)]at e ⊢;exact⟨σ,i,R,f.mono d,c,e,g.mono d⟩⟩
theorem a4a (ha:QT X a t):QT X (.UnaryOp .Not a pos) (uNot t):=⟨b3V (b7l ha.p) fun τ H Q g=>g.un fun σ G R d f h i=>
 ⟨σ,G,_,d,f,h,λk j l e b c=>i _ _ _ e b c⟩⟩
noncomputable def b74 (ta tb:E3):E3:=fun σ G R=>ta σ G λx G1=>∃ c,x=.bl c/\if c=true then tb σ G1 R else R (.bl false) G1
noncomputable def uOrV (ta tb:E3):E3:=fun σ G R=>ta σ G λx G1=>∃ c,x=.bl c/\if c=true then R (.bl true) G1 else tb σ G1 R
theorem a71 (h:QE X a ta):QE X (.BoolOp op [a] pos) ta:=⟨b7m h.p⟩
theorem a72 (ha:QE X a ta) (hb:QE X (.BoolOp .And (b::rest) pos) tb):QE X (.BoolOp .And (a::b::rest) pos) (b74 ta tb):=⟨a1E (b7n ha.p hb.p) fun τ H Q l=>l.un fun σ G R g j h i=>by
 refine⟨σ,G,_,g,j,h,λx n v o ⟨k,m,e⟩ f c d=>?_⟩;subst m;refine⟨k,f,?_⟩;cases k with
 | false=>exact i _ _ _ _ (by simpa using e) (by rw[a0W]) c d
 | true=>rw[if_pos rfl]at e ⊢;exact⟨σ,n,R,g.mono d,c,e,i.mono d⟩⟩
theorem b53 (ha:QE X a ta) (hb:QE X (.BoolOp .Or (b::rest) pos) tb):QE X (.BoolOp .Or (a::b::rest) pos) (uOrV ta tb):=⟨a1E (b9U ha.p hb.p) fun τ H Q m=>m.un fun σ G R g n h i=>by
 refine⟨σ,G,_,g,n,h,λx j v o ⟨k,l,d⟩ f c e=>?_⟩;subst l;refine⟨k,f,?_⟩;cases k with
 | true=>exact i _ _ _ _ (by simpa using d) (by rw[a0W]) c e
 | false=>rw[if_neg (by simp)]at d ⊢;exact⟨σ,j,R,g.mono e,c,d,i.mono e⟩⟩
noncomputable def uIf (t:T3) (ta tb:E3):E3:=fun σ G R=>t σ G λc G1=>if c=true then ta σ G1 R else tb σ G1 R
theorem q_if (hc:QT X c t) (ha:QE X a ta) (hb:QE X b tb):QE X (.IfExp c a b pos) (uIf t ta tb):=⟨a1E (b3t hc.p ha.p hb.p) fun τ H Q l=>l.un fun σ G R g m h j=>by
 refine⟨σ,G,_,g,m,h,λk i n e f d=>?_⟩;cases k with
 | true=>rw[if_pos rfl]at e ⊢;exact⟨σ,i,R,g.mono d,f,e,j.mono d⟩
 | false=>rw[if_neg (by simp)]at e ⊢;exact⟨σ,i,R,g.mono d,f,e,j.mono d⟩⟩
noncomputable def tru:Z->Hq->(Bool->Hq->Prop)->Prop
 | .non,G,R=>R false G
 | .bl b,G,R=>R b G
 | .int i,G,R=>R (i != 0) G
 | .str y,G,R=>y.length<=jC/\R ((y.length:Int) != 0) G
 | .tup ws,G,R=>R (!ws.isEmpty) G
 | .scr _ ns,G,R=>R (!ns.isEmpty) G
 | .ref p,G,R=>(∃ ws,G p=some (.lst ws)/\R (!ws.isEmpty) G)\/∃ kvs,G p=some (.dK kvs)/\R (!kvs.isEmpty) G
 | .ty _,_,_=>False
noncomputable def uTru (ta:E3):T3:=fun σ G R=>ta σ G λx G1=>tru x G1 R
theorem a2B {α β:Type}{a:List α}{b:List β}(h:a.length=b.length):a.isEmpty=b.isEmpty:=by
 cases a<;>cases b<;>simp_all
theorem b54 {K:Fg}(h:tru w G R) (r:Rep K H w v) (hg:RH K G H) (up:UpB K H R Q):∃ k,TruV K v H k/\Q k H:=by
 cases w with
 | non=>rw[a01]at r;subst r;exact⟨_,rfl,up _ _ _ h hg (.refl _ _)⟩
 | bl b=>rw[a0W]at r;subst r;exact⟨_,rfl,up _ _ _ h hg (.refl _ _)⟩
 | int i=>rw[a0u]at r;subst r;exact⟨_,rfl,up _ _ _ h hg (.refl _ _)⟩
 | str y=>rw[a0I]at r;subst r;exact⟨_,⟨h.1,rfl⟩,up _ _ _ h.2 hg (.refl _ _)⟩
 | ty n=>exact eC h
 | scr a ns=>rw[a4F]at r;obtain⟨rfl,f⟩:=r;exact⟨!ns.isEmpty,.inl ⟨_,f.sq,by rw[a2B (er ..).symm]⟩,up _ _ _ h hg (.refl _ _)⟩
 | tup ws=>
  obtain⟨a,d,rfl,e,c⟩:=r;exact⟨!ws.isEmpty,.inr (.inl ⟨d,SqT.of e,by rw[a2B c.length]⟩),up _ _ _ h hg (.refl _ _)⟩
 | ref p=>
  subst r;rcases h with ⟨ws,e,h⟩ | ⟨kvs,e,h⟩
  ·obtain⟨d,g,c⟩:=hg p _ e;exact⟨_,.inl ⟨d,SqL.of g,by rw[<- a2B c.length]⟩,up _ _ _ h hg (.refl _ _)⟩
  ·obtain⟨j,g,l,c⟩:=hg p _ e;exact⟨_,.inr (.inr ⟨j,g,by rw[a2B (show kvs.length=j.length by rw[<- er,c.length,er])]⟩),up _ _ _ h hg (.refl _ _)⟩
theorem b75 (ha:QE X a ta) (he:∀ whole,isTrue a X.env whole=(do let v <- whole;j7 a.pos;jV [v] (truthy v))):QT X a (uTru ta):=⟨b3V (b3w ha.p he) fun τ H Q i=>i.un fun σ G R d f h j=>
 ⟨σ,G,_,d,f,h,λw k v l e g b c=>b54 e g b (j.mono c)⟩⟩
theorem a27 (ha:QE X a ta) (he:∀ whole,isTrue a X.env whole=(do let v <- whole;j7 a.pos;jV [v] (truthy v)):=by intro _;rfl):QT X a (b3W ta):=⟨b3V (b7i ha.p he) λ_ _ _ h=>a9Q h⟩
end
section
variable {env:Env}{es:List Expr}{pos:Pos}
theorem a0d:jE (.Constant c k p::es) env=(false,eval (.Constant c k p) env)::jE es env:=rfl
theorem a0a:jE (.Name x p::es) env=(false,eval (.Name x p) env)::jE es env:=rfl
theorem a0E:jE (.BinOp a o b p::es) env=(false,eval (.BinOp a o b p) env)::jE es env:=rfl
theorem b0M:jE (.UnaryOp o a p::es) env=(false,eval (.UnaryOp o a p) env)::jE es env:=rfl
theorem a3h:jE (.Compare a o b p::es) env=(false,eval (.Compare a o b p) env)::jE es env:=rfl
theorem b3X:jE (.IfExp a o b p::es) env=(false,eval (.IfExp a o b p) env)::jE es env:=rfl
theorem a5G:jE (.List a p::es) env=(false,eval (.List a p) env)::jE es env:=rfl
theorem a5p:jE (.Tuple a k p::es) env=(false,eval (.Tuple a k p) env)::jE es env:=rfl
theorem a0k:jE (.Subscript a b p::es) env=(false,eval (.Subscript a b p) env)::jE es env:=rfl
theorem a1C:jE (.Attribute a b p::es) env=(false,eval (.Attribute a b p) env)::jE es env:=rfl
theorem a0M:jE (.Call a b c p::es) env=(false,eval (.Call a b c p) env)::jE es env:=rfl
theorem a0B:jE (.ListComp a b c p::es) env=(false,eval (.ListComp a b c p) env)::jE es env:=rfl
theorem a0i:(backTo pos (jE [] env)).any (·.1)=false:=rfl
theorem a0j (h:jE (e::es) env=(false,eval e env)::jE es env) (r:(backTo pos (jE es env)).any (·.1)=false):(backTo pos (jE (e::es) env)).any (·.1)=false:=by
 rw[h]
 show (false||(backTo pos _).any _)=false
 rw[r];rfl
end
section
variable {X:Cx}{e a b:Expr}{es:List Expr}{pos p2:Pos}{te ta tb:E3}{t:A3}
theorem q_ix (hr:IxQ X r) (ha:QE X a ta) (hb:QE X b tb) (hs:b1H b):QE X (.Subscript a b pos) (uOp r ta tb):=⟨a1E (c0a hr ha.p hb.p hs) λ_ _ _=>a9P⟩
abbrev O3:=S3->Hq->(Option Int->Hq->Prop)->Prop
noncomputable def b1Z:O3:=λ_ G R=>R none G
noncomputable def b76 (t:E3):O3:=fun σ G R=>t σ G λx G1=>∃ i,x=.int i/\R (some i) G1
noncomputable def lowO (K:Fg) (t:O3):TO:=fun τ H Q=>∃ σ G R,RSt K H σ τ/\RH K G H/\t σ G R/\∀ o G' H',R o G'->RH K G' H'->TK K H H'->Q o H'
theorem lowO.un {K:Fg}{t:O3}{C:Prop}(z:lowO K t τ H Q) (f:∀ σ G R,(RSt K H σ τ)->(RH K G H)->(t σ G R)->(∀ o G' H',R o G'->RH K G' H'->TK K H H'->Q o H')->C):C:=by obtain⟨σ,G,R,d,b,c,a⟩:=z;exact f _ _ _ d b c a
noncomputable def QO (X:Cx) (e:Option Expr) (t:O3):Prop:=PO X e (lowO X.K t)
theorem a1z:QO X none b1Z:=λa s τ H Q I ⟨σ,G,R,d,c,h,b⟩=>b5U a s τ H Q I (b _ _ _ h c (.refl _ _))
theorem a15 (h:QE X e te):QO X (some e) (b76 te):=λa s τ H Q I ⟨σ,G,R,f,k,q,l⟩=>b5V h.p a s τ H Q I ⟨σ,G,_,f,k,q,λw n v m ⟨i,g,d⟩ b c j=>by
 subst g;exact⟨i,b,l _ _ _ d c j⟩⟩
abbrev L3r:=Z->Option Int->Option Int->Hq->K3->Prop
noncomputable def lowL (K:Fg) (r:L3r):V->Option Int->Option Int->Hp->VK->Prop:=λx lo hi H Q=>∃ w G R,Rep K H w x/\RH K G H/\r w lo hi G R/\UpV K H R Q
theorem lowL.un {K:Fg}{lo hi:Option Int}{C:Prop}(z:lowL K r x lo hi H Q) (f:∀ w G R,(Rep K H w x)->(RH K G H)->(r w lo hi G R)->(UpV K H R Q)->C):C:=by obtain⟨w,G,R,a,d,b,c⟩:=z;exact f _ _ _ a d b c
noncomputable def SlQ (X:Cx) (r:L3r):Prop:=SlR X (lowL X.K r)
theorem c0i (h:SlR X r') (i:∀ x lo hi H Q,r x lo hi H Q->r' x lo hi H Q):SlR X r:=λa s σ H x v l b j f d Q I c e g k q=>h a s σ H x v l b j f d Q I c e g k (i _ _ _ _ _ q)
noncomputable def uSl (r:L3r) (te:E3) (tl th:O3):E3:=fun σ G R=>te σ G λx G1=>tl σ G1 λl G2=>th σ G2 λu G3=>r x l u G3 R
theorem a1F {lo hi:Option Expr}(hr:SlQ X r) (he:QE X e te) (hl:QO X lo tl) (hu:QO X hi th):QE X (.Subscript e (.Slice lo hi none p2) pos) (uSl r te tl th):=⟨a1E (b3F hr he.p hl hu) fun τ H Q q=>q.un fun σ G R c k h y=>
 ⟨σ,G,_,c,k,h,λw m v z j t f b=>⟨σ,m,_,c.mono b,f,j,λl o A s d a=>⟨σ,o,_,c.mono (b.trans a),d,s,λu x B n i g=>
  ⟨w,x,R,t.mono (a.trans g),i,n,y.mono ((b.trans a).trans g)⟩⟩⟩⟩⟩
noncomputable def uNil:A3:=λ_ G R=>R [] G
noncomputable def b77 (ta:E3) (tr:A3):A3:=fun σ G R=>ta σ G λx G1=>tr σ G1 λxs G2=>R (x::xs) G2
theorem a0h:QA X [] uNil:=⟨b72 b7G fun τ H Q b=>b.un fun σ G R d a h c=>c _ _ _ _ h .nil a (.refl _ _)⟩
theorem a0b (ha:QE X e te) (hr:QA X es t) (hs:jE (e::es) X.env=(false,eval e X.env)::jE es X.env:=by rfl):QA X (e::es) (b77 te t):=⟨b72 (b5R ha.p hr.p hs) fun τ H Q i=>i.un fun σ G R hs l h o=>
 ⟨σ,G,_,hs,l,h,λw j v H1 g m f d=>⟨σ,j,_,hs.mono d,f,g,λws G2 vs H2 n k c b=>o _ _ _ _ n (.cons (m.mono b) k) c (d.trans b)⟩⟩⟩
noncomputable def uTup (t:A3):E3:=fun σ G R=>t σ G λxs G1=>xs.length<=jC/\R (.tup xs) G1
noncomputable def uLst (t:A3):E3:=fun σ G R=>t σ G λxs G1=>xs.length<=jC/\∀ p,G1 p=none->R (.ref p) (put G1 p (.lst xs))
theorem a1W (h:QA X es t):QE X (.Tuple es x1 pos) (uTup t):=⟨a1E (b7H h.p) fun τ H Q k=>k.un fun σ G R f j h d=>
 ⟨σ,G,_,f,j,h,λo m l n ⟨i,g⟩ b c e=>⟨by rw[<- b.length];exact i,λp a=>d _ _ _ _ g (by rw[a25];exact⟨p,l,rfl,a0x,b.mono (.new a)⟩) (c.hid a) (e.trans (.new a))⟩⟩⟩
theorem a2C {K:Fg}(r:Reps K H ws vs) (t:TK K H (upd H p (.lst vs))):ROb K (upd H p (.lst vs)) p (.lst ws):=⟨vs,a0x,r.mono t⟩
theorem a21 (h:QA X es t):QE X (.List es pos) (uLst t):=⟨a1E (b7I h.p) fun τ H Q g=>g.un fun σ G R d k h i=>
 ⟨σ,G,_,d,k,h,λm l o n ⟨f,e⟩ c b j=>⟨by rw[<- c.length];exact f,λp a=>i _ _ _ _ (e p (b.out a)) (by rw[a0O]) (b.set (.new a) (a2C c (.new a))) (j.trans (.new a))⟩⟩⟩
noncomputable def uCB (r:List Z->Hq->K3->Prop) (t:A3):E3:=fun σ G R=>t σ G λws G1=>r ws G1 R
theorem b4W {K:Fg}(h:low K (uCB r t) τ H Q):tCB (lowC K r) (lowA K t) τ H Q:=by
 obtain⟨σ,G,R,e,j,h,i⟩:=h;exact⟨σ,G,_,e,j,h,λc g k l f b a d=>⟨c,g,R,b,a,f,i.mono d⟩⟩
variable {x:Str}{p:Pos}{id T:String}{r:List Z->Hq->K3->Prop}
theorem a0K (hc:a3G X (.builtin id) r) (hg:Gl X x) (hm:X.mg x=none) (hv:ke x=some (.builtin id)) (ha:QA X (e::es) t) (hn:x≠"__name__":=by decide) (hdb:(x==("__debug__":Str))=false:=by decide)
  (he:jE (e::es) X.env=(false,eval e X.env)::jE es X.env:=by rfl) (hpl:(backTo pos (jE es X.env)).any (·.1)=false:=by rfl):QE X (.Call (.Name x p) (e::es) [] pos) (uCB r t):=⟨a1E (b3D hc hg hm hv ha.p hn hdb he hpl) λ_ _ _=>b4W⟩
theorem a5q (hc:a3G X (.type T) r) (hg:Gl X x) (hm:X.mg x=none) (hv:ke x=some (.type T)) (ha:QA X (e::es) t) (hn:x≠"__name__":=by decide) (hdb:(x==("__debug__":Str))=false:=by decide)
  (he:jE (e::es) X.env=(false,eval e X.env)::jE es X.env:=by rfl) (hpl:(backTo pos (jE es X.env)).any (·.1)=false:=by rfl):QE X (.Call (.Name x p) (e::es) [] pos) (uCB r t):=⟨a1E (b1E hc hg hm hv ha.p hn hdb he hpl) λ_ _ _=>b4W⟩
noncomputable def tyZ (T:String) (x:Z) (G:Hq):Prop:=match x with
 | .str _=>T="str"
 | .int _=>T="int"
 | .ref p=>(T="list"/\∃ ws,G p=some (.lst ws))\/(T="dict"/\∃ kvs,G p=some (.dK kvs)\/G p=some (.dF kvs))
 | .scr _ _=>T="list"
 | _=>False
theorem b55 {K:Fg}(h:tyZ T w G) (r:Rep K H w v) (hg:RH K G H):tyV K T v H:=by
 cases w with
 | str y=>rw[a0I]at r;subst r;exact h
 | int y=>rw[a0u]at r;subst r;exact h
 | ref q=>
  subst r;rcases h with ⟨e,ws,g⟩ | ⟨e,kvs,g⟩
  ·obtain⟨b,a,_⟩:=hg q _ g;exact .inl ⟨e,b,SqL.of a⟩
  ·rcases g with g | g
   ·obtain⟨b,a,_⟩:=hg q _ g;exact .inr (.inr (.inl ⟨e,.inl ⟨b,a⟩⟩))
   ·obtain⟨c,b,a,_⟩:=hg q _ g;exact .inr (.inr (.inl ⟨e,.inr (.inr ⟨c,b,a⟩)⟩))
 | scr q ns=>rw[a4F]at r;obtain⟨rfl,f⟩:=r;exact .inl ⟨h,_,f.sq⟩
 | _=>exact eC h
noncomputable def uBM (T:String) (r:Z->List Z->Hq->K3->Prop) (to:E3) (t:A3):E3:=fun σ G R=>to σ G λx G1=>tyZ T x G1/\t σ G1 λxs G2=>r x xs G2 R
variable {o:Expr}{to:E3}{name:Str}{apos cpos:Pos}{rm:Z->List Z->Hq->K3->Prop}
theorem q_bm (pa:PlainAttrs T) (slot:Slot T name id) (hty:typeOf (.builtin id)=pure (.type "method_descriptor")) (hm:MtQ X id rm) (ho:QE X o to) (ha:QA X (e::es) t)
  (hbase:kI o name X.env (eval o X.env)=eval o X.env:=by rfl)
  (hfew:((backTo cpos (jE (e::es) X.env)).all (λx=>!x.1)&&(kq cpos (kr [] X.env)).all (λx=>x.1.isSome)
   && decide ((e::es).length+([]:List kK).length+(if ([]:List kK).isEmpty then 0 else 1)<30))=true:=by rfl)
  (hline:(apos.endLine==cpos.line)=true:=by rfl) (hs:jE (e::es) X.env=(false,eval e X.env)::jE es X.env:=by rfl) (hplain:(backTo cpos (jE es X.env)).any (·.1)=false:=by rfl) :
  QE X (.Call (.Attribute o name apos) (e::es) [] cpos) (uBM T rm to t):=⟨a1E (c0c pa slot hty hm ho.p ha.p hbase hfew hline hs hplain) fun τ H Q q=>q.un fun σ G R hs r h u=>
  ⟨σ,G,_,hs,r,h,λw j v H1 ⟨m,n⟩ d a g=>⟨b55 m d a,σ,j,_,hs.mono g,a,n,λs i vs H2 k l f c=>⟨w,s,i,R,d.mono c,l,f,k,u.mono (g.trans c)⟩⟩⟩⟩
abbrev P3:=List Z->Hq->K3->Prop
noncomputable def lowP (K:Fg) (sp:P3):Sp:=λvs H Q _=>lowC K sp vs H Q
noncomputable def b78 (sp:P3) (t:A3):E3:=fun σ G R=>t σ G λws G1=>sp ws G1 R
variable {k:Nat}{f:Addr}{fd:jI}{ps:List Str}{sp:P3}
theorem a0q (F:FnOk X.prog X.w X.K X.mg X.base CX0 k f fd ps (lowP X.K sp)) (hr:Room k X.A) (hg:Gl X x) (hm:X.mg x=some (.ref f)) (hk:PySem.W.keepIn X.K (.ref f)=true) (hb:Binds X.K fd ps []) (ha:QA X (e::es) t)
  (hdb:(x==("__debug__":Str))=false:=by decide) (he:jE (e::es) X.env=(false,eval e X.env)::jE es X.env:=by rfl) (hpl:(backTo pos (jE es X.env)).any (·.1)=false:=by rfl) :
  QE X (.Call (.Name x p) (e::es) [] pos) (b78 sp t):=⟨a1E (b1B F hr hg hm hk hb .nil b3J ha.p hdb he hpl) fun τ H Q d=>d.un fun σ G R i hg h m=>⟨σ,G,_,i,hg,h,λc j vs H1 l g b n=>⟨c,j,R,by rw[eW];exact g,b,l,m.mono n⟩⟩⟩
end
section
variable {X:Cx}{e c tg:Expr}{st:Stmt}{rest sa sb:List Stmt}{pos:Pos}{te:E3}{t u:X3}{tc:T3}
noncomputable def b79:X3:=λnx _ _ _ σ G=>nx σ G
noncomputable def uSeq (t u:X3):X3:=λnx rt bk ct σ G=>t (u nx rt bk ct) rt bk ct σ G
theorem a00:QSs X [] b79:=⟨b1V b5F λD τ H a=>a.un fun σ G g e k f d b h c i j l=>c _ _ _ _ h d b (.refl _ _)⟩
theorem a0l (h1:QS X st t) (h2:QSs X rest u):QSs X (st::rest) (uSeq t u):=⟨b1V (a9J h1.p h2.p) λD τ H q=>q.un fun σ G k j c e l o h n d b g=>
 ⟨σ,G,_,j,c,e,l,o,h,fun σ' r τ' s m f i a=>⟨σ',r,k,j,c,e,f,i,m,n.mono a,d.mono a,b.mono a,g.mono a⟩,d,b,g⟩⟩
theorem a0n (h1:QS X st t):QSs X [st] t:=⟨b5G h1.p⟩
noncomputable def uCut (t u:X3):X3:=λnx rt bk ct σ G=>∃ M:C3,t M rt bk ct σ G/\∀ σ' G',M σ' G'->u nx rt bk ct σ' G'
theorem a73 (h1:QS X st t) (h2:QSs X rest u):QSs X (st::rest) (uCut t u):=⟨b1V (a9J h1.p h2.p) λD τ H v=>v.un fun σ G n d j b q m l s g e i=>by
 obtain⟨M,h,k⟩:=l;exact⟨σ,G,M,d,j,b,q,m,h,fun σ' o τ' w r f c a=>⟨σ',o,n,d,j,b,f,c,k _ _ r,s.mono a,g.mono a,e.mono a,i.mono a⟩,g,e,i⟩⟩
noncomputable def b8a (te:E3):X3:=λnx _ _ _ σ G=>te σ G λ_ G1=>nx σ G1
theorem a0X (he:QE X e te) (hs:kf e none pos.line X.env=pure false:=by rfl):QS X (.Expr e pos) (b8a te):=⟨a4G (b5H he.p hs) λD τ H i=>i.un fun σ G nx rt bk ct hs g h f u2 u3 u4=>
 ⟨σ,G,_,hs,g,h,λw G1 v H1 d rv c b=>f _ _ _ _ d (hs.mono b) c b⟩⟩
noncomputable def uRet (te:E3):X3:=λ_ rt _ _ σ G=>te σ G rt
theorem a0v (he:QE X e te):QS X (.Return (some e) pos) (uRet te):=⟨a4G (b7o he.p) λD τ H c=>c.un fun σ G f j k m a b h g d l i=>⟨σ,G,_,a,b,h,d⟩⟩
noncomputable def uIfS (c:T3) (t u:X3):X3:=λnx rt bk ct σ G=>c σ G λb G1=>if b=true then t nx rt bk ct σ G1 else u nx rt bk ct σ G1
theorem z_if (hc:QT X c tc) (ha:QSs X sa t) (hb:QSs X sb u):QS X (.If c sa sb pos) (uIfS tc t u):=⟨a4G (b9X hc.p ha.p hb.p) λD τ H s=>s.un fun σ G l g k m f r h n q j i=>by
 refine⟨σ,G,_,f,r,h,λb o v d e a=>?_⟩;cases b with
 | true=>rw[if_pos rfl]at d ⊢;exact⟨σ,o,l,g,k,m,f.mono a,e,d,n.mono a,q.mono a,j.mono a,i.mono a⟩
 | false=>rw[if_neg (by simp)]at d ⊢;exact⟨σ,o,l,g,k,m,f.mono a,e,d,n.mono a,q.mono a,j.mono a,i.mono a⟩⟩
noncomputable def b8b (c:T3) (tb:X3):X3:=λnx rt _ _ σ G=>∃ I:Nat->S3->Hq->Prop,(∃ m,I m σ G)/\∀ m σ G,I m σ G ->
 c σ G λb G1=>if b=true then tb (fun σ' G'=>∃ m',m'<m/\I m' σ' G') rt nx (fun σ' G'=>∃ m',m'<m/\I m' σ' G') σ G1 else nx σ G1
theorem b56 (hp:jQ (model X.prog X.w) X.A X.env X.xe) (hc:QT X c tc) (hb:QSs X sb t):QS X (.While c sb [] pos) (b8b tc t):=⟨a4G (b3u hp hc.p hb.p) λD τ H L=>L.un fun σ G C R Y T F J B v Q W V=>by
 obtain⟨I,⟨y,E⟩,l⟩:=B;refine⟨λm τ' i=>∃ σ' G',RSt X.K i σ' τ'/\RH X.K G' i/\TK X.K H i/\I m σ' G',⟨y,σ,G,F,J,.refl _ _,E⟩,?_⟩;rintro m τ' S ⟨σ1,u,g,x,f,M⟩;refine⟨σ1,u,_,g,x,l m σ1 u M,λb z U j k a=>?_⟩;cases b with
 | false=>rw[if_neg (by simp)]at j ⊢;exact v _ _ _ _ j (g.mono a) k (f.trans a)
 | true=>
  refine⟨_,fun σ' i h=>h,σ1,z,_,R,C,_,g.mono a,k,j,?_,Q.mono (f.trans a),v.mono (f.trans a),?_⟩
  ·rintro σ3 s τ3 N ⟨o,n,r⟩ d e q;exact⟨o,n,σ3,s,d,e,(f.trans a).trans q,r⟩
  ·rintro σ3 s τ3 N ⟨o,n,r⟩ d e q;exact⟨o,n,σ3,s,d,e,(f.trans a).trans q,r⟩⟩
inductive Pt where
 | nm (i:Nat)
 | tp (is:List Nat)
noncomputable def gsOf:List Nat->TGs
 | []=>gNil
 | i::is=>b7p (b1j i) (gsOf is)
noncomputable def gP (K:Fg):Pt->TG
 | .nm i=>b1j i
 | .tp is=>gTup K is.length (gsOf is)
noncomputable def sets:List Nat->List Z->S3->S3
 | i::is,w::ws,σ=>sets is ws (σ.set i (some w))
 | _,_,σ=>σ
noncomputable def a5H:Pt->Z->S3->Option S3
 | .nm i,w,σ=>some (σ.set i (some w))
 | .tp is,.tup ws,σ=>if ws.length=is.length then some (sets is ws σ) else none
 | _,_,_=>none
noncomputable def Pt.slots:Pt->List Nat
 | .nm i=>[i]
 | .tp is=>is
noncomputable def a5a:List Nat->List V->L2.St->L2.St
 | i::is,w::ws,σ=>a5a is ws (σ.set i (some w))
 | _,_,σ=>σ
theorem b10:∀ {is:List Nat}{vs:List V}{τ:L2.St},vs.length=is.length->Q (a5a is vs τ) H->gsOf is vs τ H Q
 | [],[],_,_,q=>⟨rfl,q⟩
 | i::is,v::vs,τ,h,q=>⟨v,vs,rfl,b10 (by simpa using h) q⟩
 | [],_::_,_,h,_=>by simp at h
 | _::_,[],_,h,_=>by simp at h
theorem a74 {K:Fg}:∀ {is:List Nat}{ws:List Z}{vs:List V}{σ:S3}{τ:L2.St},Reps K H ws vs->RSt K H σ τ->RSt K H (sets is ws σ) (a5a is vs τ)
 | [],ws,vs,σ,τ,_,h=>by unfold sets a5a;exact h
 | i::is,[],vs,σ,τ,r,h=>by rw[a0w]at r;subst r;exact h
 | i::is,w::ws,vs,σ,τ,r,h=>by
  obtain⟨v,c,rfl,a,b⟩:=r;exact a74 (is:=is) b (h.set a i)
theorem a6J:∀ {is:List Nat}{vs:List V}{τ:L2.St}{j:Nat},j∉is->(a5a is vs τ)[j]?=τ[j]?
 | [],_,_,_,_=>by unfold a5a;rfl
 | i::is,[],_,_,_=>by unfold a5a;rfl
 | i::is,v::vs,τ,j,h=>by
  have b:j≠i:=λz=>h (by rw[z];exact fJ ..);have a:=λz=>h (fE _ z)
  show (a5a is vs _)[j]?=τ[j]?
  rw[a6J a,gU (Ne.symm b)]
theorem a45:∀ {is:List Nat}{vs:List V}{τ:L2.St},(a5a is vs τ).length=τ.length
 | [],_,_=>by unfold a5a;rfl
 | i::is,[],_=>by unfold a5a;rfl
 | i::is,v::vs,τ=>by
  show (a5a is vs _).length=τ.length
  rw[a45,List.length_set]
theorem b57 {K:Fg}(r:Rep K H w v) (hs:RSt K H σ τ) (hb:a5H pt w σ=some σ')
  (q:∀ τ',RSt K H σ' τ'->τ'.length=τ.length->(∀ j,j∉pt.slots->τ'[j]?=τ[j]?)->Q τ' H):gP K pt v τ H Q:=by
 cases pt with
 | nm i=>
  cases hb;exact q _ (hs.set r i) (by simp) λj d=>by rw[gU];intro z;exact d (by rw[z];exact fJ ..)
 | tp is=>
  cases w with
  | tup ws=>
   obtain⟨a,f,rfl,e,c⟩:=r;have b:(if ws.length=is.length then some _ else none)=some σ':=hb
   by_cases hl:ws.length=is.length
   ·rw[if_pos hl]at b;cases b;exact⟨a,f,rfl,SqT.of e,by rw[<- c.length];exact hl,b10 (by rw[<- c.length];exact hl) (q _ (a74 c hs) a45 λj d=>a6J d)⟩
   ·simp_all
  | _=>cases hb
noncomputable def QP (X:Cx) (tg:Expr) (pt:Pt):Prop:=PG X tg (gP X.K pt)
noncomputable def uAsg (te:E3) (pt:Pt):X3:=λnx _ _ _ σ G=>te σ G λx G1=>∃ σ',a5H pt x σ=some σ'/\nx σ' G1
theorem a84 {K:Fg}(h:lowS K (uAsg te pt) D τ H):tAsg (low K te) (gP K pt) D τ H:=by
 obtain⟨σ,G,p,s,k,l,b,e,h,j,r,m,n⟩:=h;exact⟨σ,G,_,b,e,h,λw o v q ⟨σ',g,i⟩ f c d=>b57 f (b.mono d) g fun τ' a _ _=>j _ _ _ _ i a c d⟩
theorem a0J (hN:X.N.Nodup) (hi:X.N[i]?=some x) (hx:Loc X.env.scope x) (he:QE X e te) (hs:kf e (some (.Name x pos')) pos.line X.env=pure false:=by rfl) (hf:X.fn x=true\/X.env.scope.names.lookup x=some .local:=by first | exact .inl rfl | exact .inr rfl | assumption) :
  QS X (.Assign [.Name x pos'] e pos) (uAsg te (.nm i)):=⟨a4G (b7r hN hi hx he.p hs hf) λ_ _ _=>a84⟩
theorem b8c (he:QE X e te) (hg:QP X tg pt) (hs:lA [tg] e pos.line X.env=pure false:=by rfl) (hw:lB [tg] e X.env=pure none:=by rfl)
  (h1:(kg [tg] X.env).map (·.2)=[assign tg X.env]:=by rfl):QS X (.Assign [tg] e pos) (uAsg te pt):=⟨a4G (b4Q he.p hg hs hw h1) λ_ _ _=>a84⟩
abbrev Z3:=Z->Z->Z->Hq->(Hq->Prop)->Prop
noncomputable def lowZ (K:Fg) (r:Z3):TSet:=λo i v H Q=>∃ a b w G R,Rep K H a o/\Rep K H b i/\Rep K H w v/\RH K G H/\r a b w G R/\∀ G' H',R G'->RH K G' H'->TK K H H'->Q H'
theorem lowZ.un {K:Fg}{C:Prop}(z:lowZ K r o i v H Q) (f:∀ a b w G R,(Rep K H a o)->(Rep K H b i)->(Rep K H w v)->(RH K G H)->(r a b w G R)->(∀ G' H',R G'->RH K G' H'->TK K H H'->Q H')->C):C:=by obtain⟨a,b,w,G,R,d,j,e,g,c,h⟩:=z;exact f _ _ _ _ _ d j e g c h
noncomputable def SetQ (X:Cx) (r:Z3):Prop:=PSet X (lowZ X.K r)
theorem b4X (h:PSet X r') (i:∀ o j v H Q,r o j v H Q->r' o j v H Q):PSet X r:=λa s σ H o j v c f u Q I b d e q=>h a s σ H o j v c f u Q I b d e (i _ _ _ _ _ q)
noncomputable def uPut (te to ti:E3) (r:Z3):X3:=λnx _ _ _ σ G=>te σ G λw G1=>to σ G1 λo G2=>ti σ G2 λi G3=>r o i w G3 λG4=>nx σ G4
theorem c0j (h:PS X st (tAsg (low X.K te) (gSub (low X.K to) (low X.K ti) (lowZ X.K r)))):QS X st (uPut te to ti r):=⟨a4G h λD τ H z=>z.un fun σ G Q I J N a s h B T V C=>
 ⟨σ,G,_,a,s,h,λw m v U o t e d=>⟨σ,m,_,a.mono d,e,o,λx u R S n i l c=>⟨σ,u,_,a.mono (d.trans c),l,n,λy A M F q g k b=>
  ⟨x,y,w,A,_,i.mono b,g,t.mono (c.trans b),k,q,λE L p j f=>B _ _ _ _ p (a.mono (((d.trans c).trans b).trans f)) j (((d.trans c).trans b).trans f)⟩⟩⟩⟩⟩
theorem b4Y (he:QE X e te) (ho:QE X o to) (hi:QE X i ti) (hr:SetQ X r) (hs:lA [.Subscript o i p'] e pos.line X.env=pure false:=by rfl) (hw:lB [.Subscript o i p'] e X.env=pure none:=by rfl)
  (h1:(kg [.Subscript o i p'] X.env).map (·.2)=[assign (.Subscript o i p') X.env]:=by rfl) (ha:∀ v,assign (.Subscript o i p') X.env v=(do
   let ov <- jV [v] (eval o X.env)
   let iv <- jV [v,ov] (eval i X.env)
   j7 p'
   jV [v,ov,iv] (kR ov iv v)
   release [v,ov,iv] []):=by intro _;rfl):QS X (.Assign [.Subscript o i p'] e pos) (uPut te to ti r):=c0j (b4Q he.p (b7q ho.p hi.p hr ha) hs hw h1)
noncomputable def uAug (i:Nat) (te:E3) (r:R3):X3:=λnx _ _ _ σ G=>∃ x,σ[i]?=some (some x)/\te σ G λy G1=>r x y G1 λz G2=>nx (σ.set i (some z)) G2
theorem c0k (h:PS X st (tAug i (low X.K te) (low2 X.K r))):QS X st (uAug i te r):=⟨a4G h λD τ H q=>q.un fun σ G y L C u a s k t A B M=>by
 obtain⟨x,p,h⟩:=k;obtain⟨v,n,o⟩:=a.get p;exact⟨v,n,σ,G,_,a,s,h,λw m N z j c g b=>⟨x,w,m,_,o.mono b,c,g,j,λF I J E l d e f=>t _ _ _ _ l ((a.mono (b.trans f)).set d i) e (b.trans f)⟩⟩⟩
theorem b8d (hN:X.N.Nodup) (hi:X.N[i]?=some x) (hx:Loc X.env.scope x) (he:QE X e te) (ho:OpQ X (ki op) r) (hf:X.fn x=true\/X.env.scope.names.lookup x=some .local:=by first | exact .inl rfl | exact .inr rfl | assumption) :
  QS X (.AugAssign (.Name x pos') op e pos) (uAug i te r):=c0k (b7s hN hi hx he.p ho hf)
end
abbrev I3:=S3->Hq->(List Z->(Hq->Prop)->Hq->Prop)->Prop
noncomputable def a7i (K:Fg) (ws:List Z) (ok:Hq->Prop) (J:It) (H0:Hp):Prop:=∀ i G H,RH K G H->TK K H0 H->ok G->i<=ws.length ->
 (i=ws.length->J.stop i H)/\∀ w,ws[i]?=some w->J.go i H/\∀ x H',J.yld i H x H'->Rep K H' w x/\RH K G H'/\TK K H H'
noncomputable def lowI (K:Fg) (wi:I3):TI:=fun τ H R2=>∃ σ G R,RSt K H σ τ/\RH K G H/\wi σ G R/\∀ ws ok G' J H',R ws ok G'->a7i K ws ok J H'->RH K G' H'->TK K H H'->R2 J H'
theorem lowI.un {K:Fg}{R2:It->Hp->Prop}{C:Prop}(z:lowI K wi τ H R2) (f:∀ σ G R,(RSt K H σ τ)->(RH K G H)->(wi σ G R)->(∀ ws ok G' J H',R ws ok G'->a7i K ws ok J H'->RH K G' H'->TK K H H'->R2 J H')->C):C:=by obtain⟨σ,G,R,d,b,c,a⟩:=z;exact f _ _ _ d b c a
noncomputable def QI (X:Cx) (tg iter:Expr) (wi:I3):Prop:=PI X tg iter (lowI X.K wi)
theorem a85 (h:PI X tg iter wi') (i:∀ σ H R,wi σ H R->wi' σ H R):PI X tg iter wi:=λa s σ H R I q=>h a s σ H R I (i σ H R q)
noncomputable def FORB (ws:List Z) (ok:Hq->Prop) (pt:Pt) (tb:X3) (nx:C3) (rt:K3) (σ:S3) (G1:Hq):Prop:=∃ I:Nat->S3->Hq->Prop,I 0 σ G1/\(∀ i σ G,i<=ws.length->I i σ G->ok G) /\
 (∀ i x σ G,ws[i]?=some x->I i σ G->∃ σ',a5H pt x σ=some σ'/\tb (I (i+1)) rt nx (I (i+1)) σ' G)/\∀ σ G,I ws.length σ G->nx σ G
noncomputable def uFor (wi:I3) (pt:Pt) (tb:X3):X3:=λnx rt _ _ σ G=>wi σ G λws ok G1=>FORB ws ok pt tb nx rt σ G1
theorem a1X (I:Nat->S3->Hq->Prop) (h0:I 0 σ G) (hok:∀ i σ G,i<=ws.length->I i σ G->ok G)
  (step:∀ i x σ G,ws[i]?=some x->I i σ G->∃ σ',a5H pt x σ=some σ'/\tb (I (i+1)) rt nx (I (i+1)) σ' G) (fin:∀ σ G,I ws.length σ G->nx σ G):FORB ws ok pt tb nx rt σ G:=⟨I,h0,hok,step,fin⟩
theorem a4H (hp:jQ (model X.prog X.w) X.A X.env X.xe) (hc:X.calm=true) (hi:QI X tg iter wi) (hg:QP X tg pt) (hb:QSs X sb t)
  (hs:∀ x,kl iter X.env x=pure x:=by intro _;rfl):QS X (.For tg iter sb [] pos) (uFor wi pt t):=⟨a4G (b7x hp hc hi hg hb.p hs) λD τ H U=>U.un fun σ G nx rt bk ct hs hg h R u2 u3 u4=>by
 refine⟨σ,G,_,hs,hg,h,?_⟩;rintro b ok G1 J L ⟨I,i0,S,u,E⟩ hJ M k;refine⟨λi m τ' a=>m=b.length - i/\i<=b.length/\∃ σ' G',RSt X.K a σ' τ'/\RH X.K G' a/\TK X.K L a/\I i σ' G',⟨b.length,by simp,e8 _,σ,G1,hs.mono k,M,.refl _ _,i0⟩,?_⟩;rintro i m τ2 H2 ⟨rfl,n,σ2,j,o,r,c,z⟩;have l:=hJ i j H2 r c (S i σ2 j n z) n
 by_cases hlt:i<b.length
 ·obtain⟨Y,T⟩:=l.2 _ (eQ hlt);refine .inr ⟨Y,fun τ' a=>i+1<=b.length/\∃ σ' G',RSt X.K a σ' τ'/\RH X.K G' a/\TK X.K L a/\I _ σ' G',fun σ' a q=>⟨b.length - _,by omega,rfl,q.1,q.2⟩,λx H3 V=>?_⟩;obtain⟨rx,N,g⟩:=T x H3 V;obtain⟨σ',F,h3⟩:=u i _ σ2 j (eQ hlt) z;refine b57 rx (o.mono g) F fun τ' C _ _=>⟨σ',j,_,rt,nx,_,C,N,h3,?_,u2.mono ((k.trans c).trans g),R.mono ((k.trans c).trans g),?_⟩
  ·exact fun σ4 v τ4 W s d f y=>⟨hlt,σ4,v,d,f,(c.trans g).trans y,s⟩
  ·exact fun σ4 v τ4 W s d f y=>⟨hlt,σ4,v,d,f,(c.trans g).trans y,s⟩
 ·have e:i=b.length:=by omega
  subst e;exact .inl ⟨l.1 rfl,R _ _ _ _ (E σ2 j z) o r (k.trans c)⟩⟩
section
variable {X:Cx}{tg l:Expr}{tl:E3}
noncomputable def wkL (x:Z) (G:Hq) (R:List Z->(Hq->Prop)->Hq->Prop):Prop:=match x with
 | .ref a=>∃ ws,G a=some (.lst ws)/\R ws (λG=>G a=some (.lst ws)) G
 | .scr _ ns=>R (ns.map Z.int) (λ_=>True) G
 | _=>False
noncomputable def iL (tl:E3):I3:=fun σ G R=>tl σ G λx G1=>wkL x G1 R
theorem b0N {K:Fg}:a7i K ws (λG=>G a=some (.lst ws)) (Itl K a) H:=λi G H c t g m=>by
 obtain⟨b,e,f⟩:=c a _ g;refine⟨λh=>⟨b,SqL.of e,by rw[<- f.length,h];exact eB _⟩,λw j=>?_⟩;obtain⟨v,d,k⟩:=f.get j;refine⟨⟨b,v,SqL.of e,d⟩,?_⟩;rintro x l ⟨rfl,y⟩
 have:=y b (SqL.of e)
 rw[d]at this;cases this;exact⟨k,c,.refl _ _⟩
theorem b11 {K:Fg}{ns:List Int}(f:Fz K H0 a (ns.map V.int)):a7i K (ns.map Z.int) (λ_=>True) (Itl K a) H0:=λi G H g t m l=>by
 have b:=(t.frz _ _ f).sq;have c:Reps K H _ _:=a37 ns;refine⟨λh=>⟨_,b,by rw[<- c.length,h];exact eB _⟩,λw j=>?_⟩;obtain⟨v,d,e⟩:=c.get j;refine⟨⟨_,v,b,d⟩,?_⟩;rintro x k ⟨rfl,y⟩
 have:=y _ b
 rw[d]at this;cases this;exact⟨e,g,.refl _ _⟩
theorem a0C (hl:QE X l tl):QI X tg l (iL tl):=a85 (b5I hl.p) fun τ H s k=>k.un fun σ G R i j h f=>by
 refine⟨σ,G,_,i,j,h,λw q v o c b d g=>?_⟩;cases w with
 | ref a=>
  obtain⟨r,e,c⟩:=c;obtain⟨m,n,_⟩:=d a _ e;exact⟨a,b,⟨m,SqL.of n⟩,f _ _ _ _ _ c b0N d g⟩
 | scr a ns=>
  exact⟨a,b.1,⟨_,b.2.sq⟩,f _ _ _ _ _ c (b11 b.2) d g⟩
 | _=>exact eC c
noncomputable def wkT (x:Z) (G:Hq) (R:List Z->(Hq->Prop)->Hq->Prop):Prop:=match x with
 | .tup ws=>R ws (λ_=>True) G
 | _=>False
noncomputable def iT (tl:E3):I3:=fun σ G R=>tl σ G λx G1=>wkT x G1 R
theorem b12 {K:Fg}(e:H0 a=some (.tup vs)) (rs:Reps K H0 ws vs):a7i K ws (λ_=>True) (Itt K a) H0:=λi G H f t ok hi=>by
 have e:=t.tup _ _ e;have rs:=rs.mono t;refine⟨λh=>⟨vs,SqT.of e,by rw[<- rs.length,h];exact eB _⟩,λw g=>?_⟩;obtain⟨v,c,d⟩:=rs.get g;refine⟨⟨vs,v,SqT.of e,c⟩,?_⟩;rintro x H' ⟨rfl,y⟩
 have:=y vs (SqT.of e)
 rw[c]at this;cases this;exact⟨d,f,.refl _ _⟩
theorem b8e (hl:QE X l tl):QI X tg l (iT tl):=a85 (b7u hl.p) fun τ H o j=>j.un fun σ G R m i h n=>by
 refine⟨σ,G,_,m,i,h,λw r v q d c b k=>?_⟩;cases w with
 | tup ws=>
  obtain⟨a,g,rfl,e,f⟩:=c;exact⟨a,rfl,⟨g,SqT.of e⟩,n _ _ _ _ _ d (b12 e f) b k⟩
 | _=>exact eC d
noncomputable def rng (lo:Int):Nat->List Z
 | 0=>[]
 | n+1=>.int lo::rng (lo+1) n
theorem a3i:∀ (lo:Int) (n:Nat),(rng lo n).length=n
 | _,0=>rfl
 | lo,n+1=>by rw[rng,eF,a3i]
theorem a5I:∀ {lo:Int}{n i:Nat}{w:Z},(rng lo n)[i]?=some w->i<n/\w=.int (lo+i)
 | _,0,_,_,h=>by simp[rng]at h
 | lo,n+1,0,w,h=>by simp[rng]at h;exact⟨by omega,by rw[<- h];simp⟩
 | lo,n+1,i+1,w,h=>by
  have:=a5I (by simpa[rng]using h)
  refine⟨by omega,?_⟩;rw[this.2]
  congr 1
  omega
theorem a75 {K:Fg}{lo:Int}:a7i K (rng lo n) (λ_=>True) (Itr lo n) H0:=λi G H b t e g=>by
 rw[a3i];refine⟨λh=>by rw[h];exact eB _,λw d=>?_⟩;obtain⟨a,c⟩:=a5I d;refine⟨a,?_⟩;rintro x f ⟨rfl,rfl⟩;exact⟨by rw[c,a0u],b,.refl _ _⟩
variable {t:A3}
noncomputable def iR1 (t:A3):I3:=fun σ G R=>t σ G λws G1=>∃ j:Int,ws=[.int j]/\-(2 ^ 62)<=j/\j<2 ^ 62/\R (rng 0 j.toNat) (λ_=>True) G1
noncomputable def iR2 (t:A3):I3:=fun σ G R=>t σ G λws G1=>∃ i j:Int,ws=[.int i,.int j]/\(-(2 ^ 62)<=i/\i<2 ^ 62/\-(2 ^ 62)<=j/\j<2 ^ 62)/\R (rng i (j - i).toNat) (λ_=>True) G1
theorem b13 (h:PI X tg wi (b7v (lowA X.K t))):QI X tg wi (iR1 t):=a85 h fun τ H p g=>g.un fun σ G R i d h l=>by
 refine⟨σ,G,_,i,d,h,λq o n s ⟨j,e,a,b,k⟩ f c m=>?_⟩;subst e;obtain⟨v,rfl,r⟩:=f.one;subst r;exact⟨j,rfl,a,b,l _ _ _ _ _ k a75 c m⟩
theorem b14 (h:PI X tg wi (b7w (lowA X.K t))):QI X tg wi (iR2 t):=a85 h fun τ H q g=>g.un fun σ G R l f h n=>by
 refine⟨σ,G,_,l,f,h,λo w p s ⟨i,j,e,a,m⟩ d b k=>?_⟩;subst e;obtain⟨v,u,rfl,r,c⟩:=d.two;subst r c;exact⟨i,j,rfl,a,n _ _ _ _ _ m a75 b k⟩
end
section
variable {X:Cx}{tg a b:Expr}{p pos:Pos}{t:A3}
theorem b0O (hg:Gl X "range") (hm:X.mg "range"=none) (ha:QA X [a] t) (hs:jE [a] X.env=[(false,eval a X.env)]:=by rfl):QI X tg (.Call (.Name "range" p) [a] [] pos) (iR1 t):=b13 (b1l hg hm ha.p hs)
theorem a6K (hg:Gl X "range") (hm:X.mg "range"=none) (ha:QA X [a,b] t) (hs:jE [a,b] X.env=[(false,eval a X.env),(false,eval b X.env)]:=by rfl) (hs2:jE [b] X.env=[(false,eval b X.env)]:=by rfl):QI X tg (.Call (.Name "range" p) [a,b] [] pos) (iR2 t):=b14 (b1m hg hm ha.p hs hs2)
end
noncomputable def cap3 (cap:List (Option Nat)) (σ:S3):S3:=cap.map λo=>o.bind λj=>(σ[j]?).join
theorem a86 {K:Fg}(h:RSt K H σ τ):∀ cap:List (Option Nat),RSt K H (cap3 cap σ) (a4D cap τ)
 | []=>.nil
 | none::cap=>.cons (λ_ e=>nomatch e) (a86 h cap)
 | some j::cap=>.cons (λw e=>by
   have a:(σ[j]?).join=some w:=e;have b:σ[j]?=some (some w):=by
    cases q:σ[j]? with
    | none=>rw[q]at a;cases a
    | some o=>rw[q]at a;cases o with
     | none=>cases a
     | some z=>cases a;rfl
   obtain⟨v,c,r⟩:=h.get b;exact⟨v,by show (τ[j]?).join=some v;rw[c];rfl,r⟩) (a86 h cap)
theorem a4I:∀ {a b:L2.St},b.length=a.length->(∀ (i:Nat) v,a[i]?=some (some v)->b[i]?=some (some v))->a2A a b
 | [],[],_,_=>True.intro
 | none::a,_::b,h,k=>a4I (b:=b) (by simpa using h) λi v e=>by simpa using k (i+1) v (by simpa using e)
 | some x::a,y::b,h,k=>⟨by simpa using k 0 x rfl,a4I (b:=b) (by simpa using h) λi v e=>by simpa using k (i+1) v (by simpa using e)⟩
 | [],_::_,h,_=>by simp at h
 | _::_,[],h,_=>by simp at h
noncomputable def LCB (ws:List Z) (ok:Hq->Prop) (cap:List (Option Nat)) (pt:Pt) (tt:T3) (te:E3) (σ:S3) (R:K3) (D:Addr) (G1:Hq):Prop:=∃ I:Nat->List Z->Hq->Prop,I 0 [] (put G1 D (.lst []))/\(∀ i ys G,i<=ws.length->I i ys G->ok G) /\
 (∀ i x ys G,ws[i]?=some x->I i ys G->∃ σ',a5H pt x (cap3 cap σ)=some σ'/\tt σ' G λb G4=>if b=true then te σ' G4 λy G5=>G5 D=some (.lst ys)/\ys.length<jC/\I (i+1) (ys++[y]) (put G5 D (.lst (ys++[y]))) else I (i+1) ys G4) /\
 ∀ ys G,I ws.length ys G->R (.ref D) G
noncomputable def uLC (wi:I3) (cap:List (Option Nat)) (pt:Pt) (tt:T3) (te:E3):E3:=fun σ G R=>wi σ G λws ok G1=>∀ D,G1 D=none->LCB ws ok cap pt tt te σ R D G1
theorem b15 (I:Nat->List Z->Hq->Prop) (h0:I 0 [] (put G1 D (.lst []))) (hok:∀ i ys G,i<=ws.length->I i ys G->ok G)
  (step:∀ i x ys G,ws[i]?=some x->I i ys G->∃ σ',a5H pt x (cap3 cap σ)=some σ'/\tt σ' G λb G4=>if b=true then te σ' G4 λy G5=>G5 D=some (.lst ys)/\ys.length<jC/\I (i+1) (ys++[y]) (put G5 D (.lst (ys++[y]))) else I (i+1) ys G4)
  (fin:∀ ys G,I ws.length ys G->R (.ref D) G):LCB ws ok cap pt tt te σ R D G1:=⟨I,h0,hok,step,fin⟩
theorem a1c {α β:Type}{f:α->Option β}{ws:List α}{x:α}(h:ws[i]?=some x):(ws.take (i+1)).filterMap f=(ws.take i).filterMap f++(f x).toList:=by
 rw[fq,List.filterMap_append,h];cases e:f x<;>simp[e]
theorem a87 (f:Z->Option Z) (hok:∀ ys,ok (put G1 D (.lst ys))) (hz:ws.length<=1000)
  (turn:∀ x,x∈ws->∀ (ys:List Z) (K1:K3) (K2:Hq->Prop),(∀ y,f x=some y->K1 y (put G1 D (.lst ys)))->(f x=none->K2 (put G1 D (.lst ys)))->∃ σ',a5H pt x (cap3 cap σ)=some σ'/\tt σ' (put G1 D (.lst ys)) λb G4=>if b=true then te σ' G4 K1 else K2 G4)
  (fin:R (.ref D) (put G1 D (.lst (ws.filterMap f)))):LCB ws ok cap pt tt te σ R D G1:=by
 refine⟨λi a G=>a=(ws.take i).filterMap f/\G=put G1 D (.lst a),⟨by simp,rfl⟩,?_,?_,?_⟩
 ·simp_all
 ·rintro i x a G c ⟨e,rfl⟩;refine turn x (eR c) a _ _ (λy g=>⟨a0e,?_,?_,?_⟩) λd=>⟨?_,rfl⟩
  ·rw[e];exact gG (eM (gj _ _) (by rw[eL];omega)) (a0z (eB 1000))
  ·rw[a1c c,g,e];rfl
  ·rw[a26]
  ·rw[a1c c,d,e];simp
 ·simp_all
noncomputable def QIfs (X:Cx) (ifs:List Expr) (t:T3):Prop:=PIfs X ifs (lowT X.K t)
noncomputable def uTT:T3:=λ_ G R=>R true G
theorem a3H:QIfs X [] uTT:=λa s τ H Q I ⟨σ,G,R,d,b,h,c⟩=>b3O a s τ H Q I (c _ _ _ h b (.refl _ _))
theorem a1f (h:QT X c t):QIfs X [c] t:=b3P h.p
theorem b58 {pt:Pt}(hc:(pt.slots.all λj=>decide (cap[j]?=some none))=true) (h:(a4D cap τ)[i]?=some (some v)):i∉pt.slots:=λa=>by
 have q:=of_decide_eq_true ((fV.mp hc) i a);unfold a4D at h;rw[eK,q]at h;cases h
theorem b4Z {K:Fg}(hc:(pt.slots.all λj=>decide (cap[j]?=some none))=true) (h:low K (uLC wi cap pt tt te) τ H Q) :
  tLC (lowI K wi) cap (gP K pt) (lowT K tt) (low K te) τ H Q:=by
 obtain⟨σ,G,R,hs,hg,h,up⟩:=h;refine⟨σ,G,_,hs,hg,h,λc ok G1 J H1 h1 hJ t U D B=>?_⟩;obtain⟨I,i0,S,C,N⟩:=h1 D (t.out B);refine⟨λi m _ d=>m=c.length - i/\i<=c.length/\∃ a G',RH K G' d/\TK K H1 d/\I i a G',⟨c.length,by simp,e8 _,[],_,t.set (o:=.lst []) (.new B) ⟨[],a0x,.nil⟩,.new B,i0⟩,?_⟩;rintro i m vs H2 ⟨rfl,w,a,f,p,g,E⟩;have n:=hJ i f H2 p g (S i a f w E) w
 by_cases hlt:i<c.length
 ·obtain⟨go,yl⟩:=n.2 _ (eQ hlt);refine .inr ⟨go,λ_ d=>i+1<=c.length/\∃ a G',RH K G' d/\TK K H1 d/\I _ a G',λvs' d q=>⟨c.length - _,by omega,rfl,q.1,q.2⟩,λx H3 y3=>?_⟩;obtain⟨rx,aa,F⟩:=yl x H3 y3;obtain⟨σ',Y,h3⟩:=C i _ a f (eQ hlt) E;refine b57 rx (a86 (hs.mono ((U.trans g).trans F)) cap) Y fun τ' z M hk'=>⟨a4I M λj v T=>by rw[hk' j (b58 hc T)];exact T,?_⟩;refine⟨σ',f,_,z,aa,h3,λb G4 H4 l u A=>?_⟩;cases b with
  | false=>
   exact⟨hlt,a,G4,u,(g.trans F).trans A,l⟩
  | true=>
   refine⟨σ',G4,_,z.mono A,u,l,λy G5 v5 H5 ⟨L,V,h5⟩ r5 r t5=>?_⟩;obtain⟨X,k,s⟩:=r D _ L;refine⟨X,k,by rw[<- s.length];exact V,hlt,_,_,r.set (.lst k) (a2C (s.append (.cons r5 .nil)) (.lst k)),?_,h5⟩;exact (((g.trans F).trans A).trans t5).trans (.lst k)
 ·have e:i=c.length:=by omega
  subst e;exact .inl ⟨n.1 rfl,up _ _ _ _ (N a f E) (by rw[a0O]) p (U.trans g)⟩
section
variable {X:Cx}{N':List Str}{sc:Scope}{cap:List (Option Nat)}{tg iter elt:Expr}{ifs:List Expr}{wi:I3}{pt:Pt}{tt:T3}{te:E3}{pos:Pos}
theorem q_lc (hc:X.calm=true) (hNN:X.N=N₀) (hso:X.env.scope=so) (ck:capB N₀ so sc N' cap=true) (hp:(pt.slots.all λj=>decide (cap[j]?=some none))=true) (hi:QI X tg iter wi)
  (hg:∀ C s H fp,QP (cxC X E0 N' sc C s H fp) tg pt) (ht:∀ C s H fp,QIfs (cxC X E0 N' sc C s H fp) ifs tt) (he:∀ C s H fp,QE (cxC X E0 N' sc C s H fp) elt te)
  (hs:∀ x,kl iter X.env x=pure x:=by intro _;rfl):QE X (.ListComp elt [⟨tg,iter,ifs,0⟩] sc pos) (uLC wi cap pt tt te):=⟨a1E (c0f (g:=gP X.K pt) (tt:=lowT X.K tt) hc a9N hNN hso ck hi hg ht (λC s H a=>(he C s H a).p) hs) λ_ _ _=>b4Z hp⟩
theorem a88 (hN:X.N.Nodup) (hx:X.N[i]?=some x) (hl:X.env.scope.names.lookup x=some .local) (hc:X.calm=true) (hNN:X.N=N₀) (hso:X.env.scope=so) (ck:capB N₀ so sc N' cap=true)
  (hp:(pt.slots.all λj=>decide (cap[j]?=some none))=true) (hi:QI X tg iter wi)
  (hg:∀ C s H fp,QP (cxC X E0 N' sc C s H fp) tg pt) (ht:∀ C s H fp,QIfs (cxC X E0 N' sc C s H fp) ifs tt) (he:∀ C s H fp,QE (cxC X E0 N' sc C s H fp) elt te)
  (hsw:kf (.ListComp elt [⟨tg,iter,ifs,0⟩] sc pos) (some (.Name x pos')) spos.line X.env=pure true:=by rfl)
  (hs:∀ x,kl iter X.env x=pure x:=by intro _;rfl):QS X (.Assign [.Name x pos'] (.ListComp elt [⟨tg,iter,ifs,0⟩] sc pos) spos) (uAsg (uLC wi cap pt tt te) (.nm i)):=⟨a4G (b3R (g:=gP X.K pt) (tt:=lowT X.K tt) hN hx hl hc a9N hNN hso ck hi hg ht (λC s H a=>(he C s H a).p) hsw hs) λD τ H h=>b4Z hp (a84 h)⟩
end
section
variable {P:jH}{w:World}{K:Fg}{mg:Str->Option Value}{base:Heap}
theorem fn3 {st:Stmt}(F:Fun K x qual st f fd) (S:FnScope N ps (a0f st)) (len:∀ ws G R,sp ws G R->ws.length=ps.length)
  (hbody:∀ (cdv:Value) (A:Around) (outer:List Env) (s:Shared) (H:Hp) (E:XK) (ws:List Z) (G:Hq) (R:K3),Room k (A.deeper (envOfC qual (a0f st) s.heap.objs.size f cdv))->sp ws G R ->
   ∃ t,QSs (cxOf CX0 P w K mg base N qual (a0f st) f cdv A outer s H E).nox (a2c st) t/\t (λ_ G'=>R .non G') R (λ_ _=>False) (λ_ _=>False) (a43 N ws) G):FnOk P w K mg base CX0 (k+1) f fd ps (lowP K sp):=by
 refine F.ok S (λn H Q E ⟨d,G,R,c,e,h,b⟩=>by rw[<- c.length];exact len _ _ _ h) ?_;rintro g A a s H n Q E j ⟨d,G,R,c,e,h,b⟩;obtain⟨t,l,q⟩:=hbody g A a s H E d G R j h;exact⟨_,l.p,a43 N d,G,_,R,_,_,.start c,e,q,fun σ' v τ' u m r i o=>b _ _ _ _ m (by rw[a01]) i o,b,λ_ _ _ _ h _ _ _=>h.elim,λ_ _ _ _ h _ _ _=>h.elim⟩
end
section
variable {X:Cx}
noncomputable def zAdd:R3:=λx y G R=>match x,y with
 | .int i,.int j=>R (.int (i+j)) G
 | .str a,.str b=>a.length+b.length<=jC/\R (.str (a++b)) G
 | .tup xs,.tup ys=>xs≠[]/\xs.length+ys.length<=jC/\R (.tup (xs++ys)) G
 | .ref p,.ref q=>∃ xs ys,G p=some (.lst xs)/\G q=some (.lst ys)/\xs.length+ys.length<=jC/\∀ t,G t=none->R (.ref t) (put G t (.lst (xs++ys)))
 | _,_=>False
theorem a1a:OpQ X (jR .Add) zAdd:=a7g (op_add.or (op_add_str.or (op_catT.or b7N))) λx y H Q D=>D.un λa b G R c d f h m=>by
 cases a with
 | int i=>
  cases b with
  | int j=>rw[a0u]at c d;exact .inl ⟨_,_,c,d,m _ _ _ _ h (by rw[a0u]) f (.refl _ _)⟩
  | _=>exact eC h
 | str i=>
  cases b with
  | str j=>rw[a0I]at c d;exact .inr (.inl ⟨_,_,c,d,h.1,m _ _ _ _ h.2 (by rw[a0I]) f (.refl _ _)⟩)
  | _=>exact eC h
 | tup w=>
  cases b with
  | tup ws=>
   obtain⟨p,n,rfl,o,k⟩:=c;obtain⟨q,r,rfl,u,l⟩:=d;obtain⟨B,s,h⟩:=h;refine .inr (.inr (.inl ⟨p,q,n,r,rfl,rfl,SqT.of o,SqT.of u,λz=>?_,by rw[<- k.length,<- l.length];exact s,λz=>?_,λz t g=>?_⟩))
   ·subst z;exact B (iu.mp k.length)
   ·subst z;have e:=iu.mp l.length;subst e;rw[eW]at h;exact m _ _ _ _ h (by rw[a25];exact⟨p,n,rfl,o,k⟩) f (.refl _ _)
   ·exact m _ _ _ _ h (by rw[a25];exact⟨t,n++r,rfl,a0x,Reps.mono (.new g) _ _ (k.append l)⟩) (f.hid g) (.new g)
  | _=>exact eC h
 | ref p=>
  cases b with
  | ref q=>
   subst c d;obtain⟨n,r,o,u,s,h⟩:=h;obtain⟨C,A,k⟩:=f _ _ o;obtain⟨w,v,l⟩:=f _ _ u;exact .inr (.inr (.inr ⟨_,_,C,w,rfl,rfl,A,v,by rw[<- k.length,<- l.length];exact s,λt g=>m _ _ _ _ (h t (f.out g)) (by rw[a0O]) (f.set (.new g) (a2C (k.append l) (.new g))) (.new g)⟩))
  | _=>exact eC h
 | _=>exact eC h
noncomputable def zI (C:Int->Int->Prop) (g:Int->Int->Z):R3:=λx y G R=>match x,y with
 | .int i,.int j=>C i j/\R (g i j) G
 | _,_=>False
noncomputable def zI0 (g:Int->Int->Z):R3:=λx y G R=>match x,y with
 | .int i,.int j=>R (g i j) G
 | _,_=>False
theorem oI {g:Int->Int->Int}(h:OpR X f (rI C λi j=>.int (g i j))):OpQ X f (zI C λi j=>.int (g i j)):=a7g h λx y H Q l=>l.un λa b G R d c k h e=>by
 cases a<;>cases b<;>first
  | exact eC h
  | (rw[a0u]at d c;exact⟨_,_,d,c,h.1,e _ _ _ _ h.2 (by rw[a0u]) k (.refl _ _)⟩)
theorem oI0 {g:Int->Int->Int}(h:OpR X f (rI0 λi j=>.int (g i j))):OpQ X f (zI0 λi j=>.int (g i j)):=a7g h λx y H Q l=>l.un λa b G R d c k h e=>by
 cases a<;>cases b<;>first
  | exact eC h
  | (rw[a0u]at d c;exact⟨_,_,d,c,e _ _ _ _ h (by rw[a0u]) k (.refl _ _)⟩)
theorem a7j:OpQ X (jR .Sub) (zI0 λi j=>.int (i - j)):=oI0 b7y
theorem b0P:OpQ X (jR .Mult) (zI CMul λi j=>.int (i*j)):=oI b7z
theorem a5J:OpQ X (jR .FloorDiv) (zI b7Z λi j=>.int (i / j)):=oI b3S
theorem a0T:OpQ X (jR .Mod) (zI (λ_ j=>0<j) λi j=>.int (i % j)):=oI b7A
theorem a4J:OpQ X (jR .Pow) (zI CPow λi j=>.int (i ^ j.toNat)):=oI b7B
theorem b40:OpQ X (ki .Add) (zI0 λi j=>.int (i+j)):=oI0 b5J
noncomputable def zNeg:Z->Hq->K3->Prop:=λx G R=>match x with
 | .int i=>R (.int (-i)) G
 | _=>False
theorem a3I:UnQ X (kS .USub) zNeg:=c0g b7C λx H Q c=>c.un λa G R b d h e=>by
 cases a<;>first
  | exact eC h
  | (rw[a0u]at b;exact⟨_,b,e _ _ _ _ h (by rw[a0u]) d (.refl _ _)⟩)
theorem b16:OpR X (jL .LtE) (λx y H Q=>∃ i j,x=.str i/\y=.str j/\Q (.bl (!decide (j.cps.toList<i.cps.toList))) H):=by
 intro b s σ H x y v u Q I a c h;obtain⟨i,j,rfl,rfl,q⟩:=h;obtain⟨t,rfl⟩:=a;obtain⟨d,rfl⟩:=c;exact PySem.P.le_str (a0D I q rfl)
theorem b17:OpR X (jL .Gt) (λx y H Q=>∃ i j,x=.str i/\y=.str j/\Q (.bl (decide (j.cps.toList<i.cps.toList))) H):=by
 intro b s σ H x y v u Q I a c h;obtain⟨i,j,rfl,rfl,q⟩:=h;obtain⟨t,rfl⟩:=a;obtain⟨d,rfl⟩:=c;exact PySem.P.gt_str (a0D I q rfl)
noncomputable def zC (f:Int->Int->Bool) (g:Str->Str->Bool):R3:=λx y G R=>match x,y with
 | .int i,.int j=>R (.bl (f i j)) G
 | .str i,.str j=>R (.bl (g i j)) G
 | _,_=>False
theorem oC (h:OpR X (jL op) (rI0 λi j=>.bl (f i j))) (h':OpR X (jL op) (λx y H Q=>∃ i j,x=.str i/\y=.str j/\Q (.bl (g i j)) H)) :
  OpQ X (jL op) (zC f g):=a7g (h.or h') λx y H Q l=>l.un λa b G R c d e h k=>by
 cases a<;>cases b<;>first
  | exact eC h
  | (rw[a0u]at c d;exact .inl ⟨_,_,c,d,k _ _ _ _ h (by rw[a0W]) e (.refl _ _)⟩)
  | (rw[a0I]at c d;exact .inr ⟨_,_,c,d,k _ _ _ _ h (by rw[a0W]) e (.refl _ _)⟩)
abbrev ltS (x y:Str):Bool:=decide (x.cps.toList<y.cps.toList)
theorem o_lt:OpQ X (jL .Lt) (zC (λi j=>decide (i<j)) λx y=>ltS x y):=oC b91 b1s
theorem o_le:OpQ X (jL .LtE) (zC (λi j=>decide (i<=j)) λx y=>!ltS y x):=oC b92 b16
theorem o_gt:OpQ X (jL .Gt) (zC (λi j=>decide (j<i)) λx y=>ltS y x):=oC b93 b17
noncomputable def zIs (neg:Bool):R3:=λx y G R=>match y with
 | .non=>R (.bl (if neg then !decide (x=.non) else decide (x=.non))) G
 | .bl b=>match x with
  | .bl a=>neg=false/\R (.bl (a==b)) G
  | _=>False
 | _=>False
theorem a6L {K:Fg}(r:Rep K H w v):decide (v=.non)=decide (w=.non):=by
 cases w with
 | non=>rw[a01]at r;subst r;rfl
 | bl _=>rw[a0W]at r;subst r;simp
 | int _=>rw[a0u]at r;subst r;simp
 | str _=>rw[a0I]at r;subst r;simp
 | ref _=>rw[a0O]at r;subst r;simp
 | ty _=>rw[b1U]at r;subst r;simp
 | scr _ _=>rw[a4F]at r;obtain⟨rfl,_⟩:=r;simp
 | tup _=>rw[a25]at r;obtain⟨_,_,rfl,_⟩:=r;simp
end
mutual
def dZ:Z->PyData
 | .bl b=>.bool b
 | .int i=>.int i
 | .str x=>.str x
 | .tup ws=>.tuple (dZs ws)
 | _=>.none
def dZs:List Z->List PyData
 | []=>[]
 | w::ws=>dZ w::dZs ws
end
noncomputable def flat:Nat->Z->Bool
 | _,.non=>true
 | _,.int _=>true
 | _,.str x=>PyData.strOk x
 | n+1,.tup ws=>ws.all (flat n)
 | _,_=>false
theorem b41:∀ (n:Nat) (d:Z),flat n d=true->(dZ d).canLay0=true/\(dZ d).depth<=n:=by
 have f:∀ n,(∀ d,flat n d=true->(dZ d).canLay0=true/\(dZ d).depth<=n)->∀ a:List Z,(∀ d∈a,flat n d=true)->PyData.canLayAll0 (dZs a)=true/\PyData.depthAll (dZs a)<=n:=by
  intro n b a
  induction a with
  | nil=>intro _;simp[dZs,PyData.canLayAll0,PyData.depthAll]
  | cons d a hi=>
   intro h;have g:=b d (h d (.head _));have c:=hi λe j=>h e (.tail _ j);simp only[dZs,PyData.canLayAll0,PyData.depthAll,g.1,c.1,Bool.and_self,true_and];omega
 intro n
 induction n with
 | zero=>
  intro d h;cases d<;>simp_all[flat,dZ,PyData.canLay0,PyData.depth]
 | succ n b=>
  intro d h;cases d with
  | non=>simp[dZ,PyData.canLay0,PyData.depth]
  | int i=>simp[dZ,PyData.canLay0,PyData.depth]
  | str x=>simp[flat]at h;simp[dZ,PyData.canLay0,PyData.depth,h]
  | tup a=>
   have q:=f n b a (by simpa[flat]using h);simp only[dZ,PyData.canLay0,PyData.depth,q.1,true_and];omega
  | _=>simp[flat]at h
theorem b59 (n:Nat) (ds:List Z) (h:ds.all (flat n)=true):PyData.canLayAll0 (dZs ds)=true/\PyData.depthAll (dZs ds)<=n:=by
 have q:=b41 (n+1) (.tup ds) (by simpa[flat]using h);simp only[dZ,PyData.depth]at q;exact⟨q.1,by omega⟩
theorem b42:∀ (n:Nat) (d e:Z) (k:Nat),flat n d=true->flat k e=true->(PyData.eqv (dZ d) (dZ e)=true↔d=e):=by
 have all:∀ (n:Nat),(∀ d e k,flat n d=true->flat k e=true->(PyData.eqv (dZ d) (dZ e)=true↔d=e))->∀ (k:Nat) (ds es:List Z),(∀ d∈ds,flat n d=true)->(∀ d∈es,flat k d=true) ->
   (PyData.eqvAll (dZs ds) (dZs es)=true↔ds=es):=by
  intro n ih k ds
  induction ds with
  | nil=>intro es _ _;cases es<;>simp[dZs,PyData.eqvAll]
  | cons d ds hi=>
   intro es h1 h2;cases es with
   | nil=>simp[dZs,PyData.eqvAll]
   | cons e es=>
    have q1:=ih d e k (h1 d (.head _)) (h2 e (.head _));have q2:=hi es (λx hx=>h1 x (.tail _ hx)) λx hx=>h2 x (.tail _ hx);simp only[dZs,PyData.eqvAll,fU,q1,q2,fO.injEq]
 intro n
 induction n with
 | zero=>
  intro d e k h1 h2;cases d<;>cases e<;>simp_all[flat,dZ,PyData.eqv]
 | succ n ih=>
  intro d e k h1 h2;cases d with
  | tup ds=>
   cases e with
   | tup es=>
    cases k with
    | zero=>simp[flat]at h2
    | succ k=>
     simp only[dZ,PyData.eqv,Z.tup.injEq];exact all n ih k ds es (by simpa[flat]using h1) (by simpa[flat]using h2)
   | _=>simp_all[flat,dZ,PyData.eqv]
  | _=>cases e<;>simp_all[flat,dZ,PyData.eqv]
theorem b6a (n k:Nat) (ds es:List Z) (h:ds.all (flat n)=true) (h':es.all (flat k)=true):PyData.eqvAll (dZs ds) (dZs es)=true↔ds=es:=by
 have q:=b42 (n+1) (.tup ds) (.tup es) (k+1) (by simpa[flat]using h) (by simpa[flat]using h');simpa only [dZ,PyData.eqv,Z.tup.injEq]using q
section
variable {K:Fg}{H:Hp}
theorem b6b:∀ (n:Nat) (w:Z) (v:V),flat n w=true->Rep K H w v->DV H (dZ w) v:=by
 have g:∀ n,(∀ w v,flat n w=true->Rep K H w v->DV H (dZ w) v)->∀ b c,(∀ d∈b,flat n d=true)->Reps K H b c->DVs H (dZs b) c:=by
  intro n f b
  induction b with
  | nil=>intro c _ r;exact r
  | cons w b hi=>
   intro c h r;obtain⟨v,j,e,o,l⟩:=r;exact⟨v,j,e,f w v (h w (.head _)) o,hi j (λd k=>h d (.tail _ k)) l⟩
 intro n
 induction n with
 | zero=>
  intro w v h r;cases w with
  | non=>rw[a01]at r;exact r
  | int i=>rw[a0u]at r;exact r
  | str x=>rw[a0I]at r;exact r
  | _=>simp[flat]at h
 | succ n f=>
  intro w v h r;cases w with
  | non=>rw[a01]at r;exact r
  | int i=>rw[a0u]at r;exact r
  | str x=>rw[a0I]at r;exact r
  | tup b=>
   obtain⟨a,c,e,p,m⟩:=r;exact⟨a,c,e,p,g n f b c (by simpa[flat]using h) m⟩
  | _=>simp[flat]at h
theorem b18 (n:Nat):∀ (ws:List Z) (vs:List V),ws.all (flat n)=true->Reps K H ws vs->DVs H (dZs ws) vs
 | [],vs,_,r=>by rw[a0w]at r;simp only[dZs];unfold DVs;exact r
 | w::ws,vs,h,r=>by
  obtain⟨v,a,e,b,c⟩:=r;rw[fP,fU]at h;exact⟨v,a,e,b6b n w v h.1 b,b18 n ws a h.2 c⟩
end
theorem a5K (h:flat n w=true) (hn:n<=64):SeqAt.shaped (dZ w)=true:=by
 have q:=b41 n w h;unfold SeqAt.shaped;rw[q.1,fg];exact decide_eq_true (by omega)
theorem a5L (h:ws.all (flat n)=true) (hn:n<=63):SeqAt.shaped (.list (dZs ws))=true:=by
 have q:=b59 n ws h;unfold SeqAt.shaped;simp only[PyData.canLay0,PyData.depth,q.1];exact decide_eq_true (by omega)
theorem b19 {p:Prop}[Decidable p] (h:a=true↔p):a=decide p:=by
 cases a with
 | true=>exact (decide_eq_true (h.mp rfl)).symm
 | false=>exact (decide_eq_false λq=>by cases h.mpr q).symm
theorem a02 {p q:Prop}[Decidable p] [Decidable q] (h:p=q):decide p=decide q:=by grind
noncomputable def zEq (f:Bool->Bool):R3:=λx y G R=>match x,y with
 | .bl a,.bl b=>R (.bl (f (a==b))) G
 | .int a,.int b=>R (.bl (f (decide (a=b)))) G
 | .str a,.str b=>R (.bl (f (decide (a=b)))) G
 | .ref p,.ref q=>∃ xs ys,G p=some (.lst xs)/\G q=some (.lst ys)/\xs.all (flat 8)=true/\ys.all (flat 8)=true/\R (.bl (f (decide (xs=ys)))) G
 | x,y=>flat 8 x=true/\flat 8 y=true/\R (.bl (f (decide (x=y)))) G
section
variable {X:Cx}
theorem b43 {K:Fg}(h:low2 K (zEq f) x y H Q) :
    (scal x y=true/\Q (.bl (f (decide (x=y)))) H)\/∃ d e,DV H d x/\DV H e y/\SeqAt.shaped d=true/\SeqAt.shaped e=true/\Q (.bl (f (PyData.eqv d e))) H:=by
  obtain⟨a,b,G,R,g,c,i,h,j⟩:=h;have p:flat 8 a=true/\flat 8 b=true/\R (.bl (f (decide (a=b)))) G->∃ d e,DV H d x/\DV H e y/\SeqAt.shaped d=true/\SeqAt.shaped e=true/\Q (.bl (f (PyData.eqv d e))) H:=λ⟨n,m,w⟩=>by
    refine⟨dZ a,dZ b,b6b 8 _ _ n g,b6b 8 _ _ m c,a5K n (by simp),a5K m (by simp),?_⟩;rw[b19 (b42 8 a b 8 n m)];exact j _ _ _ _ w (by rw[a0W]) i (.refl _ _)
  cases a<;>cases b<;>first
    | exact .inr (p h)
    | (rw[a0W]at g c;subst g c;exact .inl ⟨rfl,by rw[b1p];exact j _ _ _ _ h (by rw[a0W]) i (.refl _ _)⟩)
    | (rw[a0u]at g c;subst g c;exact .inl ⟨rfl,by rw[a02 (V.int.injEq _ _)];exact j _ _ _ _ h (by rw[a0W]) i (.refl _ _)⟩)
    | (rw[a0I]at g c;subst g c;exact .inl ⟨rfl,by rw[a02 (V.str.injEq _ _)];exact j _ _ _ _ h (by rw[a0W]) i (.refl _ _)⟩)
    | (rw[a0O]at g c
       subst g c;obtain⟨r,s,t,z,k,l,h⟩:=h;obtain⟨u,q,v⟩:=i _ _ t;obtain⟨B,o,A⟩:=i _ _ z;refine .inr ⟨.list _,.list _,?_,?_,a5L k (by simp),a5L l (by simp),?_⟩;exact⟨_,u,rfl,q,b18 8 _ _ k v⟩;exact⟨_,B,rfl,o,b18 8 _ _ l A⟩
       · simp only[PyData.eqv]
         rw[b19 (b6a 8 8 r s k l)];exact j _ _ _ _ h (by rw[a0W]) i (.refl _ _))
theorem o_eq (hu:X.A.units+66<cLine):OpQ X (jL .Eq) (zEq id):=a7g (op_eq.or (b7X hu)) λx y H Q h=>b43 h
theorem o_ne (hu:X.A.units+66<cLine):OpQ X (jL .NotEq) (zEq not):=a7g (op_ne.or (b7Y hu)) λx y H Q h=>b43 h
end
end L3
namespace L2
open PySem PySem.Spec PyProof.Rows
noncomputable def Its (x:Str):It:=⟨λi _=>i<x.cps.size,λi H v H'=>H'=H/\∃ c,x.cps[i]?=some c/\v=.str ⟨#[c]⟩,λi _=>i=x.cps.size⟩
theorem a9R {P:jH}{w:World}{K:Fg}{tg:Expr}{it:Addr}{ty:String}{x:Str}{t:Tok}
  (hty:["enumerate","zip","dict_itemiterator","dict_reverseitemiterator","odict_iterator","itertools.zip_longest","itertools.pairwise"].contains ty=false)
  (W:∀ A':Around,A'.handled=none->Walks P w A' it [it] [it] x.cps.size (SignAt x) (λi h=>h.IsStrIter it ty x t i))
  (hself:∀ (A:Around) (i:Nat) (s:Shared) (Q:Value->Shared->Prop) (E:Value->Shared->Prop),s.heap.IsStrIter it ty x t i->Q (.ref it) s->wpAny (model P w) A (pyIter (.ref it)) Q E s) :
  Turn P w K tg (Its x) [it] it (λi h=>h.IsStrIter it ty x t i) where
 mem:=by simp
 obj:=λi h st b hb=>by
  have e:b=it:=by simpa using hb
  subst e;obtain⟨o,e,c,d⟩:=st;exact⟨o,e,λv z=>by rw[d]at z;cases z⟩
 keep:=λi h h' st k=>let ⟨o,e,r⟩:=st;⟨o,k it (by simp) o e,r⟩
 item:=by
  intro X hP hw hK hc i pins s σ H E I hf st hg;subst hP hw hK;obtain⟨f0,f1,f2,f3,f4,f5⟩:=hf it (by simp);refine (W X.A (I.ok.hd hc)).item i s _ _ hg st λv h' tk ⟨c,u,hx,e⟩ st' k=>?_;subst e;have I1:Inv X pins σ H { s with heap:=h',toks:=tk }:=I.turned (t':=tk) (λb o hb e=>k b o (by simpa using hb) e) f0 f1 f3 f4 f5;obtain⟨o,e,cl,d⟩:=id st';exact⟨_,rfl,b0A (s:={ s with heap:=h',toks:=tk }) e cl d hty ⟨.str ⟨#[c]⟩,H,I1,⟨_,rfl⟩,⟨rfl,c,hx,rfl⟩,st',λb hb=>(hf b hb).1⟩⟩
 done:=by
  intro X hP hw hK hc i pins s σ H E I hf st hg;subst hP hw hK;obtain⟨f0,f1,f2,f3,f4,f5⟩:=hf it (by simp);have hg':i=x.cps.size:=hg;subst hg';exact (W X.A (I.ok.hd hc)).done s _ _ st λh' tk k=>⟨rfl,I.turned (t':=tk) (λb o hb e=>k b o (by simpa using hb) e) f0 f1 f3 f4 f5⟩
 self:=hself
noncomputable def iStr (tl:TE):TI:=fun σ H R=>tl σ H λv H1=>∃ x,v=.str x/\R (Its x) H1
theorem b8f (hl:PE X l tl):PI X tg l (iStr tl):=by
 intro c s σ H R I h;refine thn (hl c s σ H _ I h) λv a ⟨x,f,d,p,m⟩=>?_;obtain⟨y,e,q⟩:=m;subst e;obtain⟨t,rfl⟩:=p;have j:∀ (o:Obj),∀ b∈[a.heap.objs.size],FpOk X c f b:=λo b k=>by
  have e:b=a.heap.objs.size:=by simpa using k
  subst e;exact d.fpOk (eB _) (d.hok.fresh (eB _))
 cases ha:y.cps.all _
 ·refine wpAny_pyIter_wide ha ?_;exact⟨a.heap.objs.size,[a.heap.objs.size],_,_,f,rfl,d.kept (λb o e=>Heap.get?_push_of_some _ e),a9R (by decide) (λn i=>Walks.strWide i _ y t) (λ_ _ _ _ _ g h=>wpAny_pyIter_striter_wide g h),
   ⟨_,Heap.get?_push_size _ rfl,rfl,rfl⟩,j default,q⟩
 ·refine wpAny_pyIter_ascii ha ?_;exact⟨a.heap.objs.size,[a.heap.objs.size],_,_,f,rfl,d.kept (λb o e=>Heap.get?_push_of_some _ e),a9R (by decide) (λn i=>Walks.strAscii i _ y t) (λ_ _ _ _ _ g h=>wpAny_pyIter_striter_ascii g h),
   ⟨_,Heap.get?_push_size _ rfl,rfl,rfl⟩,j default,q⟩
theorem Vals.tog:∀ {xs:List V}{us:List Value}{i:Nat}{u:Value},Vals xs us->us[i]?=some u->∃ x,xs[i]?=some x/\RelV x u
 | _,_,_,_,.nil,e=>by simp at e
 | _,_,0,_,.cons r _,e=>by simp at e;subst e;exact⟨_,rfl,r⟩
 | _,_,i+1,u,.cons _ t,e=>by
  obtain⟨x,a,b⟩:=Vals.tog t (by simpa using e);exact⟨x,by simpa using a,b⟩
theorem a6M:∀ {ys:List Str}{us:List Value},Vals (ys.map V.str) us->StrsAre us ys
 | [],us,r=>by rw[eX]at r;cases r;exact .nil
 | y::ys,us,r=>by
  cases r with
  | cons r1 r2=>
   obtain⟨t,e⟩:=r1;subst e;exact .cons y t (a6M r2)
theorem b2a (bs:List Bool):(fY bs.length).all (λi=>bs.getD i false)=bs.all id:=by
 rw[fZ];simp only[fV,gT,id]
 constructor
 ·intro h b c;obtain⟨i,a,e⟩:=List.getElem_of_mem c
  have:=h i a
  rw[i7,eQ a]at this;rw[<- e];exact this
 ·intro h i a;rw[i7,eQ a];exact h _ (fL a)
section
variable {X:Cx}
theorem b2b (hc:X.calm=true):CallR X (.builtin "all") (λxs H Q=>∃ (p:Addr) (bs:List Bool),xs=[.ref p]/\SqL X.K H p (bs.map V.bl)/\Q (.bl (bs.all id)) H):=by
 intro n s σ H M R Q I r h;obtain⟨p,a,rfl,E,q⟩:=h;obtain⟨u,rfl,y⟩:=a4C r;cases y;obtain⟨d,l,g,_⟩:=I.list E;have B:p<s.heap.objs.size:=by obtain⟨o,_,e,_⟩:=g;exact Heap.lt_size e
 refine call_all_walk (lD g.isList ?_);have D:X.A.in1.handled=none:=I.ok.hd hc;have t:(s.heap.push { cls:=.type "list_iterator",data:=.fields #[.ref p,rawInt 0] }).IsList p d.toArray:=by
  obtain⟨o,e,c⟩:=g.isList;exact⟨o,Heap.get?_push_of_some _ e,c⟩
 refine⟨_,_,_,_,_,_,λi=>a.getD i false,rfl,Walks.list D s.heap.objs.size p (eO B) d.toArray,⟨⟨_,Heap.get?_push_size _ rfl,rfl,rfl⟩,t⟩,?_,?_⟩
 ·intro i v N L J C j;obtain⟨x,f,w⟩:=Vals.tog l (by simpa using C);rw[eK]at f;cases hb:a[i]? with
  | none=>rw[hb]at f;cases f
  | some b=>
   rw[hb]at f;cases f;cases w;refine kh ?_
   have:a.getD i false=b:=by simp_all
   dsimp only at j;rw[this]at j;exact j
 ·intro G F k;have e:(fY d.toArray.size).all (λi=>a.getD i false)=a.all id:=by
   have z:d.toArray.size=a.length:=by rw[fk,<- l.length,er]
   rw[z];exact b2a a
  rw[e];exact⟨.bl _,H,I.kept (λb o m=>k b o (by simpa using eO (Heap.lt_size m)) (Heap.get?_push_of_some _ m)),rfl,q⟩
theorem b8g:OpR X (jL .Is) (λx y H Q=>∃ a b,x=.bl a/\y=.bl b/\Q (.bl (a==b)) H):=by
 intro d s σ H x y v u Q I c e h;obtain⟨a,b,rfl,rfl,q⟩:=h;cases c;cases e;exact wpAny_is_plain rfl (a0D I q (by cases a<;>cases b<;>rfl))
theorem b6c:MtR X "str.join" (λx vs H Q=>∃ (z:Str) (p:Addr) (ys:List Str),x=.str z/\vs=[.ref p]/\SqL X.K H p (ys.map V.str)/\(ys.map (·.length)).sum+ys.length*z.length<=16777216/\Q (.str (Txt.join z ys)) H):=by
 intro c s σ H x m v n Q I a g h;obtain⟨z,p,o,rfl,rfl,d,i,q⟩:=h;obtain⟨t,rfl⟩:=a;obtain⟨u,rfl,f⟩:=a4C g;cases f;obtain⟨j,b,e,_⟩:=I.list d;exact join_list e.isList (by simpa using a6M b) i λl k=>⟨.str _,H,I.tok k,⟨_,rfl⟩,q⟩
noncomputable def rSlS:V->Option Int->Option Int->Hp->VK->Prop:=λx lo hi H Q=>∃ z,x=.str z/\z.length<=jC/\Q (.str (Txt.slice z lo hi)) H
theorem b8h:SlR X rSlS:=by
 intro g s σ H x v A B f b C Q I w p y m h;obtain⟨z,rfl,r,q⟩:=h;obtain⟨t,rfl⟩:=w;obtain⟨o,e,c,d⟩:=p;have a:∀ f b,Q _ H->(Txt.slice z f b).length<=jC/\∀ n k,EP X g σ Q (.str (Txt.slice z f b) n) { s with toks:=k }:=λf b q=>
  ⟨eM (Txt.slice_le z _ _) r,λn k=>⟨.str _,H,I.tok k,⟨_,rfl⟩,q⟩⟩
 cases y with
 | none=>
  cases m with
  | none=>exact⟨"str",_,F.slot_str_getitem.lookup,kt _ _ _,lc (l:=none) (u:=none) (st:=none) ⟨o,e,c,d⟩ rfl (lf (a _ _ q))⟩
  | int j u=>exact⟨"str",_,F.slot_str_getitem.lookup,kt _ _ _,lc (l:=none) (u:=some (j,u)) (st:=none) ⟨o,e,c,d⟩ rfl (lf (a _ _ q))⟩
 | int i v=>
  cases m with
  | none=>exact⟨"str",_,F.slot_str_getitem.lookup,kt _ _ _,lc (l:=some (i,v)) (u:=none) (st:=none) ⟨o,e,c,d⟩ rfl (lf (a _ _ q))⟩
  | int j u=>exact⟨"str",_,F.slot_str_getitem.lookup,kt _ _ _,lc (l:=some (i,v)) (u:=some (j,u)) (st:=none) ⟨o,e,c,d⟩ rfl (lf (a _ _ q))⟩
end
end L2
namespace L3
open PySem PySem.Spec PyProof.Rows L2
section
variable {X:Cx}
theorem o_is:OpQ X (jL .Is) (zIs false):=a7g (op_isN.or b8g) λx y H Q g=>g.un λa b G R d c e h f=>by
 cases b with
 | non=>rw[a01]at c;exact .inl ⟨c,by rw[a6L d];exact f _ _ _ _ h (by rw[a0W];rfl) e (.refl _ _)⟩
 | bl b=>
  cases a with
  | bl a=>rw[a0W]at d c;exact .inr ⟨_,_,d,c,f _ _ _ _ h.2 (by rw[a0W]) e (.refl _ _)⟩
  | _=>exact eC h
 | _=>exact eC h
theorem a3J:OpQ X (jL .IsNot) (zIs true):=a7g b5K λx y H Q d=>d.un λa b G R g c e h f=>by
 cases b with
 | non=>rw[a01]at c;exact⟨c,by rw[a6L g];exact f _ _ _ _ h (by rw[a0W];rfl) e (.refl _ _)⟩
 | bl b=>
  cases a with
  | bl a=>exact nomatch h.1
  | _=>exact eC h
 | _=>exact eC h
noncomputable def zIx:R3:=λx y G R=>match x,y with
 | .ref p,.int i=>∃ ws w,G p=some (.lst ws)/\atI ws i=some w/\R w G
 | .scr _ ns,.int i=>∃ n,atI ns i=some n/\R (.int n) G
 | .tup ws,.int i=>∃ w,atI ws i=some w/\R w G
 | .str z,.int i=>∃ c,z.length<=jC/\atI z.cps.toList i=some c/\R (.str ⟨#[c]⟩) G
 | _,_=>False
theorem b2c {K:Fg}(r:Reps K H ws vs) (h:atI ws i=some w):∃ v,atI vs i=some v/\Rep K H w v:=by
 unfold atI at h ⊢;rw[<- r.length];cases e:ixN ws.length i with
 | none=>rw[e]at h;cases h
 | some j=>
  rw[e]at h;exact r.get h
theorem b6d {α β:Type}{f:α->β}{xs:List α}{x:α}(h:atI xs i=some x):atI (xs.map f) i=some (f x):=by
 unfold atI at h ⊢;rw[er];cases e:ixN xs.length i with
 | none=>rw[e]at h;cases h
 | some j=>
  rw[e]at h;have a:xs[j]?=some x:=h
  show _[j]?=some _
  rw[eK,a];rfl
theorem x_ix:IxQ X zIx:=c0h b7L λx y H Q s=>s.un λa b G R d f g h i=>by
  cases a<;>cases b<;>first
    | exact eC h
    | (rw[a0O]at d
       obtain⟨z,w,e,m,h⟩:=h;obtain⟨q,k,j⟩:=g _ _ e;obtain⟨v,o,l⟩:=b2c j m;exact .inl ⟨_,_,_,v,d,f,SqL.of k,o,i _ _ _ _ h l g (.refl _ _)⟩)
    | (rw[a4F]at d
       obtain⟨n,u,h⟩:=h;exact .inl ⟨_,_,_,_,d.1,f,d.2.sq,b6d u,i _ _ _ _ h (by rw[a0u]) g (.refl _ _)⟩)
    | (rw[a25]at d
       obtain⟨p,q,e,k,j⟩:=d;obtain⟨w,m,h⟩:=h;obtain⟨v,o,l⟩:=b2c j m;exact .inr (.inl ⟨p,q,_,v,e,f,SqT.of k,o,i _ _ _ _ h l g (.refl _ _)⟩))
    | (rw[a0I]at d
       obtain⟨c,r,t,h⟩:=h;exact .inr (.inr ⟨_,_,c,d,f,r,t,i _ _ _ _ h (by rw[a0I]) g (.refl _ _)⟩))
noncomputable def cutZ {α:Type}(xs:List α) (lo hi:Option Int):List α:=(xs.drop (HT.sIx xs.length 0 lo)).take (HT.sIx xs.length xs.length hi - HT.sIx xs.length 0 lo)
theorem b6e (xs:List V) (lo hi:Option Int):cutV xs lo hi=cutZ xs lo hi:=rfl
theorem a89 {α:Type}(xs:List α) (lo hi:Option Int):(cutZ xs lo hi).length<=xs.length:=by
 unfold cutZ;rw[eL,fm];omega
theorem Reps.cut {K:Fg}(r:Reps K H ws vs) (lo hi:Option Int):Reps K H (cutZ ws lo hi) (cutV vs lo hi):=by
 unfold cutZ cutV;rw[<- r.length];exact (r.drop _).take _
theorem b3Y {α β:Type}(f:α->β) (xs:List α) (lo hi:Option Int):cutZ (xs.map f) lo hi=(cutZ xs lo hi).map f:=by
 unfold cutZ;rw[er,i8,List.map_drop]
noncomputable def zSl:L3r:=λx lo hi G R=>match x with
 | .ref p=>∃ ws,G p=some (.lst ws)/\∀ t,G t=none->R (.ref t) (put G t (.lst (cutZ ws lo hi)))
 | .scr _ ns=>∀ t,G t=none->R (.ref t) (put G t (.lst ((cutZ ns lo hi).map Z.int)))
 | .tup ws=>¬ (HT.sIx ws.length 0 lo=0/\HT.sIx ws.length ws.length hi=ws.length)/\R (.tup (cutZ ws lo hi)) G
 | .str z=>z.length<=jC/\R (.str (Txt.slice z lo hi)) G
 | _=>False
theorem x_sl:SlQ X zSl:=c0i (sl_list.or (sl_tup.or b8h)) λx l k H Q m=>m.un λa G R c d h g=>by
 cases a with
 | ref p=>
  obtain⟨n,e,h⟩:=h;obtain⟨j,i,f⟩:=d _ _ e;exact .inl ⟨p,j,c,SqL.of i,λt b=>g _ _ _ _ (h t (d.out b)) (by rw[a0O]) (d.set (.new b) (a2C (f.cut l k) (.new b))) (.new b)⟩
 | scr p ns=>
  refine .inl ⟨p,_,c.1,c.2.sq,λt b=>?_⟩;rw[b6e,b3Y];exact g _ _ _ _ (h t (d.out b)) (by rw[a0O]) (d.set (.new b) (a2C (a37 _) (.new b))) (.new b)
 | tup n=>
  obtain⟨p,j,e,i,f⟩:=c;exact .inr (.inl ⟨p,j,e,SqT.of i,by rw[<- f.length];exact h.1,λt b=>g _ _ _ _ h.2 (by rw[a25];exact⟨t,_,rfl,a0x,(f.cut l k).mono (.new b)⟩) (d.hid b) (.new b)⟩)
 | str z=>
  exact .inr (.inr ⟨z,c,h.1,g _ _ _ _ h.2 (by rw[a0I]) d (.refl _ _)⟩)
 | _=>exact eC h
noncomputable def zSet:Z3:=λo i v G R=>match o,i with
 | .ref p,.int k=>∃ ws j,G p=some (.lst ws)/\ixN ws.length k=some j/\R (put G p (.lst (ws.set j v)))
 | _,_=>False
theorem c0l:SetQ X zSet:=b4X b3G λo i v H Q p=>p.un λa b w G R f g l k h q=>by
  cases a<;>cases b<;>first
    | exact eC h
    | (rw[a0O]at f
       obtain⟨r,j,e,m,h⟩:=h;obtain⟨n,c,d⟩:=k _ _ e;exact⟨_,n,_,j,f,g,c,by rw[<- d.length];exact m,q _ _ h (k.set (.lst c) (a2C (d.set l j) (.lst c))) (.lst c)⟩)
noncomputable def zLen:List Z->Hq->K3->Prop:=λxs G R=>match xs with
 | [.str z]=>z.length<=jC/\R (.int z.length) G
 | [.ref p]=>∃ ws,G p=some (.lst ws)/\R (.int ws.length) G
 | [.tup ws]=>R (.int ws.length) G
 | [.scr _ ns]=>R (.int ns.length) G
 | _=>False
theorem b_len:a3G X (.builtin "len") zLen:=a1V b3x λl H Q k=>k.un λj G R c a h d=>by
 match j,h with
 | [.str z],h=>
  obtain⟨v,rfl,r⟩:=c.one;exact⟨v,z.length,rfl,by rw[r];exact⟨h.1,rfl⟩,d _ _ _ _ h.2 (by rw[a0u]) a (.refl _ _)⟩
 | [.ref p],h=>
  obtain⟨v,rfl,r⟩:=c.one;obtain⟨i,e,h⟩:=h;obtain⟨g,f,b⟩:=a _ _ e;exact⟨v,i.length,rfl,by rw[r];exact .inl ⟨g,SqL.of f,b.length⟩,d _ _ _ _ h (by rw[a0u]) a (.refl _ _)⟩
 | [.tup i],h=>
  obtain⟨v,rfl,r⟩:=c.one;obtain⟨p,g,e,f,b⟩:=r;exact⟨v,i.length,rfl,by rw[e];exact .inr ⟨g,SqT.of f,b.length⟩,d _ _ _ _ h (by rw[a0u]) a (.refl _ _)⟩
 | [.scr p ns],h=>
  obtain⟨v,rfl,r⟩:=c.one;exact⟨v,ns.length,rfl,by rw[r.1];exact .inl ⟨_,r.2.sq,(er ..).symm⟩,d _ _ _ _ h (by rw[a0u]) a (.refl _ _)⟩
noncomputable def zMM (f:Int->Int->Int):List Z->Hq->K3->Prop:=λxs G R=>match xs with
 | [.int i,.int j]=>R (.int (f i j)) G
 | _=>False
theorem bMM {id:String}(hf:CallR X (.builtin id) (λxs H Q=>∃ i j,xs=[.int i,.int j]/\Q (.int (f i j)) H)):a3G X (.builtin id) (zMM f):=a1V hf λl H Q d=>d.un λc G R e b h g=>by
 match c,h with
 | [.int i,.int j],h=>
  obtain⟨v,k,rfl,r,a⟩:=e.two;exact⟨i,j,by rw[r,a],g _ _ _ _ h (by rw[a0u]) b (.refl _ _)⟩
theorem b_max (hc:X.calm=true):a3G X (.builtin "max") (zMM λi j=>if j > i then j else i):=bMM (b1u hc)
theorem b_min (hc:X.calm=true):a3G X (.builtin "min") (zMM λi j=>if j<i then j else i):=bMM (b1v hc)
noncomputable def zAll:List Z->Hq->K3->Prop:=λxs G R=>match xs with
 | [.ref p]=>∃ bs:List Bool,G p=some (.lst (bs.map Z.bl))/\R (.bl (bs.all id)) G
 | _=>False
theorem a9S {K:Fg}:∀ {bs:List Bool}{vs:List V},Reps K H (bs.map Z.bl) vs->vs=bs.map V.bl
 | [],vs,h=>by rw[eX,a0w]at h;subst h;rfl
 | n::ns,vs,h=>by
  obtain⟨v,r,rfl,a,b⟩:=h;rw[a,a9S b];rfl
theorem a76 {K:Fg}:∀ {bs:List Str}{vs:List V},Reps K H (bs.map Z.str) vs->vs=bs.map V.str
 | [],vs,h=>by rw[eX,a0w]at h;subst h;rfl
 | n::ns,vs,h=>by
  obtain⟨v,r,rfl,a,b⟩:=h;rw[a,a76 b];rfl
theorem b_all (hc:X.calm=true):a3G X (.builtin "all") zAll:=a1V (b2b hc) λl H Q f=>f.un λd G R c a h j=>by
 match d,h with
 | [.ref p],h=>
  obtain⟨v,rfl,r⟩:=c.one;obtain⟨g,e,h⟩:=h;obtain⟨k,i,b⟩:=a _ _ e
  have:=a9S b
  subst this;exact⟨p,g,by rw[r],SqL.of i,j _ _ _ _ h (by rw[a0W]) a (.refl _ _)⟩
noncomputable def kit0 (n T:String):Option Bool:=if (Value.type n==Value.type T)=true then some true else if PySem.W.kitMeta T=true then (PySem.fastBuiltinMro n).map (·.contains (.type T)) else none
theorem b8i {K:Fg}:PySem.W.kitOne K (.type n) (.type T)=kit0 n T:=rfl
noncomputable def tyN (G:Hq):Z->Option String
 | .non=>some "NoneType"
 | .bl _=>some "bool"
 | .int _=>some "int"
 | .str _=>some "str"
 | .tup _=>some "tuple"
 | .ref p=>match G p with
  | some (.lst _)=>some "list"
  | some (.dK _)=>some "dict"
  | _=>none
 | _=>none
noncomputable def zIsT:List Z->Hq->K3->Prop:=λxs G R=>match xs with
 | [x,.ty T]=>∃ n b,tyN G x=some n/\kit0 n T=some b/\R (.bl b) G
 | _=>False
theorem b3Z {K:Fg}(h:tyN G x=some n) (r:Rep K H x v) (hg:RH K G H):TyOf K H v (.type n):=by
 cases x with
 | non=>rw[a01]at r;subst r;cases h;exact .non
 | bl _=>rw[a0W]at r;subst r;cases h;exact .bl _
 | int _=>rw[a0u]at r;subst r;cases h;exact .int _
 | str _=>rw[a0I]at r;subst r;cases h;exact .str _
 | tup ws=>rw[a25]at r;obtain⟨a,c,rfl,e,_⟩:=r;cases h;exact .tup e
 | ref p=>
  subst r;cases e:G p with
  | none=>simp[tyN,e]at h
  | some o=>
   cases o with
   | lst ws=>simp[tyN,e]at h;subst h;obtain⟨c,b,_⟩:=hg _ _ e;exact .lst b
   | dK kvs=>simp[tyN,e]at h;subst h;obtain⟨c,b,_⟩:=hg _ _ e;exact .dK b
   | ins C dx fs=>simp[tyN,e]at h
   | dF kvs=>simp[tyN,e]at h
   | dT ks=>simp[tyN,e]at h
 | ty _=>cases h
 | scr _ _=>cases h
theorem b6f:a3G X (.builtin "isinstance") zIsT:=a1V b3T λl H Q g=>g.un λf G R d a h i=>by
 match f,h with
 | [x,.ty T],h=>
  obtain⟨v,j,rfl,r,c⟩:=d.two;obtain⟨n,b,e,k,h⟩:=h;exact⟨v,T,.type n,b,by rw[c],b3Z e r a,by rw[b8i];exact k,i _ _ _ _ h (by rw[a0W]) a (.refl _ _)⟩
noncomputable def a7k:Z->List Z->Hq->K3->Prop:=λx xs G R=>match x,xs with
 | .ref p,[y]=>∃ ws,G p=some (.lst ws)/\ws.length<jC/\R .non (put G p (.lst (ws++[y])))
 | _,_=>False
theorem a16:MtQ X "list.append" a7k:=b0K a7V λx n H Q j=>j.un λw k G R c f d h l=>by
 match w,k,h with
 | .ref p,[y],h=>
  obtain⟨v,rfl,r⟩:=f.one;obtain⟨m,e,g,h⟩:=h;obtain⟨i,a,b⟩:=d _ _ e;exact⟨p,i,v,c,rfl,a,by rw[<- b.length];exact g,l _ _ _ _ h (by rw[a01]) (d.set (.lst a) (a2C (b.append (.cons r .nil)) (.lst a))) (.lst a)⟩
noncomputable def b2d:Z->List Z->Hq->K3->Prop:=λx xs G R=>match x,xs with
 | .ref p,[.ref q]=>∃ ws ys,G p=some (.lst ws)/\G q=some (.lst ys)/\ws.length+ys.length<=jC/\R .non (put G p (.lst (ws++ys)))
 | _,_=>False
theorem b30:MtQ X "list.extend" b2d:=b0K b1I λx u H Q m=>m.un λw n G R d i f h s=>by
 match w,n,h with
 | .ref p,[.ref q],h=>
  obtain⟨v,rfl,r⟩:=i.one;obtain⟨t,y,e,k,j,h⟩:=h;obtain⟨l,a,c⟩:=f _ _ e;obtain⟨o,g,b⟩:=f _ _ k;exact⟨p,q,l,o,d,by rw[r],a,g,by rw[<- c.length,<- b.length];exact j,s _ _ _ _ h (by rw[a01]) (f.set (.lst a) (a2C (c.append b) (.lst a))) (.lst a)⟩
noncomputable def b8j:Z->List Z->Hq->K3->Prop:=λx xs G R=>match x,xs with
 | .str z,[.ref p]=>∃ ys:List Str,G p=some (.lst (ys.map Z.str))/\(ys.map (·.length)).sum+ys.length*z.length<=16777216/\R (.str (Txt.join z ys)) G
 | _,_=>False
theorem b8k:MtQ X "str.join" b8j:=b0K b6c λx n H Q i=>i.un λw f G R a j b h l=>by
 match w,f,h with
 | .str z,[.ref p],h=>
  obtain⟨v,rfl,r⟩:=j.one;obtain⟨g,e,k,h⟩:=h;obtain⟨m,d,c⟩:=b _ _ e
  have:=a76 c
  subst this;exact⟨z,p,g,a,by rw[r],SqL.of d,k,l _ _ _ _ h (by rw[a0I]) b (.refl _ _)⟩
noncomputable def b8l:E3:=λ_ G R=>∀ p,G p=none->R (.ref p) (put G p (.dK []))
theorem b8m:QE X (.Dict [] [] pos) b8l:=⟨a1E b3K fun τ H Q ⟨σ,G,R,d,b,h,c⟩ p a=>c _ _ _ _ (h p (b.out a)) (by rw[a0O]) (b.set (.new a) ⟨[],a0x,rfl,.nil⟩) (.new a)⟩
noncomputable def a5b (x:Str):List Z:=x.cps.toList.map λc=>.str ⟨#[c]⟩
noncomputable def wkS (x:Z) (G:Hq) (R:List Z->(Hq->Prop)->Hq->Prop):Prop:=match x with
 | .str z=>R (a5b z) (λ_=>True) G
 | _=>False
noncomputable def iS (tl:E3):I3:=fun σ G R=>tl σ G λx G1=>wkS x G1 R
theorem b2e {K:Fg}:a7i K (a5b x) (λ_=>True) (Its x) H0:=λi G H f t j k=>by
 have e:(a5b x).length=x.cps.size:=by unfold a5b;rw[er,gc]
 refine⟨λh=>by rw[h,e];rfl,λw a=>?_⟩;unfold a5b at a;rw[eK]at a;cases hc:x.cps.toList[i]? with
 | none=>rw[hc]at a;cases a
 | some c=>
  rw[hc]at a;cases a;have b:x.cps[i]?=some c:=by simp_all
  refine⟨(g7.mp b).1,?_⟩;rintro v l ⟨rfl,g,d,rfl⟩;rw[b]at d;cases d;exact⟨by rw[a0I],f,.refl _ _⟩
theorem b8n (hl:QE X l tl):QI X tg l (iS tl):=a85 (b8f hl.p) fun τ H j g=>g.un fun σ G R f e h i=>by
 refine⟨σ,G,_,f,e,h,λw m v k a c b d=>?_⟩;cases w with
 | str x=>
  exact⟨x,c,i _ _ _ _ _ a b2e b d⟩
 | _=>exact eC a
end
section
variable {σ:S3}{G:Hq}{R:K3}{Rb:Bool->Hq->Prop}{Ra:List Z->Hq->Prop}{nx bk ct:C3}{rt:K3}{t u:X3}{te ta tb tc to ti:E3}{c d:T3}{al:A3}{r r':R3}{w x y:Z}{i:Nat}
theorem c0m (e:σ[i]?=some (some w)) (h:R w G):uVar i σ G R:=⟨w,e,h⟩
theorem i_c (h:R w G):uC w σ G R:=h
theorem i_op (h:ta σ G λx G1=>tb σ G1 λy G2=>r x y G2 R):uOp r ta tb σ G R:=h
theorem i_un {r:Z->Hq->K3->Prop}(h:ta σ G λx G1=>r x G1 R):uUn r ta σ G R:=h
theorem b8o (h:ta σ G λx G1=>∃ k,x=.bl k/\Rb k G1):b3W ta σ G Rb:=h
theorem b6g (h:ta σ G λx G1=>tb σ G1 λy G2=>r x y G2 λz G3=>∃ k,z=.bl k/\(if k=true then tc σ G3 λw G4=>r' y w G4 R else R (.bl false) G3)):b1W r r' ta tb tc σ G R:=h
theorem c0n (h:c σ G λk G1=>if k=true then d σ G1 Rb else Rb false G1):uAnd c d σ G Rb:=h
theorem i_or (h:c σ G λk G1=>if k=true then Rb true G1 else d σ G1 Rb):uOr c d σ G Rb:=h
theorem c0o (h:c σ G λk G1=>Rb (!k) G1):uNot c σ G Rb:=h
theorem b8p (h:ta σ G λx G1=>∃ c,x=.bl c/\if c=true then tb σ G1 R else R (.bl false) G1):b74 ta tb σ G R:=h
theorem c0p (h:ta σ G λx G1=>∃ c,x=.bl c/\if c=true then R (.bl true) G1 else tb σ G1 R):uOrV ta tb σ G R:=h
theorem i_if (h:c σ G λk G1=>if k=true then ta σ G1 R else tb σ G1 R):uIf c ta tb σ G R:=h
theorem c0q (h:ta σ G λx G1=>tru x G1 Rb):uTru ta σ G Rb:=h
theorem b44 (e:G p=some (.lst ws)) (h:Rb (!ws.isEmpty) G):tru (.ref p) G Rb:=.inl ⟨ws,e,h⟩
theorem i_sl {r:L3r}(h:te σ G λx G1=>tl σ G1 λl G2=>th σ G2 λu G3=>r x l u G3 R):uSl r te tl th σ G R:=h
theorem b31 (h:Ro none G):b1Z σ G Ro:=h
theorem b8q (h:te σ G λx G1=>∃ i,x=.int i/\Ro (some i) G1):b76 te σ G Ro:=h
theorem c0r (h:Ra [] G):uNil σ G Ra:=h
theorem b8r (h:ta σ G λx G1=>al σ G1 λxs G2=>Ra (x::xs) G2):b77 ta al σ G Ra:=h
theorem c0s (h:al σ G λxs G1=>xs.length<=jC/\R (.tup xs) G1):uTup al σ G R:=h
theorem c0t (h:al σ G λxs G1=>xs.length<=jC/\∀ p,G1 p=none->R (.ref p) (put G1 p (.lst xs))):uLst al σ G R:=h
theorem i_cb {r:List Z->Hq->K3->Prop}(h:al σ G λws G1=>r ws G1 R):uCB r al σ G R:=h
theorem i_bm {r:Z->List Z->Hq->K3->Prop}(h:to σ G λx G1=>tyZ T x G1/\al σ G1 λxs G2=>r x xs G2 R):uBM T r to al σ G R:=h
theorem b8s (h:al σ G λws G1=>sp ws G1 R):b78 sp al σ G R:=h
theorem b8t (h:nx σ G):b79 nx rt bk ct σ G:=h
theorem c0u (h:t (u nx rt bk ct) rt bk ct σ G):uSeq t u nx rt bk ct σ G:=h
theorem b8u (h:te σ G λ_ G1=>nx σ G1):b8a te nx rt bk ct σ G:=h
theorem c0v (h:te σ G rt):uRet te nx rt bk ct σ G:=h
theorem c0w (h:c σ G λb G1=>if b=true then t nx rt bk ct σ G1 else u nx rt bk ct σ G1):uIfS c t u nx rt bk ct σ G:=h
theorem c0x (h:te σ G λx G1=>∃ σ',a5H pt x σ=some σ'/\nx σ' G1):uAsg te pt nx rt bk ct σ G:=h
theorem c0y {r:Z3}(h:te σ G λw G1=>to σ G1 λo G2=>ti σ G2 λi G3=>r o i w G3 λG4=>nx σ G4):uPut te to ti r nx rt bk ct σ G:=h
theorem c0z (e:σ[i]?=some (some x)) (h:te σ G λy G1=>r x y G1 λz G2=>nx (σ.set i (some z)) G2):uAug i te r nx rt bk ct σ G:=⟨x,e,h⟩
theorem a77 (M:C3) (h:t M rt bk ct σ G) (h':∀ σ' G',M σ' G'->u nx rt bk ct σ' G'):uCut t u nx rt bk ct σ G:=⟨M,h,h'⟩
theorem b8v (h:R (.int (a+b)) G):zAdd (.int a) (.int b) G R:=h
theorem a9T (z:a.length+b.length<=jC) (h:R (.str (a++b)) G):zAdd (.str a) (.str b) G R:=⟨z,h⟩
theorem b45 (e:xs≠[]) (z:xs.length+ys.length<=jC) (h:R (.tup (xs++ys)) G):zAdd (.tup xs) (.tup ys) G R:=⟨e,z,h⟩
theorem b8w (e:G p=some (.lst xs)) (e':G q=some (.lst ys)) (z:xs.length+ys.length<=jC) (h:∀ t,G t=none->R (.ref t) (put G t (.lst (xs++ys)))):zAdd (.ref p) (.ref q) G R:=⟨xs,ys,e,e',z,h⟩
theorem i_I (k:C a b) (h:R (g a b) G):zI C g (.int a) (.int b) G R:=⟨k,h⟩
theorem i_I0 (h:R (g a b) G):zI0 g (.int a) (.int b) G R:=h
theorem c0A (h:R (.int (-a)) G):zNeg (.int a) G R:=h
theorem i_CI (h:R (.bl (f a b)) G):zC f g (.int a) (.int b) G R:=h
theorem i_CS (h:R (.bl (g a b)) G):zC f g (.str a) (.str b) G R:=h
theorem b6h (h:R (.bl (decide (x=.non))) G):zIs false x .non G R:=h
theorem b8x (h:R (.bl (!decide (x=.non))) G):zIs true x .non G R:=h
theorem b8y (h:R (.bl (f (decide (a=b)))) G):zEq f (.int a) (.int b) G R:=h
theorem c0B (h:R (.bl (f (decide (a=b)))) G):zEq f (.str a) (.str b) G R:=h
theorem b6i (e:G p=some (.lst xs)) (e':G q=some (.lst ys)) (f1:xs.all (flat 8)=true) (f2:ys.all (flat 8)=true) (h:R (.bl (f (decide (xs=ys)))) G):zEq f (.ref p) (.ref q) G R:=⟨xs,ys,e,e',f1,f2,h⟩
theorem a1q (e:G p=some (.lst ws)) (a:atI ws k=some w) (h:R w G):zIx (.ref p) (.int k) G R:=⟨ws,w,e,a,h⟩
theorem c0C (a:atI ns k=some n) (h:R (.int n) G):zIx (.scr p ns) (.int k) G R:=⟨n,a,h⟩
theorem a2e (a:atI ws k=some w) (h:R w G):zIx (.tup ws) (.int k) G R:=⟨w,a,h⟩
theorem b2f (l:z.length<=jC) (a:atI z.cps.toList k=some ch) (h:R (.str ⟨#[ch]⟩) G):zIx (.str z) (.int k) G R:=⟨ch,l,a,h⟩
theorem b8z {lo hi:Option Int}(l:z.length<=jC) (h:R (.str (Txt.slice z lo hi)) G):zSl (.str z) lo hi G R:=⟨l,h⟩
theorem c0D {lo hi:Option Int}(e:G p=some (.lst ws)) (h:∀ t,G t=none->R (.ref t) (put G t (.lst (cutZ ws lo hi)))):zSl (.ref p) lo hi G R:=⟨ws,e,h⟩
theorem c0E {lo hi:Option Int}(h:∀ t,G t=none->R (.ref t) (put G t (.lst ((cutZ ns lo hi).map Z.int)))):zSl (.scr p ns) lo hi G R:=h
theorem b2g {lo hi:Option Int}(n:¬ (HT.sIx ws.length 0 lo=0/\HT.sIx ws.length ws.length hi=ws.length)) (h:R (.tup (cutZ ws lo hi)) G):zSl (.tup ws) lo hi G R:=⟨n,h⟩
theorem c0F (e:G p=some (.lst ws)) (a:ixN ws.length k=some j) (h:Rg (put G p (.lst (ws.set j w)))):zSet (.ref p) (.int k) w G Rg:=⟨ws,j,e,a,h⟩
theorem b8A (h:∀ p,G p=none->R (.ref p) (put G p (.dK []))):b8l σ G R:=h
theorem b2h (l:z.length<=jC) (h:R (.int z.length) G):zLen [.str z] G R:=⟨l,h⟩
theorem a5M (e:G p=some (.lst ws)) (h:R (.int ws.length) G):zLen [.ref p] G R:=⟨ws,e,h⟩
theorem b8B (h:R (.int ns.length) G):zLen [.scr p ns] G R:=h
theorem i_mm (h:R (.int (f a b)) G):zMM f [.int a,.int b] G R:=h
theorem c0G {bs:List Bool}(e:G p=some (.lst (bs.map Z.bl))) (h:R (.bl (bs.all id)) G):zAll [.ref p] G R:=⟨bs,e,h⟩
theorem a1R (e:G p=some (.lst ws)) (z:ws.length<jC) (h:R .non (put G p (.lst (ws++[y])))):a7k (.ref p) [y] G R:=⟨ws,e,z,h⟩
theorem b32 (e:G p=some (.lst ws)) (e':G q=some (.lst ys)) (z:ws.length+ys.length<=jC) (h:R .non (put G p (.lst (ws++ys)))):b2d (.ref p) [.ref q] G R:=⟨ws,ys,e,e',z,h⟩
theorem b8C (e:G p=some (.lst (ys.map Z.str))) (l:(ys.map (·.length)).sum+ys.length*z.length<=16777216) (h:R (.str (Txt.join z ys)) G):b8j (.str z) [.ref p] G R:=⟨ys,e,l,h⟩
theorem c0H {P:Prop}(h:P):tyZ "str" (.str z) G/\P:=⟨rfl,h⟩
theorem a4K {P:Prop}(e:G p=some (.lst ws)) (h:P):tyZ "list" (.ref p) G/\P:=⟨.inl ⟨rfl,ws,e⟩,h⟩
theorem i_nm (h:nx (σ.set j (some w)) G):∃ σ',a5H (.nm j) w σ=some σ'/\nx σ' G:=⟨_,rfl,h⟩
theorem b8D {tb:X3}(h:wi σ G λws ok G1=>FORB ws ok pt tb nx rt σ G1):uFor wi pt tb nx rt bk ct σ G:=h
theorem c0I (h:wi σ G λws ok G1=>∀ D,G1 D=none->LCB ws ok cap pt tt te σ R D G1):uLC wi cap pt tt te σ G R:=h
variable {Ri:List Z->(Hq->Prop)->Hq->Prop}
theorem i_iL (h:te σ G λx G1=>wkL x G1 Ri):iL te σ G Ri:=h
theorem i_iT (h:te σ G λx G1=>wkT x G1 Ri):iT te σ G Ri:=h
theorem i_iS (h:te σ G λx G1=>wkS x G1 Ri):iS te σ G Ri:=h
theorem c0J (h:al σ G λws G1=>∃ j:Int,ws=[.int j]/\-(2 ^ 62)<=j/\j<2 ^ 62/\Ri (rng 0 j.toNat) (λ_=>True) G1):iR1 al σ G Ri:=h
theorem c0K (h:al σ G λws G1=>∃ i j:Int,ws=[.int i,.int j]/\(-(2 ^ 62)<=i/\i<2 ^ 62/\-(2 ^ 62)<=j/\j<2 ^ 62)/\Ri (rng i (j - i).toNat) (λ_=>True) G1):iR2 al σ G Ri:=h
theorem a1r (e:G p=some (.lst ws)) (h:Ri ws (λG=>G p=some (.lst ws)) G):wkL (.ref p) G Ri:=⟨ws,e,h⟩
theorem c0L (h:Ri ws (λ_=>True) G):wkT (.tup ws) G Ri:=h
theorem c0M (h:Ri (a5b z) (λ_=>True) G):wkS (.str z) G Ri:=h
theorem i_tt (h:Rb true G):uTT σ G Rb:=h
end
theorem ifD {p A B:Prop}[Decidable p] (h1:p->A) (h2:¬ p->B):if decide p=true then A else B:=by simp_all
theorem ifN {p A B:Prop}[Decidable p] (h1:¬ p->A) (h2:p->B):if (!decide p)=true then A else B:=by simp_all
theorem ifB {A B:Prop}(h1:b=true->A) (h2:b=false->B):if b=true then A else B:=by simp_all
theorem ifNB {A B:Prop}(h1:b=false->A) (h2:b=true->B):if (!b)=true then A else B:=by grind
theorem ifT {A B:Prop}(h:A):if true=true then A else B:=by rw[if_pos rfl];exact h
theorem ifF {A B:Prop}(h:B):if false=true then A else B:=by rw[if_neg (by decide)];exact h
theorem ifNN {A B:Prop}(h:A):if decide (Z.non=Z.non)=true then A else B:=by simp_all
theorem ifNI {A B:Prop}(h:B):if decide (Z.int i=Z.non)=true then A else B:=by rw[if_neg (by simp)];exact h
theorem ifMN {A B:Prop}(h:B):if (!decide (Z.non=Z.non))=true then A else B:=by rw[if_neg (by simp)];exact h
theorem ifMI {A B:Prop}(h:A):if (!decide (Z.int i=Z.non))=true then A else B:=by rw[if_pos (by simp)];exact h
theorem ifMS {A B:Prop}(h:A):if (!decide (Z.str i=Z.non))=true then A else B:=by rw[if_pos (by simp)];exact h
theorem at0 {α:Type}{a:α}{r:List α}:atI (a::r) 0=some a:=a2w (j:=0) rfl
theorem at1 {α:Type}{a b:α}{r:List α}:atI (a::b::r) 1=some b:=a2w (j:=1) rfl
theorem at2 {α:Type}{a b c:α}{r:List α}:atI (a::b::c::r) 2=some c:=a2w (j:=2) rfl
noncomputable def Sm (G G':Hq):Prop:=∀ b o,G b=some o->G' b=some o
theorem Sm.refl (G:Hq):Sm G G:=λ_ _ h=>h
theorem Sm.trans (a:Sm G G1) (b:Sm G1 G2):Sm G G2:=λc o h=>b c o (a c o h)
theorem Sm.get (s:Sm G G') (h:G b=some o):G' b=some o:=s b o h
theorem Sm.new (h:G p=none):Sm G (put G p o):=λ_ _ e=>a0m e h
theorem Sm.free (s:Sm G G') (h:G' p=none):G p=none:=by
 cases e:G p with
 | none=>rfl
 | some o=>rw[s p o e]at h;cases h
noncomputable def Kq (r:Addr) (G G':Hq):Prop:=∀ b o,G b=some o->b≠r->G' b=some o
theorem Kq.refl (r:Addr) (G:Hq):Kq r G G:=λ_ _ h _=>h
theorem Kq.trans (a:Kq r G G1) (b:Kq r G1 G2):Kq r G G2:=λc o h n=>b c o (a c o h n) n
theorem Kq.new (h:G p=none):Kq r G (put G p o):=λ_ _ e _=>a0m e h
theorem Kq.at:Kq r G (put G r o):=λ_ _ e n=>by rw[a0H n];exact e
theorem Sm.put (s:Sm G G') (h:G p=none):Sm G (put G' p o):=λb u e=>by rw[a0H (a0R e h)];exact s b u e
end L3
set_option maxHeartbeats 4000000
namespace Tim
open PySem PyProof.Rows
abbrev KF:=Keyed->Int
noncomputable def Kk (κ:KF) (xs:Array Keyed) (i:Nat):Int:=match xs[i]? with
 | some p=>κ p
 | none=>0
section
variable {κ:KF}{xs ys:Array Keyed}{i j:Nat}{p:Keyed}
theorem a9a (h:xs[i]?=some p):Kk κ xs i=κ p:=by unfold Kk;rw[h]
theorem a5N (h:xs[i]?=ys[j]?):Kk κ xs i=Kk κ ys j:=by unfold Kk;rw[h]
end
noncomputable def LtOk (M:Model) (A:Around) (E:Value->Shared->Prop) (s:Shared) (κ:KF) (k0:j0) (ajj:Array Keyed):Prop:=
 ∀ x y,x∈ajj.toList->y∈ajj.toList->∀ (st:SortSt) (Q:Option Bool->SortSt->Prop),kindOf st=k0->Q (some (decide (κ x<κ y))) st->wpS M A E s (lt' x y) Q st
structure TB (k0:j0) (ajj:Array Keyed) (st:SortSt):Prop where
 pm:(arrOf st).Perm ajj
 kd:kindOf st=k0
 fl:jX st=none
theorem TB.sz {st:SortSt}(h:TB k0 ajj st):(arrOf st).size=ajj.size:=h.pm.size_eq
theorem TB.mem {st:SortSt}(h:TB k0 ajj st) {i:Nat}(e:(arrOf st)[i]?=some p):p∈ajj.toList:=by
 have a:p∈(arrOf st).toList:=by rw[iU];exact Array.mem_of_getElem? e
 exact (g9.mp h.pm).mem_iff.mp a
theorem TB.arr {st:SortSt}(h:TB k0 ajj st) (hp:xs.Perm (arrOf st)):TB k0 ajj (setArr st xs):=⟨hp.trans h.pm,h.kd,h.fl⟩
section
variable {M:Model}{A:Around}{E:Value->Shared->Prop}{s:Shared}{κ:KF}{k0:j0}{ajj:Array Keyed}{st:SortSt}
theorem a03 (e:arr[i]?=some p) (h:Q p st):wpS M A E s (elem' arr i) Q st:=by
 rw[elem'_eq,e];exact jF h
theorem a78 (L:LtOk M A E s κ k0 ajj) (B:TB k0 ajj st) (hi:i<ajj.size) (hj:j<ajj.size)
  (h:Q (some (decide (Kk κ (arrOf st) i<Kk κ (arrOf st) j))) st):wpS M A E s (ltAt' i j) Q st:=by
 have b:_[i]?=some ((arrOf st)[i]'(by rw[B.sz];exact hi)):=getElem?_pos ..;have a:(arrOf st)[j]?=some ((arrOf st)[j]'(by rw[B.sz];exact hj)):=getElem?_pos ..;refine jD (j1 ?_);refine jD (a03 b (jD (a03 a ?_)));refine L _ _ (B.mem b) (B.mem a) st Q B.kd ?_;rw[a9a b,a9a a]at h;exact h
end
noncomputable def a2f:Bool->Keyed->Array Keyed->Nat->Nat->Nat->StateT SortSt Sem (Option Nat):=sortPriv% PySem.Builtin.gallop
noncomputable def bey (lft:Bool) (ky:Keyed) (ar:Array Keyed) (bs:Nat) (q:Nat):StateT SortSt Sem (Option Bool):=do
  let z <- elem' ar (bs+q)
  if lft then lt' z ky else return (<- lt' ky z).map (!·)
theorem b0Q (lft:Bool) (ky:Keyed) (ar:Array Keyed) (bs n hnt:Nat):a2f lft ky ar bs n hnt=(do
 let mut lst:=0
 let mut oo:=1
 let mut l:=0
 let mut h:=0
 let some rgt <- bey lft ky ar bs hnt | return none
 if rgt then
  let mx:=n - hnt
  for _ in [0:n] do
   if oo>=mx then break
   let some mo <- bey lft ky ar bs (hnt+oo) | return none
   if !mo then break
   lst:=oo
   oo:=2*oo+1
  l:=hnt+lst+1
  h:=hnt+min oo mx
 else
  let mx:=hnt+1
  for _ in [0:n] do
   if oo>=mx then break
   let some fo <- bey lft ky ar bs (hnt - oo) | return none
   if fo then break
   lst:=oo
   oo:=2*oo+1
  l:=hnt+1 - min oo mx
  h:=hnt - lst
 for _ in [0:n] do
  if l>=h then break
  let m:=l+(h - l) / 2
  let some mo <- bey lft ky ar bs m | return none
  if mo then l:=m+1 else h:=m
 return some h):=rfl
noncomputable def bq (lft:Bool) (k x:Int):Bool:=if lft then decide (x<k) else !decide (k<x)
section
variable {M:Model}{A:Around}{E:Value->Shared->Prop}{s:Shared}{κ:KF}{k0:j0}{ajj:Array Keyed}{st:SortSt}
theorem b2i (L:LtOk M A E s κ k0 ajj) (hk:kindOf st=k0) (hm:ky∈ajj.toList) (ha:∀ p∈ar.toList,p∈ajj.toList) (hq:bs+q<ar.size)
  (h:Q (some (bq lft (κ ky) (Kk κ ar (bs+q)))) st):wpS M A E s (bey lft ky ar bs q) Q st:=by
 have b:ar[bs+q]?=some (ar[bs+q]'hq):=getElem?_pos ..;have a:ar[bs+q]∈ajj.toList:=ha _ (by simp);refine jD (a03 b ?_);rw[a9a b]at h;cases lft with
 | true=>
  exact L _ _ a hm st Q hk h
 | false=>
  exact jD (L _ _ hm a st _ hk (jF h))
theorem a3j (L:LtOk M A E s κ k0 ajj) (hk:kindOf st=k0) (hm:ky∈ajj.toList) (ha:∀ p∈ar.toList,p∈ajj.toList)
  (hn:bs+n<=ar.size) (hh:hnt<n) (mono:∀ i j,i<=j->j<n->Kk κ ar (bs+i)<=Kk κ ar (bs+j))
  (h:∀ h,h<=n->(∀ i,i<h->bq lft (κ ky) (Kk κ ar (bs+i))=true)->(∀ i,h<=i->i<n->bq lft (κ ky) (Kk κ ar (bs+i))=false)->Q (some h) st):wpS M A E s (a2f lft ky ar bs n hnt) Q st:=by
 have t:∀ i j,i<=j->j<n->bq lft (κ ky) (Kk κ ar (bs+j))=true->bq lft (κ ky) (Kk κ ar (bs+i))=true:=λi j C F H=>by
  have:=mono i j C F
  unfold bq at *;cases lft<;>simp at *<;>omega
 have D:∀ i j,i<=j->j<n->bq lft (κ ky) (Kk κ ar (bs+i))=false->bq lft (κ ky) (Kk κ ar (bs+j))=false:=λi j C F H=>by grind
 rw[b0Q];refine jD (b2i L hk hm ha (by omega) ?_);dsimp only;cases e0:bq lft (κ ky) (Kk κ ar (bs+hnt)) with
 | true=>
  rw[if_pos rfl];refine jD (jU (jS (I:=λx c d=>d=st/\∃ a b,c=(none,a,b)/\a<b/\x+1<=b/\hnt+a<n/\bq lft (κ ky) (Kk κ ar (bs+(hnt+a)))=true)
   (Q:=λc d=>d=st/\∃ a b,c=(none,a,b)/\a<b/\hnt+a<n/\bq lft (κ ky) (Kk κ ar (bs+(hnt+a)))=true/\(n - hnt<=b\/(hnt+b<n/\bq lft (κ ky) (Kk κ ar (bs+(hnt+b)))=false))) ?step ?fin ?init) ?post)
  case init=>exact⟨rfl,0,1,rfl,by omega,by omega,by omega,e0⟩
  case fin=>
   rintro c d ⟨rfl,a,b,rfl,m,k,o,f⟩;exact⟨rfl,a,b,rfl,m,o,f,.inl (by omega)⟩
  case step=>
   rintro x c d _ G ⟨rfl,a,b,rfl,m,k,o,f⟩;dsimp only
   by_cases hge:b>=n - hnt
   ·rw[if_pos hge];exact jF ⟨rfl,a,b,rfl,m,o,f,.inl hge⟩
   ·rw[if_neg hge];refine jD (b2i L hk hm ha (by omega) ?_);cases e:bq lft (κ ky) (Kk κ ar (bs+(hnt+b))) with
    | true=>
     dsimp only;rw[if_neg (by decide)];exact jF ⟨rfl,b,2*b+1,rfl,by omega,by omega,by omega,e⟩
    | false=>
     dsimp only;rw[if_pos (show (!false)=true from rfl)];exact jF ⟨rfl,a,b,rfl,m,o,f,.inr ⟨by omega,e⟩⟩
  case post=>
   rintro c d ⟨y,a,b,rfl,m,o,f,g⟩;have y:=y.symm;subst y;dsimp only;have q:hnt+a+1<=hnt+min b (n - hnt):=by omega
   have w:hnt+min b (n - hnt)<=n:=by omega
   have v:∀ i,i<hnt+a+1->bq lft (κ ky) (Kk κ ar (bs+i))=true:=λi J=>t i _ (by omega) (by omega) f;have u:∀ i,hnt+min b (n - hnt)<=i->i<n->bq lft (κ ky) (Kk κ ar (bs+i))=false:=λi B z=>by grind
   generalize hnt+a+1=l0 at q v ⊢;generalize hnt+min b (n - hnt)=h0 at q w u ⊢;refine jD (jU (jS (I:=λx c d=>d=st/\∃ l r,c=(none,l,r)/\l<=r/\r<=n/\r - l<=n - x/\(∀ i,i<l->bq lft (κ ky) (Kk κ ar (bs+i))=true)/\(∀ i,r<=i->i<n->bq lft (κ ky) (Kk κ ar (bs+i))=false))
    (Q:=λc d=>d=st/\∃ l,c=(none,l,l)/\l<=n/\(∀ i,i<l->bq lft (κ ky) (Kk κ ar (bs+i))=true)/\(∀ i,l<=i->i<n->bq lft (κ ky) (Kk κ ar (bs+i))=false)) ?st2 ?fi2 ?in2) ?po2)
   case in2=>exact⟨rfl,l0,h0,rfl,q,w,by omega,v,u⟩
   case fi2=>
    rintro c d ⟨rfl,l,r,rfl,m,k,o,f,g⟩
    have:l=r:=by omega
    subst this;exact⟨rfl,l,rfl,k,f,g⟩
   case st2=>
    rintro x c d _ G ⟨rfl,l,r,rfl,m,k,o,f,g⟩;dsimp only
    by_cases hge:l>=r
    ·rw[if_pos hge]
     have:l=r:=by omega
     subst this;exact jF ⟨rfl,l,rfl,k,f,g⟩
    ·rw[if_neg hge];refine jD (b2i L hk hm ha (by omega) ?_);cases e:bq lft (κ ky) (Kk κ ar (bs+(l+(r - l) / 2))) with
     | true=>
      dsimp only;rw[if_pos rfl];exact jF ⟨rfl,_,r,rfl,by omega,k,by omega,λi J=>t i _ (by omega) (by omega) e,g⟩
     | false=>
      dsimp only;rw[if_neg (by decide)];exact jF ⟨rfl,l,_,rfl,by omega,by omega,by omega,f,λi B z=>D _ i B z e⟩
   case po2=>
    rintro c d ⟨rfl,l,rfl,k,f,g⟩;exact jF (h l k f g)
 | false=>
  rw[if_neg (by decide)];refine jD (jU (jS (I:=λx c d=>d=st/\∃ a b,c=(none,a,b)/\a<b/\x+1<=b/\a<=hnt/\bq lft (κ ky) (Kk κ ar (bs+(hnt - a)))=false)
   (Q:=λc d=>d=st/\∃ a b,c=(none,a,b)/\a<b/\a<=hnt/\bq lft (κ ky) (Kk κ ar (bs+(hnt - a)))=false/\(hnt+1<=b\/(b<=hnt/\bq lft (κ ky) (Kk κ ar (bs+(hnt - b)))=true))) ?step ?fin ?init) ?post)
  case init=>exact⟨rfl,0,1,rfl,by omega,by omega,by omega,e0⟩
  case fin=>
   rintro c d ⟨rfl,a,b,rfl,m,k,o,f⟩;exact⟨rfl,a,b,rfl,m,o,f,.inl (by omega)⟩
  case step=>
   rintro x c d _ G ⟨rfl,a,b,rfl,m,k,o,f⟩;dsimp only
   by_cases hge:b>=hnt+1
   ·rw[if_pos hge];exact jF ⟨rfl,a,b,rfl,m,o,f,.inl hge⟩
   ·rw[if_neg hge];refine jD (b2i L hk hm ha (by omega) ?_);cases e:bq lft (κ ky) (Kk κ ar (bs+(hnt - b))) with
    | true=>
     dsimp only;rw[if_pos rfl];exact jF ⟨rfl,a,b,rfl,m,o,f,.inr ⟨by omega,e⟩⟩
    | false=>
     dsimp only;rw[if_neg (by decide)];exact jF ⟨rfl,b,2*b+1,rfl,by omega,by omega,by omega,e⟩
  case post=>
   rintro c d ⟨y,a,b,rfl,m,o,f,g⟩;have y:=y.symm;subst y;dsimp only;have q:hnt+1 - min b (hnt+1)<=hnt - a:=by omega
   have w:hnt - a<=n:=by omega
   have v:∀ i,i<hnt+1 - min b (hnt+1)->bq lft (κ ky) (Kk κ ar (bs+i))=true:=λi J=>by grind
   have u:=λi B z=>D _ i B z f;generalize hnt+1 - min b (hnt+1)=l0 at q v ⊢;generalize hnt - a=h0 at q w u ⊢;refine jD (jU (jS (I:=λx c d=>d=st/\∃ l r,c=(none,l,r)/\l<=r/\r<=n/\r - l<=n - x/\(∀ i,i<l->bq lft (κ ky) (Kk κ ar (bs+i))=true)/\(∀ i,r<=i->i<n->bq lft (κ ky) (Kk κ ar (bs+i))=false))
    (Q:=λc d=>d=st/\∃ l,c=(none,l,l)/\l<=n/\(∀ i,i<l->bq lft (κ ky) (Kk κ ar (bs+i))=true)/\(∀ i,l<=i->i<n->bq lft (κ ky) (Kk κ ar (bs+i))=false)) ?st2 ?fi2 ?in2) ?po2)
   case in2=>exact⟨rfl,l0,h0,rfl,q,w,by omega,v,u⟩
   case fi2=>
    rintro c d ⟨rfl,l,r,rfl,m,k,o,f,g⟩
    have:l=r:=by omega
    subst this;exact⟨rfl,l,rfl,k,f,g⟩
   case st2=>
    rintro x c d _ G ⟨rfl,l,r,rfl,m,k,o,f,g⟩;dsimp only
    by_cases hge:l>=r
    ·rw[if_pos hge]
     have:l=r:=by omega
     subst this;exact jF ⟨rfl,l,rfl,k,f,g⟩
    ·rw[if_neg hge];refine jD (b2i L hk hm ha (by omega) ?_);cases e:bq lft (κ ky) (Kk κ ar (bs+(l+(r - l) / 2))) with
     | true=>
      dsimp only;rw[if_pos rfl];exact jF ⟨rfl,_,r,rfl,by omega,k,by omega,λi J=>t i _ (by omega) (by omega) e,g⟩
     | false=>
      dsimp only;rw[if_neg (by decide)];exact jF ⟨rfl,l,_,rfl,by omega,by omega,by omega,f,λi B z=>D _ i B z e⟩
   case po2=>
    rintro c d ⟨rfl,l,rfl,k,f,g⟩;exact jF (h l k f g)
end
noncomputable def a9b:Nat->StateT SortSt Sem Unit:=sortPriv% PySem.Builtin.setMinGallop
theorem a7l (g:Nat):a9b g=modify λs=>SortSt.mk' (kindOf s) (arrOf s) (jJ s) g (jX s):=rfl
noncomputable def a5r:Array Keyed->Array Keyed->StateT SortSt Sem (Array Keyed):=sortPriv% PySem.Builtin.mergeLo
abbrev dnA (a b o:Array Keyed) (i j:Nat):Array Keyed:=o++a.extract i a.size++b.extract j b.size
abbrev dnB (a b o:Array Keyed) (i j:Nat):Array Keyed:=o++b.extract j b.size++a.extract i a.size
theorem a9c (a b:Array Keyed):a5r a b=(do
 rule "list.sort.merge-lo"
 let tot:=a.size+b.size
 let mut o:Array Keyed:=#[<- elem' b 0]
 let mut i:=0
 let mut j:=1
 if j==b.size then return dnA a b o i j
 if i+1==a.size then return dnB a b o i j
 let mut g:=lP (<- get)
 for _ in [0:tot] do
  let mut ac:=0
  let mut bc:=0
  for _ in [0:tot] do
   let some bw <- lt' (<- elem' b j) (<- elem' a i) | return dnA a b o i j
   if bw then
    o:=o.push (<- elem' b j);j:=j+1;bc:=bc+1;ac:=0
    if j==b.size then return dnA a b o i j
    if bc>=g then break
   else
    o:=o.push (<- elem' a i);i:=i+1;ac:=ac+1;bc:=0
    if i+1==a.size then return dnB a b o i j
    if ac>=g then break
  rule "list.sort.gallop"
  g:=g+1
  for _ in [0:tot] do
   if g > 1 then g:=g - 1
   a9b g
   let some k <- a2f false (<- elem' b j) a i (a.size - i) 0 | return dnA a b o i j
   ac:=k
   if k > 0 then
    o:=o++a.extract i (i+k);i:=i+k
    if i+1==a.size then return dnB a b o i j
    if i==a.size then return dnA a b o i j
   o:=o.push (<- elem' b j);j:=j+1
   if j==b.size then return dnA a b o i j
   let some k <- a2f true (<- elem' a i) b j (b.size - j) 0 | return dnA a b o i j
   bc:=k
   if k > 0 then
    o:=o++b.extract j (j+k);j:=j+k
    if j==b.size then return dnA a b o i j
   o:=o.push (<- elem' a i);i:=i+1
   if i+1==a.size then return dnB a b o i j
   if ac<7&&bc<7 then break
  g:=g+1
  a9b g
 (lh "internal:list.sort.merge-bound")):=rfl
section
variable {κ:KF}{A B o:List Keyed}{i j:Nat}{p:Keyed}
abbrev Srt (κ:KF) (l:List Keyed):Prop:=l.Pairwise λx y=>κ x<=κ y
structure MW (κ:KF) (A B o:List Keyed) (i j:Nat):Prop where
 ia:i<=A.length
 jb:j<=B.length
 pm:(o++(A.drop i++B.drop j)).Perm (A++B)
 so:Srt κ o
 ba:∀ x∈o,∀ y∈A.drop i,κ x<=κ y
 bb:∀ x∈o,∀ y∈B.drop j,κ x<=κ y
theorem MW.size (W:MW κ A B o i j):o.length=i+j:=by
 have:=W.pm.length_eq
 have b:=W.ia;have a:=W.jb;simp at this;omega
theorem drop_get {l:List Keyed}(h:l[n]?=some p):l.drop n=p::l.drop (n+1):=by
 obtain⟨a,e⟩:=eJ.mp h;rw[gJ a,e]
theorem a9U (h:Srt κ l) (hb:∀ x∈l,κ x<=κ p):Srt κ (l++[p]):=by
 refine eS.mpr ⟨h,iw _ _,λx b y a=>?_⟩;rw[eD.mp a];exact hb x b
theorem a1S (h:Srt κ l) (n:Nat):Srt κ (l.drop n):=fv.sublist (i9 n l) h
theorem MW.pushA (W:MW κ A B o i j) (sa:Srt κ A) (hp:A[i]?=some p) (hb:∀ y∈B.drop j,κ p<=κ y):MW κ A B (o++[p]) (i+1) j:=by
 have c:=drop_get hp;have d:=(eJ.mp hp).1;have e:=c▸a1S sa i;refine⟨d,W.jb,?_,a9U W.so λx b=>W.ba x b p (by simp_all),λx b y a=>?_,λx b y a=>?_⟩
 ·have:=W.pm
  rw[c]at this;simpa using this
 ·rcases et.mp b with h | h
  ·exact W.ba x h y (by simp_all)
  ·rw[eD.mp h];exact (eT.mp e).1 y a
 ·rcases et.mp b with h | h
  ·exact W.bb x h y a
  ·rw[eD.mp h];exact hb y a
theorem MW.pushB (W:MW κ A B o i j) (sb:Srt κ B) (hp:B[j]?=some p) (hb:∀ y∈A.drop i,κ p<=κ y):MW κ A B (o++[p]) i (j+1):=by
 have c:=drop_get hp;have d:=(eJ.mp hp).1;have e:=c▸a1S sb j;refine⟨W.ia,d,?_,a9U W.so λx b=>W.bb x b p (by simp_all),λx b y a=>?_,λx b y a=>?_⟩
 ·have:=W.pm
  rw[c]at this;refine fh.trans ?_ this;rw[eU];exact fh.append_left o (show (p::(A.drop i++B.drop _)).Perm _ from ja.symm)
 ·rcases et.mp b with h | h
  ·exact W.ba x h y a
  ·rw[eD.mp h];exact hb y a
 ·rcases et.mp b with h | h
  ·exact W.bb x h y (by simp_all)
  ·rw[eD.mp h];exact (eT.mp e).1 y a
theorem take_snoc {l:List Keyed}(h:l[n+k]?=some p):(l.drop n).take (k+1)=(l.drop n).take k++[p]:=by
 rw[fq,iy,h];rfl
theorem MW.runA (W:MW κ A B o i j) (sa:Srt κ A):∀ k,i+k<=A.length->(∀ q z,i<=q->q<i+k->A[q]?=some z->∀ y∈B.drop j,κ z<=κ y)->MW κ A B (o++(A.drop i).take k) (i+k) j
 | 0,_,_=>by simpa using W
 | k+1,hk,hz=>by
  have b:=MW.runA W sa k (by omega) λq z a c=>hz q z a (by omega);have e:A[i+k]?=some A[i+k]:=eQ (by omega);rw[take_snoc e,<- eU];exact b.pushA sa e (hz _ _ (by omega) (by omega) e)
theorem MW.runB (W:MW κ A B o i j) (sb:Srt κ B):∀ k,j+k<=B.length->(∀ q z,j<=q->q<j+k->B[q]?=some z->∀ y∈A.drop i,κ z<=κ y)->MW κ A B (o++(B.drop j).take k) i (j+k)
 | 0,_,_=>by simpa using W
 | k+1,hk,hz=>by
  have b:=MW.runB W sb k (by omega) λq z a c=>hz q z a (by omega);have e:B[j+k]?=some B[j+k]:=eQ (by omega);rw[take_snoc e,<- eU];exact b.pushB sb e (hz _ _ (by omega) (by omega) e)
noncomputable def Mgd (κ:KF) (A B r:List Keyed):Prop:=r.Perm (A++B)/\Srt κ r
theorem MW.doneA (W:MW κ A B o i j) (sa:Srt κ A) (sb:Srt κ B) (h:i=A.length\/j=B.length):Mgd κ A B (o++A.drop i++B.drop j):=by
 refine⟨by rw[eU];exact W.pm,?_⟩;rw[eU];refine eS.mpr ⟨W.so,eS.mpr ⟨a1S sa i,a1S sb j,λx a y b=>?_⟩,λx a y b=>?_⟩
 ·rcases h with rfl | rfl
  ·simp_all
  ·simp_all
 ·rcases et.mp b with h | h
  ·exact W.ba x a y h
  ·exact W.bb x a y h
theorem MW.doneB (W:MW κ A B o i j) (sa:Srt κ A) (sb:Srt κ B) (h:i+1=A.length) (hl:∀ z,A[A.length - 1]?=some z->∀ y∈B,κ y<=κ z):Mgd κ A B (o++B.drop j++A.drop i):=by
 refine⟨?_,?_⟩
 ·rw[eU];exact fh.trans (fh.append_left o jc) W.pm
 ·rw[eU];have e:A[i]?=some A[i]:=eQ (by omega);have c:A.drop i=[A[i]]:=by rw[drop_get e,gK (by omega)]
  refine eS.mpr ⟨W.so,eS.mpr ⟨a1S sb j,a1S sa i,λx b y a=>?_⟩,λx b y a=>?_⟩
  ·rw[c]at a;rw[eD.mp a];exact hl _ (by rw[show A.length - 1=i by omega];exact e) x (hZ b)
  ·rcases et.mp a with h | h
   ·exact W.bb x b y h
   ·exact W.ba x b y h
theorem a2D (h:Srt κ l) (hp:l[n]?=some p):∀ y∈l.drop n,κ p<=κ y:=λy a=>by
 have b:=a1S h n;rw[drop_get hp]at b a;rcases eI.mp a with rfl | a
 ·exact fc _
 ·exact (eT.mp b).1 y a
end
abbrev SM:=StateT SortSt Sem
abbrev T1:=Option (Array Keyed)×Array Keyed×Nat×Nat×Nat×Nat
abbrev T2:=Option (Array Keyed)×Array Keyed×Nat×Nat×Nat×Nat×Nat
noncomputable def lo1 (a b:Array Keyed) (g:Nat) (o:Array Keyed) (i j ac bc:Nat):SM (ForInStep T1):=do
 let y <- elem' b j
 let x <- elem' a i
 let r <- lt' y x
 match r with
 | some bw=>
  if bw=true then do
   let y <- elem' b j
   if (j+1==b.size)=true then pure (.done (some (dnA a b (o.push y) i (j+1)),o.push y,i,j+1,0,bc+1))
   else if bc+1>=g then pure (.done (none,o.push y,i,j+1,0,bc+1)) else pure (.yield (none,o.push y,i,j+1,0,bc+1))
  else do
   let x <- elem' a i
   if (i+1+1==a.size)=true then pure (.done (some (dnB a b (o.push x) (i+1) j),o.push x,i+1,j,ac+1,0))
   else if ac+1>=g then pure (.done (none,o.push x,i+1,j,ac+1,0)) else pure (.yield (none,o.push x,i+1,j,ac+1,0))
 | _=>pure (.done (some (dnA a b o i j),o,i,j,ac,bc))
noncomputable def lo5 (a b:Array Keyed) (o:Array Keyed) (i j g ac bc:Nat):SM (ForInStep T2):=do
 let x <- elem' a i
 if (i+1+1==a.size)=true then pure (.done (some (dnB a b (o.push x) (i+1) j),o.push x,i+1,j,g,ac,bc))
 else if (decide (ac<7)&&decide (bc<7))=true then pure (.done (none,o.push x,i+1,j,g,ac,bc)) else pure (.yield (none,o.push x,i+1,j,g,ac,bc))
noncomputable def lo4 (a b:Array Keyed) (o:Array Keyed) (i j g ac bc:Nat):SM (ForInStep T2):=do
 let y <- elem' b j
 if (j+1==b.size)=true then pure (.done (some (dnA a b (o.push y) i (j+1)),o.push y,i,j+1,g,ac,bc))
 else do
  let x <- elem' a i
  let r <- a2f true x b (j+1) (b.size - (j+1)) 0
  match r with
  | some k=>
   if k > 0 then
    if (j+1+k==b.size)=true then pure (.done (some (dnA a b (o.push y++b.extract (j+1) (j+1+k)) i (j+1+k)),o.push y++b.extract (j+1) (j+1+k),i,j+1+k,g,ac,k))
    else lo5 a b (o.push y++b.extract (j+1) (j+1+k)) i (j+1+k) g ac k
   else lo5 a b (o.push y) i (j+1) g ac k
  | _=>pure (.done (some (dnA a b (o.push y) i (j+1)),o.push y,i,j+1,g,ac,bc))
noncomputable def lo3 (a b:Array Keyed) (o:Array Keyed) (i j g ac bc:Nat):SM (ForInStep T2):=do
 a9b g
 let y <- elem' b j
 let r <- a2f false y a i (a.size - i) 0
 match r with
 | some k=>
  if k > 0 then
   if (i+k+1==a.size)=true then pure (.done (some (dnB a b (o++a.extract i (i+k)) (i+k) j),o++a.extract i (i+k),i+k,j,g,k,bc))
   else if (i+k==a.size)=true then pure (.done (some (dnA a b (o++a.extract i (i+k)) (i+k) j),o++a.extract i (i+k),i+k,j,g,k,bc))
   else lo4 a b (o++a.extract i (i+k)) (i+k) j g k bc
  else lo4 a b o i j g k bc
 | _=>pure (.done (some (dnA a b o i j),o,i,j,g,ac,bc))
noncomputable def lo2 (a b:Array Keyed) (o:Array Keyed) (i j g ac bc:Nat):SM (ForInStep T2):=
 if g > 1 then lo3 a b o i j (g - 1) ac bc else lo3 a b o i j g ac bc
theorem bd2 {α β:Type}{x y:SM α}{f g:α->SM β}(h:x=y) (h2:∀ a,f a=g a):x >>= f=y >>= g:=by rw[h,funext h2]
theorem a79 (a b:Array Keyed):a5r a b=(do
  liftM (rule "list.sort.merge-lo")
  let y <- elem' b 0
  if (1==b.size)=true then pure (dnA a b #[y] 0 1)
  else if (0+1==a.size)=true then pure (dnB a b #[y] 0 1)
  else do
   let st <- get
   let c <- forIn [0:a.size+b.size] ((none,#[y],0,1,lP st):Option (Array Keyed)×Array Keyed×Nat×Nat×Nat) λ_ c=>do
    let c1 <- forIn [0:a.size+b.size] ((none,c.2.1,c.2.2.1,c.2.2.2.1,0,0):T1) λ_ c1=>lo1 a b c.2.2.2.2 c1.2.1 c1.2.2.1 c1.2.2.2.1 c1.2.2.2.2.1 c1.2.2.2.2.2
    match c1.1 with
    | some r=>pure (ForInStep.done (some r,c1.2.1,c1.2.2.1,c1.2.2.2.1,c.2.2.2.2))
    | none=>do
     liftM (rule "list.sort.gallop")
     let c2 <- forIn [0:a.size+b.size] ((none,c1.2.1,c1.2.2.1,c1.2.2.2.1,c.2.2.2.2+1,c1.2.2.2.2.1,c1.2.2.2.2.2):T2) λ_ c2=>lo2 a b c2.2.1 c2.2.2.1 c2.2.2.2.1 c2.2.2.2.2.1 c2.2.2.2.2.2.1 c2.2.2.2.2.2.2
     match c2.1 with
     | some r=>pure (ForInStep.done (some r,c2.2.1,c2.2.2.1,c2.2.2.2.1,c2.2.2.2.2.1))
     | none=>do
      a9b (c2.2.2.2.2.1+1)
      pure (ForInStep.yield (none,c2.2.1,c2.2.2.1,c2.2.2.2.1,c2.2.2.2.2.1+1))
   match c.1 with
   | some r=>pure r
   | none=>lh "internal:list.sort.merge-bound"):=by
 rw[a9c];refine bind_congr λ_=>bind_congr λy=>?_;dsimp only
 congr 1
 congr 1
 refine bind_congr λk=>?_;refine bd2 ?_ λc=>?_
 ·congr 1
  funext x c
  obtain⟨r,o,i,j,g⟩:=c;dsimp only;refine bd2 ?_ λe=>?_
  ·congr 1
  ·obtain⟨r,o,i,j,d,f⟩:=e;cases r with
   | some r=>rfl
   | none=>
    refine bind_congr λ_=>?_;refine bd2 ?_ λh=>?_
    ·congr 1
    ·obtain⟨r,o,i,j,g,d,f⟩:=h;cases r<;>rfl
 ·obtain⟨r,o,i,j,g⟩:=c;cases r<;>rfl
structure SG (st st':SortSt):Prop where
 kd:kindOf st'=kindOf st
 ar:arrOf st'=arrOf st
 pe:jJ st'=jJ st
 fl:jX st'=jX st
theorem SG.refl (st:SortSt):SG st st:=⟨rfl,rfl,rfl,rfl⟩
theorem SG.trans (p:SG x y) (q:SG y z):SG x z:=⟨q.kd.trans p.kd,q.ar.trans p.ar,q.pe.trans p.pe,q.fl.trans p.fl⟩
section
variable {κ:KF}{a b o:Array Keyed}{i j:Nat}
theorem a4b:(dnA a b o i j).toList=o.toList++a.toList.drop i++b.toList.drop j:=by
 simp[ft]
theorem a5s:(dnB a b o i j).toList=o.toList++b.toList.drop j++a.toList.drop i:=by
 simp[ft]
theorem a9V:(o++a.extract i (i+k)).toList=o.toList++(a.toList.drop i).take k:=by
 simp[h7]
theorem a1g (h:i<a.size):a.toList[i]?=some a[i]:=by simp[h]
theorem a1s (h:i<a.size):Kk κ a i=κ a[i]:=a9a (getElem?_pos ..)
theorem a4c (h:Srt κ a.toList) (hn:i+n<=a.size):∀ p q,p<=q->q<n->Kk κ a (i+p)<=Kk κ a (i+q):=λp q b c=>by
 rw[a1s (show i+p<a.size by omega),a1s (show i+q<a.size by omega)]
 by_cases e:p=q
 ·simp_all
 ·have:=gm.mp h (i+p) (i+q) (by simp;omega) (by simp;omega) (by omega)
  simpa using this
end
structure MC (M:Model) (A:Around) (E:Value->Shared->Prop) (s:Shared) (κ:KF) (k0:j0) (ajj a b:Array Keyed):Prop where
 L:LtOk M A E s κ k0 ajj
 ha:∀ p∈a.toList,p∈ajj.toList
 hb:∀ p∈b.toList,p∈ajj.toList
 sa:Srt κ a.toList
 sb:Srt κ b.toList
 h0:0<a.size
 h1:0<b.size
 hf:∀ y∈a.toList,Kk κ b 0<=κ y
 hl:∀ z,a.toList[a.toList.length - 1]?=some z->∀ y∈b.toList,κ y<=κ z
structure Rdy (κ:KF) (a b o:Array Keyed) (i j:Nat):Prop where
 w:MW κ a.toList b.toList o.toList i j
 hi:i+1<a.size
 hj:j<b.size
section
variable {M:Model}{A:Around}{E:Value->Shared->Prop}{s:Shared}{κ:KF}{k0:j0}{ajj a b o:Array Keyed}{st:SortSt}{i j g ac bc:Nat}
theorem a6N {α:Type}{f:Unit->SM α}{Q:α->SortSt->Prop}(h:wpS M A E s (f ()) Q st):wpS M A E s ((liftM (rule w):SM Unit) >>= f) Q st:=
 jD (lQ (kP ⟨rfl,h⟩))
theorem a1G (a:Array Keyed):a.toList.length=a.size:=by simp
theorem c0N (C:MC M A E s κ k0 ajj a b) (hk:kindOf st=k0) (R:Rdy κ a b o i j)
  (dn:∀ r c,Mgd κ a.toList b.toList r.toList->Q (.done (some r,c)) st)
  (br:∀ o' i' j' x y,Rdy κ a b o' i' j'->i'+j'=i+j+1->Q (.done (none,o',i',j',x,y)) st)
  (go:∀ o' i' j' x y,Rdy κ a b o' i' j'->i'+j'=i+j+1->Q (.yield (none,o',i',j',x,y)) st):wpS M A E s (lo1 a b g o i j ac bc) Q st:=by
 have q:=R.hi;have n:=R.hj;have p:b[j]?=some b[j]:=getElem?_pos ..;have m:a[i]?=some a[i]:=getElem?_pos ..;have h:=a1g n;have l:=a1g (a:=a) (i:=i) (by omega);unfold lo1;refine jD (a03 p (jD (a03 m (jD ?_))));refine C.L _ _ (C.hb _ (eR h)) (C.ha _ (eR l)) st _ hk ?_;dsimp only
 by_cases c:κ b[j]<κ a[i]
 ·rw[if_pos (decide_eq_true c)];refine jD (a03 p ?_);have d:=R.w.pushB C.sb h λy k=>eY (fz c) (a2D C.sa l y k);rw[<- fA]at d
  by_cases e:j+1=b.size
  ·rw[if_pos (by simpa using e)];exact jF (dn _ _ (by rw[a4b];exact d.doneA C.sa C.sb (.inr (by rw[a1G];exact e))))
  ·rw[if_neg (by simpa using e)];have f:Rdy κ a b (o.push b[j]) i (j+1):=⟨d,q,by omega⟩
   split
   ·exact jF (br _ _ _ _ _ f (by omega))
   ·exact jF (go _ _ _ _ _ f (by omega))
 ·rw[if_neg (by simpa using c)];refine jD (a03 m ?_);have d:=R.w.pushA C.sa l λy k=>eY (h8.mp c) (a2D C.sb h y k);rw[<- fA]at d
  by_cases e:i+1+1=a.size
  ·rw[if_pos (by simpa using e)];exact jF (dn _ _ (by rw[a5s];exact d.doneB C.sa C.sb (by rw[a1G];exact e) C.hl))
  ·rw[if_neg (by simpa using e)];have f:Rdy κ a b (o.push a[i]) (i+1) j:=⟨d,by omega,n⟩
   split
   ·exact jF (br _ _ _ _ _ f (by omega))
   ·exact jF (go _ _ _ _ _ f (by omega))
structure G2 (st:SortSt) (κ:KF) (a b:Array Keyed) (n:Nat) (Q:ForInStep T2->SortSt->Prop):Prop where
 dn:∀ r c st',SG st st'->Mgd κ a.toList b.toList r.toList->Q (.done (some r,c)) st'
 br:∀ o' i' j' x y z st',SG st st'->Rdy κ a b o' i' j'->n<i'+j'->Q (.done (none,o',i',j',x,y,z)) st'
 go:∀ o' i' j' x y z st',SG st st'->Rdy κ a b o' i' j'->n<i'+j'->Q (.yield (none,o',i',j',x,y,z)) st'
theorem b8E (C:MC M A E s κ k0 ajj a b) (R:Rdy κ a b o i j) (hle:∀ y∈b.toList.drop j,Kk κ a i<=κ y) (H:G2 st κ a b n Q) (hn:n<=i+j):wpS M A E s (lo5 a b o i j g ac bc) Q st:=by
 have l:=R.hi;have k:=R.hj;have h:a[i]?=some a[i]:=getElem?_pos ..;have f:=a1g (a:=a) (i:=i) (by omega);rw[a1s (show i<a.size by omega)]at hle;unfold lo5;refine jD (a03 h ?_);have c:=R.w.pushA C.sa f hle;rw[<- fA]at c
 by_cases e:i+1+1=a.size
 ·rw[if_pos (by simpa using e)];exact jF (H.dn _ _ _ (SG.refl _) (by rw[a5s];exact c.doneB C.sa C.sb (by rw[a1G];exact e) C.hl))
 ·rw[if_neg (by simpa using e)];have d:Rdy κ a b (o.push a[i]) (i+1) j:=⟨c,by omega,k⟩
  split
  ·exact jF (H.br _ _ _ _ _ _ _ (SG.refl _) d (by omega))
  ·exact jF (H.go _ _ _ _ _ _ _ (SG.refl _) d (by omega))
theorem a3K {l:List Keyed}(h:y∈l.drop n):∃ q,n<=q/\q<l.length/\l[q]?=some y:=by
 obtain⟨m,a⟩:=gn h;rw[iy]at a;exact⟨n+m,by omega,(eJ.mp a).1,a⟩
theorem a5O (h:a.toList[q]?=some z):Kk κ a q=κ z:=a9a (by simp_all)
theorem b8F (C:MC M A E s κ k0 ajj a b) (hk:kindOf st=k0) (R:Rdy κ a b o i j) (hle:∀ y∈a.toList.drop i,Kk κ b j<=κ y) (H:G2 st κ a b n Q) (hn:n<=i+j):wpS M A E s (lo4 a b o i j g ac bc) Q st:=by
 have m:=R.hi;have t:=R.hj;have x:b[j]?=some b[j]:=getElem?_pos ..;have D:=a1g t;have F:a[i]?=some a[i]:=getElem?_pos ..;have p:=a1g (a:=a) (i:=i) (by omega);rw[a1s t]at hle;unfold lo4;refine jD (a03 x ?_);have d:=R.w.pushB C.sb D hle;rw[<- fA]at d
 by_cases e:j+1=b.size
 ·rw[if_pos (by simpa using e)];exact jF (H.dn _ _ _ (SG.refl _) (by rw[a4b];exact d.doneA C.sa C.sb (.inr (by rw[a1G];exact e))))
 ·rw[if_neg (by simpa using e)];refine jD (a03 F (jD ?_));refine a3j C.L hk (C.ha _ (eR p)) C.hb (by omega) (by omega) (a4c C.sb (by omega)) λk G v r=>?_;dsimp only;have c:∀ y∈b.toList.drop (j+1+k),Kk κ a i<=κ y:=λy h=>by
   obtain⟨q,B,u,l⟩:=a3K h;rw[a1G]at u
   have:=r (q - (j+1)) (by omega) (by omega)
   rw[show j+1+(q - (j+1))=q by omega,a5O l]at this;simp[bq]at this;rw[a1s (show i<a.size by omega)];omega
  split
  ·have f:=d.runB C.sb k (by rw[a1G];omega) λq z B u l y h=>by
    have:=v (q - (j+1)) (by omega)
    rw[show j+1+(q - (j+1))=q by omega,a5O l]at this;simp[bq]at this;exact eY (fz this) (a2D C.sa p y h)
   rw[<- a9V]at f
   by_cases e2:j+1+k=b.size
   ·rw[if_pos (by simpa using e2)];exact jF (H.dn _ _ _ (SG.refl _) (by rw[a4b];exact f.doneA C.sa C.sb (.inr (by rw[a1G];exact e2))))
   ·rw[if_neg (by simpa using e2)];exact b8E C ⟨f,m,by omega⟩ c H (by omega)
  ·have:k=0:=by omega
   subst this;exact b8E C ⟨d,m,by omega⟩ c H (by omega)
theorem c0O (C:MC M A E s κ k0 ajj a b) (hk:kindOf st=k0) (R:Rdy κ a b o i j) (H:G2 st κ a b n Q) (hn:n<=i+j):wpS M A E s (lo3 a b o i j g ac bc) Q st:=by
 have I:=R.hi;have h:=R.hj;have G:b[j]?=some b[j]:=getElem?_pos ..;have B:=a1g h;unfold lo3;rw[a7l];refine jD (j3 ?_);have m:SG st (SortSt.mk' _ (arrOf st) _ g _):=⟨rfl,rfl,rfl,rfl⟩;have e:kindOf (SortSt.mk' _ (arrOf st) (jJ st) g (jX st))=k0:=hk;generalize SortSt.mk' (kindOf st) (arrOf st) (jJ st) g (jX st)=st1 at m e;have l:G2 st1 κ a b n Q:=⟨λr c d g=>H.dn r c d (m.trans g),λ_ _ _ _ _ _ d g=>H.br _ _ _ _ _ _ d (m.trans g),λ_ _ _ _ _ _ d g=>H.go _ _ _ _ _ _ d (m.trans g)⟩;refine jD (a03 G (jD ?_));refine a3j C.L e (C.hb _ (eR B)) C.ha (by omega) (by omega) (a4c C.sa (by omega)) λk J D x=>?_;dsimp only;have f:∀ y∈a.toList.drop (i+k),Kk κ b j<=κ y:=λy t=>by
  obtain⟨q,F,v,u⟩:=a3K t;rw[a1G]at v
  have:=x (q - i) (by omega) (by omega)
  rw[show i+(q - i)=q by omega,a5O u]at this;simp[bq]at this;rw[a1s h];omega
 split
 ·have p:=R.w.runA C.sa k (by rw[a1G];omega) λq z F v u y t=>by
   have:=D (q - i) (by omega)
   rw[show i+(q - i)=q by omega,a5O u]at this;simp[bq]at this;exact eY this (a2D C.sb B y t)
  rw[<- a9V]at p
  by_cases e1:i+k+1=a.size
  ·rw[if_pos (by simpa using e1)];exact jF (l.dn _ _ _ (SG.refl _) (by rw[a5s];exact p.doneB C.sa C.sb (by rw[a1G];exact e1) C.hl))
  ·rw[if_neg (by simpa using e1)]
   by_cases e2:i+k=a.size
   ·rw[if_pos (by simpa using e2)];exact jF (l.dn _ _ _ (SG.refl _) (by rw[a4b];exact p.doneA C.sa C.sb (.inl (by rw[a1G];exact e2))))
   ·rw[if_neg (by simpa using e2)];exact b8F C e ⟨p,by omega,h⟩ f l (by omega)
 ·have:k=0:=by omega
  subst this;exact b8F C e ⟨R.w,I,h⟩ f l (by omega)
theorem c0P (C:MC M A E s κ k0 ajj a b) (hk:kindOf st=k0) (R:Rdy κ a b o i j) (H:G2 st κ a b n Q) (hn:n<=i+j):wpS M A E s (lo2 a b o i j g ac bc) Q st:=by
 unfold lo2
 split<;>exact c0O C hk R H hn
theorem b33 (C:MC M A E s κ k0 ajj a b):MW κ a.toList b.toList [b[0]'C.h1] 0 1:=by
 have c:=a1g C.h1;have e:MW κ a.toList b.toList [] 0 0:=⟨e8 _,e8 _,by simp,.nil,λx h=>by simp at h,λx h=>by simp at h⟩;exact e.pushB C.sb c λy d=>by rw[<- a1s (κ:=κ) C.h1];exact C.hf y (by simp_all)
theorem b2j (C:MC M A E s κ k0 ajj a b) (hk:kindOf st=k0)
  (h:∀ r st',SG st st'->Mgd κ a.toList b.toList r.toList->Q r st'):wpS M A E s (a5r a b) Q st:=by
 have h0:=C.h0;have h1:=C.h1;rw[a79];refine a6N ?_;refine jD (a03 (getElem?_pos b 0 C.h1) ?_);have w0:=b33 C
 by_cases e1:1=b.size
 ·rw[if_pos (by simpa using e1)];exact jF (h _ _ (SG.refl _) (by rw[a4b];exact w0.doneA C.sa C.sb (.inr (by grind))))
 rw[if_neg (by simpa using e1)]
 by_cases e2:0+1=a.size
 ·rw[if_pos (by simpa using e2)];exact jF (h _ _ (SG.refl _) (by rw[a5s];exact w0.doneB C.sa C.sb (by rw[a1G];exact e2) C.hl))
 rw[if_neg (by simpa using e2)];refine jD (j1 ?_);have R0:Rdy κ a b #[b[0]] 0 1:=⟨w0,by omega,by omega⟩;refine jD (jU (jS (I:=λx c e=>∃ o i j g,c=(none,o,i,j,g)/\SG st e/\Rdy κ a b o i j/\x<i+j)
  (Q:=λc e=>∃ r F,c=(some r,F)/\SG st e/\Mgd κ a.toList b.toList r.toList) ?step ?fin ⟨_,_,_,_,rfl,SG.refl _,R0,by omega⟩) ?post)
 case post=>
  rintro c e ⟨r,F,rfl,H,m⟩;exact jF (h r e H m)
 case fin=>
  rintro c e ⟨o,i,j,g,rfl,H,R,hx⟩
  have:=R.hi
  have:=R.hj
  omega
 case step=>
  rintro x c e _ hx ⟨o,i,j,g,rfl,H,R,hxi⟩;dsimp only;have hk1:=H.kd.trans hk;refine jD (jU (jS (I:=λy c f=>∃ D l k J T,c=(none,D,l,k,J,T)/\f=e/\Rdy κ a b D l k/\i+j+y<=l+k)
   (Q:=λc f=>f=e/\((∃ r F,c=(some r,F)/\Mgd κ a.toList b.toList r.toList)\/∃ D l k J T,c=(none,D,l,k,J,T)/\Rdy κ a b D l k/\i+j<=l+k)) ?st1 ?fi1 ⟨_,_,_,_,_,rfl,rfl,R,by omega⟩) ?po1)
  case fi1=>
   rintro c f ⟨D,l,k,J,T,rfl,rfl,L,hy⟩
   have:=L.hi
   have:=L.hj
   omega
  case st1=>
   rintro y c f _ hy ⟨D,l,k,J,T,rfl,rfl,L,hyi⟩;dsimp only;refine c0N C hk1 L (λr c m=>⟨rfl,.inl ⟨r,c,rfl,m⟩⟩) (λo2 i2 j2 u v X V=>⟨rfl,.inr ⟨_,_,_,_,_,rfl,X,by omega⟩⟩) λo2 i2 j2 u v X V=>⟨_,_,_,_,_,rfl,rfl,X,by omega⟩
  case po1=>
   rintro c f ⟨rfl,⟨r,F,rfl,m⟩ | ⟨D,l,k,J,T,rfl,L,hij⟩⟩
   ·exact jF ⟨r,_,rfl,H,m⟩
   ·dsimp only;refine a6N ?_;refine jD (jU (jS (I:=λy c B=>∃ G q p S z t,c=(none,G,q,p,S,z,t)/\SG st B/\Rdy κ a b G q p/\l+k+y<=q+p)
     (Q:=λc B=>SG st B/\((∃ r F,c=(some r,F)/\Mgd κ a.toList b.toList r.toList)\/∃ G q p S z t,c=(none,G,q,p,S,z,t)/\Rdy κ a b G q p/\l+k<q+p)) ?f ?fi2 ⟨_,_,_,_,_,_,rfl,H,L,by omega⟩) ?po2)
    case fi2=>
     rintro c B ⟨G,q,p,S,z,t,rfl,d,N,hy⟩
     have:=N.hi
     have:=N.hj
     omega
    case f=>
     rintro y c B _ hy ⟨G,q,p,S,z,t,rfl,d,N,hyi⟩;dsimp only;refine c0P C (d.kd.trans hk) N ⟨λr c W U m=>⟨d.trans U,.inl ⟨r,c,rfl,m⟩⟩,λo4 i4 j4 u v w W U Y V=>⟨d.trans U,.inr ⟨_,_,_,_,_,_,rfl,Y,by omega⟩⟩,λo4 i4 j4 u v w W U Y V=>⟨_,_,_,_,_,_,rfl,d.trans U,Y,by omega⟩⟩ (eB _)
    case po2=>
     rintro c B ⟨d,⟨r,F,rfl,m⟩ | ⟨G,q,p,S,z,t,rfl,N,V⟩⟩
     ·exact jF ⟨r,_,rfl,d,m⟩
     ·dsimp only;refine jD (j3 (jF ?_));exact⟨_,_,_,_,rfl,⟨d.kd,d.ar,d.pe,d.fl⟩,N,by omega⟩
end
noncomputable def a7m:Array Keyed->Array Keyed->SM (Array Keyed):=sortPriv% PySem.Builtin.mergeHi
abbrev hnA (a b o:Array Keyed) (u v:Nat):Array Keyed:=a.extract 0 u++b.extract 0 v++o.reverse
abbrev hnB (a b o:Array Keyed) (u v:Nat):Array Keyed:=b.extract 0 v++a.extract 0 u++o.reverse
abbrev H1:=Option (Array Keyed)×Nat×Nat×Array Keyed×Nat×Nat
abbrev H2:=Option (Array Keyed)×Nat×Nat×Array Keyed×Nat×Nat×Nat
noncomputable def hi1 (a b:Array Keyed) (g u v:Nat) (o:Array Keyed) (ac bc:Nat):SM (ForInStep H1):=do
 let y <- elem' b (v - 1)
 let x <- elem' a (u - 1)
 let r <- lt' y x
 match r with
 | some aw=>
  if aw=true then do
   let x <- elem' a (u - 1)
   if (u - 1==0)=true then pure (.done (some (hnA a b (o.push x) (u - 1) v),u - 1,v,o.push x,ac+1,0))
   else if ac+1>=g then pure (.done (none,u - 1,v,o.push x,ac+1,0)) else pure (.yield (none,u - 1,v,o.push x,ac+1,0))
  else do
   let y <- elem' b (v - 1)
   if (v - 1==1)=true then pure (.done (some (hnB a b (o.push y) u (v - 1)),u,v - 1,o.push y,0,bc+1))
   else if bc+1>=g then pure (.done (none,u,v - 1,o.push y,0,bc+1)) else pure (.yield (none,u,v - 1,o.push y,0,bc+1))
 | _=>pure (.done (some (hnA a b o u v),u,v,o,ac,bc))
noncomputable def hi5 (a b:Array Keyed) (u v:Nat) (o:Array Keyed) (g ac bc:Nat):SM (ForInStep H2):=do
 let x <- elem' a (u - 1)
 if (u - 1==0)=true then pure (.done (some (hnA a b (o.push x) (u - 1) v),u - 1,v,o.push x,g,ac,bc))
 else if (decide (ac<7)&&decide (bc<7))=true then pure (.done (none,u - 1,v,o.push x,g,ac,bc)) else pure (.yield (none,u - 1,v,o.push x,g,ac,bc))
noncomputable def hi4 (a b:Array Keyed) (u v:Nat) (o:Array Keyed) (g ac bc:Nat):SM (ForInStep H2):=do
 let y <- elem' b (v - 1)
 if (v - 1==1)=true then pure (.done (some (hnB a b (o.push y) u (v - 1)),u,v - 1,o.push y,g,ac,bc))
 else do
  let x <- elem' a (u - 1)
  let r <- a2f true x b 0 (v - 1) (v - 1 - 1)
  match r with
  | some p=>
   if v - 1 - p > 0 then
    if (p==1)=true then pure (.done (some (hnB a b (o.push y++(b.extract p (v - 1)).reverse) u p),u,p,o.push y++(b.extract p (v - 1)).reverse,g,ac,v - 1 - p))
    else if (p==0)=true then pure (.done (some (hnA a b (o.push y++(b.extract p (v - 1)).reverse) u p),u,p,o.push y++(b.extract p (v - 1)).reverse,g,ac,v - 1 - p))
    else hi5 a b u p (o.push y++(b.extract p (v - 1)).reverse) g ac (v - 1 - p)
   else hi5 a b u (v - 1) (o.push y) g ac (v - 1 - p)
  | _=>pure (.done (some (hnA a b (o.push y) u (v - 1)),u,v - 1,o.push y,g,ac,bc))
noncomputable def hi3 (a b:Array Keyed) (u v:Nat) (o:Array Keyed) (g ac bc:Nat):SM (ForInStep H2):=do
 a9b g
 let y <- elem' b (v - 1)
 let r <- a2f false y a 0 u (u - 1)
 match r with
 | some p=>
  if u - p > 0 then
   if (p==0)=true then pure (.done (some (hnA a b (o++(a.extract p u).reverse) p v),p,v,o++(a.extract p u).reverse,g,u - p,bc))
   else hi4 a b p v (o++(a.extract p u).reverse) g (u - p) bc
  else hi4 a b u v o g (u - p) bc
 | _=>pure (.done (some (hnA a b o u v),u,v,o,g,ac,bc))
noncomputable def hi2 (a b:Array Keyed) (u v:Nat) (o:Array Keyed) (g ac bc:Nat):SM (ForInStep H2):=
 if g > 1 then hi3 a b u v o (g - 1) ac bc else hi3 a b u v o g ac bc
theorem a8a (a b:Array Keyed):a7m a b=(do
  liftM (rule "list.sort.merge-hi")
  let x <- elem' a (a.size - 1)
  if (a.size - 1==0)=true then pure (hnA a b #[x] (a.size - 1) b.size)
  else if (b.size==1)=true then pure (hnB a b #[x] (a.size - 1) b.size)
  else do
   let st <- get
   let c <- forIn [0:a.size+b.size] ((none,a.size - 1,b.size,#[x],lP st):Option (Array Keyed)×Nat×Nat×Array Keyed×Nat) λ_ c=>do
    let c1 <- forIn [0:a.size+b.size] ((none,c.2.1,c.2.2.1,c.2.2.2.1,0,0):H1) λ_ c1=>hi1 a b c.2.2.2.2 c1.2.1 c1.2.2.1 c1.2.2.2.1 c1.2.2.2.2.1 c1.2.2.2.2.2
    match c1.1 with
    | some r=>pure (ForInStep.done (some r,c1.2.1,c1.2.2.1,c1.2.2.2.1,c.2.2.2.2))
    | none=>do
     liftM (rule "list.sort.gallop")
     let c2 <- forIn [0:a.size+b.size] ((none,c1.2.1,c1.2.2.1,c1.2.2.2.1,c.2.2.2.2+1,c1.2.2.2.2.1,c1.2.2.2.2.2):H2) λ_ c2=>hi2 a b c2.2.1 c2.2.2.1 c2.2.2.2.1 c2.2.2.2.2.1 c2.2.2.2.2.2.1 c2.2.2.2.2.2.2
     match c2.1 with
     | some r=>pure (ForInStep.done (some r,c2.2.1,c2.2.2.1,c2.2.2.2.1,c2.2.2.2.2.1))
     | none=>do
      a9b (c2.2.2.2.2.1+1)
      pure (ForInStep.yield (none,c2.2.1,c2.2.2.1,c2.2.2.2.1,c2.2.2.2.2.1+1))
   match c.1 with
   | some r=>pure r
   | none=>lh "internal:list.sort.merge-bound"):=by
 refine bind_congr λ_=>bind_congr λy=>?_;dsimp only
 congr 1
 congr 1
 refine bind_congr λi=>?_;refine bd2 ?_ λc=>?_
 ·congr 1
  funext x c
  obtain⟨r,u,v,o,g⟩:=c;dsimp only;refine bd2 ?_ λd=>?_
  ·congr 1
  ·obtain⟨r,u,v,o,h,f⟩:=d;cases r with
   | some r=>rfl
   | none=>
    refine bind_congr λ_=>?_;refine bd2 ?_ λe=>?_
    ·congr 1
    ·obtain⟨r,u,v,o,g,h,f⟩:=e;cases r<;>rfl
 ·obtain⟨r,u,v,o,g⟩:=c;cases r<;>rfl
section
variable {κ:KF}{A B o:List Keyed}{u v:Nat}{p:Keyed}
structure MH (κ:KF) (A B o:List Keyed) (u v:Nat):Prop where
 ia:u<=A.length
 jb:v<=B.length
 pm:(A.take u++B.take v++o.reverse).Perm (A++B)
 so:Srt κ o.reverse
 ba:∀ x∈o,∀ y∈A.take u,κ y<=κ x
 bb:∀ x∈o,∀ y∈B.take v,κ y<=κ x
theorem a9d {l:List Keyed}(h:l[n]?=some p):l.take (n+1)=l.take n++[p]:=by
 rw[fq,h];rfl
theorem a2E (h:Srt κ l) (n:Nat):Srt κ (l.take n):=fv.sublist (ir n l) h
theorem a3k (h:Srt κ l) (e:l[n]?=some p):∀ y∈l.take (n+1),κ y<=κ p:=λy a=>by
 have b:=a2E h (n+1);rw[a9d e]at b a;rcases et.mp a with a | a
 ·exact (eS.mp b).2.2 y a p (by simp)
 ·simp_all
theorem MH.pushA (W:MH κ A B o (u+1) v) (sa:Srt κ A) (hp:A[u]?=some p) (hb:∀ y∈B.take v,κ y<=κ p):MH κ A B (o++[p]) u v:=by
 have c:=a9d hp;have d:=(eJ.mp hp).1;refine⟨by omega,W.jb,?_,?_,λx b y a=>?_,λx b y a=>?_⟩
 ·have:=W.pm
  rw[c]at this;refine fh.trans ?_ this;rw[fQ,fW];simp;refine fh.append_left _ ?_;exact ja
 ·rw[fQ,fW,ib];refine eT.mpr ⟨λx b=>?_,W.so⟩;exact W.ba x (by simpa using b) p (by rw[c];simp)
 ·rcases et.mp b with h | h
  ·exact W.ba x h y (by simp_all)
  ·rw[eD.mp h];exact a3k sa hp y (by simp_all)
 ·rcases et.mp b with h | h
  ·exact W.bb x h y a
  ·simp_all
theorem MH.pushB (W:MH κ A B o u (v+1)) (sb:Srt κ B) (hp:B[v]?=some p) (hb:∀ y∈A.take u,κ y<=κ p):MH κ A B (o++[p]) u v:=by
 have c:=a9d hp;have d:=(eJ.mp hp).1;refine⟨W.ia,by omega,?_,?_,λx b y a=>?_,λx b y a=>?_⟩
 ·have:=W.pm
  rw[c]at this;refine fh.trans ?_ this;rw[fQ,fW];simp only[eU];exact fh.refl _
 ·rw[fQ,fW,ib];refine eT.mpr ⟨λx b=>?_,W.so⟩;exact W.bb x (by simp_all) p (by simp_all)
 ·rcases et.mp b with h | h
  ·exact W.ba x h y a
  ·rw[eD.mp h];exact hb y a
 ·rcases et.mp b with h | h
  ·exact W.bb x h y (by simp_all)
  ·rw[eD.mp h];exact a3k sb hp y (by simp_all)
theorem MH.runA (sa:Srt κ A):∀ (k:Nat) {o:List Keyed},MH κ A B o (u+k) v->(∀ q z,u<=q->q<u+k->A[q]?=some z->∀ y∈B.take v,κ y<=κ z)->MH κ A B (o++((A.drop u).take k).reverse) u v
 | 0,o,W,_=>by simpa using W
 | k+1,o,W,hz=>by
  have a:u+k<A.length:=by have:=W.ia;omega
  have e:=eQ a;have b:=MH.pushA W sa e (hz _ _ (by simp) (by simp) e);have d:=MH.runA sa k b λq z c f=>hz q z c (by omega);rw[take_snoc e,fQ,fW,<- eU];exact d
theorem MH.runB (sb:Srt κ B):∀ (k:Nat) {o:List Keyed},MH κ A B o u (v+k)->(∀ q z,v<=q->q<v+k->B[q]?=some z->∀ y∈A.take u,κ y<=κ z)->MH κ A B (o++((B.drop v).take k).reverse) u v
 | 0,o,W,_=>by simpa using W
 | k+1,o,W,hz=>by
  have a:v+k<B.length:=by have:=W.jb;omega
  have e:=eQ a;have b:=MH.pushB W sb e (hz _ _ (by simp) (by simp) e);have d:=MH.runB sb k b λq z c f=>hz q z c (by omega);rw[take_snoc e,fQ,fW,<- eU];exact d
theorem MH.doneA (W:MH κ A B o u v) (sa:Srt κ A) (sb:Srt κ B) (h:u=0\/v=0):Mgd κ A B (A.take u++B.take v++o.reverse):=by
 refine⟨W.pm,?_⟩;refine eS.mpr ⟨eS.mpr ⟨a2E sa u,a2E sb v,λx b y c=>?_⟩,W.so,λx b y c=>?_⟩
 ·rcases h with rfl | rfl
  ·simp_all
  ·simp_all
 ·have a:y∈o:=by simpa using c
  rcases et.mp b with h | h
  ·exact W.ba y a x h
  ·exact W.bb y a x h
theorem MH.doneB (W:MH κ A B o u 1) (sa:Srt κ A) (sb:Srt κ B) (hf:∀ z,B[0]?=some z->∀ y∈A,κ z<=κ y):Mgd κ A B (B.take 1++A.take u++o.reverse):=by
 refine⟨?_,?_⟩
 ·refine fh.trans ?_ W.pm;exact fh.append_right _ jc
 ·refine eS.mpr ⟨eS.mpr ⟨a2E sb 1,a2E sa u,λx a y c=>?_⟩,W.so,λx a y c=>?_⟩
  ·cases B with
   | nil=>simp at a
   | cons z B=>
    have:x=z:=by simpa using a
    subst this;exact hf x rfl y (fI c)
  ·have b:y∈o:=by simpa using c
   rcases et.mp a with h | h
   ·exact W.bb y b x h
   ·exact W.ba y b x h
end
section
variable {κ:KF}{a b o:Array Keyed}{u v:Nat}
theorem a4d:(hnA a b o u v).toList=a.toList.take u++b.toList.take v++o.toList.reverse:=by
 simp
theorem a5t:(hnB a b o u v).toList=b.toList.take v++a.toList.take u++o.toList.reverse:=by
 simp
theorem a9W:(o++(a.extract p u).reverse).toList=o.toList++((a.toList.drop p).take (u - p)).reverse:=by
 simp[h7]
end
structure RdH (κ:KF) (a b o:Array Keyed) (u v:Nat):Prop where
 w:MH κ a.toList b.toList o.toList u v
 hu:1<=u
 hv:2<=v
section
variable {M:Model}{A:Around}{E:Value->Shared->Prop}{s:Shared}{κ:KF}{k0:j0}{ajj a b o:Array Keyed}{st:SortSt}{u v g ac bc:Nat}
theorem RdH.ua (R:RdH κ a b o u v):u<=a.size:=by have:=R.w.ia;rwa [a1G]at this
theorem RdH.vb (R:RdH κ a b o u v):v<=b.size:=by have:=R.w.jb;rwa [a1G]at this
theorem MC.first (C:MC M A E s κ k0 ajj a b):∀ z,b.toList[0]?=some z->∀ y∈a.toList,κ z<=κ y:=λz c y d=>by
 have:=C.hf y d
 rwa [a5O c]at this
theorem c0Q (C:MC M A E s κ k0 ajj a b) (hk:kindOf st=k0) (R:RdH κ a b o (u+1) (v+1))
  (dn:∀ r c,Mgd κ a.toList b.toList r.toList->Q (.done (some r,c)) st)
  (br:∀ o' u' v' x y,RdH κ a b o' u' v'->u'+v'=u+v+1->Q (.done (none,u',v',o',x,y)) st)
  (go:∀ o' u' v' x y,RdH κ a b o' u' v'->u'+v'=u+v+1->Q (.yield (none,u',v',o',x,y)) st):wpS M A E s (hi1 a b g (u+1) (v+1) o ac bc) Q st:=by
 have q:=R.ua;have t:=R.vb;have m:=R.hu;have p:=R.hv;have l:b[v]?=some b[v]:=getElem?_pos ..;have n:a[u]?=some a[u]:=getElem?_pos ..;have j:=a1g (a:=b) (i:=v) (by omega);have k:=a1g (a:=a) (i:=u) (by omega);unfold hi1;simp only[iz];refine jD (a03 l (jD (a03 n (jD ?_))));refine C.L _ _ (C.hb _ (eR j)) (C.ha _ (eR k)) st _ hk ?_;dsimp only
 by_cases c:κ b[v]<κ a[u]
 ·rw[if_pos (decide_eq_true c)];refine jD (a03 n ?_);have d:=R.w.pushA C.sa k λy h=>eY (a3k C.sb j y h) (fz c);rw[<- fA]at d
  by_cases e:u=0
  ·rw[if_pos (by simpa using e)];exact jF (dn _ _ (by rw[a4d];exact d.doneA C.sa C.sb (.inl e)))
  ·rw[if_neg (by simpa using e)];have f:RdH κ a b (o.push a[u]) u (v+1):=⟨d,by omega,p⟩
   split
   ·exact jF (br _ _ _ _ _ f (by omega))
   ·exact jF (go _ _ _ _ _ f (by omega))
 ·rw[if_neg (by simpa using c)];refine jD (a03 l ?_);have d:=R.w.pushB C.sb j λy h=>eY (a3k C.sa k y h) (h8.mp c);rw[<- fA]at d
  by_cases e:v=1
  ·rw[if_pos (by simpa using e)];subst e;exact jF (dn _ _ (by rw[a5t];exact d.doneB C.sa C.sb C.first))
  ·rw[if_neg (by simpa using e)];have f:RdH κ a b (o.push b[v]) (u+1) v:=⟨d,m,by omega⟩
   split
   ·exact jF (br _ _ _ _ _ f (by omega))
   ·exact jF (go _ _ _ _ _ f (by omega))
structure HG (st:SortSt) (κ:KF) (a b:Array Keyed) (n:Nat) (Q:ForInStep H2->SortSt->Prop):Prop where
 dn:∀ r c st',SG st st'->Mgd κ a.toList b.toList r.toList->Q (.done (some r,c)) st'
 br:∀ o' u' v' x y z st',SG st st'->RdH κ a b o' u' v'->u'+v'<n->Q (.done (none,u',v',o',x,y,z)) st'
 go:∀ o' u' v' x y z st',SG st st'->RdH κ a b o' u' v'->u'+v'<n->Q (.yield (none,u',v',o',x,y,z)) st'
theorem b8G (C:MC M A E s κ k0 ajj a b) (R:RdH κ a b o (u+1) v) (hle:∀ y∈b.toList.take v,κ y<=Kk κ a u) (H:HG st κ a b n Q) (hn:u+v<n):wpS M A E s (hi5 a b (u+1) v o g ac bc) Q st:=by
 have k:=R.ua;have f:=R.hv;have j:a[u]?=some a[u]:=getElem?_pos ..;have h:=a1g (a:=a) (i:=u) (by omega);rw[a1s (show u<a.size by omega)]at hle;unfold hi5;simp only[iz];refine jD (a03 j ?_);have c:=R.w.pushA C.sa h hle;rw[<- fA]at c
 by_cases e:u=0
 ·rw[if_pos (by simpa using e)];exact jF (H.dn _ _ _ (SG.refl _) (by rw[a4d];exact c.doneA C.sa C.sb (.inl e)))
 ·rw[if_neg (by simpa using e)];have d:RdH κ a b _ u v:=⟨c,by omega,f⟩
  split
  ·exact jF (H.br _ _ _ _ _ _ _ (SG.refl _) d (by omega))
  ·exact jF (H.go _ _ _ _ _ _ _ (SG.refl _) d (by omega))
theorem a3L {l:List Keyed}(h:y∈l.take n):∃ q,q<n/\l[q]?=some y:=by
 obtain⟨m,a⟩:=gn h;have b:=(eJ.mp a).1;rw[iA]at a
 split at a
 ·exact⟨m,by omega,a⟩
 ·grind
theorem b8H (C:MC M A E s κ k0 ajj a b) (hk:kindOf st=k0) (R:RdH κ a b o (u+1) (v+1)) (hle:∀ y∈a.toList.take (u+1),κ y<=Kk κ b v) (H:HG st κ a b n Q) (hn:u+v<n):wpS M A E s (hi4 a b (u+1) (v+1) o g ac bc) Q st:=by
 have I:=R.ua;have G:=R.vb;have F:=R.hv;have B:b[v]?=some b[v]:=getElem?_pos ..;have x:=a1g (a:=b) (i:=v) (by omega);have t:a[u]?=some a[u]:=getElem?_pos ..;have r:=a1g (a:=a) (i:=u) (by omega);rw[a1s (show v<b.size by omega)]at hle;unfold hi4;simp only[iz];refine jD (a03 B ?_);have d:=R.w.pushB C.sb x hle;rw[<- fA]at d
 by_cases e:v=1
 ·rw[if_pos (by simpa using e)];subst e;exact jF (H.dn _ _ _ (SG.refl _) (by rw[a5t];exact d.doneB C.sa C.sb C.first))
 ·rw[if_neg (by simpa using e)];refine jD (a03 t (jD ?_));refine a3j C.L hk (C.ha _ (eR r)) C.hb (by omega) (by omega) (a4c C.sb (by omega)) λp D j h=>?_;dsimp only;simp only[ic]at j h;have c:∀ y∈b.toList.take p,κ y<=Kk κ a u:=λy k=>by
   obtain⟨q,m,l⟩:=a3L k
   have:=j q m
   rw[a5O l]at this;simp[bq]at this;rw[a1s (show u<a.size by omega)];omega
  split
  ·have f:=MH.runB C.sb (v - p) (by rw[show p+(v - p)=v by omega];exact d) λq z m J l y k=>by
    have:=h q m (by omega)
    rw[a5O l]at this;simp[bq]at this;exact eY (a3k C.sa r y k) this
   rw[<- a9W]at f
   by_cases e1:p=1
   ·rw[if_pos (by simpa using e1)];subst e1;exact jF (H.dn _ _ _ (SG.refl _) (by rw[a5t];exact f.doneB C.sa C.sb C.first))
   ·rw[if_neg (by simpa using e1)]
    by_cases e2:p=0
    ·rw[if_pos (by simpa using e2)];exact jF (H.dn _ _ _ (SG.refl _) (by rw[a4d];exact f.doneA C.sa C.sb (.inr e2)))
    ·rw[if_neg (by simpa using e2)];exact b8G C ⟨f,by omega,by omega⟩ c H (by omega)
  ·have:p=v:=by omega
   subst this;exact b8G C ⟨d,by omega,by omega⟩ c H (by omega)
theorem c0R (C:MC M A E s κ k0 ajj a b) (hk:kindOf st=k0) (R:RdH κ a b o (u+1) (v+1)) (H:HG st κ a b n Q) (hn:u+v<n):wpS M A E s (hi3 a b (u+1) (v+1) o g ac bc) Q st:=by
 have S:=R.ua;have N:=R.vb;have F:=R.hv;have I:b[v]?=some b[v]:=getElem?_pos ..;have D:=a1g (a:=b) (i:=v) (by omega);unfold hi3;rw[a7l];refine jD (j3 ?_);have h:SG st (SortSt.mk' _ _ _ g _):=⟨rfl,rfl,rfl,rfl⟩;have e:kindOf (SortSt.mk' _ (arrOf st) (jJ st) g (jX st))=k0:=hk;generalize SortSt.mk' _ (arrOf st) (jJ st) g (jX st)=st1 at h e;have l:HG st1 κ a b n Q:=⟨λr c d g=>H.dn r c d (h.trans g),λ_ _ _ _ _ _ d g=>H.br _ _ _ _ _ _ d (h.trans g),λ_ _ _ _ _ _ d g=>H.go _ _ _ _ _ _ d (h.trans g)⟩;refine jD (a03 I (jD ?_));refine a3j C.L e (C.hb _ (eR D)) C.ha (by omega) (by omega) (a4c C.sa (by omega)) λp J k j=>?_;dsimp only;simp at k j;have f:∀ y∈a.toList.take p,κ y<=Kk κ b v:=λy m=>by
  obtain⟨q,B,x⟩:=a3L m
  have:=k q B
  rw[a5O x]at this;simp[bq]at this;rw[a1s _];omega
 split
 ·have t:=MH.runA C.sa _ (by rw[show p+(u+1 - p)=u+1 by omega];exact R.w) λq z B T x y m=>by
   have:=j q B (by omega)
   rw[a5O x]at this;simp[bq]at this;exact eY (a3k C.sb D y m) (fz this)
  rw[<- a9W]at t
  by_cases e1:p=0
  ·rw[if_pos (by simpa using e1)];exact jF (l.dn _ _ _ (SG.refl _) (by rw[a4d];exact t.doneA C.sa C.sb (.inl e1)))
  ·rw[if_neg (by simpa using e1)];obtain⟨G,rfl⟩:∃ G,p=G+1:=⟨p - 1,by omega⟩;exact b8H C e ⟨t,by omega,F⟩ f l (by omega)
 ·have:p=u+1:=by omega
  subst this;exact b8H C e R f l (by omega)
theorem c0S (C:MC M A E s κ k0 ajj a b) (hk:kindOf st=k0) (R:RdH κ a b o (u+1) (v+1)) (H:HG st κ a b n Q) (hn:u+v<n):wpS M A E s (hi2 a b (u+1) (v+1) o g ac bc) Q st:=by
 unfold hi2
 split<;>exact c0R C hk R H hn
theorem b34 (C:MC M A E s κ k0 ajj a b):MH κ a.toList b.toList [a[a.size - 1]'(by have:=C.h0;omega)] (a.size - 1) b.size:=by
 have f:=C.h0;have c:=a1g (a:=a) (i:=a.size - 1) (by omega);have d:MH κ a.toList b.toList [] (a.size - 1+1) b.size:=⟨by rw[a1G];omega,by rw[a1G];omega,by rw[ft (by rw[a1G];omega),ft (by rw[a1G];omega)];simp,.nil,λx h=>by simp at h,λx h=>by simp at h⟩;exact d.pushA C.sa c λy e=>C.hl _ (by simp) y (fI e)
theorem b2k (C:MC M A E s κ k0 ajj a b) (hk:kindOf st=k0)
  (h:∀ r st',SG st st'->Mgd κ a.toList b.toList r.toList->Q r st'):wpS M A E s (a7m a b) Q st:=by
 have h0:=C.h0;have h1:=C.h1;rw[a8a];refine a6N ?_;refine jD (a03 (getElem?_pos a (a.size - 1) (by omega)) ?_);have V:=b34 C
 by_cases e1:a.size - 1=0
 ·rw[if_pos (by simpa using e1)];exact jF (h _ _ (SG.refl _) (by rw[a4d];exact V.doneA C.sa C.sb (.inl e1)))
 rw[if_neg (by simpa using e1)]
 by_cases e2:b.size=1
 ·rw[if_pos (by simpa using e2)];refine jF (h _ _ (SG.refl _) ?_);rw[e2]at V;rw[a5t,e2];exact V.doneB C.sa C.sb C.first
 rw[if_neg (by simpa using e2)];refine jD (j1 ?_);have R0:RdH κ a b #[a[a.size - 1]] (a.size - 1) b.size:=⟨V,by omega,by omega⟩;refine jD (jU (jS (I:=λx c e=>∃ o u v g,c=(none,u,v,o,g)/\SG st e/\RdH κ a b o u v/\x+(u+v)<a.size+b.size)
  (Q:=λc e=>∃ r G,c=(some r,G)/\SG st e/\Mgd κ a.toList b.toList r.toList) ?step ?fin ⟨_,_,_,_,rfl,SG.refl _,R0,by omega⟩) ?post)
 case post=>
  rintro c e ⟨r,G,rfl,L,m⟩;exact jF (h r e L m)
 case fin=>
  rintro c e ⟨o,u,v,g,rfl,L,R,hx⟩;omega
 case step=>
  rintro x c e _ hx ⟨o,u,v,g,rfl,L,R,hxi⟩;dsimp only;have hk1:kindOf e=k0:=L.kd.trans hk;refine jD (jU (jS (I:=λy c l=>∃ D f i S J,c=(none,f,i,D,S,J)/\l=e/\RdH κ a b D f i/\f+i+y<=u+v)
   (Q:=λc l=>l=e/\((∃ r G,c=(some r,G)/\Mgd κ a.toList b.toList r.toList)\/∃ D f i S J,c=(none,f,i,D,S,J)/\RdH κ a b D f i/\f+i<=u+v)) ?st1 ?fi1 ⟨_,_,_,_,_,rfl,rfl,R,by omega⟩) ?po1)
  case fi1=>
   rintro c l ⟨D,f,i,S,J,rfl,rfl,H,Y⟩;exact⟨rfl,.inr ⟨_,_,_,_,_,rfl,H,by omega⟩⟩
  case st1=>
   rintro y c l _ Y ⟨D,f,i,S,J,rfl,rfl,H,hyi⟩;dsimp only;have hu1:=H.hu;have hv1:=H.hv;obtain⟨f,rfl⟩:∃ z,f=z+1:=⟨f - 1,by omega⟩;obtain⟨i,rfl⟩:∃ z,i=z+1:=⟨i - 1,by omega⟩;refine c0Q C hk1 H (λr c m=>⟨rfl,.inl ⟨r,c,rfl,m⟩⟩) (λo2 i2 j2 u v R2 U=>⟨rfl,.inr ⟨_,_,_,_,_,rfl,R2,by omega⟩⟩) λo2 i2 j2 u v R2 U=>⟨_,_,_,_,_,rfl,rfl,R2,by omega⟩
  case po1=>
   rintro c l ⟨rfl,⟨r,G,rfl,m⟩ | ⟨D,f,i,S,J,rfl,H,hij⟩⟩
   ·exact jF ⟨r,_,rfl,L,m⟩
   ·dsimp only;refine a6N ?_;refine jD (jU (jS (I:=λy c p=>∃ B k j N q t,c=(none,k,j,B,N,q,t)/\SG st p/\RdH κ a b B k j/\k+j+y<=f+i)
     (Q:=λc p=>SG st p/\((∃ r G,c=(some r,G)/\Mgd κ a.toList b.toList r.toList)\/∃ B k j N q t,c=(none,k,j,B,N,q,t)/\RdH κ a b B k j/\k+j<f+i)) ?l ?fi2 ⟨_,_,_,_,_,_,rfl,L,H,by omega⟩) ?po2)
    case fi2=>
     rintro c p ⟨B,k,j,N,q,t,rfl,d,F,Y⟩;exact⟨d,.inr ⟨_,_,_,_,_,_,rfl,F,by have:=F.hu;omega⟩⟩
    case l=>
     rintro y c p _ Y ⟨B,k,j,N,q,t,rfl,d,F,hyi⟩;dsimp only;have hu1:=F.hu;have hv1:=F.hv;obtain⟨k,rfl⟩:∃ z,k=z+1:=⟨k - 1,by omega⟩;obtain⟨j,rfl⟩:∃ z,j=z+1:=⟨j - 1,by omega⟩;refine c0S (n:=k+1+(j+1)) C (d.kd.trans hk) F ⟨λr c W T m=>⟨d.trans T,.inl ⟨r,c,rfl,m⟩⟩,λo4 i4 j4 u v w W T X U=>⟨d.trans T,.inr ⟨_,_,_,_,_,_,rfl,X,by omega⟩⟩,λo4 i4 j4 u v w W T X U=>⟨_,_,_,_,_,_,rfl,d.trans T,X,by omega⟩⟩ (by omega)
    case po2=>
     rintro c p ⟨d,⟨r,G,rfl,m⟩ | ⟨B,k,j,N,q,t,rfl,F,U⟩⟩
     ·exact jF ⟨r,_,rfl,d,m⟩
     ·dsimp only;rw[a7l];refine jD (j3 (jF ?_));exact⟨_,_,_,_,rfl,⟨d.kd,d.ar,d.pe,d.fl⟩,F,by omega⟩
end
noncomputable def SR (κ:KF) (xs:Array Keyed) (lo n:Nat):Prop:=∀ i j,i<=j->j<n->Kk κ xs (lo+i)<=Kk κ xs (lo+j)
noncomputable def NR (κ:KF) (xs:Array Keyed) (lo n:Nat):Prop:=∀ i j,i<=j->j<n->Kk κ xs (lo+j)<=Kk κ xs (lo+i)
structure Ar (st st':SortSt) (lo:Nat):Prop where
 pm:(arrOf st').Perm (arrOf st)
 pre:∀ i,i<lo->(arrOf st')[i]?=(arrOf st)[i]?
 kd:kindOf st'=kindOf st
 pe:jJ st'=jJ st
 fl:jX st'=jX st
section
variable {M:Model}{A:Around}{E:Value->Shared->Prop}{s:Shared}{κ:KF}{k0:j0}{ajj:Array Keyed}{st st':SortSt}{lo:Nat}
theorem Ar.refl (st:SortSt) (lo:Nat):Ar st st lo:=⟨gL.refl _,λ_ _=>rfl,rfl,rfl,rfl⟩
theorem Ar.trans (p:Ar x y lo) (q:Ar y z lo):Ar x z lo:=⟨q.pm.trans p.pm,λi h=>(q.pre i h).trans (p.pre i h),q.kd.trans p.kd,q.pe.trans p.pe,q.fl.trans p.fl⟩
theorem Ar.tb (q:Ar st st' lo) (B:TB k0 ajj st):TB k0 ajj st':=⟨q.pm.trans B.pm,q.kd.trans B.kd,q.fl.trans B.fl⟩
theorem b46 (hs:src<xs.size) (hd:d<=src) (k:Nat) :
  Kk κ (bubble xs src d) k=if k=src - d then Kk κ xs src else if src - d<k/\k<=src then Kk κ xs (k - 1) else Kk κ xs k:=by
 have q:=getElem?_bubble hs d hd k
 by_cases h1:k=src - d
 ·rw[if_pos h1]at q ⊢;exact a5N q
 ·rw[if_neg h1]at q ⊢
  by_cases h2:src - d<k/\k<=src
  ·rw[if_pos h2]at q ⊢;exact a5N q
  ·rw[if_neg h2]at q ⊢;exact a5N q
theorem Ar.bub (hs:src<(arrOf st).size) (hd:d<=src) (h:lo<=src - d):Ar st (setArr st (bubble (arrOf st) src d)) lo:=
 ⟨bubble_perm _ _ _,λi a=>by
  rw[getElem?_bubble hs d hd,if_neg (by omega),if_neg (by omega)],rfl,rfl,rfl⟩
theorem b2l (hj:j<=xs.size) (k:Nat):Kk κ (mirror xs i j ((j - i) / 2)) k=if i<=k/\k<j then Kk κ xs (i+j - 1 - k) else Kk κ xs k:=by
 have q:=getElem?_mirror_all (i:=i) hj k
 by_cases h1:i<=k/\k<j
 ·rw[if_pos h1]at q ⊢;exact a5N q
 ·rw[if_neg h1]at q ⊢;exact a5N q
theorem a5P (hj:j<=xs.size) (hq:∀ k,i<=k->k<j->Kk κ xs k=Kk κ xs (j - 1)) (k:Nat):Kk κ (mirror xs i j ((j - i) / 2)) k=Kk κ xs k:=by
 rw[b2l hj]
 split
 ·grind
 ·rfl
theorem Ar.mir (hj:j<=(arrOf st).size) (h:lo<=i):Ar st (setArr st (mirror (arrOf st) i j ((j - i) / 2))) lo:=
 ⟨mirror_perm _ _ _ _,λk a=>by
  rw[getElem?_mirror_all hj,if_neg (by omega)],rfl,rfl,rfl⟩
theorem b35 (L:LtOk M A E s κ k0 ajj) (B:TB k0 ajj st) (hn:lo+n<=ajj.size) (hok:ok<=n) (hs:SR κ (arrOf st) lo ok)
  (h:∀ st',Ar st st' lo->SR κ (arrOf st') lo n->Q true st'):wpS M A E s (binarySort' lo n ok) Q st:=by
 rw[binarySort'_eq];refine jD (jU (jS (I:=λk c z=>c=(none,())/\Ar st z lo/\SR κ (arrOf z) lo (min k n)) (Q:=λc z=>c=(none,())/\Ar st z lo/\SR κ (arrOf z) lo n) ?step ?fin ?init) ?post)
 case post=>
  rintro c z ⟨rfl,r1,r2⟩;exact jF (h z r1 r2)
 case init=>
  refine⟨rfl,Ar.refl _ _,λi j hij hj=>?_⟩
  by_cases h1:ok=0
  ·have:i=j:=by omega
   rw[this];exact fc _
  ·exact hs i j hij (by omega)
 case fin=>
  rintro c z ⟨hc,r1,r2⟩;refine⟨hc,r1,?_⟩
  rwa [show min (max (max ok 1) n) n=n by omega]at r2
 case step=>
  rintro k c z hak hkn ⟨rfl,r1,r2⟩;rw[show min k n=k by omega]at r2;have B1:=r1.tb B;refine jD (jU (jS (I:=λx c y=>y=z/\∃ p q,c=(none,p,q)/\p<=q/\q<=k/\q - p<=k - x/\(∀ i,i<p->Kk κ (arrOf z) (lo+i)<=Kk κ (arrOf z) (lo+k))/\(∀ i,q<=i->i<k->Kk κ (arrOf z) (lo+k)<Kk κ (arrOf z) (lo+i)))
   (Q:=λc y=>y=z/\∃ p q,c=(none,p,q)/\p<=k/\(∀ i,i<p->Kk κ (arrOf z) (lo+i)<=Kk κ (arrOf z) (lo+k))/\(∀ i,p<=i->i<k->Kk κ (arrOf z) (lo+k)<Kk κ (arrOf z) (lo+i))) ?istep ?ifin ?iinit) ?ipost)
  case iinit=>exact⟨rfl,0,k,rfl,by omega,by omega,by omega,λi hi=>by omega,λi h1 h2=>by omega⟩
  case ifin=>
   rintro c y ⟨rfl,p,q,rfl,u1,u2,u3,u4,u5⟩
   have:p=q:=by omega
   subst this;exact⟨rfl,p,p,rfl,u2,u4,u5⟩
  case istep=>
   rintro x c y _ hxk ⟨rfl,p,q,rfl,u1,u2,u3,u4,u5⟩;dsimp only
   by_cases hge:p>=q
   ·rw[if_pos hge]
    have:p=q:=by omega
    subst this;exact jF ⟨rfl,p,p,rfl,u2,u4,u5⟩
   ·rw[if_neg hge];refine jD (a78 L B1 (by omega) (by omega) ?_)
    by_cases hless:Kk κ (arrOf y) (lo+k)<Kk κ (arrOf y) (lo+(p+q) / 2)
    ·simp only[hless,decide_true,if_true];refine jF ⟨rfl,p,(p+q) / 2,rfl,by omega,by omega,by omega,u4,λi h1 h2=>?_⟩;exact Int.lt_of_lt_of_le hless (r2 _ _ h1 h2)
    ·simp only[hless,decide_false,gM,if_false];refine jF ⟨rfl,(p+q) / 2+1,q,rfl,by omega,by omega,by omega,λi h1=>?_,u5⟩;exact eY (r2 i ((p+q) / 2) (by omega) (by omega)) (h8.mp hless)
  case ipost=>
   rintro c y ⟨rfl,p,q,rfl,u2,u4,u5⟩
   show wpS _ _ _ _ (do moveDown' (lo+k) (lo+p);pure (ForInStep.yield (none,()))) _ _
   rw[moveDown'_eq];have hks:lo+k<(arrOf y).size:=by rw[B1.sz];omega
   refine jD (j3 (jF ⟨rfl,r1.trans (Ar.bub hks (by omega) (by omega)),?_⟩));rw[show min (k+1) n=k+1 by omega];intro i j hij hj
   show Kk κ (bubble (arrOf y) (lo+k) (lo+k - (lo+p))) (lo+i)<=Kk κ (bubble (arrOf y) (lo+k) (lo+k - (lo+p))) (lo+j)
   rw[b46 hks (by omega),b46 hks (by omega),show lo+k - (lo+k - (lo+p))=lo+p by omega];have ek:∀ t,1<=t->lo+t - 1=lo+(t - 1):=λt ht=>by omega
   repeat' split
   all_goals first
    | (exfalso;omega)
    | exact fc _
    | exact u4 _ (by omega)
    | (rw[ek _ (by omega)];exact u4 _ (by omega))
    | exact fz (u5 _ (by omega) (by omega))
    | (rw[ek _ (by omega)];exact fz (u5 _ (by omega) (by omega)))
    | exact r2 _ _ (by omega) (by omega)
    | (rw[ek j (by omega)];exact r2 _ _ (by omega) (by omega))
    | (rw[ek i (by omega)];exact r2 _ _ (by omega) (by omega))
    | (rw[ek i (by omega),ek j (by omega)];exact r2 _ _ (by omega) (by omega))
end
abbrev U1:=Option (Option Nat)×Nat
abbrev U2:=Option (Option Nat)×Nat×Nat
noncomputable def rise (lo p nr:Nat):SM U1:=forIn [p:nr] ((none,p):U1) λ_ c=>do
 let x <- ltAt' (lo+c.2) (lo+c.2 - 1)
 match x with
 | some sm=>if sm=true then pure (.done (none,c.2)) else pure (.yield (none,c.2+1))
 | _=>pure (.done (some none,c.2))
noncomputable def fin3 (lo n nr:Nat):SM (Option Nat):=do
 kE lo (lo+n)
 let c <- rise lo n nr
 match c.1 with
 | some r=>pure r
 | none=>pure (some c.2)
noncomputable def fall (lo n nr:Nat):SM U2:=forIn [n:nr] ((none,n,0):U2) λ_ c=>do
 let x <- ltAt' (lo+c.2.1) (lo+c.2.1 - 1)
 match x with
 | some sm=>
  if sm=true then
   if c.2.2 > 0 then do
    kE (lo+c.2.1 - (c.2.2+1)) (lo+c.2.1)
    pure (.yield (none,c.2.1+1,0))
   else pure (.yield (none,c.2.1+1,0))
  else do
   let x <- ltAt' (lo+c.2.1 - 1) (lo+c.2.1)
   match x with
   | some lg=>if lg=true then pure (.done (none,c.2.1,c.2.2)) else pure (.yield (none,c.2.1+1,c.2.2+1))
   | _=>pure (.done (some none,c.2.1,c.2.2))
 | _=>pure (.done (some none,c.2.1,c.2.2))
noncomputable def part (lo n nr:Nat):SM (Option Nat):=do
 liftM (rule "list.sort.descending-run")
 let c <- fall lo (n+1) nr
 match c.1 with
 | some r=>pure r
 | none=>
  if c.2.2 > 0 then do
   kE (lo+c.2.1 - (c.2.2+1)) (lo+c.2.1)
   fin3 lo c.2.1 nr
  else fin3 lo c.2.1 nr
theorem a7n (lo nr:Nat):countRun' lo nr=(do
  let c <- rise lo 1 nr
  match c.1 with
  | some r=>pure r
  | none=>
   if (c.2==nr)=true then pure (some c.2)
   else if c.2 > 1 then do
    let x <- ltAt' lo (lo+c.2 - 1)
    match x with
    | some up=>if up=true then pure (some c.2) else do
      kE lo (lo+c.2)
      part lo c.2 nr
    | _=>pure none
   else part lo c.2 nr):=by
 have a:∀ n,(do
   kE lo (lo+n)
   let c <- rise lo n nr
   match c.1 with
   | some r=>pure r
   | none=>pure (some c.2))=fin3 lo n nr:=λn=>rfl
 rw[countRun'_eq];refine bd2 rfl λc=>?_;obtain⟨r,n⟩:=c;have b:∀ n,part lo n nr=part lo n nr:=λn=>rfl;cases r with
 | some r=>rfl
 | none=>
  dsimp only
  split
  ·rfl
  ·split
   ·refine bind_congr λx=>?_;cases x with
    | none=>rfl
    | some up=>
     dsimp only
     split
     ·rfl
     ·refine bind_congr λ_=>bind_congr λ_=>bd2 rfl λc=>?_;obtain⟨r,n,q⟩:=c;cases r with
      | some r=>rfl
      | none=>
       dsimp only
       split
       ·refine bind_congr λ_=>bind_congr λ_=>bd2 rfl λc=>?_;obtain⟨r,n⟩:=c;cases r<;>rfl
       ·refine bind_congr λ_=>bd2 rfl λc=>?_;obtain⟨r,n⟩:=c;cases r<;>rfl
   ·refine bind_congr λ_=>bd2 rfl λc=>?_;obtain⟨r,n,q⟩:=c;cases r with
    | some r=>rfl
    | none=>
     dsimp only
     split
     ·refine bind_congr λ_=>bind_congr λ_=>bd2 rfl λc=>?_;obtain⟨r,n⟩:=c;cases r<;>rfl
     ·refine bind_congr λ_=>bd2 rfl λc=>?_;obtain⟨r,n⟩:=c;cases r<;>rfl
section
variable {M:Model}{A:Around}{E:Value->Shared->Prop}{s:Shared}{κ:KF}{k0:j0}{ajj:Array Keyed}{st:SortSt}{lo nr:Nat}
theorem b36 {α:Type}{f:Unit->SM α}{Q:α->SortSt->Prop}(h:wpS M A E s (f ()) Q (setArr st (mirror (arrOf st) i j ((j - i) / 2)))):wpS M A E s (kE i j >>= f) Q st:=jD (j3 h)
theorem SR.one:SR κ xs lo 1:=by grind [SR]
theorem SR.snoc (h:SR κ xs lo n) (h1:1<=n) (c:Kk κ xs (lo+n - 1)<=Kk κ xs (lo+n)):SR κ xs lo (n+1):=λi j a b=>by
 by_cases hjn:j<n
 ·exact h i j a hjn
 ·have e:j=n:=by omega
  subst e
  by_cases e2:i=j
  ·rw[e2];exact fc _
  ·refine eY (h i (j - 1) (by omega) (by omega)) ?_;rw[show lo+(j - 1)=lo+j - 1 by omega];exact c
theorem NR.snoc (h:NR κ xs lo n) (h1:1<=n) (c:Kk κ xs (lo+n)<=Kk κ xs (lo+n - 1)):NR κ xs lo (n+1):=λi j a b=>by
 by_cases hjn:j<n
 ·exact h i j a hjn
 ·have e:j=n:=by omega
  subst e
  by_cases e2:i=j
  ·simp_all
  ·refine eY ?_ (h i (j - 1) (by omega) (by omega));rw[show lo+(j - 1)=lo+j - 1 by omega];exact c
theorem NR.congr (h:NR κ xs lo n) (e:∀ k,Kk κ ys k=Kk κ xs k):NR κ ys lo n:=λi j b a=>by rw[e,e];exact h i j b a
theorem b47 (L:LtOk M A E s κ k0 ajj) (B:TB k0 ajj st) (hn:lo+nr<=ajj.size) (hp:1<=p) (hpn:p<=nr) (hs:SR κ (arrOf st) lo p)
  (h:∀ n,p<=n->n<=nr->SR κ (arrOf st) lo n->(n=nr\/Kk κ (arrOf st) (lo+n)<Kk κ (arrOf st) (lo+n - 1))->Q (none,n) st):wpS M A E s (rise lo p nr) Q st:=by
 refine jS (I:=λx c z=>z=st/\c=(none,x)/\SR κ _ lo x) ?step ?fin ⟨rfl,rfl,hs⟩
 case fin=>
  rintro c z ⟨rfl,rfl,a⟩;rw[show max p nr=nr by omega]at a ⊢;exact h nr hpn (eB _) a (.inl rfl)
 case step=>
  rintro x c z b d ⟨rfl,rfl,a⟩;refine jD (a78 L B (by omega) (by omega) ?_)
  by_cases q:Kk κ (arrOf z) (lo+x)<Kk κ (arrOf z) (lo+x - 1)
  ·simp only[q];exact jF (h x b (by omega) a (.inr q))
  ·simp only[q];exact jF ⟨rfl,rfl,a.snoc (by omega) (h8.mp q)⟩
theorem b48 (L:LtOk M A E s κ k0 ajj) (B:TB k0 ajj st) (hn:lo+nr<=ajj.size) (h1:1<=n) (hnn:n<=nr) (hs:NR κ (arrOf st) lo n)
  (h:∀ m z,Ar st z lo->1<=m->m<=nr->SR κ (arrOf z) lo m->Q (some m) z):wpS M A E s (fin3 lo n nr) Q st:=by
 have a:lo+n<=(arrOf st).size:=by rw[B.sz];omega
 refine b36 ?_;have b:Ar st _ lo:=Ar.mir a (eB _);refine jD (b47 L (b.tb B) hn h1 hnn ?_ λm g d c _=>jF (h m _ b (by omega) d c));intro i j e f;rw[b2l a,b2l a,if_pos (by omega),if_pos (by omega),show lo+_ - 1 - _=lo+(n - 1 - i) by omega,show lo+_ - 1 - _=lo+(n - 1 - j) by omega];exact hs _ _ (by omega) (by omega)
theorem b8I (L:LtOk M A E s κ k0 ajj) (B:TB k0 ajj st) (hn:lo+nr<=ajj.size) (h1:1<=n) (hnn:n<=nr) (hs:NR κ (arrOf st) lo n)
  (h:∀ m e z,Ar st z lo->n<=m->m<=nr->NR κ (arrOf z) lo m->e+1<=m->(∀ i,lo+m - (e+1)<=i->i<lo+m->Kk κ (arrOf z) i=Kk κ (arrOf z) (lo+m - 1))->Q (none,m,e) z):wpS M A E s (fall lo n nr) Q st:=by
 unfold fall;refine jS (I:=λx c z=>∃ e,c=(none,x,e)/\Ar st z lo/\NR κ (arrOf z) lo x/\e+1<=x/\(∀ i,lo+x - (e+1)<=i->i<lo+x->Kk κ (arrOf z) i=Kk κ (arrOf z) (lo+x - 1))) ?step ?fin ⟨0,rfl,Ar.refl _ _,hs,by omega,λi l a=>by congr 1;omega⟩
 case fin=>
  rintro c z ⟨e,rfl,b,a,f,d⟩;rw[show max n nr=nr by omega]at a f d ⊢;exact h nr e z b hnn (eB _) a f d
 case step=>
  rintro x c z p r ⟨e,rfl,b,a,f,d⟩;dsimp only;have k:=b.tb B;have j:lo+x<=(arrOf z).size:=by rw[k.sz];omega
  refine jD (a78 L k (by omega) (by omega) ?_)
  by_cases q:Kk κ (arrOf z) (lo+x)<Kk κ (arrOf z) (lo+x - 1)
  ·simp only[q,decide_true,if_true];have o:=a.snoc (by omega) (fz q)
   by_cases g:e > 0
   ·rw[if_pos g];exact b36 (jF ⟨0,rfl,b.trans (Ar.mir j (by omega)),o.congr (a5P j d),by omega,λi l a=>by congr 1;omega⟩)
   ·rw[if_neg g];exact jF ⟨0,rfl,b,o,by omega,λi l a=>by congr 1;omega⟩
  ·simp only[q,decide_false,if_false];refine jD (a78 L k (by omega) (by omega) ?_)
   by_cases q2:Kk κ (arrOf z) (lo+x - 1)<Kk κ (arrOf z) (lo+x)
   ·simp only[q2,decide_true,if_true];exact jF (h x e z b p (by omega) a f d)
   ·simp only[q2,decide_false,if_false];have g:Kk κ (arrOf z) (lo+x)=Kk κ (arrOf z) (lo+x - 1):=by omega
    refine jF ⟨e+1,rfl,b,a.snoc (by omega) (by omega),by omega,λi l a=>?_⟩;rw[show lo+(x+1) - 1=lo+x by omega]
    by_cases hix:i=lo+x
    ·rw[hix]
    ·grind
theorem b49 (L:LtOk M A E s κ k0 ajj) (B:TB k0 ajj st) (hn:lo+nr<=ajj.size) (hnn:n+1<=nr) (hs:NR κ (arrOf st) lo (n+1))
  (h:∀ m z,Ar st z lo->1<=m->m<=nr->SR κ (arrOf z) lo m->Q (some m) z):wpS M A E s (part lo n nr) Q st:=by
 refine a6N ?_;refine jD (b8I L B hn (by simp) hnn hs λm e z c l i g o j=>?_);dsimp only;have f:=c.tb B;have a:lo+m<=(arrOf z).size:=by rw[f.sz];omega
 by_cases he:e > 0
 ·rw[if_pos he];have d:Ar st (setArr z (mirror (arrOf z) (lo+m - (e+1)) _ _)) lo:=c.trans (Ar.mir a (by omega));exact b36 (b48 L (d.tb B) hn (by omega) i (g.congr (a5P a j)) λk w b=>h k w (d.trans b))
 ·rw[if_neg he];exact b48 L f hn (by omega) i g λk w b=>h k w (c.trans b)
theorem b6j (L:LtOk M A E s κ k0 ajj) (B:TB k0 ajj st) (hn:lo+nr<=ajj.size) (h1:1<=nr)
  (h:∀ m z,Ar st z lo->1<=m->m<=nr->SR κ (arrOf z) lo m->Q (some m) z):wpS M A E s (countRun' lo nr) Q st:=by
 rw[a7n];refine jD (b47 L B hn (eB 1) h1 SR.one λn e l b t=>?_);dsimp only
 by_cases hnn:n=nr
 ·rw[if_pos (by simpa using hnn)];exact jF (h n st (Ar.refl _ _) e l b)
 ·rw[if_neg (by simpa using hnn)];have d:=t.resolve_left hnn;have c:lo+n<=(arrOf st).size:=by rw[B.sz];omega
  by_cases hgt:n > 1
  ·rw[if_pos hgt];refine jD (a78 L B (by omega) (by omega) ?_)
   by_cases q:Kk κ (arrOf st) lo<Kk κ (arrOf st) (lo+n - 1)
   ·simp only[q,decide_true,if_true];exact jF (h n st (Ar.refl _ _) e l b)
   ·simp only[q,if_false];have a:∀ k,lo<=k->k<lo+n->Kk κ (arrOf st) k=Kk κ (arrOf st) (lo+n - 1):=λk y x=>by
     have g:=b 0 (k - lo) (by omega) (by omega);have f:=b (k - lo) (n - 1) (by omega) (by omega);rw[show lo+(k - lo)=k by omega]at g f;rw[show lo+(n - 1)=lo+n - 1 by omega]at f;rw[iB]at g;omega
    have o:Ar st _ lo:=Ar.mir c (eB _);have u:NR κ (arrOf st) lo (n+1):=by
     refine NR.snoc (λi j p r=>?_) (by omega) (fz d);rw[a (lo+i) (by omega) (by omega),a (lo+j) (by omega) (by omega)];exact fc _
    exact b36 (b49 L (o.tb B) hn (by omega) (u.congr (a5P c a)) λk w v=>h k w (o.trans v))
  ·rw[if_neg hgt]
   have:n=1:=by omega
   subst this;refine b49 L B hn (by omega) ?_ h;refine NR.snoc (λi j p r=>?_) (by omega) (fz d)
   have:i=j:=by omega
   rw[this];exact fc _
end
theorem a9e (i:Nat):lR i=(do
 let z <- get
 let (some (p,n,w),some (q,m,_)):=((jJ z)[i]?,(jJ z)[i+1]?) | lh "internal:list.sort.pending"
 set (kO z (((jJ z).setIfInBounds i (p,n+m,w)).eraseIdxIfInBounds (i+1)))
 let some k <- a2f false (<- elem' (arrOf z) q) (arrOf z) p n 0 | return false
 let (p,n):=(p+k,n - k)
 if n==0 then return true
 let some m <- a2f true (<- elem' (arrOf z) (p+n - 1)) (arrOf z) q m (m - 1) | return false
 if m==0 then return true
 let x:=(arrOf z).extract p q
 let y:=(arrOf z).extract q (q+m)
 let mg <- if n<=m then a5r x y else a7m x y
 modify λz=>setArr z (mg.toList.zipIdx.foldl (λa (v,j)=>a.setIfInBounds (p+j) v) (arrOf z))
 return (jX (<- get)).isNone):=rfl
theorem a9X (bs:Nat):∀ (l:List Keyed) (k:Nat) (xs:Array Keyed),bs+k+l.length<=xs.size ->
  ((l.zipIdx k).foldl (λa (pj:Keyed×Nat)=>a.setIfInBounds (bs+pj.2) pj.1) xs).toList=xs.toList.take (bs+k)++(l++xs.toList.drop (bs+k+l.length))
 | [],k,xs,_=>by simp
 | x::l,k,xs,h=>by
  rw[eF]at h;rw[List.zipIdx_cons,List.foldl_cons,a9X bs l _ _ (by grind)];have e:(xs.setIfInBounds (bs+k) x).toList=xs.toList.set (bs+k) x:=by simp
  rw[e,show bs+_=bs+k+1 by omega,List.drop_set_of_lt (by omega),eF,show bs+k+1+l.length=bs+k+(l.length+1) by omega]
  have:(xs.toList.set (bs+k) x).take (bs+k+1)=xs.toList.take (bs+k)++[x]:=by
   rw[fq,List.take_set_of_le (eB _),io (by grind)]
   rfl
  rw[this];simp
section
variable {M:Model}{A:Around}{E:Value->Shared->Prop}{s:Shared}{κ:KF}{k0:j0}{ajj:Array Keyed}{st:SortSt}
theorem c0T (h:Q ⟨⟩ z):wpS M A E s (set z:SM PUnit) Q st:=jK ⟨rfl,h⟩
theorem b5a (e:xs.toList=P++(X++R)) (hi:i<X.length):Kk κ xs (P.length+i)=κ X[i]:=by
 refine a5O ?_;rw[e,g4 (by simp),iq (by omega),show P.length+i - P.length=i by omega];exact eQ hi
theorem a4e (h:Srt κ X) (hij:i<=j) (hj:j<X.length):κ (X[i]'(by omega))<=κ X[j]:=by
 by_cases e:i=j
 ·subst e;exact fc _
 ·exact gm.mp h i j (by omega) hj (by omega)
theorem a9Y {X:List Keyed}(h:x∈X):∃ i,∃ (hi:i<X.length),X[i]=x:=List.mem_iff_getElem.mp h
theorem a8b {X:List Keyed}(h:x∈X.take k):∃ i,∃ (hi:i<X.length),i<k/\X[i]=x:=by
 obtain⟨q,a,d⟩:=a3L h;obtain⟨b,c⟩:=eJ.mp d;exact⟨q,b,a,c⟩
theorem a9Z {X:List Keyed}(h:x∈X.drop k):∃ i,∃ (hi:i<X.length),k<=i/\X[i]=x:=by
 obtain⟨q,b,e,d⟩:=a3K h;obtain⟨c,a⟩:=eJ.mp d;exact⟨q,c,b,a⟩
theorem b2m (L:LtOk M A E s κ k0 ajj) (B:TB k0 ajj st) (e1:(jJ st)[i]?=some (sa,na,pw)) (e2:(jJ st)[i+1]?=some (sb,nb,pw2))
  (ea:(arrOf st).toList=P++(X++(Y++S))) (hP:P.length=sa) (hX:X.length=na) (hsb:sb=sa+na) (hY:Y.length=nb) (sX:Srt κ X) (sY:Srt κ Y) (h1:0<na) (h2:0<nb)
  (h:∀ st' Z,TB k0 ajj st'->(arrOf st').toList=P++(Z++S)->Z.length=na+nb->Srt κ Z->jJ st'=((jJ st).setIfInBounds i (sa,na+nb,pw)).eraseIdxIfInBounds (i+1)->Q true st'):wpS M A E s (lR i) Q st:=by
 have hsz:(arrOf st).size=sa+na+nb+S.length:=by
  rw[<- a1G,ea];simp;omega
 have hmem:∀ p∈(arrOf st).toList,p∈ajj.toList:=λp hp=>(g9.mp B.pm).mem_iff.mp hp;have eb:(arrOf st).toList=(P++X)++(Y++S):=by rw[ea,eU]
 have kX:∀ i,(hi:i<X.length)->Kk κ (arrOf st) (sa+i)=κ X[i]:=λi hi=>by rw[<- hP];exact b5a ea hi
 have kY:∀ i,(hi:i<Y.length)->Kk κ (arrOf st) (sb+i)=κ Y[i]:=λi hi=>by
  rw[hsb,<- hP,<- hX,<- eE];exact b5a eb hi
 rw[a9e];refine jD (j1 ?_);rw[e1,e2];dsimp only;refine jD (c0T ?_);have B1:TB k0 ajj (kO st (((jJ st).setIfInBounds i (sa,na+nb,pw)).eraseIdxIfInBounds (i+1))):=⟨B.pm,B.kd,B.fl⟩;have hs1:arrOf (kO st (((jJ st).setIfInBounds i (sa,na+nb,pw)).eraseIdxIfInBounds (i+1)))=arrOf st:=rfl;have hp1:jJ (kO st (((jJ st).setIfInBounds i (sa,na+nb,pw)).eraseIdxIfInBounds (i+1)))=((jJ st).setIfInBounds i (sa,na+nb,pw)).eraseIdxIfInBounds (i+1):=rfl;generalize kO st (((jJ st).setIfInBounds i (sa,na+nb,pw)).eraseIdxIfInBounds (i+1))=st1 at B1 hs1 hp1;have hy0:sb<(arrOf st).size:=by omega
 have ey:(arrOf st)[sb]?=some (arrOf st)[sb]:=getElem?_pos ..;have hky:κ (arrOf st)[sb]=κ Y[0]:=by
  have:=kY 0 (by omega)
  rw[iB,a9a ey]at this;exact this
 have hmy:(arrOf st)[sb]∈ajj.toList:=hmem _ (by simp);refine jD (a03 ey (jD ?_));refine a3j L B1.kd hmy hmem (by omega) (by omega) (λp q hp hq=>by rw[kX p (by omega),kX q (by omega)];exact a4e sX hp (by omega)) λk hkn hlt hge=>?_;dsimp only;have lo:∀ q,(hq:q<X.length)->q<k->κ X[q]<=κ Y[0]:=λq hq hqk=>by
  have:=hlt q hqk
  rw[kX q hq,hky]at this;simpa[bq]using this
 have up:∀ q,(hq:q<X.length)->k<=q->κ Y[0]<κ X[q]:=λq hq hqk=>by
  have:=hge q hqk (by omega)
  rw[kX q hq,hky]at this;simpa[bq]using this
 have whole:(∀ x∈X,∀ y∈Y,κ x<=κ y)->Q true st1:=λhxy=>by
  refine h st1 (X++Y) B1 (by rw[hs1,ea,eU]) (by rw[eE,hX,hY]) ?_ hp1;exact eS.mpr ⟨sX,sY,hxy⟩
 by_cases c1:na - k=0
 ·rw[if_pos (by simpa using c1)];refine jF (whole λx hx y hy=>?_);obtain⟨q,hq,rfl⟩:=a9Y hx;obtain⟨r,hr,rfl⟩:=a9Y hy;exact eY (lo q hq (by omega)) (a4e sY (e8 _) hr)
 rw[if_neg (by simpa using c1)];have hl:sa+k+(na - k) - 1<(arrOf st).size:=by omega
 have ex:(arrOf st)[sa+k+(na - k) - 1]?=some (arrOf st)[sa+k+(na - k) - 1]:=getElem?_pos ..;have hkx:κ (arrOf st)[sa+k+(na - k) - 1]=κ X[na - 1]:=by
  have:=kX (na - 1) (by omega)
  rw[show sa+(na - 1)=sa+k+(na - k) - 1 by omega,a9a ex]at this;exact this
 have hmx:(arrOf st)[sa+k+(na - k) - 1]∈ajj.toList:=hmem _ (by simp);refine jD (a03 ex (jD ?_));refine a3j L B1.kd hmx hmem (by omega) (by omega) (λp q hp hq=>by rw[kY p (by omega),kY q (by omega)];exact a4e sY hp (by omega)) λm hmn hlt2 hge2=>?_;dsimp only;have lo2:∀ q,(hq:q<Y.length)->q<m->κ Y[q]<κ X[na - 1]:=λq hq hqk=>by
  have:=hlt2 q hqk
  rw[kY q hq,hkx]at this;simpa[bq]using this
 have up2:∀ q,(hq:q<Y.length)->m<=q->κ X[na - 1]<=κ Y[q]:=λq hq hqk=>by
  have:=hge2 q hqk (by omega)
  rw[kY q hq,hkx]at this;simpa[bq]using this
 by_cases c2:m=0
 ·rw[if_pos (by simpa using c2)];refine jF (whole λx hx y hy=>?_);obtain⟨q,hq,rfl⟩:=a9Y hx;obtain⟨r,hr,rfl⟩:=a9Y hy;exact eY (a4e sX (by omega) (by omega)) (up2 r hr (by omega))
 rw[if_neg (by simpa using c2)];have lx:((arrOf st).extract (sa+k) sb).toList=X.drop k:=by
  rw[jd,h7,ea,iC,<- hP,gK (by omega),gq,show P.length+k - P.length=k by omega,je (by omega),ie (by rw[fm];omega),ft (by rw[fm];omega)]
 have ly:((arrOf st).extract sb (sb+m)).toList=Y.take m:=by
  rw[jd,h7,eb,iC,gK (by rw[eE];omega),gq,show sb - (P++X).length=0 by rw[eE];omega,List.drop_zero,ie (by omega),show sb+m - sb=m by omega]
 have C:MC M A E s κ k0 ajj ((arrOf st).extract (sa+k) sb) ((arrOf st).extract sb (sb+m)):=by
  refine⟨L,λp hp=>?_,λp hp=>?_,?_,?_,?_,?_,λy hy=>?_,λz hz y hy=>?_⟩
  ·rw[lx]at hp;exact hmem p (by rw[ea];simp[hZ hp])
  ·rw[ly]at hp;exact hmem p (by rw[ea];simp[fI hp])
  ·rw[lx];exact a1S sX k
  ·rw[ly];exact a2E sY m
  ·rw[<- a1G,lx,fm];omega
  ·rw[<- a1G,ly,eL];omega
  ·rw[lx]at hy;obtain⟨q,hq,hk,rfl⟩:=a9Z hy;rw[a5O (z:=Y[0]) (by rw[ly,iA,if_pos (by omega)];exact eQ _)];exact fz (up q hq hk)
  ·rw[ly]at hy;rw[lx,fm,iy,show k+(X.length - k - 1)=na - 1 by omega,eQ (show na - 1<X.length by omega)]at hz;cases hz;obtain⟨q,hq,hk,rfl⟩:=a8b hy;exact fz (lo2 q hq hk)
 have fin:∀ (r:Array Keyed) (st2:SortSt),SG st1 st2->Mgd κ ((arrOf st).extract (sa+k) sb).toList ((arrOf st).extract sb (sb+m)).toList r.toList ->
   wpS M A E s (do
    modify λz=>setArr z (r.toList.zipIdx.foldl (λa (pj:Keyed×Nat)=>a.setIfInBounds (sa+k+pj.2) pj.1) (arrOf z))
    return (jX (<- get)).isNone) Q st2:=by
  intro r st2 g2 mg;rw[lx,ly]at mg;have hrl:r.toList.length=na - k+m:=by rw[mg.1.length_eq,eE,fm,eL];omega
  refine jD (j3 (jD (j1 (jF ?_))));have ha2:arrOf st2=arrOf st:=g2.ar.trans hs1;have ef:=a9X (sa+k) r.toList 0 (arrOf st2) (by rw[ha2];omega);have el:(r.toList.zipIdx.foldl (λa (pj:Keyed×Nat)=>a.setIfInBounds (sa+k+pj.2) pj.1) (arrOf st2)).toList=P++((X.take k++r.toList++Y.drop m)++S):=by
   rw[ef,ha2,iB,hrl];have t1:(arrOf st).toList.take (sa+k)=P++X.take k:=by
    rw[ea,List.take_append,ft (by omega),<- hP,show P.length+k - P.length=k by omega,ie (by omega)]
   have t2:(arrOf st).toList.drop (sa+k+(na - k+m))=Y.drop m++S:=by
    rw[eb,iC,gK (by rw[eE];omega),gq,show sa+k+(na - k+m) - (P++X).length=m by rw[eE];omega,je (by omega)]
   rw[t1,t2];simp
  generalize hgz:r.toList.zipIdx.foldl (λa (pj:Keyed×Nat)=>a.setIfInBounds (sa+k+pj.2) pj.1) (arrOf st2)=ar at el;have hperm:(X.take k++r.toList++Y.drop m).Perm (X++Y):=by
   have:(X.take k++r.toList++Y.drop m).Perm (X.take k++(X.drop k++Y.take m)++Y.drop m):=(fh.append_left _ mg.1).append_right _
   refine this.trans ?_;have e:X.take k++(X.drop k++Y.take m)++Y.drop m=X++Y:=by
    rw[<- eU,gO,eU,gO]
   rw[e]
  have pm:ar.Perm (arrOf st):=by
   rw[g9,el,ea];refine fh.append_left _ ?_;rw[<- eU (as:=X)];exact hperm.append_right _
  have hfl:jX (setArr st2 ar)=none:=g2.fl.trans B1.fl;have B2:TB k0 ajj (setArr st2 ar):=⟨pm.trans B.pm,g2.kd.trans B1.kd,hfl⟩;rw[hfl];refine h _ _ B2 el (by rw[hperm.length_eq,eE,hX,hY]) ?_ (g2.pe.trans hp1);have hr:∀ w∈r.toList,w∈X.drop k\/w∈Y.take m:=λw hw=>et.mp (mg.1.mem_iff.mp hw);refine eS.mpr ⟨eS.mpr ⟨a2E sX k,mg.2,λx hx w hw=>?_⟩,a1S sY m,λx hx y hy=>?_⟩
  ·obtain⟨q,hq,hk,rfl⟩:=a8b hx;rcases hr w hw with hw | hw
   ·obtain⟨p,hp,hk2,rfl⟩:=a9Z hw;exact a4e sX (by omega) hp
   ·obtain⟨p,hp,hk2,rfl⟩:=a8b hw;exact eY (lo q hq hk) (a4e sY (e8 _) hp)
  ·obtain⟨p,hp,hk2,rfl⟩:=a9Z hy;rcases et.mp hx with hx | hx
   ·obtain⟨q,hq,hk,rfl⟩:=a8b hx;exact eY (lo q hq hk) (a4e sY (e8 _) hp)
   ·rcases hr x hx with hx | hx
    ·obtain⟨q,hq,hk,rfl⟩:=a9Z hx;exact eY (a4e sX (by omega) (by omega)) (up2 p hp hk2)
    ·obtain⟨q,hq,hk,rfl⟩:=a8b hx;exact a4e sY (by omega) hp
 split
 ·exact jD (b2j C B1.kd λr st2 g2 mg=>fin r st2 g2 mg)
 ·exact jD (b2k C B1.kd λr st2 g2 mg=>fin r st2 g2 mg)
end
noncomputable def pr (p:Nat×Nat×Nat):Nat×Nat:=(p.1,p.2.1)
noncomputable def offs:Nat->List (List Keyed)->List (Nat×Nat)
 | _,[]=>[]
 | o,R::Rs=>(o,R.length)::offs (o+R.length) Rs
theorem a2F:∀ (o:Nat) (U V:List (List Keyed)),offs o (U++V)=offs o U++offs (o+U.flatten.length) V
 | o,[],V=>by simp[offs]
 | o,R::U,V=>by
  rw[gQ,offs,offs,a2F,gQ,jf,eE,jg]
theorem a1Y:∀ (o:Nat) (U:List (List Keyed)),(offs o U).length=U.length
 | _,[]=>rfl
 | o,R::U=>by rw[offs,eF,eF,a1Y]
theorem a8c {α:Type}{q p1 p2:α}{pv:List α}:∀ pu:List α,((pu++p1::p2::pv).set pu.length q).eraseIdx (pu.length+1)=pu++q::pv
 | []=>rfl
 | x::pu=>by rw[gQ,eF,List.set_cons_succ,iE,a8c pu,gQ]
theorem a8d {α β:Type}{f:α->β}:∀ (l:List α) (k:Nat),(l.map f).eraseIdx k=(l.eraseIdx k).map f
 | [],_=>by simp
 | x::l,0=>by simp
 | x::l,k+1=>by rw[eP,iE,iE,eP,a8d l k]
theorem a90:∀ {Rs:List (List Keyed)},(∀ R∈Rs,R≠[])->Rs.length<=Rs.flatten.length
 | [],_=>by simp
 | R::Rs,h=>by
  have:=a90 λR a=>h R (.tail _ a)
  have b:=gr.mpr (h R (.head _));rw[jf,eE,eF];omega
noncomputable def Runs (κ:KF) (st:SortSt) (lo:Nat) (rest:List Keyed):Prop:=∃ Rs:List (List Keyed),(arrOf st).toList=Rs.flatten++rest/\(∀ R∈Rs,Srt κ R/\R≠[])/\Rs.flatten.length=lo/\(jJ st).toList.map pr=offs 0 Rs
section
variable {M:Model}{A:Around}{E:Value->Shared->Prop}{s:Shared}{κ:KF}{k0:j0}{ajj:Array Keyed}{st:SortSt}
theorem a3M {i lo:Nat}(L:LtOk M A E s κ k0 ajj) (B:TB k0 ajj st) (R:Runs κ st lo rest) (hi:i+1<(jJ st).size)
  (h:∀ st',TB k0 ajj st'->Runs κ st' lo rest->(jJ st').size+1=(jJ st).size->Q true st'):wpS M A E s (lR i) Q st:=by
 obtain⟨Rs,t,f,r,b⟩:=R;have m:(jJ st).size=Rs.length:=by
  have:=congrArg fb b
  rw[er,a1Y]at this;simpa using this
 obtain⟨U,X,Y,V,rfl,D⟩:∃ U X Y V,Rs=U++X::Y::V/\U.length=i:=by
  refine⟨Rs.take i,Rs[i]'(by omega),Rs[i+1]'(by omega),Rs.drop (i+2),?_,by rw[eL];omega⟩;rw[<- gJ,<- gJ,gO]
 have n:=f X (by simp);have q:=f Y (by simp);rw[a2F]at b;simp only[offs,ic]at b;have k:∀ (j:Nat) (x:Nat×Nat),(offs 0 U++_::_::offs _ V)[j]?=some x->∃ w,(jJ st)[j]?=some (x.1,x.2,w):=λj x d=>by
  rw[<- b,eK]at d;rw[<- fR];cases e:(jJ st).toList[j]? with
  | none=>rw[e]at d;cases d
  | some p=>
   rw[e]at d;cases d;exact⟨p.2.2,rfl⟩
 have c:(offs 0 U).length=i:=by rw[a1Y,D]
 obtain⟨J,G⟩:=k i _ (by rw[g4 (by omega),c,Nat.sub_self];rfl);obtain⟨I,y⟩:=k (i+1) (U.flatten.length+X.length,Y.length) (by simp_all);have C:(arrOf st).toList=U.flatten++(X++(Y++(V.flatten++rest))):=by rw[t];simp
 refine b2m L B G y C rfl rfl rfl rfl n.1 q.1 (gr.mpr n.2) (gr.mpr q.2) λl Z H F o v u=>?_;have g:(jJ l).toList.map pr=offs 0 (U++Z::V):=by
  rw[u,Array.toList_eraseIdxIfInBounds,Array.toList_setIfInBounds,<- a8d,List.map_set,b,<- c,a8c,a2F];simp only[offs,ic,pr];rw[o,jg]
 refine h l H ⟨U++Z::V,by rw[F];simp,λR a=>?_,?_,g⟩ ?_
 ·rcases et.mp a with a | a
  ·exact f R (by simp[a])
  ·rcases eI.mp a with rfl | a
   ·exact⟨v,λz=>by rw[z]at o;have:=gr.mpr n.2;simp at o;omega⟩
   ·exact f R (by simp[a])
 ·rw[<- r];simp;omega
 ·grind
theorem Runs.ar {lo n:Nat}(R:Runs κ st lo rest) (q:Ar st st' lo) (hs:SR κ (arrOf st') lo n) (hn:lo+n<=(arrOf st').size) (h1:1<=n):∃ X rest',Srt κ X/\X.length=n/\Runs κ st' lo (X++rest'):=by
 obtain⟨Rs,g,f,c,e⟩:=R;have b:(arrOf st').toList.take lo=Rs.flatten:=by
  refine iF λi=>?_
  by_cases a:i<lo
  ·rw[iA,if_pos a,fR,q.pre i a,<- fR,g,iq (by omega)]
  ·grind
 refine⟨((arrOf st').toList.drop lo).take n,((arrOf st').toList.drop lo).drop n,?_,by rw[eL,fm,a1G];omega,Rs,?_,f,c,by rw[q.pe];exact e⟩
 ·refine gm.mpr λi j a d k=>?_;rw[eL,fm,a1G]at a d
  have:=hs i j (by omega) (by omega)
  rw[a1s _,a1s _]at this;simpa using this
 ·rw[gO,<- b,gO]
theorem Runs.push {lo n:Nat}(R:Runs κ st lo (X++rest)) (sX:Srt κ X) (hX:X.length=n) (h1:1<=n) (ha:arrOf st'=arrOf st) (hp:(jJ st').toList.map pr=(jJ st).toList.map pr++[(lo,n)]):Runs κ st' (lo+n) rest:=by
 obtain⟨Rs,e,d,b,c⟩:=R;refine⟨Rs++[X],by rw[ha,e];simp,λR a=>?_,by simp[b,hX],?_⟩
 ·rcases et.mp a with a | a
  ·exact d R a
  ·rw[eD.mp a];exact⟨sX,λz=>by rw[z]at hX;simp at hX;omega⟩
 ·rw[hp,c,a2F,ic,b];simp[offs,hX]
theorem a6O (L:LtOk M A E s κ k0 ajj) (B:TB k0 ajj st) (hp:jJ st=#[])
  (h:∀ st',TB k0 ajj st'->Srt κ (arrOf st').toList->Q () st'):wpS M A E s sortRuns' Q st:=by
 rw[sortRuns'_eq];refine jD (j1 ?_);dsimp only;rw[B.sz];generalize minRun' ajj.size ajj.size 0=mr;refine jD (jU (jS (I:=λx c z=>∃ d e,c=(none,d)/\TB k0 ajj z/\Runs κ z d e/\x<=d)
  (Q:=λc z=>∃ d e,c=(none,d)/\TB k0 ajj z/\Runs κ z d e/\ajj.size<=d) ?step ?fin ⟨0,(arrOf st).toList,rfl,B,⟨[],by simp,λR h=>by simp at h,rfl,by rw[hp];rfl⟩,eB _⟩) ?post)
 case fin=>
  rintro c z ⟨d,e,rfl,t,u,hx⟩;exact⟨d,e,rfl,t,u,by omega⟩
 case step=>
  rintro x c z _ hx ⟨d,e,rfl,t,u,hxl⟩;dsimp only
  by_cases c1:d>=ajj.size
  ·rw[if_pos c1];exact jF ⟨d,e,rfl,t,u,c1⟩
  rw[if_neg c1];refine jD (b6j L t (by omega) (by omega) λm z2 Y m1 m2 m3=>?_);dsimp only
  by_cases c2:m<mr
  ·rw[if_pos c2];refine a6N ?_;refine jD (b35 L (Y.tb t) (by omega) (by omega) m3 λS C D=>?_);rw[if_neg (by decide)];have C:=Y.trans C;have v:1<=min (ajj.size - d) mr:=by omega
   have V:d+min (ajj.size - d) mr<=ajj.size:=by omega
   generalize min (ajj.size - d) mr=n at v V D ⊢;have r:=C.tb t;obtain⟨X,f,J,G,R3⟩:=u.ar C D (by rw[r.sz];omega) v;refine jD (j1 ?_);cases hb:(jJ S).back? with
   | none=>
    dsimp only;refine jD (j3 (jF ?_));exact⟨d+n,f,rfl,⟨r.pm,r.kd,r.fl⟩,R3.push J G v rfl (by show (((jJ S).push (d,n,0)).toList).map pr=_;rw[fA,eN];rfl),by omega⟩
   | some p=>
    obtain⟨w,o,w1⟩:=p;dsimp only;generalize power' ajj.size (2*w+o) (2*w+o+o+n) ajj.size=pw;refine jD (jU (jS (I:=λ_ c y=>c=(none,())/\TB k0 ajj y/\Runs κ y d (X++f)) ?w (λ_ _ hh=>hh) ⟨rfl,r,R3⟩) ?p1)
    case w=>
     rintro x c y _ _ ⟨rfl,g,j⟩;refine jD (j1 ?_)
     by_cases hgt:(jJ y).size > 1
     ·rw[if_pos hgt];have eo:(jJ y)[(jJ y).size - 2]?=some (jJ y)[(jJ y).size - 2]:=getElem?_pos ..;rw[eo];dsimp only
      split
      ·exact jF ⟨rfl,g,j⟩
      ·refine jD (a3M L g j (by omega) λy2 N H _=>?_);rw[if_neg (by decide)];exact jF ⟨rfl,N,H⟩
     ·rw[if_neg hgt];exact jF ⟨rfl,g,j⟩
    case p1=>
     rintro c y ⟨rfl,g,j⟩;dsimp only;refine jD (j3 (jD (j3 (jF ?_))));refine⟨d+n,f,rfl,⟨g.pm,g.kd,g.fl⟩,j.push J G v rfl ?_,by omega⟩;have em:∀ (q:Array (Nat×Nat×Nat)) (k:Nat),(q.modify k λ(a,b,_)=>(a,b,pw)).toList.map pr=q.toList.map pr:=λq k=>by
      refine iF λi=>?_;rw[eK,eK,fR,fR,jh]
      split
      ·cases q[i]? with
       | none=>rfl
       | some p=>rfl
      ·rfl
     rw[fA,eN,em]
     rfl
  ·rw[if_neg c2];have V:d+m<=ajj.size:=by omega
   have v:=m1;have D:=m3;have C:=Y;generalize m=n at v V D ⊢;generalize z2=S at C D ⊢;have r:=C.tb t;obtain⟨X,f,J,G,R3⟩:=u.ar C D (by rw[r.sz];omega) v;refine jD (j1 ?_);cases hb:(jJ S).back? with
   | none=>
    dsimp only;refine jD (j3 (jF ?_));exact⟨d+n,f,rfl,⟨r.pm,r.kd,r.fl⟩,R3.push J G v rfl (by show (((jJ S).push (d,n,0)).toList).map pr=_;rw[fA,eN];rfl),by omega⟩
   | some p=>
    obtain⟨w,o,w1⟩:=p;dsimp only;generalize power' ajj.size (2*w+o) (2*w+o+o+n) ajj.size=pw;refine jD (jU (jS (I:=λ_ c y=>c=(none,())/\TB k0 ajj y/\Runs κ y d (X++f)) ?w (λ_ _ hh=>hh) ⟨rfl,r,R3⟩) ?p1)
    case w=>
     rintro x c y _ _ ⟨rfl,g,j⟩;refine jD (j1 ?_)
     by_cases hgt:(jJ y).size > 1
     ·rw[if_pos hgt];have eo:(jJ y)[(jJ y).size - 2]?=some (jJ y)[(jJ y).size - 2]:=getElem?_pos ..;rw[eo];dsimp only
      split
      ·exact jF ⟨rfl,g,j⟩
      ·refine jD (a3M L g j (by omega) λy2 N H _=>?_);rw[if_neg (by decide)];exact jF ⟨rfl,N,H⟩
     ·rw[if_neg hgt];exact jF ⟨rfl,g,j⟩
    case p1=>
     rintro c y ⟨rfl,g,j⟩;dsimp only;refine jD (j3 (jD (j3 (jF ?_))));refine⟨d+n,f,rfl,⟨g.pm,g.kd,g.fl⟩,j.push J G v rfl ?_,by omega⟩;have em:∀ (q:Array (Nat×Nat×Nat)) (k:Nat),(q.modify k λ(a,b,_)=>(a,b,pw)).toList.map pr=q.toList.map pr:=λq k=>by
      refine iF λi=>?_;rw[eK,eK,fR,fR,jh]
      split
      ·cases q[i]? with
       | none=>rfl
       | some p=>rfl
      ·rfl
     rw[fA,eN,em]
     rfl
 case post=>
  rintro c z ⟨d,e,rfl,t,u,hlo⟩;dsimp only;have hsz:∀ y,Runs κ y d e->(jJ y).size<=d:=λy ⟨Rs,T,F,e3,U⟩=>by
   have l:=congrArg fb U;rw[er,a1Y]at l;have h2:=a90 λR hR=>(F R hR).2;simp at l;omega
  have W:d=ajj.size:=by
   obtain⟨Rs,T,F,e3,U⟩:=u
   have:=congrArg fb T
   rw[a1G,t.sz,eE]at this;omega
  subst W;refine jD (jU (jS (I:=λx c y=>c=(none,())/\TB k0 ajj y/\Runs κ y ajj.size e/\((jJ y).size<=1\/(jJ y).size+x<=ajj.size)) (Q:=λc y=>c=(none,())/\TB k0 ajj y/\Runs κ y ajj.size e/\(jJ y).size<=1) ?s2 ?f2 ⟨rfl,t,u,.inr (hsz z u)⟩) ?p2)
  case f2=>
   rintro c y ⟨rfl,g,j,hc⟩;exact⟨rfl,g,j,by omega⟩
  case s2=>
   rintro x c y _ hx ⟨rfl,g,j,hc⟩;refine jD (j1 ?_)
   by_cases l:(jJ y).size<=1
   ·rw[if_pos l];exact jF ⟨rfl,g,j,l⟩
   ·rw[if_neg l];refine jD (a3M L g j ?_ λy2 N H hy2=>?_)
    ·repeat' split
     all_goals omega
    ·rw[if_neg (by decide)];exact jF ⟨rfl,N,H,.inr (by omega)⟩
  case p2=>
   rintro c y ⟨rfl,g,j,hc⟩;obtain⟨Rs,T,F,e3,U⟩:=j;have l:=congrArg fb U;rw[er,a1Y]at l;have h2:=congrArg fb T;rw[a1G,g.sz,eE,e3]at h2;have hr:e=[]:=iu.mp (by omega);refine jF (h y g ?_);rw[T,hr,eW]
   match Rs,F,l with
   | [],_,_=>exact .nil
   | [R],F,_=>simpa using (F R (by simp)).1
   | _::_::_,_,l=>simp at l;omega
end
abbrev kN:KF:=λp=>numOf p.1
theorem b8J (xs:Array Keyed) (i:Nat):K xs i=Kk kN xs i:=rfl
theorem b8K (h:Srt kN xs.toList) (hn:n=xs.size):SortedTo xs n:=λi j a b=>by
 rw[b8J,b8J]
 have:=a4c (i:=0) h (n:=xs.size) (by simp) i j a (by omega)
 simpa using this
section
variable {prog:jH}{w:World}{A:Around}{E:Value->Shared->Prop}{s:Shared}{ajj:Array Keyed}
theorem b6k (h0:IntKeys ajj):LtOk (model prog w) A E s kN oneType' ajj:=λx y c d g Q e h=>by
 obtain⟨n,t,b⟩:=h0 x c;obtain⟨m,u,a⟩:=h0 y d;have f:Q (some (decide (n<m))) g:=by
  have:kN x<kN y↔n<m:=by show numOf x.1<numOf y.1↔n<m;rw[b,a];rfl
  rw[decide_eq_decide.mpr this]at h;exact h
 rw[lt'_eq];refine jD (j1 ?_);rw[e,keyLt'_oneType,b,a];exact jD (lQ (wpAny_attempt (oneLt_int ⟨rfl,jF f⟩)))
theorem sort_any (ho:s.heap.get? a=some (seqObj "list" vs.toArray n)) (hI:jZ vs ns) (hz:vs.length<=1000)
  (h:∀ (out:Array Value) (ms:List Int),jZ out.toList ms->ms.Perm ns->ms.Pairwise (·<=·)->P (.done (.ret .none)) { s with heap:=lj s.heap a vs out }):wpAny (model prog w) A (jO.«list.sort» ⟨[.ref a],[]⟩) P E s:=by
 have l:vs.length<=sizeLine:=by rw[jW];omega
 have o:vs.toArray.size<=sizeLine:=by simpa using l
 have t:=Heap.lt_size ho;rw[list_sort_plain];refine jB (listItems_at ho rfl (jB (kF ho rfl ?_ o (by simp))));obtain⟨u,x⟩:∃ u,(s.heap.update a (Obj.mapSeq λ_=>#[])).get? a=some (seqObj "list" #[] u):=⟨_,get?_update_seq ho λ_=>#[]⟩;refine jB (kG x rfl (jB (wpAny_newTuple ?_ (by simpa using l))));refine jB (ll (jY ?_));have k:(((s.heap.update a (Obj.mapSeq λ_=>#[])).push (seqObj "tuple" vs.toArray 0)).push (seqObj "list" #[] 0)).get? a=some (seqObj "list" #[] u):=by
  rw[Heap.get?_push_ne,Heap.get?_push_ne]
  ·exact x
  ·rw[Heap.size_update];exact eO t
  ·rw[size_push',Heap.size_update];exact eO (gI t)
 dsimp only;have g:∀ y:SortSt,(arrOf y).Perm (j8 vs)->Srt kN (arrOf y).toList->P (.done (.ret .none)) { s with heap:=lj s.heap a vs ((arrOf y).map (·.2)) }:=λy p q=>by
  obtain⟨D,C,B,z⟩:=sorted_out hI p (b8K q p.size_eq.symm);exact h _ D C B z
 have i:∀ y:SortSt,(arrOf y).Perm (j8 vs)->((arrOf y).map (·.2)).size<=jC+1:=λy p=>by
  rw[ji,p.size_eq,pairsOf_size];omega
 by_cases c:vs.toArray.size<2
 ·rw[if_pos c,if_pos c];refine jB (jK ?_);rw[StateT.run_pure];refine jB (jK ?_);dsimp only;have r:(arrOf (SortSt.mk' general' (vs.toArray.zip vs.toArray) #[] 7 none)).Perm (j8 vs):=gL.refl _;refine jB (kG k rfl (jB (kF k rfl ?_ (by simp) (i _ r))));simp only[bne_self_eq_false,gM,if_false];refine jK (g _ r ?_)
  show Srt kN (j8 vs).toList
  rw[lp]
  have:vs.length<2:=by simpa using c
  match vs,this with
  | [],_=>exact .nil
  | [v],_=>exact iw _ _
 ·rw[if_neg c,if_neg c];obtain⟨f,d,b,rfl⟩:∃ f d b,vs=f::d::b:=by
   have:¬ vs.length<2:=by simpa using c
   match vs,this with
   | [],q=>exact absurd (by simp) q
   | [_],q=>exact absurd (by simp) q
   | f::d::b,_=>exact⟨f,d,b,rfl⟩
  rw[keyKind_ints hI];refine jB (jK (jB (jP (a6O
   (Q:=λ_ y=>(arrOf y).Perm (j8 (f::d::b))/\jX y=none/\Srt kN (arrOf y).toList) (b6k hI.intKeys) ⟨gL.refl _,rfl,rfl⟩ rfl λy j m=>⟨j.pm,j.fl,m⟩) ?_ λ_ _ e=>e)))
  rintro⟨⟨⟩,y⟩ s' ⟨rfl,j,m,q3⟩;dsimp only;refine jB (kG k rfl (jB (kF k rfl ?_ (by simp) (i y j))));rw[m];simp only[bne_self_eq_false,gM,if_false];exact jK (g y j q3)
end
section
variable {prog:jH}{w:World}{A:Around}{E:Value->Shared->Prop}{s:Shared}{κ:KF}{k0:j0}
noncomputable def a3N (h:Heap) (a:Addr) (vs:List Value):Heap:=((h.update a (Obj.mapSeq λ_=>#[])).push (seqObj "tuple" vs.toArray 0)).push (seqObj "list" #[] 0)
theorem b8L (hb:b≠a) (e:h.get? b=some o):(a3N h a vs).get? b=some o:=by
 refine Heap.get?_push_of_some _ (Heap.get?_push_of_some _ ?_);rw[Heap.get?_update_ne _ _ _ _ hb];exact e
theorem b6l (ho:s.heap.get? a=some (seqObj "list" vs.toArray n)) (hz:vs.length<=100000)
  (hK:2<=vs.length->∀ Q:j0->Shared->Prop,Q k0 { s with heap:=a3N s.heap a vs }->wpAny (model prog w) A (keyKind' vs.toArray) Q E { s with heap:=a3N s.heap a vs })
  (hL:2<=vs.length->LtOk (model prog w) A E { s with heap:=a3N s.heap a vs } κ k0 (j8 vs))
  (h:∀ ps:List Keyed,ps.Perm (j8 vs).toList->Srt κ ps->P (.done (.ret .none)) { s with heap:=lj s.heap a vs (ps.map (·.2)).toArray }):wpAny (model prog w) A (jO.«list.sort» ⟨[.ref a],[]⟩) P E s:=by
 have i:vs.length<=sizeLine:=by rw[jW];omega
 have o:vs.toArray.size<=sizeLine:=by simpa using i
 have t:=Heap.lt_size ho;rw[list_sort_plain];refine jB (listItems_at ho rfl (jB (kF ho rfl ?_ o (by simp))));obtain⟨u,m⟩:∃ u,(s.heap.update a (Obj.mapSeq λ_=>#[])).get? a=some (seqObj "list" #[] u):=⟨_,get?_update_seq ho λ_=>#[]⟩;refine jB (kG m rfl (jB (wpAny_newTuple ?_ (by simpa using i))));refine jB (ll (jY ?_));have g:(((s.heap.update a (Obj.mapSeq λ_=>#[])).push (seqObj "tuple" vs.toArray 0)).push (seqObj "list" #[] 0)).get? a=some (seqObj "list" #[] u):=by
  rw[Heap.get?_push_ne,Heap.get?_push_ne]
  ·exact m
  ·rw[Heap.size_update];exact eO t
  ·rw[size_push',Heap.size_update];exact eO (gI t)
 dsimp only;have f:=λy p q=>by
  have:=h (arrOf y).toList (g9.mp p) q
  rw[<- Array.toList_map,Array.toArray_toList]at this;exact this
 have b:∀ y:SortSt,(arrOf y).Perm (j8 vs)->((arrOf y).map (·.2)).size<=jC+1:=λy p=>by
  rw[ji,p.size_eq,pairsOf_size];omega
 by_cases c:vs.toArray.size<2
 ·rw[if_pos c,if_pos c];refine jB (jK ?_);rw[StateT.run_pure];refine jB (jK ?_);dsimp only;have x:(arrOf (SortSt.mk' general' _ #[] 7 none)).Perm (j8 vs):=gL.refl _;refine jB (kG g rfl (jB (kF g rfl ?_ (by simp) (b _ x))));simp only[bne_self_eq_false,gM,if_false];refine jK (f _ x ?_)
  show Srt κ (j8 vs).toList
  rw[lp]
  have:vs.length<2:=by simpa using c
  match vs,this with
  | [],_=>exact .nil
  | [v],_=>exact iw _ _
 ·rw[if_neg c,if_neg c];have r:2<=vs.length:=by simpa using c
  refine jB (hK r _ ?_);refine jB (jP (a6O
   (Q:=λ_ y=>(arrOf y).Perm (j8 vs)/\jX y=none/\Srt κ (arrOf y).toList) (hL r) ⟨gL.refl _,rfl,rfl⟩ rfl λy d j=>⟨d.pm,d.fl,j⟩) ?_ λ_ _ e=>e)
  rintro⟨⟨⟩,y⟩ l ⟨rfl,d,j,q3⟩;dsimp only;refine jB (kG g rfl (jB (kF g rfl ?_ (by simp) (b y d))));rw[j];simp only[bne_self_eq_false,gM,if_false];exact jK (f y d q3)
end
end Tim
namespace Tim
open PySem PyProof.Rows PySem.W
abbrev Pz:=Sum (Option Int) Str
noncomputable def PtIs:Pz->Value->Prop
 | .inl none,v=>v=.none
 | .inl (some i),v=>∃ t,v=.int i t
 | .inr s,v=>∃ t,v=.str s t
noncomputable def PtsAre:List Pz->List Value->Prop
 | [],[]=>True
 | x::xs,v::vs=>PtIs x v/\PtsAre xs vs
 | _,_=>False
noncomputable def lt1:Pz->Pz->Bool
 | .inl (some i),.inl (some j)=>decide (i<j)
 | .inr a,.inr b=>decide (a.cps.toList<b.cps.toList)
 | _,_=>false
noncomputable def cmp1:Pz->Pz->Bool
 | .inl (some _),.inl (some _)=>true
 | .inr _,.inr _=>true
 | _,_=>false
noncomputable def ltT:List Pz->List Pz->Bool
 | x::xs,y::ys=>if x=y then ltT xs ys else lt1 x y
 | _,_=>false
noncomputable def cmpT:List Pz->List Pz->Bool
 | x::xs,y::ys=>if x=y then cmpT xs ys else cmp1 x y
 | [],[]=>true
 | _,_=>false
theorem b6m:∀ x:Pz,lt1 x x=false
 | .inl none=>rfl
 | .inl (some i)=>by simp[lt1]
 | .inr a=>by simp[lt1]
theorem b2n:∀ {x y z:Pz},lt1 x y=true->lt1 y z=true->lt1 x z=true
 | .inl (some i),.inl (some j),.inl (some k),h1,h2=>by simp[lt1]at *;omega
 | .inr a,.inr b,.inr c,h1,h2=>by
  simp only[lt1,decide_eq_true_eq]at *;exact List.lt_trans h1 h2
 | .inl none,_,_,h1,_=>by simp[lt1]at h1
 | .inl (some _),.inl none,_,h1,_=>by simp[lt1]at h1
 | .inl (some _),.inr _,_,h1,_=>by simp[lt1]at h1
 | .inr _,.inl _,_,h1,_=>by simp[lt1]at h1
 | .inl (some _),.inl (some _),.inl none,_,h2=>by simp[lt1]at h2
 | .inl (some _),.inl (some _),.inr _,_,h2=>by simp[lt1]at h2
 | .inr _,.inr _,.inl _,_,h2=>by simp[lt1]at h2
theorem b2o:∀ xs:List Pz,ltT xs xs=false
 | []=>rfl
 | x::xs=>by unfold ltT;rw[if_pos rfl];exact b2o xs
theorem a5Q:∀ {xs ys zs:List Pz},ltT xs ys=true->ltT ys zs=true->ltT xs zs=true
 | [],_,_,h1,_=>by simp[ltT]at h1
 | _::_,[],_,h1,_=>by simp[ltT]at h1
 | _::_,_::_,[],_,h2=>by simp[ltT]at h2
 | x::xs,y::ys,z::zs,h1,h2=>by
  unfold ltT at *
  by_cases c1:x=y
  ·subst c1;rw[if_pos rfl]at h1
   by_cases c2:x=z
   ·subst c2;rw[if_pos rfl]at h2 ⊢;exact a5Q h1 h2
   ·rw[if_neg c2]at h2 ⊢;exact h2
  ·rw[if_neg c1]at h1
   by_cases c2:y=z
   ·simp_all
   ·rw[if_neg c2]at h2;have a:=b2n h1 h2;rw[if_neg (λe=>by rw[e,b6m]at a;cases a)];exact a
theorem b6n:∀ {x y:Pz},cmp1 x y=true->x≠y->lt1 x y=true\/lt1 y x=true
 | .inl (some i),.inl (some j),_,h=>by
  have:i≠j:=λe=>h (by rw[e])
  simp only[lt1,decide_eq_true_eq];omega
 | .inr a,.inr b,_,h=>by
  simp only[lt1,decide_eq_true_eq]
  by_cases c1:a.cps.toList<b.cps.toList
  ·exact .inl c1
  ·by_cases c2:b.cps.toList<a.cps.toList
   ·exact .inr c2
   ·exact absurd (List.le_antisymm (List.not_lt.mp c2) (List.not_lt.mp c1)) λe=>h (by
     have c:=Array.toList_inj.mp e;cases b;cases c;rfl)
 | .inl none,_,h,_=>by simp[cmp1]at h
 | .inl (some _),.inl none,h,_=>by simp[cmp1]at h
 | .inl (some _),.inr _,h,_=>by simp[cmp1]at h
 | .inr _,.inl _,h,_=>by simp[cmp1]at h
theorem b2p:∀ {xs ys:List Pz},cmpT xs ys=true->xs≠ys->ltT xs ys=true\/ltT ys xs=true
 | [],[],_,h=>absurd rfl h
 | [],_::_,h,_=>by simp[cmpT]at h
 | _::_,[],h,_=>by simp[cmpT]at h
 | x::xs,y::ys,h,hn=>by
  unfold cmpT at h;unfold ltT
  by_cases c:x=y
  ·subst c;rw[if_pos rfl]at h;rw[if_pos rfl,if_pos rfl];exact b2p h λe=>hn (by rw[e])
  ·rw[if_neg c]at h;rw[if_neg c,if_neg (Ne.symm c)];exact b6n h c
noncomputable def rk (rows:List (List Pz)) (x:List Pz):Nat:=rows.countP λq=>ltT q x
theorem b5b (h:ltT x y=true):∀ {l:List (List Pz)},x∈l->l.countP (λq=>ltT q x)<l.countP λq=>ltT q y
 | q::l,hm=>by
  have b:l.countP _<=l.countP λq=>ltT q y:=List.countP_mono_left λq _ e=>a5Q e h;rw[jj,jj];have a:(if ltT q x=true then 1 else 0)<=(if ltT q y=true then 1 else 0):=by
   by_cases c:ltT q x=true
   ·rw[if_pos c,if_pos (a5Q c h)];exact eB _
   ·rw[if_neg c];exact e8 _
  rcases eI.mp hm with e | hm
  ·subst e;rw[b2o,h];simp;omega
  ·have:=b5b h hm
   omega
theorem b6o (hx:x∈rows) (h:ltT x y=true):rk rows x<rk rows y:=b5b h hx
theorem b8M (hx:x∈rows) (hy:y∈rows) (hc:cmpT x y=true):rk rows x<rk rows y↔ltT x y=true:=by
 refine⟨λh=>?_,b6o hx⟩
 by_cases e:x=y
 ·grind
 ·rcases b2p hc e with q | q
  ·grind
  ·have:=b6o hy q;omega
noncomputable def RowIn (h:Heap) (v:Value) (xs:List Pz):Prop:=∃ a o its n,v=.ref a/\h.get? a=some o/\o.cls=.type "tuple"/\o.data=.seq its n/\PtsAre xs its.toList
theorem PtIs.uniq:∀ {x y:Pz}{v:Value},PtIs x v->PtIs y v->x=y
 | .inl none,.inl none,_,_,_=>rfl
 | .inl none,.inl (some _),_,h1,⟨_,h2⟩=>by rw[h1]at h2;cases h2
 | .inl none,.inr _,_,h1,⟨_,h2⟩=>by rw[h1]at h2;cases h2
 | .inl (some _),.inl none,_,⟨_,h1⟩,h2=>by rw[h2]at h1;cases h1
 | .inl (some _),.inl (some _),_,⟨_,h1⟩,⟨_,h2⟩=>by rw[h1]at h2;cases h2;rfl
 | .inl (some _),.inr _,_,⟨_,h1⟩,⟨_,h2⟩=>by rw[h1]at h2;cases h2
 | .inr _,.inl none,_,⟨_,h1⟩,h2=>by rw[h2]at h1;cases h1
 | .inr _,.inl (some _),_,⟨_,h1⟩,⟨_,h2⟩=>by rw[h1]at h2;cases h2
 | .inr _,.inr _,_,⟨_,h1⟩,⟨_,h2⟩=>by rw[h1]at h2;cases h2;rfl
theorem PtsAre.uniq:∀ {xs ys:List Pz}{vs:List Value},PtsAre xs vs->PtsAre ys vs->xs=ys
 | [],[],[],_,_=>rfl
 | x::xs,y::ys,v::vs,⟨a,b⟩,⟨c,d⟩=>by rw[a.uniq c,PtsAre.uniq b d]
 | [],_::_,[],_,h=>h.elim
 | [],_,_::_,h,_=>h.elim
 | _::_,_,[],h,_=>h.elim
 | _::_,[],_::_,_,h=>h.elim
theorem RowIn.uniq (r:RowIn h v xs) (q:RowIn h v ys):xs=ys:=by
 obtain⟨a,o,k,n,rfl,j,_,g,d⟩:=r;obtain⟨p,m,f,l,e,b,_,c,i⟩:=q;cases e;rw[j]at b;cases b;rw[g]at c;cases c;exact d.uniq i
open Classical in
noncomputable def b0R (h:Heap) (v:Value):List Pz:=if e:∃ xs,RowIn h v xs then e.choose else []
theorem a17 (r:RowIn h v xs):b0R h v=xs:=by
 unfold b0R;have e:∃ xs,RowIn h v xs:=⟨xs,r⟩;rw[dif_pos e];exact e.choose_spec.uniq r
noncomputable def kT (h:Heap) (rows:List (List Pz)):KF:=λp=>(rk rows (b0R h p.1):Int)
section
variable {prog:jH}{w:World}{A:Around}{E:Value->Shared->Prop}{s:Shared}{ajj:Array Keyed}{b:Bool}{Q:Bool->Shared->Prop}
theorem a9f (h:Q true s):wpAny (model prog w) A (eqBool .none .none) Q E s:=jB (kP (jK h))
theorem b8N:∀ {x y:Pz}{p q:Value}{c:Bool},PtIs x p->PtIs y q->cmp1 x y=true->Q (lt1 x y) s->wpAny (model prog w) A (oneLt' c p q) Q E s
 | .inl (some i),.inl (some j),_,_,c,⟨t,rfl⟩,⟨u,rfl⟩,_,h=>by
  cases c with
  | true=>exact oneLt_int h
  | false=>exact kat_one _ _ (PyProof.Rows.lt_int h)
 | .inr a,.inr b,_,_,c,⟨t,rfl⟩,⟨u,rfl⟩,_,h=>by
  cases c with
  | true=>exact oneLt_str h
  | false=>exact kat_one _ _ (PyProof.Rows.lt_str h)
 | .inl none,_,_,_,_,_,_,h,_=>by simp[cmp1]at h
 | .inl (some _),.inl none,_,_,_,_,_,h,_=>by simp[cmp1]at h
 | .inl (some _),.inr _,_,_,_,_,_,h,_=>by simp[cmp1]at h
 | .inr _,.inl _,_,_,_,_,_,h,_=>by simp[cmp1]at h
theorem b8O:∀ {x y:Pz}{p q:Value},PtIs x p->PtIs y q->(x=y\/cmp1 x y=true)->Q (decide (x=y)) s->wpAny (model prog w) A (eqBool p q) Q E s
 | .inl (some i),.inl (some j),_,_,⟨t,rfl⟩,⟨u,rfl⟩,_,h=>wpAny_eqBool_int (by
   have:(i==j)=decide ((Sum.inl (some i):Pz)=.inl (some j)):=by grind
   rw[this];exact h)
 | .inr a,.inr b,_,_,⟨t,rfl⟩,⟨u,rfl⟩,_,h=>wpAny_eqBool_str (by simp_all)
 | .inl none,.inl none,_,_,h1,h2,_,h=>by
  rw[h1,h2];exact a9f (by simp_all)
 | .inl none,.inl (some _),_,_,_,_,h,_=>by rcases h with h | h<;>simp[cmp1]at h
 | .inl none,.inr _,_,_,_,_,h,_=>by rcases h with h | h<;>simp[cmp1]at h
 | .inl (some _),.inl none,_,_,_,_,h,_=>by rcases h with h | h<;>simp[cmp1]at h
 | .inl (some _),.inr _,_,_,_,_,h,_=>by rcases h with h | h<;>simp[cmp1]at h
 | .inr _,.inl none,_,_,_,_,h,_=>by rcases h with h | h<;>simp[cmp1]at h
 | .inr _,.inl (some _),_,_,_,_,h,_=>by rcases h with h | h<;>simp[cmp1]at h
theorem b5c:∀ {xs ys:List Pz}{vs us:List Value}{i:Nat},PtsAre xs vs->PtsAre ys us->cmpT xs ys=true->Q (ltT xs ys) s->KatLex prog w A b false Q (vs.zip us) i s
 | [],[],[],[],_,_,_,_,h=>h
 | x::xs,y::ys,p::vs,q::us,i,⟨a,c⟩,⟨d,e⟩,hc,h=>by
  unfold cmpT at hc;unfold ltT at h
  by_cases exy:x=y
  ·rw[if_pos exy]at hc h;refine kat_cons (b8O a d (.inl exy) ?_);rw[decide_eq_true exy];exact kat_yes (b5c c e hc h)
  ·rw[if_neg exy]at hc h;refine kat_cons (b8O a d (.inr hc) ?_);rw[decide_eq_false exy];exact kat_no (b8N a d hc h)
 | [],_::_,_,_,_,_,_,hc,_=>by simp[cmpT]at hc
 | _::_,[],_,_,_,_,_,hc,_=>by simp[cmpT]at hc
 | [],[],_::_,_,_,h,_,_,_=>h.elim
 | [],[],[],_::_,_,_,h,_,_=>h.elim
 | _::_,_::_,[],_,_,h,_,_,_=>h.elim
 | _::_,_::_,_::_,[],_,_,h,_,_=>h.elim
theorem a9g:∀ {xs:List Pz}{vs:List Value},PtsAre xs vs->vs.length=xs.length
 | [],[],_=>rfl
 | _::_,_::_,⟨_,h⟩=>by rw[eF,eF,a9g h]
 | [],_::_,h=>h.elim
 | _::_,[],h=>h.elim
theorem b6p (h0:∀ p∈ajj.toList,∃ x∈rows,RowIn s.heap p.1 x) (hm:∀ x∈rows,x.length=m) (hc:∀ x∈rows,∀ y∈rows,cmpT x y=true):LtOk (model prog w) A E s (kT s.heap rows) (tuples' b) ajj:=λp q L I u Q J h=>by
 obtain⟨x,d,i⟩:=h0 p L;obtain⟨y,c,g⟩:=h0 q I;have B:Q (some (ltT x y)) u:=by
  have e:decide (kT s.heap rows p<kT s.heap rows q)=ltT x y:=by
   unfold kT;rw[a17 i,a17 g]
   have:=b8M d c (hc x d y c)
   cases e:ltT x y
   ·grind
   ·grind
  rw[e]at h;exact h
 obtain⟨a,o,j,n,D,H,M,C,t⟩:=i;obtain⟨T,S,f,N,G,v,R,F,r⟩:=g;rw[lt'_eq];refine jD (j1 ?_);rw[J,D,G];refine jD (lQ (wpAny_attempt (kat_lt H C v F ?_)));have k:=a9g t;have l:=a9g r;rw[hm x d]at k;rw[hm y c]at l;rw[gc]at k l;rw[decide_eq_false (by omega)];exact b5c t r (hc x d y c) ⟨rfl,jF B⟩
end
theorem a7o {α:Type}:∀ vs:List α,vs.zip vs=vs.map λv=>(v,v)
 | []=>rfl
 | v::vs=>by rw[List.zip_cons_cons,eP,a7o vs]
noncomputable def RowsIn (h:Heap):List Value->List (List Pz)->Prop
 | [],[]=>True
 | v::vs,x::xs=>RowIn h v x/\RowsIn h vs xs
 | _,_=>False
theorem RowsIn.len:∀ {vs:List Value}{rows:List (List Pz)},RowsIn h vs rows->vs.length=rows.length
 | [],[],_=>rfl
 | _::_,_::_,⟨_,r⟩=>by rw[eF,eF,RowsIn.len r]
 | [],_::_,r=>r.elim
 | _::_,[],r=>r.elim
theorem RowsIn.mem:∀ {vs:List Value}{rows:List (List Pz)},RowsIn h vs rows->∀ v∈vs,∃ x∈rows,RowIn h v x
 | v::vs,x::xs,⟨r,q⟩,u,hu=>by
  rcases eI.mp hu with rfl | hu
  ·exact⟨x,.head _,r⟩
  ·obtain⟨y,b,a⟩:=q.mem u hu;exact⟨y,.tail _ b,a⟩
 | [],[],_,u,hu=>by simp at hu
 | [],_::_,r,_,_=>r.elim
 | _::_,[],r,_,_=>r.elim
theorem RowsIn.map:∀ {vs:List Value}{rows:List (List Pz)},RowsIn h vs rows->vs.map (b0R h)=rows
 | [],[],_=>rfl
 | v::vs,x::xs,⟨r,q⟩=>by rw[eP,a17 r,q.map]
 | [],_::_,r=>r.elim
 | _::_,[],r=>r.elim
theorem RowIn.mid {vs ws:List Value}(ho:h.get? a=some (seqObj "list" ws.toArray n)) (r:RowIn h v x):RowIn (a3N h a vs) v x:=by
 obtain⟨b,o,d,m,i,c,e,g,f⟩:=r;refine⟨b,o,d,m,i,b8L (λz=>?_) c,e,g,f⟩;rw[z,ho]at c;cases c;simp at e
theorem RowsIn.mid {us ws:List Value}(ho:h.get? a=some (seqObj "list" ws.toArray n)):∀ {vs:List Value}{rows:List (List Pz)},RowsIn h vs rows->RowsIn (a3N h a us) vs rows
 | [],[],_=>trivial
 | _::_,_::_,⟨r,q⟩=>⟨r.mid ho,q.mid ho⟩
 | [],_::_,r=>r.elim
 | _::_,[],r=>r.elim
noncomputable def a7p (rows:List (List Pz)):Prop:=∀ x∈rows,∃ (s:Str) (r:List Pz),x=.inr s::r
noncomputable def a5u (rows:List (List Pz)):Prop:=∀ x∈rows,∃ (i:Int) (r:List Pz),x=.inl (some i)::r
theorem RowsIn.kat {T:Pz->Prop}:∀ {vs:List Value}{rows:List (List Pz)},RowsIn h vs rows->(∀ x∈rows,∃ f r,x=f::r/\T f)->∃ fs:List Value,KatTups h vs fs/\fs.length=vs.length/\∀ v∈fs,∃ f,T f/\PtIs f v
 | [],[],_,_=>⟨[],trivial,rfl,λv a=>by simp at a⟩
 | v::vs,x::xs,⟨r,q⟩,hf=>by
  obtain⟨j,k,p,g⟩:=q.kat λy d=>hf y (.tail _ d);obtain⟨y,t,rfl,d⟩:=hf x (.head _);obtain⟨b,o,e,m,rfl,s,l,n,c⟩:=r;cases hi:e.toList with
  | nil=>rw[hi]at c;exact c.elim
  | cons f fr=>
   rw[hi]at c;obtain⟨i,_⟩:=c;refine⟨f::j,KatTups.cons s l n (by rw[<- fR,hi];rfl) k,by rw[eF,eF,p],λv a=>?_⟩;rcases eI.mp a with rfl | a
   ·exact⟨y,d,i⟩
   ·simp_all
 | [],_::_,r,_=>r.elim
 | _::_,[],r,_=>r.elim
section
variable {prog:jH}{w:World}{A:Around}{E:Value->Shared->Prop}{s:Shared}
theorem sort_tups (ho:s.heap.get? a=some (seqObj "list" vs.toArray n)) (hz:vs.length<=100000) (hr:RowsIn s.heap vs rows) (hf:a7p rows\/a5u rows)
  (hm:∀ x∈rows,x.length=m) (hc:∀ x∈rows,∀ y∈rows,cmpT x y=true)
  (h:∀ (out:List Value) (os:List (List Pz)),out.Perm vs->os=out.map (b0R s.heap)->os.Perm rows->os.Pairwise (λx y=>ltT y x=false)->P (.done (.ret .none)) { s with heap:=lj s.heap a vs out.toArray }):wpAny (model prog w) A (jO.«list.sort» ⟨[.ref a],[]⟩) P E s:=by
 have k:RowsIn (a3N s.heap a vs) vs rows:=hr.mid ho;refine b6l (k0:=tuples' true) ho hz (λW Q H=>?_) (λW=>b6p (λp i=>?_) hm hc) λB i Y=>?_
 ·rcases hf with hf | hf
  ·obtain⟨R,o,N,u⟩:=k.kat (T:=λf=>∃ x,f=.inr x) λx C=>let ⟨y,r,e⟩:=hf x C;⟨_,r,e,y,rfl⟩
   refine kat_kind (T:=.type "str") o (by omega) (λv d=>?_) (by rfl) H;obtain⟨_,⟨x,rfl⟩,t,rfl⟩:=u v d;exact .now
  ·obtain⟨R,o,N,u⟩:=k.kat (T:=λf=>∃ x,f=.inl (some x)) λx C=>let ⟨y,r,e⟩:=hf x C;⟨_,r,e,y,rfl⟩
   refine kat_kind (T:=.type "int") o (by omega) (λv d=>?_) (by rfl) H;obtain⟨_,⟨x,rfl⟩,t,rfl⟩:=u v d;exact .now
 ·rw[lp,a7o]at i;obtain⟨v,d,rfl⟩:=eG.mp i;exact k.mem v d
 ·rw[lp,a7o]at i;have G:(B.map (·.2)).Perm vs:=by
   have:=i.map (·.2)
   rw[fB,show (_∘λv:Value=>(v,v))=id from rfl,gv]at this;exact this
  have j:∀ p∈B,p.1=p.2/\p.2∈vs:=λp l=>by
   obtain⟨v,d,rfl⟩:=eG.mp (i.mem_iff.mp l);exact⟨rfl,d⟩
  have V:((B.map (·.2)).map (b0R s.heap)).Perm rows:=by
   rw[<- hr.map];exact G.map _
  refine h _ _ G rfl V ?_;rw[fM,fM];refine fv.imp_of_mem (λ{p q} l D F=>?_) Y;obtain⟨U,S⟩:=j p l;obtain⟨M,X⟩:=j q D;obtain⟨x,x1,J⟩:=hr.mem _ S;obtain⟨y,L,I⟩:=hr.mem _ X;rw[a17 J,a17 I];unfold kT at F;rw[U,M,a17 (J.mid ho),a17 (I.mid ho)]at F;cases e:ltT y x with
  | false=>rfl
  | true=>have:=b6o L e;omega
end
end Tim
namespace SetW
open PySem
noncomputable def Up (xs:Array Nat):Prop:=xs.toList.Pairwise (·<·)
structure TOk (led:Bool) (t:kc):Prop where
 up:Up t.place
 dm:t.dummies=#[]
 ld:t.led=led
end SetW
namespace SetW
open PySem PyProof.Rows
noncomputable def byT (w:World):Bool:=w.params.followText "set-order"
inductive KsAre {prog:jH}{w:World}{K:Type}[DecidableEq K] (kd:KeyKind prog w K):List Value->List K->Prop
 | nil:KsAre kd [] []
 | cons {v:Value} {k:K} {vs:List Value} {ks:List K} (h:kd.is k v=true) (t:KsAre kd vs ks):KsAre kd (v::vs) (k::ks)
structure SO {prog:jH}{w:World}{K:Type}[DecidableEq K] (kd:KeyKind prog w K) (h:Heap) (a:Addr) (es:Array (Int×Value)) (ep:Nat) (t:kc) (ms:List K):Prop where
 at_:∃ o,h.get? a=some o/\o.ExactSet/\o.data=.set es ep t
 el:ElemsOf kd es.toList
 nums:KsAre kd (es.toList.map (·.2)) ms
 sc:es.size<scanBound
 fit:t.fits es.size=true
 ok:TOk (!byT w) t
noncomputable def SI {prog:jH}{w:World}{K:Type}[DecidableEq K] (kd:KeyKind prog w K) (h:Heap) (a:Addr) (ms:List K):Prop:=∃ es ep t,SO kd h a es ep t ms
section
variable {prog:jH}{w:World}{K:Type}[DecidableEq K] {kd:KeyKind prog w K}
theorem b8P (h:KsAre kd vs ns):vs.length=ns.length:=by
 induction h with
 | nil=>rfl
 | cons _ _ ih=>rw[eF,eF,ih]
theorem b8Q (h:KsAre kd vs ns):(∃ v∈vs,kd.is k v=true)↔k∈ns:=by
 induction h with
 | nil=>simp
 | @cons v n vs ns h1 _ ih=>
  rw[eI,<- ih]
  constructor
  ·rintro⟨u,a,b⟩;rcases eI.mp a with rfl | a
   ·exact .inl (kd.inj _ _ _ b h1)
   ·exact .inr ⟨u,a,b⟩
  ·rintro (rfl | ⟨u,a,b⟩)
   ·exact⟨v,.head _,h1⟩
   ·exact⟨u,.tail _ a,b⟩
end
section
variable {prog:jH}{w:World}{A:Around}{E:Value->Shared->Prop}{s:Shared}{a:Addr}{es:Array (Int×Value)}{ep:Nat}{t:kc}{K:Type}[DecidableEq K] {kd:KeyKind prog w K}{ms:List K}{k:K}{v:Value}
theorem SO.mem (S:SO kd s.heap a es ep t ms):(∃ e∈es.toList,kd.is k e.2=true)↔k∈ms:=by
 rw[<- b8Q S.nums]
 constructor
 ·rintro⟨e,c,b⟩;exact⟨e.2,fC c,b⟩
 ·rintro⟨u,d,b⟩;obtain⟨e,c,rfl⟩:=eG.mp d;exact⟨e,c,b⟩
theorem SO.stored {h:Heap}(ho:h.get? a=some o) (hx:o.ExactSet) (hd:o.data=.set es ep t) (hel:ElemsOf kd es'.toList) (hi:KsAre kd (es'.toList.map (·.2)) ms') (hs:es'.size<scanBound) (hf:t'.fits es'.size=true) (hk:TOk (!byT w) t') :
  (h.update a (Obj.putSet es' t')).get? a=some { o with data:=.set es' (ep+1) t' }/\SO kd (h.update a (Obj.putSet es' t')) a es' (ep+1) t' ms':=by
 have b:(h.update a (Obj.putSet es' t')).get? a=some { o with data:=.set es' (ep+1) t' }:=by
  have q:=Heap.get?_update_self (Obj.putSet es' t') ho (by rw[putSet_of es' t' hd];rfl);rw[putSet_of es' t' hd]at q;exact q
 exact⟨b,⟨⟨_,b,hx,rfl⟩,hel,hi,hs,hf,hk⟩⟩
theorem TOk.plain (h:TOk led t):TOk led ({ t with plain:=b }:kc):=⟨h.up,h.dm,h.ld⟩
end
theorem SI.at {K:Type}[DecidableEq K] {kd:KeyKind prog w K}{ms:List K}(S:SI kd h a ms) (k:∀ o,h.get? a=some o->h'.get? a=some o):SI kd h' a ms:=by
 obtain⟨l,i,t,⟨o,g,x,d⟩,f,j,e,c,b⟩:=S;exact⟨l,i,t,⟨o,k o g,x,d⟩,f,j,e,c,b⟩
noncomputable def Met {K:Type}(val:Nat->K) (i:Nat) (ms:List K):Prop:=ms.Nodup/\ms.length<=i/\∀ x,x∈ms↔∃ j,j<i/\val j=x
theorem Met.step {K:Type}[DecidableEq K] {val:Nat->K}{ms ms':List K}(h:Met val i ms) (p:ms'.Perm (if val i∈ms then ms else ms++[val i])):Met val (i+1) ms':=by
 obtain⟨d,k,b⟩:=h;have a:∀ x,(∃ j,j<i+1/\val j=x)↔(∃ j,j<i/\val j=x)\/x=val i:=λx=>by grind
 by_cases c:val i∈ms
 ·rw[if_pos c]at p;refine⟨p.nodup_iff.mpr d,by rw[p.length_eq];omega,λx=>?_⟩;rw[p.mem_iff,a,b];exact⟨.inl,λz=>z.elim id λe=>(b x).mp (e▸c)⟩
 ·rw[if_neg c]at p;refine⟨p.nodup_iff.mpr ?_,by rw[p.length_eq];simp;exact k,λx=>?_⟩
  ·rw[gR];exact⟨d,by simp,λx g y f=>by rw[eD.mp f];rintro rfl;exact c g⟩
  ·rw[p.mem_iff,a,et,b,eD]
section
variable {prog:jH}{w:World}{A:Around}{R:Result->Shared->Prop}{I:Addr}{fp wr:List Addr}{G:Array kH->Array kH->Prop}{n:Nat}{P:Nat->Value->Prop}{St:Nat->Shared->Prop}{K:Type}[DecidableEq K] {kd:KeyKind prog w K}
end
section
variable {prog:jH}{w:World}{A:Around}{E:Value->Shared->Prop}{s:Shared}{K:Type}[DecidableEq K] {kd:KeyKind prog w K}
abbrev b37 (w:World):Obj:={ cls:=.type "set",dict:=none,data:=.set #[] 0 (.fresh 0 0 (!byT w)) }
theorem SI.fresh (g:h.get? a=some (b37 w)):SI kd h a []:=
 ⟨#[],0,.fresh 0 0 _,⟨_,g,⟨rfl,rfl,rfl⟩,rfl⟩,λe b=>by simp at b,.nil,by decide,rfl,⟨.nil,rfl,rfl⟩⟩
end
noncomputable def SetIt (h:Heap) (it a:Addr) (first:Value) (i n ep:Nat):Prop:=∃ o,h.get? it=some o/\o.cls=.type "set_iterator"/\o.data=.fields #[first,.int i 0,.ref a,.int n 0,.int ep 0]
theorem SetIt.ty {s:Shared}(x:SetIt s.heap it a f i n ep):s.TypeIs (.ref it) "set_iterator":=let ⟨o,g,c,_⟩:=x;⟨o,g,c⟩
theorem SetIt.at (x:SetIt h it a f i n ep) (e:∀ o,h.get? it=some o->h'.get? it=some o):SetIt h' it a f i n ep:=let ⟨o,g,r⟩:=x;⟨o,e _ g,r⟩
section
variable {prog:jH}{w:World}{A:Around}{E:Value->Shared->Prop}{s:Shared}{it a:Addr}{f:Value}{i n ep:Nat}{o:Obj}{es:Array (Int×Value)}{t:kc}
end
section
variable {prog:jH}{w:World}{A:Around}{E:Value->Shared->Prop}{s:Shared}{it a:Addr}{f:Value}{i n ep k:Nat}{o:Obj}{es:Array (Int×Value)}{t:kc}{K:Type}[DecidableEq K] {kd:KeyKind prog w K}{ms:List K}
end
theorem SO.at {K:Type}[DecidableEq K] {kd:KeyKind prog w K}{ms:List K}(S:SO kd h a es ep t ms) (k:∀ o,h.get? a=some o->h'.get? a=some o):SO kd h' a es ep t ms:=by
 obtain⟨⟨o,g,x,d⟩,i,f,e,b,c⟩:=S;exact⟨⟨o,k o g,x,d⟩,i,f,e,b,c⟩
section
variable {prog:jH}{w:World}{A:Around}{E:Value->Shared->Prop}{s:Shared}{it a T:Addr}{f:Value}{i n ep k:Nat}{o:Obj}{es:Array (Int×Value)}{t:kc}{K:Type}[DecidableEq K] {kd:KeyKind prog w K}{ms:List K}{ps:List Nat}
end
section
variable {prog:jH}{w:World}{A:Around}{E:Value->Shared->Prop}{s:Shared}{it a T:Addr}{f:Value}{i n ep k:Nat}{o:Obj}{es:Array (Int×Value)}{t:kc}{K:Type}[DecidableEq K] {kd:KeyKind prog w K}{ms:List K}{ps:List Nat}
noncomputable def PlacesAt (h:Heap) (T:Addr) (ps:List Nat):Prop:=∃ o c,h.get? T=some o/\o.data=.seq (ps.map λ(i:Nat)=>rawInt i).toArray c
theorem PlacesAt.at (x:PlacesAt h T ps) (k:∀ o,h.get? T=some o->h'.get? T=some o):PlacesAt h' T ps:=let ⟨o,c,g,d⟩:=x;⟨o,c,k _ g,d⟩
end
section
variable {prog:jH}{w:World}{A:Around}{E:Value->Shared->Prop}{s:Shared}{it a T:Addr}{f:Value}{i n ep k:Nat}{o:Obj}{es:Array (Int×Value)}{t:kc}{K:Type}[DecidableEq K] {kd:KeyKind prog w K}{ms:List K}{ps:List Nat}
theorem SO.ty (S:SO kd s.heap a es ep t ms):s.TypeIs (.ref a) "set":=let ⟨o,g,x,_⟩:=S.at_;⟨o,g,x.1⟩
theorem SO.len (S:SO kd s.heap a es ep t ms):es.size=ms.length:=by
 have q:=b8P S.nums;simpa using q
end
section
variable {prog:jH}{w:World}{A:Around}{E:Value->Shared->Prop}{s:Shared}{a:Addr}{K:Type}[DecidableEq K] {kd:KeyKind prog w K}{ms:List K}
end
end SetW
namespace L2
open PySem PySem.Spec PyProof.Rows
theorem a7q:∀ {vs:List Value}{ns:List Int},jZ vs ns->vs.length=ns.length
 | _,_,.nil=>rfl
 | _,_,.cons n t h=>by rw[eF,eF,a7q h]
theorem a8e:∀ {vs:List Value}{ns:List Int},jZ vs ns->Vals (ns.map V.int) vs
 | _,_,.nil=>.nil
 | _,_,.cons n t h=>.cons ⟨t,rfl⟩ (a8e h)
theorem b2q:∀ {vs:List Value}{ns:List Int},vs.length=ns.length->(∀ (i:Nat) v,vs[i]?=some v->∃ n t,ns[i]?=some n/\v=.int n t)->jZ vs ns
 | [],[],_,_=>.nil
 | [],_::_,h,_=>by simp at h
 | _::_,[],h,_=>by simp at h
 | v::vs,n::ns,h,q=>by
  obtain⟨m,t,a,b⟩:=q 0 v rfl;simp at a;subst a b;exact .cons _ t (b2q (by simpa using h) λi v e=>by simpa using q (i+1) v (by simpa using e))
section
variable {P:jH}{w:World}{A:Around}{E:Value->Shared->Prop}{s:Shared}
theorem b2r (hmx:ns.length<=1000)
  (hcol:∀ R:List Value->Shared->Prop,(∀ (g:Heap) (tk:Nat) (d:Drawn) (vs:List Value) (ks:List Int),(∀ b o,s.heap.get? b=some o->g.get? b=some o)->jZ vs ks->ks.Perm ns->R vs { s with heap:=g,drawn:=d,toks:=tk })->wpAny (model P w) A.in1 (collect (.ref r)) R E s)
  (h:∀ (g g':Heap) (tk:Nat) (d:Drawn) (out:List Value) (n:Nat) (ms:List Int),(∀ b o,s.heap.get? b=some o->g.get? b=some o)->(∀ b o,g.get? b=some o->g'.get? b=some o)->g'.get? g.objs.size=some { cls:=.type "list",data:=.seq out.toArray n } ->
   jZ out ms->ms.Perm ns->ms.Pairwise (·<=·)->Q (.ref g.objs.size) { s with heap:=g',drawn:=d,toks:=tk }):wpAny (model P w) A (call (.builtin "sorted") [.ref r]) Q E s:=by
 refine Calls.call_function_entry kind_sorted plain_sorted entry_sorted (args_sorted1 _) ?_;refine jB (jK (jB (hcol _ λg t d f ks p l k=>?_)));have hl:=(a7q l).trans k.length_eq;have v:f.length<=sizeLine:=by rw[jW];omega
 refine jB (ll ?_ v);have j:(g.push _).get? g.objs.size=some (seqObj "list" f.toArray 0):=Heap.get?_push_size _ rfl;refine jB (jY (lF slot_list_sort ⟨_,j,rfl⟩ entry_list_sort (Tim.sort_any j l (by omega) λout u y x q=>⟨_,rfl,?_⟩) (args_list_sort _)));have c:=sortedHeap_at (out:=out) j;obtain⟨n,c⟩:=c;refine jK ⟨_,rfl,h g _ t d out.toList n u p (λb o e=>?_) (by omega) y (x.trans k) q⟩;have i:=Heap.lt_size e;rw[sortedHeap_old (eO i) (by rw[Heap.size_push];exact gI i)];exact Heap.get?_push_of_some _ e
end
section
variable {X:Cx}
theorem Inv.drew (I:Inv X pins σ H s) (d:Drawn):Inv X pins σ H { s with drawn:=d }:=
 I.step (ch:=[]) (λb a=>nomatch a) (λb o _ _ _ e _=>e) (λb o _ _ _ e _=>⟨o.slots,e⟩) (λ_ _ _ _ n=>n) (λb o _ e=>⟨o,e⟩) (λ_ _ e=>e) (λ_ _ _ e=>e) (λb f e=>⟨#[],by rw[e];simp⟩) (λm c=>c) I.hok I.bare
noncomputable def b6q (K:Fg):List V->Hp->VK->Prop:=λxs H Q=>∃ (p:Addr) (ns:List Int),xs=[.ref p]/\(SqL K H p (ns.map V.int)\/∃ kvs:List (Key×V),H p=some (.dK kvs)/\kvs.map (·.1)=ns.map λi=>(Sum.inl (some i):Key))/\ns.length<=1000 /\
 ∀ (t:Addr) (ms:List Int),H t=none->ms.Perm ns->ms.Pairwise (·<=·)->Q (.ref t) (upd H t (.lst (ms.map V.int)))
theorem a9h (hc:X.calm=true):CallR X (.builtin "sorted") (b6q X.K):=by
 intro F s σ H xs us Q I r h;obtain⟨p,ns,rfl,C,G,q⟩:=h;obtain⟨u,rfl,rx⟩:=a4C r;cases rx;have hh:=I.ok.hd hc;refine b2r G (λR T=>?_) λg g' l d ab n L k1 k2 e a1 S a3=>?_
 ·rcases C with C | ⟨kvs,hd,hk⟩
  ·obtain⟨M,rv,pl,_⟩:=I.list C;have U:=b0I rv;refine collect_list pl.isList ?_ (by rw[a7q U,jW];omega);refine T _ s.toks s.drawn M _ (λb o e=>?_) U (fh.refl _);have ac:=Heap.lt_size e;rw[Heap.get?_update_ne _ _ _ _ (eO ac)];exact Heap.get?_push_of_some _ e
  ·obtain⟨z,lo,E,B,dd⟩:=b5Z I.hok hd;obtain⟨ep,ad⟩:=dd.dictAt;have Y:E.length=ns.length:=by rw[<- B.length,<- er,hk,er]
   refine PySem.W.kdu_collect (PySem.W.kdl_dict lo) hh ad (by rw[Y,jW];omega) λg l aa kp c=>?_;refine T g l s.drawn aa.toList ns kp (b2q (by rw[gc,c.1,Y]) λi v e=>?_) (fh.refl _);obtain⟨k,x,e1,e2⟩:=c.2 i v (by simp_all);have y:E.map (·.1)=ns.map λi=>(Sum.inl (some i):Key):=by rw[<- B.keys];exact hk
   have j:(ns.map λi=>(Sum.inl (some i):Key))[i]?=some k:=by rw[<- y,eK,e1];rfl
   rw[eK]at j;cases hn:ns[i]? with
   | none=>rw[hn]at j;cases j
   | some n=>
    rw[hn]at j;cases j;have D:Value.isInt n v=true:=e2;cases v with
    | int m t=>exact⟨n,t,rfl,by simp[Value.isInt]at D;rw[D]⟩
    | _=>simp[Value.isInt]at D
 ·have J:Inv X F σ H { s with heap:=g,drawn:=d,toks:=l }:=(I.drew d).kept k1;exact⟨.ref g.objs.size,_,J.laid k2 (eB _) (show ObjOk X.prog X.w _ g' _ (.lst (L.map V.int)) from ⟨by rw[er,S.length_eq,jW];omega,ab,n,a8e a1,e⟩),rfl,q _ L (J.hok.fresh (eB _)) S a3⟩
end
structure Zs where
 it:Addr
 tp:Bool
 l:Addr
noncomputable def Zs.At (z:Zs) (k:Nat) (h:Heap):Prop:=if z.tp=true then h.IsTupleIter z.it z.l k else h.IsListIter z.it z.l k
noncomputable def Zs.Has (z:Zs) (h:Heap) (xs:Array Value):Prop:=if z.tp=true then h.IsTuple z.l xs else h.IsList z.l xs
theorem Zs.At.keep {z:Zs}(a:z.At k h) (q:∀ o,h.get? z.it=some o->h'.get? z.it=some o):z.At k h':=by
 unfold Zs.At at a ⊢
 split
 ·next e=>rw[if_pos e]at a;exact a.at q
 ·next e=>rw[if_neg e]at a;exact a.at q
theorem Zs.Has.keep {z:Zs}(a:z.Has h xs) (q:∀ o,h.get? z.l=some o->h'.get? z.l=some o):z.Has h' xs:=by
 unfold Zs.Has at a ⊢
 split
 ·next e=>rw[if_pos e]at a;exact let ⟨o,ho,r⟩:=a;⟨o,q o ho,r⟩
 ·next e=>rw[if_neg e]at a;exact let ⟨o,ho,r⟩:=a;⟨o,q o ho,r⟩
theorem Zs.At.obj {z:Zs}(a:z.At k h):∃ o,h.get? z.it=some o/\∀ v,o.data≠.cell v:=by
 unfold Zs.At at a
 split at a<;>(obtain⟨o,e,_,d⟩:=a;exact⟨o,e,λv q=>by rw[d]at q;cases q⟩)
section
variable {P:jH}{w:World}{A:Around}{E:Value->Shared->Prop}{s:Shared}
end
section
variable {P:jH}{w:World}{A:Around}{E:Value->Shared->Prop}{s:Shared}
end
section
variable {X:Cx}{pins:List (Addr×Obj)}{σ:St}{H:Hp}{s:Shared}{h':Heap}
end
noncomputable def SrcV (K:Fg) (H:Hp) (y:Zs) (xs:List V):Prop:=if y.tp=true then SqT K H y.l xs else SqL K H y.l xs
theorem SrcV.has (I:Inv X pins σ H s) (h:SrcV X.K H y xs):∃ its:List Value,Vals xs its/\y.Has s.heap its.toArray:=by
 unfold SrcV at h;unfold Zs.Has
 split at h
 ·next e=>obtain⟨a,r,p,_⟩:=I.tuple h;exact⟨a,r,by rw[if_pos e];exact p⟩
 ·next e=>obtain⟨a,r,p,_⟩:=I.list h;exact⟨a,r,by rw[if_neg e];exact p.isList⟩
theorem SrcV.inj (I:Inv X pins σ H s) (h:SrcV X.K H y xs) (h':SrcV X.K H y xs'):xs=xs':=by
 unfold SrcV at h h'
 split at h
 ·next e=>rw[if_pos e]at h';exact I.tuple_inj h h'
 ·next e=>rw[if_neg e]at h';exact I.list_inj h h'
noncomputable def SrcP (K:Fg) (H:Hp) (p:Bool×Addr) (xs:List V):Prop:=if p.1=true then SqT K H p.2 xs else SqL K H p.2 xs
theorem Turn.imp {P:jH}{w:World}{K:Fg}{tg:Expr}{J J':It}{fp:List Addr}{it:Addr}{tn:Nat->Heap->Prop}(t:Turn P w K tg J fp it tn) (g:∀ i H,J'.go i H->J.go i H) (y:∀ i H x H',J'.go i H->J.yld i H x H'->J'.yld i H x H') (s:∀ i H,J'.stop i H->J.stop i H):Turn P w K tg J' fp it tn where
 mem:=t.mem
 obj:=t.obj
 keep:=t.keep
 item:=λX h1 h2 h3 h4 i pins s σ H E I hf st hg=>jP (t.item X h1 h2 h3 h4 i pins s σ H E I hf st (g i H hg)) (λr s1 ⟨u,e,q⟩=>⟨u,e,jP q (λ_ s2 ⟨x,H',a,b,c,d,e⟩=>⟨x,H',a,b,y i H x H' hg c,d,e⟩) λ_ _ z=>z⟩) λ_ _ z=>z
 done:=λX h1 h2 h3 h4 i pins s' σ H E I hf st hg=>t.done X h1 h2 h3 h4 i pins s' σ H E I hf st (s i H hg)
 self:=t.self
noncomputable def Itv (K:Fg) (a:Addr) (n:Nat):It:=
 ⟨λi H=>i<n/\∃ xs,SqL K H a xs/\xs.length=n,λi H x H'=>H'=H/\∀ xs,SqL K H a xs->xs[n - 1 - i]?=some x,λi _=>i=n⟩
theorem b38 {P:jH}{w:World}{K:Fg}{tg:Expr}(a it:Addr) (n:Nat):Turn P w K tg (Itv K a n) [it] it (λi h=>i<=n/\h.IsRevIter it a ((n:Int) - 1 - (i:Nat))) where
 mem:=by simp
 obj:=λi h st b hb=>by
  have e:b=it:=by simpa using hb
  subst e;obtain⟨o,e,c,d⟩:=st.2;exact⟨o,e,λv z=>by rw[d]at z;cases z⟩
 keep:=λi h h' st k=>⟨st.1,st.2.at λo e=>k it (by simp) o e⟩
 item:=by
  intro X hP hw hK hc i pins s σ H E I hf st hg;subst hP hw hK;obtain⟨hi,xs,hq,hx⟩:=hg;obtain⟨its,rv,p,hz⟩:=I.list hq;have hx':=eQ (show n - 1 - i<xs.length by omega);obtain⟨u,hu,ru⟩:=rv.get hx';obtain⟨f0,f1,f2,f3,f4,f5⟩:=hf it (by simp);have st':=st.2;have e1:(n:Int) - 1 - (i:Nat)=((n - 1 - i:Nat):Int):=by omega
  rw[e1]at st';refine wpAny_pyNext_rev_item st' p.isList (x:=u) (by simpa using hu) λh' s2 sb=>?_;have I1:Inv X pins σ H { s with heap:=h' }:=I.turned (t':=s.toks) (λb o hb e=>(sb.2 b hb).trans e) f0 f1 f3 f4 f5;obtain⟨o,e,c,d⟩:=id s2;refine⟨u,rfl,b0A (s:={ s with heap:=h' }) e c d (by decide) ⟨xs[n - 1 - i],H,I1,ru,⟨rfl,λys hy=>by rw[I.list_inj hy hq];exact hx'⟩,⟨by omega,?_⟩,λb hb=>(hf b hb).1⟩⟩;have e2:(n:Int) - 1 - ((i+1:Nat):Int)=((n - 1 - i:Nat):Int) - 1:=by omega
  rw[e2];exact s2
 done:=by
  intro X hP hw hK hc i pins s σ H E I hf st hg;subst hP hw hK;obtain⟨f0,f1,f2,f3,f4,f5⟩:=hf it (by simp);have hi:i=n:=hg;have st':=st.2;have e1:(n:Int) - 1 - (i:Nat)=-1:=by omega
  rw[e1]at st';exact wpAny_pyNext_rev_end (I.ok.hd hc) st' λh' eb=>⟨rfl,I.turned (t':=s.toks) (λb o hb e=>eb b o hb e) f0 f1 f3 f4 f5⟩
 self:=λ_ _ _ _ _ st h=>wpAny_pyIter_revIter st.2 h
noncomputable def c0U (K:Fg) (ta:TA):TI:=fun σ H R=>ta σ H λvs H1=>∃ a xs,vs=[.ref a]/\SqL K H1 a xs/\R (Itv K a xs.length) H1
theorem b8R (hg:Gl X "reversed") (hm:X.mg "reversed"=none) (ha:PA X [e] ta)
  (he:jE [e] X.env=(false,eval e X.env)::jE [] X.env:=by rfl):PI X tg (.Call (.Name "reversed" p) [e] [] pos) (c0U X.K ta):=by
 intro i s σ H R I h;refine Call_ (a6C I hg hm boot_reversed (PyProof.Rows.callWith_type1 (thn (ha pos i s σ H _ I h) λy c ⟨A,v,f,k,l⟩=>?_) he rfl));obtain⟨a,d,rfl,n,q⟩:=l;obtain⟨u,rfl,r⟩:=a4C k;cases r;obtain⟨j,m,w,z⟩:=f.list n;have x:j.toArray.size=d.length:=by rw[fk,m.length]
 refine call_reversed_list w.isList ?_;rw[x];have g:(c.heap.push (revObj a ((d.length) - 1))).IsRevIter c.heap.objs.size a ((d.length) - 1 - 0):=⟨_,Heap.get?_push_size _ rfl,rfl,by simp[revObj]⟩;refine wpAny_pyIter_revIter g ?_;refine⟨c.heap.objs.size,[c.heap.objs.size],_,_,v,rfl,f.kept λb o e=>Heap.get?_push_of_some _ e,b38 a _ d.length,⟨e8 _,g⟩,λb t=>?_,q⟩;have e:b=c.heap.objs.size:=by simp_all
 subst e;exact f.fpOk (eB _) (f.hok.fresh (eB _))
section
variable {X:Cx}
noncomputable def b0S (x y:Str):Int:=match jO.Str.occurrences x y 0 x.length 1 with
 | i::_=>(i:Int)
 | []=>-1
theorem b6r:MtR X "str.find" (λx vs H Q=>∃ (z y:Str),x=.str z/\vs=[.str y]/\Q (.int (b0S z y)) H):=by
 intro c s σ H x f v g Q I b d h;obtain⟨z,y,rfl,rfl,q⟩:=h;obtain⟨t,rfl⟩:=b;obtain⟨u,rfl,e⟩:=a4C d;obtain⟨a,rfl⟩:=e;exact call_gives PySem.F.slot_str_find (kt _ _ _) PySem.F.entry_str_find (PySem.F.args_str_find_2 _ _) (gives_str_find z y t a) ⟨.int _,H,I.tok _,⟨_,rfl⟩,q⟩
end
end L2
namespace L3
open PySem PySem.Spec PyProof.Rows L2
section
variable {X:Cx}
noncomputable def b8S:Z->List Z->Hq->K3->Prop:=λx xs G R=>match x,xs with
 | .str z,[.str y]=>R (.int (b0S z y)) G
 | _,_=>False
theorem b8T:MtQ X "str.find" b8S:=b0K b6r λx g H Q e=>e.un λw c G R a b d h f=>by
 match w,c,h with
 | .str z,[.str y],h=>
  obtain⟨v,rfl,r⟩:=b.one;exact⟨z,y,a,by rw[r],f _ _ _ _ h (by rw[a0u]) d (.refl _ _)⟩
theorem b8U (h:R (.int (b0S z y)) G):b8S (.str z) [.str y] G R:=h
noncomputable def putZ (kvs:List (Key×Z)) (k:Key) (v:Z):List (Key×Z):=
 if (kvs.any λkv=>decide (kv.1=k))=true then kvs.map (λkv=>if kv.1=k then (kv.1,v) else kv) else kvs++[(k,v)]
theorem b2s {α β:Type}:∀ {kvs:List (Key×α)}{us:List (Key×β)},us.map (·.1)=kvs.map (·.1)->(us.any λkv=>decide (kv.1=k))=kvs.any λkv=>decide (kv.1=k)
 | [],[],_=>rfl
 | [],_::_,h=>by simp at h
 | _::_,[],h=>by simp at h
 | p::ps,q::qs,h=>by
  rw[eP,eP]at h;injection h with h1 h2
  rw[gg,gg,b2s h2,h1]
theorem a91 {K:Fg}(rv:Rep K H w v) (hk:us.map (·.1)=kvs.map (·.1)) (hr:Reps K H (kvs.map (·.2)) (us.map (·.2))) :
  (putK us k v).map (·.1)=(putZ kvs k w).map (·.1)/\Reps K H ((putZ kvs k w).map (·.2)) ((putK us k v).map (·.2)):=by
 unfold putK putZ;rw[b2s hk]
 split
 ·have l:∀ {d:List _}{f:List _},f.map (·.1)=d.map (·.1)->Reps K H (d.map (·.2)) (f.map (·.2))->((f.map λc=>if c.1=k then (c.1,v) else c).map (·.1)=(d.map λc=>if c.1=k then (c.1,w) else c).map (·.1)/\Reps K H ((d.map λc=>if c.1=k then (c.1,w) else c).map (·.2)) ((f.map λc=>if c.1=k then (c.1,v) else c).map (·.2))):=by
   intro d
   induction d with
   | nil=>intro f g h;cases f with
    | nil=>exact⟨rfl,.nil⟩
    | cons _ _=>simp at g
   | cons p ps ih=>
    intro f g h;cases f with
    | nil=>simp at g
    | cons q qs=>
     rw[eP,eP]at g h;injection g with h3 h4
     obtain⟨a,b,e,j,m⟩:=h;injection e with e1 e2
     subst e1 e2;have i:=ih h4 m;simp only[eP]
     by_cases e:p.1=k
     ·rw[if_pos e,if_pos (h3.trans e)];exact⟨by rw[i.1,h3],.cons rv i.2⟩
     ·rw[if_neg e,if_neg (λz=>e (h3.symm.trans z))];exact⟨by rw[i.1,h3],.cons j i.2⟩
  exact l hk hr
 ·rw[eN,eN,hk,eN,eN];exact⟨rfl,hr.append (.cons rv .nil)⟩
noncomputable def keyZ:Z->Option Key
 | .non=>some (.inl none)
 | .int i=>some (.inl (some i))
 | .str x=>some (.inr x)
 | _=>none
noncomputable def b8V:Z3:=λo i v G R=>match o with
 | .ref p=>∃ kvs k,G p=some (.dK kvs)/\keyZ i=some k/\kvs.length<jC/\R (put G p (.dK (putZ kvs k v)))
 | _=>False
theorem a7r {K:Fg}(h:keyZ i=some k) (r:Rep K H i v):v=kV k:=by
 cases i with
 | non=>rw[a01]at r;cases h;exact r
 | int j=>rw[a0u]at r;cases h;exact r
 | str j=>rw[a0I]at r;cases h;exact r
 | _=>cases h
theorem b39 (hu:X.A.units+66<cLine):PSet X (λo i v H Q=>∃ a H',o=.ref a/\DPut H a i v H'/\Q H'):=by
 intro e s σ H o i v j l u Q I d f b h;obtain⟨a,H',rfl,g,q⟩:=h;cases (d);exact b1M (by omega) I g f b λk c=>⟨H',c,q⟩
theorem b2t {α β:Type}{kvs:List (Key×α)}{us:List (Key×β)}(h:us.map (·.1)=kvs.map (·.1)):us.length=kvs.length:=by
 rw[<- er,h,er]
theorem b8W (hu:X.A.units+66<cLine):SetQ X b8V:=b4X (b39 hu) λo i v H Q r=>r.un λa b w G R g q f d h u=>by
 cases a with
 | ref p=>
  obtain⟨j,k,e,n,t,h⟩:=h;obtain⟨x,c,m,s⟩:=d _ _ e;have l:=a91 (k:=k) f m s;refine⟨p,_,g,?_,u _ _ h (d.set (.dK c) ⟨_,a0x,l.1,l.2.mono (.dK c)⟩) (.dK c)⟩;rw[a7r n q];exact DPut.k c (by rw[b2t m];exact t)
 | _=>exact eC h
theorem b8X (e:G p=some (.dK kvs)) (a:keyZ i=some k) (z:kvs.length<jC) (h:Rg (put G p (.dK (putZ kvs k w)))):b8V (.ref p) i w G Rg:=⟨kvs,k,e,a,z,h⟩
noncomputable def b6s:List Z->Hq->K3->Prop:=λxs G R=>match xs with
 | [.ref p]=>∃ ns:List Int,(G p=some (.lst (ns.map Z.int))\/∃ kvs,G p=some (.dK kvs)/\kvs.map (·.1)=ns.map λi=>Sum.inl (some i))/\ns.length<=1000/\∀ (t:Addr) (ms:List Int),G t=none->ms.Perm ns->ms.Pairwise (·<=·)->R (.ref t) (put G t (.lst (ms.map Z.int)))
 | _=>False
theorem b_sorted (hc:X.calm=true):a3G X (.builtin "sorted") b6s:=a1V (a9h hc) λw H Q n=>n.un λm G R o b h q=>by
 match m,h with
 | [.ref p],h=>
  obtain⟨v,rfl,r⟩:=o.one;obtain⟨l,a,e,h⟩:=h;refine⟨p,l,by rw[r],?_,e,λt g c i j=>q _ _ _ _ (h t g (b.out c) i j) (by rw[a0O]) (b.set (.new c) (a2C (a37 _) (.new c))) (.new c)⟩;rcases a with a | ⟨kvs,a,hk⟩
  ·obtain⟨u,d,f⟩:=b _ _ a
   have:=a7Z f
   subst this;exact .inl (SqL.of d)
  ·obtain⟨k,d,s,_⟩:=b _ _ a;exact .inr ⟨k,d,s.trans hk⟩
variable {tg:Expr}{t:A3}
noncomputable def iRev (t:A3):I3:=fun σ G R=>t σ G λws G1=>∃ a xs,ws=[.ref a]/\G1 a=some (.lst xs)/\R xs.reverse (λG=>G a=some (.lst xs)) G1
theorem b2u {K:Fg}:a7i K ws.reverse (λG=>G a=some (.lst ws)) (Itv K a ws.length) H0:=λi G H g t l m=>by
 obtain⟨f,e,d⟩:=g a _ l;rw[jk]at m ⊢;refine⟨λh=>h,λw c=>?_⟩;have b:i<ws.length:=by
  have:=(eJ.mp c).1
  rwa [jk]at this
 rw[List.getElem?_reverse b]at c;obtain⟨v,j,k⟩:=d.get c;refine⟨⟨b,f,SqL.of e,d.length.symm⟩,?_⟩;rintro x n ⟨rfl,y⟩
 have:=y f (SqL.of e)
 rw[j]at this;cases this;exact⟨k,g,.refl _ _⟩
theorem a9i (hg:Gl X "reversed") (hm:X.mg "reversed"=none) (ha:QA X [e] t)
  (he:jE [e] X.env=(false,eval e X.env)::jE [] X.env:=by rfl):QI X tg (.Call (.Name "reversed" p) [e] [] pos) (iRev t):=a85 (b8R hg hm ha.p he) fun τ H R2 i=>i.un fun σ G R k hg h o=>by
 refine⟨σ,G,_,k,hg,h,λws G1 vs H1 ⟨a,xs,e,f,l⟩ g b j=>?_⟩;subst e;obtain⟨v,rfl,r⟩:=g.one;subst r;obtain⟨m,n,d⟩:=b a _ f;exact⟨a,m,rfl,SqL.of n,by rw[<- d.length];exact o _ _ _ _ _ l b2u b j⟩
theorem SrcP.uniq {K:Fg}(h:SrcP K H p xs) (g:(if p.1=true then H p.2=some (.tup ys) else H p.2=some (.lst ys))):SrcP K H p ys:=by
 unfold SrcP
 split
 ·next e=>rw[if_pos e]at g;exact SqT.of g
 ·next e=>rw[if_neg e]at g;exact SqL.of g
theorem b8Y (h:t σ G λws G1=>∃ a xs,ws=[.ref a]/\G1 a=some (.lst xs)/\Ri xs.reverse (λG=>G a=some (.lst xs)) G1):iRev t σ G Ri:=h
end
noncomputable def putQ (f:Str) (y:Z):List (Str×Z)->List (Str×Z)
 | []=>[(f,y)]
 | (g,x)::r=>if g=f then (g,y)::r else (g,x)::putQ f y r
section
variable {K:Fg}{H:Hp}
theorem a3l:∀ {fs:List (Str×Z)}{gs:List (Str×V)},gs.map (·.1)=fs.map (·.1)->Reps K H (fs.map (·.2)) (gs.map (·.2))->(fs.lookup f=none->gs.lookup f=none)/\∀ z,fs.lookup f=some z->∃ v,gs.lookup f=some v/\Rep K H z v
 | [],[],_,_=>⟨λ_=>rfl,λ_ h=>by cases h⟩
 | [],_::_,h,_=>by simp at h
 | _::_,[],h,_=>by simp at h
 | (k,x)::fs,(k',v)::gs,h,r=>by
  simp at h;obtain⟨rfl,h⟩:=h;obtain⟨i,g,e,d,b⟩:=r;obtain⟨rfl,rfl⟩:=fO.inj e;have a:=a3l (f:=f) h b;rw[fG,fG];cases c:f==k' with
  | true=>
   refine⟨λe=>?_,λz e=>?_⟩
   ·cases e
   ·simp_all
  | false=>exact a
theorem a9j (ry:Rep K H y u):∀ {fs:List (Str×Z)}{gs:List (Str×V)},gs.map (·.1)=fs.map (·.1)->Reps K H (fs.map (·.2)) (gs.map (·.2))->(putF f u gs).map (·.1)=(putQ f y fs).map (·.1)/\Reps K H ((putQ f y fs).map (·.2)) ((putF f u gs).map (·.2))
 | [],[],_,_=>⟨rfl,by show Reps K H [y] [u];rw[a09];exact⟨u,[],rfl,ry,by rw[a0w]⟩⟩
 | [],_::_,h,_=>by simp at h
 | _::_,[],h,_=>by simp at h
 | (k,x)::fs,(k',v)::gs,h,r=>by
  simp at h;obtain⟨rfl,h⟩:=h;obtain⟨i,g,e,d,b⟩:=r;obtain⟨rfl,rfl⟩:=fO.inj e;have a:=a9j (f:=f) ry h b;unfold putQ putF
  by_cases c:k'=f
  ·rw[if_pos c,if_pos c];exact⟨by simp[h],by show Reps K H (y::fs.map _) _;rw[a09];exact⟨u,_,rfl,ry,b⟩⟩
  ·rw[if_neg c,if_neg c];exact⟨by simp[a.1],by show Reps K H (x::(putQ f y fs).map _) _;rw[a09];exact⟨v,_,rfl,d,a.2⟩⟩
end
section
variable {X:Cx}{C f:Addr}{fd:jI}{ps:List Str}{sp:P3}{k:Nat}{a m x:Str}{p pos pos' tpos apos:Pos}{e o value:Expr}{es:List Expr}{te to:E3}{t:A3}
noncomputable def uFld (C:Addr) (te:E3) (a:Str):E3:=fun σ G R=>te σ G λx G1=>∃ q dx fs v,x=.ref q/\G1 q=some (.ins C dx fs)/\fs.lookup a=some v/\R v G1
theorem a5c (hc:Cls X.K C) (hn:NoAttr X.K C a) (he:QE X e te) (hb:kI e a X.env (eval e X.env)=eval e X.env:=by rfl):QE X (.Attribute e a pos) (uFld C te a):=⟨a1E (b7E he.p hb) fun τ H Q x=>x.un fun σ G R s t h k=>
 ⟨σ,G,_,s,t,h,λw D v B ⟨q,r,E,z,i,A,j,d⟩ c b l=>by
  subst i;obtain⟨u,m,g,y⟩:=b _ _ A;obtain⟨o,f,n⟩:=(a3l g y).2 _ j;exact⟨q,C,r,u,o,c,m,hc,hn,f,k _ _ _ _ d n b l⟩⟩⟩
noncomputable def b2v (C:Addr) (to te:E3) (a:Str):X3:=λnx _ _ _ σ G=>te σ G λy G1=>to σ G1 λx G2=>∃ q dx fs,x=.ref q/\G2 q=some (.ins C dx fs)/\fs.length<1000/\nx σ (put G2 q (.ins C dx (putQ a y fs)))
theorem b8Z (hc:Cls X.K C) (hn:NoAttr X.K C a) (ho:QE X o to) (hv:QE X value te) (hs:kf value (some (.Attribute o a pos')) pos.line X.env=pure false:=by rfl):QS X (.Assign [.Attribute o a pos'] value pos) (b2v C to te a):=⟨a4G (b7F ho.p hv.p hs) λD τ H J=>J.un fun σ G nx rt bk ct hs x h F u2 u3 u4=>
 ⟨σ,G,_,hs,x,h,λy A u H1 E t r e=>⟨σ,A,_,hs.mono e,r,E,λw G2 v i ⟨q,j,fs,z,ea,hl,B⟩ k d g=>by
  subst z;obtain⟨n,l,m,I⟩:=d _ _ ea;have b:TK X.K i (L2.upd i q (.ins C j (putF a u n))):=.ins l;have s:=a9j (f:=a) (t.mono g) m I;exact⟨q,C,j,n,k,l,hc,hn,by have:=congrArg fb m;simp at this;omega,F _ _ _ _ B (hs.mono ((e.trans g).trans b)) (d.set b ⟨_,a0x,s.1,s.2.mono b⟩) ((e.trans g).trans b)⟩⟩⟩⟩
noncomputable def b2w (C:Addr) (to te:E3) (r:R3) (a:Str):X3:=λnx _ _ _ σ G=>to σ G λx G1=>∃ q dx fs v,x=.ref q/\G1 q=some (.ins C dx fs)/\fs.lookup a=some v/\te σ G1 λy G2=>r v y G2 λz G3=>∃ dx' fs',G3 q=some (.ins C dx' fs')/\fs'.length<1000/\nx σ (put G3 q (.ins C dx' (putQ a z fs')))
theorem b4a (hc:Cls X.K C) (hn:NoAttr X.K C a) (ho:QE X o to) (hv:QE X value te) (hop:OpQ X (ki op) r):QS X (.AugAssign (.Attribute o a tpos) op value pos) (b2w C to te r a):=⟨a4G (b1y ho.p hv.p hop) λD τ H hx=>hx.un fun σ G nx rt bk ct j Q h u1 u2 u3 u4=>
 ⟨σ,G,_,j,Q,h,λw R v H1 ⟨q,I,fs,z,ew,J,S,hq⟩ l e s=>by
  subst ew;obtain⟨Y,e1,e2,M⟩:=e _ _ J;obtain⟨v',L,r'⟩:=(a3l e2 M).2 _ S;refine⟨q,C,I,Y,v',l,e1,hc,hn,L,σ,R,_,j.mono s,e,hq,λy T u H2 U V t F=>⟨z,y,T,_,r'.mono F,V,t,U,λz2 G3 v3 n ⟨g,fs',x,hl,B⟩ N b W=>?_⟩⟩;obtain⟨c,d,i,m⟩:=b _ _ x;have k:TK X.K n (L2.upd n q (.ins C g (putF a v3 c))):=.ins d;have A:=a9j (f:=a) N i m;have E:=((s.trans F).trans W).trans k;exact⟨g,c,d,by have:=congrArg fb i;simp at this;omega,u1 _ _ _ _ B (j.mono E) (b.set k ⟨_,a0x,A.1,A.2.mono k⟩) E⟩⟩⟩
noncomputable def b4b (C:Addr) (m:Str) (sp:P3) (to:E3) (t:A3):E3:=fun σ G R=>to σ G λx G1=>∃ q dx fs,x=.ref q/\G1 q=some (.ins C dx fs)/\fs.lookup m=none/\t σ G1 λws G2=>sp (.ref q::ws) G2 R
theorem b4c (h:low X.K (b4b C m sp to t) τ H Q) (h1:o'=low X.K to) (h2:t'=lowA X.K t):b5S C m (lowP X.K sp) [] E o' t' τ H Q:=by
 subst h1 h2;obtain⟨σ,G,R,f,s,h,D⟩:=h;refine⟨σ,G,_,f,s,h,λw B v H1 ⟨q,r,fs,y,n,A,x⟩ b a e=>?_⟩;subst y;obtain⟨u,g,z,p⟩:=a _ _ n;refine⟨q,r,u,b,g,(a3l z p).1 A,σ,B,_,f.mono e,a,x,λj o k H2 h2 i c l=>?_⟩;exact⟨.ref q::j,o,R,by rw[eW,a09];exact⟨v,k,rfl,by rw[a0O];exact b,i⟩,c,h2,D.mono (e.trans l)⟩
theorem a8f (ho:QE X o to) (c:Cls X.K C) (hm:Meth X.K C m f) (F:FnOk X.prog X.w X.K X.mg X.base CX0 k f fd ps (lowP X.K sp)) (hr:Room k X.A) (hb:Binds X.K fd ps []) (ha:QA X (e::es) t)
  (hst:jE (e::es) X.env=(false,eval e X.env)::jE es X.env:=by rfl) (hpl:(backTo pos (jE es X.env)).any (·.1)=false:=by rfl)
  (ht:eval (.Call (.Attribute o m apos) (e::es) [] pos) X.env=(do
   let ov <- eval o X.env
   j7 apos.atName
   let (f,first) <- jV [ov] (ko ov m pl)
   kJ pos f first (backTo pos (jE (e::es) X.env)) (kq pos (kr [] X.env))):=by rfl):QE X (.Call (.Attribute o m apos) (e::es) [] pos) (b4b C m sp to t):=
 ⟨a1E (b1C ho.p c hm F hr hb .nil b3J ha.p hst hpl ht) λ_ _ _ h=>b4c h rfl rfl⟩
theorem b2x (ho:QE X o to) (c:Cls X.K C) (hm:Meth X.K C m f) (F:FnOk X.prog X.w X.K X.mg X.base CX0 k f fd ps (lowP X.K sp)) (hr:Room k X.A) (hb:Binds X.K fd ps [])
  (ht:eval (.Call (.Attribute o m apos) [] [] pos) X.env=(do
   let ov <- eval o X.env
   j7 apos.atName
   let (f,first) <- jV [ov] (ko ov m pl)
   kJ pos f first (backTo pos (jE [] X.env)) (kq pos (kr [] X.env))):=by rfl):QE X (.Call (.Attribute o m apos) [] [] pos) (b4b C m sp to uNil):=
 ⟨a1E (b3A ho.p c hm F hr hb .nil b3J ht) fun τ H Q z=>z.un fun σ G R r u h j=>by
  refine⟨σ,G,_,r,u,h,λw s v D ⟨q,e,E,i,x,y,l⟩ b a n=>?_⟩;subst i;obtain⟨t,d,B,g⟩:=a _ _ x;exact⟨q,e,t,b,d,(a3l B g).1 y,[.ref q],s,R,by rw[eW,a09];exact⟨v,[],rfl,by rw[a0O];exact b,by rw[a0w]⟩,a,l,j.mono n⟩⟩
noncomputable def b80 (C:Addr) (sp:P3) (t:A3):E3:=fun σ G R=>t σ G λws G1=>∀ q dx,G1 q=none->sp (.ref q::ws) (put G1 q (.ins C dx [])) λv G2=>v=.non/\R (.ref q) G2
theorem made (h1:∀ q dx,G1 q=none->sp (.ref q::ws) (put G1 q (.ins C dx [])) λv G2=>v=.non/\R (.ref q) G2) (rs:Reps X.K H1 ws vs) (hg1:RH X.K G1 H1) (up:UpV X.K H1 R Q) (q dx:Addr) (n1:H1 q=none) (n2:H1 dx=none) (ne:dx≠q) :
  lowP X.K sp (.ref q::(vs++[])) (L2.upd (L2.upd H1 dx (.own q)) q (.ins C dx [])) (λv H2=>v=.non/\Q (.ref q) H2) E:=by
 have a:L2.upd H1 dx (.own q) q=none:=by rw[a0t (Ne.symm ne)];exact n1
 have d:TK X.K H1 (L2.upd _ q (.ins C dx [])):=(TK.new n2).trans (TK.new a);refine⟨.ref q::ws,put G1 q (.ins C dx []),_,?_,?_,h1 q dx (hg1.out n1),?_⟩
 ·rw[eW,a09];exact⟨_,vs,rfl,by rw[a0O],rs.mono d⟩
 ·exact (hg1.hid n2).set (TK.new a) ⟨[],a0x,rfl,by rw[eX,a0w];rfl⟩
 ·rintro w h v i ⟨f,g⟩ b c e;subst f;exact⟨b,up _ _ _ _ g (by rw[a0O]) c (d.trans e)⟩
theorem b2y (M:Mk X.K C f) (F:FnOk X.prog X.w X.K X.mg X.base CX0 k f fd ps (lowP X.K sp)) (hr:Room (k+1) X.A) (hg:Gl X x) (hm:X.mg x=some (.ref C)) (hb:Binds X.K fd ps [])
  (hdb:(x==("__debug__":Str))=false:=by decide):QE X (.Call (.Name x p) [] [] pos) (b80 C sp uNil):=
 ⟨a1E (b3C M F hr hg hm hb .nil b3J hdb) fun τ H Q ⟨σ,G,R,hs,hg,h,g⟩ q c d e b=>made h (by rw[a0w]) hg g q c d e b⟩
variable {σ:S3}{G:Hq}{R:K3}{nx bk ct:C3}{rt:K3}{q dx:Addr}{fs:List (Str×Z)}{v:Z}{Ra:List Z->Hq->Prop}
theorem b81 (h:te σ G λx G1=>∃ q dx fs v,x=.ref q/\G1 q=some (.ins C dx fs)/\fs.lookup a=some v/\R v G1):uFld C te a σ G R:=h
theorem b82 (h:te σ G λy G1=>to σ G1 λx G2=>∃ q dx fs,x=.ref q/\G2 q=some (.ins C dx fs)/\fs.length<1000/\nx σ (put G2 q (.ins C dx (putQ a y fs)))):b2v C to te a nx rt bk ct σ G:=h
theorem b6t (h:to σ G λx G1=>∃ q dx fs,x=.ref q/\G1 q=some (.ins C dx fs)/\fs.lookup m=none/\t σ G1 λws G2=>sp (.ref q::ws) G2 R):b4b C m sp to t σ G R:=h
theorem b6u (h:t σ G λws G1=>∀ q dx,G1 q=none->sp (.ref q::ws) (put G1 q (.ins C dx [])) λv G2=>v=.non/\R (.ref q) G2):b80 C sp t σ G R:=h
theorem b83 (h:to σ G λx G1=>∃ q dx fs v,x=.ref q/\G1 q=some (.ins C dx fs)/\fs.lookup a=some v/\te σ G1 λy G2=>r v y G2 λz G3=>∃ dx' fs',G3 q=some (.ins C dx' fs')/\fs'.length<1000/\nx σ (put G3 q (.ins C dx' (putQ a z fs')))):b2w C to te r a nx rt bk ct σ G:=h
end
end L3
namespace L2
open PySem PySem.Spec PyProof.Rows
section
variable {X:Cx}{pins:List (Addr×Obj)}{σ:St}{H:Hp}{s:Shared}{a:Addr}{kvs:List (Key×V)}{k:Key}{d:V}{u r:Value}{A:Around}{E:Value->Shared->Prop}
theorem b84 (I:Inv X pins σ H s) (e:H a=some (.dK kvs)) (ry:RelV (kV k) u) (rd:RelV d r) (hz:kvs.length<jC)
  (h1:∀ v w' s',valV kvs k=some v->Inv X pins σ H s'->RelV v w'->Q w' s') (h2:valV kvs k=none->∀ s',Inv X pins σ (upd H a (.dK (putK kvs k d))) s'->Q r s') :
  wpAny (model X.prog X.w) A (call (.builtin "dict.setdefault") [.ref a,u,r]) Q E s:=by
 obtain⟨z,f,n,b,h⟩:=b5Z I.hok e;have l:(putK kvs k d).length<=sizeLine:=by have:=a2x kvs k d;omega
 refine lN PySem.F.slot_dict_setdefault h.typeIs PySem.F.entry_dict_setdefault (PySem.F.args_dict_setdefault_3 _ _ _) (kt_meets_setdefault _ a (b1L ry) f r) ⟨n,h,by rw[<- b.length];exact z,λm i=>?_,λx p c o=>?_⟩
 ·cases hv:valV kvs k with
  | none=>
   have:=(b.val k).isSome_eq
   rw[hv,i]at this;cases this
  | some v=>
   have g:=b.val k;rw[hv,i]at g;exact h1 v m _ hv (I.tok _) g
 ·have j:valV kvs k=none:=by
   have:=(b.val k).isSome_eq
   rw[x]at this;cases hv:valV kvs k with
   | none=>rfl
   | some v=>rw[hv]at this;cases this
  have t:∃ q,p.get? a=some q:=let ⟨q,_,_,hq,_⟩:=c;⟨q,hq⟩
  exact h2 j _ (a83 I (by rw[e];exact True.intro) o t (b4T l f (b.put k rd) c))
end
section
variable {X:Cx}
theorem b6v (hu:X.A.units+66<cLine):MtR X "dict.get" (λx vs H Q=>∃ a y d o,x=.ref a/\vs=[y,d]/\DGet H a y o/\Q (o.getD d) H):=by
 intro f s σ H x m v t Q I c k ⟨a,y,d,o,h,e,g,q⟩;subst h e;cases c;obtain⟨u,r,rfl,j,l⟩:=b1t k;exact b7S (by omega) I g j l λn p i b=>⟨_,H,i,b,q⟩
theorem b6w:MtR X "dict.setdefault" (λx vs H Q=>∃ a kvs k d,x=.ref a/\vs=[kV k,d]/\H a=some (.dK kvs)/\kvs.length<jC/\(∀ v,valV kvs k=some v->Q v H)/\(valV kvs k=none->Q d (upd H a (.dK (putK kvs k d))))):=by
 intro m s σ H x z v B Q I i p ⟨a,y,k,d,n,j,e,q,g,t⟩;subst n j;cases i;obtain⟨u,r,rfl,o,f⟩:=b1t p;exact b84 I e o f q (λv A w l b c=>⟨v,H,b,c,g v l⟩) λh w b=>⟨d,_,b,f,t h⟩
theorem b2z (hu:X.A.units+66<cLine):OpR X (jL .NotIn) (λx y H Q=>∃ a o,y=.ref a/\DGet H a x o/\Q (.bl (!o.isSome)) H):=by
 intro d s σ H x y u v Q I c f ⟨a,o,b,g,q⟩;subst b;cases f;exact b51 (by omega) I g c λh e=>⟨.bl _,H,e,rfl,q⟩
end
end L2
namespace L3
open PySem PySem.Spec PyProof.Rows L2
noncomputable def valZ (kvs:List (Key×Z)) (k:Key):Option Z:=(kvs.find? λkv=>decide (kv.1=k)).map (·.2)
theorem a3m {K:Fg}:∀ {kvs:List (Key×Z)}{us:List (Key×V)},us.map (·.1)=kvs.map (·.1)->Reps K H (kvs.map (·.2)) (us.map (·.2))->(valZ kvs k=none->valV us k=none)/\∀ z,valZ kvs k=some z->∃ v,valV us k=some v/\Rep K H z v
 | [],[],_,_=>⟨λ_=>rfl,λ_ h=>by cases h⟩
 | [],_::_,h,_=>by simp at h
 | _::_,[],h,_=>by simp at h
 | (c,x)::fs,(c',v)::gs,h,r=>by
  simp at h;obtain⟨rfl,h⟩:=h;obtain⟨g,f,e,d,a⟩:=r;obtain⟨rfl,rfl⟩:=fO.inj e;have b:=a3m (k:=k) h a;unfold valZ valV;rw[fK,fK];cases q:decide (c'=k) with
  | true=>
   refine⟨λe=>?_,λz e=>?_⟩
   ·cases e
   ·cases e;exact⟨v,rfl,d⟩
  | false=>exact b
section
variable {X:Cx}
noncomputable def b6x:Z->List Z->Hq->K3->Prop:=λx xs G R=>match x,xs with
 | .ref p,[y,d]=>∃ kvs k,(G p=some (.dK kvs)\/G p=some (.dF kvs))/\keyZ y=some k/\R ((valZ kvs k).getD d) G
 | _,_=>False
theorem b2A (hu:X.A.units+66<cLine):MtQ X "dict.get" b6x:=b0K (b6v hu) λx E H Q m=>m.un λw B G R j s i h l=>by
 match w,B,h with
 | .ref p,[y,d],h=>
  obtain⟨v,q,rfl,t,o⟩:=s.two;obtain⟨g,k,e,D,h⟩:=h;obtain⟨a,f,c,b⟩:∃ a,Rd H p (.dK a)/\a.map _=g.map _/\Reps X.K H _ (a.map _):=by
   rcases e with e | e
   ·obtain⟨a,f,c,b⟩:=i _ _ e;exact⟨a,.inl f,c,b⟩
   ·obtain⟨C,a,f,c,b⟩:=i _ _ e;exact⟨a,.inr ⟨C,f⟩,c,b⟩
  refine⟨p,v,q,valV a k,j,rfl,by rw[a7r D t];exact .inl ⟨a,k,f,rfl,rfl⟩,?_⟩;cases hz:valZ g k with
  | none=>
   rw[hz]at h;rw[(a3m c b).1 hz];exact l _ _ _ _ h o i (.refl _ _)
  | some z=>
   rw[hz]at h;obtain⟨u,r,n⟩:=(a3m c b).2 z hz;rw[r];exact l _ _ _ _ h n i (.refl _ _)
noncomputable def b85:Z->List Z->Hq->K3->Prop:=λx xs G R=>match x,xs with
 | .ref p,[y,d]=>∃ kvs k,G p=some (.dK kvs)/\keyZ y=some k/\kvs.length<jC/\(∀ z,valZ kvs k=some z->R z G)/\(valZ kvs k=none->R d (put G p (.dK (putZ kvs k d))))
 | _,_=>False
theorem a8g:MtQ X "dict.setdefault" b85:=b0K b6w λx M H Q C=>C.un λw t G R i F l h r=>by
 match w,t,h with
 | .ref p,[y,d],h=>
  obtain⟨v,E,rfl,B,q⟩:=F.two;obtain⟨b,k,e,L,A,s,J⟩:=h;obtain⟨D,c,f,g⟩:=l _ _ e;refine⟨p,D,k,E,i,by rw[a7r L B],c,by rw[b2t f];exact A,λu a=>?_,λa=>?_⟩
  ·cases hq:valZ b k with
   | none=>rw[(a3m f g).1 hq]at a;cases a
   | some z=>
    obtain⟨I,j,m⟩:=(a3m f g).2 z hq;rw[j]at a;cases a;exact r _ _ _ _ (s z hq) m l (.refl _ _)
  ·cases hq:valZ b k with
   | some z=>
    obtain⟨I,j,m⟩:=(a3m f g).2 z hq;rw[j]at a;cases a
   | none=>
    have n:=a91 (k:=k) q f g;exact r _ _ _ _ (J hq) (q.mono (.dK c)) (l.set (.dK c) ⟨_,a0x,n.1,n.2.mono (.dK c)⟩) (.dK c)
theorem b86 (e:G p=some (.dK kvs)) (a:keyZ y=some k) (h:R ((valZ kvs k).getD d) G):b6x (.ref p) [y,d] G R:=⟨kvs,k,.inl e,a,h⟩
theorem b2B (e:G p=some (.dK kvs)\/G p=some (.dF kvs)) (a:keyZ y=some k) (h:R ((valZ kvs k).getD d) G):b6x (.ref p) [y,d] G R:=⟨kvs,k,e,a,h⟩
theorem b87 (e:G p=some (.dK kvs)) (a:keyZ y=some k) (z:kvs.length<jC) (h1:∀ z,valZ kvs k=some z->R z G) (h2:valZ kvs k=none->R d (put G p (.dK (putZ kvs k d)))):b85 (.ref p) [y,d] G R:=⟨kvs,k,e,a,z,h1,h2⟩
theorem b88 {P:Prop}(e:G p=some (.dK kvs)) (h:P):tyZ "dict" (.ref p) G/\P:=⟨.inr ⟨rfl,kvs,.inl e⟩,h⟩
theorem b89 {P:Prop}(e:G p=some (.dK kvs)\/G p=some (.dF kvs)) (h:P):tyZ "dict" (.ref p) G/\P:=⟨.inr ⟨rfl,kvs,e⟩,h⟩
end
noncomputable def PReps (K:Fg) (H:Hp):List (Z×Z)->List (V×V)->Prop:=Paired λp q=>Rep K H p.1 q.1/\Rep K H p.2 q.2
theorem PReps.mono {K:Fg}(t:TK K H H'):∀ {ps:List (Z×Z)}{vs:List (V×V)},PReps K H ps vs->PReps K H' ps vs
 | _,_,.nil=>.nil
 | _,_,.cons r s=>.cons ⟨r.1.mono t,r.2.mono t⟩ (PReps.mono t s)
section
variable {X:Cx}
end
end L3
namespace L3
theorem ln0 {α:Type}{C:List α->Prop}(h:C []):∀ us:List α,us.length=0->C us
 | [],_=>h
theorem lnS {α:Type}{C:List α->Prop}(h:∀ a,∀ us:List α,us.length=n->C (a::us)):∀ us:List α,us.length=n+1->C us
 | a::us,e=>h a us (Nat.succ.inj e)
end L3
namespace L2
open PySem PySem.Spec PyProof.Rows
section
variable {X:Cx}
end
end L2
namespace L3
open PySem PySem.Spec PyProof.Rows L2
section
variable {X:Cx}{e:Expr}{es:List Expr}{t:A3}{x y:Str}{p p2 pos pos2:Pos}
end
section
variable {X:Cx}
end
end L3
namespace L2
open PySem PySem.Spec PyProof.Rows
section
variable {X:Cx}
theorem b0T:CallR X (.type "str") (λxs H Q=>(∃ i:Int,xs=[.int i]/\i.natAbs.log2<1920/\Q (.str (Str.ofString (toString i))) H)\/∃ x,xs=[.str x]/\Q (.str x) H):=by
 intro b s σ H c d Q I r h;rcases h with ⟨i,rfl,hi,q⟩ | ⟨x,rfl,q⟩
 ·obtain⟨u,rfl,a⟩:=a4C r;obtain⟨t,rfl⟩:=a;exact PySem.P.str_of_int hi ⟨.str _,H,I.tok _,⟨_,rfl⟩,q⟩
 ·obtain⟨u,rfl,a⟩:=a4C r;obtain⟨t,rfl⟩:=a;exact PySem.P.str_of_str ⟨.str _,H,I,⟨_,rfl⟩,q⟩
theorem b0U:CallR X (.type "int") (λxs H Q=>∃ (x:Str) (n:Int),xs=[.str x]/\intText? x=some n/\x.length<=640/\Q (.int n) H):=by
 intro d s σ H e f Q I r h;obtain⟨x,n,rfl,b,a,q⟩:=h;obtain⟨u,rfl,c⟩:=a4C r;obtain⟨t,rfl⟩:=c;exact PySem.W.KIN.call_text b a ⟨.int n,H,I.tok _,⟨_,rfl⟩,q⟩
noncomputable def KD (X:Cx) (a:Addr) (kvs:List (Key×V)):Prop:=kvs.length<=jC/\(a==j5)=false/\∃ vs,KV kvs vs/\∀ h:Heap,X.K.In h->h.DictOf (a0N X.prog X.w) a vs
end
end L2
namespace L3
open PySem PySem.Spec PyProof.Rows L2
section
variable {X:Cx}
noncomputable def zStr:List Z->Hq->K3->Prop:=λxs G R=>match xs with
 | [.int i]=>i.natAbs.log2<1920/\R (.str (Str.ofString (toString i))) G
 | [.str x]=>R (.str x) G
 | _=>False
theorem b_str:a3G X (.type "str") zStr:=a1V b0T λf H Q d=>d.un λe G R a b h c=>by
 match e,h with
 | [.int i],h=>
  obtain⟨v,rfl,r⟩:=a.one;exact .inl ⟨i,by rw[r],h.1,c _ _ _ _ h.2 (by rw[a0I]) b (.refl _ _)⟩
 | [.str x],h=>
  obtain⟨v,rfl,r⟩:=a.one;exact .inr ⟨x,by rw[r],c _ _ _ _ h (by rw[a0I]) b (.refl _ _)⟩
noncomputable def c0V:List Z->Hq->K3->Prop:=λxs G R=>match xs with
 | [.str x]=>∃ n,intText? x=some n/\x.length<=640/\R (.int n) G
 | _=>False
theorem b_int:a3G X (.type "int") c0V:=a1V b0U λi H Q f=>f.un λc G R e b h a=>by
 match c,h with
 | [.str x],h=>
  obtain⟨v,rfl,r⟩:=e.one;obtain⟨n,g,d,h⟩:=h;exact⟨x,n,by rw[r],g,d,a _ _ _ _ h (by rw[a0u]) b (.refl _ _)⟩
noncomputable def zV:Z->V
 | .str x=>.str x
 | .ref a=>.ref a
 | .int i=>.int i
 | _=>.non
noncomputable def b9a:Z->Bool
 | .str _=>true
 | .ref _=>true
 | .int _=>true
 | _=>false
noncomputable def KDZ (X:Cx) (a:Addr) (kvs:List (Key×Z)):Prop:=(∀ kv∈kvs,b9a kv.2=true)/\KD X a (kvs.map λkv=>(kv.1,zV kv.2))
noncomputable def KTup (K:Fg) (a:Addr) (ss:List Str):Prop:=∃ (o:Obj) (its:Array Value) (n:Nat),K.lookup a=some o/\o.cls=.type "tuple"/\o.data=.seq its n/\its.size<=jC/\Vals (ss.map V.str) its.toList
theorem KTup.sq {K:Fg}(h:KTup K a ss):SqT K H a (ss.map V.str):=.inr h
variable {t:A3}
end
noncomputable def KDk (w:World) (K:Fg) (a:Addr) (kvs:List (Key×Z)):Prop:=(∀ kv∈kvs,b9a kv.2=true)/\kvs.length<=jC/\(a==j5)=false/\∃ vs:List (Key×Value),KV (kvs.map λkv=>(kv.1,zV kv.2)) vs/\∀ (P:jH) (h:Heap),K.In h->h.DictOf (a0N P w) a vs
theorem KDk.at (h:KDk X.w X.K a kvs):KDZ X a kvs:=⟨h.1,by rw[er];exact h.2.1,h.2.2.1,let ⟨vs,r,q⟩:=h.2.2.2;⟨vs,r,q X.prog⟩⟩
end L3
namespace L2
open PySem PySem.W
end L2
namespace L2
open PySem PySem.Spec PyProof.Rows
section
variable {X:Cx}{e:Addr}{oe:Obj}{C:Addr}
end
end L2
namespace L3
open PySem PySem.Spec PyProof.Rows L2
abbrev PX3:=List Z->Hq->K3->(Addr->Hq->Prop)->Prop
noncomputable def UpX (K:Fg) (H:Hp) (EE:Addr->Hq->Prop) (E:XK):Prop:=∀ C G H',EE C G->RH K G H'->TK K H H'->E (.ref C) none H'
noncomputable def a3r (K:Fg) (sp:PX3):Sp:=λvs H Q E=>∃ ws G R EE,Reps K H ws vs/\RH K G H/\sp ws G R EE/\UpV K H R Q/\UpX K H EE E
theorem b9b {K:Fg}(t:TKs H H'):TK K H H':=⟨t.tup,λa b h=>by
 rcases h with ⟨o,h⟩ | h
 ·exact .inl ⟨o,t.frz _ _ _ h⟩
 ·exact .inr h,t.frz⟩
noncomputable def UpN (K:Fg) (EE:Addr->Hq->Prop) (E:XK):Prop:=∀ C G H',EE C G->RH K G H'->E (.ref C) none H'
theorem UpX.since {K:Fg}(h:UpX K H EE E):UpN K EE (since H E):=λC G a q r t=>h C G a q r (b9b t)
abbrev EE0:Addr->Hq->Prop:=λ_ _=>False
theorem up0 {K:Fg}:UpN K EE0 E0:=λ_ _ _ z _=>z.elim
theorem a1h:a2T (CXx X.prog X.w) X E0:=by simp[a2T,CXx]
section
variable {X:Cx}{E:XK}{EE:Addr->Hq->Prop}{e e0:Expr}{es:List Expr}{x n:Str}{p pos np cpos hpos tpos:Pos}{t:A3}{te:E3}{k:Nat}{f C D:Addr}{fd:jI}{ps:List Str}{sp:PX3}
noncomputable def b5d (sp:PX3) (EE:Addr->Hq->Prop) (t:A3):E3:=fun σ G R=>t σ G λws G1=>sp ws G1 R EE
theorem a2g (hp:a2T (CXx X.prog X.w) X E) (hU:UpN X.K EE E) (F:FnOk X.prog X.w X.K X.mg X.base (CXx X.prog X.w) k f fd ps (a3r X.K sp)) (hr:Room k X.A) (hg:Gl X x) (hm:X.mg x=some (.ref f)) (hk:PySem.W.keepIn X.K (.ref f)=true) (hb:Binds X.K fd ps []) (ha:QA X (e::es) t)
  (hdb:(x==("__debug__":Str))=false:=by decide) (he:jE (e::es) X.env=(false,eval e X.env)::jE es X.env:=by rfl) (hpl:(backTo pos (jE es X.env)).any (·.1)=false:=by rfl) :
  QE X (.Call (.Name x p) (e::es) [] pos) (b5d sp EE t):=⟨a1E (b1B F hr hg hm hk hb .nil hp ha.p hdb he hpl) fun τ H Q l=>l.un fun σ G R i hg h n=>⟨σ,G,_,i,hg,h,λo g vs H1 c d b j=>⟨o,g,R,EE,by rw[eW];exact d,b,c,n.mono j,λC G m z r _=>hU C G m z r⟩⟩⟩
noncomputable def b5e (EE:Addr->Hq->Prop) (C:Addr) (te:E3):X3:=λ_ _ _ _ σ G=>te σ G λ_ G1=>EE C G1
theorem a7s (O:Outs X E) (hU:UpX X.K X.H₀ EE E) (hc:X.calm=true) (hg:Gl X x) (hm:X.mg x=some (.ref C)) (hq:PySem.W.excIn X.K C veM "ValueError.__new__"=true) (he:QE X e0 te)
  (hs:jE [e0] X.env=(false,eval e0 X.env)::jE [] X.env:=by rfl) (hp:(backTo cpos (jE [] X.env)).any (·.1)=false:=by rfl) (hd:(x==("__debug__":Str))=false:=by decide) :
  QS X (.Raise (some (.Call (.Name x np) [e0] [] cpos)) none pos) (b5e EE C te):=⟨a4G (b3U O hc hg hm hq he.p hs hp hd) λD τ H d=>d.un fun σ G nx rt bk ct hs hg h u1 u2 u3 u4=>⟨σ,G,_,hs,hg,h,λw G1 v H1 e rv a t1=>λt=>hU _ _ _ e a (b9b t)⟩⟩
variable {o:Expr}{m:Str}{apos:Pos}{to:E3}{PC:Addr->Prop}
noncomputable def b5f (C:Addr) (m:Str) (sp:PX3) (EE:Addr->Hq->Prop) (to:E3) (t:A3):E3:=fun σ G R=>to σ G λx G1=>∃ q dx fs,x=.ref q/\G1 q=some (.ins C dx fs)/\fs.lookup m=none/\t σ G1 λws G2=>sp (.ref q::ws) G2 R EE
theorem a2G (hp:a2T (CXx X.prog X.w) X E) (hU:UpN X.K EE E) (ho:QE X o to) (c:Cls X.K C) (hm:Meth X.K C m f) (F:FnOk X.prog X.w X.K X.mg X.base (CXx X.prog X.w) k f fd ps (a3r X.K sp)) (hr:Room k X.A) (hb:Binds X.K fd ps []) (ha:QA X (e::es) t)
  (hst:jE (e::es) X.env=(false,eval e X.env)::jE es X.env:=by rfl) (hpl:(backTo pos (jE es X.env)).any (·.1)=false:=by rfl)
  (ht:eval (.Call (.Attribute o m apos) (e::es) [] pos) X.env=(do
   let ov <- eval o X.env
   j7 apos.atName
   let (f,first) <- jV [ov] (ko ov m pl)
   kJ pos f first (backTo pos (jE (e::es) X.env)) (kq pos (kr [] X.env))):=by rfl):QE X (.Call (.Attribute o m apos) (e::es) [] pos) (b5f C m sp EE to t):=
 ⟨a1E (b1C ho.p c hm F hr hb .nil hp ha.p hst hpl ht) fun τ H Q D=>D.un fun σ G R i T h M=>by
  refine⟨σ,G,_,i,T,h,λw u v H1 ⟨q,j,fs,L,V,B,n⟩ b a g=>?_⟩;subst L;obtain⟨S,I,N,l⟩:=a _ _ V;refine⟨q,j,S,b,I,(a3l N l).1 B,σ,u,_,i.mono g,a,n,λx J Y H2 W U d s=>?_⟩;exact⟨.ref q::x,J,R,EE,by rw[eW,a09];exact⟨v,Y,rfl,by rw[a0O];exact b,U⟩,d,W,M.mono (g.trans s),λC G y z r _=>hU C G y z r⟩⟩
end
section
variable {X:Cx}{EW:XK}{N':List Str}{sc:Scope}{cap:List (Option Nat)}{tg iter elt:Expr}{ifs:List Expr}{wi:I3}{pt:Pt}{tt:T3}{te:E3}{pos:Pos}
end
section
variable {P:jH}{w:World}{K:Fg}{mg:Str->Option Value}{base:Heap}
theorem fn3x {st:Stmt}(F:Fun K x qual st f fd) (S:FnScope N ps (a0f st)) (len:∀ ws G R EE,sp ws G R EE->ws.length=ps.length)
  (hbody:∀ (cdv:Value) (A:Around) (outer:List Env) (s:Shared) (H:Hp) (E:XK) (ws:List Z) (G:Hq) (R:K3) (EE:Addr->Hq->Prop),Room k (A.deeper (envOfC qual (a0f st) s.heap.objs.size f cdv))->sp ws G R EE->UpX K H EE E ->
   ∃ t,QSs (cxOf (CXx P w) P w K mg base N qual (a0f st) f cdv A outer s H E) (a2c st) t/\t (λ_ G'=>R .non G') R (λ_ _=>False) (λ_ _=>False) (a43 N ws) G):FnOk P w K mg base (CXx P w) (k+1) f fd ps (a3r K sp):=by
 obtain⟨I,T,U,C,M,V,m,L,z,rfl,n,g⟩:=F.ex;refine b7J n g S (λo H Q E ⟨b,G,R,e,c,j,h,d,l⟩=>by rw[<- c.length];exact len _ _ _ _ h) ?_;rintro A a s H o Q E r ⟨b,G,R,e,c,j,h,d,l⟩;obtain⟨t,v,q⟩:=hbody m A a s H E b G R e r h l;exact⟨_,v.p,a43 N b,G,_,R,_,_,.start c,j,q,fun σ' J τ' D u B i y=>d _ _ _ _ u (by rw[a01]) i y,d,λ_ _ _ _ h _ _ _=>h.elim,λ_ _ _ _ h _ _ _=>h.elim⟩
end
mutual
def DZ (G:Hq):PyData->Z->Prop
 | .none,x=>x=.non
 | .bool b,x=>x=.bl b
 | .int i,x=>x=.int i
 | .str s,x=>x=.str s
 | .list ds,x=>∃ p ws,x=.ref p/\G p=some (.lst ws)/\DZs G ds ws
 | .tuple ds,x=>∃ ws,x=.tup ws/\DZs G ds ws
 | .dict _,_=>False
def DZs (G:Hq):List PyData->List Z->Prop
 | [],ws=>ws=[]
 | d::ds,ws=>∃ w r,ws=w::r/\DZ G d w/\DZs G ds r
end
mutual
theorem DZ.sm {G G':Hq}(s:Sm G G'):∀ {d:PyData}{w:Z},DZ G d w->DZ G' d w
 | .none,w,q=>by unfold DZ at q ⊢;exact q
 | .bool b,w,q=>by unfold DZ at q ⊢;exact q
 | .int i,w,q=>by unfold DZ at q ⊢;exact q
 | .str _,w,q=>by unfold DZ at q ⊢;exact q
 | .list ds,w,q=>by
  unfold DZ at q ⊢;obtain⟨p,ws,e,hp,q⟩:=q;exact⟨p,ws,e,s _ _ hp,DZs.sm s q⟩
 | .tuple ds,w,q=>by
  unfold DZ at q ⊢;obtain⟨ws,e,q⟩:=q;exact⟨ws,e,DZs.sm s q⟩
 | .dict _,w,q=>by unfold DZ at q;exact q.elim
theorem DZs.sm {G G':Hq}(s:Sm G G'):∀ {ds:List PyData}{ws:List Z},DZs G ds ws->DZs G' ds ws
 | [],ws,q=>by unfold DZs at q ⊢;exact q
 | d::ds,ws,q=>by
  unfold DZs at q ⊢;obtain⟨w,r,e,q1,q2⟩:=q;exact⟨w,r,e,DZ.sm s q1,DZs.sm s q2⟩
end
section
variable {X:Cx}
end
noncomputable def b9c:List Z->Hq->K3->Prop:=λxs G R=>match xs with
 | [.bl b]=>R (.int (if b then 1 else 0)) G
 | _=>False
end L3
namespace L2
open PySem PySem.Spec PyProof.Rows
theorem b2C:CallR X (.type "int") (λxs H Q=>∃ b:Bool,xs=[.bl b]/\Q (.int (if b then 1 else 0)) H):=by
 intro c s σ H e d Q I r h;obtain⟨b,rfl,q⟩:=h;obtain⟨u,rfl,a⟩:=a4C r;cases (a);exact PySem.call_int_bool ⟨.int _,H,I.tok _,⟨_,rfl⟩,q⟩
end L2
namespace L3
open PySem PySem.Spec PyProof.Rows L2
theorem b5g:a3G X (.type "int") b9c:=a1V b2C λg H Q d=>d.un λc G R a f h e=>by
 match c,h with
 | [.bl b],h=>
  obtain⟨v,rfl,r⟩:=a.one;exact⟨b,by rw[r],e _ _ _ _ h (by rw[a0u]) f (.refl _ _)⟩
theorem b9d (h:R (.int (if b then 1 else 0)) G):b9c [.bl b] G R:=h
section
variable {X:Cx}{E:XK}{e:Expr}{es:List Expr}{x n:Str}{p pos np hpos tpos:Pos}{t:A3}{k:Nat}{f D:Addr}{fd:jI}{ps:List Str}{sp:PX3}
end
end L3
namespace L2
open PySem PySem.Spec PyProof.Rows
noncomputable def ItD (o:Obj) (a:Addr) (kvs:List (Key×V)):It:=
 ⟨λi H=>H a=some (.frz o (.dK kvs))/\i<kvs.length,λi H x H'=>H'=H/\∃ p,kvs[i]?=some p/\x=kV p.1,λi H=>H a=some (.frz o (.dK kvs))/\kvs.length<=i⟩
theorem c0W (h:(a0N P w).is k u=true):RelV (kV k) u:=by
 rcases a0G h with ⟨i,t,rfl,rfl⟩ | ⟨x,t,rfl,rfl⟩ | ⟨rfl,rfl⟩
 ·exact⟨t,rfl⟩
 ·exact⟨t,rfl⟩
 ·rfl
theorem a92:∀ {kvs:List (Key×V)}{vs:List (Key×Value)},KV kvs vs->vs.length=kvs.length
 | [],vs,h=>by cases h;rfl
 | p::kvs,vs,h=>by
  cases h with
  | cons h1 h2=>rw[eF,eF,a92 h2]
theorem b5h:∀ {kvs:List (Key×V)}{vs:List (Key×Value)}{i:Nat}{p:Key×V},KV kvs vs->kvs[i]?=some p->∃ q,vs[i]?=some q/\p.1=q.1
 | [],vs,i,p,h,e=>by simp at e
 | p0::kvs,vs,i,p,h,e=>by
  cases h with
  | cons h1 h2=>
   cases i with
   | zero=>cases e;exact⟨_,rfl,h1.1⟩
   | succ i=>exact b5h (i:=i) h2 (by simpa using e)
theorem b2D {P:jH}{w:World}{K:Fg}{tg:Expr}(a it:Addr) {o:Obj}(kvs:List (Key×V)) {es:Array lE}{ep:Nat}(hd:o.data=.dict es ep):Turn P w K tg (ItD o a kvs) [it] it (λi h=>h.IsKeyIter it a i kvs.length ep) where
 mem:=by simp
 obj:=λi h st b hb=>by
  have e:b=it:=by simpa using hb
  subst e;obtain⟨o,e,c,d⟩:=st;exact⟨o,e,λv z=>by rw[d]at z;cases z⟩
 keep:=λi h h' st k=>st.at λo e=>k it (by simp) o e
 item:=by
  intro X hP hw hK hc i pins s σ H E I hf st hg;subst hP hw hK;obtain⟨ha,hi⟩:=hg;obtain⟨g,hz,hsm,vs,kv,dof⟩:=(show ObjOk X.prog X.w H s.heap a (.frz o (.dK kvs)) from I.hok a _ ha);obtain⟨f0,f1,f2,f3,f4,f5⟩:=hf it (by simp);have hl:=a92 kv;have dat:s.heap.DictAt (a0N X.prog X.w) a vs ep:=by
   obtain⟨o',es',ep',h1,h2,h3,h4⟩:=dof;rw[g]at h1;cases h1;rw[hd]at h3;cases h3;exact⟨o,es,g,h2,hd,h4⟩
  obtain⟨p,hp⟩:∃ p,kvs[i]?=some p:=⟨kvs[i],eQ hi⟩;obtain⟨⟨k,v⟩,hq,e1⟩:=b5h kv hp;refine wpAny_pyNext_dict_item (by rw[hl];exact st) dat hq λkey h' hk st' sb=>?_;have I1:Inv X pins σ H { s with heap:=h' }:=I.turned (t':=s.toks) (λb o hb e=>(sb.2 b hb).trans e) f0 f1 f3 f4 f5;rw[hl]at st';obtain⟨oi,e,c,d⟩:=id st';exact⟨key,rfl,b0A (s:={ s with heap:=h' }) e c d (by decide) ⟨kV p.1,H,I1,by rw[e1];exact c0W hk,⟨rfl,p,hp,rfl⟩,st',λb hb=>(hf b hb).1⟩⟩
 done:=by
  intro X hP hw hK hc i pins s σ H E I hf st hg;subst hP hw hK;obtain⟨ha,hi⟩:=hg;obtain⟨g,hz,hsm,vs,kv,dof⟩:=(show ObjOk X.prog X.w H s.heap a (.frz o (.dK kvs)) from I.hok a _ ha);obtain⟨f0,f1,f2,f3,f4,f5⟩:=hf it (by simp);have hl:=a92 kv;have dat:s.heap.DictAt (a0N X.prog X.w) a vs ep:=by
   obtain⟨o',es',ep',h1,h2,h3,h4⟩:=dof;rw[g]at h1;cases h1;rw[hd]at h3;cases h3;exact⟨o,es,g,h2,hd,h4⟩
  exact wpAny_pyNext_dict_end (I.ok.hd hc) (by rw[hl];exact st) dat (List.getElem?_eq_none (by omega)) λh' eb=>⟨rfl,I.turned (t':=s.toks) (λb o hb e=>eb b o hb e) f0 f1 f3 f4 f5⟩
 self:=λ_ _ _ _ _ st h=>wpAny_pyIter_keyiter st h
section
variable {X:Cx}{pins:List (Addr×Obj)}{σ:St}{H:Hp}{s:Shared}{a:Addr}{kvs:List (Key×V)}{tg:Expr}
theorem Inv.freeze (I:Inv X pins σ H s) (e:H a=some (.dK kvs)):∃ o,Inv X pins σ (upd H a (.frz o (.dK kvs))) s:=by
 obtain⟨p,k,t,x,h⟩:=(I.hok a _ e);have i:=h;obtain⟨o,C,B,g,r⟩:=i;refine⟨o,?_⟩;have l:∀ b,H b=none->b≠a:=λb q z=>by rw[z,e]at q;cases q
 have j:∀ b d,H b=some (.tup d)->b≠a:=λb d q z=>by rw[z,e]at q;cases q
 have A:∀ b o u,H b=some (.frz o u)->b≠a:=λb o u q z=>by rw[z,e]at q;cases q
 have y:∀ b f,H b=some (.tbl f)->b≠a:=λb f q z=>by rw[z,e]at q;cases q
 have m:∀ b c,H b=some (.own c)->b≠a:=λb c q z=>by rw[z,e]at q;cases q
 refine I.un ⟨λb o q _ _ _=>q,λb o q _ _ _=>⟨o.slots,q⟩,λb o q n _=>by rw[a0t (l b n)];exact n,λb o q _=>⟨o,q⟩,λb d q=>by rw[a0t (j b d q)];exact q,λb o u q=>by rw[a0t (A b o u q)];exact q,λb f q=>⟨#[],by rw[a0t (y b f q),Array.append_empty];exact q⟩⟩ λb u q=>?_
 by_cases hb:b=a
 ·subst hb;rw[a0x]at q;cases q;exact⟨g,p,k,t,x,h⟩
 ·rw[a0t hb]at q;exact (I.hok b u q).stay (λc v _ r=>r) (λc r=>by rw[a0t (m c b r)];exact r) λc d r=>by rw[a0t (j c d r)];exact r
noncomputable def iDct (tl:TE):TI:=fun σ H R=>tl σ H λx H1=>∃ a kvs,x=.ref a/\((H1 a=some (.dK kvs)/\∀ o,R (ItD o a kvs) (upd H1 a (.frz o (.dK kvs))))\/∃ o,H1 a=some (.frz o (.dK kvs))/\R (ItD o a kvs) H1)
theorem b6y (hl:PE X l tl):PI X tg l (iDct tl):=by
 intro c s σ H R I h;refine thn (hl c s σ H _ I h) λv d ⟨x,B,r,C,E⟩=>?_;obtain⟨a,f,e,q⟩:=E;subst e;cases C;have k:∀ o i,Inv X c σ i d->i a=some (.frz o (.dK f))->R _ i->wpAny _ X.A _ (PIE X c σ tg R) X.xe d:=λo i j m q=>by
  obtain⟨g,M,t,L,D,y⟩:=(j.hok a _ m);obtain⟨N,n⟩:=y.dictAt;have p:=n;obtain⟨J,G,u,_,F,_⟩:=p;rw[g]at u;cases u;refine wpAny_pyIter_dict t n ?_;refine⟨d.heap.objs.size,[d.heap.objs.size],_,_,i,rfl,j.kept λb o e=>Heap.get?_push_of_some _ e,b2D a _ f F,⟨_,Heap.get?_push_size _ rfl,rfl,by rw[a92 D];rfl⟩,λb z=>?_,q⟩;have e:b=d.heap.objs.size:=by grind
  subst e;exact j.fpOk (eB _) (j.hok.fresh (eB _))
 rcases q with ⟨m,q⟩ | ⟨o,m,q⟩
 ·obtain⟨o,j⟩:=r.freeze m;exact k o _ j a0x (q o)
 ·exact k o B r m q
end
end L2
namespace L3
open PySem PySem.Spec PyProof.Rows L2
noncomputable def keyW:Key->Z
 | .inl (some i)=>.int i
 | .inl none=>.non
 | .inr s=>.str s
theorem b4d {K:Fg}:∀ k:Key,Rep K H (keyW k) (kV k)
 | .inl (some i)=>by show Rep K H (.int i) (.int i);rw[a0u]
 | .inl none=>by show Rep K H .non .non;rw[a01]
 | .inr s=>by show Rep K H (.str s) (.str s);rw[a0I]
noncomputable def wkD (x:Z) (G:Hq) (R:List Z->(Hq->Prop)->Hq->Prop):Prop:=match x with
 | .ref a=>∃ kvs,(G a=some (.dK kvs)\/G a=some (.dF kvs))/\R (kvs.map λp=>keyW p.1) (λ_=>True) (put G a (.dF kvs))
 | _=>False
noncomputable def iD (tl:E3):I3:=fun σ G R=>tl σ G λx G1=>wkD x G1 R
theorem a6P {K:Fg}{kvs:List (Key×Z)}(e:H0 a=some (.frz o (.dK us))) (hn:us.map (·.1)=kvs.map (·.1)):a7i K (kvs.map λp=>keyW p.1) (λ_=>True) (ItD o a us) H0:=λi G H g t n j=>by
 have d:=t.frd _ _ _ e;have l:us.length=kvs.length:=by have:=congrArg fb hn;simpa using this
 rw[er]at j;refine⟨λh=>⟨d,by rw[er]at h;omega⟩,λw b=>?_⟩;rw[eK]at b;cases hk:kvs[i]? with
 | none=>rw[hk]at b;cases b
 | some p=>
  rw[hk]at b;cases b;have k:=(eJ.mp hk).1;refine⟨⟨d,by omega⟩,?_⟩;rintro x m ⟨rfl,q,f,rfl⟩
  have:q.1=p.1:=by
   have c:(us.map (·.1))[i]?=some q.1:=by rw[eK,f];rfl
   rw[hn,eK,hk]at c;exact (ff.inj c).symm
  rw[this];exact⟨b4d _,g,.refl _ _⟩
section
variable {X:Cx}{tg l:Expr}{tl:E3}
theorem b6z (hl:QE X l tl):QI X tg l (iD tl):=a85 (b6y hl.p) fun τ H B u=>u.un fun σ G R z A h t=>by
 refine⟨σ,G,_,z,A,h,λw r v q d k c s=>?_⟩;cases w with
 | ref a=>
  obtain⟨j,e,d⟩:=d;rcases e with e | e
  ·obtain⟨g,f,i,n⟩:=c _ _ e;refine⟨a,g,k,.inl ⟨f,λo=>?_⟩⟩;have m:TK X.K q (L2.upd q a (.frz o (.dK g))):=.dK f;exact t _ _ _ _ _ d (a6P a0x i) (c.set m ⟨o,g,a0x,i,n.mono m⟩) (s.trans m)
  ·have x:=e;obtain⟨o,g,f,i,n⟩:=c _ _ e;refine⟨a,g,k,.inr ⟨o,f,?_⟩⟩;have y:put r a (.dF j)=r:=by
    funext b
    unfold put
    split
    ·simp_all
    ·rfl
   rw[y]at d;exact t _ _ _ _ _ d (a6P f i) c s
 | _=>exact eC d
theorem i_iD (h:tl σ G λx G1=>wkD x G1 R):iD tl σ G R:=h
theorem c0X (e:G p=some (.dK kvs)\/G p=some (.dF kvs)) (h:R (kvs.map λp=>keyW p.1) (λ_=>True) (put G p (.dF kvs))):wkD (.ref p) G R:=⟨kvs,e,h⟩
end
end L3
namespace L2
open PySem PySem.Spec PyProof.Rows
theorem b2E:∀ {ss:List Str}{us:List Value},Vals (ss.map V.str) us->StrsAre us ss
 | [],us,r=>by rw[eX]at r;cases r;exact .nil
 | s::ss,us,r=>by
  cases r with
  | cons r1 r2=>obtain⟨t,rfl⟩:=r1;exact .cons s t (b2E r2)
theorem a8h:∀ {vs:List Value}{ss:List Str},StrsAre vs ss->Vals (ss.map V.str) vs
 | _,_,.nil=>.nil
 | _,_,.cons s t h=>.cons ⟨t,rfl⟩ (a8h h)
noncomputable def b4e (K:Fg):List V->Hp->VK->Prop:=λxs H Q=>∃ (p:Addr) (ss:List Str),xs=[.ref p]/\SqL K H p (ss.map V.str)/\ss.length<64 /\
 ∀ (t:Addr) (ts:List Str),H t=none->ts.Perm ss->sortedS ts=true->Q (.ref t) (upd H t (.lst (ts.map V.str)))
theorem a8i:CallR X (.builtin "sorted") (b4e X.K):=by
 intro k s σ H y z Q I r h;obtain⟨p,x,rfl,g,t,q⟩:=h;obtain⟨u,rfl,i⟩:=a4C r;cases i;obtain⟨c,n,m,_⟩:=I.list g;have f:=b2E n;have v:=f.length;refine sorted_strs m.isList f (by omega) λa b o d l=>?_;obtain⟨e,j⟩:=sortedAll_at s.heap c a;exact⟨.ref _,_,I.laid (λ_ _=>sortedAll_old) (gz _) (show ObjOk X.prog X.w _ _ _ (.lst _) from ⟨by rw[er,d.length_eq,jW];omega,a.toList,e,a8h o,by simpa using j⟩),rfl,q _ b (I.hok.fresh (gz _)) d l⟩
end L2
namespace L3
open PySem PySem.Spec PyProof.Rows L2
theorem a6Q {K:Fg}:∀ ss:List Str,Reps K H (ss.map Z.str) (ss.map V.str)
 | []=>by rw[eX,eX,a0w]
 | s::ss=>by
  exact⟨_,_,rfl,by rw[a0I],a6Q ss⟩
theorem a6R {K:Fg}:∀ {ss:List Str}{vs:List V},Reps K H (ss.map Z.str) vs->vs=ss.map V.str
 | [],vs,h=>by rw[eX,a0w]at h;subst h;rfl
 | s::ss,vs,h=>by
  obtain⟨v,r,rfl,a,b⟩:=h;rw[a,a6R b];rfl
noncomputable def a93:List Z->Hq->K3->Prop:=λxs G R=>match xs with
 | [.ref p]=>∃ ss:List Str,G p=some (.lst (ss.map Z.str))/\ss.length<64/\∀ (t:Addr) (ts:List Str),G t=none->ts.Perm ss->sortedS ts=true->R (.ref t) (put G t (.lst (ts.map Z.str)))
 | _=>False
theorem b2F:a3G X (.builtin "sorted") a93:=a1V a8i λu H Q n=>n.un λg G R j b h q=>by
 match g,h with
 | [.ref p],h=>
  obtain⟨v,rfl,r⟩:=j.one;obtain⟨i,e,d,h⟩:=h;obtain⟨s,k,l⟩:=b _ _ e
  have:=a6R l
  subst this;exact⟨p,i,by rw[r],SqL.of k,d,λt a c f m=>q _ _ _ _ (h t a (b.out c) f m) (by rw[a0O]) (b.set (.new c) ⟨_,a0x,a6Q a⟩) (.new c)⟩
theorem b2G (e:G p=some (.lst (ss.map Z.str))) (z:ss.length<64) (h:∀ (t:Addr) (ts:List Str),G t=none->ts.Perm ss->sortedS ts=true->R (.ref t) (put G t (.lst (ts.map Z.str)))):a93 [.ref p] G R:=⟨ss,e,z,h⟩
end L3
namespace L2
open PySem PySem.Spec PyProof.Rows
structure Cl where
 x:Str
 np:Pos
 b₀:Stmt
 suite:List Stmt
 hp:Pos
noncomputable def Cl.h (n:Str) (c:Cl):ExceptHandler:=.ExceptHandler (some (.Name c.x c.np)) (some n) (c.b₀::c.suite) c.hp
inductive Picks (X:Cx) (C:Addr) (th:Addr->TS):List Cl->Prop
 | here {c:Cl} {cs:List Cl} {D:Addr} (hg:Gl X c.x) (hm:X.mg c.x=some (.ref D)) (hd:(c.x==("__debug__":Str))=false) (hD:PySem.W.exmOne X.K (.ref C) (.ref D)=some true)
   (hh:∀ e oe,oe.cls=.ref C->oe.dict=none->PySem.W.notCls oe=true->PSs (X.hnd e oe) (c.b₀::c.suite) (th e)):Picks X C th (c::cs)
 | next {c:Cl} {cs:List Cl} {D:Addr} (hg:Gl X c.x) (hm:X.mg c.x=some (.ref D)) (hd:(c.x==("__debug__":Str))=false) (hD:PySem.W.exmOne X.K (.ref C) (.ref D)=some false) (hp:Picks X C th cs):Picks X C th (c::cs)
section
variable {X:Cx}{n:Str}{pos tpos:Pos}{ce:Expr}
end
end L2
namespace L3
open PySem PySem.Spec PyProof.Rows L2
inductive Alt (X:Cx) (cs:List Cl):List (Addr×(Addr->X3))->Prop
 | nil:Alt X cs []
 | cons {C:Addr} {th:Addr->X3} {l:List (Addr×(Addr->X3))} (h:Picks X C (λe=>lowS X.K (th e)) cs) (hs:Alt X cs l):Alt X cs ((C,th)::l)
theorem Alt.get:∀ {l:List (Addr×(Addr->X3))},Alt X cs l->∀ p∈l,Picks X p.1 (λe=>lowS X.K (p.2 e)) cs
 | _,.nil,p,h=>by simp at h
 | _,.cons h hs,p,hp=>by
  rcases eI.mp hp with rfl | hp
  ·omega
  ·exact hs.get p hp
section
variable {X:Cx}{e:Expr}{es:List Expr}{n:Str}{p pos tpos:Pos}{t:A3}{k:Nat}{f:Addr}{fd:jI}{ps:List Str}{sp:PX3}
end
end L3
namespace L2
open PySem PySem.W
end L2
namespace L2
open PySem PySem.Spec PyProof.Rows
theorem Inv.melt (I:Inv X pins σ H s) (e:H a=some (.frz o (.dK kvs))) (n:∀ o u,X.H₀ a≠some (.frz o u)):Inv X pins σ (upd H a (.dK kvs)) s:=by
 obtain⟨g,E,j,A,B,t⟩:=(I.hok a _ e);have i:∀ b,H b=none->b≠a:=λb q z=>by rw[z,e]at q;cases q
 have k:∀ b d,H b=some (.tup d)->b≠a:=λb d q z=>by rw[z,e]at q;cases q
 have D:∀ b f,H b=some (.tbl f)->b≠a:=λb f q z=>by rw[z,e]at q;cases q
 have L:∀ b c,H b=some (.own c)->b≠a:=λb c q z=>by rw[z,e]at q;cases q
 refine⟨I.ok,I.os,I.bare,⟨I.base.keep,I.base.slot,λb o F C y=>?_,I.base.there,λb d q=>?_,λb o u q=>?_,λb f q=>?_⟩,I.loc,I.cell,?_,λx c q=>?_,λp M=>?_,λb u q=>?_,I.len⟩
 ·have h:=I.base.free b o F C y;rw[a0t (i b h)];exact h
 ·have h:=I.base.tups b d q;rw[a0t (k b d h)];exact h
 ·rw[a0t (λz=>n o u (by simp_all))];exact I.base.frzs b o u q
 ·obtain⟨m,h⟩:=I.base.tbls b f q;exact⟨m,by rw[a0t (D b _ h)];exact h⟩
 ·rw[a0t (i _ I.free)];exact I.free
 ·have h:=I.freeC x c q;rw[a0t (i _ h)];exact h
 ·obtain⟨G,l,J⟩:=I.pin p M;exact⟨G,by rw[a0t (i _ l)];exact l,J⟩
 ·by_cases hb:b=a
  ·subst hb;rw[a0x]at q;cases q;exact⟨E,j,A,B,t⟩
  ·rw[a0t hb]at q;exact (I.hok b u q).stay (λc v _ r=>r) (λc r=>by rw[a0t (L c b r)];exact r) λc d r=>by rw[a0t (k c d r)];exact r
end L2
namespace L3
open PySem PySem.Spec PyProof.Rows L2
section
variable {X:Cx}{K:Fg}{H H1:Hp}{a:Addr}{us us1:List (Key×V)}{o:Obj}{e:Expr}{t:E3}{G:Hq}{kvs:List (Key×Z)}
theorem a5R (h:H1 a=some (.frz o (.dK us1))):TW K H1 (upd H1 a (.dK us1)):=
 ⟨λc b q=>by rw[a0t (λz=>by rw[z,h]at q;cases q)];exact q,λc b q=>by
  rcases q with ⟨o',q⟩ | q
  ·exact .inl ⟨o',by rw[a0t (λz=>by rw[z,h]at q;cases q)];exact q⟩
  ·exact .inr q⟩
theorem b6A (h0:H a=some (.dK us)) (t:TK K H H1) (h:H1 a=some (.frz o (.dK us1))):TK K H (upd H1 a (.dK us1)):=
 ⟨λc b q=>(a5R (K:=K) h).tup c b (t.tup c b q),λc b q=>(a5R (K:=K) h).frz c b (t.frz c b q),λc d u q=>by
  rw[a0t (λz=>by rw[z,h0]at q;cases q)];exact t.frd c d u q⟩
theorem c0Y (t:TW K H H1) (e:H1 b=H b) (h:ROb K H b o'):ROb K H1 b o':=by
 cases o' with
 | lst ws=>obtain⟨a,q,r⟩:=h;exact⟨a,e.trans q,r.monoW t⟩
 | dK kvs=>obtain⟨a,q,n,r⟩:=h;exact⟨a,e.trans q,n,r.monoW t⟩
 | ins C dx fs=>obtain⟨a,q,n,r⟩:=h;exact⟨a,e.trans q,n,r.monoW t⟩
 | dF kvs=>obtain⟨c,a,q,n,r⟩:=h;exact⟨c,a,e.trans q,n,r.monoW t⟩
 | dT ks=>obtain⟨a,q,n⟩:=h;exact⟨a,e.trans q,n⟩
theorem b6B (g:RH K G H1) (e1:G a=some (.dF kvs)):∃ o us1,H1 a=some (.frz o (.dK us1))/\RH K (put G a (.dK kvs)) (upd H1 a (.dK us1)):=by
 obtain⟨o,c,h,d,f⟩:=g _ _ e1;refine⟨o,c,h,λb e q=>?_⟩
 by_cases hb:b=a
 ·subst hb;rw[a0e]at q;cases q;exact⟨c,a0x,d,f.monoW (a5R h)⟩
 ·rw[a0H hb]at q;exact c0Y (a5R h) (a0t hb) (g b e q)
noncomputable def uUnf (t:E3):E3:=fun σ G R=>∃ a kvs,G a=some (.dK kvs)/\t σ G λv G'=>G' a=some (.dF kvs)/\R v (put G' a (.dK kvs))
theorem c0Z (h:QE X e t):QE X e (uUnf t):=⟨λf s τ H Q I z=>by
 obtain⟨σ,G,R,y,j,⟨a,d,x,A⟩,C⟩:=z;obtain⟨F,k,L,J⟩:=j _ _ x;refine thn (h.p f s τ H (λv c=>∃ w b,Rep X.K c w v/\RH X.K b c/\TK X.K H c/\b a=some _/\R w _) I ⟨σ,G,_,y,j,A,λw b v c q r g t=>⟨w,b,r,g,t,q.1,q.2⟩⟩) λu E ⟨v,c,l,m,w,b,r,g,t,n,q⟩=>?_;obtain⟨o,D,i,B⟩:=b6B g n;exact⟨v,_,l.melt i (λo u z=>by have:=I.base.frzs a o u z;rw[k]at this;cases this),m,C w _ v _ q (r.monoW (a5R i)) B (b6A k t i)⟩⟩
theorem c00 (e:G a=some (.dK kvs)) (h:t σ G λv G'=>G' a=some (.dF kvs)/\R v (put G' a (.dK kvs))):uUnf t σ G R:=⟨a,kvs,e,h⟩
end
end L3
namespace DictP
open PySem PyProof.Rows
theorem a3n:entryFor table "dict.update.loop"=some jO.«dict.update.loop»:=entryFor_of_tree (by kernel_rfl)
theorem a1t:plainId "dict.update.loop"=true:=by decide +kernel
theorem b6C:typeLookup (.type "list") "keys"=pure none:=am_miss_of_fast (by decide +kernel)
section
variable {prog:jH}{w:World}{A:Around}{E:Value->Shared->Prop}{s:Shared}{a:Addr}{xs:Array Value}{k:Nat}{sl:Array (Option Value)}
theorem b2H (hx:s.heap.get? a=some { cls:=.type "list",dict:=none,data:=.seq xs k,slots:=sl }) (hA:A.handled=none)
  (h:∀ h' tk,(∀ b ob,s.heap.get? b=some ob->h'.get? b=some ob)->Q none { s with heap:=h',toks:=tk }):wpAny (model prog w) A (getAttr? (.ref a) "keys") Q E s:=by
 obtain⟨hp,g,d,tk,os⟩:=s;have hT:∀ tk',(⟨hp,g,d,tk',os⟩:Shared).TypeIs (.ref a) "list":=λ_=>⟨_,hx,rfl⟩;have f1:=sub_AttributeError;have f3:=F.slot_list_getattribute.lookup;have f4:=F.slot_list_getattribute.bind (.ref a);have f5:=am_list_getattr_none;unfold getAttr? getAttrBy? getAttrBy
 repeat (any_goals (first | assumption | exact hT _ | ((with_reducible show wpAny _ _ (call (Value.builtin "list.__getattribute__") _ _) _ _ _);refine lK F.slot_list_getattribute (hT _) am_entry_list_getattribute (F.args_list_getattribute_2 _ _) (meets_getattribute_miss_list a xs k sl "keys" _ b6C (by decide +kernel)) ⟨hx,hA,λh' tk' e hx'=>?_⟩) | wp_step))
 obtain⟨t',u',he⟩:=hx'.there
 show wpAny _ _ (getattributeRaised _ _ _ _ _ _ _) _ _ _
 unfold getattributeRaised
 repeat (any_goals (first | assumption | wp_step))
 exact h _ _ hx'.keeps
theorem a6S (g:s.heap.get? t=some o) (hc:o.cls=.type "tuple") (hd:o.data=.seq #[x,y] n) (h:Q [x,y] s):wpAny (model prog w) A (jO.Dict.pairItems (.ref t)) Q E s:=by
 obtain⟨c,a,b,e⟩:=o;simp only at hc hd;subst hc hd
 repeat (any_goals (first | assumption | wp_step))
end
section
variable {prog:jH}{w:World}{A:Around}{R:Result->Shared->Prop}{I:Addr}{fp wr:List Addr}{G:Array kH->Array kH->Prop}{n:Nat}{P:Nat->Value->Prop}{St:Nat->Shared->Prop}{K:Type}[DecidableEq K] {knd:KeyKind prog w K}
noncomputable def b9e (knd:KeyKind prog w K) (h:Heap) (v:Value) (r:K×Value):Prop:=∃ t o key m,v=.ref t/\h.get? t=some o/\o.cls=.type "tuple"/\o.data=.seq #[key,r.2] m/\knd.is r.1 key=true
theorem loop (W:WalksS prog w A.in1 I fp wr G n P St) (d:Addr) (hdf:d∉fp) (rows:List (K×Value)) (hn:n=rows.length) (hz:rows.length<=jC) :
  ∀ (k i:Nat) (s:Shared),n - i=k->i<=n->St i s->(∀ j v,P j v->∃ r,rows[j]?=some r/\b9e knd s.heap v r/\v≠.ref d)->(∀ j v,P j v->∀ b,v=.ref b->b∉wr)->s.heap.DictOf knd d (merged [] (rows.take i)) ->
   (∀ s',Moved (d::wr) G s s'->s'.heap.DictOf knd d (merged [] rows)->R (.ok (.ret .none)) s') ->
   j9 (model prog w) A (.builtin "dict.update.loop" ⟨[.ref d,.ref I,rawInt i,.none],[]⟩) R s:=by
 have x:d∉wr:=λh=>hdf (W.sub _ h);have up:∀ b∈wr,b∈d::wr:=λb p=>fE _ p;intro k
 induction k with
 | zero=>
  intro i s hk hi q N l u M;have V:i=n:=by omega
  subst V;refine lq a3n ?_;rw[Around.under_plainId a1t _];refine jB (W.done s _ _ q λa f=>?_)
  show wpAny _ A.in1 _ _ _ a
  refine jB (jK (jK (M a (f.mono up) ?_)));rw[ft (by omega)]at u;obtain⟨o,J,S,L,c⟩:=u;exact⟨o,J,S,f.heap d _ x L,c⟩
 | succ k ih=>
  intro i s hk hi q N l u M;have U:i<n:=by omega
  refine lq a3n ?_;rw[Around.under_plainId a1t _];refine jB (W.item i s _ _ U q λv a C H f=>?_);obtain⟨r,hr,⟨t,o,y,m,rfl,g,hc,hd,D⟩,hne⟩:=N i v C;have g':=f.heap t _ (l i _ C t rfl) g;have X:a.heap.DictOf knd d (merged [] (rows.take i)):=by
   obtain⟨o,J,S,L,c⟩:=u;exact⟨o,J,S,f.heap d _ x L,c⟩
  refine jB (jY ?_);refine jB (wpAny_tryCatch (a6S g' hc hd ?_));refine jY ?_;have hl:(merged [] (rows.take i)).length<=sizeLine:=by
   have:=merged_length_le [] (rows.take i)
   rw[eL]at this;simp at this;omega
  refine wpAny_dictSet_pairs D X (λh' B hsb=>?_) hl;rw[<- merged_take_succ _ _ _ _ hr]at B;have Q:∀ b o,b≠d->a.heap.get? b=some o->h'.get? b=some o:=λb o nb e=>by rw[hsb.2 b nb];exact e
  refine jK ⟨lS a1t _,?_⟩
  have:=ih (i+1) { a with heap:=h',toks:=a.toks+1 } (by omega) (by omega) (W.frame _ a _ _ H (gz _) λb p o e=>Q b o (λz=>hdf (z▸p)) e) (λj v hv=>?_) l B λT E F=>?_
  ·exact this
  ·obtain⟨r,h1,⟨t,o,y,m,rfl,h2,h3⟩,Y⟩:=N j v hv;exact⟨r,h1,⟨t,o,y,m,rfl,Q t o (λz=>Y (by rw[z])) (f.heap t _ (l j _ hv t rfl) h2),h3⟩,Y⟩
  ·refine M T (Moved.trans W.gtrans ((f.mono up).then_heap (gz _) λb o p e=>Q b o (λz=>p (by rw[z];exact fJ)) e) E) F
end
end DictP
namespace L2
open PySem PySem.Spec PyProof.Rows
section
variable {X:Cx}
end
section
variable {P:jH}{w:World}{A:Around}{E:Value->Shared->Prop}{s:Shared}
end
section
variable {X:Cx}
end
end L2
namespace L3
open PySem PySem.Spec PyProof.Rows L2
section
variable {X:Cx}{K:Fg}{H:Hp}
theorem b4f (h:Rep K H (keyW k) v):v=kV k:=by
 match k,h with
 | .inl (some i),h=>rw[show keyW _=.int i from rfl,a0u]at h;exact h
 | .inl none,h=>rw[show keyW _=.non from rfl,a01]at h;exact h
 | .inr x,h=>rw[show keyW _=.str x from rfl,a0I]at h;exact h
theorem Reps.dropLast:∀ {ws:List Z}{vs:List V},Reps K H ws vs->Reps K H ws.dropLast vs.dropLast
 | [],vs,h=>by rw[a0w]at h;subst h;exact .nil
 | [w],vs,h=>by
  obtain⟨v,rfl,_⟩:=h.one;exact .nil
 | w::w'::ws,vs,h=>by
  obtain⟨v,r,rfl,c,b⟩:=h;have a:=b;obtain⟨e,d,rfl,_,_⟩:=a;exact .cons c (Reps.dropLast b)
end
end L3
namespace L2
open PySem PySem.Spec PyProof.Rows Tim
noncomputable def ptV:Pz->V
 | .inl none=>.non
 | .inl (some i)=>.int i
 | .inr s=>.str s
theorem c01:∀ {x:Pz}{u:Value},RelV (ptV x) u->PtIs x u
 | .inl none,_,h=>h
 | .inl (some _),_,h=>h
 | .inr _,_,h=>h
theorem a9k:∀ {xs:List Pz}{us:List Value},Vals (xs.map ptV) us->PtsAre xs us
 | [],us,r=>by rw[eX]at r;cases r;trivial
 | x::xs,us,r=>by
  cases r with
  | cons r1 r2=>exact⟨c01 r1,a9k r2⟩
theorem a94:∀ {bs:List Addr}{us:List Value},Vals (bs.map V.ref) us->us=bs.map Value.ref
 | [],us,r=>by rw[eX]at r;cases r;rfl
 | b::bs,us,r=>by
  cases r with
  | cons r1 r2=>rw[a94 r2,r1];rfl
theorem a6T:∀ bs:List Addr,Vals (bs.map V.ref) (bs.map Value.ref)
 | []=>.nil
 | b::bs=>.cons rfl (a6T bs)
theorem b0V:∀ {bs:List Addr}{out:List Value},out.Perm (bs.map Value.ref)->∃ cs:List Addr,out=cs.map Value.ref:=λ{g a} h=>by
 have:∀ v∈a,∃ b,v=Value.ref b:=λv f=>by
  obtain⟨b,_,e⟩:=eG.mp (h.mem_iff.mp f);exact⟨b,e.symm⟩
 clear h
 induction a with
 | nil=>exact⟨[],rfl⟩
 | cons v a ih=>
  obtain⟨b,rfl⟩:=this v (.head _);obtain⟨d,rfl⟩:=ih λu c=>this u (.tail _ c);exact⟨b::d,rfl⟩
noncomputable def a6U (H:Hp) (bs:List Addr) (rows:List (List Pz)):Prop:=bs.length=rows.length/\∀ (i:Nat) (b:Addr) (x:List Pz),bs[i]?=some b->rows[i]?=some x->H b=some (.tup (x.map ptV))
theorem a8j (I:Inv X pins σ H s):∀ {bs:List Addr}{rows:List (List Pz)},a6U H bs rows->RowsIn s.heap (bs.map Value.ref) rows
 | [],[],_=>trivial
 | [],_::_,h=>by have:=h.1;simp at this
 | _::_,[],h=>by have:=h.1;simp at this
 | b::bs,x::rows,h=>by
  refine⟨?_,a8j I ⟨by have:=h.1;simpa using this,λi c y e d=>h.2 (i+1) c y (by simp_all) (by simp_all)⟩⟩;obtain⟨_,j,r,o,g,a,n,f⟩:=(I.hok b _ (h.2 0 b x rfl rfl));exact⟨b,o,_,n,rfl,g,a,f,by simpa using a9k r⟩
noncomputable def b4g (K:Fg):List V->Hp->VK->Prop:=λxs H Q=>∃ (p:Addr) (bs:List Addr) (rows:List (List Pz)) (m:Nat),xs=[.ref p]/\SqL K H p (bs.map V.ref)/\a6U H bs rows/\bs.length<=100000/\(a7p rows\/a5u rows)/\(∀ x∈rows,x.length=m)/\(∀ x∈rows,∀ y∈rows,cmpT x y=true) /\
 ∀ (t:Addr) (cs:List Addr) (os:List (List Pz)),H t=none->a6U H cs os->os.Perm rows->os.Pairwise (λx y=>ltT y x=false)->Q (.ref t) (upd H t (.lst (cs.map V.ref)))
theorem a8k:CallR X (.builtin "sorted") (b4g X.K):=by
 intro t s σ H xs us Q I r h;obtain⟨p,a,k,m,rfl,hq,C,hbl,hf,hm,hc,q⟩:=h;obtain⟨u,rfl,rx⟩:=a4C r;cases rx;obtain⟨N,rv,pl,_⟩:=I.list hq
 have:=a94 rv
 subst this;have R:(a.map Value.ref).length<=sizeLine:=by rw[er,jW];omega
 refine Calls.call_function_entry kind_sorted plain_sorted entry_sorted (args_sorted1 _) ?_;unfold jO.«sorted»;refine jB (jK (jB (collect_list pl.isList ?_ R)));have G:∀ b o,s.heap.get? b=some o->((s.heap.push (seqObj "list" #[] 0)).update s.heap.objs.size (Obj.mapSeq (·++(a.map Value.ref).toArray))).get? b=some o:=λb o e=>by
  have d:=Heap.lt_size e;rw[Heap.get?_update_ne _ _ _ _ (eO d)];exact Heap.get?_push_of_some _ e
 generalize (s.heap.push (seqObj "list" #[] 0)).update s.heap.objs.size (Obj.mapSeq (·++(a.map Value.ref).toArray))=g at G ⊢;have z:=I.kept (t':=s.toks) G;refine jB (ll ?_ R);have D:(g.push _).get? g.objs.size=some (seqObj "list" (a.map Value.ref).toArray 0):=Heap.get?_push_size _ rfl;have U:Inv X t σ H { s with heap:=g.push (seqObj "list" (a.map Value.ref).toArray 0) }:=z.kept (t':=s.toks) λb o e=>Heap.get?_push_of_some _ e;refine jB (jY (lF slot_list_sort ⟨_,D,rfl⟩ entry_list_sort (Tim.sort_tups D (by rw[er];omega) (a8j U C) hf hm hc λout S A F a3 a4=>⟨_,rfl,?_⟩) (args_list_sort _)));have l:=sortedHeap_at (out:=out.toArray) D;obtain⟨n,l⟩:=l;obtain⟨f,rfl⟩:=b0V A;have hcl:f.length=a.length:=by have:=A.length_eq;simpa using this
 have tc:a6U H f S:=by
  refine⟨by rw[F,er,er],λi c x T M=>?_⟩;rw[F,eK,eK,T]at M;cases M;have B:=A.mem_iff.mp (fC (eR T));obtain⟨c',E,e⟩:=eG.mp B;cases e;obtain⟨j,L⟩:=gn E;obtain⟨y,hy⟩:∃ y,k[j]?=some y:=⟨k[j]'(by have:=(eJ.mp L).1;rw[<- C.1];exact this),by simp⟩;have J:=C.2 j c y L hy;obtain⟨_,N,r,o,Y,W,n,h3⟩:=(U.hok c _ J)
  have:RowIn (g.push (seqObj "list" (a.map Value.ref).toArray 0)) (.ref c) y:=⟨c,o,_,n,rfl,Y,W,h3,by simpa using a9k r⟩
  show H c=some _
  rw[a17 this];exact J
 refine jK ⟨_,rfl,?_⟩;exact⟨.ref g.objs.size,_,z.laid (t':=s.toks) (λb o e=>by
  have d:=Heap.lt_size e;rw[sortedHeap_old (eO d) (by rw[Heap.size_push];exact gI d)];exact Heap.get?_push_of_some _ e) (eB _) (show ObjOk X.prog X.w _ _ _ (.lst (f.map V.ref)) from ⟨by rw[er,jW];omega,f.map Value.ref,n,a6T f,by simpa using l⟩),rfl,q _ f S (z.hok.fresh (eB _)) tc a3 a4⟩
end L2
namespace L3
open PySem PySem.Spec PyProof.Rows L2 Tim
noncomputable def ptZ:Pz->Z
 | .inl none=>.non
 | .inl (some i)=>.int i
 | .inr s=>.str s
noncomputable def tupZ (x:List Pz):Z:=.tup (x.map ptZ)
theorem rep_pt {K:Fg}:∀ {x:Pz}{v:V},Rep K H (ptZ x) v↔v=ptV x
 | .inl none,v=>by unfold ptZ ptV;rw[a01]
 | .inl (some _),v=>by unfold ptZ ptV;rw[a0u]
 | .inr _,v=>by unfold ptZ ptV;rw[a0I]
theorem reps_pts {K:Fg}:∀ {xs:List Pz}{vs:List V},Reps K H (xs.map ptZ) vs↔vs=xs.map ptV
 | [],vs=>by rw[eX,a0w,eX]
 | x::xs,vs=>by
  rw[eP,a09,eP]
  constructor
  ·rintro⟨v,r,rfl,a,b⟩;rw[rep_pt.mp a,reps_pts.mp b]
  ·rintro rfl;exact⟨_,_,rfl,rep_pt.mpr rfl,reps_pts.mpr rfl⟩
theorem a8l {K:Fg}:∀ {rows:List (List Pz)}{vs:List V},Reps K H (rows.map tupZ) vs->∃ bs:List Addr,vs=bs.map V.ref/\a6U H bs rows
 | [],vs,h=>by
  subst h;exact⟨[],rfl,rfl,λi b x e=>by simp at e⟩
 | x::rows,vs,h=>by
  obtain⟨v,r,rfl,c,m⟩:=h;obtain⟨a,n,rfl,e,k⟩:=c;rw[reps_pts.mp k]at e;obtain⟨l,rfl,j,g⟩:=a8l m;refine⟨a::l,rfl,by rw[eF,eF,j],λi b y d f=>?_⟩;cases i with
  | zero=>cases d;cases f;exact e
  | succ i=>exact g i b y (by simp_all) (by simp_all)
theorem a8m {K:Fg}:∀ {bs:List Addr}{rows:List (List Pz)},a6U H bs rows->Reps K H (rows.map tupZ) (bs.map V.ref)
 | [],[],_=>by rw[eX,eX,a0w]
 | [],_::_,h=>by have:=h.1;simp at this
 | _::_,[],h=>by have:=h.1;simp at this
 | b::bs,x::rows,h=>by
  refine⟨_,_,rfl,?_,a8m ⟨by have:=h.1;simpa using this,λi c y d a=>h.2 (i+1) c y (by simp_all) (by simp_all)⟩⟩;exact⟨b,_,rfl,h.2 0 b x rfl rfl,reps_pts.mpr rfl⟩
noncomputable def a95:List Z->Hq->K3->Prop:=λxs G R=>match xs with
 | [.ref p]=>∃ (rows:List (List Pz)) (m:Nat),G p=some (.lst (rows.map tupZ))/\rows.length<=100000/\(a7p rows\/a5u rows)/\(∀ x∈rows,x.length=m)/\(∀ x∈rows,∀ y∈rows,cmpT x y=true)/\∀ (t:Addr) (os:List (List Pz)),G t=none->os.Perm rows->os.Pairwise (λx y=>ltT y x=false)->R (.ref t) (put G t (.lst (os.map tupZ)))
 | _=>False
theorem b2I:a3G X (.builtin "sorted") a95:=a1V a8k λL H Q y=>y.un λn G R B d h J=>by
 match n,h with
 | [.ref p],h=>
  obtain⟨v,rfl,r⟩:=B.one;obtain⟨c,m,e,w,k,I,s,h⟩:=h;obtain⟨M,u,D⟩:=d _ _ e;obtain⟨A,rfl,g⟩:=a8l D;exact⟨p,A,c,m,by rw[r],SqL.of u,g,by rw[g.1];exact w,k,I,s,λt N f a j l E=>J _ _ _ _ (h t f (d.out a) l E) (by rw[a0O]) (d.set (.new a) ⟨_,a0x,a8m ⟨j.1,λi b x C F=>by
   have q:=j.2 i b x C F;rw[a0t (λz=>by rw[z,a]at q;cases q)];exact q⟩⟩) (.new a)⟩
theorem b2J (e:G p=some (.lst (rows.map tupZ))) (z:rows.length<=100000) (hf:a5u rows) (hm:∀ x∈rows,x.length=m) (hc:∀ x∈rows,∀ y∈rows,cmpT x y=true) (h:∀ (t:Addr) (os:List (List Pz)),G t=none->os.Perm rows->os.Pairwise (λx y=>ltT y x=false)->R (.ref t) (put G t (.lst (os.map tupZ)))):a95 [.ref p] G R:=⟨rows,m,e,z,.inr hf,hm,hc,h⟩
end L3
namespace L2
open PySem PySem.Spec PyProof.Rows
end L2
namespace L3
open PySem PySem.Spec PyProof.Rows L2
end L3
namespace L2
open PySem PySem.Spec PyProof.Rows
section
variable {X:Cx}
end
end L2
namespace L3
open PySem PySem.Spec PyProof.Rows L2
section
variable {X:Cx}{e:Expr}{es:List Expr}{t:A3}{x y:Str}{p p2 pos pos2:Pos}
end
end L3
namespace DictP
open PySem PyProof.Rows
section
variable {prog:jH}{w:World}{K:Type}[DecidableEq K] {knd:KeyKind prog w K}
theorem a7t (x:(jT knd).is h k a) (q:∀ o,h.get? a=some o->h'.get? a=some o):(jT knd).is h' k a:=by
 obtain⟨o,b,n,e,r⟩:=x;exact⟨o,b,n,q o e,r⟩
noncomputable def mergedH (acc rows:List (List K×Addr×Value)):List (List K×Addr×Value):=rows.foldl (λacc r=>kb acc r.1 r.2.1 r.2.2) acc
theorem b0W {k:List K}(h:x∈kb xs k a v):x.2.1=a\/∃ y∈xs,x.2.1=y.2.1:=by
 unfold kb at h
 split at h
 ·obtain⟨y,b,rfl⟩:=eG.mp h;refine .inr ⟨y,b,?_⟩;unfold putAt
  split<;>rfl
 ·rcases et.mp h with h | h
  ·exact .inr ⟨x,h,rfl⟩
  ·rw[eD.mp h];exact .inl rfl
theorem b0X {k:List K}:(kb xs k a v).length<=xs.length+1:=by
 unfold kb
 split<;>simp
theorem a5S:∀ {rows acc:List (List K×Addr×Value)}{x:List K×Addr×Value},x∈mergedH acc rows->(∃ y∈rows,x.2.1=y.2.1)\/∃ y∈acc,x.2.1=y.2.1
 | [],acc,x,h=>.inr ⟨x,h,rfl⟩
 | r::rows,acc,x,h=>by
  rcases a5S (rows:=rows) h with ⟨y,hy,e⟩ | ⟨y,hy,e⟩
  ·exact .inl ⟨y,.tail _ hy,e⟩
  ·rcases b0W hy with e2 | ⟨z,hz,e2⟩
   ·exact .inl ⟨r,.head _,e.trans e2⟩
   ·exact .inr ⟨z,hz,e.trans e2⟩
theorem a5T:∀ {rows acc:List (List K×Addr×Value)},(mergedH acc rows).length<=acc.length+rows.length
 | [],_=>eB _
 | r::rows,acc=>by
  have c:=a5T (rows:=rows) (acc:=kb acc r.1 r.2.1 r.2.2);have b:=b0X (xs:=acc) (k:=r.1) (a:=r.2.1) (v:=r.2.2)
  show (mergedH (kb acc r.1 r.2.1 r.2.2) rows).length<=_
  rw[eF];omega
theorem a8n {rows:List (List K×Addr×Value)}(h:rows[i]?=some r):mergedH [] (rows.take (i+1))=kb (mergedH [] (rows.take i)) r.1 r.2.1 r.2.2:=by
 unfold mergedH;rw[fq,h,jl]
 rfl
theorem a9l {h h':Heap}(D:h.DictOfH (jT knd) d xs) (hd:∀ o,h.get? d=some o->h'.get? d=some o) (q:∀ x∈xs,∀ o,h.get? x.2.1=some o->h'.get? x.2.1=some o):h'.DictOfH (jT knd) d xs:=by
 obtain⟨o,e,j,b,g,f,i,k,c⟩:=D;exact⟨o,e,j,hd o b,g,f,i,λx a=>a7t (k x a) (q x a),c⟩
noncomputable def PairT (knd:KeyKind prog w K) (h:Heap) (v:Value) (r:List K×Addr×Value):Prop:=∃ t o m,v=.ref t/\h.get? t=some o/\o.cls=.type "tuple"/\o.data=.seq #[.ref r.2.1,r.2.2] m/\(jT knd).is h r.1 r.2.1
end
section
variable {prog:jH}{w:World}{A:Around}{R:Result->Shared->Prop}{I:Addr}{fp wr:List Addr}{G:Array kH->Array kH->Prop}{n:Nat}{P:Nat->Value->Prop}{St:Nat->Shared->Prop}{K:Type}[DecidableEq K] {knd:KeyKind prog w K}
theorem c02 (W:WalksS prog w A.in1 I fp wr G n P St) (d:Addr) (hdf:d∉fp) (rows:List (List K×Addr×Value)) (hn:n=rows.length) (hz:rows.length<=jC) (hu:A.units+1<cLine) (hrw:∀ r∈rows,r.2.1≠d/\r.2.1∉wr) :
  ∀ (k i:Nat) (s:Shared),n - i=k->i<=n->St i s->(∀ j v,P j v->∃ r,rows[j]?=some r/\PairT knd s.heap v r/\v≠.ref d)->(∀ j v,P j v->∀ b,v=.ref b->b∉wr)->s.heap.DictOfH (jT knd) d (mergedH [] (rows.take i)) ->
   (∀ s',Moved (d::wr) G s s'->s'.heap.DictOfH (jT knd) d (mergedH [] rows)->R (.ok (.ret .none)) s') ->
   j9 (model prog w) A (.builtin "dict.update.loop" ⟨[.ref d,.ref I,rawInt i,.none],[]⟩) R s:=by
 have D:d∉wr:=λh=>hdf (W.sub _ h);have V:∀ b∈wr,b∈d::wr:=λb p=>fE _ p;have F:∀ i x,x∈mergedH [] (rows.take i)->x.2.1≠d/\x.2.1∉wr:=λi x l=>by
  rcases a5S l with ⟨y,hy,e⟩ | ⟨y,hy,_⟩
  ·rw[e];exact hrw y (fI hy)
  ·simp at hy
 intro k
 induction k with
 | zero=>
  intro i s hk hi u J f T S;have hin:i=n:=by omega
  subst hin;refine lq a3n ?_;rw[Around.under_plainId a1t _];refine jB (W.done s _ _ u λc a=>?_)
  show wpAny _ A.in1 _ _ _ c
  refine jB (jK (jK (S c (a.mono V) ?_)));have X:=a9l T (a.heap d · D) λx l o e=>a.heap _ o (F _ x l).2 e;rw[ft (by omega)]at X;exact X
 | succ k ih=>
  intro i s hk hi u J f T S;have hlt:i<n:=by omega
  refine lq a3n ?_;rw[Around.under_plainId a1t _];refine jB (W.item i s _ _ hlt u λv c H L a=>?_);obtain⟨r,hr,⟨t,o,m,rfl,g,hc,hd,N⟩,hne⟩:=J i v H;have g':=a.heap t _ (f i _ H t rfl) g;have C:=a7t N λo e=>a.heap _ o (hrw r (eR hr)).2 e;have hD':=a9l T (a.heap d · D) λx l o e=>a.heap _ o (F _ x l).2 e;refine jB (jY ?_);refine jB (wpAny_tryCatch (a6S g' hc hd ?_));refine jY ?_;have hl:(mergedH [] (rows.take i)).length<=sizeLine:=by
   have:=a5T (acc:=[]) (rows:=rows.take i)
   rw[eL]at this;simp at this;omega
  refine wpAny_dictSet_heap (k6 hu) C hD' (λh' E U=>?_) hl;rw[<- a8n hr]at E;have B:∀ b o,b≠d->c.heap.get? b=some o->h'.get? b=some o:=λb o nb e=>by rw[U.2 b nb];exact e
  refine jK ⟨lS a1t _,?_⟩
  have:=ih (i+1) { c with heap:=h',toks:=c.toks+(jT knd).draws r.1 } (by omega) (by omega) (W.frame _ c _ _ L (jm _ _) λb p o e=>B b o (λz=>hdf (z▸p)) e) (λj v hv=>?_) f E λs'' M Q=>?_
  ·exact this
  ·obtain⟨r,h1,⟨t,o,m,rfl,h2,h3,h4,h5⟩,Y⟩:=J j v hv;refine⟨r,h1,⟨t,o,m,rfl,B t o (λz=>Y (by rw[z])) (a.heap t _ (f j _ hv t rfl) h2),h3,h4,?_⟩,Y⟩;have q:=hrw r (eR h1);exact a7t h5 λo e=>B _ o q.1 (a.heap _ o q.2 e)
  ·refine S s'' (Moved.trans W.gtrans ((a.mono V).then_heap (jm _ _) λb o p e=>B b o (λz=>p (by rw[z];exact fJ)) e) M) Q
theorem call_pairsT (hh:A.handled=none) (hu:A.units+5<cLine)
  (hl:s.heap.get? l=some { cls:=.type "list",dict:=none,data:=.seq items c,slots:=sl }) (hi:∀ (j:Nat) v,items[j]?=some v->∃ r,rows[j]?=some r/\PairT knd s.heap v r) (hn:items.size=rows.length) (hz:rows.length<=jC)
  (h:∀ (h':Heap) (tk:Nat),h'.DictOfH (jT knd) s.heap.objs.size (mergedH [] rows)->(∀ b o,s.heap.get? b=some o->h'.get? b=some o)->Q (.ref s.heap.objs.size) { s with heap:=h',toks:=tk }) :
  wpAny (model prog w) A (call (.type "dict") [.ref l]) Q E s:=by
 refine callType_codes (Q₁:=λC M=>C=.ref s.heap.objs.size/\M={ s with heap:=s.heap.push { cls:=.type "dict",data:=.dict #[] } }) F.kt_called_dict (F.kt_typeCall_dict_1 _) F.entry_dict_init (kt_code_dict_new _ ⟨rfl,rfl⟩) ?_;rintro C M ⟨rfl,rfl⟩;have a:(s.heap.push { cls:=.type "dict",data:=.dict #[] }).DictOfH (jT knd) s.heap.objs.size []:=Heap.DictOfH.new s.heap;have i:(s.heap.push { cls:=.type "dict",data:=.dict #[] }).get? l=some { cls:=.type "list",dict:=none,data:=.seq items c,slots:=sl }:=Heap.get?_push_of_some _ hl;have Y:Shared.TypeIs { s with heap:=s.heap.push { cls:=.type "dict",data:=.dict #[] } } (.ref l) "list":=⟨_,i,rfl⟩;refine⟨a.typeIs,F.args_dict_init_2 _ _,?_⟩;unfold jO.«dict.__init__»;refine jB ?_;unfold jO.Dict.selfAndRest;refine jB (wpAny_notOrdered_dict a.typeIs ?_)
 show wpAny _ _ _ _ _ _
 refine jK ?_
 show wpAny _ _ (jO.Dict.updateFrom "dict.__init__" s.heap.objs.size (.ref l) [] .none) _ _ _
 unfold jO.Dict.updateFrom;refine jB (wpAny_typeOf Y ?_);rw[if_pos (by decide)];refine jB (b2H i (by simp[hh]) λf t1 p=>?_);have gd:=p _ _ (Heap.get?_push_size _ rfl);have k:=λb o e=>p b o (Heap.get?_push_of_some _ e);have L:f.IsList l items:=⟨_,p l _ i,rfl,c,rfl⟩;refine jB (kP (jB (lD L ?_)));refine jK ⟨lS a1t _,?_⟩;have G:=Heap.lt_size hl;have g:=Heap.lt_size gd;have h3:A.in1.in1.handled=none:=by simp[hh]
 have nI:=eO (gH G g);have nf:s.heap.objs.size∉[f.objs.size,l]:=by
  simp;exact⟨eO g,gX G⟩
 have pt:∀ (j:Nat) v,items[j]?=some v->∀ b,v=.ref b->b<s.heap.objs.size:=λj v e b D=>by
  obtain⟨r,_,t,o,m,n,d,_⟩:=hi j v e;rw[D]at n;cases n;exact Heap.lt_size d
 have H:∀ r∈rows,r.2.1<s.heap.objs.size:=λr q=>by
  obtain⟨j,J⟩:=gn q;have hji:=(eJ.mp J).1;obtain⟨r',n,t,o,m,_,_,_,_,o',_,_,d,_⟩:=hi j (items[j]'(by omega)) (by simp);rw[J]at n;cases n;exact Heap.lt_size d
 refine c02 (knd:=knd) ((Walks.list h3 _ l nI items).toS) s.heap.objs.size nf rows hn hz (show A.units+1+1<cLine by omega) (λr q=>⟨eO (H r q),λz=>?_⟩) (items.size - 0) 0 _ (by omega) (e8 _)
  ⟨⟨_,Heap.get?_push_size _ rfl,rfl,rfl⟩,L.push _⟩ (λj v e=>?_) (λj v e b D B=>?_) ?_ λs' y X=>?_
 ·have:=H r q
  rw[eD.mp z]at this;exact absurd (gH this g) (e9 _)
 ·obtain⟨r,R,t,o,m,rfl,d,V,e4,S⟩:=hi j v e;refine⟨r,R,⟨t,o,m,rfl,Heap.get?_push_of_some _ (k _ _ d),V,e4,a7t S λo e=>Heap.get?_push_of_some _ (k _ _ e)⟩,λz=>?_⟩;injection z with z
  exact absurd (Heap.lt_size d) (by rw[z];exact e9 _)
 ·have:=pt j v e b D
  rw[eD.mp B]at this;exact absurd (gH this g) (e9 _)
 ·rw[List.take_zero]
  show Heap.DictOfH (jT knd) _ _ []
  exact a9l a (λo e=>Heap.get?_push_of_some _ (p _ _ e)) λx W=>by simp at W
 ·obtain⟨h',U,T,N,I⟩:=s';have eg:U=s.gens:=y.gens;have ed:T=s.drawn:=y.drawn;have eo:I=s.os:=y.os;subst eg ed eo;refine⟨rfl,h h' N X λb o e=>y.heap b o (λB=>?_) (Heap.get?_push_of_some _ (k b o e))⟩;have u:=Heap.lt_size e;simp at B;rcases B with z | z
  ·rw[z]at u;exact e9 _ u
  ·rw[z]at u;exact e9 _ (gH u g)
end
end DictP
namespace L2
open PySem PySem.Spec PyProof.Rows
section
variable {X:Cx}
noncomputable def a8o (rows:List (Addr×Addr×List Key×V)) (acc:List (List Key×V)):List (List Key×V):=rows.foldl (λacc r=>putK acc r.2.2.1 r.2.2.2) acc
noncomputable def b9f (X:Cx):List V->Hp->VK->Prop:=λxs H Q=>∃ (p:Addr) (rows:List (Addr×Addr×List Key×V)),xs=[.ref p]/\SqL X.K H p (rows.map λr=>V.ref r.1)/\(∀ r∈rows,H r.1=some (.tup [.ref r.2.1,r.2.2.2])/\H r.2.1=some (.tup (r.2.2.1.map kV)))/\rows.length<=1000 /\
 ∀ t,H t=none->Q (.ref t) (upd H t (.dT (a8o rows [])))
theorem a8p (ok:HOk P w H h):∀ {rows:List (Addr×Addr×List Key×V)},(∀ r∈rows,H r.1=some (.tup [.ref r.2.1,r.2.2.2])/\H r.2.1=some (.tup (r.2.2.1.map kV)))->∃ vs:List (List Key×Addr×Value),vs.length=rows.length /\
  (∀ (j:Nat) r,rows[j]?=some r->∃ q,vs[j]?=some q/\DictP.PairT (a0N P w) h (.ref r.1) q)/\∀ acc bcc,KT H acc bcc->KT H (a8o rows acc) (DictP.mergedH bcc vs)
 | [],_=>⟨[],rfl,λj r e=>by simp at e,λ_ _ k=>k⟩
 | r::rows,hr=>by
  obtain⟨l,m,t,s⟩:=a8p ok λr c=>hr r (.tail _ c);obtain⟨b,a⟩:=hr r (.head _);obtain⟨_,z,g,o,f,p,n,x⟩:=(ok _ _ b);obtain⟨d,u,rfl,v,i⟩:=Vals.two g;cases (v);refine⟨(r.2.2.1,r.2.1,u)::l,by rw[eF,eF,m],λj q e=>?_,λA y k=>s _ _ (k.put r.2.2.1 a i)⟩;cases j with
  | zero=>
   cases e;exact⟨_,rfl,r.1,o,n,rfl,f,p,x,a7Y ok a⟩
  | succ j=>exact t j q (by simpa using e)
theorem a8q:∀ (rows:List (Addr×Addr×List Key×V)) (acc:List (List Key×V)),(a8o rows acc).length<=acc.length+rows.length
 | [],_=>eB _
 | r::rows,acc=>by
  have:=a8q rows (putK acc r.2.2.1 r.2.2.2)
  have:=a2x acc r.2.2.1 r.2.2.2
  show (a8o rows (putK acc r.2.2.1 r.2.2.2)).length<=_
  rw[eF];omega
theorem b0Y (hc:X.calm=true) (hu:X.A.units+66<cLine):CallR X (.type "dict") (b9f X):=by
 intro k s σ H xs us Q I r h;obtain⟨p,rows,rfl,T,ht,hz,q⟩:=h;obtain⟨u,rfl,rx⟩:=a4C r;cases rx;obtain⟨f,m,⟨o,n,R,D,t,J⟩,_⟩:=I.list T;obtain⟨c,dd,dt,sl⟩:=o;simp only at D t J;subst D t J;obtain⟨B,E,h2,U⟩:=a8p I.hok ht;have hl:f.length=rows.length:=by have:=m.length;rw[er]at this;omega
 have d:B.length<=sizeLine:=by rw[E,jW];omega
 refine DictP.call_pairsT (knd:=a0N X.prog X.w) (I.ok.hd hc) (by omega) R (λj v e=>?_) (by rw[E,fk];exact hl) d λg G hD kp=>?_
 ·have C:f[j]?=some v:=by simpa using e
  obtain⟨r,z⟩:∃ r,rows[j]?=some r:=⟨rows[j]'(by grind),eQ _⟩;obtain⟨q,y,pa⟩:=h2 j r z;obtain⟨u,F,V⟩:=m.get (by rw[eK,z];rfl);rw[C]at F;cases F;rw[V];exact⟨q,y,pa⟩
 ·have k0:=U [] [] .nil;have l:=I.hok.fresh (eB s.heap.objs.size);have N:=(a9M (P:=X.prog) (w:=X.w) (H:=λ_=>none) s.heap I.big).2.1;have S:=a8q rows [];obtain⟨ob,es,ep,M,g2,g3,L,_,Y⟩:=hD;have W:=
   I.laid (t':=G) kp (eB _) (show ObjOk X.prog X.w _ g _ (.dT (a8o rows [])) from ⟨by rw[jW];simp at S;omega,N,_,k0.keeps λb ys e=>by rw[a0t (a1U e l)];exact e,ob,es,ep,M,g2,g3,L,Y⟩)
  exact⟨.ref s.heap.objs.size,_,W,rfl,q _ l⟩
end
end L2
namespace L3
open PySem PySem.Spec PyProof.Rows L2
section
variable {X:Cx}{K:Fg}{H:Hp}
theorem a8r:∀ {k:List Key}{vs:List V},Reps K H (k.map keyW) vs->vs=k.map kV
 | [],vs,h=>by rw[eX,a0w]at h;exact h
 | k::ks,vs,h=>by
  obtain⟨v,r,rfl,b,a⟩:=h;rw[b4f b,a8r a];rfl
theorem a96 {k:List Key}(h:Rep K H (.tup (k.map keyW)) v):∃ b,v=.ref b/\H b=some (.tup (k.map kV)):=by
 obtain⟨a,e,rfl,d,c⟩:=h;exact⟨a,rfl,by rw[d,a8r c]⟩
noncomputable def prT (r:List Key×Z):Z:=.tup [.tup (r.1.map keyW),r.2]
theorem b4h {k j:List Key}:j∈(putK kvs k v).map (·.1)↔j=k\/j∈kvs.map (·.1):=by
 unfold putK
 split
 ·next hc=>
  obtain⟨p,b,c⟩:=fN.mp hc;have e:(kvs.map λa=>if a.1=k then (a.1,v) else a).map (·.1)=kvs.map (·.1):=by
   rw[fB];refine gx λx _=>?_
   show (if x.1=k then _ else x).1=x.1
   split<;>rfl
  rw[e];refine⟨.inr,λh=>h.elim (λz=>?_) id⟩;rw[z,<- of_decide_eq_true c];exact fC b
 ·rw[eN,et]
  constructor
  ·rintro (h | h)
   ·exact .inr h
   ·exact .inl (by simp_all)
  ·rintro (h | h)
   ·exact .inr (by simp[h])
   ·exact .inl h
theorem a97:∀ {rows:List (List Key×Z)}{vs:List V},Reps K H (rows.map prT) vs->∃ rs:List (Addr×Addr×List Key×V),vs=rs.map (λr=>V.ref r.1)/\(∀ r∈rs,H r.1=some (.tup [.ref r.2.1,r.2.2.2])/\H r.2.1=some (.tup (r.2.2.1.map kV)))/\rs.length=rows.length /\
  ∀ bcc j,j∈(a8o rs bcc).map (·.1)↔j∈rows.map (·.1)\/j∈bcc.map (·.1)
 | [],vs,h=>by
  exact⟨[],h,λr f=>by simp at f,rfl,λc j=>by simp[a8o]⟩
 | r::rows,vs,h=>by
  obtain⟨v,w,rfl,e,k⟩:=h;obtain⟨i,rfl,n,m,p⟩:=a97 k;obtain⟨a,t,rfl,l,f⟩:=e;obtain⟨x,g,rfl,s,u⟩:=f.two;obtain⟨b,rfl,o⟩:=a96 s;refine⟨(a,b,r.1,g)::i,rfl,λq d=>?_,by rw[eF,eF,m],λc j=>?_⟩
  ·rcases eI.mp d with rfl | d
   ·simp_all
   ·exact n q d
  ·show j∈(a8o i _).map _↔_
   rw[p,b4h,eP,eI]
   constructor
   ·rintro (h | h | h)
    ·exact .inl (.inr h)
    ·exact .inl (.inl h)
    ·exact .inr h
   ·rintro ((h | h) | h)
    ·exact .inr (.inl h)
    ·exact .inl h
    ·exact .inr (.inr h)
noncomputable def b5i:List Z->Hq->K3->Prop:=λxs G R=>match xs with
 | [.ref p]=>∃ rows:List (List Key×Z),G p=some (.lst (rows.map prT))/\rows.length<=1000/\∀ t ks,G t=none->(∀ j,j∈ks↔j∈rows.map (·.1))->R (.ref t) (put G t (.dT ks))
 | _=>False
theorem b2K (hc:X.calm=true) (hu:X.A.units+66<cLine):a3G X (.type "dict") b5i:=a1V (b0Y hc hu) λq H Q i=>i.un λf G R c a h n=>by
 match f,h with
 | [.ref p],h=>
  obtain⟨v,rfl,r⟩:=c.one;obtain⟨g,e,u,h⟩:=h;obtain⟨s,l,k⟩:=a _ _ e;obtain⟨c,rfl,d,w,m⟩:=a97 k;exact⟨p,c,by rw[r],SqL.of l,d,by omega,λt b=>n _ _ _ _ (h t _ (a.out b) λj=>by rw[m [] j];simp) (by rw[a0O]) (a.set (.new b) ⟨_,a0x,rfl⟩) (.new b)⟩
theorem b2L {rows:List (List Key×Z)}(e:G p=some (.lst (rows.map prT))) (z:rows.length<=1000) (h:∀ t ks,G t=none->(∀ j,j∈ks↔j∈rows.map (·.1))->R (.ref t) (put G t (.dT ks))):b5i [.ref p] G R:=⟨rows,e,z,h⟩
noncomputable def hasK (ks:List (List Key)) (k:List Key):Bool:=ks.any λj=>decide (j=k)
theorem b4i:hasK ks k=true↔k∈ks:=by simp[hasK]
noncomputable def zTIn (f:Bool->Bool):R3:=λx y G R=>match y with
 | .ref p=>∃ ks k,G p=some (.dT ks)/\x=.tup (k.map keyW)/\R (.bl (f (hasK ks k))) G
 | _=>False
theorem b2M:(valV kvs k).isSome=hasK (kvs.map (·.1)) k:=by
 rw[<- a7b];unfold hasK;rw[List.any_map]
 rfl
theorem a98 (hu:X.A.units+66<cLine):OpQ X (jL .NotIn) (zTIn not):=a7g (b2z hu) λx y H Q g=>g.un λa b G R n f d h i=>by
 cases b with
 | ref p=>
  obtain⟨o,k,e,rfl,h⟩:=h;obtain⟨l,j,rfl⟩:=d _ _ e;obtain⟨c,rfl,m⟩:=a96 n;exact⟨p,valV l k,f,DGet.t j m,i _ _ _ _ h (by rw[a0W,b2M]) d (.refl _ _)⟩
 | _=>exact eC h
theorem b9g (e:G p=some (.dT ks)) (ex:x=.tup (k.map keyW)) (h:R (.bl (f (hasK ks k))) G):zTIn f x (.ref p) G R:=⟨ks,k,e,ex,h⟩
end
noncomputable def uAny {ι:Type}(u:ι->E3):E3:=fun σ G R=>∃ b,u b σ G R
theorem c03 {ι:Type}{u:ι->E3}(h:∀ b,QE X e (u b)):QE X e (uAny u):=⟨λa s τ H Q I ⟨σ,G,R,c,d,⟨b,f⟩,g⟩=>(h b).p a s τ H Q I ⟨σ,G,R,c,d,f,g⟩⟩
theorem b9h {ι:Type}{u:ι->E3}(b:ι) (h:u b σ G R):uAny u σ G R:=⟨b,h⟩
end L3
namespace L2
open PySem PySem.Spec PyProof.Rows
end L2
namespace L3
open PySem PySem.Spec PyProof.Rows L2
end L3
set_option maxHeartbeats 4000000
namespace L3
set_option genInjectivity false in
inductive Ex4 {α0 α1 α2 α3:Type}(p:α0->α1->α2->α3->Prop):Prop
 | mk (a0:α0) (a1:α1) (a2:α2) (a3:α3) (h:p a0 a1 a2 a3):Ex4 p
set_option genInjectivity false in
inductive Ex5 {α0 α1 α2 α3 α4:Type}(p:α0->α1->α2->α3->α4->Prop):Prop
 | mk (a0:α0) (a1:α1) (a2:α2) (a3:α3) (a4:α4) (h:p a0 a1 a2 a3 a4):Ex5 p
set_option genInjectivity false in
inductive Ex6 {α0 α1 α2 α3 α4 α5:Type}(p:α0->α1->α2->α3->α4->α5->Prop):Prop
 | mk (a0:α0) (a1:α1) (a2:α2) (a3:α3) (a4:α4) (a5:α5) (h:p a0 a1 a2 a3 a4 a5):Ex6 p
set_option genInjectivity false in
inductive Ex9 {α0 α1 α2 α3 α4 α5 α6 α7 α8:Type}(p:α0->α1->α2->α3->α4->α5->α6->α7->α8->Prop):Prop
 | mk (a0:α0) (a1:α1) (a2:α2) (a3:α3) (a4:α4) (a5:α5) (a6:α6) (a7:α7) (a8:α8) (h:p a0 a1 a2 a3 a4 a5 a6 a7 a8):Ex9 p
set_option genInjectivity false in
inductive Ex10 {α0 α1 α2 α3 α4 α5 α6 α7 α8 α9:Type}(p:α0->α1->α2->α3->α4->α5->α6->α7->α8->α9->Prop):Prop
 | mk (a0:α0) (a1:α1) (a2:α2) (a3:α3) (a4:α4) (a5:α5) (a6:α6) (a7:α7) (a8:α8) (a9:α9) (h:p a0 a1 a2 a3 a4 a5 a6 a7 a8 a9):Ex10 p
end L3
namespace Lw
open PySem L2 L3
noncomputable def top (i:Nat):Stmt:=PySem.Challenge.pw_twotimes_k34_whole_any_sheet.main.body.getD i (.Pass ⟨0,0,0,0⟩)
abbrev a2H:Stmt:=top 8
abbrev a2I:Stmt:=top 9
abbrev a2h:Stmt:=top 10
abbrev a1Z:Stmt:=top 11
abbrev a2i:Stmt:=top 13
abbrev a1H:Stmt:=top 14
abbrev a1u:Stmt:=top 15
abbrev a1i:Stmt:=top 16
abbrev a3O:Stmt:=top 23
abbrev a2J:Stmt:=top 22
abbrev a28:Stmt:=top 18
abbrev a18:Stmt:=top 20
abbrev a04:Stmt:=top 24
abbrev a2K:Stmt:=top 21
abbrev a4L:Stmt:=top 19
abbrev a1I:Stmt:=a1D (top 33) 2
abbrev a2L:Stmt:=a1D (top 33) 3
abbrev a05:Stmt:=a1D (top 33) 7
abbrev a0Y:Stmt:=a1D (top 33) 9
abbrev a4M:Stmt:=top 36
abbrev a10:Stmt:=top 37
abbrev a2M:Stmt:=top 38
abbrev a0Z:Stmt:=a1D (top 39) 2
abbrev a1J:Stmt:=a1D (top 33) 4
abbrev a5U:Stmt:=top 26
abbrev a1j:Stmt:=a1D (top 33) 6
abbrev a2k:Stmt:=top 27
abbrev a11:Stmt:=a1D (top 33) 5
abbrev a5v:Stmt:=top 28
abbrev a9m:Stmt:=top 29
abbrev a1v:Stmt:=top 31
abbrev a12:Stmt:=top 32
abbrev a0Q:Stmt:=top 35
abbrev a5V:Stmt:=top 41
abbrev a5W:Stmt:=top 42
abbrev a7u:Stmt:=top 43
abbrev a5X:Stmt:=top 44
abbrev a3P:Stmt:=top 45
abbrev a5Y:Stmt:=top 46
abbrev b6D:Stmt:=top 47
abbrev a9n:Stmt:=top 48
abbrev a7v:Stmt:=top 49
abbrev a9o:Stmt:=top 50
abbrev a2N:Stmt:=top 51
abbrev a1K:Stmt:=a1D (top 33) 0
abbrev a1w:Stmt:=a1D (top 33) 8
abbrev a1x:Stmt:=a1D (top 39) 1
abbrev a29:Stmt:=a1D (top 33) 1
abbrev a8s:Stmt:=top 52
theorem a0P (hr:Room k A):A.units+66<cLine:=by have:=hr.un;omega
local macro_rules | `(tactic| walk_at "sc")=>`(tactic| exact⟨rfl,rfl,rfl,by decide +kernel,rfl,by decide +kernel,by decide +kernel⟩)
theorem a8t:FnScope ["thing"] ["thing"] (a0f a2H):=by walk_at "sc"
theorem a6m:FnScope ["thing"] ["thing"] (a0f a2I):=by walk_at "sc"
theorem a5Z:FnScope ["begin","end"] ["begin","end"] (a0f a2h):=by walk_at "sc"
theorem a5d:FnScope ["end","other"] ["end","other"] (a0f a1Z):=by walk_at "sc"
theorem a50:FnScope ["thing"] ["thing"] (a0f a2i):=by walk_at "sc"
theorem a4N:FnScope ["thing"] ["thing"] (a0f a1H):=by walk_at "sc"
theorem a4f:FnScope ["begin","end"] ["begin","end"] (a0f a1u):=by walk_at "sc"
theorem a3Q:FnScope ["knowing","last"] ["knowing","last"] (a0f a1i):=by walk_at "sc"
theorem a8u:FnScope ["stretch","moment"] ["stretch","moment"] (a0f a3O):=by walk_at "sc"
theorem sc_p_worths_in:FnScope ["line","moments","worths","at","moment"] ["line","moments"] (a0f a2J):=by walk_at "sc"
theorem a7w:FnScope ["line","moment"] ["line","moment"] (a0f a28):=by walk_at "sc"
theorem a7x:FnScope ["line","moment"] ["line","moment"] (a0f a18):=by walk_at "sc"
theorem sc_p_with_alike_joined:FnScope ["pieces","told","piece"] ["pieces"] (a0f a04):=by walk_at "sc"
theorem a8v:FnScope ["line","moment"] ["line","moment"] (a0f a2K):=by walk_at "sc"
theorem sc_p_put_on:FnScope ["line","begin","end","worth","pieces"] ["line","begin","end","worth"] (a0f a4L):=by walk_at "sc"
theorem a4O:FnScope ["self"] ["self"] (a0f a1I):=by walk_at "sc"
theorem a6n:FnScope ["self"] ["self"] (a0f a2L):=by walk_at "sc"
theorem a22:FnScope ["self","knowing"] ["self","knowing"] (a0f a05):=by walk_at "sc"
theorem sc_Sheet_known_line:FnScope ["self","key","knowing","since","line"] ["self","key","knowing"] (a0f a0Y):=by walk_at "sc"
theorem a9p:FnScope ["tile"] ["tile"] (a0f a4M):=by walk_at "sc"
theorem a5e:FnScope ["tile"] ["tile"] (a0f a10):=by walk_at "sc"
theorem a6o:FnScope ["tile","knowing"] ["tile","knowing"] (a0f a2M):=by walk_at "sc"
theorem a3R:FnScope ["self","key","knowing"] ["self","key","knowing"] (a0f a0Z):=by walk_at "sc"
theorem a4P:FnScope ["self","key","moment","knowing"] ["self","key","moment","knowing"] (a0f a1J):=by walk_at "sc"
theorem sc_p_story:FnScope ["sheet","key","moment","last","pieces","knowing","worth"] ["sheet","key","moment"] (a0f a5U):=by walk_at "sc"
theorem a5f:FnScope ["self","knowing"] ["self","knowing"] (a0f a1j):=by walk_at "sc"
theorem sc_p_all_at:FnScope ["sheet","moment","knowing","keys","worths"] ["sheet","moment","knowing"] (a0f a2k):=by walk_at "sc"
theorem a5g:FnScope ["self","key","knowing"] ["self","key","knowing"] (a0f a11):=by walk_at "sc"
theorem sc_p_when:FnScope ["sheet","key","worth","knowing","line"] ["sheet","key","worth","knowing"] (a0f a5v):=by walk_at "sc"
theorem sc_p_who:FnScope ["sheet","worth","knowing","keys","told","key","begin","end"] ["sheet","worth","knowing"] (a0f a9m):=by walk_at "sc"
theorem sc_p_check_telling:FnScope ["telling","name"] ["telling"] (a0f a1v):=by walk_at "sc"
theorem sc_p_line_behind:FnScope ["line","telling","worth"] ["line","telling"] (a0f a12):=by walk_at "sc"
theorem sc_p_tiled_on:FnScope ["tiles","key","line","knowing","wanted","standing","begun","ended"] ["tiles","key","line","knowing"] (a0f a0Q):=by walk_at "sc"
theorem b0Z:FnScope ["script","k"] ["script","k"] (a0f a5V):=by walk_at "sc"
theorem sc_tumbled:FnScope ["cell","k","stir"] ["cell","k"] (a0f a5W):=by walk_at "sc"
theorem sc_words:FnScope ["cell","letters","word","at","first","last","moved"] ["cell"] (a0f a7u):=by walk_at "sc"
theorem sc_stretch:FnScope ["cell","kind","begin"] ["cell"] (a0f a5X):=by walk_at "sc"
theorem sc_by_digits:FnScope ["cell","keys","worths","begin","end"] ["cell","keys","worths"] (a0f a3P):=by walk_at "sc"
theorem sc_telling:FnScope ["cell","keys","worths","key","begin","end"] ["cell","keys","worths"] (a0f a5Y):=by walk_at "sc"
theorem b9i:FnScope ["telling","moment"] ["telling","moment"] (a0f b6D):=by walk_at "sc"
theorem sc_worth:FnScope ["tellings","key","moment","found","telling"] ["tellings","key","moment"] (a0f a9n):=by walk_at "sc"
theorem b2N:FnScope ["begin","end","number"] ["begin","end","number"] (a0f a7v):=by walk_at "sc"
theorem sc_apart:FnScope ["rows","k"] ["rows"] (a0f a9o):=by walk_at "sc"
theorem sc_right:FnScope ["sheet","key","moment","knowing","worths","due","rows","worth","stretches","many"] ["sheet","key","moment","knowing","worths","due"] (a0f a2N):=by walk_at "sc"
theorem a4Q:FnScope ["self"] ["self"] (a0f a1K):=by walk_at "sc"
theorem a4g:FnScope ["self","key","line"] ["self","key","line"] (a0f a1w):=by walk_at "sc"
theorem a4h:FnScope ["self","key","line"] ["self","key","line"] (a0f a1x):=by walk_at "sc"
theorem sc_Sheet_tell:FnScope ["self","telling","key","line"] ["self","telling"] (a0f a29):=by walk_at "sc"
theorem sc_law:FnScope ["script","keys","worths","sheets","tellings","cell","sheet","key","other","moment","knowing","due"] ["script"] (a0f a8s):=by walk_at "sc"
theorem c04:eZ (α:=Str) ["sign"]:=by decide +kernel
theorem b00:eZ (α:=Str) ["begin","end","worth","moment"]:=by decide +kernel
theorem b6E:eZ (α:=Str) ["begin","end","worth"]:=by decide +kernel
theorem c05:eZ (α:=Str) ["tile","knowing"]:=by decide +kernel
theorem c06:eZ (α:=Str) ["key","knowing","self"]:=by decide +kernel
theorem c07:eZ (α:=Str) ["key","moment","knowing","sheet"]:=by decide +kernel
theorem b9j:eZ (α:=Str) ["key","worth"]:=by decide +kernel
theorem b6F:eZ (α:=Str) ["begin","end","held","worth"]:=by decide +kernel
theorem c08:eZ (α:=Str) ["run"]:=by decide +kernel
theorem c09:eZ (α:=Str) ["tile"]:=by decide +kernel
theorem b9k:eZ (α:=Str) ["run","standing"]:=by decide +kernel
theorem b9l:eZ (α:=Str) ["tile","wanted","knowing"]:=by decide +kernel
theorem b2O:eZ (α:=Str) ["begin","end","worth","key","knowing"]:=by decide +kernel
theorem b9m:eZ (α:=Str) ["k","letters","cell"]:=by decide +kernel
theorem b9n:eZ (α:=Str) ["row","knowing"]:=by decide +kernel
theorem b5j:eZ (α:=Str) ["one"]:=by decide +kernel
theorem b5k:eZ (α:=Str) ["row","key"]:=by decide +kernel
theorem b9o:eZ (α:=Str) ["one","moment"]:=by decide +kernel
set_option genInjectivity false in
structure Ad where
 f0:Addr
 d0:jI
 f1:Addr
 d1:jI
 f2:Addr
 d2:jI
 f3:Addr
 d3:jI
 f4:Addr
 d4:jI
 f5:Addr
 d5:jI
 f6:Addr
 d6:jI
 f7:Addr
 d7:jI
 f8:Addr
 d8:jI
 f9:Addr
 d9:jI
 f10:Addr
 d10:jI
 f11:Addr
 d11:jI
 f12:Addr
 d12:jI
 f13:Addr
 d13:jI
 f14:Addr
 d14:jI
 f15:Addr
 d15:jI
 f16:Addr
 d16:jI
 f17:Addr
 d17:jI
 f18:Addr
 d18:jI
 f19:Addr
 d19:jI
 f20:Addr
 d20:jI
 f21:Addr
 d21:jI
 f22:Addr
 d22:jI
 f23:Addr
 d23:jI
 f24:Addr
 d24:jI
 f25:Addr
 d25:jI
 f26:Addr
 d26:jI
 f27:Addr
 d27:jI
 f28:Addr
 d28:jI
 f29:Addr
 d29:jI
 f30:Addr
 d30:jI
 f31:Addr
 d31:jI
 f32:Addr
 d32:jI
 f33:Addr
 d33:jI
 f34:Addr
 d34:jI
 f35:Addr
 d35:jI
 f36:Addr
 d36:jI
 f37:Addr
 d37:jI
 f38:Addr
 d38:jI
 f39:Addr
 d39:jI
 f40:Addr
 d40:jI
 f41:Addr
 d41:jI
 f42:Addr
 d42:jI
 f43:Addr
 d43:jI
 f44:Addr
 d44:jI
 f45:Addr
 d45:jI
 f46:Addr
 d46:jI
 f47:Addr
 d47:jI
 f48:Addr
 d48:jI
 c_Sheet:Addr
 c_Tiled:Addr
 x_NoName:Addr
 x_NoStretch:Addr
 x_NoKnowing:Addr
structure Fns (K:Fg) (a:Ad):Prop where
 n0:Fun K "is_name" "is_name" a2H a.f0 a.d0
 n1:Fun K "is_moment" "is_moment" a2I a.f1 a.d1
 n2:Fun K "is_stretch" "is_stretch" a2h a.f2 a.d2
 n3:Fun K "earlier_end" "earlier_end" a1Z a.f3 a.d3
 n4:Fun K "check_name" "check_name" a2i a.f4 a.d4
 n5:Fun K "check_moment" "check_moment" a1H a.f5 a.d5
 n6:Fun K "check_stretch" "check_stretch" a1u a.f6 a.d6
 n7:Fun K "check_in_reach" "check_in_reach" a1i a.f7 a.d7
 n8:Fun K "is_over" "is_over" a3O a.f8 a.d8
 n9:Fun K "worths_in" "worths_in" a2J a.f9 a.d9
 n10:Fun K "worth_in" "worth_in" a28 a.f10 a.d10
 n11:Fun K "ahead_of" "ahead_of" a18 a.f11 a.d11
 n12:Fun K "with_alike_joined" "with_alike_joined" a04 a.f12 a.d12
 n13:Fun K "from_on" "from_on" a2K a.f13 a.d13
 n14:Fun K "put_on" "put_on" a4L a.f14 a.d14
 n15:Fun K "knowings" "Sheet.knowings" a1I a.f15 a.d15
 n16:Fun K "first" "Sheet.first" a2L a.f16 a.d16
 n17:Fun K "check_knowing" "Sheet.check_knowing" a05 a.f17 a.d17
 n18:Fun K "known_line" "Sheet.known_line" a0Y a.f18 a.d18
 n19:Fun K "run_of" "run_of" a4M a.f19 a.d19
 n20:Fun K "is_standing" "is_standing" a10 a.f20 a.d20
 n21:Fun K "stands_at" "stands_at" a2M a.f21 a.d21
 n22:Fun K "known_line" "Tiled.known_line" a0Z a.f22 a.d22
 n23:Fun K "worth_at" "Sheet.worth_at" a1J a.f23 a.d23
 n24:Fun K "story" "story" a5U a.f24 a.d24
 n25:Fun K "keys_at" "Sheet.keys_at" a1j a.f25 a.d25
 n26:Fun K "all_at" "all_at" a2k a.f26 a.d26
 n27:Fun K "line_at" "Sheet.line_at" a11 a.f27 a.d27
 n28:Fun K "when" "when" a5v a.f28 a.d28
 n29:Fun K "who" "who" a9m a.f29 a.d29
 n30:Fun K "check_telling" "check_telling" a1v a.f30 a.d30
 n31:Fun K "line_behind" "line_behind" a12 a.f31 a.d31
 n32:Fun K "tiled_on" "tiled_on" a0Q a.f32 a.d32
 n33:Fun K "_law_cell_at" "_law_cell_at" a5V a.f33 a.d33
 n34:Fun K "_law_tumbled" "_law_tumbled" a5W a.f34 a.d34
 n35:Fun K "_law_words" "_law_words" a7u a.f35 a.d35
 n36:Fun K "_law_stretch" "_law_stretch" a5X a.f36 a.d36
 n37:Fun K "_law_by_digits" "_law_by_digits" a3P a.f37 a.d37
 n38:Fun K "_law_telling" "_law_telling" a5Y a.f38 a.d38
 n39:Fun K "_law_has" "_law_has" b6D a.f39 a.d39
 n40:Fun K "_law_worth" "_law_worth" a9n a.f40 a.d40
 n41:Fun K "_law_within" "_law_within" a7v a.f41 a.d41
 n42:Fun K "_law_apart" "_law_apart" a9o a.f42 a.d42
 n43:Fun K "_law_right" "_law_right" a2N a.f43 a.d43
 n44:Fun K "__init__" "Sheet.__init__" a1K a.f44 a.d44
 n45:Fun K "keep_line" "Sheet.keep_line" a1w a.f45 a.d45
 n46:Fun K "keep_line" "Tiled.keep_line" a1x a.f46 a.d46
 n47:Fun K "tell" "Sheet.tell" a29 a.f47 a.d47
 n48:Fun K "law" "law" a8s a.f48 a.d48
theorem a8w {K:Fg}{a:Ad}(F:Fns K a):Binds K a.d0 ["thing"] []:=F.n0.binds λ_ _ _ _ _ _=>lnS λ_=>ln0 rfl
theorem a2j {K:Fg}{a:Ad}(F:Fns K a):Binds K a.d1 ["thing"] []:=F.n1.binds λ_ _ _ _ _ _=>lnS λ_=>ln0 rfl
theorem a51 {K:Fg}{a:Ad}(F:Fns K a):Binds K a.d2 ["begin","end"] []:=F.n2.binds λ_ _ _ _ _ _=>lnS λ_=>lnS λ_=>ln0 rfl
theorem a5h {K:Fg}{a:Ad}(F:Fns K a):Binds K a.d3 ["end","other"] []:=F.n3.binds λ_ _ _ _ _ _=>lnS λ_=>lnS λ_=>ln0 rfl
theorem a06 {K:Fg}{a:Ad}(F:Fns K a):Binds K a.d4 ["thing"] []:=F.n4.binds λ_ _ _ _ _ _=>lnS λ_=>ln0 rfl
theorem a2l {K:Fg}{a:Ad}(F:Fns K a):Binds K a.d5 ["thing"] []:=F.n5.binds λ_ _ _ _ _ _=>lnS λ_=>ln0 rfl
theorem a4i {K:Fg}{a:Ad}(F:Fns K a):Binds K a.d6 ["begin","end"] []:=F.n6.binds λ_ _ _ _ _ _=>lnS λ_=>lnS λ_=>ln0 rfl
theorem a3S {K:Fg}{a:Ad}(F:Fns K a):Binds K a.d7 ["knowing","last"] []:=F.n7.binds λ_ _ _ _ _ _=>lnS λ_=>lnS λ_=>ln0 rfl
theorem a8x {K:Fg}{a:Ad}(F:Fns K a):Binds K a.d8 ["stretch","moment"] []:=F.n8.binds λ_ _ _ _ _ _=>lnS λ_=>lnS λ_=>ln0 rfl
theorem a6p {K:Fg}{a:Ad}(F:Fns K a):Binds K a.d9 ["line","moments"] []:=F.n9.binds λ_ _ _ _ _ _=>lnS λ_=>lnS λ_=>ln0 rfl
theorem a7y {K:Fg}{a:Ad}(F:Fns K a):Binds K a.d10 ["line","moment"] []:=F.n10.binds λ_ _ _ _ _ _=>lnS λ_=>lnS λ_=>ln0 rfl
theorem a7z {K:Fg}{a:Ad}(F:Fns K a):Binds K a.d11 ["line","moment"] []:=F.n11.binds λ_ _ _ _ _ _=>lnS λ_=>lnS λ_=>ln0 rfl
theorem a1n {K:Fg}{a:Ad}(F:Fns K a):Binds K a.d12 ["pieces"] []:=F.n12.binds λ_ _ _ _ _ _=>lnS λ_=>ln0 rfl
theorem a8y {K:Fg}{a:Ad}(F:Fns K a):Binds K a.d13 ["line","moment"] []:=F.n13.binds λ_ _ _ _ _ _=>lnS λ_=>lnS λ_=>ln0 rfl
theorem a9q {K:Fg}{a:Ad}(F:Fns K a):Binds K a.d14 ["line","begin","end","worth"] []:=F.n14.binds λ_ _ _ _ _ _=>lnS λ_=>lnS λ_=>lnS λ_=>lnS λ_=>ln0 rfl
theorem a4R {K:Fg}{a:Ad}(F:Fns K a):Binds K a.d15 ["self"] []:=F.n15.binds λ_ _ _ _ _ _=>lnS λ_=>ln0 rfl
theorem a6q {K:Fg}{a:Ad}(F:Fns K a):Binds K a.d16 ["self"] []:=F.n16.binds λ_ _ _ _ _ _=>lnS λ_=>ln0 rfl
theorem a0U {K:Fg}{a:Ad}(F:Fns K a):Binds K a.d17 ["self","knowing"] []:=F.n17.binds λ_ _ _ _ _ _=>lnS λ_=>lnS λ_=>ln0 rfl
theorem a3T {K:Fg}{a:Ad}(F:Fns K a):Binds K a.d18 ["self","key","knowing"] []:=F.n18.binds λ_ _ _ _ _ _=>lnS λ_=>lnS λ_=>lnS λ_=>ln0 rfl
theorem a3U {K:Fg}{a:Ad}(F:Fns K a):Binds K a.d19 ["tile"] []:=F.n19.binds λ_ _ _ _ _ _=>lnS λ_=>ln0 rfl
theorem a1L {K:Fg}{a:Ad}(F:Fns K a):Binds K a.d20 ["tile"] []:=F.n20.binds λ_ _ _ _ _ _=>lnS λ_=>ln0 rfl
theorem a6r {K:Fg}{a:Ad}(F:Fns K a):Binds K a.d21 ["tile","knowing"] []:=F.n21.binds λ_ _ _ _ _ _=>lnS λ_=>lnS λ_=>ln0 rfl
theorem a3V {K:Fg}{a:Ad}(F:Fns K a):Binds K a.d22 ["self","key","knowing"] []:=F.n22.binds λ_ _ _ _ _ _=>lnS λ_=>lnS λ_=>lnS λ_=>ln0 rfl
theorem a2m {K:Fg}{a:Ad}(F:Fns K a):Binds K a.d23 ["self","key","moment","knowing"] []:=F.n23.binds λ_ _ _ _ _ _=>lnS λ_=>lnS λ_=>lnS λ_=>lnS λ_=>ln0 rfl
theorem b01 {K:Fg}{a:Ad}(F:Fns K a):Binds K a.d24 ["sheet","key","moment"] []:=F.n24.binds λ_ _ _ _ _ _=>lnS λ_=>lnS λ_=>lnS λ_=>ln0 rfl
theorem a2U {K:Fg}{a:Ad}(F:Fns K a):Binds K a.d25 ["self","knowing"] []:=F.n25.binds λ_ _ _ _ _ _=>lnS λ_=>lnS λ_=>ln0 rfl
theorem a9r {K:Fg}{a:Ad}(F:Fns K a):Binds K a.d26 ["sheet","moment","knowing"] []:=F.n26.binds λ_ _ _ _ _ _=>lnS λ_=>lnS λ_=>lnS λ_=>ln0 rfl
theorem a5i {K:Fg}{a:Ad}(F:Fns K a):Binds K a.d27 ["self","key","knowing"] []:=F.n27.binds λ_ _ _ _ _ _=>lnS λ_=>lnS λ_=>lnS λ_=>ln0 rfl
theorem a8z {K:Fg}{a:Ad}(F:Fns K a):Binds K a.d28 ["sheet","key","worth","knowing"] []:=F.n28.binds λ_ _ _ _ _ _=>lnS λ_=>lnS λ_=>lnS λ_=>lnS λ_=>ln0 rfl
theorem b4j {K:Fg}{a:Ad}(F:Fns K a):Binds K a.d29 ["sheet","worth","knowing"] []:=F.n29.binds λ_ _ _ _ _ _=>lnS λ_=>lnS λ_=>lnS λ_=>ln0 rfl
theorem a4j {K:Fg}{a:Ad}(F:Fns K a):Binds K a.d30 ["telling"] []:=F.n30.binds λ_ _ _ _ _ _=>lnS λ_=>ln0 rfl
theorem a5j {K:Fg}{a:Ad}(F:Fns K a):Binds K a.d31 ["line","telling"] []:=F.n31.binds λ_ _ _ _ _ _=>lnS λ_=>lnS λ_=>ln0 rfl
theorem a7A {K:Fg}{a:Ad}(F:Fns K a):Binds K a.d32 ["tiles","key","line","knowing"] []:=F.n32.binds λ_ _ _ _ _ _=>lnS λ_=>lnS λ_=>lnS λ_=>lnS λ_=>ln0 rfl
theorem a6V {K:Fg}{a:Ad}(F:Fns K a):Binds K a.d33 ["script","k"] []:=F.n33.binds λ_ _ _ _ _ _=>lnS λ_=>lnS λ_=>ln0 rfl
theorem a0r {K:Fg}{a:Ad}(F:Fns K a):Binds K a.d34 ["cell","k"] []:=F.n34.binds λ_ _ _ _ _ _=>lnS λ_=>lnS λ_=>ln0 rfl
theorem a99 {K:Fg}{a:Ad}(F:Fns K a):Binds K a.d35 ["cell"] []:=F.n35.binds λ_ _ _ _ _ _=>lnS λ_=>ln0 rfl
theorem b02 {K:Fg}{a:Ad}(F:Fns K a):Binds K a.d36 ["cell"] []:=F.n36.binds λ_ _ _ _ _ _=>lnS λ_=>ln0 rfl
theorem a8A {K:Fg}{a:Ad}(F:Fns K a):Binds K a.d37 ["cell","keys","worths"] []:=F.n37.binds λ_ _ _ _ _ _=>lnS λ_=>lnS λ_=>lnS λ_=>ln0 rfl
theorem b03 {K:Fg}{a:Ad}(F:Fns K a):Binds K a.d38 ["cell","keys","worths"] []:=F.n38.binds λ_ _ _ _ _ _=>lnS λ_=>lnS λ_=>lnS λ_=>ln0 rfl
theorem b9p {K:Fg}{a:Ad}(F:Fns K a):Binds K a.d39 ["telling","moment"] []:=F.n39.binds λ_ _ _ _ _ _=>lnS λ_=>lnS λ_=>ln0 rfl
theorem b4k {K:Fg}{a:Ad}(F:Fns K a):Binds K a.d40 ["tellings","key","moment"] []:=F.n40.binds λ_ _ _ _ _ _=>lnS λ_=>lnS λ_=>lnS λ_=>ln0 rfl
theorem a8B {K:Fg}{a:Ad}(F:Fns K a):Binds K a.d41 ["begin","end","number"] []:=F.n41.binds λ_ _ _ _ _ _=>lnS λ_=>lnS λ_=>lnS λ_=>ln0 rfl
theorem b0a {K:Fg}{a:Ad}(F:Fns K a):Binds K a.d42 ["rows"] []:=F.n42.binds λ_ _ _ _ _ _=>lnS λ_=>ln0 rfl
theorem b4l {K:Fg}{a:Ad}(F:Fns K a):Binds K a.d43 ["sheet","key","moment","knowing","worths","due"] []:=F.n43.binds λ_ _ _ _ _ _=>lnS λ_=>lnS λ_=>lnS λ_=>lnS λ_=>lnS λ_=>lnS λ_=>ln0 rfl
theorem a2n {K:Fg}{a:Ad}(F:Fns K a):Binds K a.d44 ["self"] []:=F.n44.binds λ_ _ _ _ _ _=>lnS λ_=>ln0 rfl
theorem a4k {K:Fg}{a:Ad}(F:Fns K a):Binds K a.d45 ["self","key","line"] []:=F.n45.binds λ_ _ _ _ _ _=>lnS λ_=>lnS λ_=>lnS λ_=>ln0 rfl
theorem a4l {K:Fg}{a:Ad}(F:Fns K a):Binds K a.d46 ["self","key","line"] []:=F.n46.binds λ_ _ _ _ _ _=>lnS λ_=>lnS λ_=>lnS λ_=>ln0 rfl
theorem a7B {K:Fg}{a:Ad}(F:Fns K a):Binds K a.d47 ["self","telling"] []:=F.n47.binds λ_ _ _ _ _ _=>lnS λ_=>lnS λ_=>ln0 rfl
noncomputable def FE (K:Fg) (x q:Str) (st:Stmt) (f:Addr):Prop:=∃ d,Fun K x q st f d
theorem fe_mk {K:Fg}{x qual:Str}{st:Stmt}{f:Addr}{oc:Value}{od an:Option Addr}{osl:Array (Option Value)}{kV doc pm cdv ct:Value}(l:K.lookup f=some ⟨oc,od,.func (PySem.W.fnOf x qual (a3E st) (a2c st) (a0f st) .none kV doc pm an cdv ct),osl⟩) (c:PySem.W.codeIn K cdv qual=true) (k:PySem.W.keepIn K (.ref f)=true):FE K x qual st f:=⟨_,b4S l c k⟩
structure Txt (K:Fg) (mg:Str->Option Value) (a:Ad):Prop where
 m0:mg "is_name"=some (.ref a.f0)
 m1:mg "is_moment"=some (.ref a.f1)
 m2:mg "is_stretch"=some (.ref a.f2)
 m3:mg "earlier_end"=some (.ref a.f3)
 m4:mg "check_name"=some (.ref a.f4)
 m5:mg "check_moment"=some (.ref a.f5)
 m6:mg "check_stretch"=some (.ref a.f6)
 m7:mg "check_in_reach"=some (.ref a.f7)
 m8:mg "is_over"=some (.ref a.f8)
 m9:mg "worths_in"=some (.ref a.f9)
 m10:mg "worth_in"=some (.ref a.f10)
 m11:mg "ahead_of"=some (.ref a.f11)
 m12:mg "with_alike_joined"=some (.ref a.f12)
 m13:mg "from_on"=some (.ref a.f13)
 m14:mg "put_on"=some (.ref a.f14)
 mt15:Meth K a.c_Sheet "knowings" a.f15
 mtT_Sheet_knowings:Meth K a.c_Tiled "knowings" a.f15
 mt16:Meth K a.c_Sheet "first" a.f16
 mtT_Sheet_first:Meth K a.c_Tiled "first" a.f16
 mt17:Meth K a.c_Sheet "check_knowing" a.f17
 mtT_Sheet_check_knowing:Meth K a.c_Tiled "check_knowing" a.f17
 mt18:Meth K a.c_Sheet "known_line" a.f18
 m19:mg "run_of"=some (.ref a.f19)
 m20:mg "is_standing"=some (.ref a.f20)
 m21:mg "stands_at"=some (.ref a.f21)
 mt22:Meth K a.c_Tiled "known_line" a.f22
 mt23:Meth K a.c_Sheet "worth_at" a.f23
 mtT_Sheet_worth_at:Meth K a.c_Tiled "worth_at" a.f23
 m24:mg "story"=some (.ref a.f24)
 mt25:Meth K a.c_Sheet "keys_at" a.f25
 mtT_Sheet_keys_at:Meth K a.c_Tiled "keys_at" a.f25
 m26:mg "all_at"=some (.ref a.f26)
 mt27:Meth K a.c_Sheet "line_at" a.f27
 mtT_Sheet_line_at:Meth K a.c_Tiled "line_at" a.f27
 m28:mg "when"=some (.ref a.f28)
 m29:mg "who"=some (.ref a.f29)
 m30:mg "check_telling"=some (.ref a.f30)
 m31:mg "line_behind"=some (.ref a.f31)
 m32:mg "tiled_on"=some (.ref a.f32)
 m33:mg "_law_cell_at"=some (.ref a.f33)
 m34:mg "_law_tumbled"=some (.ref a.f34)
 m35:mg "_law_words"=some (.ref a.f35)
 m36:mg "_law_stretch"=some (.ref a.f36)
 m37:mg "_law_by_digits"=some (.ref a.f37)
 m38:mg "_law_telling"=some (.ref a.f38)
 m39:mg "_law_has"=some (.ref a.f39)
 m40:mg "_law_worth"=some (.ref a.f40)
 m41:mg "_law_within"=some (.ref a.f41)
 m42:mg "_law_apart"=some (.ref a.f42)
 m43:mg "_law_right"=some (.ref a.f43)
 mt44:Meth K a.c_Sheet "__init__" a.f44
 mtT_Sheet___init__:Meth K a.c_Tiled "__init__" a.f44
 mt45:Meth K a.c_Sheet "keep_line" a.f45
 mt46:Meth K a.c_Tiled "keep_line" a.f46
 mt47:Meth K a.c_Sheet "tell" a.f47
 mtT_Sheet_tell:Meth K a.c_Tiled "tell" a.f47
 m48:mg "law"=some (.ref a.f48)
 b_all:mg "all"=none
 b_isinstance:mg "isinstance"=none
 b_str:mg "str"=none
 b_len:mg "len"=none
 b_bool:mg "bool"=none
 b_int:mg "int"=none
 b_min:mg "min"=none
 b_max:mg "max"=none
 b_reversed:mg "reversed"=none
 b_sorted:mg "sorted"=none
 b_range:mg "range"=none
 b_dict:mg "dict"=none
 cl_Sheet:Cls K a.c_Sheet
 mg_Sheet:mg "Sheet"=some (.ref a.c_Sheet)
 mk_Sheet:Mk K a.c_Sheet a.f44
 cl_Tiled:Cls K a.c_Tiled
 mg_Tiled:mg "Tiled"=some (.ref a.c_Tiled)
 mk_Tiled:Mk K a.c_Tiled a.f44
 na_last:NoAttr K a.c_Sheet "last"
 naT_last:NoAttr K a.c_Tiled "last"
 na_kept:NoAttr K a.c_Sheet "kept"
 naT_kept:NoAttr K a.c_Tiled "kept"
 x_NoName:mg "NoName"=some (.ref a.x_NoName)
 x_NoStretch:mg "NoStretch"=some (.ref a.x_NoStretch)
 x_NoKnowing:mg "NoKnowing"=some (.ref a.x_NoKnowing)
 xi_NoName:PySem.W.excIn K a.x_NoName veM "ValueError.__new__"=true
 xi_NoStretch:PySem.W.excIn K a.x_NoStretch veM "ValueError.__new__"=true
 xi_NoKnowing:PySem.W.excIn K a.x_NoKnowing veM "ValueError.__new__"=true
 c_LONGEST_NAME:∃ t,mg "LONGEST_NAME"=some (.int 8 t)
 c_LAST_MOMENT:∃ t,mg "LAST_MOMENT"=some (.int 1000000000000 t)
noncomputable def Ad.cK (a:Ad) (b:Bool):Addr:=cond b a.c_Tiled a.c_Sheet
theorem clK {K:Fg}{mg:Str->Option Value}{a:Ad}(T:Txt K mg a) (b:Bool):Cls K (a.cK b):=by
 cases b
 ·exact T.cl_Sheet
 ·exact T.cl_Tiled
theorem a3o {K:Fg}{mg:Str->Option Value}{a:Ad}(T:Txt K mg a) (b:Bool):NoAttr K (a.cK b) "last":=by
 cases b
 ·exact T.na_last
 ·exact T.naT_last
theorem b0b {K:Fg}{mg:Str->Option Value}{a:Ad}(T:Txt K mg a) (b:Bool):NoAttr K (a.cK b) "kept":=by
 cases b
 ·exact T.na_kept
 ·exact T.naT_kept
theorem a4m {K:Fg}{mg:Str->Option Value}{a:Ad}(T:Txt K mg a) (b:Bool):Meth K (a.cK b) "knowings" a.f15:=by
 cases b
 ·exact T.mt15
 ·exact T.mtT_Sheet_knowings
theorem a52 {K:Fg}{mg:Str->Option Value}{a:Ad}(T:Txt K mg a) (b:Bool):Meth K (a.cK b) "first" a.f16:=by
 cases b
 ·exact T.mt16
 ·exact T.mtT_Sheet_first
theorem a0S {K:Fg}{mg:Str->Option Value}{a:Ad}(T:Txt K mg a) (b:Bool):Meth K (a.cK b) "check_knowing" a.f17:=by
 cases b
 ·exact T.mt17
 ·exact T.mtT_Sheet_check_knowing
theorem a19 {K:Fg}{mg:Str->Option Value}{a:Ad}(T:Txt K mg a) (b:Bool):Meth K (a.cK b) "worth_at" a.f23:=by
 cases b
 ·exact T.mt23
 ·exact T.mtT_Sheet_worth_at
theorem a2o {K:Fg}{mg:Str->Option Value}{a:Ad}(T:Txt K mg a) (b:Bool):Meth K (a.cK b) "keys_at" a.f25:=by
 cases b
 ·exact T.mt25
 ·exact T.mtT_Sheet_keys_at
theorem a4S {K:Fg}{mg:Str->Option Value}{a:Ad}(T:Txt K mg a) (b:Bool):Meth K (a.cK b) "line_at" a.f27:=by
 cases b
 ·exact T.mt27
 ·exact T.mtT_Sheet_line_at
theorem a6s {K:Fg}{mg:Str->Option Value}{a:Ad}(T:Txt K mg a) (b:Bool):Meth K (a.cK b) "tell" a.f47:=by
 cases b
 ·exact T.mt47
 ·exact T.mtT_Sheet_tell
theorem b0c (hg:Gl X x) (hm:∃ t,X.mg x=some (.int i t)) (hd:(x==("__debug__":Str))=false:=by decide):PE X (.Name x pos) (tC (.int i)):=by
 obtain⟨t,h⟩:=hm;exact b5D hg h ⟨t,rfl⟩ hd
noncomputable def a8C:P3:=λws G R=>∃ a ns,ws=[.scr a ns]/\ns.length<=63/\∀ G',R (.bl true) G'
theorem b2P {K:Fg}{H:Hp}{E:XK}(a:Addr) (ns:List Int) (hl:ns.length<=63) (f:Fz K H a (ns.map V.int)):lowP K a8C [.ref a] H (λv _=>v=.bl true) E:=
 ⟨[.scr a ns],λ_=>none,λw _=>w=.bl true,.cons (by rw[a4F];exact⟨rfl,f⟩) .nil,λ_ _ e=>(nomatch e),⟨a,ns,rfl,hl,λ_=>rfl⟩,λw G v H' e r _ _=>by subst e;rw[a0W]at r;exact r⟩
theorem lenK (h:Nat.ble n 1000=true):n<=sizeLine:=fT (a0z (i5 h))
theorem a3u (h:n<=1000):n<=sizeLine:=fT (a0z h)
noncomputable def b9q (x w:Int):Prop:=w=0\/(w=1/\0<=x/\x<536870909)
abbrev RowO (x w:Int):O:=.lst [.int x,.int w]
noncomputable def RowAt (G:Hq) (r:Addr):Prop:=∃ x w,G r=some (RowO x w)/\b9q x w
local macro_rules | `(tactic| walk_at "sd")=>`(tactic| first | assumption | (exact a3u (by first | decide | omega | (simp;done) | (simp;omega))) | (exact a0z (by first | decide | omega | (simp;done) | (simp;omega))) | decide | omega)
local macro_rules | `(tactic| walk_at "hp")=>`(tactic| first | assumption | exact a0e | (refine a0m ?_ (by assumption);walk_at "hp") | (refine Sm.get (by assumption) ?_;walk_at "hp"))
local macro_rules | `(tactic| walk_at "go1")=>`(tactic| with_reducible (first
 | refine c0u ?_ | refine c0m (by with_unfolding_all rfl) ?_ | refine i_c ?_ | refine i_op ?_ | refine i_un ?_ | refine b8o ?_ | refine b6g ?_ | refine c0n ?_ | refine i_or ?_ | refine c0o ?_ | refine b8p ?_ | refine c0p ?_ | refine i_notV ?_ | refine i_if ?_
 | refine c0q ?_ | refine i_truI ?_ | refine i_truB ?_ | refine i_sl ?_ | refine b31 ?_ | refine b8q ?_ | refine c0r ?_ | refine b8r ?_ | refine c0s ?_ | refine c0t ?_ | refine i_cb ?_ | refine i_uss ?_ | refine i_bm0 ?_ | refine i_bm ?_ | refine b8s ?_
 | refine b8t ?_ | refine b8u ?_ | refine c0v ?_ | refine i_retN ?_ | refine c0w ?_ | refine c0x ?_ | refine c0y ?_ | refine c0z (by with_unfolding_all rfl) ?_ | refine i_break ?_ | refine i_cont ?_ | refine b8D ?_ | refine c0I ?_ | refine i_iL ?_ | refine i_iT ?_ | refine i_iS ?_ | refine c0J ?_ | refine c0K ?_ | refine i_wkC ?_ | refine c0L ?_ | refine c0M ?_ | refine i_tt ?_
 | refine b8v ?_ | refine i_I0 ?_ | refine c0A ?_ | refine i_CI ?_ | refine i_CS ?_ | refine b6h ?_ | refine i_isB ?_ | refine b8x ?_ | refine i_eqB ?_ | refine b8y ?_ | refine c0B ?_ | refine i_inS ?_ | refine b8A ?_ | refine i_nm ?_ | refine a2e (by with_unfolding_all rfl) ?_ | refine i_lenT ?_ | refine b8B ?_ | refine i_mm ?_ | refine c0H ?_
 | refine ifT ?_ | refine ifF ?_ | refine ifNN ?_ | refine ifNI ?_ | refine ifNS ?_ | refine ifNU ?_ | refine ifMN ?_ | refine ifMI ?_ | refine ifMS ?_ | refine ifMU ?_ | refine a2e at0 ?_ | refine a2e at1 ?_ | refine a2e at2 ?_ | refine b8U ?_ | refine b8Y ?_ | refine i_iR3 ?_ | refine i_iZip ?_ | refine b81 ?_ | refine b6t ?_ | refine b6u ?_ | refine b82 ?_ | refine b83 ?_ | refine i_disp ?_ | refine i_pcons ?_ | refine i_pnil ?_ | refine⟨_,rfl,?_⟩))
local macro_rules | `(tactic| walk_at "go")=>`(tactic| repeat walk_at "go1")
local macro_rules | `(tactic| symm)=>`(tactic| walk_at "go")
noncomputable def a6W:P3:=λws G R=>∃ p ns k,ws=[.scr p ns,.int k]/\0<=k/\∀ i,R (.int i) G
theorem a9s (h:a6W ws G R):ws.length=2:=by obtain⟨_,_,_,rfl,_⟩:=h;rfl
variable {P:jH}{w:World}{K:Fg}{mg:Str->Option Value}{base:Heap}{a:Ad}
theorem b04 (F:Fns K a) (T:Txt K mg a):FnOk P w K mg base CX0 1 a.f33 a.d33 ["script","k"] (lowP K a6W):=by
 refine fn3 F.n33 b0Z (λd G R h=>(by exact a9s h)) (λl A b s H E d G R i h=>?_);have m:=a0P i;refine⟨_,(a0l (z_if (a0s o_lt (a0c (pv 1)) (a0K b_len rfl T.b_len PySem.boot_len (a0b (a0c (pv 0)) a0h a0a)) (a0o _))
  (a0n (a0v (q_ix x_ix (a0c (pv 0)) (a0c (pv 1)) (λ_ _=>rfl))))
  a00)
  (a0n (a0v a0g))),?_⟩
 obtain⟨p,f,k,rfl,e,q⟩:=h;symm;refine ifD (λc=>?_) λ_=>?_
 ·obtain⟨j,rfl⟩:=fX e;have g:j<f.length:=by omega
  symm;exact c0C (a2w (eQ g)) (q _)
 ·symm;exact q _
theorem m9 (x:Int):0<=x % 536870909/\x % 536870909<536870909:=⟨fi _ (by decide),fu _ (by decide)⟩
theorem RowAt.new (h:RowAt G r) (n:G p=none):RowAt (put G p o) r:=by
 obtain⟨x,w,e,k⟩:=h;exact⟨x,w,a0m e n,k⟩
theorem RowAt.at {G:Hq}{r:Addr}{x w:Int}(k:b9q x w):RowAt (put G r (RowO x w)) r:=⟨x,w,a0e,k⟩
structure Rw where
 b:Int
 e:Option Int
 w:List Z
@[reducible] noncomputable def oz:Option Int->Z
 | none=>.non
 | some i=>.int i
theorem b9r (h:oz x=oz y):x=y:=by
 cases x<;>cases y<;>first | rfl | cases h<;>rfl
noncomputable def Rw.z (r:Rw):Z:=.tup (.int r.b::oz r.e::r.w)
theorem Rw.z_inj {r s:Rw}(h:r.z=s.z):r=s:=by
 obtain⟨b,e,w⟩:=r;simp only[Rw.z,Z.tup.injEq,fO.injEq,Z.int.injEq]at h;obtain⟨rfl,a,rfl⟩:=h;rw[b9r a]
noncomputable def bef (t:Int):Option Int->Bool
 | none=>true
 | some e=>decide (t<e)
noncomputable def Rw.has (r:Rw) (t:Int):Bool:=decide (r.b<=t)&&bef t r.e
noncomputable def Rw.good (r:Rw):Prop:=bef r.b r.e=true
noncomputable def val (l:List Rw) (t:Int):Option (List Z):=(l.find? (·.has t)).map (·.w)
theorem a1M:val [] t=none:=rfl
theorem a0A:val (r::l) t=if r.has t=true then some r.w else val l t:=by
 unfold val;rw[fK];cases h:r.has t<;>simp
theorem a1d:val (l++m) t=(val l t).or (val m t):=by
 unfold val;rw[jo];cases h:l.find? _<;>simp
noncomputable def Lt (r s:Rw):Prop:=∃ e,r.e=some e/\e<=s.b
noncomputable def Lt2 (r s:Rw):Prop:=∃ e,r.e=some e/\e<=s.b/\(e=s.b->r.w≠s.w)
noncomputable def Rise (l:List Rw):Prop:=(∀ r∈l,r.good)/\l.Pairwise Lt
noncomputable def Can (l:List Rw):Prop:=(∀ r∈l,r.good)/\l.Pairwise Lt2
theorem Lt2.lt {r s:Rw}(h:Lt2 r s):Lt r s:=let ⟨e,a,b,_⟩:=h;⟨e,a,b⟩
theorem Can.rise (h:Can l):Rise l:=⟨h.1,h.2.imp Lt2.lt⟩
theorem Can.nil:Can []:=⟨λ_ h=>by simp at h,.nil⟩
theorem Rise.nil:Rise []:=Can.nil.rise
theorem Can.tail (h:Can (r::l)):Can l:=⟨λs a=>h.1 s (.tail _ a),(eT.mp h.2).2⟩
theorem Rise.tail (h:Rise (r::l)):Rise l:=⟨λs a=>h.1 s (.tail _ a),(eT.mp h.2).2⟩
theorem b05 {r:Rw}(h:r.good):r.has r.b=true:=by
 unfold Rw.has;rw[h];simp
theorem Lt.has (h:Lt r s) (a:r.has t=true):s.has t=false:=by
 obtain⟨e,c,d⟩:=h;unfold Rw.has at a ⊢;rw[c]at a;simp only[bef,fU,decide_eq_true_eq]at a
 have:decide (s.b<=t)=false:=decide_eq_false (by omega)
 rw[this,jp]
theorem Lt.b (g:r.good) (h:Lt r s):r.b<s.b:=by
 obtain⟨e,a,c⟩:=h
 have:bef r.b r.e=true:=g
 rw[a]at this;simp only[bef,decide_eq_true_eq]at this;omega
theorem a5w (h:∀ r∈l,r.has t=false):val l t=none:=by simp_all[val]
theorem b4m {l:List Rw}{t:Int}{w:List Z}(h:val l t=some w):∃ r∈l,r.has t=true/\r.w=w:=by
 induction l with
 | nil=>cases h
 | cons r l ih=>
  rw[a0A]at h
  split at h
  ·next e=>cases h;exact⟨r,.head _,e,rfl⟩
  ·obtain⟨s,h1,h2⟩:=ih h;exact⟨s,.tail _ h1,h2⟩
theorem b0d {r:Rw}(h:t<r.b):r.has t=false:=by
 unfold Rw.has;rw[decide_eq_false (by omega),jp]
theorem b9s (h:Can (r::l)) (h':Can (s::m)) (q:∀ t,val (r::l) t=val (s::m) t):¬ r.b<s.b:=λc=>by
 have d:=q r.b;rw[a0A,b05 (h.1 r (.head _)),if_pos rfl,a5w]at d
 ·grind
 ·intro x a;refine b0d ?_;rcases eI.mp a with rfl | a
  ·omega
  ·have:=(((eT.mp h'.2).1 x a).lt).b (h'.1 s (.head _))
   omega
theorem b6G (h:Can (r::l)) (hb:r.b=s.b) (hw:r.w=s.w) (q:∀ t,val (r::l) t=val (s::m) t) (he:r.e=some e):bef e s.e=false:=by
 cases hc:bef e s.e with
 | false=>rfl
 | true=>
  exfalso;have g:bef r.b r.e=true:=h.1 r (.head _)
  rw[he]at g;simp only[bef,decide_eq_true_eq]at g;have c:=q e;have i:s.has e=true:=by unfold Rw.has;rw[hc,decide_eq_true (show s.b<=e by omega)];rfl
  have k:r.has e=false:=by unfold Rw.has;rw[he];simp[bef]
  rw[a0A,a0A,i,k,if_pos rfl,if_neg (by simp)]at c;obtain⟨x,n,a,d⟩:=b4m c;obtain⟨u,f,p,j⟩:=(eT.mp h.2).1 x n;rw[he]at f;cases f;have o:x.b<=e:=by unfold Rw.has at a;simp at a;exact a.1
  exact j (by omega) (by simp_all)
theorem b2Q:∀ {l m:List Rw},Can l->Can m->(∀ t,val l t=val m t)->l=m
 | [],[],_,_,_=>rfl
 | [],s::m,_,h',q=>by
  have:=q s.b
  rw[a1M,a0A,b05 (h'.1 s (.head _)),if_pos rfl]at this;cases this
 | r::l,[],h,_,q=>by
  have:=q r.b
  rw[a1M,a0A,b05 (h.1 r (.head _)),if_pos rfl]at this;cases this
 | r::l,s::m,h,h',q=>by
  have a:r.b=s.b:=by
   have f:=b9s h h' q;have g:=b9s h' h λt=>(q t).symm;omega
  have c:r.w=s.w:=by
   have f:=q r.b;have g:s.has r.b=true:=by rw[a];exact b05 (h'.1 s (.head _))
   rw[a0A,a0A,b05 (h.1 r (.head _)),g,if_pos rfl,if_pos rfl]at f;exact ff.inj f
  have i:r.e=s.e:=by
   cases e1:r.e with
   | none=>
    cases e2:s.e with
    | none=>rfl
    | some e=>
     have:=b6G h' a.symm c.symm (λt=>(q t).symm) e2
     rw[e1]at this;cases this
   | some e=>
    have:=b6G h a c q e1
    cases e2:s.e with
    | none=>rw[e2]at this;cases this
    | some e'=>
     have k:=b6G h' a.symm c.symm (λt=>(q t).symm) e2;rw[e1]at k;rw[e2]at this;simp only[bef,decide_eq_false_iff_not]at this k
     congr 1
     omega
  have j:r=s:=by
   obtain⟨_,_,_⟩:=r;simp only at a c i;rw[a,c,i]
  subst j
  congr 1
  refine b2Q h.tail h'.tail λt=>?_;cases ht:r.has t with
  | true=>
   rw[a5w λx d=>((eT.mp h.2).1 x d).lt.has ht,a5w λx d=>((eT.mp h'.2).1 x d).lt.has ht]
  | false=>
   have:=q t
   rw[a0A,a0A,ht,if_neg (by simp),if_neg (by simp)]at this;exact this
noncomputable def jn (told:List Rw) (p:Rw):List Rw:=match told.getLast? with
 | some l=>if l.e=some p.b/\l.w=p.w then told.dropLast++[⟨l.b,p.e,p.w⟩] else told++[p]
 | none=>told++[p]
noncomputable def join (ps:List Rw):List Rw:=ps.foldl jn []
theorem a4n {α:Type}{l:List α}{x:α}(h:l.getLast?=some x):l=l.dropLast++[x]:=by
 obtain⟨a,rfl⟩:=List.getLast?_eq_some_iff.mp h;simp
theorem c1a (h:Can told) (g:p.good) (hlt:∀ r∈told,Lt r p):Can (jn told p)/\(∀ t,val (jn told p) t=(val told t).or (val [p] t))/\(∀ x,(∀ r∈told,Lt r x)->Lt p x->∀ r∈jn told p,Lt r x)/\(jn told p).length<=told.length+1/\∀ r∈jn told p,r.w=p.w\/∃ r'∈told,r.w=r'.w:=by
 unfold jn;cases hl:told.getLast? with
 | none=>
  have:told=[]:=jq.mp hl
  subst this;exact⟨⟨λr a=>by simp at a;rw[a];exact g,by simp⟩,λt=>by simp[a1M],λx _ f r a=>by simp at a;rw[a];exact f,by simp,λr a=>by simp at a;rw[a];exact .inl rfl⟩
 | some l=>
  have d:=a4n hl;generalize told.dropLast=init at d;subst d;have i:l∈init++[l]:=by simp
  have k:=eS.mp h.2;dsimp only
  split
  ·next hc=>
   obtain⟨n,o⟩:=hc;have D:l.b<p.b:=by
    have:bef l.b l.e=true:=h.1 l i
    rw[n]at this;simpa[bef]using this
   have v:(⟨l.b,p.e,p.w⟩:Rw).good:=by
    show bef l.b p.e=true
    have:bef p.b p.e=true:=g
    cases hpe:p.e with
    | none=>rfl
    | some e=>
     rw[hpe]at this;simp only[bef,decide_eq_true_eq]at this ⊢;omega
   refine⟨⟨λr a=>?_,?_⟩,λt=>?_,λx m f r a=>?_,by simp,λr a=>?_⟩
   ·rcases et.mp a with a | a
    ·exact h.1 r (by simp[a])
    ·rw[eD.mp a];exact v
   ·refine eS.mpr ⟨k.1,by simp,λr a s d=>?_⟩;rw[eD.mp d];obtain⟨e,c,j,A⟩:=k.2.2 r a l (by simp);exact⟨e,c,j,λz=>by rw[<- o];exact A z⟩
   ·rw[a1d,a1d];cases val init t with
    | some w=>rfl
    | none=>
     have y:(⟨l.b,p.e,p.w⟩:Rw).has t=(l.has t||p.has t):=by
      unfold Rw.has;rw[n]
      have:bef p.b p.e=true:=g
      cases hpe:p.e with
      | none=>
       simp only[bef,ig]
       by_cases c1:l.b<=t<;>by_cases c2:t<p.b<;>by_cases c3:p.b<=t<;>simp[c1,c2,c3]<;>omega
      | some e=>
       rw[hpe]at this;simp only[bef,decide_eq_true_eq]at this ⊢
       by_cases c1:l.b<=t<;>by_cases c2:t<p.b<;>by_cases c3:p.b<=t<;>by_cases c4:t<e<;>simp[c1,c2,c3,c4]<;>omega
     simp only[a0A,a1M,y,o,Option.none_or];cases l.has t<;>cases p.has t<;>simp
   ·rcases et.mp a with a | a
    ·exact m r (by simp[a])
    ·rw[eD.mp a];obtain⟨e,c,j⟩:=f;exact⟨e,c,j⟩
   ·rcases et.mp a with a | a
    ·exact .inr ⟨r,by simp[a],rfl⟩
    ·rw[eD.mp a];exact .inl rfl
  ·next hc=>
   refine⟨⟨λr a=>?_,?_⟩,λt=>a1d,λx m f r a=>?_,by simp,λr a=>?_⟩
   ·rcases et.mp a with a | a
    ·exact h.1 r a
    ·rw[eD.mp a];exact g
   ·refine eS.mpr ⟨h.2,by simp,λr a s d=>?_⟩;rw[eD.mp d];obtain⟨e,c,j⟩:=hlt r a;refine⟨e,c,j,λz u=>?_⟩;rcases et.mp a with hr' | hr'
    ·obtain⟨C,q,B,_⟩:=k.2.2 r hr' l (by simp);rw[c]at q;cases q
     have:=(hlt l i).b (h.1 l i)
     omega
    ·simp_all
   ·rcases et.mp a with a | a
    ·exact m r a
    ·rw[eD.mp a];exact f
   ·rcases et.mp a with a | a
    ·exact .inr ⟨r,a,rfl⟩
    ·rw[eD.mp a];exact .inl rfl
theorem b2R:∀ (ps told:List Rw),Can told->Rise ps->(∀ r∈told,∀ p∈ps,Lt r p)->Can (ps.foldl jn told)/\(∀ t,val (ps.foldl jn told) t=(val told t).or (val ps t))/\(ps.foldl jn told).length<=told.length+ps.length/\∀ r∈ps.foldl jn told,∃ r'∈told++ps,r.w=r'.w
 | [],told,h,_,_=>⟨h,λt=>by simp[a1M],by simp,λr f=>⟨r,by simpa using f,rfl⟩⟩
 | p::ps,told,h,f,hlt=>by
  have l:=eT.mp f.2;have a:=c1a h (f.1 p (.head _)) λr q=>hlt r q p (.head _);have b:=b2R ps _ a.1 f.tail λr q x j=>a.2.2.1 x (λg k=>hlt g k x (.tail _ j)) (l.1 x j) r q;refine⟨b.1,λt=>?_,?_,λr i=>?_⟩
  ·show val (ps.foldl jn _) t=_
   rw[b.2.1 t,a.2.1 t,show p::ps=[p]++ps from rfl,a1d,Option.or_assoc]
  ·grind
  ·obtain⟨g,c,d⟩:=b.2.2.2 r i;rcases et.mp c with c | c
   ·rcases a.2.2.2.2 g c with e | ⟨r2,e1,e2⟩
    ·exact⟨p,by simp,d.trans e⟩
    ·grind
   ·exact⟨g,by simp[c],d⟩
theorem b2S (h:Rise ps):Can (join ps)/\(∀ t,val (join ps) t=val ps t)/\(join ps).length<=ps.length/\∀ r∈join ps,∃ r'∈ps,r.w=r'.w:=by
 have:=b2R ps [] .nil h λr a=>by simp at a
 unfold join;exact⟨this.1,λt=>by rw[this.2.1 t];rfl,by simpa using this.2.2.1,by simpa using this.2.2.2⟩
noncomputable def emin:Option Int->Option Int->Option Int
 | none,o=>o
 | some e,none=>some e
 | some e,some o=>some (if o<e then o else e)
noncomputable def a3v (m:Option Int) (r:Rw):Option Rw:=if bef r.b m=true then some ⟨r.b,emin r.e m,r.w⟩ else none
noncomputable def ahead (m:Option Int) (l:List Rw):List Rw:=l.filterMap (a3v m)
noncomputable def a7C (m:Int) (r:Rw):Option Rw:=if bef m r.e=true then some ⟨if m > r.b then m else r.b,r.e,r.w⟩ else none
noncomputable def fromOn (m:Int) (l:List Rw):List Rw:=l.filterMap (a7C m)
theorem b2T (h1:∀ r r',f r=some r'->r'.has t=(r.has t&&c)/\r'.w=r.w) (h2:∀ r,f r=none->(r.has t&&c)=false):∀ l:List Rw,val (l.filterMap f) t=if c=true then val l t else none
 | []=>by simp[a1M]
 | r::l=>by
  have a:=b2T h1 h2 l;rw[fD];cases hf:f r with
  | none=>
   have:=h2 r hf
   rw[a,a0A];cases c with
   | true=>rw[ig]at this;rw[this];rfl
   | false=>rfl
  | some r'=>
   obtain⟨d,b⟩:=h1 r r' hf;rw[a0A,a,d,b,a0A];cases c<;>cases r.has t<;>rfl
theorem b0e:bef t (emin x y)=(bef t x&&bef t y):=by
 cases x with
 | none=>cases y<;>simp[bef,emin]
 | some a=>
  cases y with
  | none=>simp[bef,emin]
  | some b=>
   simp only[bef,emin];rw[<- Bool.decide_and];apply a02;rw[eq_iff_iff]
   split<;>omega
theorem a8D (m:Option Int) (l:List Rw) (t:Int):val (ahead m l) t=if bef t m=true then val l t else none:=by
 refine b2T (λr a h=>?_) (λr h=>?_) l
 ·unfold a3v at h
  split at h
  ·cases h;refine⟨?_,rfl⟩;unfold Rw.has;simp only[b0e,Bool.and_assoc]
  ·cases h
 ·unfold a3v at h
  split at h
  ·cases h
  ·next hc=>
   unfold Rw.has;cases m with
   | none=>exact absurd rfl hc
   | some m=>
    simp only[bef,decide_eq_true_eq]at hc ⊢
    by_cases c1:r.b<=t
    ·rw[decide_eq_false (show ¬ t<m by omega),gC]
    ·rw[decide_eq_false c1];rfl
theorem b4n (m:Int) (l:List Rw) (t:Int):val (fromOn m l) t=if m<=t then val l t else none:=by
 have:(if m<=t then val l t else none)=if decide (m<=t)=true then val l t else none:=by simp
 rw[this];refine b2T (λr a h=>?_) (λr h=>?_) l
 ·unfold a7C at h
  split at h
  ·cases h;unfold Rw.has
   have:decide ((if m > r.b then m else r.b)<=t)=(decide (r.b<=t)&&decide (m<=t)):=by grind
   rw[this];cases decide (r.b<=t)<;>cases decide (m<=t)<;>simp
  ·cases h
 ·unfold a7C at h
  split at h
  ·cases h
  ·next hc=>
   unfold Rw.has;cases he:r.e with
   | none=>rw[he]at hc;exact absurd rfl hc
   | some e=>
    rw[he]at hc;simp only[bef]at hc ⊢
    by_cases c1:m<=t
    ·grind
    ·simp_all
theorem a4o (h:x∈ahead m l):∃ r∈l,bef r.b m=true/\x=⟨r.b,emin r.e m,r.w⟩:=by
 obtain⟨r,d,a⟩:=gy.mp h;unfold a3v at a
 split at a
 ·next c=>cases a;exact⟨r,d,c,rfl⟩
 ·cases a
theorem a5x (h:x∈fromOn m l):∃ r∈l,bef m r.e=true/\x=⟨if m > r.b then m else r.b,r.e,r.w⟩:=by
 obtain⟨r,d,a⟩:=gy.mp h;unfold a7C at a
 split at a
 ·next c=>cases a;exact⟨r,d,c,rfl⟩
 ·cases a
theorem b6H (hf:∀ r s r' s',R r s->f r=some r'->f s=some s'->R r' s'):∀ {l:List Rw},l.Pairwise R->(l.filterMap f).Pairwise R
 | [],_=>by simp
 | r::l,h=>by
  have b:=eT.mp h;have c:=b6H hf b.2;rw[fD];cases e:f r with
  | none=>exact c
  | some r'=>
   refine eT.mpr ⟨λs i=>?_,c⟩;obtain⟨a,d,g⟩:=gy.mp i;exact hf r a r' s (b.1 a d) e g
theorem b6I {x:Int}{m:Option Int}:∃ e,emin (some x) m=some e/\e<=x:=by
 cases m with
 | none=>exact⟨x,rfl,fc _⟩
 | some o=>
  refine⟨_,rfl,?_⟩
  split<;>omega
theorem b06 (m:Option Int) (h:Rise l):Rise (ahead m l):=by
 refine⟨λx j=>?_,b6H (λr s t p d a c=>?_) h.2⟩
 ·obtain⟨r,k,i,rfl⟩:=a4o j
  show bef r.b _=true
  rw[b0e,i,ig];exact h.1 r k
 ·unfold a3v at a c
  split at a
  ·split at c
   ·cases a;cases c;obtain⟨e,g,o⟩:=d;obtain⟨f,n,q⟩:=@b6I e m;exact⟨f,by rw[<- n,<- g],by show f<=s.b;omega⟩
   ·grind
  ·grind
theorem b2U (m:Int) (h:Rise l):Rise (fromOn m l):=by
 refine⟨λx j=>?_,b6H (λr s n k d a c=>?_) h.2⟩
 ·obtain⟨r,f,g,rfl⟩:=a5x j
  split
  ·exact g
  ·exact h.1 r f
 ·unfold a7C at a c
  split at a
  ·split at c
   ·cases a;cases c;obtain⟨e,i,o⟩:=d;exact⟨e,i,by show e<=(if m > s.b then m else s.b);split<;>omega⟩
   ·grind
  ·grind
theorem a8E (m:Option Int) (l:List Rw):(ahead m l).length<=l.length:=gj _ _
theorem b4o (m:Int) (l:List Rw):(fromOn m l).length<=l.length:=gj _ _
theorem b0f (hbe:b<=e):∀ {l:List Rw},Rise l->(ahead (some b) l).length+(fromOn e l).length<=l.length+1
 | [],_=>by simp[ahead,fromOn]
 | r::l,h=>by
  have i:=b0f hbe h.tail;have d:=(eT.mp h.2).1;have c:(ahead (some b) (r::l)).length=(if bef r.b (some b)=true then 1 else 0)+(ahead (some b) l).length:=by
   unfold ahead;unfold a3v
   split
   ·grind
   ·grind
  have a:(fromOn e (r::l)).length=(if bef e r.e=true then 1 else 0)+(fromOn e l).length:=by
   unfold fromOn;unfold a7C
   split
   ·grind
   ·grind
  rw[c,a,eF]
  by_cases c1:bef r.b (some b)=true
  ·by_cases c2:bef e r.e=true
   ·have:ahead (some b) l=[]:=by
     unfold ahead;rw[List.filterMap_eq_nil_iff];intro s g;unfold a3v;obtain⟨j,f,k⟩:=d s g;rw[f]at c2;simp only[bef,decide_eq_true_eq]at c1 c2 ⊢;rw[if_neg (by omega)]
    have:=b4o e l
    simp_all;omega
   ·grind
  ·rw[if_neg c1];split<;>omega
noncomputable def a2V (l:List Rw) (b:Int) (e:Option Int) (w:Option (List Z)):List Rw:=
 ahead (some b) l++(match w with | some w=>[⟨b,e,w⟩] | none=>[])++(match e with | some e=>fromOn e l | none=>[])
theorem a8F {l:List Rw}{b:Int}{e:Option Int}{w:Option (List Z)}(h:Rise l) (g:bef b e=true):Rise (a2V l b e w)/\(∀ t,val (a2V l b e w) t=if (decide (b<=t)&&bef t e)=true then w else val l t)/\(a2V l b e w).length<=l.length+2:=by
 have hA:=b06 (some b) h;have eA:∀ r∈ahead (some b) l,∃ x,r.e=some x/\x<=b:=λr hr=>by
  obtain⟨r0,_,_,rfl⟩:=a4o hr
  show ∃ x,emin r0.e (some b)=some x/\x<=b
  cases r0.e with
  | none=>exact⟨b,rfl,fc _⟩
  | some x=>refine⟨_,rfl,?_⟩;split<;>omega
 have hM:Rise (match w with | some w=>[(⟨b,e,w⟩:Rw)] | none=>[]):=by
  cases w with
  | none=>exact .nil
  | some w=>exact⟨λr hr=>by rw[eD.mp hr];exact g,by simp⟩
 have mM:∀ r∈(match w with | some w=>[(⟨b,e,w⟩:Rw)] | none=>[]),r.b=b/\r.e=e:=λr hr=>by
  cases w with
  | none=>simp at hr
  | some w=>rw[eD.mp hr];exact⟨rfl,rfl⟩
 have vM:∀ t,val (match w with | some w=>[(⟨b,e,w⟩:Rw)] | none=>[]) t=if (decide (b<=t)&&bef t e)=true then w else none:=λt=>by
  cases w with
  | none=>simp[a1M]
  | some w=>rw[a0A,a1M];rfl
 have app:∀ {A B:List Rw},Rise A->Rise B->(∀ r∈A,∀ s∈B,Lt r s)->Rise (A++B):=λha hb hab=>⟨λr hr=>(et.mp hr).elim (ha.1 r) (hb.1 r),eS.mpr ⟨ha.2,hb.2,hab⟩⟩;unfold a2V;cases e with
 | none=>
  dsimp only;rw[eW];refine⟨app hA hM λr hr s hs=>?_,λt=>?_,?_⟩
  ·obtain⟨x,a1,a2⟩:=eA r hr;exact⟨x,a1,by rw[(mM s hs).1];exact a2⟩
  ·rw[a1d,a8D,vM];simp only[bef,ig,decide_eq_true_eq]
   by_cases c:b<=t
   ·rw[if_neg (by omega),if_pos c,if_pos c];rfl
   ·rw[if_pos (by omega),if_neg c,if_neg c];simp
  ·rw[eE]
   have:=a8E (some b) l
   cases w<;>simp<;>omega
 | some e=>
  have hbe:b<e:=by simpa[bef]using g
  have hF:=b2U e h;have bF:∀ s∈fromOn e l,e<=s.b:=λs hs=>by
   obtain⟨r0,_,_,rfl⟩:=a5x hs
   show e<=(if e > r0.b then e else r0.b)
   split<;>omega
  dsimp only;refine⟨app (app hA hM λr hr s hs=>?_) hF λr hr s hs=>?_,λt=>?_,?_⟩
  ·obtain⟨x,a1,a2⟩:=eA r hr;exact⟨x,a1,by rw[(mM s hs).1];exact a2⟩
  ·have hs':=bF s hs;rcases et.mp hr with hr | hr
   ·obtain⟨x,a1,a2⟩:=eA r hr;exact⟨x,a1,by omega⟩
   ·exact⟨e,(mM r hr).2,hs'⟩
  ·rw[a1d,a1d,a8D,vM,b4n];simp only[bef,fU,decide_eq_true_eq]
   by_cases c1:b<=t
   ·by_cases c2:t<e
    ·rw[if_neg (by omega),if_pos ⟨c1,c2⟩,if_neg (by omega),if_pos ⟨c1,c2⟩];simp
    ·rw[if_neg (by omega),if_neg (by omega),if_pos (by omega),if_neg (by omega)];rfl
   ·rw[if_pos (by omega),if_neg (by omega),if_neg (by omega),if_neg (by omega)];simp
  ·rw[eE,eE]
   have:=b0f (b:=b) (e:=e) (by omega) h
   cases w<;>simp<;>omega
noncomputable def pcs (f:Int->Option (List Z)):List Int->List Rw
 | []=>[]
 | b::bs=>(match f b with | some w=>[⟨b,bs.head?,w⟩] | none=>[])++pcs f bs
theorem a9t:∀ {bs:List Int}{r:Rw},r∈pcs f bs->r.b∈bs/\f r.b=some r.w
 | [],_,h=>by simp[pcs]at h
 | b::bs,r,h=>by
  rcases et.mp h with h | h
  ·cases e:f b with
   | none=>rw[e]at h;simp at h
   | some w=>rw[e]at h;rw[eD.mp h];exact⟨.head _,e⟩
  ·obtain⟨c,a⟩:=a9t h;exact⟨.tail _ c,a⟩
theorem a6X (f:Int->Option (List Z)):∀ bs:List Int,(pcs f bs).length<=bs.length
 | []=>by simp[pcs]
 | b::bs=>by
  have:=a6X f bs
  unfold pcs;cases f b<;>simp<;>omega
theorem b0g (f:Int->Option (List Z)):∀ {bs:List Int},bs.Pairwise (·<·)->Rise (pcs f bs)
 | [],_=>by simp[pcs];exact .nil
 | b::bs,h=>by
  have g:=eT.mp h;have i:=b0g f g.2;unfold pcs;cases e:f b with
  | none=>simpa using i
  | some w=>
   refine⟨λr a=>?_,eS.mpr ⟨by simp,i.2,λr a s j=>?_⟩⟩
   ·rcases et.mp a with a | a
    ·rw[eD.mp a]
     show bef b bs.head?=true
     cases bs with
     | nil=>rfl
     | cons c cs=>simpa[bef]using g.1 c (.head _)
    ·exact i.1 r a
   ·rw[eD.mp a];have d:=(a9t j).1;cases bs with
    | nil=>simp at d
    | cons c cs=>
     refine⟨c,rfl,?_⟩;rcases eI.mp d with q | q
     ·omega
     ·have:=(eT.mp g.2).1 _ q
      omega
theorem b2V:∀ {bs:List Int},bs.Pairwise (·<·)->(∀ t b,b∈bs->b<=t->(∀ c∈bs,c<=t->c<=b)->f t=f b)->∀ t,val (pcs f bs) t=if (bs.any λb=>decide (b<=t))=true then f t else none
 | [],_,_,t=>by simp[pcs,a1M]
 | b::bs,h,hf,t=>by
  have j:=eT.mp h;have p:=b2V j.2 (λt c a g o=>hf t c (.tail _ a) g λd k l=>by
   rcases eI.mp k with rfl | k
   ·have:=j.1 c a;omega
   ·exact o d k l) t
  unfold pcs;rw[a1d,p,gg]
  by_cases c1:b<=t
  ·rw[decide_eq_true c1,Bool.true_or,if_pos rfl];cases c2:bs.any λb=>decide (b<=t) with
   | true=>
    obtain⟨c,a,g⟩:=fN.mp c2;have g:c<=t:=by simpa using g
    rw[if_pos rfl]
    have:val (match f b with | some w=>[(⟨b,bs.head?,w⟩:Rw)] | none=>[]) t=none:=by
     cases f b with
     | none=>rfl
     | some w=>
      rw[a0A,a1M];cases bs with
      | nil=>simp at a
      | cons d ds=>
       have k:d<=t:=by
        rcases eI.mp a with rfl | a
        ·exact g
        ·have:=(eT.mp j.2).1 c a;omega
       have n:(⟨b,(d::ds).head?,w⟩:Rw).has t=false:=by
        unfold Rw.has;simp only[jr,bef];rw[decide_eq_false (show ¬ t<d by omega),gC]
       rw[n]
       rfl
    rw[this];rfl
   | false=>
    rw[if_neg (by decide)];have i:∀ c∈bs,¬ c<=t:=λc a g=>by grind
    have m:=hf t b (.head _) c1 λc a g=>by
     rcases eI.mp a with rfl | a
     ·omega
     ·exact absurd g (i c a)
    rw[m];cases e:f b with
    | none=>rfl
    | some w=>
     rw[a0A,a1M]
     have:(⟨b,bs.head?,w⟩:Rw).has t=true:=by
      unfold Rw.has;simp only;rw[decide_eq_true c1];cases bs with
      | nil=>rfl
      | cons d ds=>simp only[jr,bef,fg,decide_eq_true_eq];have:=i d (.head _);omega
     rw[this];rfl
  ·rw[decide_eq_false c1,iZ];have i:(bs.any λb=>decide (b<=t))=false:=iR.mpr λc a=>by grind
   rw[i,if_neg (by decide)]
   have:val (match f b with | some w=>[(⟨b,bs.head?,w⟩:Rw)] | none=>[]) t=none:=by
    cases f b with
    | none=>rfl
    | some w=>
     rw[a0A,a1M,b0d (by show t<b;omega)]
     rfl
   rw[this];rfl
noncomputable def a08 (puts:List Rw) (t:Int):Z:=match puts.reverse.find? (·.has t) with
 | some r=>r.w.headD .non
 | none=>.non
noncomputable def optW (z:Z):Option (List Z):=if z=.non then none else some [z]
theorem a53 (puts:List Rw) (p:Rw) (t:Int):a08 (puts++[p]) t=if p.has t=true then p.w.headD .non else a08 puts t:=by
 unfold a08;rw[fQ,ge,List.reverse_nil,gq,ib,fK];cases p.has t<;>rfl
noncomputable def a8G (l:List Rw) (b:Int) (e:Option Int) (w:Option (List Z)):List Rw:=join (a2V l b e w)
theorem b4p {l:List Rw}{b:Int}{e:Option Int}{w:Option (List Z)}(h:Rise l) (g:bef b e=true):Can (a8G l b e w)/\(∀ t,val (a8G l b e w) t=if (decide (b<=t)&&bef t e)=true then w else val l t)/\(a8G l b e w).length<=l.length+2:=by
 have a:=a8F (w:=w) h g;have j:=b2S a.1;exact⟨j.1,λt=>by rw[<- a.2.1 t];exact j.2.1 t,eM j.2.2.1 a.2.2⟩
noncomputable def okW (w:List Z):Prop:=w≠[]/\w.length<=4/\w.all (flat 4)=true
noncomputable def OkR (l:List Rw):Prop:=∀ r∈l,okW r.w
theorem a3a:∀ {n m:Nat}{z:Z},n<=m->flat n z=true->flat m z=true:=by
 intro n
 induction n with
 | zero=>intro m z _ h;cases z<;>first | (simp[flat]at h;done) | (cases m<;>simp_all[flat])
 | succ n ih=>
  intro m z b h;cases m with
  | zero=>omega
  | succ m=>
   cases z with
   | tup ws=>
    simp only[flat,fV]at h ⊢;exact λx a=>ih (by omega) (h x a)
   | _=>first | (simp[flat];done) | (simp[flat]at h;done) | (simp only[flat]at h ⊢;exact h)
theorem b4q {ws:List Z}(hm:n<=m) (h:ws.all (flat n)=true):ws.all (flat m)=true:=by
 rw[fV]at h ⊢;exact λx a=>a3a hm (h x a)
theorem b6J:flat n (oz e)=true:=by
 cases e<;>cases n<;>rfl
theorem b0h:flat n (.int i)=true:=by cases n<;>rfl
theorem b4r:flat n .non=true:=by cases n<;>rfl
noncomputable def wz:Option (List Z)->Z
 | none=>.non
 | some w=>w.headD .non
theorem c1b (h:R (.bl (!e.isSome)) G):zIs false (oz e) .non G R:=by
 cases e with
 | none=>exact b6h h
 | some e=>exact b6h h
theorem b9t (h:R (.bl (decide (e=some b))) G):zEq id (oz e) (.int b) G R:=by
 cases e with
 | none=>
  refine (⟨b4r,b0h,?_⟩)
  have:decide (Z.non=Z.int b)=decide (none=some b):=by simp
  exact h
 | some e=>
  refine b8y ?_
  have:decide (e=b)=decide (some e=some b):=a02 (by simp)
  rw[this];exact h
theorem c1c (h1:flat 8 (.tup xs)=true) (h2:flat 8 (.tup ys)=true) (h:R (.bl (f (decide (xs=ys)))) G):zEq f (.tup xs) (.tup ys) G R:=by
 refine (⟨h1,h2,?_⟩);rw[a02 (Z.tup.injEq _ _)];exact h
noncomputable def a1N:P3:=λws G R=>∃ x y,ws=[oz x,oz y]/\R (oz (emin x y)) G
theorem a4T (h:a1N ws G R):ws.length=2:=by obtain⟨_,_,rfl,_⟩:=h;rfl
theorem a5k (F:Fns K a) (T:Txt K mg a):FnOk P w K mg base CX0 1 a.f3 a.d3 ["end","other"] (lowP K a1N):=by
 refine fn3 F.n3 a5d (λd G R h=>(by exact a4T h)) (λe A b s H E d G R c h=>?_);have f:=a0P c;refine⟨_,(a0l (z_if (a0s o_is (a0c (pv 0)) a1Q (a0o _))
  (a0n (a0v (a0c (pv 1))))
  a00)
  (a0l (z_if (a0s o_is (a0c (pv 1)) a1Q (a0o _))
  (a0n (a0v (a0c (pv 0))))
  a00)
  (a0n (a0v (a0K (b_min rfl) rfl T.b_min rfl (a0b (a0c (pv 0)) (a0b (a0c (pv 1)) a0h a0a) a0a)))))),?_⟩
 obtain⟨x,y,rfl,q⟩:=h;cases x with
 | none=>
  symm;cases y<;>exact q
 | some x=>
  cases y with
  | none=>
   symm;exact q
  | some y=>
   symm;exact q
noncomputable def over (r:Rw) (m:Int):Bool:=match r.e with
 | none=>false
 | some e=>decide (e<=m)
noncomputable def a46:P3:=λws G R=>∃ r m,ws=[Rw.z r,.int m]/\R (.bl (over r m)) G
theorem a7D (h:a46 ws G R):ws.length=2:=by obtain⟨_,_,rfl,_⟩:=h;rfl
theorem a8H (F:Fns K a) (T:Txt K mg a):FnOk P w K mg base CX0 1 a.f8 a.d8 ["stretch","moment"] (lowP K a46):=by
 refine fn3 F.n8 a8u (λd G R h=>(by exact a7D h)) (λg A c s H E d G R f h=>?_);refine⟨_,(a0n (a0v (a72 (a39 a3J (q_ix x_ix (a0c (pv 0)) a0g (λ_ _=>rfl)) a1Q (a0o _)) (a71 (a39 o_le (q_ix x_ix (a0c (pv 0)) a0g (λ_ _=>rfl)) (a0c (pv 1)) (a0o _)))))),?_⟩;obtain⟨⟨b,e,w⟩,m,rfl,q⟩:=h;cases e with
 | none=>
  symm;exact a2e at1 (by symm;exact q)
 | some e=>
  symm;refine a2e at1 ?_;symm;refine a2e at1 ?_;symm;exact q
theorem a54 {α β:Type}{l:List α}{g:α->Z}{g':β->Z}(f:α->Option β) (hok:∀ ys,ok (put G1 D (.lst ys))) (hz:l.length<=1000)
  (turn:∀ x,x∈l->∀ (ys:List Z) (K1:K3) (K2:Hq->Prop),(∀ y,f x=some y->K1 (g' y) (put G1 D (.lst ys)))->(f x=none->K2 (put G1 D (.lst ys)))->∃ σ',a5H pt (g x) (cap3 cap σ)=some σ'/\tt σ' (put G1 D (.lst ys)) λb G4=>if b=true then te σ' G4 K1 else K2 G4)
  (fin:R (.ref D) (put G1 D (.lst ((l.filterMap f).map g')))):LCB (l.map g) ok cap pt tt te σ R D G1:=by
 refine b15 (λi c G=>c=((l.take i).filterMap f).map g'/\G=put G1 D (.lst c)) ⟨by simp,rfl⟩ ?_ ?_ ?_
 ·simp_all
 ·rintro i x c G d ⟨e,rfl⟩;rw[eK]at d;cases hx':l[i]? with
  | none=>rw[hx']at d;cases d
  | some a=>
   rw[hx']at d;cases d;refine turn a (eR hx') c _ _ (λy j=>⟨a0e,?_,?_,?_⟩) λh=>⟨?_,rfl⟩
   ·rw[e,er];exact gG (eM (gj _ _) (by rw[eL];omega)) (a0z (eB 1000))
   ·rw[a1c hx',j,e,eN];rfl
   ·rw[a26]
   ·rw[a1c hx',h,e];simp
 ·simp_all
noncomputable def One (l:List Rw):Prop:=∀ r∈l,∃ x,r.w=[x]
noncomputable def a2O:P3:=λws G R=>∃ p l m,ws=[.ref p,oz m]/\G p=some (.lst (l.map Rw.z))/\One l/\l.length<=1000/\∀ t,G t=none->R (.ref t) (put G t (.lst ((ahead m l).map Rw.z)))
theorem a6t (h:a2O ws G R):ws.length=2:=by obtain⟨_,_,_,rfl,_⟩:=h;rfl
theorem a7E (F:Fns K a) (T:Txt K mg a):FnOk P w K mg base CX0 2 a.f11 a.d11 ["line","moment"] (lowP K a2O):=by
 have d:FnOk P w K mg base CX0 1 a.f3 a.d3 ["end","other"] (lowP K a1N):=a5k F T;refine fn3 F.n11 a7x (λu G R h=>(by exact a6t h)) (λB A n s H E u G R f h=>?_);have I:=a0P f;refine⟨_,(a0n (a0v (q_lc (N₀:=["line","moment"]) (so:=a0f a18) (cap:=[none,none,none,some 1]) (pt:=(.tp [0,1,2])) rfl rfl rfl (by decide +kernel) rfl (a0C (a0c (pv 0))) (λ_ _ _ _=>(show QP _ _ (.tp [0,1,2]) from (a36 rfl (a0y (a0p (i:=0) b00 rfl (en rfl)) (a0y (a0p (i:=1) b00 rfl (en rfl)) (a0y (a0p (i:=2) b00 rfl (en rfl)) a2v)))))) (λ_ _ _ _=>(a1f (QW.qt (q_or (a0s o_is (a0c (pv 3)) a1Q (a0o _)) (a70 (a0s o_lt (a0c (pv 0)) (a0c (pv 3)) (a0o _))))))) (λ_ _ _ _=>(a1W (a0b (a0c (pv 0)) (a0b (a0q d (f.mono (by decide)) rfl T.m3 F.n3.kp (a5h F) (a0b (a0c (pv 1)) (a0b (a0c (pv 3)) a0h a0a) a0a) (he:=a0a)) (a0b (a0c (pv 2)) a0h a0a) a0M) a0a)))))),?_⟩;obtain⟨p,l,m,rfl,j,y,z,q⟩:=h;symm;refine a1r j ?_;intro D k;refine a54 (a3v m) (λv=>a0m j k) z ?_ (q D k);intro r f v J C g o;obtain⟨x,t⟩:=y r f;obtain⟨b,e,w⟩:=r;cases t;refine⟨_,rfl,?_⟩;cases m with
 | none=>
  symm;refine⟨e,none,rfl,?_⟩;symm;refine⟨lenK rfl,?_⟩;exact g _ rfl
 | some m=>
  symm;refine ifD (λc=>?_) λc=>?_
  ·symm;refine⟨e,some m,rfl,?_⟩;symm;refine⟨lenK rfl,?_⟩;refine g ⟨b,emin e (some m),[x]⟩ ?_;unfold a3v;rw[if_pos (by simpa[bef]using c)]
  ·refine o ?_;unfold a3v;rw[if_neg (by simpa[bef]using c)]
noncomputable def a3b:P3:=λws G R=>∃ p l m,ws=[.ref p,.int m]/\G p=some (.lst (l.map Rw.z))/\One l/\l.length<=1000/\∀ t,G t=none->R (.ref t) (put G t (.lst ((fromOn m l).map Rw.z)))
theorem a7F (h:a3b ws G R):ws.length=2:=by obtain⟨_,_,_,rfl,_⟩:=h;rfl
theorem a8I (F:Fns K a) (T:Txt K mg a):FnOk P w K mg base CX0 1 a.f13 a.d13 ["line","moment"] (lowP K a3b):=by
 refine fn3 F.n13 a8v (λws G R h=>(by exact a7F h)) (λcdv A outer s H E ws G R hr h=>?_);have hu:=a0P hr;refine⟨_,(a0n (a0v (q_lc (N₀:=["line","moment"]) (so:=a0f a2K) (N':=["begin","end","worth","moment"]) (cap:=[none,none,none,some 1]) (pt:=(.tp [0,1,2])) rfl rfl rfl (by decide +kernel) rfl (a0C (a0c (pv 0))) (λ_ _ _ _=>(show QP _ _ (.tp [0,1,2]) from (a36 rfl (a0y (a0p (i:=0) b00 rfl (en rfl)) (a0y (a0p (i:=1) b00 rfl (en rfl)) (a0y (a0p (i:=2) b00 rfl (en rfl)) a2v)))))) (λ_ _ _ _=>(a1f (QW.qt (q_or (a0s o_is (a0c (pv 1)) a1Q (a0o _)) (a70 (a0s o_lt (a0c (pv 3)) (a0c (pv 1)) (a0o _))))))) (λ_ _ _ _=>(a1W (a0b (a0K (b_max rfl) rfl T.b_max rfl (a0b (a0c (pv 0)) (a0b (a0c (pv 3)) a0h a0a) a0a) (he:=a0a) (hpl:=(a0j a0a a0i))) (a0b (a0c (pv 1)) (a0b (a0c (pv 2)) a0h a0a) a0a) a0M)))))),?_⟩;obtain⟨p,l,m,rfl,hp,h1,hz,q⟩:=h;symm;refine a1r hp ?_;intro D hD;refine a54 (a7C m) (λys=>a0m hp hD) hz ?_ (q D hD);intro r hr ys K1 K2 k1 k2;obtain⟨x,hx⟩:=h1 r hr;obtain⟨b,e,w⟩:=r;cases hx;refine⟨_,rfl,?_⟩;cases e with
 | none=>
  symm;refine⟨lenK rfl,?_⟩;exact k1 ⟨if m > b then m else b,none,[x]⟩ rfl
 | some e=>
  symm;refine ifD (λc=>?_) λc=>?_
  ·symm;refine⟨lenK rfl,?_⟩;refine k1 ⟨if m > b then m else b,some e,[x]⟩ ?_;unfold a7C;rw[if_pos (by simpa[bef]using c)]
  ·refine k2 ?_;unfold a7C;rw[if_neg (by simpa[bef]using c)]
theorem b2W (h:0<n):ixN n (-1)=some (n - 1):=by grind [ixN]
theorem a7G {α:Type}{l:List α}{x:α}(h:l.getLast?=some x):atI l (-1)=some x:=by
 have a:l≠[]:=λz=>by subst z;simp at h
 unfold atI;rw[b2W (gr.mpr a)]
 show l[l.length - 1]?=some x
 rw[<- List.getLast?_eq_getElem?];exact h
theorem b4s {α:Type}{l:List α}{x y:α}(h:l.getLast?=some x):l.set (l.length - 1) y=l.dropLast++[y]:=by
 have a:=a4n h;generalize l.dropLast=i at a;subst a;simp
theorem sIx2 {a b:Z}{w:List Z}:HT.sIx (a::b::w).length 0 (some 2)=2:=by
 have:=HT.sIx_nat (a::b::w).length 0 2
 rw[show ((2:Nat):Int)=2 from rfl]at this;rw[this];simp
theorem cut2 {a b:Z}{w:List Z}:cutZ (a::b::w) (some 2) none=w:=by
 unfold cutZ;rw[sIx2,HT.sIx_none];simp
theorem b2X {a b:Z}{w:List Z}:¬ (HT.sIx (a::b::w).length 0 (some 2)=0/\HT.sIx (a::b::w).length (a::b::w).length none=(a::b::w).length):=by
 rw[sIx2];intro h;exact absurd h.1 (by decide)
noncomputable def a0L:P3:=λws G R=>∃ p ps,ws=[.ref p]/\G p=some (.lst (ps.map Rw.z))/\OkR ps/\ps.length<=1000/\∀ t,G t=none->R (.ref t) (put G t (.lst ((join ps).map Rw.z)))
theorem a2P (h:a0L ws G R):ws.length=1:=by obtain⟨_,_,rfl,_⟩:=h;rfl
theorem b2Y {G:Hq}{R:K3}{a b:Z}{w:List Z}(h:R (.tup w) G):zSl (.tup (a::b::w)) (some 2) none G R:=b2g b2X (by rw[cut2];exact h)
theorem a9u {w:List Z}(h:okW w):flat 8 (.tup w)=true:=b4q (n:=4) (m:=7) (by decide) h.2.2
theorem b0i:∀ (ps told:List Rw),OkR told->OkR ps->OkR (ps.foldl jn told)
 | [],_,h,_=>h
 | p::ps,told,h,h'=>by
  refine b0i ps _ (λr a=>?_) λr a=>h' r (.tail _ a);unfold jn at a
  split at a
  ·next l hl=>
   split at a
   ·rcases et.mp a with a | a
    ·exact h r (iG _ a)
    ·rw[eD.mp a];exact h' p (.head _)
   ·rcases et.mp a with a | a
    ·exact h r a
    ·rw[eD.mp a];exact h' p (.head _)
  ·rcases et.mp a with a | a
   ·exact h r a
   ·rw[eD.mp a];exact h' p (.head _)
theorem b9u (told:List Rw) (p:Rw):(jn told p).length<=told.length+1:=by
 unfold jn
 split
 ·split<;>simp
 ·simp
theorem b0j:∀ (ps told:List Rw),(ps.foldl jn told).length<=told.length+ps.length
 | [],told=>by simp
 | p::ps,told=>by
  have b:=b0j ps (jn told p);have a:=b9u told p
  show (ps.foldl jn (jn told p)).length<=_
  rw[eF];omega
theorem b2Z {ps:List Rw}(h:ps[i]?=some p):(ps.take (i+1)).foldl jn []=jn ((ps.take i).foldl jn []) p:=by
 rw[fq,h];simp
theorem a1o (F:Fns K a) (T:Txt K mg a):FnOk P w K mg base CX0 1 a.f12 a.d12 ["pieces"] (lowP K a0L):=by
 refine fn3 F.n12 sc_p_with_alike_joined (λws G R h=>(by exact a2P h)) (λcdv A outer s H E ws G R hr h=>?_);have hu:=a0P hr;refine⟨_,(a0l (a0J (i:=1) sc_p_with_alike_joined.nd rfl (en rfl) (a21 a0h))
  (a0l (a4H (pt:=(.nm 2)) jQ.never rfl (a0C (a0c (pv 0))) (show QP _ _ (.nm 2) from (a0p (i:=2) sc_p_with_alike_joined.nd rfl (en rfl)))
  (a0n (z_if (QW.qt (a7h (b75 (a0c (pv 1)) (λ_=>rfl)) (a7h (a0s (o_eq hu) (q_ix x_ix (q_ix x_ix (a0c (pv 1)) (q_un a3I a0g) (λ_ _=>rfl)) a0g (λ_ _=>rfl)) (q_ix x_ix (a0c (pv 2)) a0g (λ_ _=>rfl)) (a0o _)) (a44 (a0s (o_eq hu) (a1F x_sl (q_ix x_ix (a0c (pv 1)) (q_un a3I a0g) (λ_ _=>rfl)) (a15 a0g) a1z) (a1F x_sl (a0c (pv 2)) (a15 a0g) a1z) (a0o _))))))
  (a0n (b4Y (q_op a1a (a1W (a0b (q_ix x_ix (q_ix x_ix (a0c (pv 1)) (q_un a3I a0g) (λ_ _=>rfl)) a0g (λ_ _=>rfl)) (a0b (q_ix x_ix (a0c (pv 2)) a0g (λ_ _=>rfl)) a0h a0k) a0k)) (a1F x_sl (a0c (pv 2)) (a15 a0g) a1z)) (a0c (pv 1)) (q_un a3I a0g) c0l))
  (a0n (a0X (q_bm PySem.F.plainAttrs_list PySem.F.slot_list_append PySem.F.type_list_append a16 (a0c (pv 1)) (a0b (a0c (pv 2)) a0h a0a)))))))
  (a0n (a0v (a0c (pv 1)))))),?_⟩
 obtain⟨p,ps,rfl,hp,hok,hz,q⟩:=h;symm;refine⟨lenK rfl,λt ht=>?_⟩;symm;refine a1r (a0m hp ht) ?_;refine a1X (λi σ G'=>∃ v,σ=[some (.ref p),some (.ref t),v]/\G'=put G t (.lst (((ps.take i).foldl jn []).map Rw.z))) ⟨_,rfl,by simp⟩ (by rintro i σ G' _ ⟨v,_,e⟩;exact by rw[e];exact a0m hp ht) ?_ ?_
 ·rintro i x σ G' hx ⟨v,rfl,rfl⟩;rw[eK]at hx;cases hx':ps[i]? with
  | none=>rw[hx']at hx;cases hx
  | some r=>
   rw[hx']at hx;cases hx;have hr:=hok r (eR hx');have hot:OkR ((ps.take i).foldl jn []):=b0i _ _ (λr hr=>by simp at hr) λr hr=>hok r (fI hr);have hlt:=b0j (ps.take i) [];rw[eL]at hlt;have hi:=(eJ.mp hx').1;rw[b2Z hx'];generalize (ps.take i).foldl jn []=told at hot hlt ⊢;simp only[js]at hlt;refine⟨_,rfl,?_⟩;have app:∀ G',G'=put G t (.lst (told.map Rw.z))->jn told r=told++[r]->a7k (.ref t) [r.z] G' (λ_ G1=>∃ v,([some (.ref p),some (.ref t),some r.z]:S3)=[some (.ref p),some (.ref t),v]/\G1=put G t (.lst ((jn told r).map Rw.z))):=by
    rintro _ rfl e;refine a1R a0e (by rw[er];exact a0z (by omega)) ⟨_,rfl,?_⟩;rw[a26,e,eN]
    rfl
   symm;refine b44 a0e ?_;cases hl:told.getLast? with
   | none=>
    have e0:told=[]:=jq.mp hl;subst e0;refine ifF ?_;symm;refine a4K a0e ?_;symm;exact app _ rfl (by unfold jn;rw[hl])
   | some k=>
    have hne:told≠[]:=λz=>by subst z;simp at hl
    have hlm:(told.map Rw.z).getLast?=some k.z:=by rw[jt,hl];rfl
    have he:(told.map Rw.z).isEmpty=false:=by cases told with | nil=>exact absurd rfl hne | cons _ _=>rfl
    have hk:=hot k (List.mem_of_getLast? hl);rw[he];refine ifT ?_;symm;refine a1q a0e (a7G hlm) ?_;symm;refine a2e at1 ?_;symm;refine a2e at0 ?_;refine b9t ?_;symm;refine ifD (λc1=>?_) λc1=>?_
    ·symm;refine a1q a0e (a7G hlm) ?_;symm;refine b2Y ?_;symm;refine b2Y ?_;refine c1c (a9u hk) (a9u hr) ?_;symm;refine ifD (λc2=>?_) λc2=>?_
     ·symm;refine a1q a0e (a7G hlm) ?_;symm;refine a2e at0 ?_;symm;refine a2e at1 ?_;symm;refine⟨lenK rfl,?_⟩;symm;refine b2Y ?_;refine b45 (by simp) (a3u (by have:=hr.2.1;simp;omega)) ?_;symm;refine c0F a0e (b2W (by rw[er];exact gr.mpr hne)) ?_;refine⟨_,rfl,?_⟩;rw[a26,b4s hlm]
      congr 1
      unfold jn;rw[hl];dsimp only;rw[if_pos ⟨c1,c2⟩,eN,List.map_dropLast]
      rfl
     ·symm;refine a4K a0e ?_;symm;exact app _ rfl (by unfold jn;rw[hl];dsimp only;rw[if_neg λz=>c2 z.2])
    ·refine ifF ?_;symm;refine a4K a0e ?_;symm;exact app _ rfl (by unfold jn;rw[hl];dsimp only;rw[if_neg λz=>c1 z.1])
 ·rintro σ G' ⟨v,rfl,rfl⟩;symm;rw[er,fS];exact q t ht
theorem b4t (h:over r m=true):r.has m=false:=by
 unfold over at h;unfold Rw.has;cases he:r.e with
 | none=>rw[he]at h;cases h
 | some e=>
  rw[he]at h;simp at h;simp only[bef];rw[decide_eq_false (show ¬ m<e by omega),gC]
theorem b20 (h:m<=m') (o:over r m=true):over r m'=true:=by
 unfold over at o ⊢;cases he:r.e with
 | none=>rw[he]at o;cases o
 | some e=>rw[he]at o;simp at o ⊢;omega
theorem b0k:∀ {l:List Rw}{m:Int}{k:Nat},(∀ (i:Nat) r,i<k->l[i]?=some r->over r m=true)->val l m=val (l.drop k) m
 | l,m,0,_=>rfl
 | [],m,k+1,_=>rfl
 | r::l,m,k+1,h=>by
  rw[a0A,b4t (h 0 r (by simp) rfl),if_neg (by simp),List.drop_succ_cons];exact b0k λi s a e=>h (i+1) s (by omega) (by grind)
theorem b4u (h:Rise (r::l)) (o:over r m=false):val (r::l) m=if r.b<=m then some r.w else none:=by
 rw[a0A];have d:bef m r.e=true:=by
  unfold over at o;cases he:r.e with
  | none=>rfl
  | some e=>rw[he]at o;simp at o;simp only[bef,decide_eq_true_eq];omega
 by_cases c:r.b<=m
 ·have:r.has m=true:=by unfold Rw.has;rw[d,decide_eq_true c];rfl
  rw[this,if_pos rfl,if_pos c]
 ·rw[b0d (by omega),if_neg (by simp),if_neg c];refine a5w λs a=>b0d ?_
  have:=((eT.mp h.2).1 s a).b (h.1 r (.head _))
  omega
theorem Rise.drop (h:Rise l) (k:Nat):Rise (l.drop k):=⟨λr a=>h.1 r (hZ a),h.2.sublist (i9 _ _)⟩
theorem drop_get {α:Type}{l:List α}{x:α}(h:l[k]?=some x):l.drop k=x::l.drop (k+1):=by
 obtain⟨b,a⟩:=eJ.mp h;rw[gJ b,a]
noncomputable def a3w:P3:=λws G R=>Ex4 λ(p q:Addr) (l:List Rw) (ms:List Int)=>ws=[.ref p,.ref q]/\G p=some (.lst (l.map Rw.z))/\G q=some (.lst (ms.map Z.int))/\Rise l/\OkR l/\l.length<=1000/\ms.Pairwise (·<=·)/\ms.length<=1000 /\
 ∀ t,G t=none->R (.ref t) (put G t (.lst (ms.map λm=>wz (val l m))))
theorem a55 (h:a3w ws G R):ws.length=2:=by obtain⟨_,_,_,_,rfl,_⟩:=h;rfl
theorem a56 {l:List Rw}{k:Nat}(h:l[k]?=some r):atI (l.map Rw.z) (k:Int)=some r.z:=a2w (by simp_all)
theorem take_snoc {α:Type}{l:List α}{x:α}(h:l[i]?=some x):l.take (i+1)=l.take i++[x]:=by rw[fq,h];rfl
theorem a6u (F:Fns K a) (T:Txt K mg a):FnOk P w K mg base CX0 2 a.f9 a.d9 ["line","moments"] (lowP K a3w):=by
 have G_p_is_over:=a8H (P:=P) (w:=w) (base:=base) F T;refine fn3 F.n9 sc_p_worths_in (λws G R h=>(by exact a55 h)) (λcdv A outer s H E ws G R hr h=>?_);have hu:=a0P hr;refine⟨_,(a0l (a0J (i:=2) sc_p_worths_in.nd rfl (en rfl) (a21 a0h))
  (a0l (a0J (i:=3) sc_p_worths_in.nd rfl (en rfl) a0g)
  (a0l (a4H (pt:=(.nm 4)) jQ.never rfl (a0C (a0c (pv 1))) (show QP _ _ (.nm 4) from (a0p (i:=4) sc_p_worths_in.nd rfl (en rfl)))
  (a73 (b56 jQ.never (QW.qt (a7h (a0s o_lt (a0c (pv 3)) (a0K b_len rfl T.b_len PySem.boot_len (a0b (a0c (pv 0)) a0h a0a) (he:=a0a) (hpl:=a0i)) (a0o _)) (a44 (a27 (a0q G_p_is_over (hr.mono (by decide)) rfl T.m8 F.n8.kp (a8x F) (a0b (q_ix x_ix (a0c (pv 0)) (a0c (pv 3)) (λ_ _=>rfl)) (a0b (a0c (pv 4)) a0h a0a) a0k) (he:=a0k) (hpl:=(a0j a0a a0i)))))))
  (a0n (b8d (i:=3) sc_p_worths_in.nd rfl (en rfl) a0g b40)))
  (a0n (z_if (QW.qt (a7h (a0s o_lt (a0c (pv 3)) (a0K b_len rfl T.b_len PySem.boot_len (a0b (a0c (pv 0)) a0h a0a) (he:=a0a) (hpl:=a0i)) (a0o _)) (a44 (a0s o_le (q_ix x_ix (q_ix x_ix (a0c (pv 0)) (a0c (pv 3)) (λ_ _=>rfl)) a0g (λ_ _=>rfl)) (a0c (pv 4)) (a0o _)))))
  (a0n (a0X (q_bm PySem.F.plainAttrs_list PySem.F.slot_list_append PySem.F.type_list_append a16 (a0c (pv 2)) (a0b (q_ix x_ix (q_ix x_ix (a0c (pv 0)) (a0c (pv 3)) (λ_ _=>rfl)) a0g (λ_ _=>rfl)) a0h a0k))))
  (a0n (a0X (q_bm PySem.F.plainAttrs_list PySem.F.slot_list_append PySem.F.type_list_append a16 (a0c (pv 2)) (a0b a1Q a0h a0d))))))))
  (a0n (a0v (a0c (pv 2))))))),?_⟩
 obtain⟨p,q,l,ms,rfl,hp,hq,hr,hok,hz,hm,hmz,fin⟩:=h;symm;refine⟨lenK rfl,λt ht=>?_⟩;symm;refine a1r (a0m hq ht) ?_;refine a1X (λi σ G'=>∃ (k:Nat) (v:Option Z),k<=l.length/\(∀ (j:Nat) r m,j<k->l[j]?=some r->ms[i]?=some m->over r m=true)/\σ=[some (.ref p),some (.ref q),some (.ref t),some (.int k),v]/\G'=put G t (.lst ((ms.take i).map λm=>wz (val l m)))) ⟨0,_,e8 _,λj r m hj=>by omega,rfl,by simp⟩ (by rintro i σ G' _ ⟨_,_,_,_,_,e⟩;exact by rw[e];exact a0m hq ht) ?_ ?_
 ·rintro i x σ G' hx ⟨k,v,hk,hov,rfl,rfl⟩;rw[eK]at hx;cases hx':ms[i]? with
  | none=>rw[hx']at hx;cases hx
  | some m=>
   rw[hx']at hx;cases hx;refine⟨_,rfl,?_⟩;symm;have hp':put G t (.lst ((ms.take i).map λm=>wz (val l m))) p=some (.lst (l.map Rw.z)):=a0m hp ht;generalize hG:put G t (.lst ((ms.take i).map λm=>wz (val l m)))=G1 at hp' ⊢;refine a77 (fun σ' G'=>∃ k':Nat,k'<=l.length/\(∀ (j:Nat) r,j<k'->l[j]?=some r->over r m=true)/\(∀ r,l[k']?=some r->over r m=false)/\σ'=[some (.ref p),some (.ref q),some (.ref t),some (.int k'),some (.int m)]/\G1=G') ?_ ?_
   ·refine⟨λn σ' G'=>∃ k':Nat,n+k'=l.length/\(∀ (j:Nat) r,j<k'->l[j]?=some r->over r m=true)/\σ'=[some (.ref p),some (.ref q),some (.ref t),some (.int k'),some (.int m)]/\G1=G',⟨l.length - k,k,by omega,λj r hj e=>hov j r m hj e hx',rfl,rfl⟩,?_⟩;rintro n σ' G' ⟨k',hn,ho,rfl,rfl⟩;symm;refine a5M hp' ?_;symm;refine ifD (λc=>?_) λc=>?_
    ·rw[er]at c;have hlt:k'<l.length:=by omega
     have hg:=eQ hlt;symm;refine a1q hp' (a56 hg) ?_;symm;refine⟨_,_,rfl,?_⟩;symm;refine ifB (λc2=>?_) λc2=>?_
     ·symm;refine⟨n - 1,by omega,k'+1,by omega,λj r hj e=>?_,rfl,rfl⟩
      by_cases hjk:j<k'
      ·exact ho j r hjk e
      ·have:j=k':=by omega
       subst this;rw[hg]at e;cases e;exact c2
     ·exact⟨k',by omega,ho,λr e=>by rw[hg]at e;cases e;exact c2,rfl,rfl⟩
    ·rw[er]at c;refine ifF ?_;exact⟨k',by omega,ho,λr e=>by have:=(eJ.mp e).1;omega,rfl,rfl⟩
   ·rintro σ' G' ⟨k',hk',ho,hn,rfl,rfl⟩;have hv:val l m=val (l.drop k') m:=b0k ho;have nxt:∀ w:Z,w=wz (val l m)->a7k (.ref t) [w] G1 (λ_ G2=>∃ (k:Nat) (v:Option Z),k<=l.length/\(∀ (j:Nat) r m,j<k->l[j]?=some r->ms[i+1]?=some m->over r m=true)/\([some (.ref p),some (.ref q),some (.ref t),some (.int k'),some (.int m)]:S3)=[some (.ref p),some (.ref q),some (.ref t),some (.int k),v]/\G2=put G t (.lst ((ms.take (i+1)).map λm=>wz (val l m)))):=by
     rintro w rfl;subst hG;have hi:=(eJ.mp hx').1;refine a1R a0e (by rw[er,eL];exact a0z (by omega)) ⟨k',_,hk',λj r m' hj e e'=>b20 ?_ (ho j r hj e),rfl,?_⟩
     ·obtain⟨h1,e1⟩:=eJ.mp hx';obtain⟨h2,e2⟩:=eJ.mp e';rw[<- e1,<- e2];exact gm.mp hm _ _ h1 h2 (by omega)
     ·rw[a26,take_snoc hx',eN];rfl
    have ht1:∃ ws,G1 t=some (.lst ws):=by rw[<- hG];exact⟨_,a0e⟩
    obtain⟨wt,ht1⟩:=ht1;symm;refine a5M hp' ?_;symm;refine ifD (λc=>?_) λc=>?_
    ·rw[er]at c;have hlt:k'<l.length:=by omega
     have hg:=eQ hlt;have hv2:=b4u (by rw[<- drop_get hg];exact hr.drop k') (hn _ hg);rw[<- drop_get hg,<- hv]at hv2;symm;refine a1q hp' (a56 hg) ?_;symm;refine a2e at0 ?_;symm;refine ifD (λc2=>?_) λc2=>?_
     ·symm;refine a4K ht1 ?_;symm;refine a1q hp' (a56 hg) ?_;symm;have hw:=hok _ (fL hlt);obtain⟨x,xs,ex⟩:∃ x xs,(l[k']).w=x::xs:=by
       cases e:(l[k']).w with
       | nil=>exact absurd e hw.1
       | cons x xs=>exact⟨x,xs,rfl⟩
      refine a2e (w:=x) (by show atI (_::_::(l[k']).w) 2=some x;rw[ex];exact at2) ?_;symm;refine nxt x ?_;rw[hv2,if_pos c2,ex];rfl
     ·symm;refine a4K ht1 ?_;symm;refine nxt .non ?_;rw[hv2,if_neg c2];rfl
    ·rw[er]at c;refine ifF ?_;symm;refine a4K ht1 ?_;symm;refine nxt .non ?_;rw[hv,gK (by omega)];rfl
 ·rintro σ G' ⟨k,v,_,_,rfl,rfl⟩;symm;rw[er,fS];exact fin t ht
noncomputable def a4p:P3:=λws G R=>∃ p l m,ws=[.ref p,.int m]/\G p=some (.lst (l.map Rw.z))/\Rise l/\OkR l/\l.length<=1000/\∀ G',Sm G G'->R (wz (val l m)) G'
theorem a6v (h:a4p ws G R):ws.length=2:=by obtain⟨_,_,_,rfl,_⟩:=h;rfl
theorem a7H (F:Fns K a) (T:Txt K mg a):FnOk P w K mg base CX0 3 a.f10 a.d10 ["line","moment"] (lowP K a4p):=by
 have b:FnOk P w K mg base CX0 2 a.f9 a.d9 ["line","moments"] _:=a6u F T;refine fn3 F.n10 a7w (λi G R h=>(by exact a6v h)) (λn A f s H E i G R c h=>?_);refine⟨_,(a0n (a0v (q_ix x_ix (a0q b (c.mono (by simp)) rfl T.m9 F.n9.kp (a6p F) (a0b (a0c (pv 0)) (a0b (a21 (a0b (a0c (pv 1)) a0h a0a)) a0h a5G) a0a)) a0g (λ_ _=>rfl)))),?_⟩;obtain⟨p,l,m,rfl,g,c,d,j,q⟩:=h;symm;refine⟨lenK rfl,λa e=>?_⟩;symm;refine⟨p,a,l,[m],rfl,a0m g e,a0e,c,d,j,by simp,by simp,λt k=>?_⟩;symm;exact a1q a0e at0 (q _ ((Sm.new e).trans (Sm.new k)))
theorem b21 (h:OkR l):OkR (ahead m l):=λx a=>by
 obtain⟨r,b,_,rfl⟩:=a4o a;exact h r b
theorem b4v (h:OkR l):OkR (fromOn m l):=λx a=>by
 obtain⟨r,b,_,rfl⟩:=a5x a;exact h r b
noncomputable def okV (z:Z):Prop:=flat 4 z=true
theorem b9v (h:okV z):okW [z]:=⟨by simp,by simp,by rw[fP,h];rfl⟩
theorem b07 (h:OkR l) (hz:okV z):OkR (a2V l b e (optW z)):=by
 intro r a;rcases et.mp a with a | a
 ·rcases et.mp a with a | a
  ·exact b21 h r a
  ·unfold optW at a
   split at a
   ·next w e=>
          split at e
          ·cases e
          ·cases e;rw[eD.mp a];exact b9v hz
   ·simp_all
 ·cases e with
  | none=>simp at a
  | some e=>exact b4v h r a
noncomputable def a3W:P3:=λws G R=>Ex5 λp l b e z=>ws=[.ref p,.int b,oz e,z]/\G p=some (.lst (l.map Rw.z))/\Rise l/\OkR l/\One l/\l.length<=900/\bef b e=true/\okV z /\
 ∀ t G',G t=none->Sm G G'->G' t=some (.lst ((a8G l b e (optW z)).map Rw.z))->R (.ref t) G'
theorem a8J (h:a3W ws G R):ws.length=4:=by obtain⟨_,_,_,_,_,rfl,_⟩:=h;rfl
theorem a9v (F:Fns K a) (T:Txt K mg a):FnOk P w K mg base CX0 3 a.f14 a.d14 ["line","begin","end","worth"] (lowP K a3W):=by
 have j:FnOk P w K mg base CX0 2 a.f11 a.d11 ["line","moment"] (lowP K a2O):=a7E F T;have d:FnOk P w K mg base CX0 1 a.f12 a.d12 ["pieces"] (lowP K a0L):=a1o F T;have k:FnOk P w K mg base CX0 1 a.f13 a.d13 ["line","moment"] (lowP K a3b):=a8I F T;refine fn3 F.n14 sc_p_put_on (λws G R h=>(by exact a8J h)) (λcdv A outer s H E ws G R r h=>?_);have m:=a0P r;refine⟨_,(a0l (a0J (i:=4) sc_p_put_on.nd rfl (en rfl) (a0q j (r.mono (by decide)) rfl T.m11 F.n11.kp (a7z F) (a0b (a0c (pv 0)) (a0b (a0c (pv 1)) a0h a0a) a0a) (he:=a0a) (hpl:=(a0j a0a a0i))))
  (a73 (z_if (a0s a3J (a0c (pv 3)) a1Q (a0o _))
  (a0n (a0X (q_bm PySem.F.plainAttrs_list PySem.F.slot_list_append PySem.F.type_list_append a16 (a0c (pv 4)) (a0b (a1W (a0b (a0c (pv 1)) (a0b (a0c (pv 2)) (a0b (a0c (pv 3)) a0h a0a) a0a) a0a)) a0h a5p))))
  a00)
  (a73 (z_if (a0s a3J (a0c (pv 2)) a1Q (a0o _))
  (a0n (a0X (q_bm PySem.F.plainAttrs_list PySem.F.slot_list_extend PySem.F.type_list_extend b30 (a0c (pv 4)) (a0b (a0q k (r.mono (by decide)) rfl T.m13 F.n13.kp (a8y F) (a0b (a0c (pv 0)) (a0b (a0c (pv 2)) a0h a0a) a0a) (he:=a0a) (hpl:=(a0j a0a a0i))) a0h a0M))))
  a00)
  (a0n (a0v (a0q d (r.mono (by decide)) rfl T.m12 F.n12.kp (a1n F) (a0b (a0c (pv 4)) a0h a0a) (he:=a0a) (hpl:=a0i))))))),?_⟩
 obtain⟨p,l,b,e,z,rfl,hp,r,hok,h1,hz,g,hv,q⟩:=h;have hpc:=(a8F (w:=optW z) r g).2.2;symm;refine⟨p,l,some b,rfl,hp,h1,by omega,λt x=>?_⟩;symm;have la:=a8E (some b) l;refine a77 (fun σ' f=>σ'=[some (.ref p),some (.int b),some (oz e),some z,some (.ref t)]/\f=put G t (.lst ((ahead (some b) l++(match optW z with | some w=>[(⟨b,e,w⟩:Rw)] | none=>[])).map Rw.z))) ?_ ?_
 ·symm;refine ifN (λc=>?_) λc=>?_
  ·symm;refine a4K a0e ?_;symm;refine⟨lenK rfl,?_⟩;symm;refine a1R a0e (by rw[er];exact a0z (by omega)) ⟨rfl,?_⟩;rw[a26,optW,if_neg c,eN];rfl
  ·symm;refine⟨rfl,?_⟩;rw[optW,if_pos c];simp
 ·rintro σ' f ⟨rfl,rfl⟩;have hp1:∀ o,put G t o p=some (.lst (l.map Rw.z)):=λo=>a0m hp x;have fin:∀ f ,Sm G f->f t=some (.lst ((a2V l b e (optW z)).map Rw.z))->a0L [.ref t] f R:=λf s v=>by
   refine⟨t,_,rfl,v,b07 hok hv,by omega,λu m=>?_⟩;exact q u _ (s.free m) (s.trans (Sm.new m)) a0e
  refine a77 (fun σ' f=>σ'=[some (.ref p),some (.int b),some (oz e),some z,some (.ref t)]/\Sm G f/\f t=some (.lst ((a2V l b e (optW z)).map Rw.z))) ?_ ?_
  ·cases e with
   | none=>
    symm;refine⟨rfl,Sm.new x,?_⟩;unfold a2V;rw[eW];exact a0e
   | some e=>
    symm;refine a4K a0e ?_;symm;refine⟨p,l,e,rfl,hp1 _,h1,by omega,λu m=>?_⟩;have y:t≠u:=λz=>by subst z;rw[a0e]at m;cases m
    have hpl:(a2V l b (some e) (optW z)).length=(ahead (some b) l++(match optW z with | some w=>[(⟨b,some e,w⟩:Rw)] | none=>[])).length+(fromOn e l).length:=by
     unfold a2V;exact eE
    generalize hA:(ahead (some b) l++(match optW z with | some w=>[(⟨b,some e,w⟩:Rw)] | none=>[]))=A at m hpl ⊢
    have e1:put (put G t (.lst (A.map Rw.z))) u (.lst ((fromOn e l).map Rw.z)) t=some (.lst (A.map Rw.z)):=by rw[a0H y];exact a0e
    symm;refine b32 e1 a0e (by rw[er,er];exact a3u (by omega)) ?_;refine⟨rfl,?_,?_⟩
    ·exact ((Sm.new x).trans (Sm.new m)).put x
    ·rw[a0e,<- eN,<- hA]
     rfl
  ·rintro σ' f ⟨rfl,s,v⟩;symm;exact fin f s v
noncomputable def okS (s:Str):Prop:=s.length<=1000/\PyData.strOk s=true
noncomputable def Th (G:Hq):Z->Prop
 | .non=>True
 | .bl _=>True
 | .int _=>True
 | .str s=>okS s
 | .tup _=>True
 | .ref p=>(∃ ws,G p=some (.lst ws))\/∃ kvs,G p=some (.dK kvs)
 | _=>False
theorem Th.sm (s:Sm G G') (h:Th G x):Th G' x:=by
 cases x with
 | ref p=>
  rcases h with ⟨ws,e⟩ | ⟨ws,e⟩
  ·exact .inl ⟨ws,s _ _ e⟩
  ·exact .inr ⟨ws,s _ _ e⟩
 | _=>exact h
structure Kd (G:Hq) (x:Z) (n:String):Prop where
 ty:tyN G x=some n
 is:n="NoneType"\/n="bool"\/n="int"\/n="str"\/n="tuple"\/n="list"\/n="dict"
theorem Th.kd (h:Th G x):∃ n,Kd G x n:=by
 cases x with
 | non=>exact⟨_,rfl,.inl rfl⟩
 | bl _=>exact⟨_,rfl,.inr (.inl rfl)⟩
 | int _=>exact⟨_,rfl,.inr (.inr (.inl rfl))⟩
 | str _=>exact⟨_,rfl,.inr (.inr (.inr (.inl rfl)))⟩
 | tup _=>exact⟨_,rfl,.inr (.inr (.inr (.inr (.inl rfl))))⟩
 | ref p=>
  rcases h with ⟨ws,e⟩ | ⟨ws,e⟩
  ·exact⟨"list",by simp[tyN,e],.inr (.inr (.inr (.inr (.inr (.inl rfl)))))⟩
  ·exact⟨"dict",by simp[tyN,e],.inr (.inr (.inr (.inr (.inr (.inr rfl)))))⟩
 | _=>exact eC h
theorem b6K (h:n="NoneType"\/n="bool"\/n="int"\/n="str"\/n="tuple"\/n="list"\/n="dict"):kit0 n "str"=some (decide (n="str")):=by
 rcases h with rfl | rfl | rfl | rfl | rfl | rfl | rfl<;>decide +kernel
theorem b4w (h:n="NoneType"\/n="bool"\/n="int"\/n="str"\/n="tuple"\/n="list"\/n="dict"):kit0 n "bool"=some (decide (n="bool")):=by
 rcases h with rfl | rfl | rfl | rfl | rfl | rfl | rfl<;>decide +kernel
theorem b6L (h:n="NoneType"\/n="bool"\/n="int"\/n="str"\/n="tuple"\/n="list"\/n="dict"):kit0 n "int"=some (decide (n="int")||decide (n="bool")):=by
 rcases h with rfl | rfl | rfl | rfl | rfl | rfl | rfl<;>decide +kernel
noncomputable def isS:Z->Bool
 | .str _=>true
 | _=>false
noncomputable def isB:Z->Bool
 | .bl _=>true
 | _=>false
noncomputable def isI:Z->Bool
 | .int _=>true
 | .bl _=>true
 | _=>false
theorem c1d (h:Th G x) (q:R (.bl (isS x)) G):zIsT [x,.ty "str"] G R:=by
 obtain⟨n,k⟩:=h.kd;refine⟨n,_,k.ty,b6K k.is,?_⟩;have e:decide (n="str")=isS x:=by
  have:=k.ty
  cases x with
  | ref p=>rcases h with ⟨ws,e⟩ | ⟨ws,e⟩<;>(simp[tyN,e]at this;subst this;show _=false;decide)
  | _=>first | (cases this;show _=false;decide;done) | (cases this;show _=true;decide;done) | exact eC h
 rw[e];exact q
theorem b9w (h:Th G x) (q:R (.bl (isB x)) G):zIsT [x,.ty "bool"] G R:=by
 obtain⟨n,k⟩:=h.kd;refine⟨n,_,k.ty,b4w k.is,?_⟩;have e:decide (n="bool")=isB x:=by
  have:=k.ty
  cases x with
  | ref p=>rcases h with ⟨ws,e⟩ | ⟨ws,e⟩<;>(simp[tyN,e]at this;subst this;show _=false;decide)
  | _=>first | (cases this;show _=false;decide;done) | (cases this;show _=true;decide;done) | exact eC h
 rw[e];exact q
theorem b9x (h:Th G x) (q:R (.bl (isI x)) G):zIsT [x,.ty "int"] G R:=by
 obtain⟨n,k⟩:=h.kd;refine⟨n,_,k.ty,b6L k.is,?_⟩;have e:(decide (n="int")||decide (n="bool"))=isI x:=by
  have:=k.ty
  cases x with
  | ref p=>rcases h with ⟨ws,e⟩ | ⟨ws,e⟩<;>(simp[tyN,e]at this;subst this;show _=false;decide)
  | _=>first | (cases this;show _=false;decide;done) | (cases this;show _=true;decide;done) | exact eC h
 rw[e];exact q
noncomputable def okC (c:Nat):Bool:=decide (97<=c)&&decide (c<=122)
noncomputable def a23:Z->Bool
 | .str s=>decide (1<=s.length)&&decide (s.length<=8)&&s.cps.toList.all okC
 | _=>false
noncomputable def momB:Z->Bool
 | .int i=>decide (0<=i)&&decide (i<=1000000000000)
 | _=>false
theorem a57:momB (.int i)=(decide (0<=i)&&decide (i<=1000000000000)):=rfl
noncomputable def strB (x y:Z):Bool:=momB x&&match y with
 | .non=>true
 | .int j=>momB (.int j)&&match x with | .int i=>decide (i<j) | _=>false
 | _=>false
noncomputable def spB1 (f:Z->Bool):P3:=λws G R=>∃ x,ws=[x]/\Th G x/\∀ G',Sm G G'->R (.bl (f x)) G'
theorem b9y (h:spB1 f ws G R):ws.length=1:=by obtain⟨_,rfl,_⟩:=h;rfl
noncomputable def spB2 (f:Z->Z->Bool):P3:=λws G R=>∃ x y,ws=[x,y]/\Th G x/\Th G y/\∀ G',Sm G G'->R (.bl (f x y)) G'
theorem c1e (h:spB2 f ws G R):ws.length=2:=by obtain⟨_,_,rfl,_⟩:=h;rfl
abbrev a8K:P3:=spB1 a23
abbrev a3x:P3:=spB1 momB
abbrev a58:P3:=spB2 strB
theorem b22 (a b:Nat):ltS ⟨#[a]⟩ ⟨#[b]⟩=decide (a<b):=by
 by_cases h:a<b
 ·rw[decide_eq_true h];exact decide_eq_true (ju.mpr (.inl h))
 ·rw[decide_eq_false h];refine decide_eq_false λq=>?_;rcases ju.mp q with q | q
  ·simp_all
  ·simp_all
theorem strA:(Str.ofString "a")=⟨#[97]⟩:=by decide +kernel
theorem strZ:(Str.ofString "z")=⟨#[122]⟩:=by decide +kernel
theorem b4x (x:Str) (g:Nat->Option Z) (f:Z->Option Z) (h:∀ c,f (.str ⟨#[c]⟩)=g c):(a5b x).filterMap f=x.cps.toList.filterMap g:=by
 unfold a5b;rw[iX]
 congr 1
 funext c
 exact h c
theorem b23 (h:x.length<=1000):(a5b x).length<=1000:=by unfold a5b;rw[er,gc];exact h
theorem b9z (l:List Nat):(l.filterMap λc=>some (Z.bl (okC c)))=(l.map okC).map Z.bl:=by simp
theorem all_map (l:List Nat):(l.map okC).all id=l.all okC:=by simp
theorem a5y:a23 (.str s)=(decide (1<=s.length)&&decide (s.length<=8)&&s.cps.toList.all okC):=rfl
theorem a8L (F:Fns K a) (T:Txt K mg a):FnOk P w K mg base CX0 1 a.f0 a.d0 ["thing"] (lowP K a8K):=by
 refine fn3 F.n0 a8t (λws G R h=>(by exact b9y h)) (λcdv A outer s H E ws G R hr h=>?_);have hu:=a0P hr;refine⟨_,(a0l (z_if (a4a (a27 (a0K b6f rfl T.b_isinstance rfl (a0b (a0c (pv 0)) (a0b (q_ty (a81 (v:=.ty "str") rfl T.b_str rfl rfl)) a0h a0a) a0a) (he:=a0a) (hpl:=(a0j a0a a0i)))))
  (a0n (a0v q_bl))
  a00)
  (a0l (z_if (QW.qt (q_or (a0s o_lt (a0K b_len rfl T.b_len PySem.boot_len (a0b (a0c (pv 0)) a0h a0a) (he:=a0a) (hpl:=a0i)) a0g (a0o _)) (a70 (a0s o_gt (a0K b_len rfl T.b_len PySem.boot_len (a0b (a0c (pv 0)) a0h a0a) (he:=a0a) (hpl:=a0i)) (b4V (b0c rfl T.c_LONGEST_NAME)) (a0o _)))))
  (a0n (a0v q_bl))
  a00)
  (a0n (a0v (a0K (b_all rfl) rfl T.b_all rfl (a0b (q_lc (N₀:=["thing"]) (so:=a0f a2H) (N':=["sign"]) (cap:=[none]) (pt:=(.nm 0)) rfl rfl rfl (by decide +kernel) rfl (b8n (a0c (pv 0))) (λ_ _ _ _=>(show QP _ _ (.nm 0) from (a0p (i:=0) c04 rfl (en rfl)))) (λ_ _ _ _=>a3H) (λ_ _ _ _=>(b1Y o_le o_le a38 (a0c (pv 0)) a38))) a0h a0B) (he:=a0B) (hpl:=a0i)))))),?_⟩
 obtain⟨x,rfl,hx,q⟩:=h;symm;refine c1d hx ?_;symm;refine ifNB (λc=>?_) λc=>?_
 ·symm;have e:a23 x=false:=by cases x<;>first | rfl | cases c
  have:=q G (Sm.refl G)
  rw[e]at this;exact this
 ·obtain⟨s,rfl⟩:∃ s,x=.str s:=by cases x<;>first | exact⟨_,rfl⟩ | cases c
  have hs:okS s:=hx;symm;refine b2h (a3u hs.1) ?_;symm;have no:a23 (.str s)=false->R (.bl false) G:=λe=>by have:=q G (Sm.refl G);rw[e]at this;exact this
  refine ifD (λc1=>?_) λc1=>?_
  ·symm;exact no (by rw[a5y,decide_eq_false (show ¬ 1<=s.length by omega)];rfl)
  ·symm;refine b2h (a3u hs.1) ?_;symm;refine ifD (λc2=>?_) λc2=>?_
   ·symm;exact no (by rw[a5y,decide_eq_false (show ¬ s.length<=8 by omega),gC];rfl)
   ·symm;intro D hD;refine a87 (λx=>match x with | .str z=>some (.bl (!ltS z (Str.ofString "a")&&!ltS (Str.ofString "z") z)) | _=>none) (λ_=>True.intro) (b23 hs.1) ?_ ?_
    ·intro x hm ys K1 K2 k1 k2;unfold a5b at hm;obtain⟨c,_,rfl⟩:=eG.mp hm;refine⟨_,rfl,?_⟩;symm;refine ifB (λz=>?_) λz=>?_
     ·symm;refine k1 _ ?_;dsimp only;rw[z];rfl
     ·refine k1 _ ?_;dsimp only;rw[z];rfl
    ·have e:(a5b s).filterMap (λx=>match x with | .str z=>some (.bl (!ltS z (Str.ofString "a")&&!ltS (Str.ofString "z") z)) | _=>none)=(s.cps.toList.map okC).map Z.bl:=by
      rw[b4x s (λc=>some (.bl (okC c))) _ λc=>?_,b9z];dsimp only;rw[strA,strZ,b22,b22];unfold okC
      congr 2
      by_cases h1:c<97<;>by_cases h2:122<c<;>simp[h1,h2]<;>omega
     have e2:a23 (.str s)=s.cps.toList.all okC:=by rw[a5y,decide_eq_true (show 1<=s.length by omega),decide_eq_true (show s.length<=8 by omega),fg,fg]
     refine c0G (by rw[e];exact a0e) ?_;rw[all_map,<- e2];exact q _ (Sm.new hD)
theorem a3y (F:Fns K a) (T:Txt K mg a):FnOk P w K mg base CX0 1 a.f1 a.d1 ["thing"] (lowP K a3x):=by
 refine fn3 F.n1 a6m (λws G R h=>(by exact b9y h)) (λcdv A outer s H E ws G R hr h=>?_);have hu:=a0P hr;refine⟨_,(a0l (z_if (QW.qt (q_or (a27 (a0K b6f rfl T.b_isinstance rfl (a0b (a0c (pv 0)) (a0b (q_ty (a81 (v:=.ty "bool") rfl T.b_bool rfl rfl)) a0h a0a) a0a) (he:=a0a) (hpl:=(a0j a0a a0i)))) (a70 (a4a (a27 (a0K b6f rfl T.b_isinstance rfl (a0b (a0c (pv 0)) (a0b (q_ty (a81 (v:=.ty "int") rfl T.b_int rfl rfl)) a0h a0a) a0a) (he:=a0a) (hpl:=(a0j a0a a0i))))))))
  (a0n (a0v q_bl))
  a00)
  (a0n (a0v (b1Y o_le o_le a0g (a0c (pv 0)) (b4V (b0c rfl T.c_LAST_MOMENT)))))),?_⟩
 obtain⟨x,rfl,hx,q⟩:=h;have no:momB x=false->R (.bl false) G:=λe=>by have:=q G (Sm.refl G);rw[e]at this;exact this
 symm;refine b9w hx ?_;symm;refine ifB (λc=>?_) λc=>?_
 ·symm;exact no (by cases x<;>first | rfl | cases c)
 ·symm;refine b9x hx ?_;symm;refine ifNB (λc2=>?_) λc2=>?_
  ·symm;exact no (by cases x<;>first | rfl | cases c2)
  ·obtain⟨i,rfl⟩:∃ i,x=.int i:=by cases x<;>first | exact⟨_,rfl⟩ | (cases c;done) | (cases c2;done)
   symm;refine ifD (λz=>?_) λz=>?_
   ·symm
    have:=q G (Sm.refl G)
    rw[a57,decide_eq_true z,fg]at this;exact this
   ·exact no (by rw[a57,decide_eq_false z];rfl)
theorem a59 (F:Fns K a) (T:Txt K mg a):FnOk P w K mg base CX0 2 a.f2 a.d2 ["begin","end"] (lowP K a58):=by
 have b:FnOk P w K mg base CX0 1 a.f1 a.d1 ["thing"] (lowP K a3x):=a3y F T;refine fn3 F.n2 a5Z (λo G R h=>(by exact c1e h)) (λu A n s H E o G R l h=>?_);have v:=a0P l;refine⟨_,(a0l (z_if (a4a (a27 (a0q b (l.mono (by decide)) rfl T.m1 F.n1.kp (a2j F) (a0b (a0c (pv 0)) a0h a0a))))
  (a0n (a0v q_bl))
  a00)
  (a0l (z_if (a0s o_is (a0c (pv 1)) a1Q (a0o _))
  (a0n (a0v q_bl))
  a00)
  (a0n (a0v (a72 (a0q b (l.mono (by decide)) rfl T.m1 F.n1.kp (a2j F) (a0b (a0c (pv 1)) a0h a0a)) (a71 (a39 o_lt (a0c (pv 0)) (a0c (pv 1)) (a0o _)))))))),?_⟩
 obtain⟨x,y,rfl,t,r,q⟩:=h;symm;refine⟨x,rfl,t,λC g=>?_⟩;have m:∀ d,Sm G d->strB x y=false->R (.bl false) d:=λd s e=>by have:=q d s;rw[e]at this;exact this
 symm;refine ifNB (λc=>?_) λc=>?_
 ·symm;exact m _ g (by unfold strB;rw[c];rfl)
 ·symm;refine ifD (λz=>?_) λz=>?_
  ·symm
   have:=q _ g
   unfold strB at this;rw[c,z]at this;exact this
  ·symm;refine⟨y,rfl,r.sm g,λB p=>?_⟩;have k:=g.trans p;symm;refine ifB (λf=>?_) λf=>?_
   ·obtain⟨i,rfl⟩:∃ i,x=.int i:=by cases x<;>first | exact⟨_,rfl⟩ | cases c
    obtain⟨j,rfl⟩:∃ j,y=.int j:=by cases y<;>first | exact⟨_,rfl⟩ | cases f
    symm
    have:=q _ k
    unfold strB at this;rw[c]at this;dsimp only at this;rw[f,fg,fg]at this;exact this
   ·refine m _ k ?_;unfold strB;rw[c,fg];cases y<;>first | rfl | exact absurd rfl z | (dsimp only;rw[f];rfl)
noncomputable def isL (c:Nat):Prop:=97<=c/\c<=122
noncomputable def nmOk (s:Str):Prop:=1<=s.cps.toList.length/\s.cps.toList.length<=8/\∀ c∈s.cps.toList,isL c
theorem a3X (s:Str):s.length=s.cps.toList.length:=by rw[gc];rfl
theorem b0l (h:∀ c∈s.cps.toList,isL c):PyData.strOk s=true:=by
 unfold PyData.strOk;rw[Array.all_eq_true_iff_forall_mem];intro c a
 have:=(h c (by simp_all)).2
 exact decide_eq_true (by omega)
theorem a9w (h:nmOk s):flat n (.str s)=true:=by
 have:=b0l h.2.2
 cases n<;>exact this
theorem a8M (h:nmOk s):Th G (.str s):=⟨by rw[a3X];have:=h.2.1;omega,b0l h.2.2⟩
theorem nm_b (h:nmOk s):a23 (.str s)=true:=by
 rw[a5y,decide_eq_true (by rw[a3X];exact h.1),decide_eq_true (by rw[a3X];exact h.2.1)];rw[fg,fg,fV];intro c b;obtain⟨a,d⟩:=h.2.2 c b;unfold okC;rw[decide_eq_true a,decide_eq_true d];rfl
noncomputable def T12:Int:=1000000000000
noncomputable def stOk (b:Int) (e:Option Int):Prop:=0<=b/\b<=T12/\∀ x,e=some x->b<x/\x<=T12
theorem stOk.bef (h:stOk b e):bef b e=true:=by
 cases e with
 | none=>rfl
 | some x=>simp only[Lw.bef,decide_eq_true_eq];exact (h.2.2 x rfl).1
theorem st_b (h:stOk b e):strB (.int b) (oz e)=true:=by
 obtain⟨c,g,a⟩:=h;unfold T12 at *;unfold strB;rw[a57,decide_eq_true c,decide_eq_true g];cases e with
 | none=>rfl
 | some x=>
  obtain⟨f,d⟩:=a x rfl
  show (true&&(momB _&&decide _))=true
  rw[a57,decide_eq_true (show 0<=x by omega),decide_eq_true d,decide_eq_true f];rfl
noncomputable def Plain (l:List Rw):Prop:=∀ r∈l,∃ x,r.w=[x]/\flat 0 x=true
theorem Plain.one (h:Plain l):One l:=λr a=>let ⟨x,e,_⟩:=h r a;⟨x,e⟩
theorem Plain.okR (h:Plain l):OkR l:=λr a=>by
 obtain⟨x,e,f⟩:=h r a;rw[e];exact b9v (a3a (by simp) f)
theorem Plain.nil:Plain []:=λr hr=>by simp at hr
theorem a47 (h:Plain puts) (t:Int):flat 0 (a08 puts t)=true:=by
 unfold a08;cases e:puts.reverse.find? _ with
 | none=>rfl
 | some r=>
  obtain⟨x,a,f⟩:=h r (by have:=ii e;simpa using this)
  show flat 0 (r.w.headD .non)=true
  rw[a];exact f
theorem a9x (z:Z):wz (optW z)=z:=by
 unfold optW
 split
 ·next h=>rw[h];rfl
 ·rfl
theorem b24 (h:Plain L) (f:flat 0 z=true):Plain (a8G L b e (optW z)):=λr a=>by
 have m:Plain (a2V L b e (optW z)):=λr a=>by
  rcases et.mp a with a | a
  ·rcases et.mp a with a | a
   ·obtain⟨j,i,_,rfl⟩:=a4o a;exact h j i
   ·unfold optW at a
    split at a
    ·next w e=>
           split at e
           ·cases e
           ·cases e;rw[eD.mp a];exact⟨z,rfl,f⟩
    ·simp_all
  ·cases e with
   | none=>simp at a
   | some e=>
    obtain⟨j,i,_,rfl⟩:=a5x a;exact h j i
 have l:∀ d c,Plain c->Plain d->Plain (d.foldl jn c):=by
  intro d
  induction d with
  | nil=>exact λ_ h _=>h
  | cons p d ih=>
   intro c k g;refine ih _ (λr a=>?_) λr a=>g r (.tail _ a)
   have:=g p (.head _)
   unfold jn at a
   split at a
   ·split at a
    ·rcases et.mp a with a | a
     ·exact k r (iG _ a)
     ·simp_all
    ·rcases et.mp a with a | a
     ·exact k r a
     ·simp_all
   ·simp_all
 exact l _ [] Plain.nil m r a
theorem a9y (h1:flat 8 x=true) (h2:flat 8 y=true) (h:R (.bl (f (decide (x=y)))) G):zEq f x y G R:=by
 cases x<;>cases y<;>first
  | exact⟨h1,h2,h⟩
  | (simp at h1;done)
  | (simp[flat]at h2;done)
  | (rw[a02 (Z.int.injEq _ _)]at h;exact h)
  | (rw[a02 (Z.str.injEq _ _)]at h;exact h)
structure Tl where
 key:Str
 w:Option Str
 b:Int
 e:Option Int
abbrev sPut:Str:=Str.ofString "put"
abbrev b5l:Str:=Str.ofString "clear"
noncomputable def Tl.z (τ:Tl):Z:=match τ.w with
 | some w=>.tup [.str sPut,.str τ.key,.str w,.int τ.b,oz τ.e]
 | none=>.tup [.str b5l,.str τ.key,.int τ.b,oz τ.e]
noncomputable def Tl.v (τ:Tl):Z:=match τ.w with
 | some w=>.str w
 | none=>.non
structure Tl.Ok (τ:Tl):Prop where
 k:nmOk τ.key
 w:∀ s,τ.w=some s->nmOk s
 st:stOk τ.b τ.e
theorem Tl.Ok.v {τ:Tl}(h:τ.Ok):flat 0 τ.v=true:=by
 unfold Tl.v;cases e:τ.w with
 | none=>rfl
 | some w=>exact a9w (h.w w e)
noncomputable def Tl.rw (τ:Tl):Rw:=⟨τ.b,τ.e,[τ.v]⟩
noncomputable def a1m (T:List Tl) (k:Str):List Rw:=(T.filter fun τ=>decide (τ.key=k)).map Tl.rw
theorem a4U:a1m (T++[τ]) k=a1m T k++(if τ.key=k then [τ.rw] else []):=by
 unfold a1m
 by_cases c:τ.key=k<;>simp[c]
noncomputable def OkT (T:List Tl):Prop:=∀ τ∈T,τ.Ok
theorem a6Y (h:OkT T):Plain (a1m T k):=λr a=>by
 obtain⟨τ,b,rfl⟩:=eG.mp a;exact⟨_,rfl,(h τ (fj.mp b).1).v⟩
structure IsLine (T:List Tl) (k:Str) (L:List Rw):Prop where
 can:Can L
 pl:Plain L
 len:L.length<=2*T.length
 v:∀ t,val L t=optW (a08 (a1m T k) t)
theorem IsLine.nil (h:a1m T k=[]):IsLine T k []:=⟨Can.nil,Plain.nil,by simp,λt=>by rw[h];rfl⟩
theorem IsLine.snoc (h:IsLine T τ.key L) (o:τ.Ok):IsLine (T++[τ]) τ.key (a8G L τ.b τ.e (optW τ.v)):=by
 have a:=b4p (w:=optW τ.v) h.can.rise o.st.bef;refine⟨a.1,b24 h.pl o.v,by have:=a.2.2;have:=h.len;simp;omega,λt=>?_⟩;rw[a4U,if_pos rfl,a53,a.2.1 t,h.v t]
 show _=optW (if (decide (τ.b<=t)&&bef t τ.e)=true then τ.v else a08 _ t)
 split<;>rfl
noncomputable def ixF (k:Str):Nat->List Tl->List Int
 | _,[]=>[]
 | n,τ::T=>(if τ.key=k then [(n:Int)+1] else [])++ixF k (n+1) T
noncomputable def ix (T:List Tl) (k:Str):List Int:=ixF k 0 T
theorem b0m:∀ (n:Nat) (T:List Tl),ixF k n (T++[τ])=ixF k n T++(if τ.key=k then [(n+T.length:Int)+1] else [])
 | n,[]=>by simp[ixF]
 | n,σ::T=>by
  rw[gQ,ixF,b0m,ixF,eU]
  congr 2
  split
  ·congr 1;rw[eF];omega
  ·rfl
theorem a2Q:ix (T++[τ]) k=ix T k++(if τ.key=k then [(T.length:Int)+1] else []):=by
 unfold ix;rw[b0m];simp
theorem b25:∀ {n:Nat}{T:List Tl}{i:Int},i∈ixF k n T->(n:Int)+1<=i/\i<=n+T.length
 | _,[],i,h=>by simp[ixF]at h
 | n,τ::T,i,h=>by
  rw[eF];rcases et.mp h with h | h
  ·split at h
   ·rw[eD.mp h];omega
   ·simp_all
  ·have:=b25 h;omega
theorem b6M (h:i∈ix T k):1<=i/\i<=T.length:=by
 have:=b25 h
 simpa using this
theorem b26:∀ (n:Nat) (T:List Tl),(ixF k n T).length<=T.length
 | _,[]=>by simp[ixF]
 | n,τ::T=>by
  have:=b26 (k:=k) (n+1) T
  rw[ixF,eE,eF]
  split<;>simp<;>omega
theorem b5m (T:List Tl) (k:Str):(ix T k).length<=T.length:=b26 0 T
theorem a6Z:∀ (n:Nat) (T:List Tl),(ixF k n T).Pairwise (·<·)
 | _,[]=>.nil
 | n,τ::T=>by
  refine eS.mpr ⟨by split<;>simp,a6Z _ T,λx a y b=>?_⟩
  have:=b25 b
  split at a
  ·rw[eD.mp a];omega
  ·grind
theorem a6a (T:List Tl) (k:Str):(ix T k).Pairwise (·<·):=a6Z 0 T
theorem a5z:∀ (n:Nat) (T:List Tl) (s q:Nat),s<=q->(∀ i∈ixF k n T,(i:Int)<=n+s\/(n+q:Int)<i)->a1m (T.take q) k=a1m (T.take s) k
 | n,[],s,q,_,_=>by simp
 | n,τ::T,s,0,hs,_=>by grind
 | n,τ::T,0,q+1,hs,h=>by
  have d:¬ τ.key=k:=λe=>by
   have:=h (n+1) (by rw[ixF,if_pos e];simp)
   omega
  have a:=a5z (k:=k) (n+1) T 0 q (by omega) λi b=>by
   rcases h i (by rw[ixF];simp[b]) with c | c
   omega;omega
  rw[iH];unfold a1m at a ⊢;rw[fw,if_neg (by simpa using d),a];simp
 | n,τ::T,s+1,q+1,hs,h=>by
  have a:=a5z (k:=k) (n+1) T s q (by omega) λi b=>by
   rcases h i (by rw[ixF];simp[b]) with c | c
   ·left;omega
   omega
  rw[iH,iH];unfold a1m at a ⊢;rw[fw,fw]
  split
  ·grind
  ·exact a
theorem IsLine.cut {s q:Nat}(h:IsLine (T.take s) k L) (hs:s<=q) (hi:∀ i∈ix T k,i<=(s:Int)\/(q:Int)<i):IsLine (T.take q) k L:=by
 have e:=a5z 0 T s q hs λi h=>by have:=hi i h;simpa using this
 exact⟨h.can,h.pl,by have:=h.len;rw[eL]at this ⊢;omega,λt=>by rw[e];exact h.v t⟩
theorem a6b {q:Nat}(h:∀ i∈ix T k,(q:Int)<i):a1m (T.take q) k=[]:=by
 have:=a5z 0 T 0 q (e8 _) λi a=>by right;have:=h i a;simpa using this
 rw[this];rfl
theorem b6N (h:Rise l) (hr:r∈l) (ht:r.has t=true):val l t=some r.w:=by
 induction l with
 | nil=>simp at hr
 | cons s l ih=>
  rw[a0A];rcases eI.mp hr with rfl | hr
  ·rw[if_pos ht]
  ·rw[if_neg]
   ·exact ih h.tail hr
   ·intro z
    have:=(jv h.2 hr).has z
    rw[ht]at this;cases this
theorem a60 {T:List Tl}{k:Str}{t:Int}:a08 (a1m T k) t=.non\/∃ w,a08 (a1m T k) t=.str w:=by
 unfold a08;cases e:(a1m T k).reverse.find? _ with
 | none=>exact .inl rfl
 | some r=>
  have:=ii e
  rw[List.mem_reverse]at this;obtain⟨τ,a,rfl⟩:=eG.mp this;unfold Tl.rw Tl.v;cases τ.w with
  | none=>exact .inl rfl
  | some w=>exact .inr ⟨w,rfl⟩
theorem a7I (h:IsLine T k L) (hr:r∈L):∃ w,r.w=[.str w]:=by
 have a:=b6N h.can.rise hr (b05 (h.can.1 r hr));rw[h.v]at a;unfold optW at a
 split at a
 ·cases a
 ·next q=>
  rcases @a60 T k r.b with e | ⟨w,e⟩
  ·exact absurd e q
  ·rw[e]at a;injection a with a;exact⟨w,a.symm⟩
structure Ti where
 r:Rw
 s:Int
 u:Option Int
noncomputable def Ti.z (k:Str) (t:Ti):Z:=.tup [.str k,t.r.w.headD .non,.int t.r.b,oz t.r.e,.int t.s,oz t.u]
noncomputable def Ti.at_ (t:Ti) (q:Int):Bool:=decide (t.s<=q)&&bef q t.u
noncomputable def hasR (L:List Rw) (r:Rw):Bool:=L.any λx=>decide (x.z=r.z)
theorem hasR_iff:hasR L r=true↔r∈L:=by
 unfold hasR;rw[fN];exact⟨λ⟨x,h,e⟩=>Rw.z_inj (of_decide_eq_true e)▸h,λh=>⟨r,h,decide_eq_true rfl⟩⟩
theorem hasR_no:hasR L r=false↔r∉L:=by
 rw[<- hasR_iff,Bool.not_eq_true]
noncomputable def stR (ts:List Ti):List Rw:=(ts.filter (·.u.isNone)).map (·.r)
noncomputable def endR (L:List Rw) (n:Int) (t:Ti):Ti:=if (t.u.isNone&&!hasR L t.r)=true then ⟨t.r,t.s,some n⟩ else t
noncomputable def newR (n:Int) (r:Rw):Ti:=⟨r,n,none⟩
noncomputable def tOn (ts:List Ti) (L:List Rw) (n:Int):List Ti:=ts.map (endR L n)++(L.filter λr=>!hasR (stR ts) r).map (newR n)
noncomputable def a1P (ts:List Ti) (q:Int):List Rw:=(ts.filter (·.at_ q)).map (·.r)
theorem b6O:(endR L n t).r=t.r:=by unfold endR;split<;>rfl
theorem b9A:(endR L n t).s=t.s:=by unfold endR;split<;>rfl
theorem b4y:a1P (ts++us) q=a1P ts q++a1P us q:=by simp[a1P]
theorem b27 {α β:Type}{f:α->α}{g:α->β}{p p':α->Bool}:∀ {l:List α},(∀ t∈l,p (f t)=p' t)->(∀ t∈l,g (f t)=g t)->((l.map f).filter p).map g=(l.filter p').map g
 | [],_,_=>rfl
 | t::l,h1,h2=>by
  have a:=b27 (λt h=>h1 t (.tail _ h)) (λt h=>h2 t (.tail _ h));rw[eP,fw,fw,h1 t (.head _)]
  split
  ·simp_all
  ·omega
theorem b4z (h:q<n):a1P (tOn ts L n) q=a1P ts q:=by
 unfold tOn;rw[b4y];have b:a1P ((L.filter λr=>!hasR (stR ts) r).map (newR n)) q=[]:=by
  unfold a1P;rw[gS,ij];intro t a;obtain⟨r,_,rfl⟩:=eG.mp a;unfold Ti.at_ newR;rw[decide_eq_false (by grind)];simp
 rw[b,eW];refine b27 (λt _=>?_) λt _=>b6O;unfold Ti.at_;rw[b9A]
 congr 1
 unfold endR
 split
 ·next c=>
  rw[fU,Option.isNone_iff_eq_none]at c;rw[c.1];exact decide_eq_true h
 ·rfl
structure TsOk (ts:List Ti) (n:Int):Prop where
 s:∀ t∈ts,t.s<=n
 u:∀ t∈ts,∀ x,t.u=some x->x<=n
theorem a9z (h:TsOk ts n) (hq:n<=q):a1P ts q=stR ts:=by
 unfold a1P stR
 congr 1
 refine jw λt a=>?_;unfold Ti.at_;rw[decide_eq_true (by have:=h.s t a;omega),fg];cases e:t.u with
 | none=>rfl
 | some x=>
  exact decide_eq_false (by have:=h.u t a x e;omega)
theorem c1f:stR (tOn ts L n)=(stR ts).filter (hasR L)++L.filter λr=>!hasR (stR ts) r:=by
 have f:stR (ts.map (endR L n))=(stR ts).filter (hasR L):=by
  unfold stR
  conv=>rhs;rw[List.filter_map,iI]
  refine b27 (λt _=>?_) λt _=>b6O;unfold endR;cases e:t.u with
  | none=>cases c:hasR L t.r<;>simp[c,e]
  | some x=>simp[e]
 have g:∀ l:List Rw,stR (l.map (newR n))=l:=λl=>by
  unfold stR;rw[jx.mpr (λt h=>by obtain⟨r,_,rfl⟩:=eG.mp h;rfl),fB];exact gv l
 have d:∀ a b:List Ti,stR _=stR a++stR b:=λa b=>by unfold stR;rw[iJ,eN]
 unfold tOn;rw[d,f,g]
theorem b6P {S L:List Rw}(hS:S.Nodup) (hL:L.Nodup):(S.filter (hasR L)++L.filter λr=>!hasR S r).Perm L:=by
 refine (List.perm_ext_iff_of_nodup ?_ hL).mpr λr=>?_
 ·refine gR.mpr ⟨hS.sublist iK,hL.sublist iK,λx b y f e=>?_⟩;subst e;have d:=(fj.mp b).1;have a:=(fj.mp f).2;rw[hasR_iff.mpr d]at a;cases a
 ·rw[et,fj,fj,hasR_iff]
  constructor
  ·rintro (h | h)
   ·simp_all
   ·exact h.1
  ·intro h
   by_cases c:r∈S
   ·exact .inl ⟨c,h⟩
   ·exact .inr ⟨h,by rw[hasR_no.mpr c];rfl⟩
theorem c1g (h:TsOk ts m) (hm:m<=n):TsOk (tOn ts L n) n:=by
 refine⟨λt a=>?_,λt a x e=>?_⟩
 ·rcases et.mp a with a | a
  ·obtain⟨c,b,rfl⟩:=eG.mp a;rw[b9A];have:=h.s c b;omega
  ·obtain⟨r,_,rfl⟩:=eG.mp a;exact fc _
 ·rcases et.mp a with a | a
  ·obtain⟨c,b,rfl⟩:=eG.mp a;unfold endR at e
   split at e
   ·grind
   ·have:=h.u c b x e;omega
  ·obtain⟨r,_,rfl⟩:=eG.mp a;cases e
theorem b9B:(tOn ts L n).length<=ts.length+L.length:=by grind [tOn]
noncomputable def TF (es:List (Int×List Rw)):List Ti:=es.foldl (λts e=>tOn ts e.2 e.1) []
noncomputable def a3z (es:List (Int×List Rw)) (q:Int):List Rw:=match es.reverse.find? (λe=>decide (e.1<=q)) with
 | some e=>e.2
 | none=>[]
theorem a6c:TF (es++[e])=tOn (TF es) e.2 e.1:=by
 unfold TF;rw[jl];rfl
theorem a6d:a3z (es++[e]) q=if e.1<=q then e.2 else a3z es q:=by
 unfold a3z;rw[fQ,fW,ib,fK]
 by_cases c:e.1<=q
 ·simp_all
 ·rw[decide_eq_false c,if_neg c]
theorem a6e (h:Can L):L.Nodup:=by
 have:=(fv.and_mem.mp h.2).imp λ{r s} ⟨a,_,q⟩=>q.lt.b (h.1 r a)
 exact this.imp λ{r s} q e=>by subst e;omega
theorem a7J {α:Type}{P:List α->Prop}(h0:P []) (h1:∀ l a,P l->P (l++[a])) (l:List α):P l:=by
 rw[<- List.reverse_reverse l]
 induction l.reverse with
 | nil=>exact h0
 | cons a l ih=>rw[ge];exact h1 _ _ ih
structure Run (es:List (Int×List Rw)) (n:Int):Prop where
 ok:TsOk (TF es) n
 p:∀ q,(a1P (TF es) q).Perm (a3z es q)
 c:∀ q,Can (a3z es q)
theorem b4A:∀ {es:List (Int×List Rw)}{n:Int},es.Pairwise (λa b=>a.1<b.1)->(∀ e∈es,e.1<=n)->(∀ e∈es,Can e.2)->Run es n:=by
 intro j
 induction j using a7J with
 | h0=>exact λ_ _ _=>⟨⟨λt h=>by simp[TF]at h,λt h=>by simp[TF]at h⟩,λq=>.refl _,λq=>Can.nil⟩
 | h1 j e ih=>
  intro n w v k;obtain⟨m,_,r⟩:=eS.mp w;have o:=λx f=>fz (r x f e (.head _));have R:=ih m o λx f=>k x (by simp[f]);have l:=k e (by simp);have g:=v e (by simp);have d:=c1g (L:=e.2) R.ok (fc e.1);refine⟨by rw[a6c];exact⟨λt i=>eY (d.s t i) g,λt i x f=>eY (d.u t i x f) g⟩,λq=>?_,λq=>?_⟩
  ·rw[a6c,a6d]
   by_cases c:e.1<=q
   ·rw[if_pos c,a9z d c,c1f];refine b6P ?_ (a6e l);rw[<- a9z R.ok (fc e.1)];exact (R.p e.1).nodup_iff.mpr (a6e (R.c e.1))
   ·rw[if_neg c,b4z (by omega)];exact R.p q
  ·rw[a6d]
   split
   ·omega
   ·exact R.c q
theorem b9C:∀ {es:List (Int×List Rw)}{m:Nat},(∀ e∈es,e.2.length<=m)->(TF es).length<=es.length*m:=by
 intro a
 induction a using a7J with
 | h0=>exact λ_=>by simp[TF]
 | h1 a e ih=>
  intro m h;have h1:=ih λx c=>h x (by simp[c]);have h2:=b9B (ts:=TF a) (L:=e.2) (n:=e.1);have h3:=h e (by simp);rw[a6c,eE,g5,Nat.add_mul,Nat.one_mul];omega
theorem b6Q (hi:es.map (·.1)=ix T k) (hl:∀ e∈es,IsLine (T.take e.1.toNat) k e.2) (q:Nat):IsLine (T.take q) k (a3z es q):=by
 have b:es.reverse.Pairwise (λx y=>y.1<x.1):=by
  have:=a6a T k
  rw[<- hi]at this;rw[jy];exact fM.mp this
 unfold a3z;cases e:es.reverse.find? _ with
 | none=>
  refine IsLine.nil (a6b λi h=>?_);rw[<- hi]at h;obtain⟨x,a,rfl⟩:=eG.mp h
  have:=iM.mp e x (by grind)
  simpa using this
 | some x=>
  obtain⟨g,r,s,o,n⟩:=List.find?_eq_some_iff_append.mp e;have a:x∈es:=by simp_all
  have g:=of_decide_eq_true g;refine (hl x a).cut (by omega) λj l=>?_;rw[<- hi]at l;obtain⟨y,m,rfl⟩:=eG.mp l;have d:y∈es.reverse:=by grind
  rw[o]at d b;rcases et.mp d with c | c
  ·right
   have:=n y c
   simpa using this
  ·left
   rcases eI.mp c with rfl | c
   ·omega
   ·have:=jv (eS.mp b).2.1 c
    omega
theorem b28 {es:List (Int×List Rw)}(hi:es.map (·.1)=ix T k):es.Pairwise (λa b=>a.1<b.1):=by
 have:=a6a T k
 rw[<- hi]at this;exact fM.mp this
noncomputable def rnK (r:Rw):List Key:=[.inl (some r.b),.inl r.e,match r.w with | [.str s]=>.inr s | _=>.inl none]
theorem b29 {r:Rw}(h:∃ w,r.w=[.str w]):.tup ((rnK r).map keyW)=r.z:=by
 obtain⟨w,h⟩:=h;unfold rnK Rw.z;rw[h];cases r.e<;>rfl
theorem c1h (h:∃ w,r.w=[.str w]):L3.tupZ (rnK r)=r.z:=by
 obtain⟨w,h⟩:=h;unfold L3.tupZ rnK Rw.z;rw[h];cases r.e<;>rfl
theorem b6R (h:∃ w,r.w=[.str w]) (h':∃ w,s.w=[.str w]) (e:rnK r=rnK s):r=s:=Rw.z_inj (by rw[<- b29 h,<- b29 h',e])
theorem b0n:∀ x:List Tim.Pz,Tim.cmpT x x=true
 | []=>rfl
 | a::x=>by unfold Tim.cmpT;rw[if_pos rfl];exact b0n x
theorem b9D (h:Can L):∀ r∈L,∀ s∈L,Tim.cmpT (rnK r) (rnK s)=true:=λr a s f=>by
 have d:=(fv.and_mem.mp h.2).imp λ{r s} ⟨a,_,q⟩=>q.lt.b (h.1 r a)
 by_cases c:r=s
 ·rw[c];exact b0n _
 ·have g:=λe=>c ((fv.forall_of_forall_of_flip (R:=λr s=>r.b=s.b->r=s) (λx _ _=>rfl) (d.imp λ{r s} q e=>by omega) (d.imp λ{r s} q e=>by have:=e;omega)) a f e);unfold rnK Tim.cmpT;rw[if_neg (by simp_all)]
  rfl
theorem b3a:∀ {L M:List Rw},Can L->M.Perm L->(M.map rnK).Pairwise (λx y=>Tim.ltT y x=false)->M=L:=λ{L M} h p s=>by
 have c:=(fv.and_mem.mp h.2).imp λ{r s} ⟨m,_,q⟩=>q.lt.b (h.1 r m);have k:=p.nodup_iff.mpr (a6e h);have d:M.Pairwise λr s=>r.b<s.b:=by
  have g:=(fM.mp s).and k;refine (fv.and_mem.mp g).imp λ{x y} ⟨i,l,q,j⟩=>?_;have f:x.b≠y.b:=λe=>j ((fv.forall_of_forall_of_flip (R:=λr s=>r.b=s.b->r=s) (λx _ _=>rfl) (c.imp λ{r s} q e=>by omega) (c.imp λ{r s} q e=>by have:=e;omega)) (p.mem_iff.mp i) (p.mem_iff.mp l) e);unfold rnK Tim.ltT at q;rw[if_neg (by simpa using Ne.symm f)]at q
  have:=q
  have:=of_decide_eq_false this
  omega
 exact p.eq_of_pairwise (λa b _ _ n o=>by omega) d c
abbrev a9A:Str:=Str.ofString "last"
abbrev b3b:Str:=Str.ofString "kept"
noncomputable def shF (n:Int) (d:Addr):List (Str×Z):=[(a9A,.int n),(b3b,.ref d)]
theorem c1q:¬ (a9A=b3b):=by decide +kernel
theorem b6S:putQ b3b (.ref d) [(a9A,.int n)]=shF n d:=by
 rfl
theorem b6T:putQ a9A (.int m) (shF n d)=shF m d:=rfl
theorem a3c:(shF n d).lookup a9A=some (.int n):=rfl
theorem a4V:(shF n d).lookup b3b=some (.ref d):=rfl
theorem a3d (h1:(m==a9A)=false) (h2:(m==b3b)=false):(shF n d).lookup m=none:=by
 unfold shF;rw[fG,h1,fG,h2];rfl
abbrev enZ (e:Int×Addr):Z:=.tup [.int e.1,.ref e.2]
structure Hist (G:Hq) (S:Addr->Prop) (T:List Tl) (k:Str) (h:Addr) (es:List (Int×Addr)):Prop where
 s:S h
 at_:G h=some (.lst (es.map enZ))
 ix:es.map (·.1)=ix T k
 ne:es≠[]
 ln:∀ e∈es,S e.2/\∃ L,G e.2=some (.lst (L.map Rw.z))/\IsLine (T.take e.1.toNat) k L
structure Tils (G:Hq) (S:Addr->Prop) (T:List Tl) (k:Str) (h:Addr) (es:List (Int×List Rw)):Prop where
 s:S h
 at_:G h=some (.lst ((TF es).map (Ti.z k)))
 ix:es.map (·.1)=ix T k
 ne:es≠[]
 ln:∀ e∈es,IsLine (T.take e.1.toNat) k e.2
noncomputable def Rec (b:Bool) (G:Hq) (S:Addr->Prop) (T:List Tl) (k:Str) (h:Addr):Prop:=cond b (∃ es,Tils G S T k h es) (∃ es,Hist G S T k h es)
theorem Rec.keepL (H:Rec b G S T k h) (q:∀ x ws,S x->G x=some (.lst ws)->G' x=some (.lst ws)):Rec b G' S T k h:=by
 cases b with
 | false=>
  obtain⟨d,H⟩:=H;exact⟨d,H.s,q _ _ H.s H.at_,H.ix,H.ne,λe f=>let ⟨s,L,a,c⟩:=H.ln e f;⟨s,L,q _ _ s a,c⟩⟩
 | true=>
  obtain⟨d,H⟩:=H;exact⟨d,H.s,q _ _ H.s H.at_,H.ix,H.ne,H.ln⟩
theorem Rec.at_ (H:Rec b G S T k h):S h/\∃ ws,G h=some (.lst ws):=by
 cases b with
 | false=>obtain⟨a,H⟩:=H;exact⟨H.s,_,H.at_⟩
 | true=>obtain⟨a,H⟩:=H;exact⟨H.s,_,H.at_⟩
structure ShM (a:Ad) (b:Bool) (G:Hq) (p:Addr) (S:Addr->Prop) (T:List Tl) (n:Int) (dx d:Addr) (kvs:List (Key×Z)):Prop where
 ob:G p=some (.ins (a.cK b) dx (shF n d))
 sp:S p
 sd:S d
 dc:G d=some (.dK kvs)
 len:kvs.length<=T.length
 no:∀ k,valZ kvs (.inr k)=none->ix T k=[]
 hs:∀ k z,valZ kvs (.inr k)=some z->∃ h,z=.ref h/\Rec b G S T k h
 inj:∀ k k' z,valZ kvs (.inr k)=some z->valZ kvs (.inr k')=some z->k=k'
 al:∀ b,S b->∃ o,G b=some o
 nd:(kvs.map (·.1)).Nodup
 sk:∀ q∈kvs,∃ s,q.1=Sum.inr s
noncomputable def Sheet (a:Ad) (b:Bool) (G:Hq) (p:Addr) (S:Addr->Prop) (T:List Tl):Prop:=∃ dx d kvs,ShM a b G p S T T.length dx d kvs
noncomputable def KS (S:Addr->Prop) (G G':Hq):Prop:=∀ b o,S b->G b=some o->G' b=some o
noncomputable def KN (S:Addr->Prop) (G G':Hq):Prop:=∀ b o,¬ S b->G b=some o->G' b=some o
theorem Sm.ks (s:Sm G G'):KS S G G':=λb o _ e=>s b o e
theorem Sm.kn (s:Sm G G'):KN S G G':=λb o _ e=>s b o e
theorem KN.trans (a:KN S G G1) (b:KN S G1 G2):KN S G G2:=λc o n e=>b c o n (a c o n e)
theorem ShM.keep {a:Ad}{b:Bool}{G G':Hq}{p:Addr}{S:Addr->Prop}{T:List Tl}{n:Int}{dx d:Addr}{kvs:List (Key×Z)}(H:ShM a b G p S T n dx d kvs) (q:KS S G G'):ShM a b G' p S T n dx d kvs:=
 ⟨q _ _ H.sp H.ob,H.sp,H.sd,q _ _ H.sd H.dc,H.len,H.no,λk z e=>let ⟨h,c,g⟩:=H.hs k z e;⟨h,c,g.keepL λx ws s e=>q x _ s e⟩,H.inj,(λb hb=>let ⟨o,e⟩:=H.al b hb;⟨o,q b o hb e⟩),H.nd,H.sk⟩
theorem Sheet.keep {a:Ad}{b:Bool}{G G':Hq}{p:Addr}{S:Addr->Prop}{T:List Tl}(H:Sheet a b G p S T) (q:KS S G G'):Sheet a b G' p S T:=let ⟨dx,d,kvs,h⟩:=H;⟨dx,d,kvs,h.keep q⟩
structure ShV (a:Ad) (b:Bool) (G:Hq) (p:Addr) (S:Addr->Prop) (T:List Tl) (n:Int) (dx d:Addr) (kvs:List (Key×Z)):Prop where
 ob:G p=some (.ins (a.cK b) dx (shF n d))
 sp:S p
 sd:S d
 dc:G d=some (.dK kvs)\/G d=some (.dF kvs)
 len:kvs.length<=T.length
 no:∀ k,valZ kvs (.inr k)=none->ix T k=[]
 hs:∀ k z,valZ kvs (.inr k)=some z->∃ h,z=.ref h/\Rec b G S T k h
 al:∀ b,S b->∃ o,G b=some o
 nd:(kvs.map (·.1)).Nodup
 sk:∀ q∈kvs,∃ s,q.1=Sum.inr s
theorem ShM.v {a:Ad}{b:Bool}{G:Hq}{p:Addr}{S:Addr->Prop}{T:List Tl}{n:Int}{dx d:Addr}{kvs:List (Key×Z)}(H:ShM a b G p S T n dx d kvs):ShV a b G p S T n dx d kvs:=⟨H.ob,H.sp,H.sd,.inl H.dc,H.len,H.no,H.hs,H.al,H.nd,H.sk⟩
theorem ShV.keep {a:Ad}{b:Bool}{G G':Hq}{p:Addr}{S:Addr->Prop}{T:List Tl}{n:Int}{dx d:Addr}{kvs:List (Key×Z)}(H:ShV a b G p S T n dx d kvs) (q:KS S G G'):ShV a b G' p S T n dx d kvs:=
 ⟨q _ _ H.sp H.ob,H.sp,H.sd,H.dc.imp (q _ _ H.sd) (q _ _ H.sd),H.len,H.no,λk z e=>let ⟨h,c,g⟩:=H.hs k z e;⟨h,c,g.keepL λx ws s e=>q x _ s e⟩,(λb hb=>let ⟨o,e⟩:=H.al b hb;⟨o,q b o hb e⟩),H.nd,H.sk⟩
noncomputable def SheetV (a:Ad) (b:Bool) (G:Hq) (p:Addr) (S:Addr->Prop) (T:List Tl):Prop:=∃ dx d kvs,ShV a b G p S T T.length dx d kvs
theorem Sheet.v {a:Ad}{b:Bool}{G:Hq}{p:Addr}{S:Addr->Prop}{T:List Tl}(H:Sheet a b G p S T):SheetV a b G p S T:=let ⟨dx,d,kvs,h⟩:=H;⟨dx,d,kvs,h.v⟩
theorem SheetV.keep {a:Ad}{b:Bool}{G G':Hq}{p:Addr}{S:Addr->Prop}{T:List Tl}(H:SheetV a b G p S T) (q:KS S G G'):SheetV a b G' p S T:=let ⟨dx,d,kvs,h⟩:=H;⟨dx,d,kvs,h.keep q⟩
theorem b6U (h:t σ G λws G1=>sp ws G1 R EE):b5d sp EE t σ G R:=h
theorem b6V (h:te σ G λ_ G1=>EE C G1):b5e EE C te nx rt bk ct σ G:=h
theorem b6W (h:to σ G λx G1=>∃ q dx fs,x=.ref q/\G1 q=some (.ins C dx fs)/\fs.lookup m=none/\t σ G1 λws G2=>sp (.ref q::ws) G2 R EE):b5f C m sp EE to t σ G R:=h
local macro_rules | `(tactic| walk_at "go1")=>`(tactic| with_reducible (first | refine b6U ?_ | refine b6V ?_ | refine b6W ?_ | refine i_tryM ?_))
noncomputable def a1k (a:Ad):PX3:=λws G R EE=>∃ x,ws=[x]/\Th G x/\∀ G',Sm G G'->if a23 x=true then R .non G' else EE a.x_NoName G'
theorem a5l {a:Ad}{ws:List Z}{G:Hq}{R:K3}{EE:Addr->Hq->Prop}(h:a1k a ws G R EE):ws.length=1:=by obtain⟨_,rfl,_⟩:=h;rfl
theorem a07 (F:Fns K a) (T:Txt K mg a):FnOk P w K mg base (CXx P w) 2 a.f4 a.d4 ["thing"] (a3r K (a1k a)):=by
 have b:FnOk P w K mg base CX0 1 a.f0 a.d0 ["thing"] _:=a8L F T;refine fn3x F.n4 a50 (λg G R m h=>(by exact a5l h)) (λn A f s H E g G R m e h j=>?_);refine⟨_,(a0n (z_if (a4a (a27 (a0q b (e.mono (by decide)) rfl T.m0 F.n0.kp (a8w F) (a0b (a0c (pv 0)) a0h a0a))))
  (a0n (a7s Outs.of j rfl rfl T.x_NoName T.xi_NoName a38 a0d a0i))
  a00)),?_⟩
 obtain⟨x,rfl,k,q⟩:=h;symm;refine⟨_,rfl,k,λl i=>?_⟩;have d:=q l i;symm;refine ifNB (λc=>?_) λc=>?_
 ·rw[c]at d;exact d
 ·rw[c]at d;symm;exact d
noncomputable def a2a (a:Ad):PX3:=λws G R EE=>∃ x y,ws=[x,y]/\Th G x/\Th G y/\∀ G',Sm G G'->if strB x y=true then R .non G' else EE a.x_NoStretch G'
theorem a3Y {a:Ad}{ws:List Z}{G:Hq}{R:K3}{EE:Addr->Hq->Prop}(h:a2a a ws G R EE):ws.length=2:=by obtain⟨_,_,rfl,_⟩:=h;rfl
theorem a4q (F:Fns K a) (T:Txt K mg a):FnOk P w K mg base (CXx P w) 3 a.f6 a.d6 ["begin","end"] (a3r K (a2a a)):=by
 have b:FnOk P w K mg base CX0 2 a.f2 a.d2 ["begin","end"] _:=a59 F T;refine fn3x F.n6 a4f (λi G R n h=>(by exact a3Y h)) (λo A f s H E i G R n e h k=>?_);refine⟨_,(a0n (z_if (a4a (a27 (a0q b (e.mono (by decide)) rfl T.m2 F.n2.kp (a51 F) (a0b (a0c (pv 0)) (a0b (a0c (pv 1)) a0h a0a) a0a))))
  (a0n (a7s Outs.of k rfl rfl T.x_NoStretch T.xi_NoStretch a38 a0d a0i))
  a00)),?_⟩
 obtain⟨x,y,rfl,l,g,q⟩:=h;symm;refine⟨_,_,rfl,l,g,λm j=>?_⟩;have d:=q m j;symm;refine ifNB (λc=>?_) λc=>?_
 ·rw[c]at d;exact d
 ·rw[c]at d;symm;exact d
structure Tel (G:Hq) (z:Z) (h:Z) (nm:List Z) (x y:Z):Prop where
 e:z=.tup (h::(nm++[x,y]))
 l:(∃ k,nm=[k])\/∃ k w,nm=[k,w]
 n:∀ z∈nm,Th G z
 x:Th G x
 y:Th G y
theorem Tel.sm {x y:Z}(T:Tel G z h nm x y) (s:Sm G G'):Tel G' z h nm x y:=⟨T.e,T.l,λz a=>(T.n z a).sm s,T.x.sm s,T.y.sm s⟩
noncomputable def a2b (a:Ad):PX3:=λws G R EE=>Ex5 λ(z h:Z) (nm:List Z) (x y:Z)=>ws=[z]/\Tel G z h nm x y/\∀ G',Sm G G'->if nm.all a23=true then (if strB x y=true then R .non G' else EE a.x_NoStretch G') else EE a.x_NoName G'
theorem a3Z {a:Ad}{ws:List Z}{G:Hq}{R:K3}{EE:Addr->Hq->Prop}(h:a2b a ws G R EE):ws.length=1:=by obtain⟨_,_,_,_,_,rfl,_⟩:=h;rfl
theorem c1i:cutZ [h,k,x,y] (some 1) (some (-2))=[k]:=rfl
theorem c1j {h k w x y:Z}:cutZ [h,k,w,x,y] (some 1) (some (-2))=[k,w]:=rfl
theorem a8N {l:List Z}(h:x∈l) (c:f x=false):l.all f=false:=List.all_eq_false.mpr ⟨x,h,by rw[c];decide⟩
theorem b0o {l:List Z}(h:(l.take i).all f=true) (e:l[i]?=some x) (c:f x=true):(l.take (i+1)).all f=true:=by
 rw[fq,List.all_append,h,e]
 show (true&&([x].all f))=true
 rw[fP,c];rfl
theorem a4r (F:Fns K a) (T:Txt K mg a):FnOk P w K mg base (CXx P w) 4 a.f30 a.d30 ["telling"] (a3r K (a2b a)):=by
 have G_p_check_stretch:=a4q (P:=P) (w:=w) (base:=base) F T;have G_p_check_name:=a07 (P:=P) (w:=w) (base:=base) F T;refine fn3x F.n30 sc_p_check_telling (λws G R EE h=>(by exact a3Z h)) (λcdv A outer s H E ws G R EE hr h ux=>?_);have hu:=a0P hr;refine⟨_,(a0l (a4H (pt:=(.nm 1)) jQ.leaving rfl (b8e (a1F x_sl (a0c (pv 0)) (a15 a0g) (a15 (q_un a3I a0g)))) (show QP _ _ (.nm 1) from (a0p (i:=1) sc_p_check_telling.nd rfl (en rfl)))
  (a0n (a0X (a2g (a1y Outs.of) ux.since G_p_check_name (hr.mono (by decide)) rfl T.m4 F.n4.kp (a06 F) (a0b (a0c (pv 1)) a0h a0a) (he:=a0a) (hpl:=a0i)))))
  (a0n (a0X (a2g (a1y Outs.of) ux.since G_p_check_stretch (hr.mono (by decide)) rfl T.m6 F.n6.kp (a4i F) (a0b (q_ix x_ix (a0c (pv 0)) (q_un a3I a0g) (λ_ _=>rfl)) (a0b (q_ix x_ix (a0c (pv 0)) (q_un a3I a0g) (λ_ _=>rfl)) a0h a0k) a0k) (he:=a0k) (hpl:=(a0j a0k a0i)))))),?_⟩
 obtain⟨z,h,nm,x,y,rfl,⟨rfl,hl,hn,hx,hy⟩,q⟩:=h;rcases hl with ⟨k,rfl⟩ | ⟨k,w,rfl⟩
 ·show uSeq _ _ _ _ _ _ (a43 _ [.tup [h,k,x,y]]) _
  symm;refine b2g (show ¬ (HT.sIx 4 0 (some 1)=0/\HT.sIx 4 4 (some (-2))=4) by decide) ?_;rw[c1i];symm;refine a1X (λi σ G'=>∃ v:Option Z,Sm G G'/\(([k]:List Z).take i).all a23=true/\σ=[some (.tup [h,k,x,y]),v]) ⟨_,Sm.refl _,rfl,rfl⟩ (λ_ _ _ _ _=>True.intro) ?_ ?_
  ·rintro i u σ G' hu ⟨v,s,ha,rfl⟩;have hm:=eR hu;refine⟨_,rfl,?_⟩;symm;refine⟨u,rfl,(hn u hm).sm s,λG1 s1=>?_⟩;have q':=q G1 (s.trans s1);refine ifB (λc=>?_) λc=>?_
   ·symm;exact⟨_,s.trans s1,b0o ha hu c,rfl⟩
   ·rw[a8N hm c]at q';exact q'
  ·rintro σ G' ⟨v,s,ha,rfl⟩;have ha:([k]:List Z).all a23=true:=ha;symm;refine⟨x,y,rfl,hx.sm s,hy.sm s,λG1 s1=>?_⟩;have q':=q G1 (s.trans s1);rw[ha]at q';refine ifB (λc=>?_) λc=>?_
   ·rw[c]at q';symm;exact q'
   ·rw[c]at q';exact q'
 ·show uSeq _ _ _ _ _ _ (a43 _ [.tup [h,k,w,x,y]]) _
  symm;refine b2g (show ¬ (HT.sIx 5 0 (some 1)=0/\HT.sIx 5 5 (some (-2))=5) by decide) ?_;rw[c1j];symm;refine a1X (λi σ G'=>∃ v:Option Z,Sm G G'/\(([k,w]:List Z).take i).all a23=true/\σ=[some (.tup [h,k,w,x,y]),v]) ⟨_,Sm.refl _,rfl,rfl⟩ (λ_ _ _ _ _=>True.intro) ?_ ?_
  ·rintro i u σ G' hu ⟨v,s,ha,rfl⟩;have hm:=eR hu;refine⟨_,rfl,?_⟩;symm;refine⟨u,rfl,(hn u hm).sm s,λG1 s1=>?_⟩;have q':=q G1 (s.trans s1);refine ifB (λc=>?_) λc=>?_
   ·symm;exact⟨_,s.trans s1,b0o ha hu c,rfl⟩
   ·rw[a8N hm c]at q';exact q'
  ·rintro σ G' ⟨v,s,ha,rfl⟩;have ha:([k,w]:List Z).all a23=true:=ha;symm;refine⟨x,y,rfl,hx.sm s,hy.sm s,λG1 s1=>?_⟩;have q':=q G1 (s.trans s1);rw[ha]at q';refine ifB (λc=>?_) λc=>?_
   ·rw[c]at q';symm;exact q'
   ·rw[c]at q';exact q'
noncomputable def a13 (a:Ad):PX3:=λws G R EE=>∃ q n:Int,ws=[.int q,.int n]/\if 0<=q/\q<=n then R .non G else EE a.x_NoKnowing G
theorem a3s {a:Ad}{ws:List Z}{G:Hq}{R:K3}{EE:Addr->Hq->Prop}(h:a13 a ws G R EE):ws.length=2:=by obtain⟨_,_,rfl,_⟩:=h;rfl
theorem a30 (F:Fns K a) (T:Txt K mg a):FnOk P w K mg base (CXx P w) 1 a.f7 a.d7 ["knowing","last"] (a3r K (a13 a)):=by
 refine fn3x F.n7 a3Q (λd G R e h=>(by exact a3s h)) (λj A b s H E d G R e f h g=>?_);have l:=a0P f;refine⟨_,(a0n (z_if (QW.qt (q_or (a0s o_lt (a0c (pv 0)) a0g (a0o _)) (a70 (a0s o_gt (a0c (pv 0)) (a0c (pv 1)) (a0o _)))))
  (a0n (a7s Outs.of g rfl rfl T.x_NoKnowing T.xi_NoKnowing a38 a0d a0i))
  a00)),?_⟩
 obtain⟨q,n,rfl,k⟩:=h;symm;refine ifD (λc=>?_) λc=>?_
 ·rw[if_neg (by omega)]at k;symm;exact k
 ·symm;refine ifD (λi=>?_) λi=>?_
  ·rw[if_neg (by omega)]at k;symm;exact k
  ·rw[if_pos (by omega)]at k;symm;exact k
noncomputable def a2W:P3:=λws G R=>∃ (l:Addr) (L:List Rw) (τ:Tl),ws=[.ref l,τ.z]/\G l=some (.lst (L.map Rw.z))/\Rise L/\Plain L/\L.length<=400/\τ.Ok /\
 ∀ t G',G t=none->Sm G G'->G' t=some (.lst ((a8G L τ.b τ.e (optW τ.v)).map Rw.z))->R (.ref t) G'
theorem a4W (h:a2W ws G R):ws.length=2:=by obtain⟨_,_,_,rfl,_⟩:=h;rfl
theorem b9E:¬ (b5l=sPut):=by decide +kernel
theorem a5m (F:Fns K a) (T:Txt K mg a):FnOk P w K mg base CX0 4 a.f31 a.d31 ["line","telling"] (lowP K a2W):=by
 have d:FnOk P w K mg base CX0 3 a.f14 a.d14 ["line","begin","end","worth"] (lowP K a3W):=a9v F T;refine fn3 F.n31 sc_p_line_behind (λo G R h=>(by exact a4W h)) (λt A n s H E o G R f h=>?_);have r:=a0P f;refine⟨_,(a0l (a0J (i:=2) sc_p_line_behind.nd rfl (en rfl) (q_if (a0s (o_eq r) (q_ix x_ix (a0c (pv 1)) a0g (λ_ _=>rfl)) a38 (a0o _)) (q_ix x_ix (a0c (pv 1)) a0g (λ_ _=>rfl)) a1Q))
  (a0n (a0v (a0q d (f.mono (by decide)) rfl T.m14 F.n14.kp (a9q F) (a0b (a0c (pv 0)) (a0b (q_ix x_ix (a0c (pv 1)) (q_un a3I a0g) (λ_ _=>rfl)) (a0b (q_ix x_ix (a0c (pv 1)) (q_un a3I a0g) (λ_ _=>rfl)) (a0b (a0c (pv 2)) a0h a0a) a0k) a0k) a0a))))),?_⟩
 obtain⟨l,L,⟨u,w,b,e⟩,rfl,k,f,g,x,m,q⟩:=h;have j:=m.st.bef;have p:=m.v;cases w with
 | none=>
  unfold Tl.z;symm;refine ifD (λc=>absurd c b9E) λ_=>?_;symm;exact⟨l,L,b,e,.non,rfl,k,f,g.okR,g.one,by omega,j,rfl,q⟩
 | some w=>
  unfold Tl.z;symm;refine ifD (λ_=>?_) λc=>absurd rfl c;symm;exact⟨l,L,b,e,.str w,rfl,k,f,g.okR,g.one,by omega,j,a3a (by decide) p,q⟩
noncomputable def a2p (a:Ad):P3:=λws G R=>∃ b p dx,ws=[.ref p]/\G p=some (.ins (a.cK b) dx [])/\∀ d G',G d=none->(∀ b o,G b=some o->b≠p->G' b=some o)->Sheet a b G' p (λx=>x=p\/x=d) []->R .non G'
theorem a4s {a:Ad}{ws:List Z}{G:Hq}{R:K3}(h:a2p a ws G R):ws.length=1:=by obtain⟨_,_,_,rfl,_⟩:=h;rfl
theorem a4X (F:Fns K a) (T:Txt K mg a):FnOk P w K mg base CX0 1 a.f44 a.d44 ["self"] (lowP K (a2p a)):=by
 refine fn3 F.n44 a4Q (λn G R h=>(by exact a4s h)) (λu A l s H E n G R t h=>?_);have x:=a0P t;obtain⟨b,h⟩:=h;refine⟨_,(a0l (b8Z (clK T b) (a3o T b) (a0c (pv 0)) a0g)
  (a0n (b8Z (clK T b) (b0b T b) (a0c (pv 0)) b8m))),?_⟩
 obtain⟨p,i,rfl,r,q⟩:=h;symm;refine⟨p,i,[],rfl,r,by decide,?_⟩;symm;intro d g;have c:=a0R a0e g;symm;refine⟨p,i,[(a9A,.int 0)],rfl,by rw[a0H c];exact a0e,by decide,?_⟩;rw[b6S];symm;have f:G d=none:=by rw[a0H (Ne.symm c)]at g;exact g
 refine q d _ f (λb o e j=>?_) ⟨i,d,[],⟨a0e,.inl rfl,.inr rfl,?_,by simp,λk _=>rfl,(λk z e=>by cases e),(λk v z e=>by cases e),?_,.nil,λq m=>by simp at m⟩⟩
 ·rw[a0H j,a0H (a0R e f),a0H j];exact e
 ·rw[a0H (Ne.symm c)];exact a0e
 ·rintro b (rfl | rfl)
  ·exact⟨_,a0e⟩
  ·exact⟨_,by rw[a0H (Ne.symm c)];exact a0e⟩
noncomputable def a1p (a:Ad):PX3:=λws G R EE=>∃ b:Bool,Ex4 λ(p:Addr) (S:Addr->Prop) (T:List Tl) (q:Int)=>ws=[.ref p,.int q]/\SheetV a b G p S T/\if 0<=q/\q<=T.length then R .non G else EE a.x_NoKnowing G
theorem a2R {a:Ad}{ws:List Z}{G:Hq}{R:K3}{EE:Addr->Hq->Prop}(h:a1p a ws G R EE):ws.length=2:=by obtain⟨_,_,_,_,_,rfl,_⟩:=h;rfl
theorem a0V (F:Fns K a) (T:Txt K mg a):FnOk P w K mg base (CXx P w) 2 a.f17 a.d17 ["self","knowing"] (a3r K (a1p a)):=by
 have e:FnOk P w K mg base (CXx P w) 1 a.f7 a.d7 ["knowing","last"] _:=a30 F T;refine fn3x F.n17 a22 (λl G R i h=>(by exact a2R h)) (λo A g s H E l G R i f h j=>?_);have t:=a0P f;obtain⟨b,h⟩:=h;refine⟨_,(a0n (a0X (a2g (a1y Outs.of) j.since e (f.mono (by decide)) rfl T.m7 F.n7.kp (a3S F) (a0b (a0c (pv 1)) (a0b (a5c (clK T b) (a3o T b) (a0c (pv 0))) a0h a1C) a0a)))),?_⟩;obtain⟨p,S,T',q,rfl,⟨m,d,r,n⟩,k⟩:=h;symm;refine⟨p,m,_,_,rfl,n.ob,a3c,?_⟩;symm;refine⟨q,_,rfl,?_⟩
 by_cases c:0<=q/\q<=T'.length
 ·omega
 ·omega
noncomputable def a1A (a:Ad) (b:Bool):P3:=λws G R=>Ex9 λ(p:Addr) (S:Addr->Prop) (T:List Tl) (k:Str) (q:Int) (n:Int) (dx d:Addr) (kvs:List (Key×Z))=>ws=[.ref p,.str k,.int q]/\ShV a b G p S T n dx d kvs/\0<=q/\q<=T.length/\T.length<=200 /\
 ∀ t L G',G t=none->Sm G G'->G' t=some (.lst (L.map Rw.z))->IsLine (T.take q.toNat) k L->R (.ref t) G'
theorem a3e {a:Ad}{b:Bool}{ws:List Z}{G:Hq}{R:K3}(h:a1A a b ws G R):ws.length=3:=by obtain⟨_,_,_,_,_,_,_,_,_,rfl,_⟩:=h;rfl
abbrev a31 (a:Ad):P3:=a1A a false
abbrev a32 (a:Ad):P3:=a1A a true
theorem b6X (l:List Rw):l.filterMap (λr=>some r)=l:=by simp
theorem a33 (F:Fns K a) (T:Txt K mg a):FnOk P w K mg base CX0 3 a.f18 a.d18 ["self","key","knowing"] (lowP K (a31 a)):=by
 refine fn3 F.n18 sc_Sheet_known_line (λws G R h=>(by exact a3e h)) (λcdv A outer s H E ws G R hr h=>?_);have hu:=a0P hr;refine⟨_,(a0l (a4H (pt:=(.tp [3,4])) jQ.never rfl (a9i rfl T.b_reversed (a0b (q_bm PySem.F.plainAttrs_dict PySem.F.slot_dict_get PySem.F.type_dict_get (b2A hu) (a5c T.cl_Sheet T.na_kept (a0c (pv 0))) (a0b (a0c (pv 1)) (a0b (a21 a0h) a0h a5G) a0a)) a0h a0M)) (show QP _ _ (.tp [3,4]) from (a36 rfl (a0y (a0p (i:=3) sc_Sheet_known_line.nd rfl (en rfl)) (a0y (a0p (i:=4) sc_Sheet_known_line.nd rfl (en rfl)) a2v))))
  (a0n (z_if (a0s o_le (a0c (pv 3)) (a0c (pv 2)) (a0o _))
  (a0n (a0v (q_lc (N₀:=["self","key","knowing","since","line"]) (so:=a0f a0Y) (N':=["begin","end","worth"]) (cap:=[none,none,none]) (pt:=(.tp [0,1,2])) rfl rfl rfl (by decide +kernel) rfl (a0C (a0c (pv 4))) (λ_ _ _ _=>(show QP _ _ (.tp [0,1,2]) from (a36 rfl (a0y (a0p (i:=0) b6E rfl (en rfl)) (a0y (a0p (i:=1) b6E rfl (en rfl)) (a0y (a0p (i:=2) b6E rfl (en rfl)) a2v)))))) (λ_ _ _ _=>a3H) (λ_ _ _ _=>(a1W (a0b (a0c (pv 0)) (a0b (a0c (pv 1)) (a0b (a0c (pv 2)) a0h a0a) a0a) a0a))))))
  a00)))
  (a0n (a0v (a21 a0h)))),?_⟩
 obtain⟨p,S,T,k,q,n,dx,d,kvs,rfl,sh,h0,h1,hT,fin⟩:=h;obtain⟨q,rfl⟩:=fX h0;symm;refine⟨p,dx,_,_,rfl,sh.ob,a4V,?_⟩;refine b89 sh.dc ?_;symm;refine⟨lenK rfl,λt0 ht0=>?_⟩;symm;refine b2B (sh.dc.imp (λe=>a0m e ht0) λe=>a0m e ht0) rfl ?_;have s0:Sm G (put G t0 (.lst [])):=Sm.new ht0;have none_:(∀ i∈ix T k,(q:Int)<i)->∀ (v1 v2:Option Z) (G1:Hq),Sm G G1->∀ t,G1 t=none->R (.ref t) (put G1 t (.lst [])):=λhi _ _ G1 s1 t ht=>
  fin t [] _ (s1.free ht) (s1.trans (Sm.new ht)) a0e (by
   have e:((q:Int)).toNat=q:=by omega
   rw[e];exact IsLine.nil (a6b hi))
 cases hv:valZ kvs (.inr k) with
 | none=>
  symm;refine⟨t0,[],rfl,a0e,?_⟩;refine a1X (λi σ G'=>∃ v1 v2:Option Z,σ=[some (.ref p),some (.str k),some (.int q),v1,v2]/\G'=put G t0 (.lst [])) ⟨_,_,rfl,rfl⟩ (λi σ G' _ ⟨_,_,_,e⟩=>by rw[e];exact a0e) ?_ ?_
  ·rintro i x σ G' hx _;simp at hx
  ·rintro σ G' ⟨v1,v2,rfl,rfl⟩;symm;refine⟨lenK rfl,λt ht=>?_⟩;exact none_ (λi hi=>by rw[sh.no k hv]at hi;simp at hi) v1 v2 _ s0 t ht
 | some z=>
  obtain⟨h,rfl,es,H⟩:=sh.hs k z hv;symm;refine⟨h,_,rfl,a0m H.at_ ht0,?_⟩;rw[<- List.map_reverse];refine a1X (λi σ G'=>∃ v1 v2:Option Z,(∀ (j:Nat) e,j<i->es.reverse[j]?=some e->(q:Int)<e.1)/\σ=[some (.ref p),some (.str k),some (.int q),v1,v2]/\G'=put G t0 (.lst [])) ⟨_,_,λj e hj=>by omega,rfl,rfl⟩ (λi σ G' _ ⟨_,_,_,_,e⟩=>by rw[e];exact a0m H.at_ ht0) ?_ ?_
  ·rintro i x σ G' hx ⟨v1,v2,hall,rfl,rfl⟩;rw[eK]at hx;cases hx':es.reverse[i]? with
   | none=>rw[hx']at hx;cases hx
   | some e=>
   rw[hx']at hx;cases hx;obtain⟨s,l⟩:=e;have hmem:(s,l)∈es:=by have:=eR hx';simpa using this
   have hix:s∈ix T k:=by rw[<- H.ix];exact fC (f:=(·.1)) hmem
   obtain⟨hs1,hs2⟩:=b6M hix;obtain⟨_,L,gl,il⟩:=H.ln _ hmem;refine⟨_,rfl,?_⟩;symm;refine ifD (λc=>?_) λc=>?_
   ·symm;refine a1r (a0m gl ht0) ?_;intro D hD;have hone:=il.pl.one;have hll:L.length<=1000:=by have:=il.len;rw[eL]at this;omega
    refine a54 (g':=Rw.z) (λr=>some r) (λys=>a0m (a0m gl ht0) hD) hll ?_ ?_
    ·intro r hr ys K1 K2 k1 k2;obtain⟨x,hx⟩:=hone r hr;obtain⟨b,e,w⟩:=r;cases hx;refine⟨_,rfl,?_⟩;symm;refine⟨lenK rfl,?_⟩;exact k1 ⟨b,e,[x]⟩ rfl
    ·rw[b6X];refine fin D L _ (s0.free hD) (s0.trans (Sm.new hD)) a0e ?_;have e1:((q:Int)).toNat=q:=by omega
     rw[e1];have il':IsLine (T.take s.toNat) k L:=il;refine il'.cut (by omega) λj hj=>?_;rw[<- H.ix]at hj;obtain⟨e2,he2,rfl⟩:=eG.mp hj
     by_cases c2:e2.1<=s
     ·left;omega
     ·right
      have he3:e2∈es.reverse:=by simpa using he2
      obtain⟨m,hm⟩:=gn he3
      by_cases hmi:m<i
      ·exact hall m e2 hmi hm
      ·exfalso;have hst:(ix T k).Pairwise (·<·):=a6a T k
       rw[<- H.ix]at hst;have hst2:es.reverse.Pairwise (λx y=>y.1<x.1):=by
        rw[jy];exact fM.mp hst
       by_cases hmi2:m=i
       ·subst hmi2;rw[hx']at hm;cases hm;omega
       ·obtain⟨l1,e5⟩:=eJ.mp hx';obtain⟨l2,e6⟩:=eJ.mp hm
        have:=gm.mp hst2 i m l1 l2 (by omega)
        rw[e5,e6]at this;simp only at this;omega
   ·symm;refine⟨_,_,λj e hj he=>?_,rfl,rfl⟩
    by_cases hji:j<i
    ·exact hall j e hji he
    ·have:j=i:=by omega
     subst this;rw[hx']at he;cases he;simp only;omega
  ·rintro σ G' ⟨v1,v2,hall,rfl,rfl⟩;symm;refine⟨lenK rfl,λt ht=>?_⟩;refine none_ (λj hj=>?_) v1 v2 _ s0 t ht;rw[<- H.ix]at hj;obtain⟨e2,he2,rfl⟩:=eG.mp hj;have he3:e2∈es.reverse:=by simpa using he2
   obtain⟨m,hm⟩:=gn he3;exact hall m e2 (by rw[er];exact (eJ.mp hm).1) hm
noncomputable def Nmd (l:List Rw):Prop:=∀ r∈l,∃ w,r.w=[.str w]
noncomputable def NmT (ts:List Ti):Prop:=∀ t∈ts,∃ w,t.r.w=[.str w]
theorem a3A {α β:Type}{l:List α}{g:α->Z}{g':β->Z}(f:α->Option β) (hok:∀ ys,ok (put G1 D (.lst ys))) (hz:l.length<=100000)
  (turn:∀ x,x∈l->∀ (ys:List Z) (K1:K3) (K2:Hq->Prop),(∀ y,f x=some y->K1 (g' y) (put G1 D (.lst ys)))->(f x=none->K2 (put G1 D (.lst ys)))->∃ σ',a5H pt (g x) (cap3 cap σ)=some σ'/\tt σ' (put G1 D (.lst ys)) λb G4=>if b=true then te σ' G4 K1 else K2 G4)
  (fin:R (.ref D) (put G1 D (.lst ((l.filterMap f).map g')))):LCB (l.map g) ok cap pt tt te σ R D G1:=by
 refine b15 (λi c G=>c=((l.take i).filterMap f).map g'/\G=put G1 D (.lst c)) ⟨by simp,rfl⟩ ?_ ?_ ?_
 ·simp_all
 ·rintro i x c G d ⟨e,rfl⟩;rw[eK]at d;cases hx':l[i]? with
  | none=>rw[hx']at d;cases d
  | some a=>
   rw[hx']at d;cases d;have k:=(eJ.mp hx').1;refine turn a (eR hx') c _ _ (λy j=>⟨a0e,?_,?_,?_⟩) λh=>⟨?_,rfl⟩
   ·rw[e,er];refine gG (eM (gj _ _) (by rw[eL];omega:_<=99999)) (by decide)
   ·rw[a1c hx',j,e,eN];rfl
   ·rw[a26]
   ·rw[a1c hx',h,e];simp
 ·simp_all
noncomputable def a6f:P3:=λws G R=>∃ (k:Str) (t:Ti),ws=[t.z k]/\(∃ w,t.r.w=[.str w])/\R t.r.z G
theorem a8O (h:a6f ws G R):ws.length=1:=by obtain⟨_,_,rfl,_⟩:=h;rfl
theorem a6g (F:Fns K a) (T:Txt K mg a):FnOk P w K mg base CX0 1 a.f19 a.d19 ["tile"] (lowP K a6f):=by
 refine fn3 F.n19 a9p (λd G R h=>(by exact a8O h)) (λf A c s H E d G R e h=>?_);refine⟨_,(a0n (a0v (a1W (a0b (q_ix x_ix (a0c (pv 0)) a0g (λ_ _=>rfl)) (a0b (q_ix x_ix (a0c (pv 0)) a0g (λ_ _=>rfl)) (a0b (q_ix x_ix (a0c (pv 0)) a0g (λ_ _=>rfl)) a0h a0k) a0k) a0k)))),?_⟩;obtain⟨k,⟨⟨i,j,g⟩,s,u⟩,rfl,⟨w,b⟩,q⟩:=h;subst b;unfold Ti.z;symm;refine⟨lenK rfl,?_⟩;symm;exact q
noncomputable def a2X:P3:=λws G R=>∃ (k:Str) (t:Ti),ws=[t.z k]/\R (.bl t.u.isNone) G
theorem a4Y (h:a2X ws G R):ws.length=1:=by obtain⟨_,_,rfl,_⟩:=h;rfl
theorem a2Y (F:Fns K a) (T:Txt K mg a):FnOk P w K mg base CX0 1 a.f20 a.d20 ["tile"] (lowP K a2X):=by
 refine fn3 F.n20 a5e (λd G R h=>(by exact a4Y h)) (λe A b s H E d G R c h=>?_);refine⟨_,(a0n (a0v (a39 o_is (q_ix x_ix (a0c (pv 0)) a0g (λ_ _=>rfl)) a1Q (a0o _)))),?_⟩;obtain⟨k,⟨r,s,u⟩,rfl,q⟩:=h;unfold Ti.z;symm;refine c1b ?_;rw[Option.not_isSome];exact q
noncomputable def a3B:P3:=λws G R=>∃ (k:Str) (t:Ti) (n:Int),ws=[t.z k,.int n]/\R (.bl (t.at_ n)) G
theorem a6h (h:a3B ws G R):ws.length=2:=by obtain⟨_,_,_,rfl,_⟩:=h;rfl
theorem a6w (F:Fns K a) (T:Txt K mg a):FnOk P w K mg base CX0 2 a.f21 a.d21 ["tile","knowing"] (lowP K a3B):=by
 have b:FnOk P w K mg base CX0 1 a.f20 a.d20 ["tile"] _:=a2Y F T;refine fn3 F.n21 a6o (λg G R h=>(by exact a6h h)) (λi A f s H E g G R d h=>?_);have j:=a0P d;refine⟨_,(a0n (a0v (a72 (a39 o_le (q_ix x_ix (a0c (pv 0)) a0g (λ_ _=>rfl)) (a0c (pv 1)) (a0o _)) (a71 (b53 (a0q b (d.mono (by decide)) rfl T.m20 F.n20.kp (a1L F) (a0b (a0c (pv 0)) a0h a0a)) (a71 (a39 o_lt (a0c (pv 1)) (q_ix x_ix (a0c (pv 0)) a0g (λ_ _=>rfl)) (a0o _)))))))),?_⟩;obtain⟨k,t,n,rfl,q⟩:=h;unfold Ti.at_ at q;unfold Ti.z;symm;refine ifD (λc=>?_) λc=>?_
 ·rw[decide_eq_true c]at q;symm;refine⟨k,t,rfl,?_⟩;cases e:t.u with
  | none=>
   rw[e]at q;symm;exact q
  | some x=>
   rw[e]at q;symm;rw[if_neg (by simp)];symm;exact q
 ·simp_all
noncomputable def a2S:P3:=λws G R=>Ex6 λ(p l:Addr) (k:Str) (ts:List Ti) (L:List Rw) (n:Int)=>ws=[.ref p,.str k,.ref l,.int n]/\G p=some (.lst (ts.map (Ti.z k)))/\G l=some (.lst (L.map Rw.z))/\NmT ts/\Nmd L/\ts.length<=90000/\L.length<=900/\(stR ts).length<=900 /\
 ∀ t G',G t=none->Sm G G'->G' t=some (.lst ((tOn ts L n).map (Ti.z k)))->R (.ref t) G'
theorem a6x (h:a2S ws G R):ws.length=4:=by obtain⟨_,_,_,_,_,_,rfl,_⟩:=h;rfl
noncomputable def prR (r:Rw):Z:=.tup [r.z,.bl true]
noncomputable def prK (r:Rw):List Key×Z:=(rnK r,.bl true)
theorem b5n (h:Nmd L):L.map prR=(L.map prK).map prT:=by
 rw[fB];refine gx λr a=>?_
 show Z.tup [r.z,.bl true]=.tup [.tup ((rnK r).map keyW),.bl true]
 rw[b29 (h r a)]
theorem b5o (h:Nmd L) (hr:∃ w,r.w=[.str w]) (hk:∀ j,j∈ks↔j∈(L.map prK).map (·.1)):hasK ks (rnK r)=hasR L r:=by
 rw[fZ,b4i,hasR_iff,hk,fB,eG];exact⟨λ⟨s,a,e⟩=>b6R (h s a) hr e▸a,λa=>⟨r,a,rfl⟩⟩
theorem c1k (ts:List Ti):ts.filterMap (λt=>if t.u.isNone=true then some t.r else none)=stR ts:=by
 unfold stR
 induction ts with
 | nil=>rfl
 | cons t ts ih=>
  rw[fD,fw];cases t.u.isNone
  ·exact ih
  ·show t.r::_=_
   rw[ih];rfl
theorem b6Y {α:Type}(l:List α):l.filterMap (λr=>some r)=l:=by simp
theorem b3c {α:Type}{p:α->Bool}(l:List α):l.filterMap (λr=>if p r=true then some r else none)=l.filter p:=by
 induction l with
 | nil=>rfl
 | cons r l ih=>
  rw[fD,fw];cases p r
  ·exact ih
  ·simp_all
theorem b5p {α β:Type}{f:α->β}(l:List α):l.filterMap (λr=>some (f r))=l.map f:=by simp
theorem cut5 {a b c d e f:Z}:cutZ [a,b,c,d,e,f] none (some 5)=[a,b,c,d,e]:=rfl
theorem b5q (h:NmT ts):Nmd (stR ts):=λr b=>by
 obtain⟨t,a,rfl⟩:=eG.mp b;exact h t (fj.mp a).1
theorem a7K (F:Fns K a) (T:Txt K mg a):FnOk P w K mg base CX0 2 a.f32 a.d32 ["tiles","key","line","knowing"] (lowP K a2S):=by
 have G_p_run_of:=a6g (P:=P) (w:=w) (base:=base) F T;have G_p_is_standing:=a2Y (P:=P) (w:=w) (base:=base) F T;refine fn3 F.n32 sc_p_tiled_on (λws G R h=>(by exact a6x h)) (λcdv A outer s H E ws G R hr h=>?_);have hu:=a0P hr;refine⟨_,(a0l (a0J (i:=4) sc_p_tiled_on.nd rfl (gf rfl) (a5q (b2K rfl hu) rfl T.b_dict rfl (a0b (q_lc (N₀:=["tiles","key","line","knowing","wanted","standing","begun","ended"]) (so:=a0f a0Q) (N':=["run"]) (cap:=[none]) (pt:=(.nm 0)) rfl rfl rfl (by decide +kernel) rfl (a0C (a0c (pv 2))) (λ_ _ _ _=>(show QP _ _ (.nm 0) from (a0p (i:=0) c08 rfl (en rfl)))) (λ_ _ _ _=>a3H) (λ_ _ _ _=>(a1W (a0b (a0c (pv 0)) (a0b q_bl a0h a0d) a0a)))) a0h a0B) (he:=a0B) (hpl:=a0i)))
  (a0l (a0J (i:=5) sc_p_tiled_on.nd rfl (gf rfl) (a5q (b2K rfl hu) rfl T.b_dict rfl (a0b (q_lc (N₀:=["tiles","key","line","knowing","wanted","standing","begun","ended"]) (so:=a0f a0Q) (N':=["tile"]) (cap:=[none]) (pt:=(.nm 0)) rfl rfl rfl (by decide +kernel) rfl (a0C (a0c (pv 0))) (λ_ _ _ _=>(show QP _ _ (.nm 0) from (a0p (i:=0) c09 rfl (en rfl)))) (λ_ _ _ _=>(a1f (a27 (a0q G_p_is_standing (hr.mono (by decide)) rfl T.m20 F.n20.kp (a1L F) (a0b (a0c (pv 0)) a0h a0a) (he:=a0a) (hpl:=a0i))))) (λ_ _ _ _=>(a1W (a0b (a0q G_p_run_of (hr.mono (by decide)) rfl T.m19 F.n19.kp (a3U F) (a0b (a0c (pv 0)) a0h a0a) (he:=a0a) (hpl:=a0i)) (a0b q_bl a0h a0d) a0M)))) a0h a0B) (he:=a0B) (hpl:=a0i)))
  (a0l (a88 (i:=6) sc_p_tiled_on.nd rfl rfl (N₀:=["tiles","key","line","knowing","wanted","standing","begun","ended"]) (so:=a0f a0Q) (N':=["run","standing"]) (cap:=[none,some 5]) (pt:=(.nm 0)) rfl rfl rfl (by decide +kernel) rfl (a0C (a0c (pv 2))) (λ_ _ _ _=>(show QP _ _ (.nm 0) from (a0p (i:=0) b9k rfl (en rfl)))) (λ_ _ _ _=>(a1f (a0s (a98 hu) (a0c (pv 0)) (a0c (pv 1)) (by with_unfolding_all rfl)))) (λ_ _ _ _=>(a0c (pv 0))))
  (a0l (a88 (i:=7) sc_p_tiled_on.nd rfl rfl (N₀:=["tiles","key","line","knowing","wanted","standing","begun","ended"]) (so:=a0f a0Q) (N':=["tile","wanted","knowing"]) (cap:=[none,some 4,some 3]) (pt:=(.nm 0)) rfl rfl rfl (by decide +kernel) rfl (a0C (a0c (pv 0))) (λ_ _ _ _=>(show QP _ _ (.nm 0) from (a0p (i:=0) b9l rfl (en rfl)))) (λ_ _ _ _=>a3H) (λ_ _ _ _=>(q_if (QW.qt (a7h (a27 (a0q G_p_is_standing (hr.mono (by decide)) rfl T.m20 F.n20.kp (a1L F) (a0b (a0c (pv 0)) a0h a0a) (he:=a0a) (hpl:=a0i))) (a44 (a0s (a98 hu) (a0q G_p_run_of (hr.mono (by decide)) rfl T.m19 F.n19.kp (a3U F) (a0b (a0c (pv 0)) a0h a0a) (he:=a0a) (hpl:=a0i)) (a0c (pv 1)) (by with_unfolding_all rfl))))) (q_op a1a (a1F x_sl (a0c (pv 0)) a1z (a15 a0g)) (a1W (a0b (a0c (pv 2)) a0h a0a))) (a0c (pv 0)))))
  (a0n (a0v (q_op a1a (a0c (pv 7)) (q_lc (N₀:=["tiles","key","line","knowing","wanted","standing","begun","ended"]) (so:=a0f a0Q) (N':=["begin","end","worth","key","knowing"]) (cap:=[none,none,none,some 1,some 3]) (pt:=(.tp [0,1,2])) rfl rfl rfl (by decide +kernel) rfl (a0C (a0c (pv 6))) (λ_ _ _ _=>(show QP _ _ (.tp [0,1,2]) from (a36 rfl (a0y (a0p (i:=0) b2O rfl (en rfl)) (a0y (a0p (i:=1) b2O rfl (en rfl)) (a0y (a0p (i:=2) b2O rfl (en rfl)) a2v)))))) (λ_ _ _ _=>a3H) (λ_ _ _ _=>(a1W (a0b (a0c (pv 3)) (a0b (a0c (pv 2)) (a0b (a0c (pv 0)) (a0b (a0c (pv 1)) (a0b (a0c (pv 4)) (a0b a1Q a0h a0d) a0a) a0a) a0a) a0a) a0a))))))))))),?_⟩
 obtain⟨p,l,k,ts,L,n,rfl,gp,gl,nt,nl,zt,zl,zs,fin⟩:=h;symm;refine a1r gl ?_;intro D hD;refine a3A (g':=prR) (λr=>some r) (λys=>a0m gl hD) (by omega) ?_ ?_
 ·intro r hr ys K1 K2 k1 k2;refine⟨_,rfl,?_⟩;symm;refine⟨lenK rfl,?_⟩;symm;exact k1 r rfl
 rw[b6Y,b5n nl];have gD:put G D (.lst ((L.map prK).map prT)) D=some (.lst ((L.map prK).map prT)):=a0e;have s1:Sm G (put G D (.lst ((L.map prK).map prT))):=Sm.new hD;generalize put G D (.lst ((L.map prK).map prT))=G1 at gD s1 ⊢;symm;refine b2L gD (by rw[er];omega) λW ks hW hks=>?_;have gW:put G1 W (.dT ks) W=some (.dT ks):=a0e;have s2:Sm G (put G1 W (.dT ks)):=s1.trans (Sm.new hW);generalize put G1 W (.dT ks)=G2 at gW s2 ⊢;clear gD s1 hD hW;symm;refine a1r (s2 _ _ gp) ?_;intro E hE;refine a3A (g':=prR) (λt=>if t.u.isNone=true then some t.r else none) (λys=>a0m (s2 _ _ gp) hE) (by omega) ?_ ?_
 ·intro t ht ys K1 K2 k1 k2;refine⟨_,rfl,?_⟩;symm;refine⟨k,t,rfl,?_⟩;refine⟨_,rfl,?_⟩;refine ifB (λc=>?_) λc=>?_
  ·symm;refine⟨k,t,rfl,nt t ht,?_⟩;symm;refine⟨lenK rfl,?_⟩;symm;exact k1 t.r (if_pos c)
  ·exact k2 (if_neg (by rw[c];simp))
 rw[c1k,b5n (b5q nt)];have gE:put G2 E (.lst (((stR ts).map prK).map prT)) E=some (.lst (((stR ts).map prK).map prT)):=a0e;have s3:Sm G2 (put G2 E (.lst (((stR ts).map prK).map prT))):=Sm.new hE;generalize put G2 E (.lst (((stR ts).map prK).map prT))=G3 at gE s3 ⊢;symm;refine b2L gE (by rw[er];omega) λV vs hV hvs=>?_;have gV:put G3 V (.dT vs) V=some (.dT vs):=a0e;have s4:Sm G2 (put G3 V (.dT vs)):=s3.trans (Sm.new hV);generalize put G3 V (.dT vs)=G4 at gV s4 ⊢;have gW4:=s4 _ _ gW;have s04:=s2.trans s4;clear gE s3 hE hV s2 s4 gW;symm;refine a1r (s04 _ _ gl) ?_;intro B hB;refine a3A (g':=Rw.z) (λr=>if (!hasR (stR ts) r)=true then some r else none) (λys=>a0m (s04 _ _ gl) hB) (by omega) ?_ ?_
 ·intro r hr ys K1 K2 k1 k2;refine⟨_,rfl,?_⟩;symm;refine b9g (a0m gV hB) (b29 (nl r hr)).symm ?_;rw[b5o (b5q nt) (nl r hr) hvs];refine⟨_,rfl,?_⟩;refine ifB (λc=>?_) λc=>?_
  ·symm;exact k1 r (if_pos c)
  ·exact k2 (if_neg (by rw[c];simp))
 rw[b3c];have gB:put G4 B (.lst ((L.filter λr=>!hasR (stR ts) r).map Rw.z)) B=some (.lst ((L.filter λr=>!hasR (stR ts) r).map Rw.z)):=a0e;have s5:Sm G4 (put G4 B (.lst ((L.filter λr=>!hasR (stR ts) r).map Rw.z))):=Sm.new hB;generalize put G4 B (.lst ((L.filter λr=>!hasR (stR ts) r).map Rw.z))=G5 at gB s5 ⊢;have gW5:=s5 _ _ gW4;have s05:=s04.trans s5;symm;refine a1r (s05 _ _ gp) ?_;intro N hN;refine a3A (g':=Ti.z k) (λt=>some (endR L n t)) (λys=>a0m (s05 _ _ gp) hN) (by omega) ?_ ?_
 ·intro t ht ys K1 K2 k1 k2;refine⟨_,rfl,?_⟩;have kk:∀ t',endR L n t=t'->K1 (t'.z k) (put G5 N (.lst ys)):=λt' e=>k1 t' (by rw[e]);symm;refine⟨k,t,rfl,?_⟩;refine⟨_,rfl,?_⟩;refine ifB (λc=>?_) λc=>?_
  ·symm;refine⟨k,t,rfl,nt t ht,?_⟩;symm;refine b9g (a0m gW5 hN) (b29 (nt t ht)).symm ?_;rw[b5o nl (nt t ht) hks];refine⟨_,rfl,?_⟩;refine ifB (λc2=>?_) λc2=>?_
   ·have kk:=kk _ (if_pos (by rw[c];exact c2));symm;unfold Ti.z;refine b2g (show ¬ (HT.sIx 6 0 none=0/\HT.sIx 6 6 (some 5)=6) by decide) ?_;rw[cut5];symm;refine⟨lenK rfl,?_⟩;symm;refine b45 (by simp) (lenK rfl) ?_;exact kk
   ·have kk:=kk _ (if_neg (by rw[c,show (!hasR L t.r)=false from c2];simp));symm;exact kk
  ·have kk:=kk _ (if_neg (by rw[c];simp));symm;exact kk
 rw[b5p];have gN:put G5 N (.lst ((ts.map (endR L n)).map (Ti.z k))) N=some (.lst ((ts.map (endR L n)).map (Ti.z k))):=a0e;have s6:Sm G5 (put G5 N (.lst ((ts.map (endR L n)).map (Ti.z k)))):=Sm.new hN;generalize put G5 N (.lst ((ts.map (endR L n)).map (Ti.z k)))=G6 at gN s6 ⊢;have gB6:=s6 _ _ gB;have s06:=s05.trans s6;symm;refine a1r gB6 ?_;intro M hM;refine a3A (g':=Ti.z k) (λr=>some (newR n r)) (λys=>a0m gB6 hM) (eM (ik _ _) (by omega)) ?_ ?_
 ·intro r hr ys K1 K2 k1 k2;obtain⟨w,hw⟩:=nl r (fj.mp hr).1;obtain⟨rb,re,rw0⟩:=r;simp only at hw;subst hw;refine⟨_,rfl,?_⟩;symm;refine⟨lenK rfl,?_⟩;exact k1 _ rfl
 rw[b5p];refine b8w (a0m gN hM) a0e ?_ λt ht=>?_
 ·rw[er,er,er,er]
  have:=ik (λr=>!hasR (stR ts) r) L
  exact eM (by omega:_<=91000) (by decide)
 ·have sM:Sm G (put G6 M (.lst (((L.filter λr=>!hasR (stR ts) r).map (newR n)).map (Ti.z k)))):=s06.trans (Sm.new hM);refine fin t _ (sM.free ht) (sM.trans (Sm.new ht)) ?_;rw[a0e];unfold tOn;rw[eN]
theorem c1l:∀ {es:List (Int×List Rw)},(∀ e∈es,Nmd e.2)->NmT (TF es):=by
 intro b
 induction b using a7J with
 | h0=>exact λ_ t a=>by simp[TF]at a
 | h1 b e ih=>
  intro h t a;rw[a6c]at a;rcases et.mp a with a | a
  ·obtain⟨f,h0,rfl⟩:=eG.mp a;rw[b6O];exact ih (λx d=>h x (by simp[d])) f h0
  ·obtain⟨r,g,rfl⟩:=eG.mp a;exact h e (by simp) r (fj.mp g).1
theorem b6Z (ts:List Ti) (q:Int):ts.filterMap (λt=>if t.at_ q=true then some t.r else none)=a1P ts q:=by
 unfold a1P
 induction ts with
 | nil=>rfl
 | cons t ts ih=>
  rw[fD,fw];cases t.at_ q
  ·exact ih
  ·show t.r::_=_
   rw[ih];rfl
noncomputable def unK:List Key->Rw
 | [.inl (some b),.inl e,.inr s]=>⟨b,e,[.str s]⟩
 | _=>⟨0,none,[]⟩
theorem b5r (h:∃ w,r.w=[.str w]):unK (rnK r)=r:=by
 obtain⟨b,e,w⟩:=r;obtain⟨s,h⟩:=h;subst h
 rfl
theorem b9F (h:Nmd l):(l.map rnK).map unK=l:=by
 rw[fB];exact (gx λr a=>b5r (h r a)).trans (gv l)
theorem b5s (h:Nmd l):(l.map rnK).map L3.tupZ=l.map Rw.z:=by
 rw[fB];exact gx λr a=>c1h (h r a)
theorem b3d {L M:List Rw}{os:List (List Key)}(hc:Can L) (nl:Nmd L) (p:M.Perm L) (ho:os.Perm (M.map rnK)) (s:os.Pairwise (λx y=>Tim.ltT y x=false)):os.map L3.tupZ=L.map Rw.z:=by
 have c:=λr a=>nl r (p.mem_iff.mp a);have b:(os.map unK).map rnK=os:=by
  rw[fB];refine (gx λx f=>?_).trans (gv os);obtain⟨r,a,rfl⟩:=eG.mp (ho.mem_iff.mp f)
  show rnK _=rnK r
  rw[b5r (c r a)]
 have d:(os.map unK).Perm L:=by
  have:=ho.map unK
  rw[b9F c]at this;exact this.trans p
 have e:=b3a hc d (by simp_all);rw[<- b,e,b5s nl]
structure TsV (T:List Tl) (k:Str) (es:List (Int×List Rw)):Prop where
 ix:es.map (·.1)=ix T k
 ln:∀ e∈es,IsLine (T.take e.1.toNat) k e.2
theorem TsV.le {T:List Tl}{k:Str}{es:List (Int×List Rw)}(h:TsV T k es) {e:Int×List Rw}(he:e∈es):1<=e.1/\e.1<=T.length:=b6M (by rw[<- h.ix];exact fC he)
theorem TsV.run (h:TsV T k es):Run es T.length:=b4A (b28 h.ix) (λ_ a=>(h.le a).2) λe a=>(h.ln e a).can
theorem TsV.nm (h:TsV T k es):NmT (TF es):=c1l λe b r a=>a7I (h.ln e b) a
theorem TsV.len (h:TsV T k es) (hT:T.length<=200):(TF es).length<=80000:=by
 have d:=b9C (m:=400) λe c=>by
  have:=(h.ln e c).len
  rw[eL]at this;omega
 have a:es.length<=200:=by
  have b:=congrArg fb h.ix;rw[er]at b
  have:=b5m T k
  omega
 omega
theorem TsV.line (h:TsV T k es) (q:Nat):IsLine (T.take q) k (a3z es q):=b6Q h.ix h.ln q
theorem TsV.st (h:TsV T k es):(stR (TF es)).length<=2*T.length:=by
 rw[<- a9z h.run.ok (fc _),(h.run.p _).length_eq]
 have:=(h.line T.length).len
 rw[fS]at this;exact this
theorem b0p {a:Ad}{G:Hq}{p:Addr}{S:Addr->Prop}{T:List Tl}{n:Int}{dx d t0:Addr}{kvs:List (Key×Z)}(sh:ShV a true G p S T n dx d kvs) (ht0:G t0=none) (k:Str) :
  ∃ h es,(valZ kvs (.inr k)).getD (.ref t0)=.ref h/\put G t0 (.lst []) h=some (.lst ((TF es).map (Ti.z k)))/\TsV T k es/\(valZ kvs (.inr k)=none->es=[]):=by
 cases hv:valZ kvs (.inr k) with
 | none=>exact⟨t0,[],rfl,a0e,⟨by rw[sh.no k hv];rfl,λe he=>by simp at he⟩,λ_=>rfl⟩
 | some z=>
  obtain⟨h,rfl,es,H⟩:=sh.hs k z hv;exact⟨h,es,rfl,a0m H.at_ ht0,⟨H.ix,H.ln⟩,λe=>by cases e⟩
theorem a34 (F:Fns K a) (T:Txt K mg a):FnOk P w K mg base CX0 3 a.f22 a.d22 ["self","key","knowing"] (lowP K (a32 a)):=by
 have G_p_run_of:=a6g (P:=P) (w:=w) (base:=base) F T;have G_p_stands_at:=a6w (P:=P) (w:=w) (base:=base) F T;refine fn3 F.n22 a3R (λws G R h=>(by exact a3e h)) (λcdv A outer s H E ws G R hr h=>?_);have hu:=a0P hr;refine⟨_,(a0n (a0v (a0K b2I rfl T.b_sorted rfl (a0b (q_lc (N₀:=["self","key","knowing"]) (so:=a0f a0Z) (N':=["tile","knowing"]) (cap:=[none,some 2]) (pt:=(.nm 0)) rfl rfl rfl (by decide +kernel) rfl (a0C (q_bm PySem.F.plainAttrs_dict PySem.F.slot_dict_get PySem.F.type_dict_get (b2A hu) (a5c T.cl_Tiled T.naT_kept (a0c (pv 0))) (a0b (a0c (pv 1)) (a0b (a21 a0h) a0h a5G) a0a))) (λ_ _ _ _=>(show QP _ _ (.nm 0) from (a0p (i:=0) c05 rfl (en rfl)))) (λ_ _ _ _=>(a1f (a27 (a0q G_p_stands_at (hr.mono (by decide)) rfl T.m21 F.n21.kp (a6r F) (a0b (a0c (pv 0)) (a0b (a0c (pv 1)) a0h a0a) a0a) (he:=a0a) (hpl:=(a0j a0a a0i)))))) (λ_ _ _ _=>(a0q G_p_run_of (hr.mono (by decide)) rfl T.m19 F.n19.kp (a3U F) (a0b (a0c (pv 0)) a0h a0a) (he:=a0a) (hpl:=a0i)))) a0h a0B) (he:=a0B) (hpl:=a0i)))),?_⟩;obtain⟨p,S,T,k,q,n,dx,d,kvs,rfl,sh,h0,h1,hT,fin⟩:=h;obtain⟨q,rfl⟩:=fX h0;symm;refine⟨p,dx,_,_,rfl,sh.ob,a4V,?_⟩;refine b89 sh.dc ?_;symm;refine⟨lenK rfl,λt0 ht0=>?_⟩;symm;refine b2B (sh.dc.imp (λe=>a0m e ht0) λe=>a0m e ht0) rfl ?_;have s0:Sm G (put G t0 (.lst [])):=Sm.new ht0;obtain⟨h,es,hval,gh,tv,_⟩:=b0p sh ht0 k;rw[hval];generalize put G t0 (.lst [])=G1 at s0 gh ⊢;symm;refine a1r gh ?_;intro D hD;refine a3A (g':=Rw.z) (λt=>if t.at_ (q:Int)=true then some t.r else none) (λys=>a0m gh hD) (by have:=tv.len hT;omega) ?_ ?_
 ·intro t ht ys K1 K2 k1 k2;refine⟨_,rfl,?_⟩;symm;refine⟨k,t,_,rfl,?_⟩;refine⟨_,rfl,?_⟩;refine ifB (λc=>?_) λc=>?_
  ·symm;exact⟨k,t,rfl,tv.nm t ht,k1 t.r (if_pos c)⟩
  ·exact k2 (if_neg (by rw[c];simp))
 rw[b6Z];have il:=tv.line q;have nl:Nmd (a3z es q):=λr hr=>a7I il hr;have pm:=tv.run.p q;have nm:Nmd (a1P (TF es) q):=λr hr=>nl r (pm.mem_iff.mp hr);have s1:Sm G (put G1 D (.lst ((a1P (TF es) q).map Rw.z))):=s0.trans (Sm.new hD);refine b2J (rows:=(a1P (TF es) q).map rnK) (m:=3) (by rw[b5s nm];exact a0e) ?_ ?_ ?_ ?_ λt os ht hp hs=>?_
 ·rw[er,pm.length_eq]
  have:=il.len
  rw[eL]at this;omega
 ·intro x hx;obtain⟨r,hr,rfl⟩:=eG.mp hx;exact⟨r.b,_,rfl⟩
 ·intro x hx;obtain⟨r,hr,rfl⟩:=eG.mp hx
  rfl
 ·intro x hx y hy;obtain⟨r,hr,rfl⟩:=eG.mp hx;obtain⟨s,hs,rfl⟩:=eG.mp hy;exact b9D il.can r (pm.mem_iff.mp hr) s (pm.mem_iff.mp hs)
 ·rw[b3d il.can nl pm hp hs];refine fin t (a3z es q) _ (s1.free ht) (s1.trans (Sm.new ht)) a0e ?_;rw[show ((q:Int)).toNat=q by omega];exact il
theorem a3p:valZ (putZ kvs k v) j=if j=k then some v else valZ kvs j:=by
 unfold putZ
 split
 ·next hc=>
  have m:∀ kvs:List (Key×Z),valZ (kvs.map λkv=>if kv.1=k then (kv.1,v) else kv) j=(valZ kvs j).map λx=>if j=k then v else x:=by
   intro kvs
   induction kvs with
   | nil=>rfl
   | cons p r ih=>
    unfold valZ at ih ⊢;rw[eP,fK,fK];have h:(if p.1=k then (p.1,v) else p).1=p.1:=by split<;>rfl
    rw[h];cases c:decide (p.1=j) with
    | false=>exact ih
    | true=>
     have d:=of_decide_eq_true c;simp
     by_cases ck:p.1=k
     ·simp_all
     ·simp_all
  rw[m]
  by_cases c:j=k
  ·subst c;obtain⟨p,f,g⟩:=fN.mp hc
   have:(kvs.find? λkv=>decide (kv.1=j)).isSome=true:=jz.mpr ⟨p,f,g⟩
   unfold valZ;cases e:kvs.find? λkv=>decide (kv.1=j) with
   | none=>rw[e]at this;cases this
   | some q=>simp
  ·simp_all
 ·next hc=>
  unfold valZ;rw[jo]
  by_cases c:j=k
  ·subst c
   have:kvs.find? (λkv=>decide (kv.1=j))=none:=by
    rw[iM];intro p i l;exact hc (fN.mpr ⟨p,i,l⟩)
   rw[this];simp
  ·rw[if_neg c]
   have:[(k,v)].find? (λkv=>decide (kv.1=j))=none:=by simp;exact λz=>c z.symm
   rw[this,Option.or_none]
theorem b0q {kvs:List (Key×Z)}{k:Key}{v:Z}:(putZ kvs k v).length<=kvs.length+1:=by
 unfold putZ
 split<;>simp
theorem Hist.ne_row {L:List Rw}(H:Hist G S T k h es) (e:G x=some (.lst (L.map Rw.z))):x≠h:=λz=>by
 subst z
 have:=e.symm.trans H.at_
 have b:L.map Rw.z=es.map enZ:=by simp_all
 cases es with
 | nil=>exact H.ne rfl
 | cons a es=>
  cases L with
  | nil=>simp at b
  | cons r L=>
   have c:=(fO.inj b).1;simp only[Rw.z,Z.tup.injEq,fO.injEq]at c;obtain⟨i,d,g⟩:=r;have f:=c.2.1;cases d<;>cases f
theorem a8P (h:valZ kvs k=none):∀ q∈kvs,q.1≠k:=λq b e=>by
 unfold valZ at h
 have:(kvs.find? λa=>decide (a.1=k)).isSome=true:=jz.mpr ⟨q,b,decide_eq_true e⟩
 cases e2:kvs.find? λa=>decide (a.1=k) with
 | none=>rw[e2]at this;cases this
 | some x=>rw[e2]at h;cases h
theorem b60 (h:valZ kvs k=none):putZ kvs k v=kvs++[(k,v)]:=by
 unfold putZ;rw[if_neg λz=>?_];obtain⟨q,a,b⟩:=fN.mp z;exact a8P h q a (of_decide_eq_true b)
theorem b5t (h:valZ kvs k=none) (nd:(kvs.map (·.1)).Nodup):((putZ kvs k v).map (·.1)).Nodup:=by
 rw[b60 h,eN,gR];refine⟨nd,by simp,λx a y c=>?_⟩;obtain⟨q,b,rfl⟩:=eG.mp a
 have:y=k:=by simpa using c
 rw[this];exact a8P h q b
theorem b5u (sk:∀ q∈kvs,∃ s,q.1=Sum.inr s):∀ q∈putZ kvs (.inr k) v,∃ s,q.1=Sum.inr s:=λq a=>by
 unfold putZ at a
 split at a
 ·obtain⟨d,c,e⟩:=eG.mp a;obtain⟨s,b⟩:=sk d c;refine⟨s,?_⟩;rw[<- e]
  split
  ·omega
  ·omega
 ·rcases et.mp a with a | a
  ·exact sk q a
  ·exact⟨k,by rw[eD.mp a]⟩
noncomputable def a1T (a:Ad) (b:Bool):P3:=λws G R=>Ex9 λ(p:Addr) (S:Addr->Prop) (T:List Tl) (τ:Tl) (l:Addr) (L:List Rw) (dx d:Addr) (kvs:List (Key×Z))=>ws=[.ref p,.str τ.key,.ref l]/\ShM a b G p S T ((T.length:Int)+1) dx d kvs/\G l=some (.lst (L.map Rw.z))/\¬ S l/\IsLine (T++[τ]) τ.key L/\T.length<=200 /\
 ∀ (S':Addr->Prop) G',(∀ b,S b->S' b)->(∀ b,S' b->S b\/b=l\/G b=none)->KN S G G'->Sheet a b G' p S' (T++[τ])->R .non G'
theorem a3C {a:Ad}{b:Bool}{ws:List Z}{G:Hq}{R:K3}(h:a1T a b ws G R):ws.length=3:=by obtain⟨_,_,_,_,_,_,_,_,_,rfl,_⟩:=h;rfl
abbrev a4t (a:Ad):P3:=a1T a false
abbrev a4u (a:Ad):P3:=a1T a true
theorem a4v (h:s∈ix T k):(T++[τ]).take s.toNat=T.take s.toNat:=by
 have:=b6M h
 rw[ie (by omega)]
theorem a7L:(T++[τ]).take ((T.length:Int)+1).toNat=T++[τ]:=by
 rw[ft];rw[eE,g5];omega
theorem a4w (F:Fns K a) (T:Txt K mg a):FnOk P w K mg base CX0 3 a.f45 a.d45 ["self","key","line"] (lowP K (a4t a)):=by
 refine fn3 F.n45 a4g (λws G R h=>(by exact a3C h)) (λcdv A outer s H E ws G R hr h=>?_);have hu:=a0P hr;refine⟨_,(a0n (a0X (q_bm PySem.F.plainAttrs_list PySem.F.slot_list_append PySem.F.type_list_append a16 (q_bm PySem.F.plainAttrs_dict PySem.F.slot_dict_setdefault PySem.F.type_dict_setdefault a8g (a5c T.cl_Sheet T.na_kept (a0c (pv 0))) (a0b (a0c (pv 1)) (a0b (a21 a0h) a0h a5G) a0a)) (a0b (a1W (a0b (a5c T.cl_Sheet T.na_last (a0c (pv 0))) (a0b (a0c (pv 2)) a0h a0a) a1C)) a0h a5p)))),?_⟩;obtain⟨p,S,T,τ,l,L,X,d,v,rfl,g,D,nl,il,hT,q⟩:=h;symm;refine⟨p,X,_,_,rfl,g.ob,a4V,?_⟩;refine b88 g.dc ?_;symm;refine⟨lenK rfl,λn m=>?_⟩;symm;have Y:p≠d:=λz=>by have e:=g.ob;rw[z,g.dc]at e;cases e
 have Q:((T++[τ]).length:Int)=(T.length:Int)+1:=by simp
 refine b87 (a0m g.dc m) rfl (a0z (by have:=g.len;omega)) (λz I=>?_) λI=>?_
 ·obtain⟨h,rfl,es,H⟩:=g.hs _ z I;have hpe:p≠h:=λz=>by have e:=g.ob;rw[z,H.at_]at e;cases e
  have hde:d≠h:=λz=>by have e:=g.dc;rw[z,H.at_]at e;cases e
  have hle:l≠h:=λz=>nl (z▸H.s);refine a4K (a0m H.at_ m) ?_;symm;refine⟨p,X,_,_,rfl,a0m g.ob m,a3c,?_⟩;symm;refine⟨lenK rfl,?_⟩;symm;have hel:es.length<=T.length:=by
   have e1:=congrArg fb H.ix;rw[er]at e1;rw[e1];exact b5m T τ.key
  refine a1R (a0m H.at_ m) (by rw[er];exact a0z (by omega)) ?_;have i:∀ b o,b≠h->G b=some o->put (put G n (.lst [])) h (.lst (es.map enZ++[.tup [.int ((T.length:Int)+1),.ref l]])) b=some o:=λb o C e=>by rw[a0H C];exact a0m e m
  refine q (λb=>S b\/b=l) _ (λb j=>.inl j) (λb j=>j.elim .inl λz=>.inr (.inl z)) (λb o C e=>i b o (λz=>C (z▸H.s)) e) ⟨X,d,v,?_⟩;refine⟨by rw[Q];exact i _ _ hpe g.ob,.inl g.sp,.inl g.sd,i _ _ hde g.dc,by have:=g.len;simp;omega,λk y=>?_,λk z e=>?_,g.inj,(λb j=>?_),g.nd,g.sk⟩
  ·rw[a2Q,g.no k y,if_neg]
   ·rfl
   ·rintro rfl;rw[I]at y;cases y
  ·by_cases U:k=τ.key
   ·subst U;rw[I]at e;cases e;refine⟨h,rfl,es++[((T.length:Int)+1,l)],.inl H.s,by rw[a0e,eN];rfl,by rw[eN,H.ix,a2Q,if_pos rfl];rfl,by simp,λe r=>?_⟩;rcases et.mp r with r | r
    ·obtain⟨V,L1,u,M⟩:=H.ln e r;refine⟨.inl V,L1,i _ _ (H.ne_row u) u,?_⟩;rw[a4v (by rw[<- H.ix];exact fC r)];exact M
    ·rw[eD.mp r];refine⟨.inr rfl,L,i _ _ hle D,?_⟩;rw[a7L];exact il
   ·obtain⟨t,x,B,H'⟩:=g.hs k z e;have hh:t≠h:=λw=>U (g.inj k τ.key z e (by rw[I,x,w]));refine⟨t,x,B,.inl H'.s,i _ _ hh H'.at_,by rw[H'.ix,a2Q,if_neg (Ne.symm U),eW],H'.ne,λe r=>?_⟩;obtain⟨V,L1,u,M⟩:=H'.ln e r;refine⟨.inl V,L1,i _ _ (H.ne_row u) u,?_⟩;rw[a4v (by rw[<- H'.ix];exact fC r)];exact M
  ·by_cases c:b=h
   ·rw[c];exact⟨_,a0e⟩
   ·rcases j with j | j
    ·obtain⟨o,e⟩:=g.al b j;exact⟨o,i b o c e⟩
    ·rw[j]at c ⊢;exact⟨_,i l _ c D⟩
 ·have N:d≠n:=a0R g.dc m;have hpt:p≠n:=a0R g.ob m;have hlt:l≠n:=a0R D m;have aa:put (put G n (.lst [])) d (.dK (putZ v (.inr τ.key) (.ref n))) n=some (.lst []):=by rw[a0H (Ne.symm N)];exact a0e
  refine a4K aa ?_;symm;refine⟨p,X,_,_,rfl,by rw[a0H Y];exact a0m g.ob m,a3c,?_⟩;symm;refine⟨lenK rfl,?_⟩;symm;refine a1R aa (a0z (by decide)) ?_;have i:∀ b o,b≠d->G b=some o->put (put (put G n (.lst [])) d (.dK (putZ v (.inr τ.key) (.ref n)))) n (.lst ([]++[.tup [.int ((T.length:Int)+1),.ref l]])) b=some o:=λb o C e=>by
   rw[a0H (a0R e m),a0H C];exact a0m e m
  have nS:∀ t,S t->∀ o,G t=some o->t≠n:=λt _ o e=>a0R e m;refine q (λb=>S b\/b=l\/b=n) _ (λb j=>.inl j) (λb j=>j.elim .inl λz=>z.elim (λz=>.inr (.inl z)) λz=>.inr (.inr (by rw[z];exact m))) (λb o C e=>i b o (λz=>C (z▸g.sd)) e) ⟨X,d,putZ v (.inr τ.key) (.ref n),?_⟩;refine⟨by rw[Q];exact i _ _ Y g.ob,.inl g.sp,.inl g.sd,by rw[a0H N];exact a0e,by have h1:=g.len;have h2:=@b0q v (.inr τ.key) (.ref n);simp;omega,λk y=>?_,λk z e=>?_,λk k' z e J=>?_,(λb j=>?_),b5t I g.nd,b5u g.sk⟩
  ·rw[a3p]at y
   split at y
   ·cases y
   ·next c=>
    rw[a2Q,g.no k y,if_neg λz=>c (by rw[z])]
    rfl
  ·rw[a3p]at e
   split at e
   ·next c=>
    cases e;have U:k=τ.key:=by simpa using c
    subst U;refine⟨n,rfl,[((T.length:Int)+1,l)],.inr (.inr rfl),by rw[a0e];rfl,by rw[a2Q,g.no _ I,if_pos rfl];rfl,by simp,λe r=>?_⟩;rw[eD.mp r];refine⟨.inr (.inl rfl),L,i _ _ (λz=>by have z':l=d:=z;rw[z',g.dc]at D;cases D) D,?_⟩;rw[a7L];exact il
   ·next c=>
    obtain⟨t,x,B,H'⟩:=g.hs k z e;have hd':t≠d:=λw=>by have e:=H'.at_;rw[w,g.dc]at e;cases e
    refine⟨t,x,B,.inl H'.s,i _ _ hd' H'.at_,by rw[H'.ix,a2Q,if_neg λz=>c (by rw[z]),eW],H'.ne,λe r=>?_⟩;obtain⟨V,L1,u,M⟩:=H'.ln e r;refine⟨.inl V,L1,i _ _ (λw=>by rw[w,g.dc]at u;cases u) u,?_⟩;rw[a4v (by rw[<- H'.ix];exact fC r)];exact M
  ·rw[a3p]at e J
   split at e
   ·next c=>
    split at J
    ·next c'=>simpa using c.trans c'.symm
    ·cases e;obtain⟨t,x,B,H'⟩:=g.hs k' _ J;cases x;exact absurd rfl (nS _ H'.s _ H'.at_)
   ·split at J
    ·cases J;obtain⟨t,x,B,H'⟩:=g.hs k _ e;cases x;exact absurd rfl (nS _ H'.s _ H'.at_)
    ·exact g.inj k k' z e J
  ·by_cases c:b=n
   ·rw[c];exact⟨_,a0e⟩
   ·by_cases c2:b=d
    ·rw[c2];exact⟨_,by rw[a0H N];exact a0e⟩
    ·rcases j with j | j | j
     ·obtain⟨o,e⟩:=g.al b j;exact⟨o,i b o c2 e⟩
     ·rw[j]at c2 ⊢;exact⟨_,i l _ c2 D⟩
     ·exact absurd j c
theorem b4B (h:valZ kvs k≠none):(putZ kvs k v).map (·.1)=kvs.map (·.1):=by
 unfold putZ;rw[if_pos]
 ·rw[fB];refine gx λx _=>?_
  show (if x.1=k then _ else x).1=x.1
  split<;>rfl
 ·rw[fN];unfold valZ at h;cases e:kvs.find? λa=>decide (a.1=k) with
  | none=>rw[e]at h;exact absurd rfl h
  | some x=>
   have:=jA e
   exact⟨x,ii e,this⟩
theorem b61 (nd:(kvs.map (·.1)).Nodup):((putZ kvs k v).map (·.1)).Nodup:=by
 by_cases h:valZ kvs k=none
 ·exact b5t h nd
 ·rw[b4B h];exact nd
theorem a4x (F:Fns K a) (T:Txt K mg a):FnOk P w K mg base CX0 3 a.f46 a.d46 ["self","key","line"] (lowP K (a4u a)):=by
 have i:FnOk P w K mg base CX0 2 a.f32 a.d32 ["tiles","key","line","knowing"] (lowP K a2S):=a7K F T;refine fn3 F.n46 a4h (λws G R h=>(by exact a3C h)) (λcdv A outer s H E ws G R hr h=>?_);have hu:=a0P hr;refine⟨_,(a0n (b4Y (a0q i (hr.mono (by decide)) rfl T.m32 F.n32.kp (a7A F) (a0b (q_bm PySem.F.plainAttrs_dict PySem.F.slot_dict_get PySem.F.type_dict_get (b2A hu) (a5c T.cl_Tiled T.naT_kept (a0c (pv 0))) (a0b (a0c (pv 1)) (a0b (a21 a0h) a0h a5G) a0a)) (a0b (a0c (pv 1)) (a0b (a0c (pv 2)) (a0b (a5c T.cl_Tiled T.naT_last (a0c (pv 0))) a0h a1C) a0a) a0a) a0M)) (a5c T.cl_Tiled T.naT_kept (a0c (pv 0))) (a0c (pv 1)) (b8W hu))),?_⟩;obtain⟨p,S,T,τ,l,L,dx,d,I,rfl,g,gl,nl,il,hT,q⟩:=h;symm;refine⟨p,dx,_,_,rfl,g.ob,a4V,?_⟩;refine b88 g.dc ?_;symm;refine⟨lenK rfl,λt0 C=>?_⟩;symm;refine b86 (a0m g.dc C) rfl ?_;have D:Sm G (put G t0 (.lst [])):=Sm.new C;obtain⟨h,es,hval,gh,B,hno⟩:=b0p g.v C τ.key;rw[hval];generalize put G t0 (.lst [])=G1 at D gh ⊢;symm;refine⟨p,dx,_,_,rfl,D _ _ g.ob,a3c,?_⟩;symm;have lL:L.length<=900:=by have:=il.len;rw[eE,g5]at this;omega
 refine⟨h,l,τ.key,TF es,L,_,rfl,gh,D _ _ gl,B.nm,λr hr=>a7I il hr,by have:=B.len hT;omega,lL,by have:=B.st;omega,λt G2 ht s2 gt=>?_⟩;have y:=D.trans s2;have hGt:G t=none:=D.free ht;have npd:p≠d:=λz=>by have e:=g.ob;rw[z,g.dc]at e;cases e
 have ntd:t≠d:=λz=>by rw[z,y _ _ g.dc]at gt;cases gt
 have hlen:((T++[τ]).length:Int)=(T.length:Int)+1:=by simp
 symm;refine⟨p,dx,_,_,rfl,y _ _ g.ob,a4V,?_⟩;symm;refine b8X (y _ _ g.dc) rfl (a0z (by have:=g.len;omega)) ?_;have x:∀ b o,b≠d->G b=some o->put G2 d (.dK (putZ I (.inr τ.key) (.ref t))) b=some o:=λb o nb e=>by rw[a0H nb];exact y _ _ e
 have nS:∀ z u,z=Z.ref u->S u->z≠.ref t:=λz u e hs m=>by
  rw[e]at m;cases m;obtain⟨o,eo⟩:=g.al _ hs;rw[hGt]at eo;cases eo
 refine q (λb=>S b\/b=t) _ (λb n=>.inl n) (λb n=>n.elim .inl λz=>.inr (.inr (by rw[z];exact hGt))) (λb o nb e=>x b o (λz=>nb (z▸g.sd)) e) ⟨dx,d,putZ I (.inr τ.key) (.ref t),?_⟩;refine⟨by rw[hlen];exact x _ _ npd g.ob,.inl g.sp,.inl g.sd,a0e,by have h1:=g.len;have h2:=@b0q I (.inr τ.key) (.ref t);simp;omega,λk hk=>?_,λk z e=>?_,λk k' z e m=>?_,(λb n=>?_),b61 g.nd,b5u g.sk⟩
 ·rw[a3p]at hk
  split at hk
  ·cases hk
  ·next c=>
   rw[a2Q,g.no k hk,if_neg λz=>c (by rw[z])]
   rfl
 ·rw[a3p]at e
  split at e
  ·next c=>
   cases e;have ck:k=τ.key:=by simpa using c
   subst ck;refine⟨t,rfl,es++[((T.length:Int)+1,L)],.inr rfl,by rw[a0H ntd,gt,a6c],by rw[eN,B.ix,a2Q,if_pos rfl];rfl,by simp,λe he=>?_⟩;rcases et.mp he with he | he
   ·have:=B.ln e he
    rw[a4v (by rw[<- B.ix];exact fC he)];exact this
   ·rw[eD.mp he]
    show IsLine ((T++[τ]).take ((T.length:Int)+1).toNat) τ.key L
    rw[a7L];exact il
  ·next c=>
   obtain⟨u,J,es',H'⟩:=g.hs k z e;refine⟨u,J,es',.inl H'.s,x _ _ (λw=>by have e:=H'.at_;rw[w,g.dc]at e;cases e) H'.at_,by rw[H'.ix,a2Q,if_neg λz=>c (by rw[z]),eW],H'.ne,λe he=>?_⟩
   have:=H'.ln e he
   rw[a4v (by rw[<- H'.ix];exact fC he)];exact this
 ·rw[a3p]at e m
  split at e
  ·next c=>
   split at m
   ·next c'=>simpa using c.trans c'.symm
   ·cases e;obtain⟨u,J,H'⟩:=g.hs k' _ m;exact absurd rfl (nS _ u J H'.at_.1)
  ·split at m
   ·cases m;obtain⟨u,J,H'⟩:=g.hs k _ e;exact absurd rfl (nS _ u J H'.at_.1)
   ·exact g.inj k k' z e m
 ·by_cases c2:b=d
  ·rw[c2];exact⟨_,a0e⟩
  ·rcases n with n | n
   ·obtain⟨o,e⟩:=g.al b n;exact⟨o,x b o c2 e⟩
   ·rw[n];exact⟨_,by rw[a0H ntd];exact gt⟩
theorem a1l {P:jH}{w:World}{K:Fg}{mg:Str->Option Value}{base:Heap}{a:Ad}(F:Fns K a) (T:Txt K mg a) (b:Bool):∃ f d,Meth K (a.cK b) "known_line" f/\FnOk P w K mg base CX0 3 f d ["self","key","knowing"] (lowP K (a1A a b))/\Binds K d ["self","key","knowing"] []:=by
 cases b
 ·exact⟨_,_,T.mt18,a33 F T,a3T F⟩
 ·exact⟨_,_,T.mt22,a34 F T,a3V F⟩
theorem a6y {P:jH}{w:World}{K:Fg}{mg:Str->Option Value}{base:Heap}{a:Ad}(F:Fns K a) (T:Txt K mg a) (b:Bool):∃ f d,Meth K (a.cK b) "keep_line" f/\FnOk P w K mg base CX0 3 f d ["self","key","line"] (lowP K (a1T a b))/\Binds K d ["self","key","line"] []:=by
 cases b
 ·exact⟨_,_,T.mt45,a4w F T,a4k F⟩
 ·exact⟨_,_,T.mt46,a4x F T,a4l F⟩
noncomputable def BadT (a:Ad) (G:Hq) (z:Z) (c:Addr):Prop:=Ex4 λ(h:Z) (nm:List Z) (x y:Z)=>Tel G z h nm x y/\((nm.all a23=false/\c=a.x_NoName)\/(nm.all a23=true/\strB x y=false/\c=a.x_NoStretch))
noncomputable def a4y (a:Ad):PX3:=λws G R EE=>∃ b:Bool,∃ (p:Addr) (S:Addr->Prop) (T:List Tl),Sheet a b G p S T/\((∃ τ:Tl,ws=[.ref p,τ.z]/\τ.Ok/\T.length<=150 /\
 ∀ (S':Addr->Prop) G',(∀ b,S b->S' b)->(∀ b,S' b->S b\/G b=none)->KN S G G'->Sheet a b G' p S' (T++[τ])->R (.int ((T.length:Int)+1)) G') \/
 ∃ (z:Z) (c:Addr),ws=[.ref p,z]/\BadT a G z c/\∀ G',Sm G G'->EE c G')
theorem a6z {a:Ad}{ws:List Z}{G:Hq}{R:K3}{EE:Addr->Hq->Prop}(h:a4y a ws G R EE):ws.length=2:=by obtain⟨_,_,_,_,_,⟨_,rfl,_⟩ | ⟨_,_,rfl,_⟩⟩:=h<;>rfl
theorem b5v {τ:Tl}:∃ ws,τ.z=.tup ws/\atI ws 1=some (.str τ.key):=by
 obtain⟨k,w,b,e⟩:=τ;cases w<;>exact⟨_,rfl,at1⟩
theorem b9G:Th G (oz e):=by cases e<;>exact True.intro
theorem Tl.Ok.tel {τ:Tl}(ok:τ.Ok):∃ (h:Z) (nm:List Z),Tel G τ.z h nm (.int τ.b) (oz τ.e)/\nm.all a23=true/\strB (.int τ.b) (oz τ.e)=true:=by
 obtain⟨k,w,b,e⟩:=τ;have d:=ok.k;have a:=ok.w;have f:=st_b ok.st;cases w with
 | none=>exact⟨_,[.str k],⟨rfl,.inl ⟨_,rfl⟩,λz c=>by rw[eD.mp c];exact a8M d,True.intro,b9G⟩,by rw[fP,nm_b d];rfl,f⟩
 | some w=>
  have a:=a w rfl;refine⟨_,[.str k,.str w],⟨rfl,.inr ⟨_,_,rfl⟩,λz c=>?_,True.intro,b9G⟩,by rw[fP,nm_b d,fP,nm_b a];rfl,f⟩;simp at c;rcases c with rfl | rfl
  ·exact a8M d
  ·exact a8M a
theorem a7M (F:Fns K a) (T:Txt K mg a):FnOk P w K mg base (CXx P w) 5 a.f47 a.d47 ["self","telling"] (a3r K (a4y a)):=by
 have G_p_check_telling:=a4r (P:=P) (w:=w) (base:=base) F T;have G_p_line_behind:=a5m (P:=P) (w:=w) (base:=base) F T;refine fn3x F.n47 sc_Sheet_tell (λws G R EE h=>(by exact a6z h)) (λcdv A outer s H E ws G R EE hr h ux=>?_);have hu:=a0P hr;obtain⟨b,h⟩:=h;obtain⟨fO_keep_line,dO_keep_line,mtO_keep_line,GO_keep_line,bdO_keep_line⟩:=a6y (P:=P) (base:=base) F T b;obtain⟨fO_known_line,dO_known_line,mtO_known_line,GO_known_line,bdO_known_line⟩:=a1l (P:=P) (base:=base) F T b;refine⟨_,(a0l (a0X (a2g (a1y Outs.of) ux.since G_p_check_telling (hr.mono (by decide)) rfl T.m30 F.n30.kp (a4j F) (a0b (a0c (pv 1)) a0h a0a) (he:=a0a) (hpl:=a0i)))
  (a0l (a0J (i:=2) sc_Sheet_tell.nd rfl (en rfl) (q_ix x_ix (a0c (pv 1)) a0g (λ_ _=>rfl)))
  (a0l (a0J (i:=3) sc_Sheet_tell.nd rfl (en rfl) (a0q G_p_line_behind (hr.mono (by decide)) rfl T.m31 F.n31.kp (a5j F) (a0b (a8f (a0c (pv 0)) (clK T b) mtO_known_line GO_known_line (hr.mono (by decide)) bdO_known_line (a0b (a0c (pv 2)) (a0b (a5c (clK T b) (a3o T b) (a0c (pv 0))) a0h a1C) a0a) (hst:=a0a) (hpl:=(a0j a1C a0i))) (a0b (a0c (pv 1)) a0h a0a) a0M) (he:=a0M) (hpl:=(a0j a0a a0i))))
  (a0l (b4a (clK T b) (a3o T b) (a0c (pv 0)) a0g b40)
  (a0l (a0X (a8f (a0c (pv 0)) (clK T b) mtO_keep_line GO_keep_line (hr.mono (by decide)) bdO_keep_line (a0b (a0c (pv 2)) (a0b (a0c (pv 3)) a0h a0a) a0a) (hst:=a0a) (hpl:=(a0j a0a a0i))))
  (a0n (a0v (a5c (clK T b) (a3o T b) (a0c (pv 0)))))))))),?_⟩
 obtain⟨p,S,T,⟨dx,d,kvs,sh⟩,⟨τ,rfl,ok,hT,q⟩ | ⟨z,c,rfl,⟨h,nm,x,y,tel,hb⟩,q⟩⟩:=h
 rotate_left
 ·symm;refine⟨z,h,nm,x,y,rfl,tel,λG1 s1=>?_⟩;have q':=q G1 s1;rcases hb with ⟨e1,rfl⟩ | ⟨e1,e2,rfl⟩
  ·rw[e1];exact ifF q'
  ·rw[e1,e2];exact ifT (ifF q')
 symm;obtain⟨th,tn,tel,ta,ts⟩:=ok.tel (G:=G);refine⟨_,_,_,_,_,rfl,tel,λG1 s1=>?_⟩;rw[ta,ts];refine ifT (ifT ?_);have sh1:=sh.keep (Sm.ks s1);obtain⟨ws,ez,ek⟩:=@b5v τ;symm;rw[ez];refine a2e ek ?_;rw[<- ez];symm;refine⟨p,dx,_,rfl,sh1.ob,a3d (by decide +kernel) (by decide +kernel),?_⟩;symm;refine⟨p,dx,_,_,rfl,sh1.ob,a3c,?_⟩;symm;refine⟨p,S,T,τ.key,_,_,dx,d,kvs,rfl,sh1.v,by omega,by omega,by omega,λt L G2 ht s2 gt il=>?_⟩;rw[show ((T.length:Int)).toNat=T.length by omega,fS]at il;have sh2:=sh1.keep (Sm.ks s2);symm;have hll:=il.len;refine⟨t,L,τ,rfl,gt,il.can.rise,il.pl,by omega,ok,λu G3 hu s3 gu=>?_⟩;have sh3:=sh2.keep (Sm.ks s3);have S13:=(s1.trans s2).trans s3;have hu0:G u=none:=(s1.trans s2).free hu;have nu:¬ S u:=λz=>by obtain⟨o,e⟩:=sh.al u z;rw[hu0]at e;cases e
 symm;refine⟨p,dx,_,_,rfl,sh3.ob,a3c,?_⟩;symm;refine⟨dx,_,sh3.ob,by show 2<1000;decide,?_⟩;rw[b6T];have hup:u≠p:=λz=>nu (z▸sh.sp);have sh4:ShM a b (put G3 p (.ins (a.cK b) dx (shF ((T.length:Int)+1) d))) p S T ((T.length:Int)+1) dx d kvs:=by
  have kp:∀ x o,x≠p->G3 x=some o->put G3 p (.ins (a.cK b) dx (shF ((T.length:Int)+1) d)) x=some o:=λx o nb e=>by rw[a0H nb];exact e
  refine⟨a0e,sh3.sp,sh3.sd,kp _ _ (λz=>by have e:=sh3.dc;rw[z,sh3.ob]at e;cases e) sh3.dc,sh3.len,sh3.no,λk z e=>?_,sh3.inj,(λb hb=>?_),sh3.nd,sh3.sk⟩
  ·obtain⟨h,ez,H⟩:=sh3.hs k z e;exact⟨h,ez,H.keepL λx ws _ g1=>kp _ _ (λz=>by rw[z,sh3.ob]at g1;cases g1) g1⟩
  ·by_cases c:b=p
   ·rw[c];exact⟨_,a0e⟩
   ·obtain⟨o,e⟩:=sh3.al b hb;exact⟨o,kp b o c e⟩
 have gu4:put G3 p (.ins (a.cK b) dx (shF ((T.length:Int)+1) d)) u=some (.lst ((a8G L τ.b τ.e (optW τ.v)).map Rw.z)):=by rw[a0H hup];exact gu
 have kn4:KN S G (put G3 p (.ins (a.cK b) dx (shF ((T.length:Int)+1) d))):=λb o nb e=>by rw[a0H (show b≠p from λz=>nb (by rw[z];exact sh.sp))];exact S13 _ _ e
 have nn4:∀ x,put G3 p (.ins (a.cK b) dx (shF ((T.length:Int)+1) d)) x=none->G x=none:=λx e=>by
  by_cases c:x=p
  ·rw[c,a0e]at e;cases e
  ·rw[a0H c]at e;exact S13.free e
 generalize put G3 p (.ins (a.cK b) dx (shF ((T.length:Int)+1) d))=G4 at sh4 gu4 kn4 nn4 ⊢;symm;refine⟨p,dx,_,rfl,sh4.ob,a3d (by decide +kernel) (by decide +kernel),?_⟩;symm;refine⟨p,S,T,τ,u,_,dx,d,kvs,rfl,sh4,gu4,nu,il.snoc ok,by omega,λS' G5 i1 i2 kn5 sh5=>?_⟩;have sh5':=sh5;obtain⟨dx5,d5,kvs5,m5⟩:=sh5';symm;refine⟨p,dx5,_,_,rfl,m5.ob,a3c,?_⟩;have e:(((T++[τ]).length:Nat):Int)=(T.length:Int)+1:=by simp
 rw[e];refine q S' G5 i1 (λb hb=>?_) (kn4.trans kn5) sh5;rcases i2 b hb with h | h | h
 ·exact .inl h
 ·rw[h];exact .inr hu0
 ·exact .inr (nn4 b h)
local macro_rules | `(tactic| walk_at "go1")=>`(tactic| with_reducible (first | refine b9d ?_ | refine i_iD ?_))
theorem ShV.frz {a:Ad}{b:Bool}{G:Hq}{p:Addr}{S:Addr->Prop}{T:List Tl}{n:Int}{dx d:Addr}{kvs:List (Key×Z)}(H:ShV a b G p S T n dx d kvs):ShV a b (put G d (.dF kvs)) p S T n dx d kvs:=by
 have k:∀ b o,b≠d->G b=some o->put G d (.dF kvs) b=some o:=λb o r e=>by rw[a0H r];exact e
 have j:∀ b f,G b=some (.lst f)->b≠d:=λb f e z=>by
  rw[z]at e;rcases H.dc with c | c<;>(rw[c]at e;cases e)
 refine⟨k _ _ (λz=>?_) H.ob,H.sp,H.sd,.inr a0e,H.len,H.no,λl z e=>?_,λb i=>?_,H.nd,H.sk⟩
 ·have e:=H.ob;rw[z]at e;rcases H.dc with c | c<;>(rw[c]at e;cases e)
 ·obtain⟨h,q,m⟩:=H.hs l z e;exact⟨h,q,m.keepL λx f _ g=>k _ _ (j _ _ g) g⟩
 ·by_cases c:b=d
  ·rw[c];exact⟨_,a0e⟩
  ·obtain⟨o,e⟩:=H.al b i;exact⟨o,k b o c e⟩
noncomputable def a2q (a:Ad):P3:=λws G R=>∃ b:Bool,∃ (p:Addr) (S:Addr->Prop) (T:List Tl),ws=[.ref p]/\Sheet a b G p S T/\R (.int T.length) G
theorem a4z {a:Ad}{ws:List Z}{G:Hq}{R:K3}(h:a2q a ws G R):ws.length=1:=by obtain⟨_,_,_,_,rfl,_⟩:=h;rfl
theorem a4Z (F:Fns K a) (T:Txt K mg a):FnOk P w K mg base CX0 1 a.f15 a.d15 ["self"] (lowP K (a2q a)):=by
 refine fn3 F.n15 a4O (λe G R h=>(by exact a4z h)) (λk A c s H E e G R i h=>?_);obtain⟨b,h⟩:=h;refine⟨_,(a0n (a0v (a5c (clK T b) (a3o T b) (a0c (pv 0))))),?_⟩;obtain⟨p,S,T',rfl,⟨g,d,j,f⟩,q⟩:=h;symm;exact⟨p,g,_,_,rfl,f.ob,a3c,q⟩
noncomputable def inR (T:List Tl) (q:Int):Prop:=0<=q/\q<=T.length
noncomputable def a1O (a:Ad):PX3:=λws G R EE=>∃ b:Bool,Ex5 λ(p:Addr) (S:Addr->Prop) (T:List Tl) (x:Z) (q:Int)=>ws=[.ref p,x,.int q]/\Sheet a b G p S T/\(∀ G'',Th G'' x)/\T.length<=200 /\
 ((inR T q/\∃ k,x=.str k/\nmOk k/\∀ t L G',G t=none->Sm G G'->G' t=some (.lst (L.map Rw.z))->IsLine (T.take q.toNat) k L->R (.ref t) G')\/(¬ inR T q/\∀ G',Sm G G'->EE a.x_NoKnowing G')\/(inR T q/\a23 x=false/\∀ G',Sm G G'->EE a.x_NoName G'))
theorem a40 {a:Ad}{ws:List Z}{G:Hq}{R:K3}{EE:Addr->Hq->Prop}(h:a1O a ws G R EE):ws.length=3:=by obtain⟨_,_,_,_,_,_,rfl,_⟩:=h;rfl
theorem a5n (F:Fns K a) (T:Txt K mg a):FnOk P w K mg base (CXx P w) 4 a.f27 a.d27 ["self","key","knowing"] (a3r K (a1O a)):=by
 have c:FnOk P w K mg base (CXx P w) 2 a.f17 a.d17 ["self","knowing"] _:=a0V F T;have g:FnOk P w K mg base (CXx P w) 2 a.f4 a.d4 ["thing"] (a3r K (a1k a)):=a07 F T;refine fn3x F.n27 a5g (λws G R X h=>(by exact a40 h)) (λcdv A M s H E ws G R X n h C=>?_);have hu:=a0P n;obtain⟨b,h⟩:=h;obtain⟨j,l,f,GO_known_line,i⟩:=a1l F T b;refine⟨_,(a0l (a0X (a2G (a1y Outs.of) C.since (a0c (pv 0)) (clK T b) (a0S T b) c (n.mono (by decide)) (a0U F) (a0b (a0c (pv 2)) a0h a0a)))
  (a0l (a0X (a2g (a1y Outs.of) C.since g (n.mono (by decide)) rfl T.m4 F.n4.kp (a06 F) (a0b (a0c (pv 1)) a0h a0a)))
  (a0n (a0v (a8f (a0c (pv 0)) (clK T b) f GO_known_line (n.mono (by decide)) i (a0b (a0c (pv 1)) (a0b (a0c (pv 2)) a0h a0a) a0a)))))),?_⟩
 obtain⟨p,S,T',x,q,rfl,I,z,U,h⟩:=h;have B:=I;obtain⟨r,d,u,J⟩:=B;symm;refine⟨p,r,_,rfl,J.ob,a3d (by decide +kernel) (by decide +kernel),?_⟩;symm;refine⟨b,p,S,T',q,rfl,I.v,?_⟩;rcases h with ⟨hq,k,rfl,hk,fin⟩ | ⟨hq,e⟩ | ⟨hq,hn,e⟩
 ·have y:0<=q/\q<=T'.length:=hq;rw[if_pos y];symm;refine⟨_,rfl,z _,λD m=>?_⟩;rw[nm_b hk];refine ifT ?_;have o:=J.keep (Sm.ks m);symm;refine⟨p,r,_,rfl,o.ob,a3d (by decide +kernel) (by decide +kernel),?_⟩;symm;exact⟨p,S,T',k,q,_,r,d,u,rfl,o.v,hq.1,hq.2,U,λt L Q V s2 Y N=>fin t L Q (m.free V) (m.trans s2) Y N⟩
 ·rw[if_neg (show ¬ (0<=q/\q<=T'.length) from hq)];exact e G (Sm.refl _)
 ·rw[if_pos (show 0<=q/\q<=T'.length from hq)];symm;refine⟨_,rfl,z _,λD m=>?_⟩;rw[hn];exact ifF (e D m)
noncomputable def a2r (a:Ad):PX3:=λws G R EE=>∃ x,ws=[x]/\Th G x/\∀ G',Sm G G'->if momB x=true then R .non G' else EE a.x_NoStretch G'
theorem a4A {a:Ad}{ws:List Z}{G:Hq}{R:K3}{EE:Addr->Hq->Prop}(h:a2r a ws G R EE):ws.length=1:=by obtain⟨_,rfl,_⟩:=h;rfl
theorem a2s (F:Fns K a) (T:Txt K mg a):FnOk P w K mg base (CXx P w) 2 a.f5 a.d5 ["thing"] (a3r K (a2r a)):=by
 have b:FnOk P w K mg base CX0 1 a.f1 a.d1 ["thing"] _:=a3y F T;refine fn3x F.n5 a4N (λg G R j h=>(by exact a4A h)) (λn A f s H E g G R j e h m=>?_);refine⟨_,(a0n (z_if (a4a (a27 (a0q b (e.mono (by decide)) rfl T.m1 F.n1.kp (a2j F) (a0b (a0c (pv 0)) a0h a0a))))
  (a0n (a7s Outs.of m rfl rfl T.x_NoStretch T.xi_NoStretch a38 a0d a0i))
  a00)),?_⟩
 obtain⟨x,rfl,i,q⟩:=h;symm;refine⟨_,rfl,i,λl k=>?_⟩;have d:=q l k;symm;refine ifNB (λc=>?_) λc=>?_
 ·rw[c]at d;exact d
 ·rw[c]at d;exact d
noncomputable def a2t (a:Ad):PX3:=λws G R EE=>∃ b:Bool,Ex6 λ(p:Addr) (S:Addr->Prop) (T:List Tl) (x y:Z) (q:Int)=>ws=[.ref p,x,y,.int q]/\Sheet a b G p S T/\(∀ G'',Th G'' x)/\(∀ G'',Th G'' y)/\T.length<=200 /\
 ((inR T q/\∃ k m,x=.str k/\nmOk k/\y=.int m/\momB (.int m)=true/\∀ G',Sm G G'->R (a08 (a1m (T.take q.toNat) k) m) G')\/(¬ inR T q/\∀ G',Sm G G'->EE a.x_NoKnowing G')\/(inR T q/\a23 x=false/\∀ G',Sm G G'->EE a.x_NoName G')\/(inR T q/\a23 x=true/\momB y=false/\∀ G',Sm G G'->EE a.x_NoStretch G'))
theorem a4B {a:Ad}{ws:List Z}{G:Hq}{R:K3}{EE:Addr->Hq->Prop}(h:a2t a ws G R EE):ws.length=4:=by obtain⟨_,_,_,_,_,_,_,rfl,_⟩:=h;rfl
theorem a2u (F:Fns K a) (T:Txt K mg a):FnOk P w K mg base (CXx P w) 4 a.f23 a.d23 ["self","key","moment","knowing"] (a3r K (a2t a)):=by
 have G_Sheet_check_knowing:=a0V (P:=P) (w:=w) (base:=base) F T;have G_p_check_name:=a07 (P:=P) (w:=w) (base:=base) F T;have G_p_check_moment:=a2s (P:=P) (w:=w) (base:=base) F T;have G_p_worth_in:=a7H (P:=P) (w:=w) (base:=base) F T;refine fn3x F.n23 a4P (λws G R EE h=>(by exact a4B h)) (λcdv A outer s H E ws G R EE hr h ux=>?_);have hu:=a0P hr;obtain⟨b,h⟩:=h;obtain⟨fO_known_line,dO_known_line,mtO_known_line,GO_known_line,bdO_known_line⟩:=a1l (P:=P) (base:=base) F T b;refine⟨_,(a0l (a0X (a2G (a1y Outs.of) ux.since (a0c (pv 0)) (clK T b) (a0S T b) G_Sheet_check_knowing (hr.mono (by decide)) (a0U F) (a0b (a0c (pv 3)) a0h a0a) (hst:=a0a) (hpl:=a0i)))
  (a0l (a0X (a2g (a1y Outs.of) ux.since G_p_check_name (hr.mono (by decide)) rfl T.m4 F.n4.kp (a06 F) (a0b (a0c (pv 1)) a0h a0a) (he:=a0a) (hpl:=a0i)))
  (a0l (a0X (a2g (a1y Outs.of) ux.since G_p_check_moment (hr.mono (by decide)) rfl T.m5 F.n5.kp (a2l F) (a0b (a0c (pv 2)) a0h a0a) (he:=a0a) (hpl:=a0i)))
  (a0n (a0v (a0q G_p_worth_in (hr.mono (by decide)) rfl T.m10 F.n10.kp (a7y F) (a0b (a8f (a0c (pv 0)) (clK T b) mtO_known_line GO_known_line (hr.mono (by decide)) bdO_known_line (a0b (a0c (pv 1)) (a0b (a0c (pv 3)) a0h a0a) a0a) (hst:=a0a) (hpl:=(a0j a0a a0i))) (a0b (a0c (pv 2)) a0h a0a) a0M) (he:=a0M) (hpl:=(a0j a0a a0i)))))))),?_⟩
 obtain⟨p,S,T',x,y,q,rfl,sh,hx,hy,hT,h⟩:=h;have sh':=sh;obtain⟨dx,d,kvs,sm⟩:=sh';symm;refine⟨p,dx,_,rfl,sm.ob,a3d (by decide +kernel) (by decide +kernel),?_⟩;symm;refine⟨b,p,S,T',q,rfl,sh.v,?_⟩;rcases h with ⟨hq,k,m,rfl,hk,rfl,hm,fin⟩ | ⟨hq,e⟩ | ⟨hq,hn,e⟩ | ⟨hq,hn,hm,e⟩
 ·rw[if_pos (show 0<=q/\q<=T'.length from hq)];symm;refine⟨_,rfl,hx _,λG1 s1=>?_⟩;rw[nm_b hk];refine ifT ?_;symm;refine⟨_,rfl,hy _,λG2 s2=>?_⟩;rw[hm];refine ifT ?_;have s12:=s1.trans s2;have sm2:=sm.keep (Sm.ks s12);symm;refine⟨p,dx,_,rfl,sm2.ob,a3d (by decide +kernel) (by decide +kernel),?_⟩;symm;refine⟨p,S,T',k,q,_,dx,d,kvs,rfl,sm2.v,hq.1,hq.2,hT,λt L G3 ht s3 gt il=>?_⟩;symm;have hl:=il.len;rw[eL]at hl;refine⟨t,L,m,rfl,gt,il.can.rise,il.pl.okR,by omega,λG4 s4=>?_⟩;rw[il.v,a9x];exact fin G4 ((s12.trans s3).trans s4)
 ·rw[if_neg (show ¬ (0<=q/\q<=T'.length) from hq)];exact e G (Sm.refl _)
 ·rw[if_pos (show 0<=q/\q<=T'.length from hq)];symm;refine⟨_,rfl,hx _,λG1 s1=>?_⟩;rw[hn];exact ifF (e G1 s1)
 ·rw[if_pos (show 0<=q/\q<=T'.length from hq)];symm;refine⟨_,rfl,hx _,λG1 s1=>?_⟩;rw[hn];refine ifT ?_;symm;refine⟨_,rfl,hy _,λG2 s2=>?_⟩;rw[hm];exact ifF (e G2 (s1.trans s2))
theorem Rec.ne (H:Rec b G S T k h):ix T k≠[]:=λz=>by
 cases b with
 | false=>
  obtain⟨a,H⟩:=H
  have:=H.ix
  rw[z]at this;exact H.ne (gS.mp this)
 | true=>
  obtain⟨a,H⟩:=H
  have:=H.ix
  rw[z]at this;exact H.ne (gS.mp this)
noncomputable def NE (T:List Tl) (k:Str):Prop:=∃ L,IsLine T k L/\L≠[]
structure KeysAt (T:List Tl) (ts:List Str):Prop where
 so:PyProof.Rows.sortedS ts=true
 nd:ts.Nodup
 is:∀ s,s∈ts↔NE T s
theorem IsLine.uniq (h:IsLine T k L) (g:IsLine T k M):L=M:=b2Q h.can g.can λt=>by rw[h.v,g.v]
theorem a9B (h:ix T k=[]) (q:Nat):a1m (T.take q) k=[]:=a6b λi a=>by rw[h]at a;simp at a
noncomputable def Few (T:List Tl):Prop:=T.length<=200/\∃ kn:List Str,kn.length<=63/\∀ τ∈T,τ.key∈kn
theorem b5w:∀ {xs ys:List Str},xs.Nodup->(∀ x∈xs,x∈ys)->xs.length<=ys.length
 | [],_,_,_=>e8 _
 | x::xs,ys,h,m=>by
  rw[fF]at h;have b:=m x (.head _)
  have:=b5w (ys:=ys.erase x) h.2 λy a=>(List.mem_erase_of_ne (λz=>h.1 (by simp_all))).mpr (m y (.tail _ a))
  rw[List.length_erase_of_mem b]at this
  have:=List.length_pos_of_mem b
  rw[eF];omega
theorem b5x:∀ {T:List Tl}{k:Str}{n:Nat},ixF k n T≠[]->∃ τ∈T,τ.key=k
 | [],_,_,h=>absurd rfl h
 | τ::T,k,n,h=>by
  by_cases c:τ.key=k
  ·exact⟨τ,.head _,c⟩
  ·unfold ixF at h;rw[if_neg c,gq]at h;obtain⟨σ,b,a⟩:=b5x h;exact⟨σ,.tail _ b,a⟩
theorem b9H {ks:List Str}(h:kvs.map (·.1)=ks.map Sum.inr) (m:s∈ks):∃ z,valZ kvs (.inr s)=some z:=by
 unfold valZ;cases e2:kvs.find? λc=>decide (c.1=Sum.inr s) with
 | some q=>exact⟨_,rfl⟩
 | none=>
  have a:(Sum.inr s)∈kvs.map (·.1):=by rw[h];exact fC m
  obtain⟨q,b,d⟩:=eG.mp a
  have:=iM.mp e2 q b
  simp[d]at this
noncomputable def a2Z (a:Ad):PX3:=λws G R EE=>∃ b:Bool,Ex4 λ(p:Addr) (S:Addr->Prop) (T:List Tl) (q:Int)=>ws=[.ref p,.int q]/\Sheet a b G p S T/\Few T /\
 ((inR T q/\∀ t ts G',G t=none->Sm G G'->G' t=some (.lst (ts.map Z.str))->KeysAt (T.take q.toNat) ts->ts.length<=63->R (.ref t) G')\/(¬ inR T q/\∀ G',Sm G G'->EE a.x_NoKnowing G'))
theorem a41 {a:Ad}{ws:List Z}{G:Hq}{R:K3}{EE:Addr->Hq->Prop}(h:a2Z a ws G R EE):ws.length=2:=by obtain⟨_,_,_,_,_,rfl,_⟩:=h;rfl
theorem a8Q:∀ {kvs:List (Key×Z)},(∀ q∈kvs,∃ s,q.1=Sum.inr s)->∃ ks:List Str,kvs.map (·.1)=ks.map Sum.inr/\(kvs.map λq=>keyW q.1)=ks.map Z.str
 | [],_=>⟨[],rfl,rfl⟩
 | q::kvs,h=>by
  obtain⟨s,a⟩:=h q (.head _);obtain⟨e,c,d⟩:=a8Q λq b=>h q (.tail _ b);exact⟨s::e,by rw[eP,eP,c,a],by rw[eP,eP,d,a];rfl⟩
theorem b62 {ks:List Str}(h:kvs.map (·.1)=ks.map Sum.inr) (e:valZ kvs (.inr s)=some z):s∈ks:=by
 unfold valZ at e;cases e2:kvs.find? λg=>decide (g.1=Sum.inr s) with
 | none=>rw[e2]at e;cases e
 | some q=>
  have a:=ii e2;have c:q.1=Sum.inr s:=by have:=jA e2;simpa using this
  have:(Sum.inr s:Key)∈ks.map Sum.inr:=by rw[<- h,<- c];exact fC a
  obtain⟨x,b,d⟩:=eG.mp this;cases d;exact b
theorem a20 (F:Fns K a) (T:Txt K mg a):FnOk P w K mg base (CXx P w) 4 a.f25 a.d25 ["self","knowing"] (a3r K (a2Z a)):=by
 have G_Sheet_check_knowing:=a0V (P:=P) (w:=w) (base:=base) F T;refine fn3x F.n25 a5f (λws G R EE h=>(by exact a41 h)) (λcdv A outer s H E ws G R EE hr h ux=>?_);have hu:=a0P hr;obtain⟨b,h⟩:=h;obtain⟨fO_known_line,dO_known_line,mtO_known_line,GO_known_line,bdO_known_line⟩:=a1l (P:=P) (base:=base) F T b;refine⟨_,(a0l (a0X (a2G (a1y Outs.of) ux.since (a0c (pv 0)) (clK T b) (a0S T b) G_Sheet_check_knowing (hr.mono (by decide)) (a0U F) (a0b (a0c (pv 1)) a0h a0a) (hst:=a0a) (hpl:=a0i)))
  (a0n (a0v (c0Z (a0K b2F rfl T.b_sorted rfl (a0b (q_lc (N₀:=["self","knowing"]) (so:=a0f a1j) (N':=["key","knowing","self"]) (cap:=[none,some 1,some 0]) (pt:=(.nm 0)) rfl rfl rfl (by decide +kernel) rfl (b6z (a5c (clK T b) (b0b T b) (a0c (pv 0)))) (λ_ _ _ _=>(show QP _ _ (.nm 0) from (a0p (i:=0) c06 rfl (en rfl)))) (λ_ _ _ _=>(a1f (b75 (a8f (a0c (pv 2)) (clK T b) mtO_known_line GO_known_line (hr.mono (by decide)) bdO_known_line (a0b (a0c (pv 0)) (a0b (a0c (pv 1)) a0h a0a) a0a) (hst:=a0a) (hpl:=(a0j a0a a0i))) (λ_=>rfl)))) (λ_ _ _ _=>(a0c (pv 0)))) a0h a0B) (he:=a0B) (hpl:=a0i)))))),?_⟩
 obtain⟨p,S,T',q,rfl,sh,hT,h⟩:=h;have sh':=sh;obtain⟨dx,d,kvs,sm⟩:=sh';symm;refine⟨p,dx,_,rfl,sm.ob,a3d (by decide +kernel) (by decide +kernel),?_⟩;symm;refine⟨b,p,S,T',q,rfl,sh.v,?_⟩;rcases h with ⟨hq,fin⟩ | ⟨hq,e⟩
 rotate_left
 ·rw[if_neg (show ¬ (0<=q/\q<=T'.length) from hq)];exact e G (Sm.refl _)
 rw[if_pos (show 0<=q/\q<=T'.length from hq)];symm;refine c00 sm.dc ?_;symm;refine⟨p,dx,_,_,rfl,sm.ob,a4V,?_⟩;symm;refine c0X (.inl sm.dc) ?_;have smF:=sm.v.frz;obtain⟨ks,hk1,hk2⟩:=a8Q sm.sk;have hnd:ks.Nodup:=by
  have:=sm.nd
  rw[hk1]at this;exact (fM.mp this).imp λh z=>h (by rw[z])
 obtain⟨hT2,kn,kn1,kn2⟩:=hT;have hkl:ks.length<=63:=eM (b5w hnd λs hs=>by
  obtain⟨z,ez⟩:=b9H hk1 hs;obtain⟨h,_,hh⟩:=sm.hs s z ez;obtain⟨τ,t1,t2⟩:=b5x (T:=T') (k:=s) (n:=0) (λz=>hh.ne z);rw[<- t2];exact kn2 τ t1) kn1
 rw[hk2];intro D hD;refine b15 (λi ys G'=>∃ ts:List Str,ys=ts.map Z.str/\ts.Nodup/\(∀ s,s∈ts↔s∈ks.take i/\NE (T'.take q.toNat) s)/\ts.length<=i/\Sm (put G d (.dF kvs)) G'/\G' D=some (.lst ys)) ⟨[],rfl,.nil,λs=>by simp,eB _,Sm.new hD,a0e⟩ (λ_ _ _ _ _=>True.intro) ?_ ?_
 ·rintro i x ys G' hx ⟨ts,rfl,hn,hm,hl,s,gD⟩;rw[eK]at hx;cases hx':ks[i]? with
  | none=>rw[hx']at hx;cases hx
  | some k=>
  rw[hx']at hx;cases hx;have hi:=(eJ.mp hx').1;have ht1:ks.take (i+1)=ks.take i++[k]:=by rw[fq,hx'];rfl
  have nk:k∉ks.take i:=λz=>by
   have h1:(ks.take (i+1)).Nodup:=hnd.sublist (ir _ _);rw[ht1,gR]at h1;exact h1.2.2 k z k (by simp) rfl
  have smA:=smF.keep (Sm.ks s);refine⟨_,rfl,?_⟩;symm;refine⟨p,dx,_,rfl,smA.ob,a3d (by decide +kernel) (by decide +kernel),?_⟩;symm;refine⟨p,S,T',k,q,_,dx,d,kvs,rfl,smA,hq.1,hq.2,by omega,λt L G2 ht s2 gt il=>?_⟩;refine b44 gt ?_;cases hL:L with
  | nil=>
   symm;refine⟨ts,rfl,hn,λy=>?_,by omega,s.trans s2,s2 _ _ gD⟩;rw[hm,ht1,et,eD]
   constructor
   ·exact λ⟨a1,a2⟩=>⟨.inl a1,a2⟩
   ·rintro⟨a1 | rfl,a2⟩
    ·exact⟨a1,a2⟩
    ·obtain⟨M,m1,m2⟩:=a2;exact absurd (m1.uniq il) (by rw[hL];exact m2)
  | cons r L'=>
   symm;refine⟨_,rfl,s2 _ _ gD,by rw[er];exact a0z (by omega),ts++[k],by rw[eN];rfl,?_,λy=>?_,by rw[eE];simp;omega,(s.trans s2).put hD,a0e⟩
   ·rw[gR];exact⟨hn,by simp,λa1 h1 b1 h2 z=>nk (by rw[<- eD.mp h2,<- z];exact ((hm a1).mp h1).1)⟩
   ·rw[et,hm,ht1,et,eD]
    constructor
    ·rintro (⟨a1,a2⟩ | rfl)
     ·exact⟨.inl a1,a2⟩
     ·exact⟨.inr rfl,L,il,by rw[hL];simp⟩
    ·rintro⟨a1 | rfl,a2⟩
     ·exact .inl ⟨a1,a2⟩
     ·exact .inr rfl
 ·rintro ys G' ⟨ts,rfl,hn,hm,hl,s,gD⟩;rw[er]at hm hl;rw[fS]at hm;symm;refine b2G gD (by omega) λt us ht hp hs=>?_;have gd:G' d=some (.dF kvs):=s _ _ a0e;have td:t≠d:=Ne.symm (a0R gd ht);have fr:G t=none:=by
   have h1:=s.free ht;rw[a0H td]at h1;exact h1
  have sm2:Sm G (put (put G' t (.lst (us.map Z.str))) d (.dK kvs)):=λb o e=>by
   by_cases c:b=d
   ·rw[c,a0e,<- sm.dc,<- c];exact e
   ·rw[a0H c];exact a0m (s _ _ (by rw[a0H c];exact e)) ht
  refine⟨a0m gd ht,fin t us _ fr sm2 (by rw[a0H td];exact a0e) ⟨hs,hp.nodup_iff.mpr hn,λy=>?_⟩ (by rw[hp.length_eq];omega)⟩;rw[hp.mem_iff,hm]
  constructor
  ·exact λz=>z.2
  ·intro z;refine⟨?_,z⟩;cases e:valZ kvs (.inr y) with
   | some w=>exact b62 hk1 e
   | none=>
    obtain⟨L,l1,l2⟩:=z;exact absurd (l1.uniq (IsLine.nil (a9B (sm.no y e) _))) l2
theorem a0F (a b:Str):(a++b).cps.toList=a.cps.toList++b.cps.toList:=by
 show (a.cps++b.cps).toList=_
 rw[Array.toList_append]
theorem c1m {p:Nat}(h:p<=s.cps.toList.length):(Txt.slice s none (some (p:Int))).cps.toList=s.cps.toList.take p:=by
 have:=eq_of_beq (PyProof.Rows.slice_closes_to (x:=s) (j:=p) ⟨by omega,by omega⟩)
 rw[this];simp
theorem b63 {p:Nat}(h:p<=s.cps.toList.length):(Txt.slice s (some (p:Int)) none).cps.toList=s.cps.toList.drop p:=by
 have:=PyProof.Rows.slice_from_eq (x:=s) (i:=p) (by simp) (by rw[a3X];omega) rfl
 rw[this,a3X,ft (by simp)];simp
theorem b4C (h:nmOk s):s.length<=sizeLine:=a3u (by rw[a3X];have:=h.2.1;omega)
theorem a42:(10:Int) ^ (12:Int).toNat=1000000000000:=by decide
theorem b9O:(Str.ofString "abcdefghijklmnopqrstuvwxyz").cps.toList=[97,98,99,100,101,102,103,104,105,106,107,108,109,110,111,112,113,114,115,116,117,118,119,120,121,122]:=by decide +kernel
theorem b0r (h0:0<=k) (h1:k<26):atI (Str.ofString "abcdefghijklmnopqrstuvwxyz").cps.toList k=some (97+k.toNat):=by
 obtain⟨j,rfl⟩:=fX h0;have a:j<26:=by omega
 refine a2w ?_
 have:∀ j:Fin 26,([97,98,99,100,101,102,103,104,105,106,107,108,109,110,111,112,113,114,115,116,117,118,119,120,121,122])[j.1]?=some (97+j.1):=by decide
 exact this ⟨j,a⟩
theorem c1n:∀ cs:List Nat,(Txt.join (Str.ofString "") (cs.map λc=>(⟨#[c]⟩:Str))).cps.toList=cs:=by
 intro a;rw[show Txt.join _ _=Str.join _ _ from StrLaws.glued_eq_join _ _,show Str.ofString ""=Str.empty by decide +kernel]
 induction a with
 | nil=>rfl
 | cons c a ih=>
  cases a with
  | nil=>rfl
  | cons d a=>
   show (_++Str.empty++Str.join Str.empty _).cps.toList=_
   rw[a0F,a0F,ih]
   rfl
theorem b08 (cs:List Nat) (h:cs.length<=100):((cs.map λc=>(⟨#[c]⟩:Str)).map (·.length)).sum+(cs.map λc=>(⟨#[c]⟩:Str)).length*(Str.ofString "").length<=16777216:=by
 have e:((cs.map λc=>(⟨#[c]⟩:Str)).map (·.length)).sum=cs.length:=by
  clear h
  induction cs with
  | nil=>rfl
  | cons c cs ih=>
   rw[eP,eP,List.sum_cons,ih,eF]
   show 1+cs.length=_
   omega
 rw[e,show Str.ofString ""=Str.empty by decide +kernel,show Str.empty.length=0 from rfl];omega
noncomputable def a61:P3:=λws G R=>∃ c k:Int,ws=[.int c,.int k]/\0<=k/\k<=1000/\∀ r:Int,0<=r->r<1000000007->R (.int r) G
theorem a9C (h:a61 ws G R):ws.length=2:=by obtain⟨_,_,rfl,_⟩:=h;rfl
theorem mM (x:Int):0<=x % 1073676287/\x % 1073676287<1073676287:=⟨fi _ (by decide),fu _ (by decide)⟩
theorem mP (x:Int):0<=x % 1000000007/\x % 1000000007<1000000007:=⟨fi _ (by decide),fu _ (by decide)⟩
theorem a3q (F:Fns K a) (T:Txt K mg a):FnOk P w K mg base CX0 1 a.f34 a.d34 ["cell","k"] (lowP K a61):=by
 refine fn3 F.n34 sc_tumbled (λe G R h=>(by exact a9C h)) (λj A b s H E e G R g h=>?_);have l:=a0P g;refine⟨_,(a0l (a0J (i:=2) sc_tumbled.nd rfl (en rfl) (q_op a0T (q_op a1a (q_op a0T (a0c (pv 0)) a0g) (q_op b0P a0g (q_op a1a (a0c (pv 1)) a0g))) a0g))
  (a0l (a0J (i:=2) sc_tumbled.nd rfl (en rfl) (q_op a1a (q_op a0T (q_op b0P (a0c (pv 2)) (a0c (pv 2))) a0g) (q_op b0P a0g (a0c (pv 1)))))
  (a0n (a0v (q_op a0T (q_op b0P (a0c (pv 2)) (q_op a1a (a0c (pv 2)) a0g)) a0g))))),?_⟩
 obtain⟨c,k,rfl,m,n,q⟩:=h;symm;refine i_I (show (0:Int)<1073676287 by decide) ?_;symm;refine i_I (.inr ⟨by omega,by omega⟩) ?_;symm;refine i_I (show (0:Int)<1073676287 by decide) ?_;symm;have f:=mM (c % 1073676287+39916801*(k+1));generalize (c % 1073676287+39916801*(k+1)) % 1073676287=u at f ⊢;refine i_I (.inl ⟨by omega,by omega⟩) ?_;symm;refine i_I (show (0:Int)<1073676287 by decide) ?_;symm;have d:=mM (u*u);generalize u*u % 1073676287=v at d ⊢;refine i_I (.inr ⟨by omega,by omega⟩) ?_;symm;refine i_I (.inl ⟨by omega,by omega⟩) ?_;symm;refine i_I (show (0:Int)<1000000007 by decide) ?_;exact q _ (mP _).1 (mP _).2
theorem b4D (h:isL c):b0S (Str.ofString "abcdefghijklmnopqrstuvwxyz") ⟨#[c]⟩=(c:Int) - 97:=by
 have:∀ j:Fin 26,b0S (Str.ofString "abcdefghijklmnopqrstuvwxyz") ⟨#[97+j.1]⟩=(j.1:Int):=by decide +kernel
 obtain⟨b,d⟩:=h;have e:=this ⟨c - 97,by omega⟩;have a:97+(c - 97)=c:=by omega
 simp only[a]at e;rw[e];omega
theorem a8R:∀ {l:List Nat}{a b:Nat},l++[a]=b::l->a=b
 | [],a,b,h=>by simpa using h
 | x::l,a,b,h=>by
  injection h with h1 h2
  rw[a8R h2,h1]
noncomputable def b0s:P3:=λws G R=>∃ c:Int,ws=[.int c]/\∀ (t:Addr) (ns:List Str) (G':Hq),G t=none->Sm G G'->G' t=some (.lst (ns.map Z.str))->ns.length=4->(∀ s∈ns,nmOk s)->ns.Nodup->R (.ref t) G'
theorem b3e (h:b0s ws G R):ws.length=1:=by obtain⟨_,rfl,_⟩:=h;rfl
theorem b4E (F:Fns K a) (T:Txt K mg a):FnOk P w K mg base CX0 2 a.f35 a.d35 ["cell"] (lowP K b0s):=by
 have G_tumbled:=a3q (P:=P) (w:=w) (base:=base) F T;refine fn3 F.n35 sc_words (λws G R h=>(by exact b3e h)) (λcdv A outer s H E ws G R hr h=>?_);have hu:=a0P hr;refine⟨_,(a0l (a0J (i:=1) sc_words.nd rfl (gf rfl) a38)
  (a0l (a0J (i:=2) sc_words.nd rfl (en rfl) (q_bm PySem.F.plainAttrs_str PySem.F.slot_str_join PySem.F.type_str_join b8k a38 (a0b (q_lc (N₀:=["cell","letters","word","at","first","last","moved"]) (so:=a0f a7u) (N':=["k","letters","cell"]) (cap:=[none,some 1,some 0]) (pt:=(.nm 0)) rfl rfl rfl (by decide +kernel) rfl (b0O rfl T.b_range (a0b (q_op a1a a0g (q_op a0T (a0q G_tumbled (hr.mono (by decide)) rfl T.m34 F.n34.kp (a0r F) (a0b (a0c (pv 0)) (a0b a0g a0h a0d) a0a) (he:=a0a) (hpl:=(a0j a0d a0i))) a0g)) a0h a0E)) (λ_ _ _ _=>(show QP _ _ (.nm 0) from (a0p (i:=0) b9m rfl (en rfl)))) (λ_ _ _ _=>a3H) (λ_ _ _ _=>(q_ix x_ix (a0c (pv 1)) (q_op a0T (a0q G_tumbled (hr.mono (by decide)) rfl T.m34 F.n34.kp (a0r F) (a0b (a0c (pv 2)) (a0b (a0c (pv 0)) a0h a0a) a0a) (he:=a0a) (hpl:=(a0j a0a a0i))) a0g) (λ_ _=>rfl)))) a0h a0B)))
  (a0l (a0J (i:=3) sc_words.nd rfl (en rfl) (q_op a0T (a0q G_tumbled (hr.mono (by decide)) rfl T.m34 F.n34.kp (a0r F) (a0b (a0c (pv 0)) (a0b a0g a0h a0d) a0a) (he:=a0a) (hpl:=(a0j a0d a0i))) (a0K b_len rfl T.b_len PySem.boot_len (a0b (a0c (pv 2)) a0h a0a) (he:=a0a) (hpl:=a0i))))
  (a0l (a0J (i:=4) sc_words.nd rfl (en rfl) (q_op a0T (a0q G_tumbled (hr.mono (by decide)) rfl T.m34 F.n34.kp (a0r F) (a0b (a0c (pv 0)) (a0b a0g a0h a0d) a0a) (he:=a0a) (hpl:=(a0j a0d a0i))) a0g))
  (a0l (a0J (i:=5) sc_words.nd rfl (en rfl) (q_ix x_ix (a0c (pv 1)) (q_op a0T (q_op a1a (q_op a1a (a0c (pv 4)) a0g) (q_op a0T (a0q G_tumbled (hr.mono (by decide)) rfl T.m34 F.n34.kp (a0r F) (a0b (a0c (pv 0)) (a0b a0g a0h a0d) a0a) (he:=a0a) (hpl:=(a0j a0d a0i))) a0g)) a0g) (λ_ _=>rfl)))
  (a0l (a0J (i:=6) sc_words.nd rfl (en rfl) (q_ix x_ix (a0c (pv 1)) (q_op a0T (q_op a1a (q_op a1a (q_bm PySem.F.plainAttrs_str PySem.F.slot_str_find PySem.F.type_str_find b8T (a0c (pv 1)) (a0b (q_ix x_ix (a0c (pv 2)) (a0c (pv 3)) (λ_ _=>rfl)) a0h a0k)) a0g) (q_op a0T (a0q G_tumbled (hr.mono (by decide)) rfl T.m34 F.n34.kp (a0r F) (a0b (a0c (pv 0)) (a0b a0g a0h a0d) a0a) (he:=a0a) (hpl:=(a0j a0d a0i))) a0g)) a0g) (λ_ _=>rfl)))
  (a0n (a0v (a21 (a0b (a0c (pv 2)) (a0b (q_op a1a (a0c (pv 2)) (a0c (pv 5))) (a0b (q_op a1a (q_ix x_ix (a0c (pv 1)) (a0c (pv 4)) (λ_ _=>rfl)) (a0c (pv 2))) (a0b (q_op a1a (q_op a1a (a1F x_sl (a0c (pv 2)) a1z (a15 (a0c (pv 3)))) (a0c (pv 6))) (a1F x_sl (a0c (pv 2)) (a15 (q_op a1a (a0c (pv 3)) a0g)) a1z)) a0h a0E) a0E) a0E) a0a)))))))))),?_⟩
 obtain⟨c,rfl,q⟩:=h;symm;refine⟨c,7,rfl,by decide,by decide,λr r0 r1=>?_⟩;symm;refine i_I (show (0:Int)<7 by decide) ?_;symm;have hn:1<=1+r % 7/\1+r % 7<=7:=by omega
 generalize 1+r % 7=n at hn ⊢;refine⟨by omega,by omega,?_⟩;intro D hD;refine b15 (λi ys G'=>∃ cs:List Nat,cs.length=i/\(∀ c∈cs,isL c)/\ys=cs.map (λc=>Z.str ⟨#[c]⟩)/\G'=put G D (.lst ys)) ⟨[],rfl,λc h=>by simp at h,rfl,rfl⟩ (by rintro _ _ _ _ _;exact True.intro) ?_ ?_
 ·rintro i x ys G' hx ⟨cs,hl,hc,rfl,rfl⟩;obtain⟨hi,rfl⟩:=a5I hx;refine⟨_,rfl,?_⟩;symm;refine⟨c,_,rfl,by omega,by omega,λf f0 f1=>?_⟩;symm;refine i_I (show (0:Int)<26 by decide) ?_;symm;refine b2f (lenK rfl) (b0r (by omega) (by omega)) ?_;refine⟨a0e,by rw[er];exact a0z (by omega),cs++[97+(f % 26).toNat],by simp[hl],λd hd=>?_,by rw[eN];rfl,by rw[a26]⟩;rcases et.mp hd with hd | hd
  ·exact hc d hd
  ·rw[eD.mp hd];unfold isL;omega
 ·rintro ys G' ⟨cs,hl,hc,rfl,rfl⟩;rw[a3i]at hl;symm;refine b8C (ys:=cs.map λc=>(⟨#[c]⟩:Str)) (by rw[a0e,fB];rfl) (b08 cs (by omega)) ?_;have el:=c1n cs;generalize Txt.join (Str.ofString "") (cs.map λc=>(⟨#[c]⟩:Str))=s at el ⊢;have ls:s.cps.toList.length=cs.length:=by rw[el]
  have ws:nmOk s:=⟨by omega,by omega,λd hd=>by rw[el]at hd;exact hc d hd⟩;have w7:s.cps.toList.length<=7:=by omega
  symm;refine⟨c,8,rfl,by decide,by decide,λf f0 f1=>?_⟩;symm;refine b2h (b4C ws) ?_;symm;refine i_I (show (0:Int)<(s.length:Int) by rw[a3X];omega) ?_;symm;have ha:0<=f % (s.length:Int)/\f % (s.length:Int)<(s.length:Int):=⟨fi _ (by rw[a3X];omega),fu _ (by rw[a3X];omega)⟩;generalize f % (s.length:Int)=at' at ha ⊢;obtain⟨p,rfl⟩:=fX ha.1;have hp:p<s.cps.toList.length:=by rw[<- a3X];omega
  refine⟨c,9,rfl,by decide,by decide,λf2 f20 f21=>?_⟩;symm;refine i_I (show (0:Int)<26 by decide) ?_;symm;refine⟨c,10,rfl,by decide,by decide,λf3 f30 f31=>?_⟩;symm;refine i_I (show (0:Int)<25 by decide) ?_;symm;refine i_I (show (0:Int)<26 by decide) ?_;symm;refine b2f (lenK rfl) (b0r (by omega) (by omega)) ?_;symm;refine b2f (b4C ws) (a2w (eQ hp)) ?_;symm;have hfd:=b4D (ws.2.2 _ (fL hp));have lsp:=ws.2.2 _ (fL hp);generalize b0S (Str.ofString "abcdefghijklmnopqrstuvwxyz") ⟨#[s.cps.toList[p]]⟩=fd at hfd ⊢;refine⟨c,11,rfl,by decide,by decide,λf4 f40 f41=>?_⟩;symm;refine i_I (show (0:Int)<25 by decide) ?_;symm;refine i_I (show (0:Int)<26 by decide) ?_;symm;refine b2f (lenK rfl) (b0r (by omega) (by omega)) ?_;have one:∀ k:Nat,k<26->nmOk (⟨#[97+k]⟩:Str):=λk hk=>⟨by simp,by simp,λd hd=>by
   have:d=97+k:=by simpa using hd
   unfold isL;omega⟩
  have app:∀ {x y:Str},nmOk x->(∀ d∈y.cps.toList,isL d)->x.cps.toList.length+y.cps.toList.length<=8->nmOk (x++y):=λ{x y} hx hy hl=>⟨by rw[a0F,eE];have:=hx.1;omega,by rw[a0F,eE];exact hl,λd hd=>by
   rw[a0F]at hd;rcases et.mp hd with hd | hd
   ·exact hx.2.2 d hd
   ·exact hy d hd⟩
  have k1:((f2 % 26+1+f3 % 25) % 26).toNat<26:=by omega
  have k2:(f2 % 26).toNat<26:=by omega
  have k3:((fd+1+f4 % 25) % 26).toNat<26:=by omega
  have o1:=one _ k1;have o2:=one _ k2;have o3:=one _ k3;have d3:97+((fd+1+f4 % 25) % 26).toNat≠s.cps.toList[p]:=by unfold isL at lsp;omega
  have d1:97+((f2 % 26+1+f3 % 25) % 26).toNat≠97+(f2 % 26).toNat:=by omega
  have lone:∀ k:Nat,(⟨#[k]⟩:Str).length=1:=λ_=>rfl;have ltwo:∀ k:Nat,(⟨#[k]⟩:Str).cps.toList.length=1:=λ_=>rfl;generalize 97+((fd+1+f4 % 25) % 26).toNat=m3 at o3 d3 ⊢;symm;generalize 97+((f2 % 26+1+f3 % 25) % 26).toNat=m1 at o1 d1 ⊢;refine a9T (a3u (by rw[a3X,lone];omega)) ?_;symm;refine b2f (lenK rfl) (b0r (by omega) (by omega)) ?_;generalize 97+(f2 % 26).toNat=m2 at o2 d1 ⊢;symm;refine a9T (a3u (by rw[a3X s,lone];omega)) ?_;symm;refine b8z (b4C ws) ?_;have e1:=c1m (s:=s) (p:=p) (by omega);have e2:=b63 (s:=s) (p:=p+1) (by omega);symm;refine a9T (a3u (by rw[a3X,e1,eL,lone];omega)) ?_;symm;refine b8z (b4C ws) ?_;rw[show ((p:Int)+1)=((p+1:Nat):Int) by omega];symm;refine a9T (a3u (by rw[a3X,a0F,eE,e1,a3X,e2,eL,fm,ltwo];omega)) ?_;symm;refine⟨lenK rfl,λt ht=>?_⟩;refine q t [s,s++⟨#[m1]⟩,(⟨#[m2]⟩:Str)++s,Txt.slice s none (some (p:Int))++⟨#[m3]⟩++Txt.slice s (some ((p+1:Nat):Int)) none] _ ((Sm.new hD).free ht) ((Sm.new hD).trans (Sm.new ht)) a0e rfl (λw hw=>?_) ?_
  rotate_left
  ·have ne:∀ {x y:Str},x.cps.toList≠y.cps.toList->x≠y:=λh z=>h (by rw[z]);have e3:(Txt.slice s none (some (p:Int))++⟨#[m3]⟩++Txt.slice s (some ((p+1:Nat):Int)) none).cps.toList=s.cps.toList.take p++[m3]++s.cps.toList.drop (p+1):=by rw[a0F,a0F,e1,e2]
   have l3:(s.cps.toList.take p++[m3]++s.cps.toList.drop (p+1)).length=s.cps.toList.length:=by rw[eE,eE,eL,fm];simp only[eF,js];omega
   have n13:s.cps.toList++[m1]≠m2::s.cps.toList:=λz=>d1 (a8R z);have n3:s.cps.toList≠s.cps.toList.take p++[m3]++s.cps.toList.drop (p+1):=λz=>d3 (by
    have h1:s.cps.toList[p]?=some m3:=by
     have hm:(s.cps.toList.take p).length=p:=by rw[eL];omega
     have h2:(s.cps.toList.take p++[m3]++s.cps.toList.drop (p+1))[p]?=some m3:=by
      rw[eU,g4 (by omega),hm,Nat.sub_self];rfl
     exact (congrArg (·[p]?) z).trans h2
    rw[eQ hp]at h1;injection h1 with h1
    exact h1.symm)
   refine fF.mpr ⟨?_,fF.mpr ⟨?_,fF.mpr ⟨?_,fF.mpr ⟨by simp,.nil⟩⟩⟩⟩
   ·simp only[eI,im,or_false,not_or];refine⟨ne ?_,ne ?_,ne ?_⟩
    ·rw[a0F];exact λz=>absurd (congrArg fb z) (by rw[eE,ltwo];omega)
    ·rw[a0F];exact λz=>absurd (congrArg fb z) (by rw[eE,ltwo];omega)
    ·rw[e3];exact n3
   ·simp only[eI,im,or_false,not_or];refine⟨ne ?_,ne ?_⟩
    ·rw[a0F,a0F];exact n13
    ·rw[a0F,e3];exact λz=>absurd (congrArg fb z) (by rw[l3,eE,ltwo];omega)
   ·simp only[eI,im,or_false];refine ne ?_;rw[a0F,e3];exact λz=>absurd (congrArg fb z) (by rw[l3,eE,ltwo];omega)
  simp only[eI,im,or_false]at hw;rcases hw with rfl | rfl | rfl | rfl
  ·exact ws
  ·exact app ws o1.2.2 (by rw[ltwo];omega)
  ·exact app o2 ws.2.2 (by rw[ltwo];omega)
  ·refine⟨by rw[a0F,a0F,eE,eE,ltwo];omega,by rw[a0F,a0F,eE,eE,ltwo,e1,e2,eL,fm];omega,λd hd=>?_⟩;rw[a0F,a0F,e1,e2]at hd;rcases et.mp hd with hd | hd
   ·rcases et.mp hd with hd | hd
    ·exact ws.2.2 d (fI hd)
    ·exact o3.2.2 d hd
   ·exact ws.2.2 d (hZ hd)
theorem a8S {ns:List Str}(h:∀ s∈ns,nmOk s) (h0:0<=k) (h1:k<(ns.length:Int)):∃ s,atI (ns.map Z.str) k=some (.str s)/\s∈ns/\nmOk s:=by
 obtain⟨j,rfl⟩:=fX h0;have a:j<ns.length:=by omega
 exact⟨ns[j],a2w (by simp_all),fL a,h _ (fL a)⟩
noncomputable def a62:P3:=λws G R=>∃ c:Int,ws=[.int c]/\∀ (b:Int) (e:Option Int) (G':Hq),Sm G G'->stOk b e->R (.tup [.int b,oz e]) G'
theorem a9D (h:a62 ws G R):ws.length=1:=by obtain⟨_,rfl,_⟩:=h;rfl
theorem b09 (F:Fns K a) (T:Txt K mg a):FnOk P w K mg base CX0 2 a.f36 a.d36 ["cell"] (lowP K a62):=by
 have G_tumbled:=a3q (P:=P) (w:=w) (base:=base) F T;refine fn3 F.n36 sc_stretch (λws G R h=>(by exact a9D h)) (λcdv A outer s H E ws G R hr h=>?_);have hu:=a0P hr;refine⟨_,(a0l (a0J (i:=1) sc_stretch.nd rfl (en rfl) (q_op a0T (a0q G_tumbled (hr.mono (by decide)) rfl T.m34 F.n34.kp (a0r F) (a0b (a0c (pv 0)) (a0b a0g a0h a0d) a0a) (he:=a0a) (hpl:=(a0j a0d a0i))) a0g))
  (a0l (a0J (i:=2) sc_stretch.nd rfl (en rfl) (q_op a0T (a0q G_tumbled (hr.mono (by decide)) rfl T.m34 F.n34.kp (a0r F) (a0b (a0c (pv 0)) (a0b a0g a0h a0d) a0a) (he:=a0a) (hpl:=(a0j a0d a0i))) a0g))
  (a73 (z_if (a0s (o_eq hu) (a0c (pv 1)) a0g (a0o _))
  (a0n (a0J (i:=2) sc_stretch.nd rfl (en rfl) (q_op a0T (q_op b0P (a0q G_tumbled (hr.mono (by decide)) rfl T.m34 F.n34.kp (a0r F) (a0b (a0c (pv 0)) (a0b a0g a0h a0d) a0a) (he:=a0a) (hpl:=(a0j a0d a0i))) a0g) (q_op a1a (q_op a4J a0g a0g) a0g))))
  a00)
  (a73 (z_if (a0s (o_eq hu) (a0c (pv 1)) a0g (a0o _))
  (a0n (a0J (i:=2) sc_stretch.nd rfl (en rfl) (q_ix x_ix (a21 (a0b (q_op a4J a0g a0g) (a0b (q_op a7j (q_op a4J a0g a0g) a0g) (a0b a0g (a0b (q_op a7j (q_op a4J a0g a0g) a0g) a0h a0E) a0d) a0E) a0E)) (q_op a0T (a0c (pv 2)) a0g) (λ_ _=>rfl))))
  a00)
  (a0l (z_if (QW.qt (q_or (a0s (o_eq hu) (q_op a0T (a0q G_tumbled (hr.mono (by decide)) rfl T.m34 F.n34.kp (a0r F) (a0b (a0c (pv 0)) (a0b a0g a0h a0d) a0a) (he:=a0a) (hpl:=(a0j a0d a0i))) a0g) a0g (a0o _)) (a70 (a0s (o_eq hu) (a0c (pv 2)) (q_op a4J a0g a0g) (a0o _)))))
  (a0n (a0v (a1W (a0b (a0c (pv 2)) (a0b a1Q a0h a0d) a0a))))
  a00)
  (a0l (z_if (a0s (o_eq hu) (q_op a0T (a0q G_tumbled (hr.mono (by decide)) rfl T.m34 F.n34.kp (a0r F) (a0b (a0c (pv 0)) (a0b a0g a0h a0d) a0a) (he:=a0a) (hpl:=(a0j a0d a0i))) a0g) a0g (a0o _))
  (a0n (a0v (a1W (a0b (a0c (pv 2)) (a0b (q_op a1a (q_op a1a (a0c (pv 2)) a0g) (q_op a0T (q_op b0P (a0q G_tumbled (hr.mono (by decide)) rfl T.m34 F.n34.kp (a0r F) (a0b (a0c (pv 0)) (a0b a0g a0h a0d) a0a) (he:=a0a) (hpl:=(a0j a0d a0i))) a0g) (q_op a7j (q_op a4J a0g a0g) (a0c (pv 2))))) a0h a0E) a0a))))
  a00)
  (a0n (a0v (a1W (a0b (a0c (pv 2)) (a0b (a0K (b_min rfl) rfl T.b_min rfl (a0b (q_op a4J a0g a0g) (a0b (q_op a1a (q_op a1a (a0c (pv 2)) a0g) (q_op a0T (a0q G_tumbled (hr.mono (by decide)) rfl T.m34 F.n34.kp (a0r F) (a0b (a0c (pv 0)) (a0b a0g a0h a0d) a0a) (he:=a0a) (hpl:=(a0j a0d a0i))) a0g)) a0h a0E) a0E) (he:=a0E) (hpl:=(a0j a0E a0i))) a0h a0M) a0a)))))))))),?_⟩
 obtain⟨c,rfl,q⟩:=h;symm;refine⟨c,20,rfl,by decide,by decide,λr r0 r1=>?_⟩;symm;refine i_I (show (0:Int)<8 by decide) ?_;symm;generalize r % 8=kind;refine⟨c,21,rfl,by decide,by decide,λr2 r20 r21=>?_⟩;symm;refine i_I (show (0:Int)<12 by decide) ?_;symm;have hb0:0<=r2 % 12/\r2 % 12<12:=by omega
 generalize r2 % 12=b0 at hb0 ⊢;refine a77 (fun σ' G'=>∃ b:Int,0<=b/\b<=1000000000000/\G'=G/\σ'=[some (.int c),some (.int kind),some (.int b)]) ?_ ?_
 ·symm;refine ifD (λ_=>?_) λ_=>?_
  ·symm;refine⟨c,21,rfl,by decide,by decide,λr3 r30 r31=>?_⟩;symm;refine i_I (.inl ⟨by omega,by omega⟩) ?_;symm;refine i_I ⟨by decide,by decide,by decide⟩ ?_;rw[a42];symm;refine i_I (show (0:Int)<1000000000000+1 by decide) ?_;symm;exact⟨_,fi _ (by decide),by have:=fu (r3*1000) (show (0:Int)<1000000000000+1 by decide);omega,rfl,rfl⟩
  ·symm;exact⟨b0,by omega,by omega,rfl,rfl⟩
 ·rintro σ' G' ⟨b,h0,h1,rfl,rfl⟩;symm;refine a77 (fun σ' G''=>∃ b:Int,0<=b/\b<=1000000000000/\Sm G' G''/\σ'=[some (.int c),some (.int kind),some (.int b)]) ?_ ?_
  ·symm;refine ifD (λ_=>?_) λ_=>?_
   ·symm;refine i_I ⟨by decide,by decide,by decide⟩ ?_;rw[a42];symm;refine i_I ⟨by decide,by decide,by decide⟩ ?_;rw[a42];symm;refine i_I ⟨by decide,by decide,by decide⟩ ?_;rw[a42];symm;refine⟨lenK rfl,λu hu=>?_⟩;symm;refine i_I (show (0:Int)<4 by decide) ?_;have hk:b % 4=0\/b % 4=1\/b % 4=2\/b % 4=3:=by omega
    obtain⟨b',eb,hb'⟩:∃ b':Int,atI [Z.int 1000000000000,.int (1000000000000 - 1),.int 0,.int (1000000000000 - 7)] (b % 4)=some (.int b')/\0<=b'/\b'<=1000000000000:=by
     rcases hk with e | e | e | e<;>rw[e]
     ·exact⟨_,rfl,by decide,by decide⟩
     ·exact⟨_,rfl,by decide,by decide⟩
     ·exact⟨_,rfl,by decide,by decide⟩
     ·exact⟨_,rfl,by decide,by decide⟩
    refine a1q a0e eb ?_;symm;exact⟨b',hb'.1,hb'.2,Sm.new hu,rfl⟩
   ·symm;exact⟨b,h0,h1,Sm.refl _,rfl⟩
  ·rintro σ' G'' ⟨b,h0,h1,s1,rfl⟩;have none_:R (.tup [.int b,.non]) G'':=q b none G'' s1 ⟨h0,h1,λx hx=>nomatch hx⟩;symm;refine⟨c,22,rfl,by decide,by decide,λr3 r30 r31=>?_⟩;symm;refine i_I (show (0:Int)<5 by decide) ?_;symm;refine ifD (λ_=>?_) λ_=>?_
   ·symm;exact⟨lenK rfl,none_⟩
   ·symm;refine i_I ⟨by decide,by decide,by decide⟩ ?_;rw[a42];symm;refine ifD (λ_=>?_) λhne=>?_
    ·symm;exact⟨lenK rfl,none_⟩
    ·have hlt:b<1000000000000:=by omega
     symm;refine⟨c,22,rfl,by decide,by decide,λr4 r40 r41=>?_⟩;symm;refine i_I (show (0:Int)<5 by decide) ?_;symm;refine ifD (λ_=>?_) λ_=>?_
     ·symm;refine⟨c,23,rfl,by decide,by decide,λr5 r50 r51=>?_⟩;symm;refine i_I (.inl ⟨by omega,by omega⟩) ?_;symm;refine i_I ⟨by decide,by decide,by decide⟩ ?_;rw[a42];symm;refine i_I (show (0:Int)<1000000000000 - b by omega) ?_;symm;refine⟨lenK rfl,?_⟩;have m0:=fi (r5*1000) (show (1000000000000 - b:Int)≠0 by omega);have m1:=fu (r5*1000) (show (0:Int)<1000000000000 - b by omega);exact q b (some (b+1+r5*1000 % (1000000000000 - b))) G'' s1 ⟨h0,h1,λx hx=>by cases hx;unfold T12;omega⟩
     ·symm;refine i_I ⟨by decide,by decide,by decide⟩ ?_;rw[a42];symm;refine⟨c,23,rfl,by decide,by decide,λr5 r50 r51=>?_⟩;symm;refine i_I (show (0:Int)<6 by decide) ?_;symm;refine⟨lenK rfl,?_⟩;exact q b (some (if b+1+r5 % 6<1000000000000 then b+1+r5 % 6 else 1000000000000)) G'' s1 ⟨h0,h1,λx hx=>by cases hx;unfold T12;split<;>omega⟩
noncomputable def a48:P3:=λws G R=>Ex5 λ(c:Int) (ks wsA:Addr) (kn wn:List Str)=>ws=[.int c,.ref ks,.ref wsA]/\G ks=some (.lst (kn.map Z.str))/\G wsA=some (.lst (wn.map Z.str))/\kn.length=4/\wn.length=4/\(∀ s∈kn,nmOk s)/\(∀ s∈wn,nmOk s) /\
 ∀ τ,Tl.Ok τ->τ.key∈kn->R τ.z G
theorem a7N (h:a48 ws G R):ws.length=3:=by obtain⟨_,_,_,_,_,rfl,_⟩:=h;rfl
theorem a8T (F:Fns K a) (T:Txt K mg a):FnOk P w K mg base CX0 1 a.f37 a.d37 ["cell","keys","worths"] (lowP K a48):=by
 refine fn3 F.n37 sc_by_digits (λws G R h=>(by exact a7N h)) (λcdv A outer s H E ws G R hr h=>?_);have hu:=a0P hr;refine⟨_,(a0l (a0J (i:=3) sc_by_digits.nd rfl (en rfl) (q_op a0T (q_op a5J (a0c (pv 0)) a0g) (q_op a1a (q_op a4J a0g a0g) a0g)))
  (a0l (a0J (i:=4) sc_by_digits.nd rfl (en rfl) (q_op a1a (a0c (pv 3)) (q_op a0T (q_op a5J (a0c (pv 0)) a0g) a0g)))
  (a73 (z_if (QW.qt (a7h (a0s (o_eq hu) (a0c (pv 4)) (q_op a1a (a0c (pv 3)) a0g) (a0o _)) (a44 (a0s o_lt (a0c (pv 3)) (q_op a4J a0g a0g) (a0o _)))))
  (a0n (a0J (i:=4) sc_by_digits.nd rfl (en rfl) (q_op a1a (q_op a1a (a0c (pv 3)) a0g) (q_op a0T (q_op a5J (q_op a5J (a0c (pv 0)) a0g) (q_op a1a (q_op a4J a0g a0g) a0g)) (q_op a7j (q_op a4J a0g a0g) (a0c (pv 3)))))))
  a00)
  (a73 (z_if (QW.qt (q_or (a0s (o_eq hu) (a0c (pv 4)) (a0c (pv 3)) (a0o _)) (a70 (a0s o_gt (a0c (pv 4)) (q_op a4J a0g a0g) (a0o _)))))
  (a0n (a0J (i:=4) sc_by_digits.nd rfl (en rfl) a1Q))
  a00)
  (a0l (z_if (a0s (o_eq hu) (q_op a0T (q_op a5J (a0c (pv 0)) a0g) a0g) a0g (a0o _))
  (a0n (a0v (a1W (a0b a38 (a0b (q_ix x_ix (a0c (pv 1)) (q_op a0T (a0c (pv 0)) a0g) (λ_ _=>rfl)) (a0b (a0c (pv 3)) (a0b (a0c (pv 4)) a0h a0a) a0a) a0k) a0d))))
  a00)
  (a0n (a0v (a1W (a0b a38 (a0b (q_ix x_ix (a0c (pv 1)) (q_op a0T (a0c (pv 0)) a0g) (λ_ _=>rfl)) (a0b (q_ix x_ix (a0c (pv 2)) (q_op a0T (q_op a5J (a0c (pv 0)) a0g) a0g) (λ_ _=>rfl)) (a0b (a0c (pv 3)) (a0b (a0c (pv 4)) a0h a0a) a0a) a0k) a0k) a0d))))))))),?_⟩
 obtain⟨c,ks,wsA,kn,wn,rfl,gk,gw,lk,lw,hk,hw,q⟩:=h;symm;refine i_I ⟨by decide,by decide⟩ ?_;symm;refine i_I ⟨by decide,by decide,by decide⟩ ?_;rw[a42];symm;refine i_I (show (0:Int)<1000000000000+1 by decide) ?_;symm;have b0:=fi (c / 384) (show (1000000000000+1:Int)≠0 by decide);have b1:=fu (c / 384) (show (0:Int)<1000000000000+1 by decide);generalize c / 384 % (1000000000000+1)=b at b0 b1 ⊢;refine i_I ⟨by decide,by decide⟩ ?_;symm;refine i_I (show (0:Int)<8 by decide) ?_;symm;have e0:0<=c / 48 % 8/\c / 48 % 8<8:=by omega
 generalize c / 48 % 8=d at e0 ⊢;refine a77 (fun σ' G'=>∃ e:Int,b<=e/\G'=G/\σ'=[some (.int c),some (.ref ks),some (.ref wsA),some (.int b),some (.int e)]) ?_ ?_
 ·symm;refine ifD (λ_=>?_) λ_=>?_
  ·symm;refine i_I ⟨by decide,by decide,by decide⟩ ?_;rw[a42];symm;refine ifD (λhlt=>?_) λ_=>?_
   ·symm;refine i_I ⟨by decide,by decide⟩ ?_;symm;refine i_I ⟨by decide,by decide,by decide⟩ ?_;rw[a42];symm;refine i_I ⟨by decide,by decide⟩ ?_;symm;refine i_I ⟨by decide,by decide,by decide⟩ ?_;rw[a42];symm;refine i_I (show (0:Int)<1000000000000 - b by omega) ?_;symm;have m0:=fi (c / 384 / (1000000000000+1)) (show (1000000000000 - b:Int)≠0 by omega);exact⟨_,by omega,rfl,rfl⟩
   ·symm;exact⟨_,by omega,rfl,rfl⟩
  ·symm;exact⟨_,by omega,rfl,rfl⟩
 ·rintro σ' G' ⟨e,he,rfl,rfl⟩;symm;refine a77 (fun σ' G''=>∃ e:Option Int,stOk b e/\G''=G'/\σ'=[some (.int c),some (.ref ks),some (.ref wsA),some (.int b),some (oz e)]) ?_ ?_
  ·symm;refine ifD (λ_=>?_) λhne=>?_
   ·symm;exact⟨none,⟨b0,by unfold T12;omega,λx hx=>nomatch hx⟩,rfl,rfl⟩
   ·symm;refine i_I ⟨by decide,by decide,by decide⟩ ?_;rw[a42];symm;refine ifD (λ_=>?_) λhle=>?_
    ·symm;exact⟨none,⟨b0,by unfold T12;omega,λx hx=>nomatch hx⟩,rfl,rfl⟩
    ·symm;exact⟨some e,⟨b0,by unfold T12;omega,λx hx=>by cases hx;unfold T12;omega⟩,rfl,rfl⟩
  ·rintro σ' G'' ⟨e,hst,rfl,rfl⟩;obtain⟨kk,ekk,mkk,hkk⟩:=a8S hk (fi c (show (4:Int)≠0 by decide)) (by have:=fu c (show (0:Int)<4 by decide);omega);obtain⟨ww,eww,_,hww⟩:=a8S hw (fi (c / 16) (show (3:Int)≠0 by decide)) (by have:=fu (c / 16) (show (0:Int)<3 by decide);omega);symm;refine i_I ⟨by decide,by decide⟩ ?_;symm;refine i_I (show (0:Int)<4 by decide) ?_;symm;refine ifD (λ_=>?_) λ_=>?_
   ·symm;refine i_I (show (0:Int)<4 by decide) ?_;symm;refine a1q gk ekk ?_;symm;refine⟨lenK rfl,?_⟩;exact q ⟨kk,none,b,e⟩ ⟨hkk,(λs h=>nomatch h),hst⟩ mkk
   ·symm;refine i_I (show (0:Int)<4 by decide) ?_;symm;refine a1q gk ekk ?_;symm;refine i_I ⟨by decide,by decide⟩ ?_;symm;refine i_I (show (0:Int)<3 by decide) ?_;symm;refine a1q gw eww ?_;symm;refine⟨lenK rfl,?_⟩;exact q ⟨kk,some ww,b,e⟩ ⟨hkk,(λs h=>by cases h;exact hww),hst⟩ mkk
noncomputable def a63:P3:=λws G R=>Ex5 λ(c:Int) (ks wsA:Addr) (kn wn:List Str)=>ws=[.int c,.ref ks,.ref wsA]/\G ks=some (.lst (kn.map Z.str))/\G wsA=some (.lst (wn.map Z.str))/\kn.length=4/\wn.length=4/\(∀ s∈kn,nmOk s)/\(∀ s∈wn,nmOk s) /\
 ∀ τ G',Sm G G'->Tl.Ok τ->τ.key∈kn->R τ.z G'
theorem a9E (h:a63 ws G R):ws.length=3:=by obtain⟨_,_,_,_,_,rfl,_⟩:=h;rfl
theorem b1a (F:Fns K a) (T:Txt K mg a):FnOk P w K mg base CX0 3 a.f38 a.d38 ["cell","keys","worths"] (lowP K a63):=by
 have G_stretch:=b09 (P:=P) (w:=w) (base:=base) F T;have G_by_digits:=a8T (P:=P) (w:=w) (base:=base) F T;have G_tumbled:=a3q (P:=P) (w:=w) (base:=base) F T;refine fn3 F.n38 sc_telling (λws G R h=>(by exact a9E h)) (λcdv A outer s H E ws G R hr h=>?_);have hu:=a0P hr;refine⟨_,(a0l (z_if (a0s (o_eq hu) (q_op a0T (a0c (pv 0)) a0g) a0g (a0o _))
  (a0n (a0v (a0q G_by_digits (hr.mono (by decide)) rfl T.m37 F.n37.kp (a8A F) (a0b (q_op a5J (a0c (pv 0)) a0g) (a0b (a0c (pv 1)) (a0b (a0c (pv 2)) a0h a0a) a0a) a0E) (he:=a0E) (hpl:=(a0j a0a (a0j a0a a0i))))))
  a00)
  (a0l (a0J (i:=3) sc_telling.nd rfl (en rfl) (q_ix x_ix (a0c (pv 1)) (q_op a0T (a0q G_tumbled (hr.mono (by decide)) rfl T.m34 F.n34.kp (a0r F) (a0b (a0c (pv 0)) (a0b a0g a0h a0d) a0a) (he:=a0a) (hpl:=(a0j a0d a0i))) a0g) (λ_ _=>rfl)))
  (a0l (b8c (pt:=(.tp [4,5])) (a0q G_stretch (hr.mono (by decide)) rfl T.m36 F.n36.kp (b02 F) (a0b (a0c (pv 0)) a0h a0a) (he:=a0a) (hpl:=a0i)) (show QP _ _ (.tp [4,5]) from (a36 rfl (a0y (a0p (i:=4) sc_telling.nd rfl (en rfl)) (a0y (a0p (i:=5) sc_telling.nd rfl (en rfl)) a2v)))))
  (a0l (z_if (a0s (o_eq hu) (q_op a0T (a0q G_tumbled (hr.mono (by decide)) rfl T.m34 F.n34.kp (a0r F) (a0b (a0c (pv 0)) (a0b a0g a0h a0d) a0a) (he:=a0a) (hpl:=(a0j a0d a0i))) a0g) a0g (a0o _))
  (a0n (a0v (a1W (a0b a38 (a0b (a0c (pv 3)) (a0b (a0c (pv 4)) (a0b (a0c (pv 5)) a0h a0a) a0a) a0a) a0d))))
  a00)
  (a0n (a0v (a1W (a0b a38 (a0b (a0c (pv 3)) (a0b (q_ix x_ix (a0c (pv 2)) (q_op a0T (a0q G_tumbled (hr.mono (by decide)) rfl T.m34 F.n34.kp (a0r F) (a0b (a0c (pv 0)) (a0b a0g a0h a0d) a0a) (he:=a0a) (hpl:=(a0j a0d a0i))) a0g) (λ_ _=>rfl)) (a0b (a0c (pv 4)) (a0b (a0c (pv 5)) a0h a0a) a0a) a0k) a0a) a0d)))))))),?_⟩
 obtain⟨c,ks,wsA,kn,wn,rfl,gk,gw,lk,lw,hk,hw,q⟩:=h;symm;refine i_I (show (0:Int)<2 by decide) ?_;symm;refine ifD (λ_=>?_) λ_=>?_
 ·symm;refine i_I ⟨by decide,by decide⟩ ?_;symm;exact⟨_,ks,wsA,kn,wn,rfl,gk,gw,lk,lw,hk,hw,fun τ ok mk=>q τ G (Sm.refl _) ok mk⟩
 ·symm;refine⟨c,24,rfl,by decide,by decide,λr r0 r1=>?_⟩;symm;refine i_I (show (0:Int)<4 by decide) ?_;obtain⟨kk,ekk,mkk,hkk⟩:=a8S hk (fi r (show (4:Int)≠0 by decide)) (by have:=fu r (show (0:Int)<4 by decide);omega);symm;refine a1q gk ekk ?_;symm;refine⟨c,rfl,λb e G1 s1 hst=>?_⟩;symm;refine⟨c,25,rfl,by decide,by decide,λr2 r20 r21=>?_⟩;symm;refine i_I (show (0:Int)<4 by decide) ?_;symm;refine ifD (λ_=>?_) λ_=>?_
  ·symm;refine⟨lenK rfl,?_⟩;exact q ⟨kk,none,b,e⟩ _ s1 ⟨hkk,(λs h=>nomatch h),hst⟩ mkk
  ·symm;refine⟨c,26,rfl,by decide,by decide,λr3 r30 r31=>?_⟩;symm;refine i_I (show (0:Int)<3 by decide) ?_;obtain⟨ww,eww,_,hww⟩:=a8S hw (fi r3 (show (3:Int)≠0 by decide)) (by have:=fu r3 (show (0:Int)<3 by decide);omega);symm;refine a1q (s1 _ _ gw) eww ?_;symm;refine⟨lenK rfl,?_⟩;exact q ⟨kk,some ww,b,e⟩ _ s1 ⟨hkk,(λs h=>by cases h;exact hww),hst⟩ mkk
noncomputable def wAt (T:List Tl) (k:Str) (m:Int) (n:Nat):Z:=a08 (a1m (T.take n) k) m
theorem b4F {T:List Tl}{τ:Tl}{k:Str}{m:Int}{i:Nat}(h:T[i]?=some τ):wAt T k m (i+1)=if τ.key=k/\τ.rw.has m=true then τ.v else wAt T k m i:=by
 unfold wAt;have a:T.take (i+1)=T.take i++[τ]:=by rw[fq,h];rfl
 rw[a,a4U]
 by_cases c:τ.key=k
 ·rw[if_pos c,a53]
  show (if τ.rw.has m=true then τ.v else _)=_
  simp only[c,true_and]
 ·simp_all
noncomputable def b5y:P3:=λws G R=>∃ (τ:Tl) (m:Int),ws=[τ.z,.int m]/\R (.bl (τ.rw.has m)) G
theorem b64 (h:b5y ws G R):ws.length=2:=by obtain⟨_,_,rfl,_⟩:=h;rfl
theorem at_b {τ:Tl}:∃ ws,τ.z=.tup ws/\atI ws (-2)=some (.int τ.b)/\atI ws (-1)=some (oz τ.e):=by
 obtain⟨k,w,b,e⟩:=τ;cases w<;>exact⟨_,rfl,rfl,rfl⟩
theorem b9I (F:Fns K a) (T:Txt K mg a):FnOk P w K mg base CX0 1 a.f39 a.d39 ["telling","moment"] (lowP K b5y):=by
 refine fn3 F.n39 b9i (λf G R h=>(by exact b64 h)) (λn A g s H E f G R i h=>?_);have o:=a0P i;refine⟨_,(a0n (a0v (a72 (a39 o_le (q_ix x_ix (a0c (pv 0)) (q_un a3I a0g) (λ_ _=>rfl)) (a0c (pv 1)) (a0o _)) (a71 (b53 (a39 o_is (q_ix x_ix (a0c (pv 0)) (q_un a3I a0g) (λ_ _=>rfl)) a1Q (a0o _)) (a71 (a39 o_lt (a0c (pv 1)) (q_ix x_ix (a0c (pv 0)) (q_un a3I a0g) (λ_ _=>rfl)) (a0o _)))))))),?_⟩;obtain⟨τ,m,rfl,q⟩:=h;obtain⟨f,l,k,d⟩:=@at_b τ;have j:τ.rw.has m=(decide (τ.b<=m)&&bef m τ.e):=rfl;rw[j]at q;rw[l];symm;refine a2e k ?_;symm;refine ifD (λc=>?_) λc=>?_
 ·rw[decide_eq_true c,fg]at q;symm;refine a2e d ?_;cases he:τ.e with
  | none=>
   rw[he]at q;symm;exact q
  | some e=>
   rw[he]at q;symm;refine a2e d ?_;rw[he];symm;exact q
 ·simp_all
noncomputable def inT (x:Int):Prop:=0<=x/\x<=T12
theorem b4G {τ:Tl}:∃ ws x y,τ.z=.tup ws/\atI ws 2=some x/\atI ws 0=some (.str y)/\atI [.non,x] (if decide (y=Str.ofString "put")=true then 1 else 0)=some τ.v:=by
 obtain⟨k,w,b,e⟩:=τ;cases w with
 | none=>exact⟨_,_,_,rfl,rfl,rfl,by rw[if_neg (by rw[decide_eq_true_eq];exact b9E)];rfl⟩
 | some w=>exact⟨_,_,_,rfl,rfl,rfl,by rw[if_pos (by rw[decide_eq_true_eq])];rfl⟩
theorem b9J (h:inT m):momB (.int m)=true:=by
 rw[a57,decide_eq_true h.1,decide_eq_true (show m<=1000000000000 from h.2)];rfl
noncomputable def sf (T:List Tl) (k:Str) (m:Int) (t:Int):Option (List Z):=optW (wAt T k m t.toNat)
structure StoryL (T:List Tl) (k:Str) (m:Int) (L:List Rw):Prop where
 can:Can L
 pl:Plain L
 len:L.length<=T.length+1
 v:∀ t,val L t=if 0<=t then sf T k m t else none
theorem StoryL.uniq (h:StoryL T k m L) (g:StoryL T k m M):L=M:=b2Q h.can g.can λt=>by rw[h.v,g.v]
noncomputable def bsN (n:Nat):List Int:=(fY (n+1)).map Int.ofNat
theorem b3f {n i:Nat}:(bsN n)[i]?=if i<n+1 then some (i:Int) else none:=by
 unfold bsN
 by_cases h:i<n+1
 ·simp_all
 ·simp_all
theorem bsN_mem:x∈bsN n↔0<=x/\x<=n:=by
 unfold bsN;rw[eG]
 constructor
 ·rintro⟨i,a,rfl⟩
  have:=gT.mp a
  simp;omega
 ·rintro⟨c,b⟩;exact⟨x.toNat,gT.mpr (by omega),by simp;omega⟩
theorem a9F:(bsN n).length=n+1:=by unfold bsN;rw[er,List.length_range]
theorem b5z:(bsN n).Pairwise (·<·):=by
 unfold bsN;rw[fM];refine fv.imp ?_ List.pairwise_lt_range;intro a b h;simp;exact h
theorem b4H (h:i<n+1):pcs f ((bsN n).drop i)=(match f i with | some w=>[(⟨(i:Int),(if i=n then none else some ((i:Int)+1)),w⟩:Rw)] | none=>[])++pcs f ((bsN n).drop (i+1)):=by
 have a:i<(bsN n).length:=by rw[a9F];exact h
 have d:(bsN n)[i]=i:=by
  have:=@b3f n i
  rw[if_pos h,eQ a]at this;exact ff.inj this
 have b:((bsN n).drop (i+1)).head?=if i=n then none else some ((i:Int)+1):=by
  rw[List.head?_drop,b3f]
  by_cases c:i=n
  ·grind
  ·grind
 rw[gJ a,d]
 show _++_=_
 rw[b]
theorem b65 (h:(T.length:Int)<=t):sf T k m t=sf T k m T.length:=by
 unfold sf wAt;rw[ft (by omega),ft (by simp)]
theorem b4I (h:OkT T):flat 0 (wAt T k m n)=true:=a47 (a6Y fun τ a=>h τ (fI a)) _
theorem b4J {z:Z}{w:List Z}(h:optW z=some w):w=[z]/\z≠.non:=by grind [optW]
theorem b3g {T:List Tl}{k:Str}{m:Int}(ok:OkT T):Plain (pcs (sf T k m) (bsN T.length)):=λr a=>by
 obtain⟨_,b⟩:=a9t a;obtain⟨e,_⟩:=b4J b;exact⟨_,e,b4I ok⟩
theorem b1b (ok:OkT T) (hp:Plain (join (pcs (sf T k m) (bsN T.length)))):StoryL T k m (join (pcs (sf T k m) (bsN T.length))):=by
 have j:=b2S (b0g (sf T k m) (b5z (n:=T.length)));refine⟨j.1,hp,eM j.2.2.1 (eM (a6X _ _) (by rw[a9F];exact eB _)),λt=>?_⟩;rw[j.2.1,b2V b5z]
 ·by_cases h:0<=t
  ·rw[if_pos h,if_pos (fN.mpr ⟨0,bsN_mem.mpr ⟨by decide,by omega⟩,decide_eq_true h⟩)]
  ·rw[if_neg h,if_neg λz=>?_];obtain⟨b,d,a⟩:=fN.mp z
   have:=(bsN_mem.mp d).1
   have:=of_decide_eq_true a
   omega
 ·intro t b d a e;obtain⟨f,g⟩:=bsN_mem.mp d
  by_cases c:t<=T.length
  ·have:=e t (bsN_mem.mpr ⟨by omega,c⟩) (fc _)
   rw[show t=b by omega]
  ·have:=e T.length (bsN_mem.mpr ⟨by omega,fc _⟩) (by omega)
   rw[b65 (by omega),show b=(T.length) by omega]
theorem b1c (h:Plain ps):Plain (join ps):=by
 have f:∀ ps b,Plain b->Plain ps->Plain (ps.foldl jn b):=by
  intro ps
  induction ps with
  | nil=>exact λ_ h _=>h
  | cons p ps ih=>
   intro b e d;refine ih _ (λr a=>?_) λr a=>d r (.tail _ a)
   have:=d p (.head _)
   unfold jn at a
   split at a
   ·split at a
    ·rcases et.mp a with a | a
     ·exact e r (iG _ a)
     ·simp_all
    ·rcases et.mp a with a | a
     ·exact e r a
     ·simp_all
   ·simp_all
 exact f ps [] Plain.nil h
theorem b3h {a:Ad}{b:Bool}{G:Hq}{p:Addr}{S:Addr->Prop}{T:List Tl}(h:Sheet a b G p S T):∃ dx n d,G p=some (.ins (a.cK b) dx (shF n d)):=let ⟨_,_,_,m⟩:=h;⟨_,_,_,m.ob⟩
noncomputable def a3D:P3:=λws G R=>∃ p:Addr,ws=[.ref p]/\R (.int 0) G
theorem a6i (h:a3D ws G R):ws.length=1:=by obtain⟨_,rfl,_⟩:=h;rfl
theorem a6A (F:Fns K a) (T:Txt K mg a):FnOk P w K mg base CX0 1 a.f16 a.d16 ["self"] (lowP K a3D):=by
 refine fn3 F.n16 a6n (λc G R h=>(by exact a6i h)) (λe A b s H E c G R d h=>?_)
 refine⟨_,(a0n (a0v a0g)),?_⟩;obtain⟨p,rfl,q⟩:=h;exact q
theorem b5A (x:List Rw) (y:Rw):x.map Rw.z++[y.z]=(x++[y]).map Rw.z:=by rw[eN];rfl
noncomputable def a64 (a:Ad):P3:=λws G R=>∃ b:Bool,Ex5 λ(p:Addr) (S:Addr->Prop) (T:List Tl) (k:Str) (m:Int)=>ws=[.ref p,.str k,.int m]/\Sheet a b G p S T/\OkT T/\T.length<=150/\nmOk k/\momB (.int m)=true/\∀ t L G',G t=none->Sm G G'->G' t=some (.lst (L.map Rw.z))->StoryL T k m L->R (.ref t) G'
theorem a9G {a:Ad}{ws:List Z}{G:Hq}{R:K3}(h:a64 a ws G R):ws.length=3:=by obtain⟨_,_,_,_,_,_,rfl,_⟩:=h;rfl
theorem b1d (F:Fns K a) (T:Txt K mg a):FnOk P w K mg base CX0 5 a.f24 a.d24 ["sheet","key","moment"] (lowP K (a64 a)):=by
 have G_Sheet_knowings:=a4Z (P:=P) (w:=w) (base:=base) F T;have G_p_with_alike_joined:=a1o (P:=P) (w:=w) (base:=base) F T;have G_Sheet_first:=a6A (P:=P) (w:=w) (base:=base) F T
 have G_Sheet_worth_at:=a2u (P:=P) (w:=w) (base:=base) F T;refine fn3 F.n24 sc_p_story (λws G R h=>(by exact a9G h)) (λcdv A outer s H E ws G R hr h=>?_);have hu:=a0P hr;obtain⟨b,h⟩:=h;refine⟨_,(a0l (a0J (i:=3) sc_p_story.nd rfl (en rfl) (b2x (a0c (pv 0)) (clK T b) (a4m T b) G_Sheet_knowings (hr.mono (by decide)) (a4R F)))
  (a0l (a0J (i:=4) sc_p_story.nd rfl (en rfl) (a21 a0h))
  (a0l (a4H (pt:=(.nm 5)) jQ.never rfl (a6K rfl T.b_range (a0b (b2x (a0c (pv 0)) (clK T b) (a52 T b) G_Sheet_first (hr.mono (by decide)) (a6q F)) (a0b (q_op a1a (a0c (pv 3)) a0g) a0h a0E) a0M)) (show QP _ _ (.nm 5) from (a0p (i:=5) sc_p_story.nd rfl (en rfl)))
  (a0l (a0J (i:=6) sc_p_story.nd rfl (en rfl) (a2G a1h up0 (a0c (pv 0)) (clK T b) (a19 T b) G_Sheet_worth_at (hr.mono (by decide)) (a2m F) (a0b (a0c (pv 1)) (a0b (a0c (pv 2)) (a0b (a0c (pv 5)) a0h a0a) a0a) a0a) (hst:=a0a) (hpl:=(a0j a0a (a0j a0a a0i)))))
  (a0n (z_if (a0s a3J (a0c (pv 6)) a1Q (a0o _))
  (a0n (a0X (q_bm PySem.F.plainAttrs_list PySem.F.slot_list_append PySem.F.type_list_append a16 (a0c (pv 4)) (a0b (a1W (a0b (a0c (pv 5)) (a0b (q_if (a0s (o_eq hu) (a0c (pv 5)) (a0c (pv 3)) (a0o _)) a1Q (q_op a1a (a0c (pv 5)) a0g)) (a0b (a0c (pv 6)) a0h a0a) b3X) a0a)) a0h a5p))))
  a00))))
  (a0n (a0v (a0q G_p_with_alike_joined (hr.mono (by decide)) rfl T.m12 F.n12.kp (a1n F) (a0b (a0c (pv 4)) a0h a0a) (he:=a0a) (hpl:=a0i))))))),?_⟩
 obtain⟨p,S,T',k,m,rfl,sh,ok,hT,hk,hm,fin⟩:=h;obtain⟨dx,n1,d1,ob⟩:=b3h sh;symm;refine⟨p,dx,_,rfl,ob,a3d (by decide +kernel) (by decide +kernel),?_⟩;symm;refine⟨b,p,S,T',rfl,sh,?_⟩;symm;refine⟨lenK rfl,λt0 ht0=>?_⟩;have s0:Sm G (put G t0 (.lst [])):=Sm.new ht0;symm;refine⟨p,dx,_,rfl,s0 _ _ ob,a3d (by decide +kernel) (by decide +kernel),?_⟩;symm;refine⟨p,rfl,?_⟩;symm;refine⟨0,(T'.length:Int)+1,rfl,by omega,?_⟩;rw[show ((T'.length:Int)+1 - 0).toNat=T'.length+1 by omega];refine a1X (λi σ G'=>∃ (ps:List Rw) (v1 v2:Option Z),ps++pcs (sf T' k m) ((bsN T'.length).drop i)=pcs (sf T' k m) (bsN T'.length)/\ps.length<=i/\Sm G G'/\G' t0=some (.lst (ps.map Rw.z))/\σ=[some (.ref p),some (.str k),some (.int m),some (.int T'.length),some (.ref t0),v1,v2]) ⟨[],_,_,rfl,eB _,s0,a0e,rfl⟩ (λ_ _ _ _ _=>True.intro) ?_ ?_
 ·rintro i u σ G' hu ⟨ps,v1,v2,hpc,hpl,s,g0,rfl⟩;obtain⟨hi,rfl⟩:=a5I hu;rw[Int.zero_add];refine⟨_,rfl,?_⟩;symm;refine⟨p,dx,_,rfl,s _ _ ob,a3d (by decide +kernel) (by decide +kernel),?_⟩;symm;refine⟨b,p,S,T',.str k,.int m,(i:Int),rfl,sh.keep (Sm.ks s),(λ_=>a8M hk),(λ_=>True.intro),by omega,.inl ⟨⟨by omega,by omega⟩,k,m,rfl,hk,rfl,hm,λG1 s1=>?_⟩⟩;have s2:=s.trans s1;rw[iN];rw[b4H (by omega)]at hpc;have esf:sf T' k m (i:Int)=optW (wAt T' k m i):=by unfold sf;rw[iN]
  rw[esf]at hpc;have hkd:=@a60 (T'.take i) k m;have ew:wAt T' k m i=a08 (a1m (T'.take i) k) m:=rfl;rw[ew]at hpc;generalize a08 (a1m (T'.take i) k) m=w at hpc hkd ⊢;symm;have g1:=s1 _ _ g0;rcases hkd with rfl | ⟨sw,rfl⟩
  ·symm;exact⟨ps,_,_,hpc,by omega,s2,g1,rfl⟩
  ·symm;refine a4K g1 ?_;symm;refine ifD (λc=>?_) λc=>?_
   ·have hin:i=T'.length:=by omega
    symm;refine⟨lenK rfl,?_⟩;symm;refine a1R g1 (by rw[er];exact a0z (by omega)) ?_;rw[if_pos hin]at hpc;refine⟨ps++[⟨(i:Int),none,[.str sw]⟩],_,_,by rw[eU];exact hpc,by rw[eE];simp;omega,s2.put ht0,?_,rfl⟩;rw[a0e,<- b5A];simp[Rw.z,oz]
   ·have hin:¬ i=T'.length:=by omega
    symm;refine⟨lenK rfl,?_⟩;symm;refine a1R g1 (by rw[er];exact a0z (by omega)) ?_;rw[if_neg hin]at hpc;refine⟨ps++[⟨(i:Int),some ((i:Int)+1),[.str sw]⟩],_,_,by rw[eU];exact hpc,by rw[eE];simp;omega,s2.put ht0,?_,rfl⟩;rw[a0e,<- b5A];simp[Rw.z,oz]
 ·rintro σ G' ⟨ps,v1,v2,hpc,hpl,s,g0,rfl⟩;rw[a3i]at hpc hpl;rw[List.drop_of_length_le (by rw[a9F];omega)]at hpc;have hpc:ps=pcs (sf T' k m) (bsN T'.length):=by rw[<- hpc];show ps=ps++[];rw[eW]
  have hp:=@b3g T' k m ok;rw[<- hpc]at hp;have hj:=b1b (k:=k) (m:=m) ok (by rw[<- hpc];exact b1c hp);rw[<- hpc]at hj;symm;exact⟨t0,ps,rfl,g0,hp.okR,by omega,λt ht=>fin t (join ps) _ (s.free ht) (s.trans (Sm.new ht)) a0e hj⟩
noncomputable def a6j (r:Rw):Z:=.tup [.int r.b,oz r.e]
noncomputable def a1b (y:Str) (L:List Rw):List Rw:=L.filter λr=>decide (r.w=[Z.str y])
noncomputable def a8U (a:Ad):P3:=λws G R=>∃ b:Bool,Ex6 λ(p:Addr) (S:Addr->Prop) (T:List Tl) (k w:Str) (q:Int)=>ws=[.ref p,.str k,.str w,.int q]/\Sheet a b G p S T/\T.length<=200/\inR T q/\nmOk k/\nmOk w/\∀ t L G',G t=none->Sm G G'->G' t=some (.lst ((a1b w L).map a6j))->IsLine (T.take q.toNat) k L->R (.ref t) G'
theorem b1e {a:Ad}{ws:List Z}{G:Hq}{R:K3}(h:a8U a ws G R):ws.length=4:=by obtain⟨_,_,_,_,_,_,_,rfl,_⟩:=h;rfl
theorem a8V (F:Fns K a) (T:Txt K mg a):FnOk P w K mg base CX0 5 a.f28 a.d28 ["sheet","key","worth","knowing"] (lowP K (a8U a)):=by
 have d:FnOk P w K mg base (CXx P w) 4 a.f27 a.d27 ["self","key","knowing"] (a3r K (a1O a)):=a5n F T;have f:FnOk P w K mg base (CXx P w) 2 a.f4 a.d4 ["thing"] (a3r K (a1k a)):=a07 F T;refine fn3 F.n28 sc_p_when (λws G R h=>(by exact b1e h)) (λcdv A N s H E ws G R j h=>?_);have Y:=a0P j;obtain⟨b,h⟩:=h;refine⟨_,(a0l (a0J (i:=4) sc_p_when.nd rfl (en rfl) (a2G a1h up0 (a0c (pv 0)) (clK T b) (a4S T b) d (j.mono (by decide)) (a5i F) (a0b (a0c (pv 1)) (a0b (a0c (pv 3)) a0h a0a) a0a) (hst:=a0a)))
  (a0l (a0X (a2g a1h up0 f (j.mono (by decide)) rfl T.m4 F.n4.kp (a06 F) (a0b (a0c (pv 2)) a0h a0a) (he:=a0a) (hpl:=a0i)))
  (a0n (a0v (q_lc (N₀:=["sheet","key","worth","knowing","line"]) (so:=a0f a5v) (cap:=[none,none,none,some 2]) (pt:=(.tp [0,1,2])) rfl rfl rfl (by decide +kernel) rfl (a0C (a0c (pv 4))) (λ_ _ _ _=>(show QP _ _ (.tp [0,1,2]) from (a36 rfl (a0y (a0p (i:=0) b6F rfl (en rfl)) (a0y (a0p (i:=1) b6F rfl (en rfl)) (a0y (a0p (i:=2) b6F rfl (en rfl)) a2v)))))) (λ_ _ _ _=>(a1f (a0s (o_eq Y) (a0c (pv 2)) (a0c (pv 3)) (a0o _)))) (λ_ _ _ _=>(a1W (a0b (a0c (pv 0)) (a0b (a0c (pv 1)) a0h a0a) a0a)))))))),?_⟩
 obtain⟨p,S,T',k,w,q,rfl,C,hT,hq,M,m,I⟩:=h;obtain⟨dx,n1,d1,Q⟩:=b3h C;symm;refine⟨p,dx,_,rfl,Q,a3d (by decide +kernel) (by decide +kernel),?_⟩;symm;refine⟨b,p,S,T',.str k,q,rfl,C,(λ_=>a8M M),hT,.inl ⟨hq,k,rfl,M,λt L G1 ht J B u=>?_⟩⟩;symm;refine⟨_,rfl,a8M m,λG2 l=>?_⟩;rw[nm_b m];refine ifT ?_;symm;refine a1r (l _ _ B) ?_;intro D n;have hl:=u.len;rw[eL]at hl;refine a54 (g:=Rw.z) (g':=a6j) (λr=>if decide (r.w=[Z.str w])=true then some r else none) (λys=>a0m (l _ _ B) n) (by omega) ?_ ?_
 ·rintro r j ys K1 K2 o x;obtain⟨v,y,V⟩:=u.pl r j;have U:decide (r.w=[Z.str w])=decide (v=Z.str w):=by rw[y];simp
  rw[U]at o x;have X:r.z=.tup [.int r.b,oz r.e,v]:=by unfold Rw.z;rw[y]
  rw[X];refine⟨_,rfl,?_⟩;symm;refine a9y (a3a (by decide) V) (a9w m) ?_;refine⟨_,rfl,?_⟩;cases c:decide (v=Z.str w) with
  | true=>
   rw[c]at o;symm;exact⟨_,rfl,_,rfl,lenK rfl,o r rfl⟩
  | false=>
   rw[c]at x;symm;exact x rfl
 ·have ef:(L.filterMap λr=>if decide (r.w=[Z.str w])=true then some r else none)=a1b w L:=by
   unfold a1b;rw[<- List.filterMap_eq_filter]
   rfl
  rw[ef];symm;exact I D L _ (J.free (l.free n)) ((J.trans l).trans (Sm.new n)) a0e u
theorem b3i (ok:OkT T) (h:NE T s):nmOk s:=by
 obtain⟨L,a,d⟩:=h
 by_cases c:∃ τ∈T,τ.key=s
 ·obtain⟨τ,f,e⟩:=c;rw[<- e];exact (ok τ f).k
 ·have:a1m T s=[]:=by
   unfold a1m;rw[gS,ij];intro τ b;simpa using λz=>c ⟨τ,b,z⟩
  exact absurd (a.uniq (IsLine.nil this)) d
noncomputable def kwZ (v:Str×Z):Z:=.tup [.str v.1,v.2]
noncomputable def a35 (T:List Tl) (m:Int) (ts:List Str):List (Str×Z):=ts.map λk=>(k,a08 (a1m T k) m)
noncomputable def a14 (v:Str×Z):Option (Str×Z):=if decide (v.2=Z.non)=true then none else some v
noncomputable def a6k (a:Ad):P3:=λws G R=>∃ b:Bool,Ex5 λ(p:Addr) (S:Addr->Prop) (T:List Tl) (m q:Int)=>ws=[.ref p,.int m,.int q]/\Sheet a b G p S T/\OkT T/\Few T/\inR T q/\momB (.int m)=true/\∀ t ts G',G t=none->Sm G G'->KeysAt (T.take q.toNat) ts->ts.length<=63->G' t=some (.lst (((a35 (T.take q.toNat) m ts).filterMap a14).map kwZ))->R (.ref t) G'
theorem a8W {a:Ad}{ws:List Z}{G:Hq}{R:K3}(h:a6k a ws G R):ws.length=3:=by obtain⟨_,_,_,_,_,_,rfl,_⟩:=h;rfl
theorem a9H (F:Fns K a) (T:Txt K mg a):FnOk P w K mg base CX0 5 a.f26 a.d26 ["sheet","moment","knowing"] (lowP K (a6k a)):=by
 have G_Sheet_keys_at:=a20 (P:=P) (w:=w) (base:=base) F T;have G_p_check_moment:=a2s (P:=P) (w:=w) (base:=base) F T;have G_Sheet_worth_at:=a2u (P:=P) (w:=w) (base:=base) F T;refine fn3 F.n26 sc_p_all_at (λws G R h=>(by exact a8W h)) (λcdv A outer s H E ws G R hr h=>?_);have hu:=a0P hr;obtain⟨b,h⟩:=h;refine⟨_,(a0l (a0J (i:=3) sc_p_all_at.nd rfl (en rfl) (a2G a1h up0 (a0c (pv 0)) (clK T b) (a2o T b) G_Sheet_keys_at (hr.mono (by decide)) (a2U F) (a0b (a0c (pv 2)) a0h a0a) (hst:=a0a) (hpl:=a0i)))
  (a0l (a0X (a2g a1h up0 G_p_check_moment (hr.mono (by decide)) rfl T.m5 F.n5.kp (a2l F) (a0b (a0c (pv 1)) a0h a0a) (he:=a0a) (hpl:=a0i)))
  (a0l (a88 (i:=4) sc_p_all_at.nd rfl rfl (N₀:=["sheet","moment","knowing","keys","worths"]) (so:=a0f a2k) (N':=["key","moment","knowing","sheet"]) (cap:=[none,some 1,some 2,some 0]) (pt:=(.nm 0)) rfl rfl rfl (by decide +kernel) rfl (a0C (a0c (pv 3))) (λ_ _ _ _=>(show QP _ _ (.nm 0) from (a0p (i:=0) c07 rfl (en rfl)))) (λ_ _ _ _=>a3H) (λ_ _ _ _=>(a1W (a0b (a0c (pv 0)) (a0b (a2G a1h up0 (a0c (pv 3)) (clK T b) (a19 T b) G_Sheet_worth_at (hr.mono (by decide)) (a2m F) (a0b (a0c (pv 0)) (a0b (a0c (pv 1)) (a0b (a0c (pv 2)) a0h a0a) a0a) a0a) (hst:=a0a) (hpl:=(a0j a0a (a0j a0a a0i)))) a0h a0M) a0a))))
  (a0n (a0v (q_lc (N₀:=["sheet","moment","knowing","keys","worths"]) (so:=a0f a2k) (N':=["key","worth"]) (cap:=[none,none]) (pt:=(.tp [0,1])) rfl rfl rfl (by decide +kernel) rfl (a0C (a0c (pv 4))) (λ_ _ _ _=>(show QP _ _ (.tp [0,1]) from (a36 rfl (a0y (a0p (i:=0) b9j rfl (en rfl)) (a0y (a0p (i:=1) b9j rfl (en rfl)) a2v))))) (λ_ _ _ _=>(a1f (a0s a3J (a0c (pv 1)) a1Q (a0o _)))) (λ_ _ _ _=>(a1W (a0b (a0c (pv 0)) (a0b (a0c (pv 1)) a0h a0a) a0a))))))))),?_⟩
 obtain⟨p,S,T',m,q,rfl,sh,ok,few,hq,hm,fin⟩:=h;obtain⟨dx,n1,d1,ob⟩:=b3h sh;symm;refine⟨p,dx,_,rfl,ob,a3d (by decide +kernel) (by decide +kernel),?_⟩;symm;refine⟨b,p,S,T',q,rfl,sh,few,.inl ⟨hq,λt ts G1 ht s1 gt ka hl=>?_⟩⟩;have sh0:=sh.keep (Sm.ks s1);symm;refine⟨_,rfl,True.intro,λG2 s2=>?_⟩;rw[hm];refine ifT ?_;symm;have gt2:=s2 _ _ gt;have sh2:=sh0.keep (Sm.ks s2);refine a1r gt2 ?_;intro D hD;refine b15 (λi ys G'=>ys=((a35 (T'.take q.toNat) m ts).take i).map kwZ/\Sm G2 G'/\G' D=some (.lst ys)) ⟨by simp,Sm.new hD,a0e⟩ (by rintro i ys G' _ ⟨_,s,_⟩;exact s _ _ gt2) ?_ ?_
 ·rintro i x ys G' hx ⟨rfl,s,gD⟩;rw[eK]at hx;cases hx':ts[i]? with
  | none=>rw[hx']at hx;cases hx
  | some k=>
  rw[hx']at hx;cases hx;have hi:=(eJ.mp hx').1;have hk:nmOk k:=b3i (fun τ hτ=>ok τ (fI hτ)) ((ka.is k).mp (eR hx'));have sh3:=sh2.keep (Sm.ks s);obtain⟨dx3,n3,d3,ob3⟩:=b3h sh3;have tk:(a35 (T'.take q.toNat) m ts).take (i+1)=(a35 (T'.take q.toNat) m ts).take i++[(k,a08 (a1m (T'.take q.toNat) k) m)]:=by
   unfold a35;rw[fq,eK,hx'];rfl
  refine⟨_,rfl,?_⟩;symm;refine⟨p,dx3,_,rfl,ob3,a3d (by decide +kernel) (by decide +kernel),?_⟩;symm;refine⟨b,p,S,T',.str k,.int m,q,rfl,sh3,(λ_=>a8M hk),(λ_=>True.intro),few.1,.inl ⟨hq,k,m,rfl,hk,rfl,hm,λG3 s3=>?_⟩⟩;symm;refine⟨lenK rfl,s3 _ _ gD,by rw[er,eL];exact a0z (by omega),?_,(s.trans s3).put hD,a0e⟩;rw[tk,eN];rfl
 ·rintro ys G3 ⟨rfl,s,gD⟩;rw[er,show (a35 (T'.take q.toNat) m ts).take ts.length=a35 (T'.take q.toNat) m ts from ft (by unfold a35;rw[er];exact eB _)]at gD;symm;refine a1r gD ?_;intro E hE;refine a54 (g:=kwZ) (g':=kwZ) a14 (λys=>a0m gD hE) (by unfold a35;rw[er];omega) ?_ ?_
  ·rintro⟨k,v⟩ hr ys K1 K2 k1 k2;unfold a14 at k1 k2;refine⟨_,rfl,?_⟩;symm;cases c:decide (v=Z.non) with
   | true=>
    rw[c]at k2;symm;exact k2 rfl
   | false=>
    rw[c]at k1;symm;exact⟨_,rfl,_,rfl,lenK rfl,k1 _ rfl⟩
  ·symm;have s13:=(s2.trans s).trans (Sm.new (o:=.lst (((a35 (T'.take q.toNat) m ts).filterMap a14).map kwZ)) hE);exact fin E ts _ (s1.free (s2.free (s.free hE))) (s1.trans s13) ka hl a0e
theorem sz10 (h:n<=10000):n<sizeLine:=gG h (by decide)
noncomputable def trZ (v:Str×Rw):Z:=.tup [.str v.1,.int v.2.b,oz v.2.e]
noncomputable def WhoIs (T:List Tl) (y:Str):List Str->List (Str×Rw)->Prop
 | [],vs=>vs=[]
 | k::ts,vs=>∃ L us,IsLine T k L/\WhoIs T y ts us/\vs=((a1b y L).map λr=>(k,r))++us
theorem WhoIs.snoc (hL:IsLine T k L):∀ {ts:List Str}{vs:List (Str×Rw)},WhoIs T y ts vs->WhoIs T y (ts++[k]) (vs++(a1b y L).map λr=>(k,r))
 | [],vs,h=>by
  rw[h];exact⟨L,[],hL,rfl,by simp⟩
 | j::ts,vs,h=>by
  obtain⟨M,c,a,b,rfl⟩:=h;exact⟨M,_,a,WhoIs.snoc hL b,by rw[eU]⟩
noncomputable def b0t (a:Ad):P3:=λws G R=>∃ b:Bool,Ex5 λ(p:Addr) (S:Addr->Prop) (T:List Tl) (w:Str) (q:Int)=>ws=[.ref p,.str w,.int q]/\Sheet a b G p S T/\OkT T/\Few T/\T.length<=63/\inR T q/\nmOk w/\∀ t ts vs G',G t=none->Sm G G'->KeysAt (T.take q.toNat) ts->WhoIs (T.take q.toNat) w ts vs->vs.length<=126*ts.length->ts.length<=63->G' t=some (.lst (vs.map trZ))->R (.ref t) G'
theorem b3j {a:Ad}{ws:List Z}{G:Hq}{R:K3}(h:b0t a ws G R):ws.length=3:=by obtain⟨_,_,_,_,_,_,rfl,_⟩:=h;rfl
theorem b4K (F:Fns K a) (T:Txt K mg a):FnOk P w K mg base CX0 6 a.f29 a.d29 ["sheet","worth","knowing"] (lowP K (b0t a)):=by
 have G_Sheet_keys_at:=a20 (P:=P) (w:=w) (base:=base) F T;have G_p_check_name:=a07 (P:=P) (w:=w) (base:=base) F T;have G_p_when:=a8V (P:=P) (w:=w) (base:=base) F T;refine fn3 F.n29 sc_p_who (λws G R h=>(by exact b3j h)) (λcdv A outer s H E ws G R hr h=>?_);have hu:=a0P hr;obtain⟨b,h⟩:=h;refine⟨_,(a0l (a0J (i:=3) sc_p_who.nd rfl (en rfl) (a2G a1h up0 (a0c (pv 0)) (clK T b) (a2o T b) G_Sheet_keys_at (hr.mono (by decide)) (a2U F) (a0b (a0c (pv 2)) a0h a0a) (hst:=a0a) (hpl:=a0i)))
  (a0l (a0X (a2g a1h up0 G_p_check_name (hr.mono (by decide)) rfl T.m4 F.n4.kp (a06 F) (a0b (a0c (pv 1)) a0h a0a) (he:=a0a) (hpl:=a0i)))
  (a0l (a0J (i:=4) sc_p_who.nd rfl (en rfl) (a21 a0h))
  (a0l (a4H (pt:=(.nm 5)) jQ.never rfl (a0C (a0c (pv 3))) (show QP _ _ (.nm 5) from (a0p (i:=5) sc_p_who.nd rfl (en rfl)))
  (a0n (a4H (pt:=(.tp [6,7])) jQ.never rfl (a0C (a0q G_p_when (hr.mono (by decide)) rfl T.m28 F.n28.kp (a8z F) (a0b (a0c (pv 0)) (a0b (a0c (pv 5)) (a0b (a0c (pv 1)) (a0b (a0c (pv 2)) a0h a0a) a0a) a0a) a0a) (he:=a0a) (hpl:=(a0j a0a (a0j a0a (a0j a0a a0i)))))) (show QP _ _ (.tp [6,7]) from (a36 rfl (a0y (a0p (i:=6) sc_p_who.nd rfl (en rfl)) (a0y (a0p (i:=7) sc_p_who.nd rfl (en rfl)) a2v))))
  (a0n (a0X (q_bm PySem.F.plainAttrs_list PySem.F.slot_list_append PySem.F.type_list_append a16 (a0c (pv 4)) (a0b (a1W (a0b (a0c (pv 5)) (a0b (a0c (pv 6)) (a0b (a0c (pv 7)) a0h a0a) a0a) a0a)) a0h a5p)))))))
  (a0n (a0v (a0c (pv 4)))))))),?_⟩
 obtain⟨p,S,T',w,q,rfl,sh,ok,few,hT,hq,hw,fin⟩:=h;obtain⟨dx,n1,d1,ob⟩:=b3h sh;symm;refine⟨p,dx,_,rfl,ob,a3d (by decide +kernel) (by decide +kernel),?_⟩;symm;refine⟨b,p,S,T',q,rfl,sh,few,.inl ⟨hq,λt ts G1 ht s1 gt ka hl=>?_⟩⟩;have sh0:=sh.keep (Sm.ks s1);symm;refine⟨_,rfl,a8M hw,λG2 s2=>?_⟩;rw[nm_b hw];refine ifT ?_;symm;have gt2:=s2 _ _ gt;have sh2:=sh0.keep (Sm.ks s2);refine⟨lenK rfl,λE hE=>?_⟩;symm;have sE:Sm G2 (put G2 E (.lst [])):=Sm.new hE;refine a1r (sE _ _ gt2) ?_;refine a1X (λi σ G'=>Ex4 λ(vs:List (Str×Rw)) (v1 v2 v3:Option Z)=>σ=[some (.ref p),some (.str w),some (.int q),some (.ref t),some (.ref E),v1,v2,v3]/\WhoIs (T'.take q.toNat) w (ts.take i) vs/\vs.length<=126*i/\Sm G2 G'/\G' E=some (.lst (vs.map trZ))) ⟨[],none,none,none,rfl,by simp[WhoIs],by simp,sE,a0e⟩ (by rintro i σ G' _ ⟨_,_,_,_,_,_,_,s,_⟩;exact s _ _ gt2) ?_ ?_
 ·rintro i x σ G' hx ⟨vs,v1,v2,v3,rfl,hv,hvl,s,gE⟩;rw[eK]at hx;cases hx':ts[i]? with
  | none=>rw[hx']at hx;cases hx
  | some k=>
  rw[hx']at hx;cases hx;have hi:=(eJ.mp hx').1;have hk:nmOk k:=b3i (fun τ hτ=>ok τ (fI hτ)) ((ka.is k).mp (eR hx'));have sh3:=sh2.keep (Sm.ks s);refine⟨_,rfl,?_⟩;symm;refine⟨b,p,S,T',k,w,q,rfl,sh3,few.1,hq,hk,hw,λu L G3 hu s3 gu il=>?_⟩;have hLl:(a1b w L).length<=126:=by
   have h1:=il.len;rw[eL]at h1;have h2:(a1b w L).length<=L.length:=ik _ _;omega
  symm;refine a1r gu ?_;refine a1X (λj σ G'=>∃ (v2 v3:Option Z),σ=[some (.ref p),some (.str w),some (.int q),some (.ref t),some (.ref E),some (.str k),v2,v3]/\Sm G2 G'/\(∀ z o,z≠E->G3 z=some o->G' z=some o)/\G' E=some (.lst ((vs++((a1b w L).take j).map λr=>(k,r)).map trZ))) ⟨v2,v3,rfl,s.trans s3,λ_ _ _ e=>e,by simpa using s3 _ _ gE⟩ (by rintro j σ G' _ ⟨_,_,_,_,s4,_⟩;exact s4 _ _ (λz=>by rw[z]at hu;rw[gE]at hu;cases hu) gu) ?_ ?_
  ·rintro j x σ G4 hx ⟨v2,v3,rfl,s4,k4,gE4⟩;rw[eK]at hx;cases hr:(a1b w L)[j]? with
   | none=>rw[hr]at hx;cases hx
   | some r=>
   rw[hr]at hx;cases hx;have hj:=(eJ.mp hr).1;refine⟨_,rfl,?_⟩;symm;refine a4K gE4 ?_;symm;refine⟨lenK rfl,?_⟩;symm;refine a1R gE4 (sz10 ?_) ?_
   ·rw[er,eE,er,eL];omega
   symm;refine⟨_,_,rfl,s4.put hE,λz o hz e=>by rw[a0H hz];exact k4 z o hz e,?_⟩;rw[a0e,fq,hr];simp[trZ]
  ·rintro σ G4 ⟨v2,v3,rfl,s4,k4,gE4⟩;rw[er,fS]at gE4;symm;refine⟨_,_,_,_,rfl,?_,?_,s4,gE4⟩
   ·rw[fq,hx'];exact hv.snoc il
   ·rw[eE,er];omega
 ·rintro σ G3 ⟨vs,v1,v2,v3,rfl,hv,hvl,s,gE⟩;rw[er]at hv hvl;rw[fS]at hv;symm;exact fin E ts vs _ (s1.free (s2.free hE)) (s1.trans (s2.trans s)) ka hv hvl hl gE
local macro_rules | `(tactic| walk_at "go1")=>`(tactic| first | refine i_I (show (0:Int)<_ by decide) ?_ | refine a1q (by assumption) (by with_unfolding_all rfl) ?_ | (refine i_I ⟨by decide,by decide,by decide⟩ ?_;rw[a42]))
noncomputable def b0u:P3:=λws G R=>Ex4 λ(p:Addr) (T:List Tl) (k:Str) (m:Int)=>ws=[.ref p,.str k,.int m]/\G p=some (.lst (T.map Tl.z))/\∀ G',Sm G G'->R (a08 (a1m T k) m) G'
theorem b3k (h:b0u ws G R):ws.length=3:=by obtain⟨_,_,_,_,rfl,_⟩:=h;rfl
theorem b4L (F:Fns K a) (T:Txt K mg a):FnOk P w K mg base CX0 2 a.f40 a.d40 ["tellings","key","moment"] (lowP K b0u):=by
 have G_has:=b9I (P:=P) (w:=w) (base:=base) F T;refine fn3 F.n40 sc_worth (λws G R h=>(by exact b3k h)) (λcdv A outer s H E ws G R hr h=>?_);have hu:=a0P hr;refine⟨_,(a0l (a0J (i:=3) sc_worth.nd rfl (en rfl) a1Q)
  (a0l (a4H (pt:=(.nm 4)) jQ.never rfl (a0C (a0c (pv 0))) (show QP _ _ (.nm 4) from (a0p (i:=4) sc_worth.nd rfl (en rfl)))
  (a0n (z_if (QW.qt (a7h (a0s (o_eq hu) (q_ix x_ix (a0c (pv 4)) a0g (λ_ _=>rfl)) (a0c (pv 1)) (a0o _)) (a44 (a27 (a0q G_has (hr.mono (by decide)) rfl T.m39 F.n39.kp (b9p F) (a0b (a0c (pv 4)) (a0b (a0c (pv 2)) a0h a0a) a0a) (he:=a0a) (hpl:=(a0j a0a a0i)))))))
  (a0n (a0J (i:=3) sc_worth.nd rfl (en rfl) (q_ix x_ix (a21 (a0b a1Q (a0b (q_ix x_ix (a0c (pv 4)) a0g (λ_ _=>rfl)) a0h a0k) a0d)) (a5q b5g rfl T.b_int rfl (a0b (a39 (o_eq hu) (q_ix x_ix (a0c (pv 4)) a0g (λ_ _=>rfl)) a38 (a0o _)) a0h a3h) (he:=a3h) (hpl:=a0i)) (λ_ _=>rfl))))
  a00)))
  (a0n (a0v (a0c (pv 3)))))),?_⟩
 obtain⟨p,T',k,m,rfl,gp,q⟩:=h;symm;refine a1r gp ?_;refine a1X (λi σ G'=>∃ v:Option Z,Sm G G'/\σ=[some (.ref p),some (.str k),some (.int m),some (wAt T' k m i),v]) ⟨_,Sm.refl _,rfl⟩ (by rintro i σ G' _ ⟨_,s,_⟩;exact s _ _ gp) ?_ ?_
 ·rintro i u σ G' hu ⟨v,s,rfl⟩;rw[eK]at hu;cases hu':T'[i]? with
  | none=>rw[hu']at hu;cases hu
  | some τ=>
  rw[hu']at hu;cases hu;have hw:=@b4F T' τ k m i hu';obtain⟨ws,ez,ek⟩:=@b5v τ;refine⟨_,rfl,?_⟩;symm;rw[ez];refine a2e ek ?_;symm;refine ifD (λc1=>?_) λc1=>?_
  rotate_left
  ·symm;rw[if_neg (λz=>c1 z.1)]at hw;exact⟨_,s,by rw[hw];rfl⟩
  symm;rw[<- ez];refine⟨τ,m,rfl,?_⟩;symm;refine ifB (λc2=>?_) λc2=>?_
  rotate_left
  ·symm;rw[if_neg (λz=>by rw[c2]at z;exact absurd z.2 (by decide))]at hw;exact⟨_,s,by rw[hw];rfl⟩
  rw[if_pos ⟨c1,c2⟩]at hw;obtain⟨ws2,fx,fy,ez2,e2,e0,ef⟩:=@b4G τ;rw[ez2];symm;refine a2e e2 ?_;symm;refine⟨lenK rfl,λl hl=>?_⟩;symm;refine a2e e0 ?_;symm;refine a1q a0e ef ?_;symm;exact⟨_,s.trans (Sm.new hl),by rw[hw];rfl⟩
 ·rintro σ G' ⟨v,s,rfl⟩;symm
  have:=q G' s
  unfold wAt;rw[er,fS];exact this
theorem b0v (h:Rise L):(L.filter λr=>r.has m).map (·.w)=(val L m).toList:=by
 induction L with
 | nil=>rfl
 | cons r L ih=>
  rw[fw,a0A];cases e:r.has m with
  | false=>exact ih h.tail
  | true=>
   have:(L.filter λr=>r.has m)=[]:=ij.mpr λs a=>by
    rw[((eT.mp h.2).1 s a).has e]
    decide
   rw[if_pos rfl,if_pos rfl,this];rfl
theorem fmf {α β:Type}{p:α->Bool}{g:α->β}:∀ {l:List α},l.filterMap (λx=>if p x=true then some (g x) else none)=(l.filter p).map g
 | []=>rfl
 | x::l=>by
  rw[fD,fw,fmf];cases p x<;>rfl
noncomputable def a8X:P3:=λws G R=>∃ (b:Int) (e:Option Int) (n:Int),ws=[.int b,oz e,.int n]/\R (.bl (decide (b<=n)&&bef n e)) G
theorem b1f (h:a8X ws G R):ws.length=3:=by obtain⟨_,_,_,rfl,_⟩:=h;rfl
theorem b3l (F:Fns K a) (T:Txt K mg a):FnOk P w K mg base CX0 1 a.f41 a.d41 ["begin","end","number"] (lowP K a8X):=by
 refine fn3 F.n41 b2N (λg G R h=>(by exact b1f h)) (λi A d s H E g G R f h=>?_);have j:=a0P f;refine⟨_,(a0n (a0v (a72 (a39 o_le (a0c (pv 0)) (a0c (pv 2)) (a0o _)) (a71 (b53 (a39 o_is (a0c (pv 1)) a1Q (a0o _)) (a71 (a39 o_lt (a0c (pv 2)) (a0c (pv 1)) (a0o _)))))))),?_⟩;obtain⟨b,e,n,rfl,q⟩:=h;symm;refine ifD (λc=>?_) λc=>?_
 ·rw[decide_eq_true c,fg]at q;cases e with
  | none=>symm;exact q
  | some e=>symm;exact q
 ·rw[decide_eq_false c]at q;exact q
noncomputable def b0w:P3:=λws G R=>∃ (p:Addr) (L:List Rw),ws=[.ref p]/\G p=some (.lst (L.map Rw.z))/\Can L/\(∀ r∈L,flat 8 (.tup r.w)=true)/\L.length<=900/\R (.bl true) G
theorem b3m (h:b0w ws G R):ws.length=1:=by obtain⟨_,_,rfl,_⟩:=h;rfl
theorem b4M (F:Fns K a) (T:Txt K mg a):FnOk P w K mg base CX0 1 a.f42 a.d42 ["rows"] (lowP K b0w):=by
 refine fn3 F.n42 sc_apart (λws G R h=>(by exact b3m h)) (λcdv A outer s H E ws G R hr h=>?_);have hu:=a0P hr;refine⟨_,(a0l (a4H (pt:=(.nm 1)) jQ.never rfl (a6K rfl T.b_range (a0b a0g (a0b (a0K b_len rfl T.b_len PySem.boot_len (a0b (a0c (pv 0)) a0h a0a) (he:=a0a) (hpl:=a0i)) a0h a0M) a0d)) (show QP _ _ (.nm 1) from (a0p (i:=1) sc_apart.nd rfl (en rfl)))
  (a0l (z_if (QW.qt (q_or (a0s o_is (q_ix x_ix (q_ix x_ix (a0c (pv 0)) (q_op a7j (a0c (pv 1)) a0g) (λ_ _=>rfl)) a0g (λ_ _=>rfl)) a1Q (a0o _)) (a70 (a0s o_gt (q_ix x_ix (q_ix x_ix (a0c (pv 0)) (q_op a7j (a0c (pv 1)) a0g) (λ_ _=>rfl)) a0g (λ_ _=>rfl)) (q_ix x_ix (q_ix x_ix (a0c (pv 0)) (a0c (pv 1)) (λ_ _=>rfl)) a0g (λ_ _=>rfl)) (a0o _)))))
  (a0n (a0v q_bl))
  a00)
  (a0n (z_if (QW.qt (a7h (a0s (o_eq hu) (q_ix x_ix (q_ix x_ix (a0c (pv 0)) (q_op a7j (a0c (pv 1)) a0g) (λ_ _=>rfl)) a0g (λ_ _=>rfl)) (q_ix x_ix (q_ix x_ix (a0c (pv 0)) (a0c (pv 1)) (λ_ _=>rfl)) a0g (λ_ _=>rfl)) (a0o _)) (a44 (a0s (o_eq hu) (a1F x_sl (q_ix x_ix (a0c (pv 0)) (q_op a7j (a0c (pv 1)) a0g) (λ_ _=>rfl)) (a15 a0g) a1z) (a1F x_sl (q_ix x_ix (a0c (pv 0)) (a0c (pv 1)) (λ_ _=>rfl)) (a15 a0g) a1z) (a0o _)))))
  (a0n (a0v q_bl))
  a00))))
  (a0n (a0v q_bl))),?_⟩
 obtain⟨p,L,rfl,gp,can,hf,hl,q⟩:=h;symm;refine a5M gp ?_;symm;rw[er];refine⟨1,_,rfl,⟨by decide,by decide,by omega,by omega⟩,?_⟩;refine a1X (λi σ G'=>∃ v:Option Z,G'=G/\σ=[some (.ref p),v]) ⟨_,rfl,rfl⟩ (λ_ _ _ _ _=>True.intro) ?_ ?_
 ·rintro i u σ G' hu ⟨v,rfl,rfl⟩;obtain⟨hi,rfl⟩:=a5I hu;have hi:i+1<L.length:=by omega
  have hs:L[i]?=some L[i]:=eQ (by omega);have hr:L[i+1]?=some L[i+1]:=eQ hi;have fs:=hf _ (fL (l:=L) (n:=i) (by omega));have fr:=hf _ (fL (l:=L) (n:=i+1) hi);have l2:Lt2 L[i] L[i+1]:=gm.mp can.2 i (i+1) (by omega) hi (by omega);generalize L[i]=s at hs l2 fs;generalize L[i+1]=r at hr l2 fr;obtain⟨x,l2,l3,l4⟩:=l2;have ar:atI (L.map Rw.z) (1+(i:Int))=some (.tup (.int r.b::oz r.e::r.w)):=by
   rw[show 1+(i:Int)=((i+1:Nat):Int) by omega,a56 hr];rfl
  have as':atI (L.map Rw.z) (1+(i:Int) - 1)=some (.tup (.int s.b::.int x::s.w)):=by
   rw[show 1+(i:Int) - 1=(i:Int) by omega,a56 hs];unfold Rw.z;rw[l2]
  refine⟨_,rfl,?_⟩;symm;refine a1q gp as' ?_;symm;refine a1q gp as' ?_;symm;refine a1q gp ar ?_;symm;refine ifD (λz=>absurd z (by omega)) λ_=>?_;symm;refine a1q gp as' ?_;symm;refine a1q gp ar ?_;symm;refine ifD (λce=>?_) λ_=>?_
  rotate_left
  ·symm;exact⟨_,rfl,rfl⟩
  symm;refine a1q gp as' ?_;symm;refine b2Y ?_;symm;refine a1q gp ar ?_;symm;refine b2Y ?_;symm;refine a9y fs fr ?_;rw[decide_eq_false λz=>l4 ce (by injection z)];refine⟨_,rfl,ifF ?_⟩;symm;exact⟨_,rfl,rfl⟩
 ·rintro σ G' ⟨v,rfl,rfl⟩;symm;exact q
theorem IsLine.more (h:IsLine T k L) (c:τ.key≠k):IsLine (T++[τ]) k L:=⟨h.can,h.pl,by have:=h.len;simp;omega,λt=>by rw[h.v,a4U,if_neg c,eW]⟩
theorem b66 (ok:OkT T):∃ L,IsLine T k L:=by
 induction T using a7J with
 | h0=>exact⟨[],IsLine.nil rfl⟩
 | h1 T τ ih=>
  obtain⟨L,a⟩:=ih λu b=>ok u (by simp[b])
  by_cases c:τ.key=k
  ·subst c;exact⟨_,a.snoc (ok τ (by simp))⟩
  ·exact⟨L,a.more c⟩
noncomputable def oneZ (z:Z):List Z:=if z=.non then [] else [z]
theorem b67 (z:Z):(optW z).toList.map (λw:List Z=>w.headD .non)=oneZ z:=by
 unfold optW oneZ
 split<;>rfl
theorem b3n (ok:OkT T) (h:¬ NE T k):a08 (a1m T k) m=.non:=by
 obtain⟨L,a⟩:=b66 ok
 have:=Classical.byContradiction λz=>h ⟨L,a,z⟩
 subst this;have e:=a.v m;rw[<- a9x (a08 _ m),<- e];rfl
theorem b3o {f:Str->Z}:∀ {ts:List Str},ts.Nodup->((((ts.map λk=>(k,f k)).filterMap a14).filter λv=>decide (v.1=k)).map (·.2))=if k∈ts then oneZ (f k) else []
 | [],_=>rfl
 | s::ts,nd=>by
  obtain⟨a,d⟩:=fF.mp nd;have b:=b3o (f:=f) (k:=k) d;have e:(((s::ts).map λk=>(k,f k)).filterMap a14)=(if f s=.non then [] else [(s,f s)])++((ts.map λk=>(k,f k)).filterMap a14):=by
   unfold a14
   by_cases c:f s=.non
   ·simp[c]
   ·simp[c]
  rw[e,iJ,eN,b]
  by_cases c:s=k
  ·subst c;rw[if_neg a,if_pos (show s∈s::ts from .head _),eW];unfold oneZ
   split<;>simp
  ·have:k∈s::ts↔k∈ts:=by
    rw[eI];exact⟨λz=>z.resolve_left (Ne.symm c),.inr⟩
   simp only[this]
   split<;>simp[c]
theorem b68 (ok:OkT T) (ka:KeysAt T ts):((((a35 T m ts).filterMap a14).filter λv=>decide (v.1=k)).map (·.2))=oneZ (a08 (a1m T k) m):=by
 unfold a35;rw[b3o ka.nd]
 split
 ·rfl
 ·next c=>
  rw[b3n ok λz=>c ((ka.is k).mpr z)];rfl
theorem b3p {L:List Rw}{w:Str}{m:Int}(h:Rise L):((a1b w L).filter λr=>r.has m).length=if val L m=some [.str w] then 1 else 0:=by
 have e:=b0v (m:=m) h;unfold a1b;have a:(L.filter λr=>r.has m&&decide (r.w=[Z.str w]))=(L.filter λr=>r.has m).filter λr=>decide (r.w=[Z.str w]):=by
  rw[iI];exact jw λr _=>Bool.and_comm _ _
 rw[iI,a];generalize (L.filter λr=>r.has m)=A at e;cases hv:val L m with
 | none=>
  rw[hv]at e;rw[gS.mp e];rfl
 | some v=>
  rw[hv]at e;obtain⟨r,rfl,rfl⟩:=List.map_eq_singleton_iff.mp e
  by_cases c:r.w=[Z.str w]
  ·simp[c]
  ·simp[c]
theorem b3q {T:List Tl}{w k:Str}{L:List Rw}(il:IsLine T k L):∀ {ts:List Str}{vs:List (Str×Rw)},ts.Nodup->WhoIs T w ts vs->(vs.filter λv=>decide (v.1=k)).map (·.2)=if k∈ts then a1b w L else []
 | [],vs,_,h=>by rw[h];rfl
 | s::ts,vs,nd,h=>by
  obtain⟨e,f⟩:=fF.mp nd;obtain⟨M,i,b,g,rfl⟩:=h;have d:=b3q il f g;rw[iJ,eN,d]
  by_cases c:s=k
  ·subst c;rw[if_neg e,if_pos (.head _),eW,b.uniq il,jx.mpr (λv a=>by obtain⟨r,_,rfl⟩:=eG.mp a;simp),fB];exact gv _
  ·have:k∈s::ts↔k∈ts:=by
    rw[eI];exact⟨λz=>z.resolve_left (Ne.symm c),.inr⟩
   simp only[this];rw[ij.mpr (λv a=>by obtain⟨r,_,rfl⟩:=eG.mp a;simpa using c),eX,gq]
theorem b69 {T:List Tl}{w k:Str}{L:List Rw}{ts:List Str}{vs:List (Str×Rw)}(il:IsLine T k L) (ka:KeysAt T ts) (h:WhoIs T w ts vs):(vs.filter λv=>decide (v.1=k)).map (·.2)=a1b w L:=by
 rw[b3q il ka.nd h]
 split
 ·rfl
 ·next c=>
  have:=Classical.byContradiction λz=>c ((ka.is k).mpr ⟨L,il,z⟩)
  rw[this];rfl
noncomputable def bare (r:Rw):Rw:=⟨r.b,r.e,[]⟩
theorem b9K {L:List Rw}:L.map a6j=(L.map bare).map Rw.z:=by rw[fB];rfl
theorem b4N {L:List Rw}{w:Str}(h:Can L):Can ((a1b w L).map bare):=by
 refine⟨λr a=>?_,fM.mpr ?_⟩
 ·obtain⟨s,b,rfl⟩:=eG.mp a;exact h.1 s (fj.mp b).1
 ·refine (fv.and_mem.mp (h.2.sublist (iK))).imp λ{r s} h=>?_;obtain⟨a,b,e,c,d,f⟩:=h;refine⟨e,c,d,λz=>absurd ?_ (f z)⟩;rw[of_decide_eq_true (fj.mp a).2,of_decide_eq_true (fj.mp b).2]
theorem a8Y {L:List Rw}:(L.map a6j).all (flat 8)=true:=by
 rw[List.all_map,fV];intro r _
 show (([.int r.b,oz r.e]).all (flat 7))=true
 simp only[fP];rw[b0h,b6J];rfl
structure RIn (a:Ad) (b:Bool) (G:Hq) (p:Addr) (S:Addr->Prop) (T:List Tl) (k:Str) (m q:Int) (wsA:Addr) (wn:List Str) (due:Z):Prop where
 sh:Sheet a b G p S T
 ok:OkT T
 few:Few T
 len:T.length<=63
 hk:nmOk k
 hm:momB (.int m)=true
 hq:inR T q
 gw:G wsA=some (.lst (wn.map Z.str))
 hw:∀ s∈wn,nmOk s
 hd:due=a08 (a1m (T.take q.toNat) k) m
theorem RIn.sm {a:Ad}{b:Bool}{G G':Hq}{p:Addr}{S:Addr->Prop}{T:List Tl}{k:Str}{m q:Int}{wsA:Addr}{wn:List Str}{due:Z}(h:RIn a b G p S T k m q wsA wn due) (s:Sm G G'):RIn a b G' p S T k m q wsA wn due:={ h with sh:=h.sh.keep (Sm.ks s),gw:=s _ _ h.gw }
noncomputable def b0x (a:Ad):P3:=λws G R=>∃ b:Bool,Ex9 λ(p:Addr) (S:Addr->Prop) (T:List Tl) (k:Str) (m q:Int) (wsA:Addr) (wn:List Str) (due:Z)=>ws=[.ref p,.str k,.int m,.int q,.ref wsA,due]/\RIn a b G p S T k m q wsA wn due/\∀ G',Sm G G'->R (.bl true) G'
theorem b3r {a:Ad}{ws:List Z}{G:Hq}{R:K3}(h:b0x a ws G R):ws.length=6:=by obtain⟨_,_,_,_,_,_,_,_,_,_,rfl,_⟩:=h;rfl
theorem b0y:[due].filterMap (λz=>if decide (z=.non)=true then none else some z)=oneZ due:=by
 unfold oneZ
 by_cases c:due=.non
 ·simp[c]
 ·simp[c]
theorem b4O (F:Fns K a) (T:Txt K mg a):FnOk P w K mg base CX0 7 a.f43 a.d43 ["sheet","key","moment","knowing","worths","due"] (lowP K (b0x a)):=by
 have G_p_story:=b1d (P:=P) (w:=w) (base:=base) F T;have G_apart:=b4M (P:=P) (w:=w) (base:=base) F T;have G_p_when:=a8V (P:=P) (w:=w) (base:=base) F T;have G_within:=b3l (P:=P) (w:=w) (base:=base) F T;have G_p_all_at:=a9H (P:=P) (w:=w) (base:=base) F T;have G_p_who:=b4K (P:=P) (w:=w) (base:=base) F T;refine fn3 F.n43 sc_right (λws G R h=>(by exact b3r h)) (λcdv A outer s H E ws G R hr h=>?_);have hu:=a0P hr;obtain⟨b,h⟩:=h;refine⟨_,(a0l (a0J (i:=6) sc_right.nd rfl (en rfl) (a0q G_p_story (hr.mono (by decide)) rfl T.m24 F.n24.kp (b01 F) (a0b (a0c (pv 0)) (a0b (a0c (pv 1)) (a0b (a0c (pv 2)) a0h a0a) a0a) a0a) (he:=a0a) (hpl:=(a0j a0a (a0j a0a a0i)))))
  (a0l (z_if (a4a (a27 (a0q G_apart (hr.mono (by decide)) rfl T.m42 F.n42.kp (b0a F) (a0b (a0c (pv 6)) a0h a0a) (he:=a0a) (hpl:=a0i))))
  (a0n (a0v q_bl))
  a00)
  (a0l (z_if (a0s (o_ne hu) (q_lc (N₀:=["sheet","key","moment","knowing","worths","due","rows","worth","stretches","many"]) (so:=a0f a2N) (N':=["row","knowing"]) (cap:=[none,some 3]) (pt:=(.nm 0)) rfl rfl rfl (by decide +kernel) rfl (a0C (a0c (pv 6))) (λ_ _ _ _=>(show QP _ _ (.nm 0) from (a0p (i:=0) b9n rfl (en rfl)))) (λ_ _ _ _=>(a1f (a27 (a0q G_within (hr.mono (by decide)) rfl T.m41 F.n41.kp (a8B F) (a0b (q_ix x_ix (a0c (pv 0)) a0g (λ_ _=>rfl)) (a0b (q_ix x_ix (a0c (pv 0)) a0g (λ_ _=>rfl)) (a0b (a0c (pv 1)) a0h a0a) a0k) a0k) (he:=a0k) (hpl:=(a0j a0k (a0j a0a a0i))))))) (λ_ _ _ _=>(q_ix x_ix (a0c (pv 0)) a0g (λ_ _=>rfl)))) (q_lc (N₀:=["sheet","key","moment","knowing","worths","due","rows","worth","stretches","many"]) (so:=a0f a2N) (N':=["one"]) (cap:=[none]) (pt:=(.nm 0)) rfl rfl rfl (by decide +kernel) rfl (a0C (a21 (a0b (a0c (pv 5)) a0h a0a))) (λ_ _ _ _=>(show QP _ _ (.nm 0) from (a0p (i:=0) b5j rfl (en rfl)))) (λ_ _ _ _=>(a1f (a0s a3J (a0c (pv 0)) a1Q (a0o _)))) (λ_ _ _ _=>(a0c (pv 0)))) (a0o _))
  (a0n (a0v q_bl))
  a00)
  (a0l (z_if (a0s (o_ne hu) (q_lc (N₀:=["sheet","key","moment","knowing","worths","due","rows","worth","stretches","many"]) (so:=a0f a2N) (N':=["row","key"]) (cap:=[none,some 1]) (pt:=(.nm 0)) rfl rfl rfl (by decide +kernel) rfl (a0C (a0q G_p_all_at (hr.mono (by decide)) rfl T.m26 F.n26.kp (a9r F) (a0b (a0c (pv 0)) (a0b (a0c (pv 2)) (a0b (a0c (pv 3)) a0h a0a) a0a) a0a) (he:=a0a) (hpl:=(a0j a0a (a0j a0a a0i))))) (λ_ _ _ _=>(show QP _ _ (.nm 0) from (a0p (i:=0) b5k rfl (en rfl)))) (λ_ _ _ _=>(a1f (a0s (o_eq hu) (q_ix x_ix (a0c (pv 0)) a0g (λ_ _=>rfl)) (a0c (pv 1)) (a0o _)))) (λ_ _ _ _=>(q_ix x_ix (a0c (pv 0)) a0g (λ_ _=>rfl)))) (q_lc (N₀:=["sheet","key","moment","knowing","worths","due","rows","worth","stretches","many"]) (so:=a0f a2N) (N':=["one"]) (cap:=[none]) (pt:=(.nm 0)) rfl rfl rfl (by decide +kernel) rfl (a0C (a21 (a0b (a0c (pv 5)) a0h a0a))) (λ_ _ _ _=>(show QP _ _ (.nm 0) from (a0p (i:=0) b5j rfl (en rfl)))) (λ_ _ _ _=>(a1f (a0s a3J (a0c (pv 0)) a1Q (a0o _)))) (λ_ _ _ _=>(a0c (pv 0)))) (a0o _))
  (a0n (a0v q_bl))
  a00)
  (a0l (a4H (pt:=(.nm 7)) jQ.never rfl (a0C (a0c (pv 4))) (show QP _ _ (.nm 7) from (a0p (i:=7) sc_right.nd rfl (en rfl)))
  (a0l (a0J (i:=8) sc_right.nd rfl (en rfl) (a0q G_p_when (hr.mono (by decide)) rfl T.m28 F.n28.kp (a8z F) (a0b (a0c (pv 0)) (a0b (a0c (pv 1)) (a0b (a0c (pv 7)) (a0b (a0c (pv 3)) a0h a0a) a0a) a0a) a0a) (he:=a0a) (hpl:=(a0j a0a (a0j a0a (a0j a0a a0i))))))
  (a0l (z_if (a4a (a27 (a0q G_apart (hr.mono (by decide)) rfl T.m42 F.n42.kp (b0a F) (a0b (a0c (pv 8)) a0h a0a) (he:=a0a) (hpl:=a0i))))
  (a0n (a0v q_bl))
  a00)
  (a0l (a0J (i:=9) sc_right.nd rfl (en rfl) (a0K b_len rfl T.b_len PySem.boot_len (a0b (q_lc (N₀:=["sheet","key","moment","knowing","worths","due","rows","worth","stretches","many"]) (so:=a0f a2N) (N':=["one","moment"]) (cap:=[none,some 2]) (pt:=(.nm 0)) rfl rfl rfl (by decide +kernel) rfl (a0C (a0c (pv 8))) (λ_ _ _ _=>(show QP _ _ (.nm 0) from (a0p (i:=0) b9o rfl (en rfl)))) (λ_ _ _ _=>(a1f (a27 (a0q G_within (hr.mono (by decide)) rfl T.m41 F.n41.kp (a8B F) (a0b (q_ix x_ix (a0c (pv 0)) a0g (λ_ _=>rfl)) (a0b (q_ix x_ix (a0c (pv 0)) a0g (λ_ _=>rfl)) (a0b (a0c (pv 1)) a0h a0a) a0k) a0k) (he:=a0k) (hpl:=(a0j a0k (a0j a0a a0i))))))) (λ_ _ _ _=>(a0c (pv 0)))) a0h a0B) (he:=a0B) (hpl:=a0i)))
  (a0l (z_if (a0s (o_ne hu) (a0c (pv 9)) (a5q b5g rfl T.b_int rfl (a0b (a39 (o_eq hu) (a0c (pv 7)) (a0c (pv 5)) (a0o _)) a0h a3h) (he:=a3h) (hpl:=a0i)) (a0o _))
  (a0n (a0v q_bl))
  a00)
  (a0n (z_if (a0s (o_ne hu) (q_lc (N₀:=["sheet","key","moment","knowing","worths","due","rows","worth","stretches","many"]) (so:=a0f a2N) (N':=["row","key"]) (cap:=[none,some 1]) (pt:=(.nm 0)) rfl rfl rfl (by decide +kernel) rfl (a0C (a0q G_p_who (hr.mono (by decide)) rfl T.m29 F.n29.kp (b4j F) (a0b (a0c (pv 0)) (a0b (a0c (pv 7)) (a0b (a0c (pv 3)) a0h a0a) a0a) a0a) (he:=a0a) (hpl:=(a0j a0a (a0j a0a a0i))))) (λ_ _ _ _=>(show QP _ _ (.nm 0) from (a0p (i:=0) b5k rfl (en rfl)))) (λ_ _ _ _=>(a1f (a0s (o_eq hu) (q_ix x_ix (a0c (pv 0)) a0g (λ_ _=>rfl)) (a0c (pv 1)) (a0o _)))) (λ_ _ _ _=>(a1F x_sl (a0c (pv 0)) (a15 a0g) a1z))) (a0c (pv 8)) (a0o _))
  (a0n (a0v q_bl))
  a00)))))))
  (a0n (a0v q_bl))))))),?_⟩
 obtain⟨p,S,T',k,m,q,wsA,wn,due,rfl,I,fin⟩:=h;have hT:=I.len;have hq:=I.hq;have okq:OkT (T'.take q.toNat):=fun τ h=>I.ok τ (fI h);have hf:flat 0 due=true:=by rw[I.hd];exact a47 (a6Y okq (k:=k)) m
 have hf8:=a3a (m:=8) (by decide) hf;have fo:(oneZ due).all (flat 8)=true:=by
  unfold oneZ
  split
  ·rfl
  ·rw[fP,hf8];rfl
 symm;refine⟨b,p,S,T',k,m,rfl,I.sh,I.ok,by omega,I.hk,I.hm,λt L G1 ht s1 gt st=>?_⟩
 replace I:=I.sm s1
 have lL:=st.len;symm;refine⟨t,L,rfl,gt,st.can,λr hr=>a9u (st.pl.okR r hr),by omega,?_⟩;symm;refine ifF ?_;symm;refine a1r gt ?_;intro D hD;refine a3A (g':=λw:List Z=>w.headD .non) (λr=>if r.has q=true then some r.w else none) (λys=>a0m gt hD) (by omega) ?_ ?_
 ·intro r hr ys K1 K2 k1 k2;obtain⟨x,hx,_⟩:=st.pl r hr;have hz:r.z=.tup [.int r.b,oz r.e,x]:=by unfold Rw.z;rw[hx]
  rw[hz];refine⟨_,rfl,?_⟩;symm;refine⟨r.b,r.e,q,rfl,?_⟩;refine⟨_,rfl,ifB (λc=>?_) λc=>?_⟩
  ·have k1:=k1 _ (if_pos c);rw[hx]at k1;symm;exact k1
  ·exact k2 (if_neg (by show ¬ (decide (r.b<=q)&&bef q r.e)=true;rw[c];decide))
 have e1:(L.filterMap λr=>if r.has q=true then some r.w else none).map (λw:List Z=>w.headD .non)=oneZ due:=by
  rw[fmf,b0v st.can.rise,st.v,if_pos hq.1];unfold sf wAt;rw[b67,I.hd]
 rw[e1];have gD:put G1 D (.lst (oneZ due)) D=some (.lst (oneZ due)):=a0e;have s2:Sm G1 (put G1 D (.lst (oneZ due))):=Sm.new hD;generalize put G1 D (.lst (oneZ due))=G2 at gD s2 ⊢
 replace I:=I.sm s2
 clear e1;symm;refine⟨lenK rfl,λE hE=>?_⟩;have gE:put G2 E (.lst [due]) E=some (.lst [due]):=a0e;have s3:Sm G2 (put G2 E (.lst [due])):=Sm.new hE;generalize put G2 E (.lst [due])=G3 at gE s3 ⊢;refine a1r gE ?_;intro F hF;refine a87 (λz=>if decide (z=.non)=true then none else some z) (λys=>a0m gE hF) (show 1<=1000 by decide) ?_ ?_
 ·intro x hx ys K1 K2 k1 k2;refine⟨_,rfl,?_⟩;symm;refine ifN (λc=>?_) λc=>?_
  ·symm;exact k1 _ (if_neg (by rw[decide_eq_true_eq];exact c))
  ·exact k2 (if_pos (decide_eq_true c))
 rw[b0y];have gF:put G3 F (.lst (oneZ due)) F=some (.lst (oneZ due)):=a0e;have s4:Sm G3 (put G3 F (.lst (oneZ due))):=Sm.new hF;generalize put G3 F (.lst (oneZ due))=G4 at gF s4 ⊢;have s24:=s3.trans s4;refine b6i (s24 _ _ gD) gF fo fo ?_;rw[decide_eq_true rfl];symm;refine ifF ?_
 replace I:=I.sm s24
 have s04:=(s1.trans s2).trans s24;clear gD gF gE s3 s4 s2 s24 hD hE hF gt;symm;refine⟨b,p,S,T',m,q,rfl,I.sh,I.ok,I.few,hq,I.hm,λt2 ts G5 ht2 s5 ka lts gt2=>?_⟩
 replace I:=I.sm s5
 symm;refine a1r gt2 ?_;intro D hD;have lal:((a35 (T'.take q.toNat) m ts).filterMap a14).length<=63:=eM (gj _ _) (by unfold a35;rw[er];exact lts);refine a3A (g':=λz:Z=>z) (λv:Str×Z=>if decide (v.1=k)=true then some v.2 else none) (λys=>a0m gt2 hD) (by omega) ?_ ?_
 ·intro v hv ys K1 K2 k1 k2;refine⟨_,rfl,?_⟩;unfold kwZ;symm;refine ifD (λc=>?_) λc=>?_
  ·symm;exact k1 _ (if_pos (decide_eq_true c))
  ·exact k2 (if_neg (by rw[decide_eq_true_eq];exact c))
 have e1:(((a35 (T'.take q.toNat) m ts).filterMap a14).filterMap λv:Str×Z=>if decide (v.1=k)=true then some v.2 else none).map (λz:Z=>z)=oneZ due:=by
  rw[fmf,b68 okq ka,I.hd];exact gv _
 rw[e1];have gD:put G5 D (.lst (oneZ due)) D=some (.lst (oneZ due)):=a0e;have s2:Sm G5 (put G5 D (.lst (oneZ due))):=Sm.new hD;generalize put G5 D (.lst (oneZ due))=G6 at gD s2 ⊢;clear e1;symm;refine⟨lenK rfl,λE hE=>?_⟩;have gE:put G6 E (.lst [due]) E=some (.lst [due]):=a0e;have s3:Sm G6 (put G6 E (.lst [due])):=Sm.new hE;generalize put G6 E (.lst [due])=G7 at gE s3 ⊢;refine a1r gE ?_;intro F hF;refine a87 (λz=>if decide (z=.non)=true then none else some z) (λys=>a0m gE hF) (show 1<=1000 by decide) ?_ ?_
 ·intro x hx ys K1 K2 k1 k2;refine⟨_,rfl,?_⟩;symm;refine ifN (λc=>?_) λc=>?_
  ·symm;exact k1 _ (if_neg (by rw[decide_eq_true_eq];exact c))
  ·exact k2 (if_pos (decide_eq_true c))
 rw[b0y];have gF:put G7 F (.lst (oneZ due)) F=some (.lst (oneZ due)):=a0e;have s4:Sm G7 (put G7 F (.lst (oneZ due))):=Sm.new hF;generalize put G7 F (.lst (oneZ due))=G8 at gF s4 ⊢;have s24:=s3.trans s4;refine b6i (s24 _ _ gD) gF fo fo ?_;rw[decide_eq_true rfl];symm;refine ifF ?_;have s08:=(s04.trans s5).trans (s2.trans s24)
 replace I:=I.sm (s2.trans s24)
 clear gD gF gE s3 s4 s2 s24 hD hE hF s04 s5 gt2;symm;refine a1r I.gw ?_;refine a1X (λi σ G'=>∃ (v7 v8 v9:Option Z),Sm G8 G'/\σ=[some (.ref p),some (.str k),some (.int m),some (.int q),some (.ref wsA),some due,some (.ref t),v7,v8,v9]) ⟨_,_,_,Sm.refl _,rfl⟩ (by rintro i σ G' _ ⟨_,_,_,s,_⟩;exact s _ _ I.gw) ?_ ?_
 ·rintro i x σ G9 hx ⟨v7,v8,v9,s9,rfl⟩;rw[eK]at hx;cases hx':wn[i]? with
  | none=>rw[hx']at hx;cases hx
  | some w=>
  rw[hx']at hx;cases hx;have hw:=I.hw w (eR hx');have I9:=I.sm s9;refine⟨_,rfl,?_⟩;symm;refine⟨b,p,S,T',k,w,q,rfl,I9.sh,by omega,hq,I.hk,hw,λu M Ga hu sa' gu il=>?_⟩;have lM:=il.len;rw[eL]at lM;have lH:(a1b w M).length<=M.length:=ik _ _;symm;refine⟨u,(a1b w M).map bare,rfl,by rw[gu,b9K],b4N il.can,λr hr=>?_,by rw[er];omega,?_⟩
  ·obtain⟨s,_,rfl⟩:=eG.mp hr
   rfl
  symm;refine ifF ?_;symm;refine a1r gu ?_;intro D hD;refine a3A (g':=a6j) (λr=>if r.has m=true then some r else none) (λys=>a0m gu hD) (by omega) ?_ ?_
  ·intro r hr ys K1 K2 k1 k2;refine⟨_,rfl,?_⟩;unfold a6j;symm;refine⟨r.b,r.e,m,rfl,?_⟩;refine⟨_,rfl,ifB (λc=>?_) λc=>?_⟩
   ·have k1:=k1 _ (if_pos c);symm;exact k1
   ·exact k2 (if_neg (by show ¬ (decide (r.b<=m)&&bef m r.e)=true;rw[c];decide))
  have lm:((a1b w M).filterMap λr=>if r.has m=true then some r else none).length=if .str w=due then 1 else 0:=by
   rw[fmf,er,b3p il.can.rise,il.v,<- I.hd]
   have:(optW due=some [.str w])↔.str w=due:=by
    constructor
    ·intro z
     have:=congrArg wz z
     rw[a9x]at this;exact this.symm
    ·intro z;rw[<- z];rfl
   simp only[this]
  have gD:put Ga D (.lst (((a1b w M).filterMap λr=>if r.has m=true then some r else none).map a6j)) D=some (.lst (((a1b w M).filterMap λr=>if r.has m=true then some r else none).map a6j)):=a0e;have s2:Sm Ga (put Ga D (.lst (((a1b w M).filterMap λr=>if r.has m=true then some r else none).map a6j))):=Sm.new hD;generalize put Ga D (.lst (((a1b w M).filterMap λr=>if r.has m=true then some r else none).map a6j))=Gb at gD s2 ⊢;symm;refine a5M gD ?_;rw[er,lm];symm;refine a9y (a9w hw) hf8 ?_;symm;have ei:((if Z.str w=due then 1 else 0:Nat):Int)=if id (decide (Z.str w=due))=true then 1 else 0:=by
   by_cases c:Z.str w=due<;>simp[c]
  refine ifN (λz=>absurd ei z) λ_=>?_;have s9b:=(s9.trans sa').trans s2
  replace gu:=s2 _ _ gu
  clear gD s2 hD lm ei;symm;have Ib:=I.sm s9b;refine⟨b,p,S,T',w,q,rfl,Ib.sh,Ib.ok,Ib.few,hT,hq,hw,λu2 ts2 vs Gc hu2 sc ka2 hwho lvs lts2 gu2=>?_⟩;symm;refine a1r gu2 ?_;intro D hD;refine a3A (g':=a6j) (λv:Str×Rw=>if decide (v.1=k)=true then some v.2 else none) (λys=>a0m gu2 hD) (by omega) ?_ ?_
  ·intro v hv ys K1 K2 k1 k2;refine⟨_,rfl,?_⟩;unfold trZ;symm;refine ifD (λc=>?_) λc=>?_
   ·symm;refine b2g (show ¬ (HT.sIx 3 0 (some 1)=0/\HT.sIx 3 3 none=3) by decide) ?_;exact k1 _ (if_pos (decide_eq_true c))
   ·exact k2 (if_neg (by rw[decide_eq_true_eq];exact c))
  rw[fmf,b69 il ka2 hwho];symm;refine b6i a0e (a0m (sc _ _ gu) hD) a8Y a8Y ?_;rw[decide_eq_true rfl];refine⟨_,rfl,ifF ?_⟩;symm;exact⟨_,_,_,(s9b.trans sc).trans (Sm.new hD),rfl⟩
 ·rintro σ G9 ⟨v7,v8,v9,s9,rfl⟩;symm;exact fin G9 (s08.trans s9)
structure TW (a:Ad) (H G:Hq) (N:Addr->Prop) (b0 b1:Bool) (p0 p1 tl:Addr) (S0 S1:Addr->Prop) (T U V:List Tl):Prop where
 s0:Sheet a b0 G p0 S0 T
 s1:Sheet a b1 G p1 S1 U
 d:∀ x,S0 x->¬ S1 x
 f0:∀ x,S0 x->N x\/H x=none
 f1:∀ x,S1 x->N x\/H x=none
 n0:¬ S0 tl
 n1:¬ S1 tl
 gt:G tl=some (.lst (V.map Tl.z))
 kp:∀ x o,H x=some o->¬ N x->x≠tl->G x=some o
section
variable {a:Ad}{H G G':Hq}{N:Addr->Prop}{b0 b1:Bool}{p0 p1 tl:Addr}{S0 S1 S':Addr->Prop}{T U V W:List Tl}
theorem TW.sm (h:TW a H G N b0 b1 p0 p1 tl S0 S1 T U V) (s:Sm G G'):TW a H G' N b0 b1 p0 p1 tl S0 S1 T U V:={ h with s0:=h.s0.keep (Sm.ks s),s1:=h.s1.keep (Sm.ks s),gt:=s _ _ h.gt,kp:=λx o e n b=>s _ _ (h.kp x o e n b) }
theorem TW.swap (h:TW a H G N b0 b1 p0 p1 tl S0 S1 T U V):TW a H G N b1 b0 p1 p0 tl S1 S0 U T V:=⟨h.s1,h.s0,λx b c=>h.d x c b,h.f1,h.f0,h.n1,h.n0,h.gt,h.kp⟩
theorem Sheet.al (h:Sheet a b G p S T) (hx:S x) (e:G x=none):False:=by
 obtain⟨_,_,_,m⟩:=h;obtain⟨o,c⟩:=m.al x hx;rw[e]at c;cases c
theorem TW.t0 (h:TW a H G N b0 b1 p0 p1 tl S0 S1 T U V) (i2:∀ x,S' x->S0 x\/G x=none) (kn:KN S0 G G') (sh:Sheet a b0 G' p0 S' W):TW a H G' N b0 b1 p0 p1 tl S' S1 W U V:=by
 refine⟨sh,h.s1.keep λx o b e=>kn x o (λz=>h.d x z b) e,λx b f=>?_,λx b=>?_,h.f1,λb=>?_,h.n1,kn _ _ h.n0 h.gt,λx o e n c=>kn x o (λz=>?_) (h.kp x o e n c)⟩
 ·rcases i2 x b with w | w
  ·exact h.d x w f
  ·exact h.s1.al f w
 ·rcases i2 x b with w | w
  ·exact h.f0 x w
  ·by_cases n:N x
   ·exact .inl n
   ·right
    cases e:H x with
    | none=>rfl
    | some o=>
     by_cases c:x=tl
     ·rw[c,h.gt]at w;cases w
     ·rw[h.kp x o e n c]at w;cases w
 ·rcases i2 _ b with w | w
  ·exact h.n0 w
  ·rw[h.gt]at w;cases w
 ·rcases h.f0 x z with w | w
  ·exact n w
  ·grind
theorem TW.t1 (h:TW a H G N b0 b1 p0 p1 tl S0 S1 T U V) (i2:∀ x,S' x->S1 x\/G x=none) (kn:KN S1 G G') (sh:Sheet a b1 G' p1 S' W):TW a H G' N b0 b1 p0 p1 tl S0 S' T W V:=(h.swap.t0 i2 kn sh).swap
theorem TW.add (h:TW a H G N b0 b1 p0 p1 tl S0 S1 T U V) (k:Kq tl G G') (g:G' tl=some (.lst (W.map Tl.z))):TW a H G' N b0 b1 p0 p1 tl S0 S1 T U W:=
 { h with s0:=h.s0.keep λx o b e=>k x o e λz=>h.n0 (z▸b),s1:=h.s1.keep λx o b e=>k x o e λz=>h.n1 (z▸b),gt:=g,kp:=λx o e n c=>k _ _ (h.kp x o e n c) c }
end
theorem b7a (h:OkT T) (o:τ.Ok):OkT (T++[τ]):=λu a=>by
 rcases et.mp a with a | a
 ·exact h u a
 ·simp_all
theorem b9L (hp:G p=none) (k:∀ x o,put G p (.ins C dx []) x=some o->x≠p->G' x=some o):Sm G G':=λx o e=>k x o (a0m e hp) (a0R e hp)
theorem b9M (hp:G p=none) (hd:put G p (.ins C dx []) d=none) (hx:x=p\/x=d):G x=none:=by
 rcases hx with rfl | rfl
 ·omega
 ·exact (Sm.new hp).free hd
theorem b4P {α:Type}{l:List α}{n:Nat}:cutZ l none (some (n:Int))=l.take n:=by
 unfold cutZ
 have:=HT.sIx_nat l.length l.length n
 rw[this,HT.sIx_none];simp
theorem c1o {T:List Tl}{k:Int}(h0:0<=k) (h1:k<T.length):∃ τ,atI (T.map Tl.z) k=some τ.z/\τ∈T:=by
 obtain⟨j,rfl⟩:=fX h0;have a:j<T.length:=by omega
 exact⟨T[j],a2w (by simp_all),fL a⟩
theorem b7b (h:a8C ws G R):ws.length=1:=by obtain⟨_,_,rfl,_⟩:=h;rfl
theorem b9N (F:Fns K a) (T:Txt K mg a):FnOk P w K mg base CX0 8 a.f48 a.d48 ["script"] (lowP K a8C):=by
 have G_words:=b4E (P:=P) (w:=w) (base:=base) F T;have G_cell_at:=b04 (P:=P) (w:=w) (base:=base) F T;have G_Sheet___init__:=a4X (P:=P) (w:=w) (base:=base) F T;have G_worth:=b4L (P:=P) (w:=w) (base:=base) F T;have G_telling:=b1a (P:=P) (w:=w) (base:=base) F T;have G_Sheet_tell:=a7M (P:=P) (w:=w) (base:=base) F T;have G_tumbled:=a3q (P:=P) (w:=w) (base:=base) F T;have G_right:=b4O (P:=P) (w:=w) (base:=base) F T;refine fn3 F.n48 sc_law (λws G R h=>(by exact b7b h)) (λcdv A outer s H E ws G R hr h=>?_);have hu:=a0P hr;refine⟨_,(a0l (a0J (i:=1) sc_law.nd rfl (en rfl) (a0q G_words (hr.mono (by decide)) rfl T.m35 F.n35.kp (a99 F) (a0b (a0q G_cell_at (hr.mono (by decide)) rfl T.m33 F.n33.kp (a6V F) (a0b (a0c (pv 0)) (a0b a0g a0h a0d) a0a) (he:=a0a) (hpl:=(a0j a0d a0i))) a0h a0M) (he:=a0M) (hpl:=a0i)))
  (a0l (a0J (i:=2) sc_law.nd rfl (en rfl) (a0q G_words (hr.mono (by decide)) rfl T.m35 F.n35.kp (a99 F) (a0b (a0q G_cell_at (hr.mono (by decide)) rfl T.m33 F.n33.kp (a6V F) (a0b (a0c (pv 0)) (a0b a0g a0h a0d) a0a) (he:=a0a) (hpl:=(a0j a0d a0i))) a0h a0M) (he:=a0M) (hpl:=a0i)))
  (a0l (a0J (i:=3) sc_law.nd rfl (en rfl) (a21 (a0b (b2y T.mk_Sheet G_Sheet___init__ (hr.mono (by decide)) rfl T.mg_Sheet (a2n F)) (a0b (b2y T.mk_Tiled G_Sheet___init__ (hr.mono (by decide)) rfl T.mg_Tiled (a2n F)) a0h a0M) a0M)))
  (a0l (a0J (i:=4) sc_law.nd rfl (en rfl) (a21 a0h))
  (a0l (a4H (pt:=(.nm 5)) jQ.never rfl (a0C (a1F x_sl (a0c (pv 0)) (a15 a0g) (a15 a0g))) (show QP _ _ (.nm 5) from (a0p (i:=5) sc_law.nd rfl (en rfl)))
  (a0l (a0X (q_bm PySem.F.plainAttrs_list PySem.F.slot_list_append PySem.F.type_list_append a16 (a0c (pv 4)) (a0b (a0q G_telling (hr.mono (by decide)) rfl T.m38 F.n38.kp (b03 F) (a0b (a0c (pv 5)) (a0b (a0c (pv 1)) (a0b (a0c (pv 2)) a0h a0a) a0a) a0a) (he:=a0a) (hpl:=(a0j a0a (a0j a0a a0i)))) a0h a0M)))
  (a0l (a4H (pt:=(.nm 6)) jQ.never rfl (a0C (a0c (pv 3))) (show QP _ _ (.nm 6) from (a0p (i:=6) sc_law.nd rfl (en rfl)))
  (a0n (a0X (c03 λb=>(a2G a1h up0 (a0c (pv 6)) (clK T b) (a6s T b) G_Sheet_tell (hr.mono (by decide)) (a7B F) (a0b (q_ix x_ix (a0c (pv 4)) (q_un a3I a0g) (λ_ _=>rfl)) a0h a0k) (hst:=a0k) (hpl:=a0i))))))
  (a0l (a0J (i:=7) sc_law.nd rfl (en rfl) (q_ix x_ix (a0c (pv 1)) (q_op a0T (a0q G_tumbled (hr.mono (by decide)) rfl T.m34 F.n34.kp (a0r F) (a0b (a0c (pv 5)) (a0b a0g a0h a0d) a0a) (he:=a0a) (hpl:=(a0j a0d a0i))) a0g) (λ_ _=>rfl)))
  (a0l (a0J (i:=8) sc_law.nd rfl (en rfl) (q_ix x_ix (a0c (pv 4)) (q_op a0T (a0q G_tumbled (hr.mono (by decide)) rfl T.m34 F.n34.kp (a0r F) (a0b (a0c (pv 5)) (a0b a0g a0h a0d) a0a) (he:=a0a) (hpl:=(a0j a0d a0i))) (a0K b_len rfl T.b_len PySem.boot_len (a0b (a0c (pv 4)) a0h a0a) (he:=a0a) (hpl:=a0i))) (λ_ _=>rfl)))
  (a0l (a0J (i:=9) sc_law.nd rfl (en rfl) (a0K (b_max rfl) rfl T.b_max rfl (a0b a0g (a0b (q_op a1a (q_ix x_ix (a0c (pv 8)) (q_un a3I a0g) (λ_ _=>rfl)) (q_ix x_ix (a21 (a0b a0g (a0b a0g (a0b (q_un a3I a0g) (a0b a0g a0h a0d) b0M) a0d) a0d)) (q_op a0T (a0q G_tumbled (hr.mono (by decide)) rfl T.m34 F.n34.kp (a0r F) (a0b (a0c (pv 5)) (a0b a0g a0h a0d) a0a) (he:=a0a) (hpl:=(a0j a0d a0i))) a0g) (λ_ _=>rfl))) a0h a0E) a0d) (he:=a0d) (hpl:=(a0j a0E a0i))))
  (a73 (z_if (a0s (o_eq hu) (q_op a0T (a0q G_tumbled (hr.mono (by decide)) rfl T.m34 F.n34.kp (a0r F) (a0b (a0c (pv 5)) (a0b a0g a0h a0d) a0a) (he:=a0a) (hpl:=(a0j a0d a0i))) a0g) a0g (a0o _))
  (a0n (a0J (i:=9) sc_law.nd rfl (en rfl) (q_op a0T (a0q G_tumbled (hr.mono (by decide)) rfl T.m34 F.n34.kp (a0r F) (a0b (a0c (pv 5)) (a0b a0g a0h a0d) a0a) (he:=a0a) (hpl:=(a0j a0d a0i))) a0g)))
  a00)
  (a0l (a0J (i:=9) sc_law.nd rfl (en rfl) (a0K (b_min rfl) rfl T.b_min rfl (a0b (q_op a4J a0g a0g) (a0b (a0c (pv 9)) a0h a0a) a0E) (he:=a0E) (hpl:=(a0j a0a a0i))))
  (a0l (a0J (i:=10) sc_law.nd rfl (en rfl) (q_op a7j (a0K b_len rfl T.b_len PySem.boot_len (a0b (a0c (pv 4)) a0h a0a) (he:=a0a) (hpl:=a0i)) (q_op a0T (a0q G_tumbled (hr.mono (by decide)) rfl T.m34 F.n34.kp (a0r F) (a0b (a0c (pv 5)) (a0b a0g a0h a0d) a0a) (he:=a0a) (hpl:=(a0j a0d a0i))) (a0K (b_min rfl) rfl T.b_min rfl (a0b a0g (a0b (q_op a1a (a0K b_len rfl T.b_len PySem.boot_len (a0b (a0c (pv 4)) a0h a0a) (he:=a0a) (hpl:=a0i)) a0g) a0h a0E) a0d) (he:=a0d) (hpl:=(a0j a0E a0i))))))
  (a0l (a0J (i:=11) sc_law.nd rfl (en rfl) (a0q G_worth (hr.mono (by decide)) rfl T.m40 F.n40.kp (b4k F) (a0b (a1F x_sl (a0c (pv 4)) a1z (a15 (a0c (pv 10)))) (a0b (a0c (pv 7)) (a0b (a0c (pv 9)) a0h a0a) a0a) a0k) (he:=a0k) (hpl:=(a0j a0a (a0j a0a a0i)))))
  (a0n (a4H (pt:=(.nm 6)) jQ.never rfl (a0C (a0c (pv 3))) (show QP _ _ (.nm 6) from (a0p (i:=6) sc_law.nd rfl (en rfl)))
  (a0n (z_if (QW.qt (a7h (a0s (o_eq hu) (q_op a0T (a0q G_tumbled (hr.mono (by decide)) rfl T.m34 F.n34.kp (a0r F) (a0b (a0c (pv 5)) (a0b a0g a0h a0d) a0a) (he:=a0a) (hpl:=(a0j a0d a0i))) a0g) a0g (a0o _)) (a44 (a4a (a27 (a0q G_right (hr.mono (by decide)) rfl T.m43 F.n43.kp (b4l F) (a0b (a0c (pv 6)) (a0b (a0c (pv 7)) (a0b (a0c (pv 9)) (a0b (a0c (pv 10)) (a0b (a0c (pv 2)) (a0b (a0c (pv 11)) a0h a0a) a0a) a0a) a0a) a0a) a0a) (he:=a0a) (hpl:=(a0j a0a (a0j a0a (a0j a0a (a0j a0a (a0j a0a a0i))))))))))))
  (a0n (a0v q_bl))
  a00))))))))))))))
  (a0n (a0v q_bl))))))),?_⟩
 obtain⟨sa,ns,rfl,hl,q⟩:=h;symm;refine⟨sa,ns,0,rfl,by decide,λc0=>?_⟩;symm;refine⟨c0,rfl,λks kn G1 hks s1 gks lk hk nd=>?_⟩;symm;refine⟨sa,ns,1,rfl,by decide,λc1=>?_⟩;symm;refine⟨c1,rfl,λwsA wn G3 hws s2 gws lw hw _=>?_⟩;have gks3:=s2 _ _ gks;clear gks s1 hks s2 hws;symm;intro p0 dx0 hp0;refine⟨false,p0,dx0,rfl,a0e,λd0 H0 hd0 k0 sh0=>⟨rfl,?_⟩⟩;have m0:=b9L hp0 k0;have n0:∀ {x},(x=p0\/x=d0)->G3 x=none:=b9M hp0 hd0;clear k0 hp0 hd0;symm;intro p1 dx1 hp1;refine⟨true,p1,dx1,rfl,a0e,λd1 H1 hd1 k1 sh1=>⟨rfl,?_⟩⟩;have m1:=b9L hp1 k1;have n1:∀ {x},(x=p1\/x=d1)->H0 x=none:=b9M hp1 hd1;clear k1 hp1 hd1;symm;refine⟨lenK rfl,λli hli=>?_⟩;have gli:put H1 li (.lst [.ref p0,.ref p1]) li=some (.lst [.ref p0,.ref p1]):=a0e;have m2:Sm H1 (put H1 li (.lst [.ref p0,.ref p1])):=Sm.new hli;generalize put H1 li (.lst [.ref p0,.ref p1])=H2 at gli m2 ⊢;symm;refine⟨lenK rfl,λtl htl=>?_⟩;have gtl:put H2 tl (.lst []) tl=some (.lst (([]:List Tl).map Tl.z)):=a0e;have m3:Sm H2 (put H2 tl (.lst [])):=Sm.new htl;have nlt:li≠tl:=a0R gli htl;have nkt:ks≠tl:=a0R (m2 _ _ (m1 _ _ (m0 _ _ gks3))) htl;have nwt:wsA≠tl:=a0R (m2 _ _ (m1 _ _ (m0 _ _ gws))) htl;generalize put H2 tl (.lst [])=H3 at gtl m3 ⊢;symm;refine c0E λc hc=>?_;have hcl:(cutZ ns (some 3) (some 123)).length<=63:=eM (a89 ..) hl;generalize cutZ ns (some 3) (some 123)=cs at hcl ⊢;have gc6:put H3 c (.lst (cs.map Z.int)) c=some (.lst (cs.map Z.int)):=a0e;have m4:Sm H3 (put H3 c (.lst (cs.map Z.int))):=Sm.new hc;have nct:c≠tl:=Ne.symm (a0R gtl hc);generalize put H3 c (.lst (cs.map Z.int))=G6 at gc6 m4 ⊢;have no:∀ {b p S T} {K K':Hq}{x:Addr},Sheet a b K p S T->Sm K K'->S x->K' x=none->False:=λsh s hx e=>(sh.keep (Sm.ks s)).al hx e;have ndd:∀ {K K':Hq}{x:Addr}{o:O},Sm K K'->K x=some o->K' x=none->False:=λs e e'=>by rw[s _ _ e]at e';cases e'
 obtain⟨N,hN⟩:∃ N:Addr->Prop,∀ x,N x↔(x=p0\/x=d0)\/(x=p1\/x=d1):=⟨_,λ_=>Iff.rfl⟩;have nN:∀ {x o},G3 x=some o->¬ N x:=λe z=>by
  rcases (hN _).mp z with z | z
  ·exact ndd (Sm.refl _) e (n0 z)
  ·exact ndd m0 e (n1 z)
 have nK:=nN gks3;have nW:=nN gws;have nN2:∀ {x} {K:Hq},Sm H1 K->K x=none->¬ N x:=λs e z=>by
  rcases (hN _).mp z with z | z
  ·exact no sh0 (m1.trans s) z e
  ·exact no sh1 s z e
 have nL:=nN2 (Sm.refl _) hli;have nC:=nN2 (m2.trans m3) hc;have m14:=((m1.trans m2).trans m3).trans m4;have th:TW a G6 G6 N false true p0 p1 tl (λx=>x=p0\/x=d0) (λx=>x=p1\/x=d1) [] [] []:=
  ⟨sh0.keep (Sm.ks m14),sh1.keep (Sm.ks ((m2.trans m3).trans m4)),λx h1 h2=>no sh0 (Sm.refl _) h1 (n1 h2),λx h=>.inl ((hN x).mpr (.inl h)),λx h=>.inl ((hN x).mpr (.inr h)),λz=>no sh0 (m1.trans m2) z htl,λz=>no sh1 m2 z htl,m4 _ _ gtl,λx o e _ _=>e⟩
 have gk6:=m14 _ _ (m0 _ _ gks3);have gw6:=m14 _ _ (m0 _ _ gws);have gl6:=(m3.trans m4) _ _ gli;clear sh0 sh1 n0 n1 m0 m1 m2 m3 m4 m14 gli hli hc no ndd nN hN gks3 gws nN2 htl gtl;symm;refine a1r gc6 ?_;refine a1X (λi σ G'=>Ex10 λ(S0 S1:Addr->Prop) (T:List Tl) (v1 v2 v3 v4 v5 v6 v7:Option Z)=>T.length=i/\OkT T/\(∀ τ∈T,τ.key∈kn)/\TW a G6 G' N false true p0 p1 tl S0 S1 T T T/\σ=[some (.scr sa ns),some (.ref ks),some (.ref wsA),some (.ref li),some (.ref tl),v1,v2,v3,v4,v5,v6,v7])
  ⟨_,_,[],_,_,_,_,_,_,_,rfl,(fun τ h=>by simp at h),(fun τ h=>by simp at h),th,rfl⟩ (by rintro i σ G' _ ⟨_,_,_,_,_,_,_,_,_,_,_,_,_,h,_⟩;exact h.kp _ _ gc6 nC nct) ?_ ?_
 ·rintro i x σ G' hx ⟨S0,S1,T1,v1,v2,v3,v4,v5,v6,v7,hTl,ok,km,h,rfl⟩;rw[eK]at hx;cases hx':cs[i]? with
  | none=>rw[hx']at hx;cases hx
  | some cl=>
  rw[hx']at hx;cases hx;have hi:=(eJ.mp hx').1;refine⟨_,rfl,?_⟩;symm;refine a4K h.gt ?_;symm;refine⟨_,ks,wsA,kn,wn,rfl,h.kp _ _ gk6 nK nkt,h.kp _ _ gw6 nW nwt,lk,lw,hk,hw,fun τ Ga sA okτ mk=>?_⟩
  replace h:=h.sm sA
  symm;refine a1R h.gt (by rw[er];exact a0z (by omega)) ?_;have gt7:put Ga tl (.lst (T1.map Tl.z++[τ.z])) tl=some (.lst ((T1++[τ]).map Tl.z)):=by rw[a0e,eN];rfl
  replace h:=h.add (G':=put Ga tl (.lst (T1.map Tl.z++[τ.z]))) Kq.at gt7
  generalize put Ga tl (.lst (T1.map Tl.z++[τ.z]))=Gb at h;clear gt7 sA
  replace ok:=b7a ok okτ
  replace km:∀ u∈T1++[τ],u.key∈kn:=λu hu=>by
   rcases et.mp hu with hu | hu
   ·exact km u hu
   ·rw[eD.mp hu];exact mk
  have hT2:(T1++[τ]).length=i+1:=by rw[eE,hTl];rfl
  have last:atI ((T1++[τ]).map Tl.z) (-1)=some τ.z:=a7G (x:=τ.z) (by rw[jt];simp);symm;refine a1r (h.kp _ _ gl6 nL nlt) ?_;refine a1X (λj σ G'=>∃ (S0 S1:Addr->Prop) (v2:Option Z),TW a G6 G' N false true p0 p1 tl S0 S1 (if 1<=j then T1++[τ] else T1) (if 2<=j then T1++[τ] else T1) (T1++[τ])/\σ=[some (.scr sa ns),some (.ref ks),some (.ref wsA),some (.ref li),some (.ref tl),some (.int cl),v2,v3,v4,v5,v6,v7]) ⟨S0,S1,_,h,rfl⟩ (by rintro j σ G' _ ⟨_,_,_,h,_⟩;exact h.kp _ _ gl6 nL nlt) ?_ ?_
  ·rintro j x σ Gc hx ⟨S0,S1,v2,h,rfl⟩;have hj:(j=0/\x=.ref p0)\/(j=1/\x=.ref p1):=by
    match j,hx with
    | 0,hx=>exact .inl ⟨rfl,by simpa using hx.symm⟩
    | 1,hx=>exact .inr ⟨rfl,by simpa using hx.symm⟩
    | j+2,hx=>simp at hx
   refine⟨_,rfl,?_⟩;rcases hj with ⟨rfl,rfl⟩ | ⟨rfl,rfl⟩
   ·have h:TW a G6 Gc N false true p0 p1 tl S0 S1 T1 T1 (T1++[τ]):=h;obtain⟨dxa,da,kva,ma⟩:=id h.s0;symm;refine b9h false ?_;symm;refine⟨p0,dxa,_,rfl,ma.ob,a3d (by decide +kernel) (by decide +kernel),?_⟩;symm;refine a1q h.gt last ?_;symm;refine⟨false,p0,S0,T1,h.s0,.inl ⟨τ,rfl,okτ,by omega,λS' Gd i1 i2 knd shd=>?_⟩⟩;symm;exact⟨S',S1,_,h.t0 i2 knd shd,rfl⟩
   ·have h:TW a G6 Gc N false true p0 p1 tl S0 S1 (T1++[τ]) T1 (T1++[τ]):=h;obtain⟨dxa,da,kva,ma⟩:=id h.s1;symm;refine b9h true ?_;symm;refine⟨p1,dxa,_,rfl,ma.ob,a3d (by decide +kernel) (by decide +kernel),?_⟩;symm;refine a1q h.gt last ?_;symm;refine⟨true,p1,S1,T1,h.s1,.inl ⟨τ,rfl,okτ,by omega,λS' Gd i1 i2 knd shd=>?_⟩⟩;symm;exact⟨S0,S',_,h.t1 i2 knd shd,rfl⟩
  ·rintro σ Gc ⟨S0,S1,v2,h,rfl⟩;have h:TW a G6 Gc N false true p0 p1 tl S0 S1 (T1++[τ]) (T1++[τ]) (T1++[τ]):=h;generalize T1++[τ]=T2 at h hT2 ok km;clear last hTl;have gk:=h.kp _ _ gk6 nK nkt;have gw:=h.kp _ _ gw6 nW nwt;have gl:=h.kp _ _ gl6 nL nlt;have gt:=h.gt;symm;refine⟨_,40,rfl,by decide,by decide,λr r0 r1=>?_⟩;symm;obtain⟨k,ek,mk2,hk2⟩:=a8S hk (k:=r % 4) (by omega) (by omega);refine a1q gk ek ?_;symm;refine⟨_,41,rfl,by decide,by decide,λr2 r20 r21=>?_⟩;symm;refine a5M gt ?_;rw[er];symm;refine i_I (show (0:Int)<(T2.length:Int) by omega) ?_;symm;obtain⟨υ,eu,mu⟩:=c1o (T:=T2) (fi r2 (show (T2.length:Int)≠0 by omega)) (fu r2 (by omega));refine a1q gt eu ?_;obtain⟨ws,ez,eb,_⟩:=@at_b υ;have hst:=(ok υ mu).st;have ixb:∀ {R':K3}{G':Hq},R' (.int υ.b) G'->zIx υ.z (.int (-2)) G' R':=λh=>by rw[ez];exact a2e eb h
   symm;refine ixb ?_;symm;refine⟨lenK rfl,λA hA=>?_⟩;have gA:put Gc A (.lst [.int 0,.int 0,.int (-1),.int 3]) A=some (.lst [.int 0,.int 0,.int (-1),.int 3]):=a0e;have sA:Sm Gc (put Gc A (.lst [.int 0,.int 0,.int (-1),.int 3])):=Sm.new hA;generalize put Gc A (.lst [.int 0,.int 0,.int (-1),.int 3])=Gd at gA sA ⊢;symm;refine⟨_,42,rfl,by decide,by decide,λr3 r30 r31=>?_⟩;symm;obtain⟨y,ey,hy0,hy1⟩:∃ y:Int,atI [Z.int 0,.int 0,.int (-1),.int 3] (r3 % 4)=some (.int y)/\-1<=y/\y<=3:=by
    have h4:r3 % 4=0\/r3 % 4=1\/r3 % 4=2\/r3 % 4=3:=by omega
    rcases h4 with e | e | e | e<;>rw[e]
    ·exact⟨0,rfl,by decide,by decide⟩
    ·exact⟨0,rfl,by decide,by decide⟩
    ·exact⟨-1,rfl,by decide,by decide⟩
    ·exact⟨3,rfl,by decide,by decide⟩
   refine a1q gA ey ?_;symm;obtain⟨mo,hmo,h0⟩:∃ mo:Int,(if υ.b+y > 0 then υ.b+y else 0)=mo/\0<=mo:=⟨_,rfl,by split<;>omega⟩
   rw[hmo]
   replace h:=h.sm sA
   have gk:=h.kp _ _ gk6 nK nkt;have gw:=h.kp _ _ gw6 nW nwt;have gl:=h.kp _ _ gl6 nL nlt;have gt:=h.gt;clear gA sA hA hmo hy0 hy1 ey;refine a77 (fun σ' G'=>∃ mo:Int,0<=mo/\G'=Gd/\σ'=[some (.scr sa ns),some (.ref ks),some (.ref wsA),some (.ref li),some (.ref tl),some (.int cl),v2,some (.str k),some υ.z,some (.int mo),v6,v7]) ?_ ?_
   ·symm;refine⟨_,43,rfl,by decide,by decide,λr4 r40 r41=>?_⟩;symm;refine ifD (λ_=>?_) λ_=>?_
    ·symm;refine⟨_,44,rfl,by decide,by decide,λr5 r50 r51=>?_⟩;symm;exact⟨_,by omega,rfl,rfl⟩
    ·symm;exact⟨_,h0,rfl,rfl⟩
   rintro σ' G' ⟨mo,hmo,rfl,rfl⟩;symm;obtain⟨m,em,hm⟩:∃ m:Int,(if mo<1000000000000 then mo else 1000000000000)=m/\inT m:=⟨_,rfl,by unfold inT;split<;>exact⟨by omega,by show _<=(1000000000000:Int);omega⟩⟩
   rw[em];refine a5M gt ?_;rw[er];symm;refine⟨_,45,rfl,by decide,by decide,λr6 r60 r61=>?_⟩;symm;refine a5M gt ?_;rw[er];symm;obtain⟨lo,el,hlo0,hlo1⟩:∃ lo:Int,(if (T2.length:Int)+1<4 then (T2.length:Int)+1 else 4)=lo/\0<lo/\lo<=(T2.length:Int)+1:=⟨_,rfl,by split<;>omega,by split<;>omega⟩
   rw[el];refine i_I hlo0 ?_;symm;obtain⟨qn,eq,hqn⟩:∃ qn:Nat,(T2.length:Int) - r6 % lo=(qn:Int)/\qn<=T2.length:=by
    have h1:=fi r6 (show lo≠0 by omega);have h2:=fu r6 hlo0;exact⟨((T2.length:Int) - r6 % lo).toNat,by omega,by omega⟩
   rw[eq];refine c0D gt λA hA=>?_;have gA:put G' A (.lst (cutZ (T2.map Tl.z) none (some (qn:Int)))) A=some (.lst ((T2.take qn).map Tl.z)):=by rw[a0e,b4P,i8]
   have sA:Sm G' (put G' A (.lst (cutZ (T2.map Tl.z) none (some (qn:Int))))):=Sm.new hA;generalize put G' A (.lst (cutZ (T2.map Tl.z) none (some (qn:Int))))=Ge at gA sA ⊢;symm;refine⟨A,T2.take qn,k,m,rfl,gA,λGf sf=>?_⟩;have s2:=sA.trans sf
   replace h:=h.sm s2
   have gl:=h.kp _ _ gl6 nL nlt;have few:Few T2:=⟨by omega,kn,by omega,km⟩;symm;refine a1r gl ?_;refine a1X (λj σ G'=>∃ (v2:Option Z),Sm Gf G'/\σ=[some (.scr sa ns),some (.ref ks),some (.ref wsA),some (.ref li),some (.ref tl),some (.int cl),v2,some (.str k),some υ.z,some (.int m),some (.int qn),some (a08 (a1m (T2.take qn) k) m)]) ⟨_,Sm.refl _,rfl⟩ (by rintro j σ G' _ ⟨_,s,_⟩;exact s _ _ gl) ?_ ?_
   ·rintro j x σ Gg hx ⟨v2,sg,rfl⟩;have h9:=h.sm sg;obtain⟨b,pp,S,sh,rfl⟩:∃ (b:Bool) (pp:Addr) (S:Addr->Prop),Sheet a b Gg pp S T2/\x=.ref pp:=by
     match j,hx with
     | 0,hx=>exact⟨false,p0,S0,h9.s0,by simpa using hx.symm⟩
     | 1,hx=>exact⟨true,p1,S1,h9.s1,by simpa using hx.symm⟩
     | j+2,hx=>simp at hx
    refine⟨_,rfl,?_⟩;symm;refine⟨_,46,rfl,by decide,by decide,λr7 r70 r71=>?_⟩;symm;refine ifD (λ_=>?_) λ_=>?_
    ·symm;refine⟨b,pp,S,T2,k,m,(qn:Int),wsA,wn,_,rfl,⟨sh,ok,few,by omega,hk2,b9J hm,⟨by omega,by omega⟩,h9.kp _ _ gw6 nW nwt,hw,by rw[iN]⟩,λGh sh'=>?_⟩;symm;refine ifF ?_;symm;exact⟨_,sg.trans sh',rfl⟩
    ·symm;exact⟨_,sg,rfl⟩
   ·rintro σ Gg ⟨v2,sg,rfl⟩;exact⟨S0,S1,T2,_,_,_,_,_,_,_,hT2,ok,km,h.sm sg,rfl⟩
 ·rintro σ G' ⟨S0,S1,T1,v1,v2,v3,v4,v5,v6,v7,hTl,ok,km,h,rfl⟩;symm;exact q _
theorem all_mk {l:PySem.W.OpenLaw}{w:World}{K:Fg}{h:Heap}{mg:Str->Option Value}{fa:Addr}(X:K.In h) (G:h.Ns jG mg) (hfa:mg "law"=some (.ref fa))
  {bv bd a9 a3 ba a0 aW aS bw be bk bl aN bx bK aj aQ ad ax bL a4 bf ay ak bS aD bM aE cg cv aX a5 bm bT bU cw bV bz bW c3 cx ch cy cz ao aJ aK aT c4:Addr}
  {dP da:Option Addr}{dQ:Array (Option Value)}{dR db dc dd cP de:Value}
  {bH:Tok}
  {bQ:Tok}
  {ab:Addr}
  {ac:Addr}
  (dm:PySem.W.nsIn K jG "Sheet"=some (some (.ref ab))) (dn:PySem.W.plainGet K ab Str.empty=true) (dp:PySem.W.hasDictIn K ab=true) (dq:PySem.W.plainOver K ab=true) (dr:PySem.W.findIn K (.ref ab) "__setattr__"=some (some (.builtin "object.__setattr__")))
  (ds:PySem.W.makesIn K ab=true) (dt:PySem.W.keepIn K (.ref ab)=true)
  (du:PySem.W.nsIn K jG "Tiled"=some (some (.ref ac))) (dv:PySem.W.plainGet K ac Str.empty=true) (dw:PySem.W.hasDictIn K ac=true) (dx:PySem.W.plainOver K ac=true) (dy:PySem.W.findIn K (.ref ac) "__setattr__"=some (some (.builtin "object.__setattr__")))
  (dz:PySem.W.makesIn K ac=true) (dA:PySem.W.keepIn K (.ref ac)=true)
  (dH:PySem.W.findIn K (.ref ab) "last"=some none)
  (dB:PySem.W.findIn K (.ref ac) "last"=some none)
  (dI:PySem.W.findIn K (.ref ab) "kept"=some none)
  (dC:PySem.W.findIn K (.ref ac) "kept"=some none)
  {ci:Addr}
  {bA:Addr}
  {bB:Addr}
  (df:PySem.W.nsIn K jG "NoName"=some (some (.ref ci)))
  (cQ:PySem.W.nsIn K jG "NoStretch"=some (some (.ref bA)))
  (cR:PySem.W.nsIn K jG "NoKnowing"=some (some (.ref bB)))
  (dg:PySem.W.excIn K ci veM "ValueError.__new__"=true)
  (cS:PySem.W.excIn K bA veM "ValueError.__new__"=true)
  (cT:PySem.W.excIn K bB veM "ValueError.__new__"=true)
  (cZ:PySem.W.nsIn K jG "is_name"=some (some (.ref bv))) (bC:FE K "is_name" "is_name" a2H bv)
  (cJ:PySem.W.nsIn K jG "is_moment"=some (some (.ref bd))) (bg:FE K "is_moment" "is_moment" a2I bd)
  (cA:PySem.W.nsIn K jG "is_stretch"=some (some (.ref a9))) (bb:FE K "is_stretch" "is_stretch" a2h a9)
  (cq:PySem.W.nsIn K jG "earlier_end"=some (some (.ref a3))) (a6:FE K "earlier_end" "earlier_end" a1Z a3)
  (cB:PySem.W.nsIn K jG "check_name"=some (some (.ref ba))) (bc:FE K "check_name" "check_name" a2i ba)
  (cj:PySem.W.nsIn K jG "check_moment"=some (some (.ref a0))) (a1:FE K "check_moment" "check_moment" a1H a0)
  (b8:PySem.W.nsIn K jG "check_stretch"=some (some (.ref aW))) (aY:FE K "check_stretch" "check_stretch" a1u aW)
  (bX:PySem.W.nsIn K jG "check_in_reach"=some (some (.ref aS))) (aU:FE K "check_in_reach" "check_in_reach" a1i aS)
  (c0:PySem.W.nsIn K jG "is_over"=some (some (.ref bw))) (bD:FE K "is_over" "is_over" a3O bw)
  (cK:PySem.W.nsIn K jG "worths_in"=some (some (.ref be))) (bh:FE K "worths_in" "worths_in" a2J be)
  (cU:PySem.W.nsIn K jG "worth_in"=some (some (.ref bk))) (bn:FE K "worth_in" "worth_in" a28 bk)
  (cV:PySem.W.nsIn K jG "ahead_of"=some (some (.ref bl))) (bo:FE K "ahead_of" "ahead_of" a18 bl)
  (bI:PySem.W.nsIn K jG "with_alike_joined"=some (some (.ref aN))) (aO:FE K "with_alike_joined" "with_alike_joined" a04 aN)
  (c1:PySem.W.nsIn K jG "from_on"=some (some (.ref bx))) (bE:FE K "from_on" "from_on" a2K bx)
  (c5:PySem.W.nsIn K jG "put_on"=some (some (.ref bK))) (bN:FE K "put_on" "put_on" a4L bK)
  (ck:PySem.W.findIn K (.ref ab) "knowings"=some (some (.ref aj))) (bp:PySem.W.isFn K (.ref aj)=true) (au:FE K "knowings" "Sheet.knowings" a1I aj)
  (b9:PySem.W.findIn K (.ref ac) "knowings"=some (some (.ref aj)))
  (cL:PySem.W.findIn K (.ref ab) "first"=some (some (.ref aQ))) (bR:PySem.W.isFn K (.ref aQ)=true) (aR:FE K "first" "Sheet.first" a2L aQ)
  (cC:PySem.W.findIn K (.ref ac) "first"=some (some (.ref aQ)))
  (bJ:PySem.W.findIn K (.ref ab) "check_knowing"=some (some (.ref ad))) (a2:PySem.W.isFn K (.ref ad)=true) (ae:FE K "check_knowing" "Sheet.check_knowing" a05 ad)
  (bF:PySem.W.findIn K (.ref ac) "check_knowing"=some (some (.ref ad)))
  (bY:PySem.W.findIn K (.ref ab) "known_line"=some (some (.ref ax))) (bZ:PySem.W.isFn K (.ref ax)=true) (aF:FE K "known_line" "Sheet.known_line" a0Y ax)
  (c6:PySem.W.nsIn K jG "run_of"=some (some (.ref bL))) (bO:FE K "run_of" "run_of" a4M bL)
  (cr:PySem.W.nsIn K jG "is_standing"=some (some (.ref a4))) (a7:FE K "is_standing" "is_standing" a10 a4)
  (cM:PySem.W.nsIn K jG "stands_at"=some (some (.ref bf))) (bi:FE K "stands_at" "stands_at" a2M bf)
  (b0:PySem.W.findIn K (.ref ac) "known_line"=some (some (.ref ay))) (b1:PySem.W.isFn K (.ref ay)=true) (aG:FE K "known_line" "Tiled.known_line" a0Z ay)
  (cl:PySem.W.findIn K (.ref ab) "worth_at"=some (some (.ref ak))) (bq:PySem.W.isFn K (.ref ak)=true) (av:FE K "worth_at" "Sheet.worth_at" a1J ak)
  (ca:PySem.W.findIn K (.ref ac) "worth_at"=some (some (.ref ak)))
  (dh:PySem.W.nsIn K jG "story"=some (some (.ref bS))) (b2:FE K "story" "story" a5U bS)
  (cs:PySem.W.findIn K (.ref ab) "keys_at"=some (some (.ref aD))) (bt:PySem.W.isFn K (.ref aD)=true) (aH:FE K "keys_at" "Sheet.keys_at" a1j aD)
  (cm:PySem.W.findIn K (.ref ac) "keys_at"=some (some (.ref aD)))
  (c7:PySem.W.nsIn K jG "all_at"=some (some (.ref bM))) (bP:FE K "all_at" "all_at" a2k bM)
  (ct:PySem.W.findIn K (.ref ab) "line_at"=some (some (.ref aE))) (bu:PySem.W.isFn K (.ref aE)=true) (aI:FE K "line_at" "Sheet.line_at" a11 aE)
  (cn:PySem.W.findIn K (.ref ac) "line_at"=some (some (.ref aE)))
  (dD:PySem.W.nsIn K jG "when"=some (some (.ref cg))) (co:FE K "when" "when" a5v cg)
  (dJ:PySem.W.nsIn K jG "who"=some (some (.ref cv))) (cD:FE K "who" "who" a9m cv)
  (cb:PySem.W.nsIn K jG "check_telling"=some (some (.ref aX))) (aZ:FE K "check_telling" "check_telling" a1v aX)
  (cu:PySem.W.nsIn K jG "line_behind"=some (some (.ref a5))) (a8:FE K "line_behind" "line_behind" a12 a5)
  (cW:PySem.W.nsIn K jG "tiled_on"=some (some (.ref bm))) (br:FE K "tiled_on" "tiled_on" a0Q bm)
  (di:PySem.W.nsIn K jG "_law_cell_at"=some (some (.ref bT))) (b3:FE K "_law_cell_at" "_law_cell_at" a5V bT)
  (dj:PySem.W.nsIn K jG "_law_tumbled"=some (some (.ref bU))) (b4:FE K "_law_tumbled" "_law_tumbled" a5W bU)
  (dK:PySem.W.nsIn K jG "_law_words"=some (some (.ref cw))) (cE:FE K "_law_words" "_law_words" a7u cw)
  (dk:PySem.W.nsIn K jG "_law_stretch"=some (some (.ref bV))) (b5:FE K "_law_stretch" "_law_stretch" a5X bV)
  (c2:PySem.W.nsIn K jG "_law_by_digits"=some (some (.ref bz))) (bG:FE K "_law_by_digits" "_law_by_digits" a3P bz)
  (dl:PySem.W.nsIn K jG "_law_telling"=some (some (.ref bW))) (b6:FE K "_law_telling" "_law_telling" a5Y bW)
  (dU:PySem.W.nsIn K jG "_law_has"=some (some (.ref c3))) (c8:FE K "_law_has" "_law_has" b6D c3)
  (dL:PySem.W.nsIn K jG "_law_worth"=some (some (.ref cx))) (cF:FE K "_law_worth" "_law_worth" a9n cx)
  (dE:PySem.W.nsIn K jG "_law_within"=some (some (.ref ch))) (cp:FE K "_law_within" "_law_within" a7v ch)
  (dM:PySem.W.nsIn K jG "_law_apart"=some (some (.ref cy))) (cG:FE K "_law_apart" "_law_apart" a9o cy)
  (dN:PySem.W.nsIn K jG "_law_right"=some (some (.ref cz))) (cH:FE K "_law_right" "_law_right" a2N cz)
  (bs:PySem.W.findIn K (.ref ab) "__init__"=some (some (.ref ao))) (aP:PySem.W.isFn K (.ref ao)=true) (aw:FE K "__init__" "Sheet.__init__" a1K ao)
  (bj:PySem.W.findIn K (.ref ac) "__init__"=some (some (.ref ao)))
  (cc:PySem.W.findIn K (.ref ab) "keep_line"=some (some (.ref aJ))) (cd:PySem.W.isFn K (.ref aJ)=true) (aL:FE K "keep_line" "Sheet.keep_line" a1w aJ)
  (ce:PySem.W.findIn K (.ref ac) "keep_line"=some (some (.ref aK))) (cf:PySem.W.isFn K (.ref aK)=true) (aM:FE K "keep_line" "Tiled.keep_line" a1x aK)
  (cX:PySem.W.findIn K (.ref ab) "tell"=some (some (.ref aT))) (b7:PySem.W.isFn K (.ref aT)=true) (aV:FE K "tell" "Sheet.tell" a29 aT)
  (cN:PySem.W.findIn K (.ref ac) "tell"=some (some (.ref aT)))
  (dG:PySem.W.nsIn K jG "law"=some (some (.ref c4))) (dV:K.lookup c4=some ⟨dR,dP,.func (PySem.W.fnOf "law" "law" (a3E a8s) (a2c a8s) (a0f a8s) .none db dc dd da cP de),dQ⟩) (dW:PySem.W.codeIn K cP "law"=true) (dX:PySem.W.keepIn K (.ref c4)=true)
  (dY:PySem.W.nsIn K jG "all"=some none)
  (cY:PySem.W.nsIn K jG "isinstance"=some none)
  (dZ:PySem.W.nsIn K jG "str"=some none)
  (d0:PySem.W.nsIn K jG "len"=some none)
  (dS:PySem.W.nsIn K jG "bool"=some none)
  (d1:PySem.W.nsIn K jG "int"=some none)
  (d2:PySem.W.nsIn K jG "min"=some none)
  (d3:PySem.W.nsIn K jG "max"=some none)
  (c9:PySem.W.nsIn K jG "reversed"=some none)
  (dF:PySem.W.nsIn K jG "sorted"=some none)
  (dO:PySem.W.nsIn K jG "range"=some none)
  (dT:PySem.W.nsIn K jG "dict"=some none)
  (cI:PySem.W.nsIn K jG "LONGEST_NAME"=some (some (.int 8 bH)))
  (cO:PySem.W.nsIn K jG "LAST_MOMENT"=some (some (.int 1000000000000 bQ))) :
  ∃ fd:jI,(∀ (s:Shared) (v:Value),kA s fd ⟨[v],[]⟩ [("script",v)])/\∀ base:Heap,K.In base->base.Ns jG mg->FnOk l.prog w K mg base CX0 8 fa fd ["script"] (lowP K a8C):=by
 have e:=hfa.symm.trans (PySem.W.mg_of X G dG);cases e;obtain⟨d_p_is_name,bC⟩:=bC;obtain⟨aC,bg⟩:=bg;obtain⟨as,bb⟩:=bb;obtain⟨am,a6⟩:=a6;obtain⟨ar,bc⟩:=bc;obtain⟨ai,a1⟩:=a1;obtain⟨V,aY⟩:=aY;obtain⟨S,aU⟩:=aU;obtain⟨d_p_is_over,bD⟩:=bD;obtain⟨az,bh⟩:=bh;obtain⟨d_p_worth_in,bn⟩:=bn;obtain⟨d_p_ahead_of,bo⟩:=bo;obtain⟨E,aO⟩:=aO;obtain⟨d_p_from_on,bE⟩:=bE;obtain⟨d_p_put_on,bN⟩:=bN;obtain⟨ah,au⟩:=au;obtain⟨aB,aR⟩:=aR;obtain⟨B,ae⟩:=ae;obtain⟨L,aF⟩:=aF;obtain⟨d_p_run_of,bO⟩:=bO;obtain⟨aq,a7⟩:=a7;obtain⟨aA,bi⟩:=bi;obtain⟨Q,aG⟩:=aG;obtain⟨ag,av⟩:=av;obtain⟨d_p_story,b2⟩:=b2;obtain⟨al,aH⟩:=aH;obtain⟨d_p_all_at,bP⟩:=bP;obtain⟨an,aI⟩:=aI;obtain⟨d_p_when,co⟩:=co;obtain⟨d_p_who,cD⟩:=cD;obtain⟨U,aZ⟩:=aZ;obtain⟨ap,a8⟩:=a8;obtain⟨d_p_tiled_on,br⟩:=br;obtain⟨d_cell_at,b3⟩:=b3;obtain⟨d_tumbled,b4⟩:=b4;obtain⟨d_words,cE⟩:=cE;obtain⟨d_stretch,b5⟩:=b5;obtain⟨d_by_digits,bG⟩:=bG;obtain⟨d_telling,b6⟩:=b6;obtain⟨d_has,c8⟩:=c8;obtain⟨d_worth,cF⟩:=cF;obtain⟨d_within,cp⟩:=cp;obtain⟨d_apart,cG⟩:=cG;obtain⟨d_right,cH⟩:=cH;obtain⟨af,aw⟩:=aw;obtain⟨aa,aL⟩:=aL;obtain⟨Y,aM⟩:=aM;obtain⟨d_Sheet_tell,aV⟩:=aV
 let a:Ad:=⟨bv,d_p_is_name,bd,aC,a9,as,a3,am,ba,ar,a0,ai,aW,V,aS,S,bw,d_p_is_over,be,az,bk,d_p_worth_in,bl,d_p_ahead_of,aN,E,bx,d_p_from_on,bK,d_p_put_on,aj,ah,aQ,aB,ad,B,ax,L,bL,d_p_run_of,a4,aq,bf,aA,ay,Q,ak,ag,bS,d_p_story,aD,al,bM,d_p_all_at,aE,an,cg,d_p_when,cv,d_p_who,aX,U,a5,ap,bm,d_p_tiled_on,bT,d_cell_at,bU,d_tumbled,cw,d_words,bV,d_stretch,bz,d_by_digits,bW,d_telling,c3,d_has,cx,d_worth,ch,d_within,cy,d_apart,cz,d_right,ao,af,aJ,aa,aK,Y,aT,d_Sheet_tell,fa,(PySem.W.fnOf "law" "law" (a3E a8s) (a2c a8s) (a0f a8s) .none db dc dd da cP de),ab,ac,ci,bA,bB⟩
 have F:Fns K a:=⟨bC,bg,bb,a6,bc,a1,aY,aU,bD,bh,bn,bo,aO,bE,bN,au,aR,ae,aF,bO,a7,bi,aG,av,b2,aH,bP,aI,co,cD,aZ,a8,br,b3,b4,cE,b5,bG,b6,c8,cF,cp,cG,cH,aw,aL,aM,aV,b4S dV dW dX⟩;have T:Txt K mg a:=⟨PySem.W.mg_of X G cZ,PySem.W.mg_of X G cJ,PySem.W.mg_of X G cA,PySem.W.mg_of X G cq,PySem.W.mg_of X G cB,PySem.W.mg_of X G cj,PySem.W.mg_of X G b8,PySem.W.mg_of X G bX,PySem.W.mg_of X G c0,PySem.W.mg_of X G cK,PySem.W.mg_of X G cU,PySem.W.mg_of X G cV,PySem.W.mg_of X G bI,PySem.W.mg_of X G c1,PySem.W.mg_of X G c5,⟨ck,bp,au.kp⟩,⟨b9,bp,au.kp⟩,⟨cL,bR,aR.kp⟩,⟨cC,bR,aR.kp⟩,⟨bJ,a2,ae.kp⟩,⟨bF,a2,ae.kp⟩,⟨bY,bZ,aF.kp⟩,PySem.W.mg_of X G c6,PySem.W.mg_of X G cr,PySem.W.mg_of X G cM,⟨b0,b1,aG.kp⟩,⟨cl,bq,av.kp⟩,⟨ca,bq,av.kp⟩,PySem.W.mg_of X G dh,⟨cs,bt,aH.kp⟩,⟨cm,bt,aH.kp⟩,PySem.W.mg_of X G c7,⟨ct,bu,aI.kp⟩,⟨cn,bu,aI.kp⟩,PySem.W.mg_of X G dD,PySem.W.mg_of X G dJ,PySem.W.mg_of X G cb,PySem.W.mg_of X G cu,PySem.W.mg_of X G cW,PySem.W.mg_of X G di,PySem.W.mg_of X G dj,PySem.W.mg_of X G dK,PySem.W.mg_of X G dk,PySem.W.mg_of X G c2,PySem.W.mg_of X G dl,PySem.W.mg_of X G dU,PySem.W.mg_of X G dL,PySem.W.mg_of X G dE,PySem.W.mg_of X G dM,PySem.W.mg_of X G dN,⟨bs,aP,aw.kp⟩,⟨bj,aP,aw.kp⟩,⟨cc,cd,aL.kp⟩,⟨ce,cf,aM.kp⟩,⟨cX,b7,aV.kp⟩,⟨cN,b7,aV.kp⟩,PySem.W.mg_of X G dG,PySem.W.mg_none_of X G dY,PySem.W.mg_none_of X G cY,PySem.W.mg_none_of X G dZ,PySem.W.mg_none_of X G d0,PySem.W.mg_none_of X G dS,PySem.W.mg_none_of X G d1,PySem.W.mg_none_of X G d2,PySem.W.mg_none_of X G d3,PySem.W.mg_none_of X G c9,PySem.W.mg_none_of X G dF,PySem.W.mg_none_of X G dO,PySem.W.mg_none_of X G dT,⟨dn,dp,dq,dr⟩,PySem.W.mg_of X G dm,⟨ds,bs,aP,dt⟩,⟨dv,dw,dx,dy⟩,PySem.W.mg_of X G du,⟨dz,bj,aP,dA⟩,dH,dB,dI,dC,PySem.W.mg_of X G df,PySem.W.mg_of X G cQ,PySem.W.mg_of X G cR,dg,cS,cT,⟨bH,PySem.W.mg_of X G cI⟩,⟨bQ,PySem.W.mg_of X G cO⟩⟩;exact⟨a.d48,λs v=>.of_eq rfl,λbase _ _=>b9N F T⟩
theorem walk {l:PySem.W.OpenLaw}{K:Params->Fg}(hn:l.most=some 63) (hdf:d.params.defaults=[])
  (hY:∀ (w:World) (h:Heap),YP w h->(K w.params).In h)
  (F:∀ (w:World) (mg:Str->Option Value) (fa:Addr) (h:Heap),(K w.params).In h->h.Ns jG mg->mg d.name=some (.ref fa) ->
   ∃ fd:jI,(∀ (s:Shared) (u:Value),kA s fd ⟨[u],[]⟩ [("script",u)])/\∀ base:Heap,(K w.params).In base->base.Ns jG mg->FnOk l.prog w (K w.params) mg base CX0 8 fa fd ["script"] (lowP (K w.params) a8C)) :
  PySem.W.WalkO q loose XP YP l.row.toRowW d [] (λf vs=>PySem.call f vs):=
 L2.walk_of hn (by decide) hdf ⟨rfl,by decide,by decide⟩ hY F (λ_ _ a c e b g=>b2P a c e (Fz.of b g)) λ_ _ _ _ _ z=>z
end Lw
end
open PySem PySem.W PyProof.Rows
set_option maxRecDepth 100000 in
set_option maxHeartbeats 0 in
theorem PySem.Challenge.cw_twotimes_k34_whole_any_sheet_holds : PySem.Challenge.rw_twotimes_k34_whole_any_sheet.Holds := by
 w_on;o_law;k_head;(case hw=>w_witness2)
 k_fill
 refine Lw.walk (l:=PySem.Challenge.rw_twotimes_k34_whole_any_sheet) rfl rfl (fun w h Y=>PySem.W.kIn_of Y) ?F
 case F=>
  intro w mg fa h KX G hmg;refine' Lw.all_mk KX G hmg ?aa ?ab ?ac ?ad ?ae ?af ?ag ?ah ?ai ?aj ?ak ?al ?am ?an ?ao ?ap ?aq ?ar ?au ?av ?aw ?ax ?ay ?az ?aA (Lw.fe_mk ?aB ?aC ?aD) ?aE (Lw.fe_mk ?aF ?aG ?aH) ?aI (Lw.fe_mk ?aJ ?aK ?aL) ?aM (Lw.fe_mk ?aN ?aO ?aP) ?aQ (Lw.fe_mk ?aR ?aS ?aT) ?aU (Lw.fe_mk ?aV ?aW ?aX) ?aY (Lw.fe_mk ?aZ ?a0 ?a1) ?a2 (Lw.fe_mk ?a3 ?a4 ?a5) ?a6 (Lw.fe_mk ?a7 ?a8 ?a9) ?ba (Lw.fe_mk ?bb ?bc ?bd) ?be (Lw.fe_mk ?bf ?bg ?bh) ?bi (Lw.fe_mk ?bj ?bk ?bl) ?bm (Lw.fe_mk ?bn ?bo ?bp) ?bq (Lw.fe_mk ?br ?bs ?bt) ?bu (Lw.fe_mk ?bv ?bw ?bx) ?bz ?bA (Lw.fe_mk ?bB ?bC ?bD) ?bE ?bF ?bG (Lw.fe_mk ?bH ?bI ?bJ) ?bK ?bL ?bM (Lw.fe_mk ?bN ?bO ?bP) ?bQ ?bR ?bS (Lw.fe_mk ?bT ?bU ?bV) ?bW (Lw.fe_mk ?bX ?bY ?bZ) ?b0 (Lw.fe_mk ?b1 ?b2 ?b3) ?b4 (Lw.fe_mk ?b5 ?b6 ?b7) ?b8 ?b9 (Lw.fe_mk ?ca ?cb ?cc) ?cd ?ce (Lw.fe_mk ?cf ?cg ?ch) ?ci ?cj (Lw.fe_mk ?ck ?cl ?cm) ?cn ?co (Lw.fe_mk ?cp ?cq ?cr) ?cs ?ct (Lw.fe_mk ?cu ?cv ?cw) ?cx ?cy (Lw.fe_mk ?cz ?cA ?cB) ?cC ?cD (Lw.fe_mk ?cE ?cF ?cG) ?cH (Lw.fe_mk ?cI ?cJ ?cK) ?cL (Lw.fe_mk ?cM ?cN ?cO) ?cP (Lw.fe_mk ?cQ ?cR ?cS) ?cT (Lw.fe_mk ?cU ?cV ?cW) ?cX (Lw.fe_mk ?cY ?cZ ?c0) ?c1 (Lw.fe_mk ?c2 ?c3 ?c4) ?c5 (Lw.fe_mk ?c6 ?c7 ?c8) ?c9 (Lw.fe_mk ?da ?db ?dc) ?dd (Lw.fe_mk ?de ?df ?dg) ?dh (Lw.fe_mk ?di ?dj ?dk) ?dl (Lw.fe_mk ?dm ?dn ?dp) ?dq (Lw.fe_mk ?dr ?ds ?dt) ?du (Lw.fe_mk ?dv ?dw ?dx) ?dy (Lw.fe_mk ?dz ?dA ?dB) ?dC (Lw.fe_mk ?dD ?dE ?dF) ?dG ?dH (Lw.fe_mk ?dI ?dJ ?dK) ?dL ?dM ?dN (Lw.fe_mk ?dO ?dP ?dQ) ?dR ?dS (Lw.fe_mk ?dT ?dU ?dV) ?dW ?dX (Lw.fe_mk ?dY ?dZ ?d0) ?d1 ?d2 ?d3 ?d4 ?d5 ?d6 ?d7 ?d8 ?d9 ?ea ?eb ?ec ?ed ?ee ?ef ?eg ?eh ?ei ?ej
  all_goals try k_is
  (case ax=>k_exc)
  (case ay=>k_exc)
  (case az=>k_exc)
  all_goals try k_is
