import PyProof.Rows.All
import Wide.All
import OpenK.AllK
import Wide.FinOn
import Lean
import PyProof.EqAt
import PyProof.EqKinds
import PyProof.TupleCall
import PyProof.CompFree
import PyProof.P3In
import PyProof.RaisesMany
import PyProof.StationsW
import PyProof.ExcClass3
import PyProof.ExcBaseAll.ValueError
import PyProof.RulesTry
import PyProof.RulesAs
import PyProof.NsDelKeeps
import KE.KTryMore
import PyProof.ExcArgs
import KE.RegKIsAll
import PyProof.Rows.EqDataRows
import KE.KLam
import KE.KSortKey
import KE.KNestM
import PyProof.DictItemsLoops
import PyProof.DictValues
import PyProof.DictWalks
import KE.KMinBuiltin
import KE.KEqDict
import KE.KIntText
import KE.KDictOf
import PyProof.StrBlockH
import KE.KWords
import PyProof.CallStr
import PyProof.StrLawsTight
import PyProof.StrLawsChain
import PyProof.AttrMissHeap
import KE.KSortTup
import Wide.Seal
import PySem.Challenge.RW_twotimes_k62_changes_laid_on
set_option Elab.async false
set_option linter.all false
set_option maxRecDepth 100000
set_option compiler.extract_closed false
set_option bootstrap.genMatcherCode false
noncomputable section
open Lean Parser Tactic in
def pT:Nat->Syntax->MacroM (Array (TSyntax `rcasesPat))
|n+1,s=>do
 let q:=match s with|`(($p,$q,*))=>#[p]++q.getElems|`(⟨$q,*⟩)=>q.getElems|_=>#[]
 if q.size>0 then pure #[<-`(rcasesPat|⟨$(<-q.mapM λx=>do`(rcasesPatLo|$[$(<-pT n x):rcasesPat]|*)),*⟩)]
 else match s with
 |`($x:ident)=>pure #[<-`(rcasesPat|$x:ident)]
 |`(⟨⟩)=>pure #[<-`(rcasesPat|⟨⟩)]
 |`(($p))=>pure #[<-`(rcasesPat|($[$(<-pT n p):rcasesPat]|*))]
 |`($p||$q)=>pure ((<-pT n p)++(<-pT n q))
 |_=>pure #[<-`(rcasesPat|_)]
|_,_=>pure #[]
local macro_rules|`(tactic|let $c:letConfig $d:letDecl)=>`(tactic|have $c:letConfig $d:letDecl)
local macro_rules|`(tactic|let $p:term:=$e)=>do`(tactic|obtain $[$(<-pT 40 p):rcasesPat]|*:=$e)
local macro_rules|`(tactic|show $t)=>`(tactic|refine $t)
local macro_rules|`(tactic|ext $p*)=>`(tactic|rintro $p*)
local macro_rules|`(tactic|cbv)=>`(tactic|omega)
local macro_rules|`(tactic|o_head $t)=>`(tactic|simpa using $t)
local macro_rules|`(($a,$b,*))=>if b.elemsAndSeps.size%2=1 then `(⟨$a,$b,*⟩)else Lean.Macro.throwUnsupported
local macro_rules|`(↑$a)=>`(by simpa using $a)
open List renaming length_map→aN,mem_cons→aO,mem_append→aP,getElem?_map→aR,mem_singleton→aS,getElem?_eq_some_iff→aT,getElem?_eq_getElem→aU,map_append→aV,pairwise_cons→aW,map_cons→aZ,length_cons→be,mem_map→bf,length_append→bg,length_take→bh,length→bn,mem_of_getElem?→bp,range→bt,Perm→bx,append_assoc→bB,append_nil→bC,pairwise_append→bD,size_toArray→bE,map_nil→bF,all_cons→bG,mem_append_right→bH,length_drop→bI,cons→bJ,all_eq_true→bL,getElem_mem→bN,mem_map_of_mem→bP,pairwise_iff_getElem→bR,mem_cons_self→bU,nodup_cons→bV,map_map→bW,take_length→bX,filterMap_cons→bY,mem_iff_getElem→b8,nodup_append→b9,find?_cons→cg,getElem?_of_mem→cj,pairwise_map→cq,mem_cons_of_mem→cr,Pairwise→cu,length_pos_iff→cw,any_eq_true→cx,mem_flatMap→cy,mem_filter→cA,mem_range→cB,length_eq_zero_iff→cC,drop_eq_getElem_cons→cD,take_of_length_le→cE,flatMap_cons→cG,getElem?_append_right→cI,getElem?_append_left→cJ,take_add_one→cN,length_filterMap_le→cO,mem_append_left→cP,mem_filterMap→cS,any_cons→cT,filter_cons→cU,lookup_cons→cV,reverse_append→cW,take_append_drop→cZ,getD_eq_getElem?_getD→dc,of_mem_zip→de,reverse_cons→dg,forIn_cons→dh,getElem?_drop→dk,reverse_singleton→dq,mem_of_mem_take→dr,nil_append→dv,getElem?_eq_none→dz,map_eq_nil_iff→dA,getElem?_set_self→dB,getElem?_set_ne→dC,any_eq_false→dD,not_mem_nil→dH,drop_eq_nil_of_le→dJ,length_range→dN,find?_eq_none→dO,mem_of_find?_eq_some→dP,filter_eq_nil_iff→dQ,filter_sublist→dR,getElem_take→dS,replicate→dU,take_sublist→dX,drop_sublist→d6,mem_of_mem_drop→d7,extract_eq_take_drop→d8,getElem?_take→ej,cons_append→eu,ext_getElem?→ez,map_congr_left→eC,getElem_inj→eG,filterMap_map→eJ,length_set→eN,filterMap_append→eO,pairwise_singleton→eS,perm_append_comm→eT,singleton_append→eU,drop_append→eW,take_append_of_le_length→eX,eraseIdx_cons_succ→eY,pairwise_lt_range→e8,find?_some→fh,find?_append→fq,getLast?_eq_none_iff→ft,rel_of_pairwise_cons→fv,length_filter_le→fw,drop_length→fz,filter_append→fB,perm_ext_iff_of_nodup→fC,nil_sublist→fE,sublist_append_left→fF,filter_cons_of_pos→fG,filterMap_eq_filter→fH,mem_reverse→fJ,length_singleton→fN,map_take→fR,map_drop→fS,perm_middle→fU,zipIdx_cons→fW,foldl_cons→fX,drop_set_of_lt→fY,take_set_of_le→fZ,drop_append_of_le_length→f7,flatten_cons→f8,findIdx?→gh,ext_getElem→gx,length_reverse→gF,range'_succ→gH,map_filterMap→gJ,head?_cons→gN,dropLast_subset→gQ,getLast?_map→gR,mem_of_getLast?→gU,map_dropLast→gX,head?_drop→gY,filter_eq_self→gZ,find?_isSome→g5,getElem_map→g6,drop_of_length_le→g8
open Nat renaming le_refl→aQ,ne_of_lt→aY,le_trans→bj,zero_le→bv,lt_of_lt_of_le→bA,le_of_lt→bT,ne_of_gt→bZ,lt_irrefl→cz,zero_add→cX,lt_succ_of_lt→dj,add_assoc→dw,le_succ→dy,le_of_eq→dE,lt_trans→dG,lt_of_le_of_lt→dY,add_zero→et,mod_lt→eA,lt_succ_self→eI,add_sub_cancel→eV,sub_self→eZ,add_comm→fi,min_le_right→fM,le_of_ble_eq_true→fP,add_right_comm→gC,le_add_right→gG,le_of_lt_succ→gI
open False renaming elim→aX
open Option renaming some→bo,map_some→di,isSome_iff_exists→dW,getD_none→eK,or_none→fD,guard→fI,bind_some→fQ,none→lR
open Array renaming length_toList→bu,getElem?_eq_getElem→bQ,toList_push→bS,getElem?_toList→cm,perm_iff_toList_perm→dI,Perm→dL,size_map→dM,forIn_toList→eD,getElem?_eq_some_iff→eL,append_empty→e9,append_assoc→fK,mem_toList_iff→fL,toList_extract→f6,toList_setIfInBounds→f9,getElem?_modify→gb,toArray_toList→gg,getD_eq_getD_getElem?→gi,getElem?_eq_none→gj,size_setIfInBounds→gA,isEmpty_iff_size_eq_zero→gK
open Int renaming le_trans→bK,le_refl→bM,le_of_lt→ci,eq_ofNat_of_zero_le→cF,not_lt→d9,emod_nonneg→fj,emod_lt_of_pos→fm,toNat_natCast→gz
open Bool renaming false_ne_true→bO,and_eq_true→b7,eq_iff_iff→cH,false_eq_true→cY,and_eq_true_iff→d5,true_and→eM,and_self→eR,false_or→fO,not_true→gE,false_and→gM,and_false→gO,true→lS,false→lT
open Or renaming inr→cf,inl→cK
open PySem renaming wpAny_bind→hZ,wpAny_pure→h9,SetTable→ib,sizeLine→ie,starEach→ii,Program→ik,Builtin→im,compareOp→io,NameKind→iq,sizeLine_eq→ir,mainGlobals→iu,wpAny_mono→iw,PassesOwn→iz,binaryOp→iA,wpAny_holding→iB,sysModules→iC,FuncData→iG,bootBuiltins→iH,wpAny_call_entry→iI,holding→iM,wpAny_field→iN,wpAny_setState_of→iO,scanBound→iR,codeAny→iS,valueAt→iT,wpAny_ite_split→iV,wpAny_rule→iW,swapsWith→iY,assignEach→iZ,wpAny_newObj_type→i5,pickOrder→i6,codeAny_mono→i7,wpAny_setField→i8,wpAny_attempt→i9,wpAny_truthy_bool→ja,foldedSetIterable→jc,unsupported→jd,codeAny_builtin→je,inplaceOp→jg,wpAny_passesOwn→jh,behindInMarks→ji,wpAny_call→jj,Keyword→jk,typeIs_str→jl,sliceBounds→jm,callerA→jo,plainId_quiet→jq,wpAny_isInstance→jr,wpAny_setEntries_of→js,standAt→jt,wpAny_execs_nil→ju,BindsTo→jv,bindArgs→jw,compEnvC→jx,wpAny_newTuple→jz,relayAll→jA,wpAny_dictEntries→jC,tupleKind→jD,intKind→jE,builtinsNs→jF,wpAny_load→jG,wpAny_Call_Name_kw→jH,getItem→jI,call_meetsIn→jJ,closureFor→jK,notedBy→jL,checkBuiltinCall→jM,wpAny_newList→jQ,wpAny_storeSet_of→jR,fits_of_scanBound→jS,wpAny_askSetting→jT,isSubtype_type→jU,entryFor→jV,wpAny_seqItems→jW,setItem→jX,wpAny_pyIter_list→jY,unaryOp→jZ,lastMarks→j3,DictEntry→j5,leaving→j6,cellsFrom→j7,wpAny_typeOf→j8,noteFrame→j9,wpAny_getItem_str_slice→kc,post_val_or_str→ke,ElemsOf→kh,setAddHashed→ki,storeSet→kj,GenState→kl,wpAny_of_eq→km,setNext→kr,wpAny_fieldsOf→kt,wpAny_setEpoch_of→kw,wpAny_setField_rec→kx,storeName→kC,wpAny_Name→kD,wpAny_execs_cons→kE,wpAny_standAt→kF,swapsWithSole→kH,swappedStores→kI,letOwnedTupleGo→kJ,seqIndex_of→kK,seqIndex_neg→kL,attributeBase→kO,backToKw→kP,keywordEach→kQ,tupleKind_room_in1→kR,compPost→kT,codeAny_call_builtin→kU,setAddHashedIn→lj,codeAny_of_tree→lq,entryFor_alias→lu,wpAny_updateSeq→lz,wpAny_forIn_list→lH,wpAny_notOrdered_dict→lI,defaultsOf→lJ,wpAny_dictEpoch→lK,setRelay→lN,setMerge→lO
open PyProof.Rows renaming wpS_bind→ig,wpS_pure→ij,pendingOf→ip,IntsAre→iE,wpS_forRange→iF,failedOf→iJ,wpS_mono→iK,SortKind→iP,wpS_modify→iQ,wpS_get→iU,AllBare→iX,sortedS→jf,listUpdate_at→jp,pairsOf→jy,StrsAre→jB,reverseSlice'→jN,setPending→jO,seqEpoch_at→jP,size_push'→kg,subscriptTail_builtinR→kM,mergeAt'→kW,listItems_at→kZ,kind_sorted→lC,plain_sorted→lD,entry_sorted→lE,slot_list_sort→lF,entry_list_sort→lG
abbrev Fg:=PySem.W.Frag
set_option tactic.hygienic false
namespace PySem.W.Fast
noncomputable def z:=0
def tw10107532529553962444:=z
def tw11861817898433544318:=z
def tw11604279661224301978:=z
def tw16128724763695754330:=z
def tw14077372042859631092:=z
def tw221115210176431367:=z
def tw11043925797086798720:=z
def tw17781223453344711008:=z
def tw9461351213400149440:=z
def tw11933708250068656307:=z
def tw16182724721365280495:=z
def tw4674452962645487407:=z
def tw18422236759597193689:=z
def tw8019500383143593641:=z
def tw3010000670480250578:=z
def tw3569814727780753788:=z
def tw2617065417489253469:=z
def tw15717340454271016452:=z
def tw13916329778135045063:=z
def tw7609695168212043809:=z
def tw17304098018706987788:=z
def tw1846107619072865393:=z
def tw8506180103790677461:=z
def tw2298549552091580432:=z
def tw11804745733520703699:=z
def tw11690626620773057016:=z
def tw2869280672677784853:=z
def tw9791674017558869869:=z
def tw6770895101447873645:=z
def tw983425404077004634:=z
def tw10696835606517238113:=z
def tw13363493401276311136:=z
def tw9744451934456076757:=z
def tw5539841584879314270:=z
def tw11100057771622352745:=z
def tw11213315241281424488:=z
def tw17635993042575879658:=z
def tw17777849226020673841:=z
def tw18241380355313211101:=z
def tw4722786250348644352:=z
def tw3859206020711514769:=z
def tw7084787896322874883:=z
def tw12107639476080991076:=z
def tw9242679640822773502:=z
def tw33426044527130730:=z
def tw13009158090421893737:=z
def tw6102847826459062656:=z
def tw13120334625748832813:=z
def tw510791526210729106:=z
def tw12903982318835272674:=z
def tw6974216635277965365:=z
def tw2743284272365565952:=z
def tw3650057668073890542:=z
def tw4170125558719136492:=z
def tw18218157268636040867:=z
def tw1377605673001776768:=z
def tw11046652695988178429:=z
def tw4121522682840899047:=z
def tw14154875012651508112:=z
def tw13559373412096723953:=z
def tw10933684584433745204:=z
def tw5462427258424970207:=z
def tw2298286389769003984:=z
def tw13079854649394045237:=z
def tw12698161029730771319:=z
def tw7563154499288078427:=z
def tw2813414429036393533:=z
def tw5687530496055571430:=z
def tw1145682681964496183:=z
def tw11487183243241217209:=z
def tw12158224766667259668:=z
def tw4312634866192217051:=z
def tw12772117766486044060:=z
def tw12292978970489405452:=z
def tw4140056164457003079:=z
def tw11946999037798714748:=z
def tw17626549601093159734:=z
def tw2653358509337764610:=z
def tw2513974215409317436:=z
def tw12910824101771053581:=z
def tw17547364237686429417:=z
def tw15204403368949378042:=z
def tw9770846411571670132:=z
def tw1384178561569840127:=z
def tw12031839748645029257:=z
def tw12266259640797314406:=z
def tw3129352844310185594:=z
def tw15645292411391958250:=z
def tw15021387387547723960:=z
def tw2725314519700934330:=z
def tw1820150824393604645:=z
def tw5232153349188892412:=z
def tw1612868973705786368:=z
def tw15284567163898164976:=z
def tw9891890222074451392:=z
def tw6759573866308492282:=z
def tw5608624916136859071:=z
def tw12574305855723041821:=z
def tw5847871903786716747:=z
def tw4050770465900722045:=z
def tw1725842361097367188:=z
def tw13985968357594462270:=z
def tw2782038384255413735:=z
def tw5648431244128231830:=z
def tw18179270046688661469:=z
def tw3507705855141447420:=z
def tw402584548113548945:=z
def tw3528767019854581849:=z
def tw8870964015484728021:=z
def tw4122408053801336389:=z
def tw909014052681968575:=z
def tw10940901921531318857:=z
def tw17416697687191787112:=z
def tw15643838172188140702:=z
def tw17665244633513247044:=z
def tw16485982910843262947:=z
def tw6013009420748530487:=z
def tw6069389496095572111:=z
def tw18064429011029590399:=z
def tw13689912680429186208:=z
def tw10777748653721041410:=z
def tw17715539282075261536:=z
def tw5034227147335530433:=z
def tw12463595071438875773:=z
def tw11787864080980743610:=z
def tw17503632586260567333:=z
def tw6475244743057993113:=z
def tw17910190961096503613:=z
def tw6252119874130316538:=z
def tw11629062452243041981:=z
def tw17426033525521004327:=z
def tw214976188967269903:=z
def tw11256522517328801422:=z
def tw2947233813880494021:=z
def tw8922524201274620410:=z
def tw1711537818578811295:=z
def tw15612947387249116392:=z
def tw9614183832780961912:=z
def tw9269902227977415485:=z
def tw5489394067438274148:=z
def tw3603487973688702073:=z
def tw2767111032200324532:=z
def tw17415692658858981802:=z
def tw423008168674972532:=z
def tw17351127480836686671:=z
def tw2706467135024452880:=z
def tw11519361589882969058:=z
def tw10321378982913293486:=z
def tw9637582365425206044:=z
def tw5952642923523868965:=z
def tw4501036191383777047:=z
def tw10110323432380133879:=z
def tw11701798785705784162:=z
def tw17292799535538259515:=z
def tw12133362895729513791:=z
def tw10081689351454974670:=z
def tw3825208072049223117:=z
def tw16909546930843648117:=z
def tw17539066694998655044:=z
def tw16667753108722097826:=z
def tw10789801537646744005:=z
def tw11120292511756644884:=z
def tw13753602730745840534:=z
def tw2381400353225429017:=z
def tw713198788198456050:=z
def tw16800604120967009343:=z
def tw7365088379630586233:=z
def tw3575197936353354549:=z
def tw8297327103060963801:=z
def tw3298267879528130990:=z
def tw9369046783512111632:=z
def tw8953978393151627365:=z
def tw13546936808951907190:=z
def tw17357985501812441062:=z
def tw154422091226796073:=z
def tw16713813809507376575:=z
def tw18269728351318819925:=z
def tw2302427524110454051:=z
def tw3062324217750608062:=z
def tw18017119472143736485:=z
def tw15515872026409251159:=z
def tw5988321559435472675:=z
def tw11494970241306277336:=z
def tw2438659241331813378:=z
def tw9057184810419509764:=z
def tw7423650716693691990:=z
def tw848137048202020359:=z
def tw14552596336549811485:=z
def tw2489890769524663340:=z
def tw4860427583040363201:=z
def tw3018819473668052322:=z
def tw12515321994774850134:=z
def tw2517445783957309689:=z
def tw11706726393794046597:=z
def tw899491626195656134:=z
def tw15769080980044583457:=z
def tw15938641666006346304:=z
def tw5268947176630011239:=z
def tw1461812336835140038:=z
def tw3063233454641370550:=z
def tw2102487599204773292:=z
def tw13965367452328060525:=z
def tw11545187045481600666:=z
def tw959741871794437493:=z
def tw2977945057434831006:=z
def tw6359936724302250631:=z
def tw17760738051042812987:=z
def tw5813028131173612364:=z
def tw6102720857745186577:=z
def tw2681937784490428628:=z
def tw8407132477806089698:=z
def tw12961004506637485727:=z
def tw3481613846926294311:=z
def tw12009973186964274253:=z
def tw17041419975541802733:=z
def tw11938327016464066025:=z
def tw10583169445173351531:=z
def tw5508927841742431945:=z
def tw16245311316933607837:=z
def tw5523712538960816297:=z
def tw17348243353947159378:=z
def tw2264590045192719332:=z
def tw2333732969004441775:=z
def tw6824460492839211739:=z
def tw18094876308095055811:=z
def tw10465053644612093038:=z
def tw9559103448665928103:=z
def tw15974520997263791275:=z
def tw2739998649877783125:=z
def tw98822549181846197:=z
def tw9434935768539354016:=z
def tw4867162236255911480:=z
def tw16903157205037481315:=z
def tw10703432812955693291:=z
def tw17879914042026769697:=z
def tw8241354688638221108:=z
def tw16885883080169331637:=z
def tw14588545637302886953:=z
def tw4843712050876751642:=z
def tw6105185155794555978:=z
def tw17881225001546708337:=z
def tw3051913565762661361:=z
def tw63497050376994572:=z
def tw15879822295535209340:=z
def tw7254360673165866408:=z
def tw667409540321652832:=z
def tw2353559543152575882:=z
def tw15713805655200555980:=z
def tw5679279669372032081:=z
def tw3798009958103769042:=z
def tw8684010948539596341:=z
def tw5813086150963055852:=z
def tw3832912158196429006:=z
def tw12800334512289609135:=z
def tw15746809884128865930:=z
def tw15124123633861290559:=z
def tw13713903347417945197:=z
def tw8697200579457397723:=z
def tw12096150649470192876:=z
def tw10649597504999495519:=z
def tw18034496835628342601:=z
def tw17987849745658256235:=z
def tw14792371527471662797:=z
def tw8129839170913357293:=z
def tw10564350587956007586:=z
def tw12901824695436087824:=z
def tw3055348237779966578:=z
def tw16777524928979900988:=z
def tw14928954454540846516:=z
def tw17836761846946864800:=z
def tw16329676951777659929:=z
def tw13060613787469755651:=z
def tw13967576586010100710:=z
def tw10416909080856039905:=z
def tw8798266958041673650:=z
def tw588799782112978835:=z
def tw17980856269199165562:=z
def tw18274440737385792651:=z
def tw2133226473180798975:=z
def tw9822551635803477505:=z
def tw9909357207150522328:=z
def tw11395570493461186431:=z
def tw18195763473042666348:=z
def tw9356570919831631123:=z
def tw7002229294539328118:=z
def tw13472539915404987914:=z
def tw1518290999077627450:=z
def tw13089838697137615442:=z
def tw4967703203422636358:=z
def tw17166579407474355188:=z
def tw3180000746766154938:=z
def tw14302315871196609561:=z
def tw17427366750126805852:=z
def tw5360041250861518216:=z
def tw17637370189023208468:=z
def tw8313929866961152809:=z
def tw12802050013296203892:=z
def tw14155003593257855597:=z
def tw6602833271630752790:=z
def tw6902401527030092858:=z
def tw3753883510981692180:=z
def tw16858528077812485308:=z
def tw8701245473521969189:=z
def tw11652771209224826020:=z
def tw7873645652159238315:=z
def tw7061449699709619965:=z
def tw12388601846377683604:=z
def tw9399212253725241334:=z
def tw12617049023281324366:=z
def tw4482955694615168230:=z
def tw1617632441459234612:=z
def tw989087715212511832:=z
def tw4745998820353851887:=z
def tw14823135955647327598:=z
def tw12061241275452817805:=z
def tw5507749659672947846:=z
def tw4433135889264946029:=z
def tw2924545443271712154:=z
def tw18278120051247250901:=z
def tw8549115228767893473:=z
def tw12406227783951445491:=z
def tw9078471588929397719:=z
def tw3194764664526072682:=z
def tw3841438033397800950:=z
def tw12492610592330861954:=z
def tw8818237914323123578:=z
def tw13808669549446935623:=z
def tw4244492637018539449:=z
def tw8286716692326438687:=z
def tw8630074509956264564:=z
def tw13985851182169320467:=z
def tw9798853432241078006:=z
def tw11422826162091691117:=z
def tw2756851780187998059:=z
end PySem.W.Fast
set_option genInjectivity false in
inductive Ex2 {α0 α1:Type}(p:α0->α1->Prop):Prop
 |mk (a0:α0) (a1:α1) (h:p a0 a1):Ex2 p
set_option genInjectivity false in
inductive Ex3 {α0 α1 α2:Type}(p:α0->α1->α2->Prop):Prop
 |mk (a0:α0) (a1:α1) (a2:α2) (h:p a0 a1 a2):Ex3 p
set_option genInjectivity false in
inductive Ex4 {α0 α1 α2 α3:Type}(p:α0->α1->α2->α3->Prop):Prop
 |mk (a0:α0) (a1:α1) (a2:α2) (a3:α3) (h:p a0 a1 a2 a3):Ex4 p
set_option genInjectivity false in
inductive Ex5 {α0 α1 α2 α3 α4:Type}(p:α0->α1->α2->α3->α4->Prop):Prop
 |mk (a0:α0) (a1:α1) (a2:α2) (a3:α3) (a4:α4) (h:p a0 a1 a2 a3 a4):Ex5 p
set_option genInjectivity false in
inductive Ex6 {α0 α1 α2 α3 α4 α5:Type}(p:α0->α1->α2->α3->α4->α5->Prop):Prop
 |mk (a0:α0) (a1:α1) (a2:α2) (a3:α3) (a4:α4) (a5:α5) (h:p a0 a1 a2 a3 a4 a5):Ex6 p
set_option genInjectivity false in
inductive Ex7 {α0 α1 α2 α3 α4 α5 α6:Type}(p:α0->α1->α2->α3->α4->α5->α6->Prop):Prop
 |mk (a0:α0) (a1:α1) (a2:α2) (a3:α3) (a4:α4) (a5:α5) (a6:α6) (h:p a0 a1 a2 a3 a4 a5 a6):Ex7 p
set_option genInjectivity false in
inductive Ex8 {α0 α1 α2 α3 α4 α5 α6 α7:Type}(p:α0->α1->α2->α3->α4->α5->α6->α7->Prop):Prop
 |mk (a0:α0) (a1:α1) (a2:α2) (a3:α3) (a4:α4) (a5:α5) (a6:α6) (a7:α7) (h:p a0 a1 a2 a3 a4 a5 a6 a7):Ex8 p
set_option genInjectivity false in
inductive Ex10 {α0 α1 α2 α3 α4 α5 α6 α7 α8 α9:Type}(p:α0->α1->α2->α3->α4->α5->α6->α7->α8->α9->Prop):Prop
 |mk (a0:α0) (a1:α1) (a2:α2) (a3:α3) (a4:α4) (a5:α5) (a6:α6) (a7:α7) (a8:α8) (a9:α9) (h:p a0 a1 a2 a3 a4 a5 a6 a7 a8 a9):Ex10 p
set_option genInjectivity false in
inductive Ex11 {α0 α1 α2 α3 α4 α5 α6 α7 α8 α9 α10:Type}(p:α0->α1->α2->α3->α4->α5->α6->α7->α8->α9->α10->Prop):Prop
 |mk (a0:α0) (a1:α1) (a2:α2) (a3:α3) (a4:α4) (a5:α5) (a6:α6) (a7:α7) (a8:α8) (a9:α9) (a10:α10) (h:p a0 a1 a2 a3 a4 a5 a6 a7 a8 a9 a10):Ex11 p
set_option genInjectivity false in
inductive Ex13 {α0 α1 α2 α3 α4 α5 α6 α7 α8 α9 α10 α11 α12:Type}(p:α0->α1->α2->α3->α4->α5->α6->α7->α8->α9->α10->α11->α12->Prop):Prop
 |mk (a0:α0) (a1:α1) (a2:α2) (a3:α3) (a4:α4) (a5:α5) (a6:α6) (a7:α7) (a8:α8) (a9:α9) (a10:α10) (a11:α11) (a12:α12) (h:p a0 a1 a2 a3 a4 a5 a6 a7 a8 a9 a10 a11 a12):Ex13 p
inductive An3 (a0 a1 a2:Prop):Prop
 |mk (h0:a0) (h1:a1) (h2:a2):An3 a0 a1 a2
inductive An4 (a0 a1 a2 a3:Prop):Prop
 |mk (h0:a0) (h1:a1) (h2:a2) (h3:a3):An4 a0 a1 a2 a3
inductive An5 (a0 a1 a2 a3 a4:Prop):Prop
 |mk (h0:a0) (h1:a1) (h2:a2) (h3:a3) (h4:a4):An5 a0 a1 a2 a3 a4
inductive An6 (a0 a1 a2 a3 a4 a5:Prop):Prop
 |mk (h0:a0) (h1:a1) (h2:a2) (h3:a3) (h4:a4) (h5:a5):An6 a0 a1 a2 a3 a4 a5
inductive An7 (a0 a1 a2 a3 a4 a5 a6:Prop):Prop
 |mk (h0:a0) (h1:a1) (h2:a2) (h3:a3) (h4:a4) (h5:a5) (h6:a6):An7 a0 a1 a2 a3 a4 a5 a6
inductive An9 (a0 a1 a2 a3 a4 a5 a6 a7 a8:Prop):Prop
 |mk (h0:a0) (h1:a1) (h2:a2) (h3:a3) (h4:a4) (h5:a5) (h6:a6) (h7:a7) (h8:a8):An9 a0 a1 a2 a3 a4 a5 a6 a7 a8
set_option maxHeartbeats 4000000
namespace PySem
noncomputable def a0G(env:Env):List (Str×iq)->List (Str×Addr)->List (Str×Addr)
 |[],cs=>cs
 | (n,k,)::r,cs=>if (k==.free)=lS then a0G env r ((n,(env.cells.lookup n).getD 0,)::cs) else a0G env r cs
def a3R(h:∀x∈scope.names,x.2=.free->∃c,env.cells.lookup x.1=bo c):jK scope env=pure (a0G env scope.names []):=by
 simp only[jK]
 suffices H:∀l b,(∀x∈l,x.2=.free->∃c,env.cells.lookup x.1=bo c) ->
   forIn l b _=pure (a0G env l b) by
  rw[H scope.names [] h];rfl
 ext l
 induction l with
 |nil=>ext b _;rfl
 |cons x l ih=>
  ext b j;let(n,k):=x;let g:=λb=>ih b λy o=>j y (cr _ o);rw[dh]
  by_cases hk:k=.free
  .subst hk;let(c,m):=j _ bU rfl;let f:cellOf env n=pure c:=by unfold cellOf;rw[m]
   rw[if_pos (show (iq.free==iq.free)=lS from rfl),f];let e:a0G env ((n,iq.free,)::l) b=a0G env l ((n,c,)::b):=by
    change (if (iq.free==iq.free)=lS then _ else _)=_
    rw[m];rfl
   rw[e,<- g ((n,c,)::b)]
   rfl
  .let i:(k==iq.free)=lT:=↑hk
   let e:a0G env ((n,k,)::l) b=a0G env l b:=by
    change (if (k==iq.free)=lS then _ else _)=_
    rw[i];rfl
   rw[e,<- g b];rw[i,if_neg bO]
   rfl
def a3S:∀(l:List (Str×iq))(cs:List (Str×Addr)),(∀y∈l,y.2=.free->∃c,env.cells.lookup y.1=bo c)->(∀y c,cs.lookup y=bo c->env.cells.lookup y=bo c) ->
  ∀c,(a0G env l cs).lookup x=bo c->env.cells.lookup x=bo c:=by ext z0;induction z0 with
 |nil=>ext cs _ hc c h;show hc x c h
 |cons q0 r I0=>
  let(n,k):=q0;ext cs hx hc c h;let g:=λy m=>hx y (cr _ m);unfold a0G at h
  split at h
  .rename_i hk
   let f:k=.free:=↑hk
   let(d,j):=hx (n,k,) bU f;show I0 _ g (λy i a=>?_) c h;rw[cV]at a;cases e:y==n with
   |true=>
    rw[e]at a;let o:y=n:=↑e
    subst o;rw[j]at a ⊢;show a
   |false=>rw[e]at a;show hc y i a
  .show I0 cs g hc c h
def a5e:∀(l:List (Str×iq))(cs:List (Str×Addr))(c:Addr),cs.lookup x=bo c->∃c',(a0G env l cs).lookup x=bo c':=by ext z0;induction z0 with
 |nil=>ext cs c h;show(c,h)
 |cons q0 r I0=>
  let(n,k):=q0;ext cs c h;unfold a0G
  split
  .cases e:x==n with
   |true=>show I0 _ _ (by rw[cV,e])
   |false=>show I0 _ c (by rw[cV,e];show h)
  .show I0 cs c h
def a3t:∀(l:List (Str×iq))(cs:List (Str×Addr)),(x,iq.free,)∈l->∃c,(a0G env l cs).lookup x=bo c:=by ext z0;induction z0 with
 |nil=>ext cs h;cases h
 |cons _ r I0=>
  ext cs h;unfold a0G;let e||e:=aO.mp h
  .cases e;show a5e r _ ((env.cells.lookup x).getD 0) (by simp)
  .split
   .show I0 _ e
   .show I0 _ e
def a3g{env:Env}:∀(names:List (Str×iq)),
  (names.map λ(n,k,)=>if (k==iq.free&&env.scope.kind==.function&&env.kindOf n==bo .cell) then (n,iq.cell,) else (n,k,)).lookup x =
   (names.lookup x).map λk=>if (k==iq.free&&env.scope.kind==.function&&env.kindOf x==bo .cell)=lS then iq.cell else k:=by ext z0;induction z0 with
 |nil=>show rfl
 |cons q0 r I0=>
  let(n,k):=q0;let a:=I0
  change List.lookup x ((if _=lS then _ else (n,k,))::_)=_
  cases hx:x==n with
  |true=>
   let e:x=n:=by grind
   subst e
   by_cases hc:(k==iq.free&&env.scope.kind==.function&&env.kindOf x==bo .cell)=lS
   simp only[cV,hx,di,if_pos hc];simp only[cV,hx,di,if_neg hc]
  |false=>
   by_cases hc:(k==iq.free&&env.scope.kind==.function&&env.kindOf n==bo .cell)=lS
   .rw[if_pos hc];simp only[cV,hx];show a
   .rw[if_neg hc];simp only[cV,hx];show a
def a1L(I:Nat->Shared->Prop)
  (turn:∀n s,I n s->wpAny (model prog w) A (pyNext it) (λr sv=>match r with
   |none=>R (.ok .next) sv
   |some v=>wpAny (model prog w) A (kJ target it v) (λ_ sv=>wpAny (model prog w) A (assign target env v) (λ_ sw=>
     wpAny (model prog w) A (forIn ifs lS λc r=>if r=lS then do let ok <- isTrue c env (eval c env);pure (ForInStep.yield ok) else pure (ForInStep.yield r)) (λok sJ=>
      if ok=lS then wpAny (model prog w) A (eval elt env) (λx sQ=>
       wpAny (model prog w) A (call (.builtin "list.append") [acc,x]) (λ_ sV=>∃m,m<n/\I m sV) (jL (model prog w) A env λe s'=>R (.error e) s') sQ) (jL (model prog w) A env λe s'=>R (.error e) s') sJ
      else ∃m,m<n/\I m sJ) (jL (model prog w) A env λe s'=>R (.error e) s') sw) (jL (model prog w) A env λe s'=>R (.error e) s') sv) (λ_ _=>False) sv) (λ_ _=>False) s)
  (n:Nat) (h:I n s) :
  iS (model prog w) A (.compLoop (.ListComp elt [(target,iter,ifs,0)] scope pos) 0 it acc env) R s:=by
 show codeAny_loop rfl I (λn s k=>?_) n h;show wpAny_noted (hZ (kF (hZ (iw (turn n s k) (λr d a=>?_) λ_ _ f=>f.elim))));cases r with
 |none=>show h9 a
 |some v=>
  show hZ (iw a (λ_ d a=>?_) λ_ _ f=>f.elim);show hZ (iw a (λ_ p g=>hZ (iw g (λl z b=>?_) λ_ _ f=>f)) λ_ _ f=>f);cases l with
  |false=>show h9 (rfl,b)
  |true=>
   show hZ (hZ (iw b (λx o i=>hZ (iw i (λ_ u j=>h9 (h9 (rfl,j))) λ_ _ f=>f)) λ_ _ f=>f))
end PySem
namespace L2
open PySem PySem.Spec PyProof.Rows
variable{P prog:ik}{w:World}{H H':Hp}{X:Cx}{pins:List (Addr×Obj)}{s:Shared}{pos:Pos}{E:Value->Shared->Prop}{A:Around}{es:List Expr}{κ:KF}
abbrev Key:=Sum (Option Int) Str
noncomputable def b6T:Value->Bool
 |.none=>lS
 |_=>lT
noncomputable def a6I:Key->Value->Bool
 |.inl (bo k),v=>Value.isInt k v
 |.inl lR,v=>b6T v
 |.inr x,v=>Value.isStrOf x v
noncomputable def keyH(w:World):Key->Int
 |.inl (bo k)=>hashInt k
 |.inl lR=>reduceHash 0xFCA86420
 |.inr x=>hashStr w x
theorem a0p:∀{k:Key}{v:Value},a6I k v=lS->(∃i t,k=Sum.inl (bo i)/\v=Value.int i t)\/(∃x t,k=Sum.inr x/\v=Value.str x t)\/(k=Sum.inl lR/\v=Value.none)
 |.inl (bo i),v,h=>by
  let(t,e):=Value.isInt_shape h;show .inl (i,t,rfl,e)
 |.inl lR,v,h=>by
  cases v<;>first |show .inr (.inr (rfl,rfl)) |cases h
 |.inr x,v,h=>by
  let(t,e):=Value.isStrOf_shape h;show .inr (.inl (x,t,rfl,e))
def a7m(i:Int)(t:Tok):a6I (.inl (bo i)) (.int i t)=lS:=by simp[a6I,Value.isInt]
def a7n(x:Str)(t:Tok):a6I (.inr x) (.str x t)=lS:=by simp[a6I,Value.isStrOf]
def b37(a b:Int):decide ((Sum.inl (bo a):Key)=Sum.inl (bo b))=(a==b):=by
 by_cases e:a=b
 .simp_all
 .simp_all
def b38(a b:Str):decide ((Sum.inr a:Key)=Sum.inr b)=decide (a=b):=by simp
def a3p{a b:Key}(h:a≠b):decide (a=b)=lT:=decide_eq_false h
noncomputable def a0k(prog:ik)(w:World):PySem.KeyKind prog w Key where
 is:=a6I
 hash:=keyH w
 inj:=λv a b ha hb=>by
  let(i,t,rfl,rfl)||(x,t,rfl,rfl)||(rfl,rfl):=a0p ha
  .let(j,u,rfl,e)||(y,u,rfl,e)||(rfl,e):=a0p hb
   .injection e with e1 _;rw[e1]
   .show nomatch e
   .show nomatch e
  .let(j,u,rfl,e)||(y,u,rfl,e)||(rfl,e):=a0p hb
   .show nomatch e
   .injection e with e1 _;rw[e1]
   .show nomatch e
  .let(j,u,rfl,e)||(y,u,rfl,e)||(rfl,e):=a0p hb
   .show nomatch e
   .show nomatch e
   .rfl
 byValue:=λk v h=>by
  let(i,t,rfl,rfl)||(x,t,rfl,rfl)||(rfl,rfl):=a0p h<;>rfl
 pyHash:=λhv h=>by
  let(i,t,rfl,rfl)||(x,t,rfl,rfl)||(rfl,rfl):=a0p hv
  .show wpAny_pyHash_int h
  .show wpAny_pyHash_str h
  .show PySem.W.pyHash_slot (T:="NoneType") rfl F.slot_NoneType_hash F.entry_NoneType_hash (F.args_NoneType_hash_1 _) (beq_builtin_none _) (.inl rfl) (hZ (h9 (hZ (wpAny_mkInt (h9 (_,_,rfl,h))))))
 eqBool:=λhu hv h=>by
  let(i,t,rfl,rfl)||(x,t,rfl,rfl)||(rfl,rfl):=a0p hu
  .let(j,u,rfl,rfl)||(y,u,rfl,rfl)||(rfl,rfl):=a0p hv
   .rw[b37]at h;show wpAny_eqBool_int h
   .rw[show decide ((Sum.inl (bo i):Key)=Sum.inr y)=lT from a3p (by simp)]at h;show SeqAt.EqAt.int_str i t y u _ _ _ _ h
   .rw[show decide ((Sum.inl (bo i):Key)=Sum.inl lR)=lT from a3p (by simp)]at h;show SeqAt.EqAt.int_none i t _ _ _ _ h
  .let(j,u,rfl,rfl)||(y,u,rfl,rfl)||(rfl,rfl):=a0p hv
   .rw[show decide ((Sum.inr x:Key)=Sum.inl (bo j))=lT from a3p (by simp)]at h;show SeqAt.EqAt.str_int x t j u _ _ _ _ h
   .rw[b38]at h;show wpAny_eqBool_str h
   .rw[show decide ((Sum.inr x:Key)=Sum.inl lR)=lT from a3p (by simp)]at h;show SeqAt.EqAt.str_none x t _ _ _ _ h
  .let(j,u,rfl,rfl)||(y,u,rfl,rfl)||(rfl,rfl):=a0p hv
   .rw[show decide ((Sum.inl lR:Key)=Sum.inl (bo j))=lT from a3p (by simp)]at h;show SeqAt.EqAt.none_int j u _ _ _ _ h
   .rw[show decide ((Sum.inl lR:Key)=Sum.inr y)=lT from a3p (by simp)]at h;show SeqAt.EqAt.none_str y u _ _ _ _ h
   .rw[decide_eq_true rfl]at h;unfold PySem.eqBool;show iB ?_;show iV (λ_=>hZ (iW (h9 h))) λhab=>absurd rfl hab
 «strs»:=λk x t v h=>by
  let(i,u,rfl,e)||(y,u,rfl,e)||(rfl,e):=a0p h
  .show nomatch e
  .injection e with e1 _
   subst e1;cases v<;>rfl
  .show nomatch e
def a48(prog:ik)(w:World)(i:Int)(t:Tok):(a0k prog w).is (.inl (bo i)) (.int i t)=lS:=a7m i t
def a49(prog:ik)(w:World)(x:Str)(t:Tok):(a0k prog w).is (.inr x) (.str x t)=lS:=a7n x t
inductive V where
 |non |bl (b:Bool) |int (i:Int) |str (x:Str) |byt (b:Array UInt8) |flt (b:UInt64) |ref (a:Addr) |ty (n:String)
 deriving DecidableEq
def RelV:V->Value->Prop
 |.non,u=>u=Value.none
 |.bl b,u=>u=Value.bool b
 |.int i,u=>∃t,u=Value.int i t
 |.str x,u=>∃t,u=Value.str x t
 |.byt b,u=>∃t,u=Value.bytes b t
 |.flt b,u=>∃t,u=Value.float b t
 |.ref a,u=>u=Value.ref a
 |.ty n,u=>u=Value.type n
abbrev Vals:List V->List Value->Prop:=Paired RelV
def Vals.length(r:Vals xs us):xs.length=us.length:=Paired.length r
theorem Vals.get:∀{xs:List V}{us:List Value}{i:Nat}{x:V},Vals xs us->xs[i]?=bo x->∃u,us[i]?=bo u/\RelV x u
 |_,_,_,_,.nil,e=>by simp at e
 |_,_,0,_,.cons r _,e=>by simp at e;subst e;show(_,rfl,r)
 |_,_,i+1,x,.cons _ t,e=>by
  let(u,b,a):=Vals.get t ↑e;show(u,↑b,a)
theorem Vals.set(r:RelV x u):∀{xs:List V}{us:List Value}(i:Nat),Vals xs us->Vals (xs.set i x) (us.set i u)
 |_,_,_,.nil=>.nil
 |_,_,0,.cons _ t=>.cons r t
 |_,_,i+1,.cons q t=>.cons q (Vals.set r i t)
def Vals.append:∀{xs ys:List V}{us ws:List Value},Vals xs us->Vals ys ws->Vals (xs++ys) (us++ws):=by ext z0 y0 x0 w0 v0;induction v0 with
 |nil=>ext s;show s
 |cons r t I0=>ext s;show .cons r (I0 s)
theorem Vals.take:∀{xs:List V}{us:List Value}(n:Nat),Vals xs us->Vals (xs.take n) (us.take n)
 |_,_,0,_=>.nil
 |_,_,_+1,.nil=>.nil
 |_,_,n+1,.cons r t=>.cons r (Vals.take n t)
theorem Vals.drop:∀{xs:List V}{us:List Value}(n:Nat),Vals xs us->Vals (xs.drop n) (us.drop n)
 |_,_,0,r=>r
 |_,_,_+1,.nil=>.nil
 |_,_,n+1,.cons _ t=>Vals.drop n t
def RelO:Option V->Option Value->Prop
 |some v,bo u=>RelV v u
 |none,lR=>True
 |_,_=>False
def KV{κ:Type}:List (κ×V)->List (κ×Value)->Prop:=Paired λ(p:κ×V) (q:κ×Value)=>p.1=q.1/\RelV p.2 q.2
noncomputable def kV:Key->V
 |.inl (bo i)=>.int i
 |.inl lR=>.non
 |.inr x=>.str x
inductive HO where
 |lst (xs:List V)
 |tup (xs:List V)
 |dK (kvs:List (Key×V)) |dT (kvs:List (List Key×V))
 |set (S:Int->Bool) (n:Nat)
 |ins (C dx:Addr) (fs:List (Str×V))
 |own (x:Addr)
 |xd (fs:List (Str×V))
 |met (f x:Addr)
 |rng (lo hi:Int)
 |frz (o:Obj) (u:HO)
 |tbl (ps:Array Value)
 |ext (φ:Heap->Prop)
abbrev Hp:=Addr->Option HO
noncomputable def upd(H:Hp)(a:Addr)(o:HO):Hp:=λb=>if b=a then bo o else H b
def a0h:upd H a o a=bo o:=by unfold upd;rw[if_pos rfl]
def a0f(h:b≠a):upd H a o b=H b:=by unfold upd;rw[if_neg h]
def b6U{H:Hp}(h:H a=bo o)(h':H b=bo u)(d:o≠u):a≠b:=by
 ext e;subst e;rw[h]at h';show d (bo.inj h')
def a0w{H:Hp}(h:H a=bo o)(h':H b=lR):a≠b:=by
 ext e;subst e;rw[h]at h';cases h'
section
variable(P:ik)(w:World)
def ObjOk(H:Hp)(h:Heap)(a:Addr):HO->Prop
 |.lst xs=>xs.length<=ie/\∃(its:List Value)(n:Nat),Vals xs its/\h.get? a=bo { cls:=.type "list",data:=.seq its.toArray n }
 |.tup xs=>xs.length<=ie/\∃its:List Value,Vals xs its/\IsTup h a its.toArray
 |.dK kvs=>kvs.length<=ie/\(a==iC)=lT/\∃vs,KV kvs vs/\h.DictOf (a0k P w) a vs
 |.dT kvs=>kvs.length<=ie/\(a==iC)=lT/\∃xs:List (List Key×Addr×Value),
   Paired (λ(p:List Key×V) (q:List Key×Addr×Value)=>p.1=q.1/\H q.2.1=bo (.tup (p.1.map kV))/\RelV p.2 q.2.2) kvs xs /\
   ∃o es ep,h.get? a=bo o/\o.ExactDict/\o.data=.dict es ep/\es.toList=xs.map (entryOfKey (jD (a0k P w)))/\(xs.map (·.1)).Nodup
 |.set S n=>h.SetOf (jE P w) a S n
 |.ins C dx fs=>H dx=bo (.own a)/\fs.length<=1000/\dx≠a/\h.get? a=bo (PySem.W.instObj C dx) /\
   ∃mA,h.Ns1 dx mA/\(∀f,RelO (fs.lookup f) (mA f))/\PySem.Within mA (fs.map (·.1))
 |.own _=>∃o,h.get? a=bo o
 |.xd fs=>∃mA,h.Ns1 a mA/\∀f,RelO (fs.lookup f) (mA f)
 |.rng lo hi=>∃t u v,h.get? a=bo { cls:=.type "range",data:=.fields #[.int lo t,.int hi u,.int 1 v] }
 |.frz o u=>h.get? a=bo o/\ObjOk H h a u
 |.tbl ps=>h.get? a=bo { cls:=.none,data:=.fields ps }
 |.met f x=>h.get? a=bo (PySem.W.methodObj (.ref f) (.ref x))
 |.ext φ=>φ h/\(∃o,h.get? a=bo o)/\∀h1 h2:Heap,φ h1->(∀o,h1.get? a=bo o->h2.get? a=bo o)->φ h2
def HOk(H:Hp)(h:Heap):Prop:=∀a o,H a=bo o->ObjOk P w H h a o
end
section
variable{h h':Heap}{a:Addr}{o:HO}
def ObjOk.lt(x:ObjOk P w H h a o):a<h.objs.size:=by
 cases o with
 |lst xs=>let(_,_,_,_,e):=x;show Heap.lt_size e
 |tup xs=>let(_,_,_,p):=x;show p.lt
 |dK kvs=>let(_,_,_,_,o,_,_,e,_):=x;show Heap.lt_size e
 |dT kvs=>let(_,_,_,_,o,_,_,e,_):=x;show Heap.lt_size e
 |set S n=>let(o,_,_,_,e,_):=x;show Heap.lt_size e
 |ins C dx fs=>let(_,_,_,e,_):=x;show Heap.lt_size e
 |own y=>let(_,e):=x;show Heap.lt_size e
 |xd fs=>let(_,(_,_,_,e,_),_):=x;show Heap.lt_size e
 |rng lo hi=>let(_,_,_,e):=x;show Heap.lt_size e
 |frz ob u=>let(e,_):=x;show Heap.lt_size e
 |tbl ps=>show Heap.lt_size (x)
 |met f y=>show Heap.lt_size (x)
 |ext φ=>let(_,(_,e),_):=x;show Heap.lt_size e
def Paired.mapP{α β:Type}{F G:α->β->Prop}:∀{l₁:List α}{l₂:List β},Paired F l₁ l₂->(∀a b,F a b->G a b)->Paired G l₁ l₂:=by ext z0 y0 x0;induction x0 with
 |nil=>ext _;show .nil
 |cons r t I0=>ext f;show .cons (f _ _ r) (I0 f)
def ObjOk.stay(x:ObjOk P w H h a o)(k:∀b u,(b=a\/H b=bo (.own a))->h.get? b=bo u->h'.get? b=bo u)
  (ho:∀b,H b=bo (.own a)->H' b=bo (.own a)) (ht:∀b xs,H b=bo (.tup xs)->H' b=bo (.tup xs)):ObjOk P w H' h' a o:=by
 induction o with
 |lst s=>let(z,l,n,r,e):=x;show(z,l,n,r,k _ _ (.inl rfl) e)
 |tup s=>let(z,l,r,g,e,c):=x;show(z,l,r,g,k _ _ (.inl rfl) e,c)
 |dK kvs=>let(z,y,F,r,g,i,j,e,c):=x;show(z,y,F,r,g,i,j,k _ _ (.inl rfl) e,c)
 |dT kvs=>
  let(z,y,s,r,g,i,j,e,c):=x;show(z,y,s,Paired.mapP r λp q z=>(z.1,ht _ _ z.2.1,z.2.2),g,i,j,k _ _ (.inl rfl) e,c)
 |set S n=>let(g,i,j,t,e,c):=x;show(g,i,j,t,k _ _ (.inl rfl) e,c)
 |ins C dx fs=>
  let(d,z,D,e,A,(m,i,j,E,c),r):=x;show(ho _ d,z,D,k _ _ (.inl rfl) e,A,(m,i,j,k _ _ (.inr d) E,c),r)
 |own y=>let(g,e):=x;show(g,k _ _ (.inl rfl) e)
 |xd fs=>let(A,(m,i,j,e,c),r):=x;show(A,(m,i,j,k _ _ (.inl rfl) e,c),r)
 |rng lo hi=>let(t,u,v,e):=x;show(t,u,v,k _ _ (.inl rfl) e)
 |frz g u ih=>let(e,q):=x;show(k _ _ (.inl rfl) e,ih q)
 |tbl ps=>
  show k a _ (.inl rfl) x
 |met f y=>
  show k a _ (.inl rfl) x
 |ext φ=>let(p,(o,e),B):=x;show(B _ _ p λo q=>k _ _ (.inl rfl) q,(o,k _ _ (.inl rfl) e),B)
def HOk.lt(x:HOk P w H h)(e:H a=bo o):a<h.objs.size:=(x a o e).lt
def HOk.fresh(x:HOk P w H h)(e:h.objs.size<=a):H a=lR:=by
 cases q:H a with
 |none=>rfl
 |some u=>show absurd (bA (x.lt q) e) (cz _)
def HOk.kept(x:HOk P w H h)(k:∀b u,h.get? b=bo u->h'.get? b=bo u):HOk P w H h':=λa o e=>
 (x a o e).stay (λb u _ q=>k b u q) (λ_ q=>q) λ_ _ q=>q
def HOk.laid(x:HOk P w H h)(k:∀b u,h.get? b=bo u->h'.get? b=bo u)(hp:h.objs.size<=a)(new:ObjOk P w (upd H a o) h' a o):HOk P w (upd H a o) h':=λb u e=>by
 let d:=x.fresh hp
 by_cases hb:b=a
 .subst hb;rw[a0h]at e;cases e;show new
 .rw[a0f hb]at e;show (x b u e).stay (λc v _ q=>k c v q) (λc q=>by rw[a0f (a0w q d)];show q) λc f q=>by rw[a0f (a0w q d)];show q
end
def Rd(H:Hp)(a:Addr)(u:HO):Prop:=H a=bo u\/∃o,H a=bo (.frz o u)
def Rd.of(h:H a=bo u):Rd H a u:=.inl h
def Rd.ok(r:Rd H a u)(x:HOk P w H h):ObjOk P w H h a u:=by
 let r||(o,r):=r
 .show x a u r
 .let(_,q):=x a _ r;show q
def Mut:Option HO->Prop
 |some (.lst _)=>True
 |some (.dK _)=>True
 |some (.dT _)=>True
 |some (.set _ _)=>True
 |some (.ins _ _ _)=>True
 |some (.ext _)=>True
 |_=>False
section
variable{h h':Heap}{x e:Addr}{o':HO}
def HOk.write(ok:HOk P w H h)(mu:Mut (H x))(he:e=x\/H e=bo (.own x))(k:∀b u,b≠e->h.get? b=bo u->h'.get? b=bo u)(heo:∃u,h'.get? e=bo u)
  (new:ObjOk P w (upd H x o') h' x o'):HOk P w (upd H x o') h':=λb u q=>by
 let a:∀c y,H c=bo (.own y)->c≠x:=λc y r z=>by subst z;rw[r]at mu;show mu
 let g:∀c d,H c=bo (.tup d)->c≠x:=λc d r z=>by subst z;rw[r]at mu;show mu
 by_cases hb:b=x
 .subst hb;rw[a0h]at q;cases q;show new
 .rw[a0f hb]at q
  by_cases hbe:b=e
  .let i:H b=bo (.own x):=by
    let z||z:=he
    .show absurd (hbe.trans z) hb
    .rw[hbe];show z
   rw[q]at i;cases i;let(v,j):=heo;show(v,by rw[hbe];show j)
  .show (ok b u q).stay (λc v f r=>k c v ?_ r) (λc r=>by rw[a0f (a c b r)];show r) λc d r=>by rw[a0f (g c d r)];show r
   let rfl||f:=f
   .cbv
   .grind
end
structure Un (fs ex:List Addr) (H H':Hp) (h h':Heap):Prop where
 keep:∀b o,h.get? b=bo o->H b=lR->b∉fs->b∉ex->h'.get? b=bo o
 slot:∀b o,h.get? b=bo o->H b=lR->b∈fs->b∉ex->∃sl,h'.get? b=bo { o with slots:=sl }
 free:∀b o,h.get? b=bo o->H b=lR->b∉ex->H' b=lR
 there:∀b o,h.get? b=bo o->b∉ex->∃o',h'.get? b=bo o'
 tups:∀b xs,H b=bo (.tup xs)->H' b=bo (.tup xs)
 frzs:∀b o u,H b=bo (.frz o u)->H' b=bo (.frz o u)
 tbls:∀b ps,H b=bo (.tbl ps)->∃more,H' b=bo (.tbl (ps++more))
section
variable{fs fs' ex ex':List Addr}{H1 H2:Hp}{h h1 h2 h':Heap}{a x e:Addr}{o:HO}
noncomputable def Un.any(u:Un fs ex H H1 h h1)(q:h.get? b=bo ob)(n:H b=lR)(hx:b∉ex):∃sl,h1.get? b=bo { ob with slots:=sl }:=by
 by_cases hb:b∈fs
 .show u.slot b ob q n hb hx
 .show(ob.slots,u.keep b ob q n hb hx)
theorem Un.trans(a:Un fs ex H H1 h h1)(b:Un fs ex H1 H2 h1 h2):Un fs ex H H2 h h2 where
 keep:=λc ob q n hc hx=>b.keep c ob (a.keep c ob q n hc hx) (a.free c ob q n hx) hc hx
 slot:=λc ob q n hc hx=>by
  let(sl,e1):=a.slot c ob q n hc hx;let(sl',e2):=b.slot c _ e1 (a.free c ob q n hx) hc hx;show(sl',e2)
 free:=λc ob q n hx=>by
  let(o',e1):=a.there c ob q hx;show b.free c o' e1 (a.free c ob q n hx) hx
 there:=λc ob q hx=>by
  let(o',e1):=a.there c ob q hx;show b.there c o' e1 hx
 tups:=λc xs q=>b.tups c xs (a.tups c xs q)
 frzs:=λc ob xs q=>b.frzs c ob xs (a.frzs c ob xs q)
 tbls:=λc ps q=>by
  let(m1,e1):=a.tbls c ps q;let(m2,e2):=b.tbls c _ e1;show(m1++m2,by rw[e2,fK])
def Un.kept(k:∀b u,h.get? b=bo u->h'.get? b=bo u):Un fs ex H H h h':=
 (λb a q _ _ _=>k b a q,λb a q _ _ _=>(a.slots,k b a q),λ_ _ _ n _=>n,λb a q _=>(a,k b a q),λ_ _ q=>q,λ_ _ _ q=>q,λ_ c q=>(#[],by rw[q];simp))
def Un.refl:Un fs ex H H h h:=Un.kept λ_ _ q=>q
theorem Un.laid(k:∀b u,h.get? b=bo u->h'.get? b=bo u)(hp:h.objs.size<=a)(hn:H a=lR):Un fs ex H (upd H a o) h h' where
 keep:=λb u q _ _ _=>k b u q
 slot:=λb u q _ _ _=>(u.slots,k b u q)
 free:=λb u q n _=>by rw[a0f (aY (bA (Heap.lt_size q) hp))];show n
 there:=λb u q _=>(u,k b u q)
 tups:=λb xs q=>by rw[a0f (a0w q hn)];show q
 frzs:=λb u xs q=>by rw[a0f (a0w q hn)];show q
 tbls:=λb ps q=>(#[],by rw[a0f (a0w q hn),q];simp)
def Un.write(mu:Mut (H x))(he:e=x\/H e=bo (.own x))(k:∀b u,b≠e->h.get? b=bo u->h'.get? b=bo u)(heo:∃u,h'.get? e=bo u):Un fs ex H (upd H x o) h h':=by
 let d:∀b,H b=lR->b≠x:=λb n z=>by subst z;rw[n]at mu;show mu
 let c:∀b,H b=lR->b≠e:=λb n z=>by simp_all
 let a:∀b u,H b=bo u->¬ Mut (bo u)->b≠x:=λb u q g z=>by subst z;rw[q]at mu;show g mu
 show(λb u q n _ _=>k b u (c b n) q,λb u q n _ _=>(u.slots,k b u (c b n) q),λb u q n _=>by rw[a0f (d b n)];show n,λb u q _=>?_,
  λb f q=>by rw[a0f (a b _ q λz=>z)];show q,λb u f q=>by rw[a0f (a b _ q λz=>z)];show q,λb i q=>(#[],by rw[a0f (a b _ q λz=>z),q];simp))
 by_cases hbe:b=e
 .grind
 .show(u,k b u hbe q)
def Un.mono(u:Un fs ex H H1 h h1)(hs:∀b∈fs,b∈fs')(hx:∀b∈ex,b∈ex'):Un fs' ex' H H1 h h1:=
 (λb c q n d a=>u.keep b c q n (λz=>d (hs b z)) λz=>a (hx b z),λ_ _ q n _ a=>u.any q n λz=>a (hx _ z),λb c q n a=>u.free b c q n λz=>a (hx b z),λb c q a=>u.there b c q λz=>a (hx b z),u.tups,u.frzs,u.tbls)
end
noncomputable def trk(h:Heap)(H:Hp):List Addr:=(bt h.objs.size).filter λa=>(H a).isSome
noncomputable def hidT(h:Heap)(H:Hp):Heap:=PySem.W.hideAll h (trk h H)
def a7o(h:Heap)(H:Hp):(hidT h H).objs.size=h.objs.size:=PySem.W.hideAll_size _ _
def a3K(e:h.get? b=bo o)(n:H b=lR):(hidT h H).get? b=bo o:=
 PySem.W.hideAll_get _ e λa=>by
  let q:=(cA.mp a).2;rw[n]at q;simp at q
def b2d(e:(hidT h H).get? b=bo o):h.get? b=bo o/\H b=lR:=by
 let a:=PySem.W.of_hideAll _ e;show(a,?_);cases q:H b with
 |none=>rfl
 |some x=>
  let c:b∈trk h H:=cA.mpr (cB.mpr (Heap.lt_size a),by simp[q]);let z:(hidT h H).get? b=lR:=PySem.W.hideAll_none _ c;rw[z]at e;cases e
noncomputable def b2e(g h:Heap)(L:Addr):List (Addr×Obj):=(bt h.objs.size).filterMap λa=>if a=L\/(g.get? a).isSome=lS then lR else (h.get? a).map λo=>(a,o,)
noncomputable def rest(g h:Heap)(L d:Addr):List (Addr×Obj):=(b2e g h L).filter λp=>decide (p.1≠d)
structure Mod (K:Fg) (mg:Str->Option Value) (base:Heap):Prop where
 kin:K.In base
 glob:base.Ns iu mg
 blt:∃mb,base.Ns jF mb/\∀x:Str,x≠"__name__"->mb x=iH x
 nolimit:base.NoLimit
structure Cx where
 prog:ik
 w:World
 K:Fg
 mg:Str->Option Value
 base:Heap
 A:Around
 N:List Str
 s₀:Shared
 H₀:Hp
 env:Env
 outer:List Env
 stack:List Env
 ex:List Addr
 fn:Str->Bool
 calm:Bool
 pn:List (Addr×Obj)
 xe:Value->Shared->Prop
noncomputable def frs(l:List Env):List Addr:=l.filterMap (·.frame)
abbrev Cx.fs(X:Cx):List Addr:=frs X.outer
def Vis(sc:Scope)(x:Str):Prop:=sc.names.lookup x=bo .local\/sc.names.lookup x=bo .cell\/sc.names.lookup x=bo .free
def Loc(sc:Scope)(x:Str):Prop:=sc.names.lookup x=bo .local\/sc.names.lookup x=bo .cell
def Look(env:Env)(h:Heap)(m:Str->Option Value)(x:Str)(u:Value):Prop:=
 (env.kindOf x=bo .local/\m x=bo u)\/((env.kindOf x=bo .cell\/env.kindOf x=bo .free)/\∃c,env.cells.lookup x=bo c/\h.IsCell c (bo u))
structure Cx.Ok (X:Cx):Prop where
 mod:Mod X.K X.mg X.base
 kind:X.env.scope.kind=.function
 glob:X.env.globals=iu
 blt:X.env.builtins=jF
 above:X.s₀.heap.objs.size<=X.env.locals
 inj:∀x y c,X.env.cells.lookup x=bo c->X.env.cells.lookup y=bo c->x=y
 has:∀x,(X.env.kindOf x=bo .cell\/X.env.kindOf x=bo .free)->∃c,X.env.cells.lookup x=bo c
 cab:∀x c,X.fn x=lS->X.env.cells.lookup x=bo c->X.s₀.heap.objs.size<=c
 hd:X.calm=lS->X.A.handled=lR
 frames:X.A.frames=bo X.stack
 stk:X.stack=X.outer\/(X.stack=X.env::X.outer/\X.env.frame=bo X.env.locals)
 exf:∀b∈X.ex,b≠X.env.locals/\∀x c,X.env.cells.lookup x=bo c->c≠b
 bs:∀b o,X.base.get? b=bo o->X.s₀.heap.get? b=bo o/\X.H₀ b=lR
 bsz:X.base.objs.size<=X.s₀.heap.objs.size
 noex:∀b o,X.base.get? b=bo o->b∉X.ex
 exfs:∀b∈X.ex,b∉X.fs
 funs:X.s₀.heap.FunFrames X.base X.outer
 frf:∀b∈X.fs,X.H₀ b=lR
structure Inv (X:Cx) (pins:List (Addr×Obj)) (σ:List (Option V)) (H:Hp) (s:Shared):Prop where
 ok:X.Ok
 os:s.os=X.s₀.os
 bare:iX s.gens
 base:Un X.fs X.ex X.H₀ H X.s₀.heap s.heap
 loc:∃m,s.heap.Ns X.env.locals m/\∀(i:Nat)(x:Str)(v:V),X.N[i]?=bo x->σ[i]?=bo (bo v)->Vis X.env.scope x->∃u,RelV v u/\Look X.env s.heap m x u
 cell:∀x c,X.env.cells.lookup x=bo c->∃v,s.heap.IsCell c v
 free:H X.env.locals=lR
 freeC:∀x c,X.env.cells.lookup x=bo c->H c=lR
 pin:∀p∈X.pn++pins,s.heap.get? p.1=bo p.2/\H p.1=lR/\p.1≠X.env.locals/\p.1∉X.fs/\∀v,p.2.data≠.cell v
 hok:HOk X.prog X.w H s.heap
 len:σ.length=X.N.length
section
variable{σ:List (Option V)}{h':Heap}
def Cx.Ok.nofr(ok:X.Ok)(e:X.base.get? b=bo o):b∉X.fs:=λa=>by
 let:=(ok.funs.mem a).1
 rw[e]at this;cases this
def Inv.bs(I:Inv X pins σ H s):∀b o,X.base.get? b=bo o->s.heap.get? b=bo o/\H b=lR:=λb o e=>
 (I.base.keep b o (I.ok.bs b o e).1 (I.ok.bs b o e).2 (I.ok.nofr e) (I.ok.noex b o e),I.base.free b o (I.ok.bs b o e).1 (I.ok.bs b o e).2 (I.ok.noex b o e))
def Inv.bk(I:Inv X pins σ H s):∀b o,X.base.get? b=bo o->s.heap.get? b=bo o:=λb o e=>(I.bs b o e).1
def Inv.mod(I:Inv X pins σ H s):Mod X.K X.mg X.base:=I.ok.mod
def Inv.kIn(I:Inv X pins σ H s):X.K.In s.heap:=I.ok.mod.kin.keeps I.bk
def Inv.nolimit(I:Inv X pins σ H s):s.heap.NoLimit:=I.ok.mod.nolimit.keeps I.bk
def Inv.fr(I:Inv X pins σ H s):∃m,Fr X.base X.env.locals s.heap m:=
 let (m,hn,_):=I.loc
 (m,hn,I.bk,bj I.ok.bsz I.ok.above)
def Inv.lt(I:Inv X pins σ H s):X.env.locals<s.heap.objs.size:=let (_,hn,_):=I.loc;hn.lt
def Inv.sz(I:Inv X pins σ H s):X.s₀.heap.objs.size<=s.heap.objs.size:=bj I.ok.above (bT I.lt)
def Inv.nofs(I:Inv X pins σ H s)(h:s.heap.objs.size<=a):a∉X.fs:=λc=>by
 let(_,o,b,_):=I.ok.funs.mem c;show absurd (bA (Heap.lt_size b) (bj I.sz h)) (cz _)
def Inv.cne(I:Inv X pins σ H s):∀x c,X.env.cells.lookup x=bo c->c≠X.env.locals:=λx c e z=>by
 let(v,o,d,b):=I.cell x c e;let(m,(i,g,h,a,f,_),_):=I.loc;rw[z,a]at d;cases d;rw[f]at b;cases b
def Inv.funs(I:Inv X pins σ H s):s.heap.FunFrames X.base X.outer:=by
 let g:∀l,(∀b∈frs l,b∈X.fs)->X.s₀.heap.FunFrames X.base l->s.heap.FunFrames X.base l:=by
  ext l
  induction l with
  |nil=>ext _ _;trivial
  |cons env r ih=>
   ext f h;let(k,(L,o,c,n,m,j),i):=h;let d:=f L (by unfold frs;rw[bY,c];show bU);let(p,e):=I.base.slot L o m (I.ok.frf L d) d λz=>I.ok.exfs L z d;show(k,(L,_,c,n,e,j),ih (λb a=>f b (by unfold frs;rw[bY,c];show cr _ a)) i)
 show g X.outer (λ_ a=>a) I.ok.funs
def Inv.stack(I:Inv X pins σ H s):s.heap.FunFrames X.base X.stack:=by
 let e||(e,hf):=I.ok.stk
 .rw[e];show I.funs
 .rw[e];let(m,a,_):=I.loc;show .cons (by rw[I.ok.kind];decide) hf a ?_ I.funs;show Heap.get?_none_of_le (bj I.ok.bsz I.ok.above)
def Inv.stkSub(I:Inv X pins σ H s):∀b∈frs X.stack,b∈X.env.locals::X.fs:=λb a=>by
 let e||(e,hf):=I.ok.stk
 .rw[e]at a;show cr _ a
 .rw[e]at a;unfold frs at a;rw[bY,hf]at a;show a
def Inv.stkFree(I:Inv X pins σ H s):∀b∈frs X.stack,H b=lR:=λb a=>by
 let e||a:=aO.mp (I.stkSub b a)
 .rw[e];show I.free
 .let(_,o,c,_):=I.ok.funs.mem a;show I.base.free b o c (I.ok.frf b a) λz=>I.ok.exfs b z a
def Inv.step{ch:List Addr}(I:Inv X pins σ H s)
  (hch:∀b∈ch,(b∈X.ex\/X.s₀.heap.objs.size<=b)/\b≠X.env.locals/\(∀x c,X.env.cells.lookup x=bo c->c≠b)/\∀p∈X.pn++pins,p.1≠b)
  (keep:∀b o,b≠X.env.locals->b∉X.fs->b∉ch->s.heap.get? b=bo o->H b=lR->h'.get? b=bo o)
  (slot:∀b o,b≠X.env.locals->b∈X.fs->b∉ch->s.heap.get? b=bo o->H b=lR->∃sl,h'.get? b=bo { o with slots:=sl }) (free:∀b o,b∉ch->s.heap.get? b=bo o->H b=lR->H' b=lR)
  (there:∀b o,b∉ch->s.heap.get? b=bo o->∃o',h'.get? b=bo o')
  (tups:∀b xs,H b=bo (.tup xs)->H' b=bo (.tup xs)) (frzs:∀b o u,H b=bo (.frz o u)->H' b=bo (.frz o u)) (tbls:∀b ps,H b=bo (.tbl ps)->∃more,H' b=bo (.tbl (ps++more)))
  (ns:∀m,s.heap.Ns X.env.locals m->h'.Ns X.env.locals m) (hok:HOk X.prog X.w H' h') (hg:iX g') :
  Inv X pins σ H' { s with heap:=h',gens:=g',drawn:=d',toks:=t' }:=by
 let C:∀b o,X.s₀.heap.get? b=bo o->b≠X.env.locals:=λb o e=>aY (bA (Heap.lt_size e) I.ok.above);let j:∀b o,X.s₀.heap.get? b=bo o->b∉X.ex->b∉ch:=λb o e a h=>by
  let z||z:=(hch b h).1
  .grind
  .show absurd (bA (Heap.lt_size e) z) (cz _)
 let t:∀x c,X.env.cells.lookup x=bo c->∀v,s.heap.IsCell c v->h'.IsCell c v:=by
  ext x c e v ⟨o,y,E⟩;let g:=λz=>(hch c z).2.2.1 x c e rfl
  by_cases hc:c∈X.fs
  .let(S,q):=slot c o (I.cne x c e) hc g y (I.freeC x c e);show(_,q,E)
  .show(o,keep c o (I.cne x c e) hc g y (I.freeC x c e),E)
 show(I.ok,I.os,hg,(λb o e n h a=>(keep b o (C b o e) h (j b o e a) (I.base.keep b o e n h a) (I.base.free b o e n a)),λb o e n h a=>?_,λb o e n a=>?_,λb o e a=>?_,λb B e=>tups b B (I.base.tups b B e),λb o B e=>frzs b o B (I.base.frzs b o B e),λb Q e=>?_),?_,λx c e=>?_,?_,λx c e=>?_,λp L=>?_,hok,I.len)
 .let(S,f):=I.base.slot b o e n h a;let(F,A):=slot b _ (C b o e) h (j b o e a) f (I.base.free b o e n a);show(F,A)
 .let(D,f):=I.base.there b o e a;show free b D (j b o e a) f (I.base.free b o e n a)
 .let(D,f):=I.base.there b o e a;show there b D (j b o e a) f
 .let(N,f):=I.base.tbls b Q e;let(U,A):=tbls b _ f;show(N++U,by rw[A,fK])
 .let(m,T,M):=I.loc;show(m,ns m T,λi x v f A R=>?_);let(u,r,l):=M i x v f A R;show(u,r,?_);let l||(k,c,e,z):=l
  .show .inl l
  .show .inr (k,c,e,t x c e _ z)
 .let(v,z):=I.cell x c e;show(v,t x c e v z)
 .let(m,(o,_,_,y,_),_):=I.loc;show free _ o (λz=>(hch _ z).2.1 rfl) y I.free
 .let(v,o,y,E):=I.cell x c e;show free c o (λz=>(hch c z).2.2.1 x c e rfl) y (I.freeC x c e)
 .let(e,n,G,J,d):=I.pin p L;let g:=λz=>(hch p.1 z).2.2.2 p L rfl;show(keep p.1 p.2 G J g e n,free p.1 p.2 g e n,G,J,d)
def Inv.un(I:Inv X pins σ H s)(u:Un X.fs [] H H' s.heap h')(hok:HOk X.prog X.w H' h'):Inv X pins σ H' { s with heap:=h',toks:=t' }:=by
 let(m,(o,k,q,g,r),_):=id I.loc;let(l,j):=u.any g I.free (by simp);show I.step (ch:=[]) (λ_ z=>nomatch z) (λb o _ c _ e n=>u.keep b o e n c (by simp)) (λb o _ c _ e n=>u.slot b o e n c (by simp)) (λb o _ e n=>u.free b o e n (by simp)) (λb o _ e=>u.there b o e (by simp)) u.tups u.frzs u.tbls (λt h=>by
  let(p,d,f,a,i):=h;rw[g]at a;cases a;show(_,d,f,j,i)) hok I.bare
def Inv.call(I:Inv X pins σ H s)(u:Un (frs X.stack) ch H H' s.heap h')(hok:HOk X.prog X.w H' h')(hg:iX g')
  (hch:∀b∈ch,(b∈X.ex\/X.s₀.heap.objs.size<=b)/\b≠X.env.locals/\(∀x c,X.env.cells.lookup x=bo c->c≠b)/\∀p∈X.pn++pins,p.1≠b) :
  Inv X pins σ H' { s with heap:=h',gens:=g',drawn:=d',toks:=t' }:=by
 let(m,(o,q,y,i,r),_):=id I.loc;let(t,f):=u.any i I.free λz=>(hch _ z).2.1 rfl;show I.step hch (λb o f l a e n=>u.keep b o e n (λz=>(aO.mp (I.stkSub b z)).elim f l) a) (λb o _ _ a e n=>u.any e n a) (λb o a e n=>u.free b o e n a) (λb o a e=>u.there b o e a) u.tups u.frzs u.tbls (λA j=>by
  let(v,g,h,d,k):=j;rw[i]at d;cases d;show(_,g,h,f,k)) hok hg
def Inv.turned(I:Inv X pins σ H s)(k:∀b o,b≠it->s.heap.get? b=bo o->h'.get? b=bo o)(hn:H it=lR)(hL:it≠X.env.locals)
  (h1:it∈X.ex\/X.s₀.heap.objs.size<=it) (h2:∀x c,X.env.cells.lookup x=bo c->c≠it) (h3:∀p∈X.pn++pins,p.1≠it):Inv X pins σ H { s with heap:=h',toks:=t' }:=by
 let d:∀b u,H b=bo u->b≠it:=λb u e z=>by rw[z,hn]at e;cases e
 show I.step (ch:=[it]) (λb i=>?_) (λb o _ _ a e _=>k b o (λz=>a (by simp[z])) e) (λb o _ _ a e _=>(o.slots,k b o (λz=>a (by simp[z])) e)) (λ_ _ _ _ n=>n)
  (λb o a e=>(o,k b o (λz=>a (by simp[z])) e)) (λ_ _ e=>e) (λ_ _ _ e=>e) (λb l e=>(#[],by rw[e];simp)) (λm h=>?_) (λb u e=>?_) I.bare
 .let e:b=it:=↑i
  subst e;show(h1,hL,h2,h3)
 .let(o,f,j,g,r):=h;show(o,f,j,k _ o (Ne.symm hL) g,r)
 .show (I.hok b u e).stay (λc v a q=>k c v ?_ q) (λ_ q=>q) λ_ _ q=>q;let z||z:=a
  .rw[z];show d b u e
  .show d c _ z
def Inv.tok(I:Inv X pins σ H s)(t:Nat):Inv X pins σ H { s with toks:=t }:=I.un Un.refl I.hok
def Inv.kept(I:Inv X pins σ H s)(k:∀b u,s.heap.get? b=bo u->h'.get? b=bo u):Inv X pins σ H { s with heap:=h',toks:=t' }:=I.un (Un.kept k) (I.hok.kept k)
def Inv.laid(I:Inv X pins σ H s)(k:∀b u,s.heap.get? b=bo u->h'.get? b=bo u)(hp:s.heap.objs.size<=a)(new:ObjOk X.prog X.w (upd H a o) h' a o) :
  Inv X pins σ (upd H a o) { s with heap:=h',toks:=t' }:=I.un (Un.laid k hp (I.hok.fresh hp)) (I.hok.laid k hp new)
def Inv.write(I:Inv X pins σ H s)(mu:Mut (H x))(he:e=x\/H e=bo (.own x))(k:∀b u,b≠e->s.heap.get? b=bo u->h'.get? b=bo u)(heo:∃u,h'.get? e=bo u)
  (new:ObjOk X.prog X.w (upd H x o) h' x o):Inv X pins σ (upd H x o) { s with heap:=h',toks:=t' }:=I.un (Un.write mu he k heo) (I.hok.write mu he k heo new)
def Inv.weak(I:Inv X pins σ H s)(hl:σ'.length=σ.length)(w:∀(i:Nat) v,σ'[i]?=bo (bo v)->σ[i]?=bo (bo v)):Inv X pins σ' H s:=
 (I.ok,I.os,I.bare,I.base,by let(m,hn,hl'):=I.loc;show(m,hn,λi x v b c a=>hl' i x v b (w i v c) a),I.cell,I.free,I.freeC,I.pin,I.hok,hl.trans I.len)
def Inv.pins_of(I:Inv X pins σ H s)(h:∀p∈pins',s.heap.get? p.1=bo p.2/\H p.1=lR/\p.1≠X.env.locals/\p.1∉X.fs/\∀v,p.2.data≠.cell v):Inv X pins' σ H s:=
 (I.ok,I.os,I.bare,I.base,I.loc,I.cell,I.free,I.freeC,λp a=>(aP.mp a).elim (λz=>I.pin p (cP _ z)) (h p),I.hok,I.len)
def a5P{N:List Str}(hN:N.Nodup){i j:Nat}(a:N[i]?=bo x)(b:N[j]?=bo x):i=j:=by
 let(f,c):=aT.mp a;let(e,d):=aT.mp b;show (eG hN).mp (c.trans d.symm)
def a4k(I:Inv X pins σ H s)(hN:X.N.Nodup)(hi:X.N[i]?=bo x)(hx:Loc X.env.scope x)(r:RelV v u)
  (h:∀s',Inv X pins (σ.set i (bo v)) H s'->(∃a,Heap.SameBut a s.heap s'.heap/\(a=X.env.locals\/X.env.cells.lookup x=bo a))->Q () s') (hf:X.fn x=lS\/X.env.scope.names.lookup x=bo .local):wpAny M A (kC X.env x u) Q E s:=by
 let(m,hn,hl):=id I.loc;let hcls:(X.env.scope.kind==.class||(X.env.scope.kind==.module&&X.env.locals != X.env.globals))=lT:=by rw[I.ok.kind];rfl
 let U:i<σ.length:=I.len▸(aT.mp hi).1;let J:=I.cne;let B:∀{a:Addr}{G:Heap},(∃o,s.heap.get? a=bo o/\H a=lR)->Heap.SameBut a s.heap G->HOk X.prog X.w H G:=λ{a G} ha f b ob e=>by
  let(_,_,F):=ha;show (I.hok b ob e).stay (λc R l q=>(f.2 c ?_).trans q) (λ_ q=>q) λ_ _ q=>q;ext rfl;let rfl||l:=l
  .rw[F]at e;cases e
  .rw[F]at l;cases l
 let hk||hk:=hx
 .show wpAny_storeName_local hk hn (λG hn' f=>?_) hcls;let(oL,_,_,hoL,_):=id hn;show h _ (I.ok,I.os,I.bare,(λb o e n D hx=>((f.2 b (aY (bA (Heap.lt_size e) I.ok.above))).trans (I.base.keep b o e n D hx)),λb o e n D hx=>?_,I.base.free,λb o e hx=>?_,I.base.tups,I.base.frzs,I.base.tbls),(_,hn',λj y v' g C e3=>?_),λy c e=>?_,I.free,I.freeC,λp hp=>?_,B (oL,hoL,I.free) f,↑I.len) (_,f,.inl rfl)
  .let(sl,g):=I.base.slot b o e n D hx;show(sl,(f.2 b (aY (bA (Heap.lt_size e) I.ok.above))).trans g)
  .let(o',g):=I.base.there b o e hx;show(o',(f.2 b (aY (bA (Heap.lt_size e) I.ok.above))).trans g)
  .by_cases hj:j=i
   .subst hj;rw[hi]at g;cases g;rw[dB U]at C;cases C;show(u,r,.inl (hk,by simp))
   .rw[dC (Ne.symm hj)]at C;let(u',r',q):=hl j y v' g C e3;show(u',r',?_);let(k,e)||(k,c,e,z):=q
    .show .inl (k,?_)
     let:y≠x:=λe=>hj (a5P hN g (e▸hi))
     simp[this,e]
    .show .inr (k,c,e,z.sameBut f (J y c e))
  .let(R,z):=I.cell y c e;show(R,z.sameBut f (J y c e))
  .let(e,n,S,nf,d):=I.pin p hp;show((f.2 p.1 S).trans e,n,S,nf,d)
 .let L:X.fn x=lS:=by
   let z||z:=hf
   .show z
   .rw[z]at hk;cases hk
  let(c,l):=I.ok.has x (.inl hk);let(R,z):=I.cell x c l;show wpAny_storeName_cell I.ok.kind hk l z (λG Y f=>?_);let(oc,W,hocd):=id z;show h { s with heap:=G } (I.ok,I.os,I.bare,(λb o e n D hx=>((f.2 b (aY (bA (Heap.lt_size e) (I.ok.cab x c L l)))).trans (I.base.keep b o e n D hx)),λb o e n D hx=>?_,I.base.free,λb o e hx=>?_,I.base.tups,I.base.frzs,I.base.tbls),(m,hn.sameBut f (Ne.symm (J x c l)),λj y v' g C e3=>?_),λy T e=>?_,I.free,I.freeC,λp hp=>?_,B (oc,W,I.freeC x c l) f,↑I.len) (c,f,.inr l)
  .let(sl,g):=I.base.slot b o e n D hx;show(sl,(f.2 b (aY (bA (Heap.lt_size e) (I.ok.cab x c L l)))).trans g)
  .let(o',g):=I.base.there b o e hx;show(o',(f.2 b (aY (bA (Heap.lt_size e) (I.ok.cab x c L l)))).trans g)
  .by_cases hj:j=i
   .subst hj;rw[hi]at g;cases g;rw[dB U]at C;cases C;show(u,r,.inr (.inl hk,c,l,Y))
   .rw[dC (Ne.symm hj)]at C;let(u',r',q):=hl j y v' g C e3;show(u',r',?_);let q||(k,T,e,z'):=q
    .show .inl q
    .show .inr (k,T,e,z'.sameBut f ?_);ext rfl;show hj (a5P hN g (I.ok.inj _ _ _ e l▸hi))
  .by_cases hcc:T=c
   .subst hcc;show(_,Y)
   .let(w2,z2):=I.cell y T e;show(w2,z2.sameBut f hcc)
  .let(e,n,S,nf,d):=I.pin p hp;show((f.2 p.1 ?_).trans e,n,S,nf,d);ext q;rw[q,W]at e;show d R ((bo.inj e)▸hocd)
def a2G(I:Inv X pins σ H s)(hN:X.N.Nodup)(hi:X.N[i]?=bo x)(hx:Loc X.env.scope x)(r:RelV v u)
  (h:∀s',Inv X pins (σ.set i (bo v)) H s'->Q () s') (hf:X.fn x=lS\/X.env.scope.names.lookup x=bo .local):wpAny M A (kC X.env x u) Q E s:=
 a4k I hN hi hx r (λa b _=>h a b) hf
def Inv.call'(I:Inv X pins σ H s)(ho:s'.os=s.os)(u:Un (frs X.stack) ch H H' s.heap s'.heap)(hok:HOk X.prog X.w H' s'.heap)(hg:iX s'.gens)
  (hch:∀b∈ch,(b∈X.ex\/X.s₀.heap.objs.size<=b)/\b≠X.env.locals/\(∀x c,X.env.cells.lookup x=bo c->c≠b)/\∀p∈X.pn++pins,p.1≠b):Inv X pins σ H' s':=by
 let(h',g',d',t',g):=s';let e:=ho;subst e;show I.call u hok hg hch
end
abbrev XK:=Value->Option Addr->Hp->Prop
abbrev St:=List (Option V)
abbrev VK:=V->Hp->Prop
abbrev TE:=St->Hp->VK->Prop
abbrev TT:=St->Hp->(Bool->Hp->Prop)->Prop
abbrev TA:=St->Hp->(List V->Hp->Prop)->Prop
structure Ends where
 nx:St->Hp->Prop
 rt:VK
 bk:St->Hp->Prop:=λ_ _=>False
 ct:St->Hp->Prop:=λ_ _=>False
abbrev TS:=Ends->St->Hp->Prop
def EP(X:Cx)(pins:List (Addr×Obj))(σ:St)(Q:VK)(u:Value)(s':Shared):Prop:=∃v H',Inv X pins σ H' s'/\RelV v u/\Q v H'
def TP(X:Cx)(pins:List (Addr×Obj))(σ:St)(Q:Bool->Hp->Prop)(b:Bool)(s':Shared):Prop:=∃H',Inv X pins σ H' s'/\Q b H'
def AP(X:Cx)(pins:List (Addr×Obj))(σ:St)(Q:List V->Hp->Prop)(us:List Value)(s':Shared):Prop:=∃vs H',Inv X pins σ H' s'/\Vals vs us/\Q vs H'
def SP(X:Cx)(pins:List (Addr×Obj))(D:Ends)(f:Flow)(s':Shared):Prop:=
 match f with
 |.next=>∃σ' H',Inv X pins σ' H' s'/\D.nx σ' H'
 |.brk=>∃σ' H',Inv X pins σ' H' s'/\D.bk σ' H'
 |.cont=>∃σ' H',Inv X pins σ' H' s'/\D.ct σ' H'
 |.ret u=>∃v σ' H',Inv X pins σ' H' s'/\RelV v u/\D.rt v H'
def PE(X:Cx)(e:Expr)(t:TE):Prop:=
 ∀(pins:List (Addr×Obj))(s:Shared)(σ:St)(H:Hp)(Q:VK),Inv X pins σ H s->t σ H Q->wpAny (model X.prog X.w) X.A (eval e X.env) (EP X pins σ Q) X.xe s
def PT(X:Cx)(e:Expr)(t:TT):Prop:=
 ∀(pins:List (Addr×Obj))(s:Shared)(σ:St)(H:Hp)(Q:Bool->Hp->Prop),Inv X pins σ H s->t σ H Q->wpAny (model X.prog X.w) X.A (isTrue e X.env (eval e X.env)) (TP X pins σ Q) X.xe s
def PW(X:Cx)(e:Expr)(t:TT):Prop:=
 ∀(whole:Sem Value)(pins:List (Addr×Obj))(s:Shared)(σ:St)(H:Hp)(Q:Bool->Hp->Prop),Inv X pins σ H s->t σ H Q->wpAny (model X.prog X.w) X.A (isTrue e X.env whole) (TP X pins σ Q) X.xe s
def PW.pt(h:PW X e t):PT X e t:=h _
def PA(X:Cx)(es:List Expr)(t:TA):Prop:=
 ∀(pos:Pos)(pins:List (Addr×Obj))(s:Shared)(σ:St)(H:Hp)(Q:List V->Hp->Prop),Inv X pins σ H s->t σ H Q->wpAny (model X.prog X.w) X.A (spliced (backTo pos (ii es X.env))) (AP X pins σ Q) X.xe s
def PS(X:Cx)(st:Stmt)(t:TS):Prop:=
 ∀(pins:List (Addr×Obj))(s:Shared)(σ:St)(H:Hp)(D:Ends),Inv X pins σ H s->t D σ H->wpAny (model X.prog X.w) X.A (exec st X.env) (SP X pins D) X.xe s
def PSs(X:Cx)(st:List Stmt)(t:TS):Prop:=
 ∀(pins:List (Addr×Obj))(s:Shared)(σ:St)(H:Hp)(D:Ends),Inv X pins σ H s->t D σ H->wpAny (model X.prog X.w) X.A (execs st X.env) (SP X pins D) X.xe s
def thn{α:Type}{t:Sem α}{Q Q':α->Shared->Prop}(h:wpAny M A t Q E s)(hQ:∀a s,Q a s->Q' a s):wpAny M A t Q' E s:=iw h hQ λ_ _ x=>x
section
def tVar(i:Nat):TE:=fun σ H Q=>∃v,σ[i]?=bo (bo v)/\Q v H
def tC(v:V):TE:=λ_ H Q=>Q v H
def a7p(hN:X.N[i]?=bo x)(hv:Vis X.env.scope x)(hd:(x==("__debug__":Str))=lT:=by decide)(hcd:(x==("__classdict__":Str))=lT:=by decide):PE X (.Name x pos) (tVar i):=by
 ext b s σ H Q I h;let(v,e,h):=h;let(m,f,d):=I.loc;let(u,r,l):=d i x v hN e hv;let a:EP X b σ Q u s:=(v,H,I,r,h);let(hk,hm)||(hk,c,hc,hcell):=l
 .show kD (wpAny_loadName_local I.ok.kind hk f hm a) hd
 .let hk||hk:=hk
  .show kD (wpAny_loadName_cell I.ok.kind hk hc hcell a) hd
  .show kD (wpAny_loadName_free I.ok.kind hk hc hcell a hcd) hd
def b39:PE X (.Constant (.int i) j pos) (tC (.int i)):=λ_ _ _ H _ I h=>wpAny_Constant_int (.int i,H,I.tok _,(_,rfl),h)
def b6V:PE X (.Constant (.bool b) j pos) (tC (.bl b)):=λ_ _ _ H _ I h=>Constant_bool (.bl b,H,I,rfl,h)
def b4a:PE X (.Constant .none j pos) (tC .non):=λ_ _ _ H _ I h=>Constant_none (.non,H,I,rfl,h)
def b4b:PE X (.Constant (.str x) j pos) (tC (.str x)):=λ_ _ _ H _ I h=>Calls.Constant_str (.str x,H,I.tok _,(_,rfl),h)
def Gl(X:Cx)(x:Str):Prop:=X.env.kindOf x=bo .globalImplicit
def a2M(I:Inv X pins σ H s)(hg:Gl X x)(hm:X.mg x=bo u)(h:Q u s)
  (hd:(x==("__debug__":Str))=lT:=by decide):wpAny (model X.prog X.w) X.A (eval (.Name x pos) X.env) Q E s:=
 Calls.Name_function_global I.ok.kind hg (Calls.loadGlobal_global (I.ok.glob▸I.mod.glob.keeps I.bk) hm h) hd
def a2N(I:Inv X pins σ H s)(hg:Gl X x)(hm:X.mg x=lR)(hv:iH x=bo u)(h:Q u s)
  (hn:x≠"__name__":=by decide) (hd:(x==("__debug__":Str))=lT:=by decide):wpAny (model X.prog X.w) X.A (eval (.Name x pos) X.env) Q E s:=by
 let(c,b,a):=I.mod.blt;show Calls.Name_function_global I.ok.kind hg (Calls.loadGlobal_builtin (I.ok.glob▸I.mod.glob.keeps I.bk) hm (I.ok.blt▸b.keeps I.bk) ((a x hn).trans hv) h) hd
def b2f(hg:Gl X x)(hm:X.mg x=bo u)(r:RelV v u)(hd:(x==("__debug__":Str))=lT):PE X (.Name x pos) (tC v):=
 λ_ _ _ H _ I h=>a2M I hg hm (v,H,I,r,h) hd
def a1J(hg:Gl X x)(hm:X.mg x=lR)(hv:iH x=bo u)(r:RelV v u)(hn:x≠"__name__":=by decide)(hd:(x==("__debug__":Str))=lT:=by decide):PE X (.Name x pos) (tC v):=
 λ_ _ _ H _ I h=>a2N I hg hm hv (v,H,I,r,h) hn hd
variable{a b:Expr}{ta tb:TE}
def PC(X:Cx)(op:CmpOp)(a b:Expr)(t:TE):Prop:=
 ∀(pins:List (Addr×Obj))(s:Shared)(σ:St)(H:Hp)(Q:VK),Inv X pins σ H s->t σ H Q ->
  wpAny (model X.prog X.w) X.A (eval a X.env) (λv sv=>wpAny (model X.prog X.w) X.A (eval b X.env) (λu sw=>wpAny (model X.prog X.w) X.A (io op v u) (EP X pins σ Q) X.xe sw) X.xe sv) X.xe s
noncomputable def tB(t:TE):TT:=fun σ H Q=>t σ H λx H1=>∃c,x=.bl c/\Q c H1
def b4c(h:PE X e t)(he:∀whole,isTrue e X.env whole=(do let v <- whole;jt e.pos;iM [v] (truthy v)):=by ext _;rfl):PT X e (tB t):=by
 ext a s σ H Q I f;show isTrue_plain (thn (h a s σ H _ I f) λv j (x,b,i,g,c)=>?_) (he _);let(d,rfl,q):=c;cases g;show ja (b,i,q)
variable{tA tB':TT}{rest:List Expr}
def tAnd(t u:TT):TT:=fun σ H Q=>t σ H λc H1=>if c=lS then u σ H1 Q else Q lT H1
def tOr(t u:TT):TT:=fun σ H Q=>t σ H λc H1=>if c=lS then Q lS H1 else u σ H1 Q
def tNot(t:TT):TT:=fun σ H Q=>t σ H λc H1=>Q (!c) H1
def b2g(ha:PT X a tA):PW X (.BoolOp .And [a] pos) tA:=by
 ext f b s σ H Q I h;show isTrue_and (thn (ha b s σ H Q I h) λc d e=>?_);cases c with
 |true=>show isTrue_and_nil e
 |false=>show e
def b4d(ha:PT X a tA):PW X (.BoolOp .Or [a] pos) tA:=by
 ext f b s σ H Q I h;show isTrue_or (thn (ha b s σ H Q I h) λc d e=>?_);cases c with
 |false=>show isTrue_or_nil e
 |true=>show e
def b4e(ha:PT X a tA)(hb:PW X (.BoolOp .And (b::rest) pos) tB'):PW X (.BoolOp .And (a::b::rest) pos) (tAnd tA tB'):=by
 ext j d s σ H Q I h;show isTrue_and (thn (ha d s σ H _ I h) λc i Y=>Y.elim λe Y=>Y.elim λg f=>?_);cases c with
 |true=>show hb j d i σ e Q g f
 |false=>show(e,g,f)
def b6W(ha:PT X a tA)(hb:PW X (.BoolOp .Or (b::rest) pos) tB'):PW X (.BoolOp .Or (a::b::rest) pos) (tOr tA tB'):=by
 ext j d s σ H Q I h;show isTrue_or (thn (ha d s σ H _ I h) λc i Y=>Y.elim λg Y=>Y.elim λe f=>?_);cases c with
 |true=>show(g,e,f)
 |false=>show hb j d i σ g Q e f
def b4f(ha:PT X a tA):PT X (.UnaryOp .Not a pos) (tNot tA):=λb s σ H Q I h=>isTrue_not (ha b s σ H _ I h)
def b6X(ta tb:TE):TE:=fun σ H Q=>ta σ H λx H1=>∃c,x=.bl c/\if c=lS then tb σ H1 Q else Q (.bl lT) H1
def tOrV(ta tb:TE):TE:=fun σ H Q=>ta σ H λx H1=>∃c,x=.bl c/\if c=lS then Q (.bl lS) H1 else tb σ H1 Q
def b6Y(ta:TE):TE:=fun σ H Q=>ta σ H λx H1=>∃c,x=.bl c/\Q (.bl (!c)) H1
def b4g(h:PE X a t):PE X (.BoolOp op [a] pos) t:=λb s σ H Q I c=>BoolOp_one (h b s σ H Q I c)
def b4h(ha:PE X a ta)(hb:PE X (.BoolOp .And (b::rest) pos) tb):PE X (.BoolOp .And (a::b::rest) pos) (b6X ta tb):=by
 ext d s σ H Q I h;show BoolOp_and (thn (ha d s σ H _ I h) λv j (x,f,g,i,e)=>?_);let(c,rfl,e):=e;cases i;show ja ?_;cases c with
 |true=>show hb d j σ f Q g e
 |false=>show(.bl lT,f,g,rfl,e)
def b6Z(ha:PE X a ta)(hb:PE X (.BoolOp .Or (b::rest) pos) tb):PE X (.BoolOp .Or (a::b::rest) pos) (tOrV ta tb):=by
 ext d s σ H Q I h;show BoolOp_or (thn (ha d s σ H _ I h) λv i (x,g,f,j,e)=>?_);let(c,rfl,e):=e;cases j;show ja ?_;cases c with
 |false=>show hb d i σ g Q f e
 |true=>show(.bl lS,g,f,rfl,e)
def b4i(ha:PE X a ta):PE X (.UnaryOp .Not a pos) (b6Y ta):=by
 ext b s σ H Q I h;show UnaryOp_ (thn (ha b s σ H _ I h) λv i (x,g,f,e,d)=>?_);let(c,rfl,d):=d;cases e;show not_of (ja (.bl (!c),g,f,rfl,d))
def tIf(t:TT)(ta tb:TE):TE:=fun σ H Q=>t σ H λc H1=>if c=lS then ta σ H1 Q else tb σ H1 Q
def a9J(hc:PT X c tA)(ha:PE X a ta)(hb:PE X b tb):PE X (.IfExp c a b pos) (tIf tA ta tb):=by
 ext e s σ H Q I h;show wpAny_IfExp (thn (hc e s σ H _ I h) λd j Y=>Y.elim λi Y=>Y.elim λf g=>?_);cases d with
 |true=>show ha e j σ i Q f g
 |false=>show hb e j σ i Q f g
end
def SqL(K:Fg)(H:Hp)(a:Addr)(xs:List V):Prop:=
 Rd H a (.lst xs) \/
  ∃(o:Obj)(its:Array Value)(n:Nat),K.lookup a=bo o/\o.cls=.type "list"/\o.dict=lR/\o.data=.seq its n/\its.size<=ie/\Vals xs its.toList
def SqT(K:Fg)(H:Hp)(a:Addr)(xs:List V):Prop:=
 Rd H a (.tup xs) \/
  ∃(o:Obj)(its:Array Value)(n:Nat),K.lookup a=bo o/\o.cls=.type "tuple"/\o.data=.seq its n/\its.size<=ie/\Vals xs its.toList
noncomputable def absV:Value->Option V
 |.none=>bo .non
 |.bool b=>bo (.bl b)
 |.int i _=>bo (.int i)
 |.str x _=>bo (.str x)
 |.bytes b _=>bo (.byt b)
 |.float b _=>bo (.flt b)
 |.ref a=>bo (.ref a)
 |.type n=>bo (.ty n)
 |_=>lR
def RelV.abs(r:RelV x u):absV u=bo x:=by
 cases x with
 |non=>cases r;rfl
 |bl _=>cases r;rfl
 |int _=>let(t,rfl):=r;rfl
 |str _=>let(t,rfl):=r;rfl
 |byt _=>let(t,rfl):=r;rfl
 |flt _=>let(t,rfl):=r;rfl
 |ref _=>cases r;rfl
 |ty _=>cases r;rfl
def RelV.inj(r:RelV x u)(q:RelV y u):x=y:=bo.inj (r.abs.symm.trans q.abs)
def Vals.inj:∀{xs ys:List V}{us:List Value},Vals xs us->Vals ys us->xs=ys:=by
 ext xs ys us h
 induction h generalizing ys with
 |nil=>ext k;cases k;rfl
 |cons r t ih=>
  ext k;cases k with
  |cons r' t'=>rw[r.inj r',ih t']
section
variable{σ:St}{a:Addr}{xs ys:List V}
def SqL.of{K:Fg}(h:H a=bo (.lst xs)):SqL K H a xs:=.inl (.inl h)
def SqT.of{K:Fg}(h:H a=bo (.tup xs)):SqT K H a xs:=.inl (.inl h)
def Inv.list(I:Inv X pins σ H s)(h:SqL X.K H a xs):∃its:List Value,Vals xs its/\PlainL s.heap a its.toArray/\xs.length<=sizeLine:=by
 let h||(o,b,n,hk,hc,hd,hs,hz,r):=h
 .let(z,b,n,r,e):=h.ok I.hok;show(b,r,(_,n,e,rfl,rfl,rfl),z)
 .show(b.toList,r,(o,n,I.kIn a o hk,hc,hd,↑hs),?_);let e:=r.length;simp at e
  lia
def Inv.tuple(I:Inv X pins σ H s)(h:SqT X.K H a xs):∃its:List Value,Vals xs its/\IsTup s.heap a its.toArray/\xs.length<=sizeLine:=by
 let h||(o,b,n,hk,hc,hs,hz,r):=h
 .let(z,b,r,p):=h.ok I.hok;show(b,r,p,z)
 .show(b.toList,r,(o,I.kIn a o hk,hc,n,↑hs),?_);let e:=r.length;simp at e
  lia
def Inv.list_inj(I:Inv X pins σ H s)(h:SqL X.K H a xs)(h':SqL X.K H a ys):xs=ys:=by
 let(f,r,(o,n,e,_,_,d),_):=I.list h;let(b,i,(j,k,c,_,_,g),_):=I.list h'
 let:f=b:=by grind
 subst this;show r.inj i
def Inv.tuple_inj(I:Inv X pins σ H s)(h:SqT X.K H a xs)(h':SqT X.K H a ys):xs=ys:=by
 let(f,r,(o,e,_,n,d),_):=I.tuple h;let(b,i,(j,c,_,k,g),_):=I.tuple h'
 let:f=b:=by grind
 subst this;show r.inj i
end
abbrev Cx.wish(X:Cx)(E:Value->Shared->Prop):Cx:={ X with xe:=E }
abbrev Cx.nox(X:Cx):Cx:=X.wish λ_ _=>False
noncomputable def Cx.Ok.wish{X:Cx}(ok:X.Ok)(E:Value->Shared->Prop):(X.wish E).Ok:=
 (ok.mod,ok.kind,ok.glob,ok.blt,ok.above,ok.inj,ok.has,ok.cab,ok.hd,ok.frames,ok.stk,ok.exf,ok.bs,ok.bsz,ok.noex,ok.exfs,ok.funs,ok.frf)
def Cx.Ok.unwish{X:Cx}(ok:(X.wish E).Ok):X.Ok:=
 (ok.mod,ok.kind,ok.glob,ok.blt,ok.above,ok.inj,ok.has,ok.cab,ok.hd,ok.frames,ok.stk,ok.exf,ok.bs,ok.bsz,ok.noex,ok.exfs,ok.funs,ok.frf)
section
variable{σ:St}
noncomputable def Inv.wish(I:Inv X pins σ H s)(E:Value->Shared->Prop):Inv (X.wish E) pins σ H s:=(I.ok.wish E,I.os,I.bare,I.base,I.loc,I.cell,I.free,I.freeC,I.pin,I.hok,I.len)
def Inv.unwish(I:Inv (X.wish E) pins σ H s):Inv X pins σ H s:=(I.ok.unwish,I.os,I.bare,I.base,I.loc,I.cell,I.free,I.freeC,I.pin,I.hok,I.len)
def SP.unwish(h:SP (X.wish E) pins D f s'):SP X pins D f s':=by
 cases f with
 |next=>let(σ',H',I,q):=h;show(σ',H',I.unwish,q)
 |brk=>let(σ',H',I,q):=h;show(σ',H',I.unwish,q)
 |cont=>let(σ',H',I,q):=h;show(σ',H',I.unwish,q)
 |ret u=>let(v,σ',H',I,r,q):=h;show(v,σ',H',I.unwish,r,q)
noncomputable def PE.nox(h:PE X.nox e t):PE X e t:=λa s σ H Q I d=>
 iw (h a s σ H Q (I.wish _) d) (by ext _ _ ⟨v,b,c,r,q⟩;show(v,b,c.unwish,r,q)) λ_ _ z=>aX z
noncomputable def PT.nox(h:PT X.nox e t):PT X e t:=λa s σ H Q I d=>
 iw (h a s σ H Q (I.wish _) d) (by ext _ _ ⟨c,b,q⟩;show(c,b.unwish,q)) λ_ _ z=>aX z
noncomputable def PSs.nox{st:List Stmt}(h:PSs X.nox st t):PSs X st t:=λa s σ H D I b=>
 iw (h a s σ H D (I.wish _) b) (λ_ _ q=>q.unwish) λ_ _ z=>aX z
end
section
variable{st:Stmt}{rest:List Stmt}{t u:TS}{e:Expr}{te:TE}
def b4j:TS:=λD σ H=>D.nx σ H
def tSeq(t u:TS):TS:=λD σ H=>t { D with nx:=u D } σ H
def b2h:PSs X [] b4j:=λ_ _ σ H _ I h=>ju (σ,H,I,h)
def a5Q(h1:PS X st t)(h2:PSs X rest u):PSs X (st::rest) (tSeq t u):=by
 ext a s σ H D I h;show kE (thn (h1 a s σ H { D with nx:=u D } I h) λf b q=>?_);cases f with
 |next=>
  let(σ',H',I',q):=q;show h2 a b σ' H' D I' q
 |ret v=>show q
 |brk=>show q
 |cont=>show q
def b2i(h1:PS X st t):PSs X [st] t:=by
 ext a s σ H D I h;show kE (thn (h1 a s σ H D I h) λf b q=>?_);cases f with
 |next=>show ju q
 |ret v=>show q
 |brk=>show q
 |cont=>show q
def b4k:TS:=λD σ H=>D.bk σ H
def b60:TS:=λD σ H=>D.ct σ H
def b2j:PS X (.Pass pos) b4j:=λ_ _ σ H _ I h=>wpAny_Pass (σ,H,I,h)
def a9K:PS X (.Break pos) b4k:=λ_ _ σ H _ I h=>wpAny_Break (σ,H,I,h)
def a5a:PS X (.Continue pos) b60:=λ_ _ σ H _ I h=>wpAny_Continue (σ,H,I,h)
def Inv.quiet(I:Inv X pins σ H s):interactive X.env=lT:=by simp[interactive,I.ok.kind]
def b61(te:TE):TS:=λD σ H=>te σ H λ_ H1=>D.nx σ H1
def b2k(he:PE X e te)(hs:iY e lR pos.line X.env=pure lT):PS X (.Expr e pos) (b61 te):=λa s σ H D I h=>wpAny_Expr_any (thn (he a s σ H _ I h) λv f (x,d,c,g,b)=>(σ,d,c,b)) I.quiet hs
def tRet(te:TE):TS:=λD σ H=>te σ H D.rt
def b4l(he:PE X e te):PS X (.Return (bo e) pos) (tRet te):=λa s σ H D I h=>wpAny_Return_some (thn (he a s σ H _ I h) λv g (x,c,b,f,d)=>(x,σ,c,b,f,d))
def b62:TS:=λD _ H=>D.rt .non H
def b2l:PS X (.Return lR pos) b62:=λ_ _ σ H _ I h=>wpAny_Return_none (.non,σ,H,I,rfl,h)
def tIfS(c:TT)(t u:TS):TS:=λD σ H=>c σ H λb H1=>if b=lS then t D σ H1 else u D σ H1
def b63(hc:PT X c tc)(ha:PSs X a t)(hb:PSs X b u):PS X (.If c a b pos) (tIfS tc t u):=by
 ext e s σ H D I h;show wpAny_If (thn (hc e s σ H _ I h) λd f Y=>Y.elim λg Y=>Y.elim λi j=>?_);cases d with
 |true=>show ha e f σ g D i j
 |false=>show hb e f σ g D i j
end
abbrev TG:=V->St->Hp->(St->Hp->Prop)->Prop
abbrev TGs:=List V->St->Hp->(St->Hp->Prop)->Prop
def PG(X:Cx)(target:Expr)(t:TG):Prop:=
 ∀(pins:List (Addr×Obj))(s:Shared)(σ:St)(H:Hp)(v:V)(u:Value)(Q:St->Hp->Prop),Inv X pins σ H s->RelV v u->t v σ H Q ->
  wpAny (model X.prog X.w) X.A (assign target X.env u) (λ_ s'=>∃σ' H',Inv X pins σ' H' s'/\Q σ' H') X.xe s
def PGs(X:Cx)(ts:List Expr)(t:TGs):Prop:=
 ∀(pins:List (Addr×Obj))(s:Shared)(σ:St)(H:Hp)(vs:List V)(us:List Value)(Q:St->Hp->Prop),Inv X pins σ H s->Vals vs us->t vs σ H Q ->
  wpAny (model X.prog X.w) X.A (assignInOrder ((iZ ts X.env).map (·.2)) us) (λ_ s'=>∃σ' H',Inv X pins σ' H' s'/\Q σ' H') X.xe s
abbrev TSet:=V->V->V->Hp->(Hp->Prop)->Prop
def PSet(X:Cx)(t:TSet):Prop:=
 ∀(pins:List (Addr×Obj))(s:Shared)(σ:St)(H:Hp)(o i v:V)(ov iv u:Value)(Q:Hp->Prop),Inv X pins σ H s->RelV o ov->RelV i iv->RelV v u->t o i v H Q ->
  wpAny (model X.prog X.w) X.A (jX ov iv u) (λ_ s'=>∃H',Inv X pins σ H' s'/\Q H') X.xe s
abbrev TIp:=V->V->Hp->VK->Prop
def PIp(X:Cx)(op:Operator)(t:TIp):Prop:=
 ∀(pins:List (Addr×Obj))(s:Shared)(σ:St)(H:Hp)(x y:V)(v u:Value)(Q:VK),Inv X pins σ H s->RelV x v->RelV y u->t x y H Q ->
  wpAny (model X.prog X.w) X.A (jg op v u) (EP X pins σ Q) X.xe s
def a7q(i:Nat):TG:=λv σ H Q=>Q (σ.set i (bo v)) H
def a7r(hN:X.N.Nodup)(hi:X.N[i]?=bo x)(hx:Loc X.env.scope x)(hf:X.fn x=lS\/X.env.scope.names.lookup x=bo .local):PG X (.Name x pos) (a7q i):=λb s σ H v u Q I r h=>wpAny_assign_Name (a2G I hN hi hx r (λc a=>(_,H,a,h)) hf)
def gNil:TGs:=λvs σ H Q=>vs=[]/\Q σ H
def b4m(t:TG)(u:TGs):TGs:=λvs σ H Q=>∃v r,vs=v::r/\t v σ H fun σ' H'=>u r σ' H' Q
def b2m:PGs X [] gNil:=by
 ext a s σ H b c Q I r h;let(e,h):=h;subst e;show assignInOrder_nil (σ,H,I,h)
def a9L(h1:PG X e t)(h2:PGs X es u)
  (hs:(iZ (e::es) X.env).map (·.2)=assign e X.env::(iZ es X.env).map (·.2):=by rfl):PGs X (e::es) (b4m t u):=by
 ext a s σ H k i Q I r h;let(v,j,g,h):=h;subst g;cases r with
 |cons r rr=>
  rw[hs];show assignInOrder_cons (thn (h1 a s σ H _ _ _ I r h) λ_ f (σ1,d,b,c)=>(h2 a f σ1 d _ _ Q b rr c))
def gTup(K:Fg)(n:Nat)(t:TGs):TG:=λv σ H Q=>∃a xs,v=.ref a/\SqT K H a xs/\xs.length=n/\t xs σ H Q
def b4n(hc:X.calm=lS)(h:PGs X es t)
  (hn:(iZ es X.env).length=n) (hst:(iZ es X.env).findIdx? (·.1)=lR):PG X (.Tuple es k pos) (gTup X.K n t):=by
 ext c s σ H v u Q I r d;let(a,i,q,m,l,d):=d;subst q;cases r;let(x,f,p,y):=I.tuple m;show assign_Tuple_tuple (I.ok.hd hc) p (by simp[hn,<- l,f.length]) hst λw j=>(h c _ σ H i _ Q (I.kept (t':=s.toks) λb o e=>j b o (aY (Heap.lt_size e)) e) (by cbv) d)
def gSub(to ti:TE)(t:TSet):TG:=λv σ H Q=>to σ H λo H1=>ti σ H1 λi H2=>t o i v H2 λH3=>Q σ H3
def b4o(ho:PE X o to)(hi:PE X i ti)(hs:PSet X t)
  (ha:∀v,assign (.Subscript o i pos) X.env v=(do
   let ov <- iM [v] (eval o X.env)
   let iv <- iM [v,ov] (eval i X.env)
   jt pos
   iM [v,ov,iv] (jX ov iv v)
   release [v,ov,iv] []):=by ext _;rfl):PG X (.Subscript o i pos) (gSub to ti t):=by
 ext a s σ H v u Q I r h;rw[ha];show hZ (iB (thn (ho a s σ H _ I h) λl n (x,c,e,g,p)=>(hZ (iB (thn (hi a n σ c _ e p) λm q (y,f,w,b,k)=>(hZ (kF (hZ (iB (thn (hs a q σ f x y v l m u _ w g b r k) λ_ A Y=>Y.elim λj Y=>Y.elim λz d=>(wpAny_release (σ,j,z,d))))))))))))
def tAsg(te:TE)(g:TG):TS:=λD σ H=>te σ H λx H1=>g x σ H1 D.nx
def b1z(he:PE X e te)(hg:PG X tg g)(hs:kH [tg] e pos.line X.env=pure lT)(hw:kI [tg] e X.env=pure lR)
  (h1:(iZ [tg] X.env).map (·.2)=[assign tg X.env]):PS X (.Assign [tg] e pos) (tAsg te g):=by
 ext a s σ H D I h;show wpAny_Assign_stores (thn (he a s σ H _ I h) λv c (x,d,b,i,f)=>?_) hs hw;rw[h1];show thn (hg a c σ d x v _ b i f) λ_ j q=>q
def b4p(hN:X.N.Nodup)(hi:X.N[i]?=bo x)(hx:Loc X.env.scope x)(he:PE X e te)(hs:iY e (bo (.Name x pos')) pos.line X.env=pure lT)(hf:X.fn x=lS\/X.env.scope.names.lookup x=bo .local) :
  PS X (.Assign [.Name x pos'] e pos) (tAsg te (a7q i)):=by
 ext a s σ H D I h;show wpAny_Assign_Name (thn (he a s σ H _ I h) λv j (y,f,d,c,g)=>?_) hs;show a2G d hN hi hx c (λk b=>(_,f,b,g)) hf
def tAug(i:Nat)(te:TE)(ti:TIp):TS:=λD σ H=>∃x,σ[i]?=bo (bo x)/\te σ H λy H1=>ti x y H1 λz H2=>D.nx (σ.set i (bo z)) H2
def b4q(hN:X.N.Nodup)(hi:X.N[i]?=bo x)(hx:Loc X.env.scope x)(he:PE X e te)(ho:PIp X op ti)(hf:X.fn x=lS\/X.env.scope.names.lookup x=bo .local) :
  PS X (.AugAssign (.Name x pos') op e pos) (tAug i te ti):=by
 ext a s σ H D I h;let(v,f,h):=h;let(m,g,j):=I.loc;let b:Vis X.env.scope x:=by let k||k:=hx;show .inl k;show .inr (.inl k)
 let(u,r,l):=j i x v hi f b;show wpAny_AugAssign_Name ?_;let d:wpAny (model X.prog X.w) X.A (eval e X.env) (λw B=>wpAny (model X.prog X.w) X.A (jg op u w) (λr G=>wpAny (model X.prog X.w) X.A (kC X.env x r) (λ_=>SP X a D .next) X.xe G) X.xe B) X.xe s:=by
  show thn (he a s σ H _ I h) λw C (y,n,p,F,t)=>(thn (ho a C σ n v y u w _ p r F t) λz Q (M,E,o,L,J)=>(a2G o hN hi hx L (λR q=>(_,E,q,J)) hf))
 let(hk,hm)||(hk,c,hc,hcell):=l
 .show wpAny_loadName_local I.ok.kind hk g hm d
 .let hk||hk:=hk
  .show wpAny_loadName_cell I.ok.kind hk hc hcell d
  .let k||k:=hx
   .let:X.env.scope.names.lookup x=bo .free:=hk
    rw[k]at this;cases this
   .let:X.env.scope.names.lookup x=bo .free:=hk
    rw[k]at this;cases this
def b4r(c:TT)(tb:TS):TS:=λD σ H=>∃W:Nat->St->Hp->Prop,(∃m,W m σ H)/\∀m σ H,W m σ H ->
 c σ H λb H1=>if b=lS then ∃N:St->Hp->Prop,(∀σ' H',N σ' H'->∃m',m'<m/\W m' σ' H')/\tb { D with nx:=N,ct:=N,bk:=D.nx } σ H1 else D.nx σ H1
def a9M(hp:iz (model X.prog X.w) X.A X.env X.xe)(hc:PT X c tc)(hb:PSs X body tb):PS X (.While c body [] pos) (b4r tc tb):=by
 ext a s σ H D I h;let(W,(z,y),g):=h;show wpAny_While (codeAny_whileLoop (λn t=>Ex2 fun σ' H'=> Inv X a σ' H' t/\W n σ' H') ?_ z (σ,H,I,y));ext n x ⟨σ1,q,r,u⟩;show jh hp (thn (hc a x σ1 q _ r (g n σ1 q u)) λb B Y=>Y.elim λo Y=>Y.elim λm e=>?_);cases b with
 |true=>
  let(N,p,e):=e;show jh hp (thn (hb a B σ1 o _ m e) λf C d=>?_);cases f with
  |next=>
   let(σ3,H3,I3,k):=d;let(j,l,i):=p σ3 H3 k;show(j,l,σ3,H3,I3,i)
  |cont=>
   let(σ3,H3,I3,k):=d;let(j,l,i):=p σ3 H3 k;show(j,l,σ3,H3,I3,i)
  |brk=>show d
  |ret v=>show d
 |false=>
  show ju (σ1,o,m,e)
structure It where
 go:Nat->Hp->Prop
 yld:Nat->Hp->V->Hp->Prop
 stop:Nat->Hp->Prop
def FpOk(X:Cx)(pins:List (Addr×Obj))(H:Hp)(b:Addr):Prop:=
 H b=lR/\b≠X.env.locals/\b∉X.fs/\(b∈X.ex\/X.s₀.heap.objs.size<=b)/\(∀x c,X.env.cells.lookup x=bo c->c≠b)/\∀p∈X.pn++pins,p.1≠b
def Inv.fpOk(I:Inv X pins σ H s)(hb:s.heap.objs.size<=b)(hn:H' b=lR):FpOk X pins H' b:=by
 show(hn,bZ (bA I.lt hb),I.nofs hb,.inr (bj I.sz hb),λx c e z=>?_,λp a z=>(absurd (bA (Heap.lt_size (I.pin p a).1) (by simp_all)) (cz _)))
 .let(v,q):=I.cell x c e;show absurd (bA q.lt (by simp_all)) (cz _)
structure Turn (P:ik) (w:World) (K:Fg) (tg:Expr) (J:It) (fp:List Addr) (it:Addr) (tn:Nat->Heap->Prop):Prop where
 mem:it∈fp
 obj:∀i h,tn i h->∀b∈fp,∃o,h.get? b=bo o/\∀v,o.data≠.cell v
 keep:∀i h h',tn i h->(∀b∈fp,∀o,h.get? b=bo o->h'.get? b=bo o)->tn i h'
 item:∀(X:Cx),X.prog=P->X.w=w->X.K=K->X.calm=lS->∀(i:Nat)(pins:List (Addr×Obj))(s:Shared)(σ:St)(H:Hp)(E:Value->Shared->Prop),Inv X pins σ H s->(∀b∈fp,FpOk X pins H b)->tn i s.heap->J.go i H ->
  wpAny (model P w) X.A (pyNext (.ref it)) (λr s1=>∃u,r=bo u /\
   wpAny (model P w) X.A (kJ tg (.ref it) u) (λ_ s2=>∃x H',Inv X pins σ H' s2/\RelV x u/\J.yld i H x H'/\tn (i+1) s2.heap/\∀b∈fp,H' b=lR) E s1) E s
 done:∀(X:Cx),X.prog=P->X.w=w->X.K=K->X.calm=lS->∀(i:Nat)(pins:List (Addr×Obj))(s:Shared)(σ:St)(H:Hp)(E:Value->Shared->Prop),Inv X pins σ H s->(∀b∈fp,FpOk X pins H b)->tn i s.heap->J.stop i H ->
  wpAny (model P w) X.A (pyNext (.ref it)) (λr s1=>r=lR/\Inv X pins σ H s1) E s
 self:∀(A:Around)(i:Nat)(s:Shared)(Q:Value->Shared->Prop)(E:Value->Shared->Prop),tn i s.heap->Q (.ref it) s->wpAny (model P w) A (pyIter (.ref it)) Q E s
abbrev TI:=St->Hp->(It->Hp->Prop)->Prop
def PIE(X:Cx)(pins:List (Addr×Obj))(σ:St)(tg:Expr)(R:It->Hp->Prop)(itv:Value)(s2:Shared):Prop:=
 ∃(it:Addr)(fp:List Addr)(tn:Nat->Heap->Prop)(J:It)(H':Hp),itv=.ref it/\Inv X pins σ H' s2/\Turn X.prog X.w X.K tg J fp it tn/\tn 0 s2.heap/\(∀b∈fp,FpOk X pins H' b)/\R J H'
def PI(X:Cx)(tg iter:Expr)(wi:TI):Prop:=
 ∀(pins:List (Addr×Obj))(s:Shared)(σ:St)(H:Hp)(R:It->Hp->Prop),Inv X pins σ H s->wi σ H R ->
  wpAny (model X.prog X.w) X.A (eval iter X.env) (λv s1=>wpAny (model X.prog X.w) X.A (pyIter v) (PIE X pins σ tg R) X.xe s1) X.xe s
def a9N(ho:s.heap.get? it=bo o)(hc:o.cls=.type n)(hd:o.data=.fields vs)
    (hn:["enumerate","zip","dict_itemiterator","dict_reverseitemiterator","odict_iterator","itertools.zip_longest","itertools.pairwise"].contains n=lT) (hQ:Q () s):wpAny M A (kJ tg (.ref it) u) Q E s:=by
  cases tg<;>first
    |show h9 hQ
    | (cases u<;>first
        |show h9 hQ
        | (show hZ (jG ho ?_)
           rw[hc,hd]
           change wpAny M A (if _=lS then _ else _) Q E s
           rw[if_neg (by grind)];show h9 hQ))
noncomputable def Itl(K:Fg)(a:Addr):It:=
 (λi H=>∃xs x,SqL K H a xs/\xs[i]?=bo x,λi H x H'=>H'=H/\∀xs,SqL K H a xs->xs[i]?=bo x,λi H=>∃xs,SqL K H a xs/\xs.length<=i)
noncomputable def Itr(lo:Int)(n:Nat):It:=(λi _=>i<n,λi H x H'=>H'=H/\x=.int (lo+i),λi _=>n<=i)
theorem a7s{P:ik}{w:World}{K:Fg}{tg:Expr}(a it:Addr):Turn P w K tg (Itl K a) [it] it (λi h=>h.IsListIter it a i) where
 mem:=by simp
 obj:=λi h st b hb=>by
  let e:b=it:=↑hb
  subst e;let(o,e,c,d):=st;show(o,e,λv z=>by rw[d]at z;cases z)
 keep:=λi h h' st k=>st.at λo e=>k it (by simp) o e
 item:=by
  ext X hP hw hK hc i pins s σ H E I hf st hg;subst hP hw hK;let(xs,x,hq,hx):=hg;let(its,rv,p,hz):=I.list hq;let(u,hu,ru):=rv.get hx;let(f0,f1,f2,f3,f4,f5):=hf it (by simp);show wpAny_pyNext_list_item st p.isList (x:=u) ↑hu λh' st' sb=>?_;let I1:Inv X pins σ H { s with heap:=h' }:=I.turned (t':=s.toks) (λb o hb e=>(sb.2 b hb).trans e) f0 f1 f3 f4 f5;let(o,e,c,d):=id st';show(u,rfl,a9N (s:={ s with heap:=h' }) e c d (by decide) (x,H,I1,ru,(rfl,λys hy=>by rw[I.list_inj hy hq];show hx),st',λb hb=>(hf b hb).1))
 done:=by
  ext X hP hw hK hc i pins s σ H E I hf st hg;subst hP hw hK;let(xs,hq,hx):=hg;let(its,rv,p,hz):=I.list hq;let(f0,f1,f2,f3,f4,f5):=hf it (by simp);let hl:=rv.length;show wpAny_pyNext_list_end (I.ok.hd hc) st p.isList (by simp;cbv) λh' eb=>(rfl,I.turned (t':=s.toks) (λb o hb e=>eb b o hb e) f0 f1 f3 f4 f5)
 self:=λ_ _ _ _ _ st h=>wpAny_pyIter_listiter st h
theorem a6J{P:ik}{w:World}{K:Fg}{tg:Expr}(it:Addr)(lo:Int)(n:Nat):Turn P w K tg (Itr lo n) [it] it (λi h=>IsRangeIter h it (lo+(i:Nat)*1) ((n:Int)-(i:Nat)) 1) where
 mem:=by simp
 obj:=λi h st b hb=>by
  let e:b=it:=↑hb
  subst e;show(_,st,λv z=>by
   let z':Data.fields _=Data.cell v:=z;cases z')
 keep:=λi h h' st k=>k it (by simp) _ st
 item:=by
  ext X hP hw hK hc i pins s σ H E I hf st hg;subst hP hw hK;let(f0,f1,f2,f3,f4,f5):=hf it (by simp);let W:=Walks.range (prog:=X.prog) (w:=X.w) (I.ok.hd hc) it lo 1 n;show W.item i s _ _ hg st λv h' tk hv st' kk=>?_;let(t,rfl):=hv;let I1:Inv X pins σ H { s with heap:=h',toks:=tk }:=I.turned (λb o hb e=>kk b o ↑hb e) f0 f1 f3 f4 f5;show(_,rfl,a9N (s:={ s with heap:=h',toks:=tk }) (n:="range_iterator") st' rfl rfl (by decide) (.int (lo+i),H,I1,(t,?_),(rfl,rfl),st',λb hb=>(hf b hb).1));rw[Int.mul_one]
 done:=by
  ext X hP hw hK hc i pins s σ H E I hf st hg;subst hP hw hK;let(f0,f1,f2,f3,f4,f5):=hf it (by simp);show wpAny_pyNext_range_end (I.ok.hd hc) st (by let:n<=i:=hg;cbv) λh' eb=>(rfl,I.turned (t':=s.toks) (λb o hb e=>eb b o hb e) f0 f1 f3 f4 f5)
 self:=λ_ _ _ _ _ st h=>wpAny_pyIter_rangeiter st h
section
variable{tg:Expr}
def b64(K:Fg)(tl:TE):TI:=fun σ H R=>tl σ H λx H1=>∃a,x=.ref a/\(∃xs,SqL K H1 a xs)/\R (Itl K a) H1
def b2n(hl:PE X l tl):PI X tg l (b64 X.K tl):=by
 ext f s σ H R I h;show thn (hl f s σ H _ I h) λv d (x,m,c,g,i)=>?_;let(a,e,(r,j),q):=i;subst e;cases g;let(n,u,p,t):=c.list j;show jY p.isList (d.heap.objs.size,[d.heap.objs.size],_,_,m,rfl,c.kept λb o e=>Heap.get?_push_of_some _ e,a7s a _,(_,Heap.get?_push_size _ rfl,rfl,rfl),λb k=>?_,q);let e:b=d.heap.objs.size:=by simp_all
 subst e;show c.fpOk (aQ _) (c.hok.fresh (aQ _))
def a9O{lo hi:Int}(I:Inv X pins σ H s)(h1:-(2 ^ 62)<=lo)(h2:lo<2 ^ 62)(h3:-(2 ^ 62)<=hi)(h4:hi<2 ^ 62)
  (q:R (Itr lo (hi-lo).toNat) H):wpAny (model X.prog X.w) X.A (pyIter (.ref s.heap.objs.size)) (PIE X pins σ tg R) E { s with heap:=s.heap.push { cls:=.type "range",data:=.fields #[.int lo t,.int hi u,.int 1 v] },toks:=tk }:=by
 show wpAny_pyIter_range (IsRange.new ..) (small_one h1 h2 h3 h4) ?_;let a:Inv X pins σ H { s with heap:=s.heap.push { cls:=.type "range",data:=.fields #[.int lo t,.int hi u,.int 1 v] },toks:=tk }:=I.kept λb o e=>Heap.get?_push_of_some _ e;show((s.heap.push { cls:=.type "range",data:=.fields #[.int lo t,.int hi u,.int 1 v] }).objs.size,[(s.heap.push { cls:=.type "range",data:=.fields #[.int lo t,.int hi u,.int 1 v] }).objs.size],_,_,H,rfl,
  a.kept λb o e=>Heap.get?_push_of_some _ e,a6J _ lo (hi-lo).toNat,?_,λb d=>?_,q)
 .let c:lo+((0:Nat))*1=lo:=by simp
  let f:(((hi-lo).toNat))-((0:Nat))=im.Range.rangeSize lo hi 1:=by rw[rangeSize_one];split<;>lia
  rw[c,f];show Heap.get?_push_size _ rfl
 .let e:b=(s.heap.push { cls:=.type "range",data:=.fields #[.int lo t,.int hi u,.int 1 v] }).objs.size:=↑d
  subst e;show a.fpOk (aQ _) (a.hok.fresh (aQ _))
def b4s(ta:TA):TI:=fun σ H R=>ta σ H λvs H1=>∃j:Int,vs=[.int j]/\-(2 ^ 62)<=j/\j<2 ^ 62/\R (Itr 0 j.toNat) H1
def a7t(hg:Gl X "range")(hm:X.mg "range"=lR)(ha:PA X [a] ta)(hs:ii [a] X.env=[(lT,eval a X.env,)]):PI X tg (.Call (.Name "range" p) [a] [] pos) (b4s ta):=by
 ext b s σ H R I h;show Call_ (a2N I hg hm boot_range (PyProof.Rows.callWith_type1 (thn (ha pos b s σ H _ I h) λl k (i,m,d,f,c)=>?_) hs rfl));let(j,e,c,g,q):=c;subst e;cases f with
 |cons r rr=>
  cases rr;let(t,rfl):=r;show call_range_1 (a9O d (by simp) (by simp) c g (by grind))
def tFor(wi:TI)(g:TG)(tb:TS):TS:=λD σ H=>wi σ H λJ H1=>∃W:Nat->Nat->St->Hp->Prop,(∃m,W 0 m σ H1)/\∀i m σ H,W i m σ H ->
 (J.stop i H/\D.nx σ H)\/(J.go i H/\∃N:St->Hp->Prop,(∀σ' H',N σ' H'->∃m',m'<m/\W (i+1) m' σ' H')/\∀x H',J.yld i H x H'->g x σ H' fun σ2 H2=>tb { D with nx:=N,ct:=N,bk:=D.nx } σ2 H2)
noncomputable def a5R(fp:List Addr)(h:Heap):List (Addr×Obj):=fp.filterMap λb=>(h.get? b).map λo=>(b,o,)
def a1z(hb:b∈fp)(e:h.get? b=bo o):(b,o,)∈a5R fp h:=cS.mpr (b,hb,by rw[e];rfl)
def a7u(hp:p∈a5R fp h):p.1∈fp/\h.get? p.1=bo p.2:=by
 let(b,a,e):=cS.mp hp;cases q:h.get? b with
 |none=>rw[q]at e;cases e
 |some o=>
  rw[q]at e;let c:=bo.inj e;subst c;show(a,q)
def Inv.pinned(I:Inv X pins σ H s)(hf:∀b∈fp,FpOk X pins H b)(ho:∀b∈fp,∃o,s.heap.get? b=bo o/\∀v,o.data≠.cell v):Inv X (pins++a5R fp s.heap) σ H s:=
 I.pins_of λp h=>(aP.mp h).elim (λz=>I.pin p (bH _ z)) λz=>by
  let(a,e):=a7u z;let(g,f,i,_):=hf p.1 a;let(o,c,d):=ho p.1 a;rw[e]at c;cases c;show(e,g,f,i,d)
def Inv.unpinned(I:Inv X (pins++pl) σ H s):Inv X pins σ H s:=I.pins_of λp a=>I.pin p (bH _ (cP _ a))
def b4t(hp:iz (model X.prog X.w) X.A X.env X.xe)(hc:X.calm=lS)(hi:PI X tg iter wi)(hg:PG X tg g)(hb:PSs X body tb)
  (hs:∀x,jc iter X.env x=pure x:=by ext _;rfl):PS X (.For tg iter body [] pos) (tFor wi g tb):=by
 ext a s σ H D I h;show wpAny_For (thn (hi a s σ H _ I h) λv s1 h1=>thn h1 λitv s2 h2=>?_) hs;let(it,z,Q,J,H2,e,I2,T,st2,S,W,(m0,w0),F):=h2;subst e;let p:∀{H':Hp},(∀b∈z,H' b=lR)->∀b∈z,FpOk X a H' b:=λhn b hb=>(hn b hb,(S b hb).2);show codeAny_forLoop_any (λn Y=>∃i σ' H',Inv X a σ' H' Y/\Q i Y.heap/\(∀b∈z,H' b=lR)/\W i n σ' H') ?_ m0 (0,σ,H2,I2,st2,λb hb=>(S b hb).1,w0);ext n U ⟨i,σ3,B,R,E,C,w3⟩;let(stop,qn)||(go,N,hN,step):=F i n σ3 B w3
 .show jh hp (thn (T.done X rfl rfl rfl hc i a U σ3 B X.xe R (p C) E stop) λr s4 Y=>Y.elim λG I4=>?_);subst G;show ju (σ3,B,I4,qn)
 .show jh hp (thn (T.item X rfl rfl rfl hc i a U σ3 B X.xe R (p C) E go) λr s4 Y=>Y.elim λu Y=>Y.elim λG h4=>?_);subst G;show jh hp (thn h4 λ_ s5 (x,H5,I5,r5,y5,y,M)=>(jh hp (thn (hg _ s5 σ3 H5 x u _ (I5.pinned (p M) (T.obj _ _ y)) r5 (step x H5 y5)) λ_ s6 (σ6,H6,I6,q6)=>(jh hp (thn (hb _ s6 σ6 H6 _ I6 q6) λf L l=>?_)))));let q:∀{σ7:St}{j:Hp},Inv X _ σ7 j L->N σ7 j->∃m,m<n/\∃i σ' H',Inv X a σ' H' L/\Q i L.heap/\(∀b∈z,H' b=lR)/\W i m σ' H':=λ{σ7 j} c t=>by
   let(m',hm,w7):=hN σ7 j t;show(m',hm,i+1,σ7,j,c.unpinned,T.keep _ _ _ y λb hb o e=>(c.pin _ (bH _ (bH _ (a1z hb e)))).1,λb hb=>?_,w7);let(o,e,d):=T.obj _ _ y b hb;show (c.pin _ (bH _ (bH _ (a1z hb e)))).2.1
  cases f with
  |next=>let(σ7,j,c,t):=l;show q c t
  |cont=>let(σ7,j,c,t):=l;show q c t
  |brk=>let(σ7,j,c,l):=l;show(σ7,j,c.unpinned,l)
  |ret v=>let(x7,σ7,j,c,r7,l):=l;show(x7,σ7,j,c.unpinned,r7,l)
end
abbrev R2:=V->V->Hp->VK->Prop
def OpR(X:Cx)(f:Value->Value->Sem Value)(r:R2):Prop:=
 ∀(pins:List (Addr×Obj))(s:Shared)(σ:St)(H:Hp)(x y:V)(v u:Value)(Q:VK),Inv X pins σ H s->RelV x v->RelV y u->r x y H Q ->
  wpAny (model X.prog X.w) X.A (f v u) (EP X pins σ Q) X.xe s
def UnR(X:Cx)(f:Value->Sem Value)(r:V->Hp->VK->Prop):Prop:=
 ∀(pins:List (Addr×Obj))(s:Shared)(σ:St)(H:Hp)(x:V)(v:Value)(Q:VK),Inv X pins σ H s->RelV x v->r x H Q ->
  wpAny (model X.prog X.w) X.A (f v) (EP X pins σ Q) X.xe s
def CallR(X:Cx)(f:Value)(r:List V->Hp->VK->Prop):Prop:=
 ∀(pins:List (Addr×Obj))(s:Shared)(σ:St)(H:Hp)(xs:List V)(us:List Value)(Q:VK),Inv X pins σ H s->Vals xs us->r xs H Q ->
  wpAny (model X.prog X.w) X.A (call f us) (EP X pins σ Q) X.xe s
def TruR(X:Cx)(r:V->Hp->(Bool->Hp->Prop)->Prop):Prop:=
 ∀(pins:List (Addr×Obj))(s:Shared)(σ:St)(H:Hp)(x:V)(v:Value)(Q:Bool->Hp->Prop),Inv X pins σ H s->RelV x v->r x H Q ->
  wpAny (model X.prog X.w) X.A (truthy v) (TP X pins σ Q) X.xe s
def tOp(r:R2)(ta tb:TE):TE:=fun σ H Q=>ta σ H λx H1=>tb σ H1 λy H2=>r x y H2 Q
def tUn(r:V->Hp->VK->Prop)(ta:TE):TE:=fun σ H Q=>ta σ H λx H1=>r x H1 Q
def rI(C:Int->Int->Prop)(g:Int->Int->V):R2:=λx y H Q=>∃i j,x=.int i/\y=.int j/\C i j/\Q (g i j) H
def rI0(g:Int->Int->V):R2:=λx y H Q=>∃i j,x=.int i/\y=.int j/\Q (g i j) H
def rU(g:Int->V):V->Hp->VK->Prop:=λx H Q=>∃i,x=.int i/\Q (g i) H
section
variable{a b c:Expr}{ta tb:TE}
def binT(ha:PE X a ta)(hb:PE X b tb){R:V->V->Hp->Prop}(I:Inv X pins σ H s)
  (h:ta σ H λx H1=>tb σ H1 λy H2=>R x y H2) {f:Value->Value->Sem Value}
  (hf:∀v u s2 x y H2,Inv X pins σ H2 s2->RelV x v->RelV y u->R x y H2->wpAny (model X.prog X.w) X.A (f v u) Q X.xe s2) :
  wpAny (model X.prog X.w) X.A (eval a X.env) (λv sv=>wpAny (model X.prog X.w) X.A (eval b X.env) (λu sw=>wpAny (model X.prog X.w) X.A (f v u) Q X.xe sw) X.xe sv) X.xe s:=by
 show thn (ha pins s σ H _ I h) λv c (x,j,i,g,n)=>(thn (hb pins c σ j _ i n) λu e (y,m,d,k,l)=>(hf v u e x y m d g k l))
def b4u(ho:OpR X (iA op) r)(ha:PE X a ta)(hb:PE X b tb):PE X (.BinOp a op b pos) (tOp r ta tb):=λc s σ H Q I h=>wpAny_BinOp (binT ha hb I h λv u i x y f e d g q=>ho c i σ f x y v u Q e d g q)
def b65(ho:UnR X (jZ op) r)(ha:PE X a ta):PE X (.UnaryOp op a pos) (tUn r ta):=λb s σ H Q I h=>UnaryOp_ (thn (ha b s σ H _ I h) λv d (x,e,c,g,f)=>ho b d σ e x v Q c g f)
def opI{g:Int->Int->Int}
  (rule:∀(i j:Int)(t u:Tok)(s:Shared)(Q:Value->Shared->Prop)(E:Value->Shared->Prop),C i j->Q (.int (g i j) s.toks) { s with toks:=s.toks+1 }->wpAny (model X.prog X.w) X.A (f (.int i t) (.int j u)) Q E s) :
  OpR X f (rI C λi j=>.int (g i j)):=by
 ext b s σ H x y v u Q I a d h;let(i,j,rfl,rfl,e,q):=h;let(t,rfl):=a;let(c,rfl):=d;show rule i j t c s _ _ e (.int _,H,I.tok _,(_,rfl),q)
def opI0{g:Int->Int->Int}
  (rule:∀(i j:Int)(t u:Tok)(s:Shared)(Q:Value->Shared->Prop)(E:Value->Shared->Prop),Q (.int (g i j) s.toks) { s with toks:=s.toks+1 }->wpAny (model X.prog X.w) X.A (f (.int i t) (.int j u)) Q E s) :
  OpR X f (rI0 λi j=>.int (g i j)):=by
 ext a s σ H x y v u Q I d b h;let(i,j,rfl,rfl,q):=h;let(t,rfl):=d;let(c,rfl):=b;show rule i j t c s _ _ (.int _,H,I.tok _,(_,rfl),q)
def opB0{g:Int->Int->Bool}
  (rule:∀(i j:Int)(t u:Tok)(s:Shared)(Q:Value->Shared->Prop)(E:Value->Shared->Prop),Q (.bool (g i j)) s->wpAny (model X.prog X.w) X.A (f (.int i t) (.int j u)) Q E s) :
  OpR X f (rI0 λi j=>.bl (g i j)):=by
 ext d s σ H x y v u Q I c a h;let(i,j,rfl,rfl,q):=h;let(t,rfl):=c;let(b,rfl):=a;show rule i j t b s _ _ (.bl _,H,I,rfl,q)
def CPow(i j:Int):Prop:=0<=j/\j<=1000000/\i.natAbs<2 ^ 64
def CMul(i j:Int):Prop:=(-(2 ^ 64)<i/\i<2 ^ 64)\/(-(2 ^ 64)<j/\j<2 ^ 64)
def CMul.ok(h:CMul i j):IntMulOk i j:=by
 let(h1,h2)||(h1,h2):=h
 .show .of_left (intBits_le_64 h1 h2)
 .show .of_right (intBits_le_64 h1 h2)
def op_add:OpR X (iA .Add) (rI0 λi j=>.int (i+j)):=opI0 λ_ _ _ _ _ _ _ q=>add_int q
def b4v:OpR X (iA .Sub) (rI0 λi j=>.int (i-j)):=opI0 λ_ _ _ _ _ _ _ q=>sub_int q
def b4w:OpR X (iA .Mult) (rI CMul λi j=>.int (i*j)):=opI λ_ _ _ _ _ _ _ a q=>mul_int q a.ok
def b4x:OpR X (iA .Mod) (rI (λ_ j=>0<j) λi j=>.int (i % j)):=opI λi j _ _ _ _ _ a q=>by
 let b:(0:Int)<j:=a;show mod_int' (by lia) (by rw[Int.fmod_eq_emod_of_nonneg i (by lia)];show q)
def b4y:OpR X (iA .Pow) (rI CPow λi j=>.int (i ^ j.toNat)):=opI λ_ _ _ _ _ _ _ a q=>pow_int_small a.1 a.2.1 a.2.2 q
def b2o:OpR X (jg .Add) (rI0 λi j=>.int (i+j)):=opI0 λ_ _ _ _ _ _ _ q=>iadd_int q
def unI{g:Int->Int}
  (rule:∀(i:Int)(t:Tok)(s:Shared)(Q:Value->Shared->Prop)(E:Value->Shared->Prop),Q (.int (g i) s.toks) { s with toks:=s.toks+1 }->wpAny (model X.prog X.w) X.A (f (.int i t)) Q E s) :
  UnR X f (rU λi=>.int (g i)):=by
 ext b s σ H x v Q I a h;let(i,rfl,q):=h;let(t,rfl):=a;show rule i t s _ _ (.int _,H,I.tok _,(_,rfl),q)
def b4z:UnR X (jZ .USub) (rU λi=>.int (-i)):=unI λ_ _ _ _ _ q=>neg_int q
end
noncomputable def scal:V->V->Bool
 |.non,.non=>lS |.non,.int _=>lS |.int _,.non=>lS |.non,.bl _=>lS |.bl _,.non=>lS |.non,.str _=>lS |.str _,.non=>lS
 |.int _,.int _=>lS |.bl _,.bl _=>lS |.str _,.str _=>lS |.byt _,.byt _=>lS
 |.int _,.str _=>lS |.str _,.int _=>lS |.bl _,.str _=>lS |.str _,.bl _=>lS
 |_,_=>lT
def rEq:R2:=λx y H Q=>scal x y=lS/\Q (.bl (decide (x=y))) H
def rNe:R2:=λx y H Q=>scal x y=lS/\Q (.bl (!decide (x=y))) H
def a7v:decide (V.int i=V.int j)=(i==j):=by
 rw[cH];simp
def a7w:decide (V.bl i=V.bl j)=(i==j):=by
 rw[cH];simp
def a7x:decide (V.str i=V.str j)=(i==j):=by
 rw[cH];simp
def a7y:decide (V.byt i=V.byt j)=(i.toList==j.toList):=by
 rw[cH];cases i;cases j;simp
section
variable{a b c:Expr}{ta tb tc:TE}
def a0o(I:Inv X pins σ H s)(q:Q (.bl k) H)(e:k=k'):EP X pins σ Q (.bool k') s:=by
 subst e;show(.bl k,H,I,rfl,q)
def op_eq:OpR X (io .Eq) rEq:=by
 ext pins s σ H x y v u Q I rx ry h;let(hs,q):=h;cases x with
 |non=>
  cases rx;cases y with
  |non=>cases ry;show PySem.EqNone.eq_none_none (a0o I q (by simp))
  |bl j=>cases ry;show PySem.EqNone.eq_none_bool (a0o I q (by simp))
  |int j=>let(t',rfl):=ry;show PySem.EqNone.eq_none_int (a0o I q (by simp))
  |str j=>let(t',rfl):=ry;show PySem.EqNone.eq_none_str (a0o I q (by simp))
  |_=>show absurd (show lT=lS from hs) bO
 |bl i=>
  cases rx;cases y with
  |non=>cases ry;show PySem.EqNone.eq_bool_none (a0o I q (by simp))
  |bl j=>cases ry;show eq_bool (a0o I q a7w)
  |str j=>let(t',rfl):=ry;show PySem.EqMixed.eq_bool_str (a0o I q (by simp))
  |_=>show absurd (show lT=lS from hs) bO
 |int i=>
  let(t,rfl):=rx;cases y with
  |non=>cases ry;show PySem.EqNone.eq_int_none (a0o I q (by simp))
  |int j=>let(t',rfl):=ry;show eq_int (a0o I q a7v)
  |str j=>let(t',rfl):=ry;show PySem.EqMixed.eq_int_str (a0o I q (by simp))
  |_=>show absurd (show lT=lS from hs) bO
 |str i=>
  let(t,rfl):=rx;cases y with
  |non=>cases ry;show PySem.EqNone.eq_str_none (a0o I q (by simp))
  |bl j=>cases ry;show PySem.EqMixed.eq_str_bool (a0o I q (by simp))
  |int j=>let(t',rfl):=ry;show PySem.EqMixed.eq_str_int (a0o I q (by simp))
  |str j=>let(t',rfl):=ry;show eq_str (a0o I q a7x)
  |_=>show absurd (show lT=lS from hs) bO
 |byt i=>
  let(t,rfl):=rx;cases y with
  |byt j=>let(t',rfl):=ry;show PySem.W.eq_bytes (a0o I q a7y)
  |_=>show absurd (show lT=lS from hs) bO
 |_=>cases y<;>show absurd (show lT=lS from hs) bO
def op_ne:OpR X (io .NotEq) rNe:=by
 ext e s σ H x y v u Q I d a h;let(c,q):=h;cases x with
 |non=>
  cases d;cases y with
  |non=>cases a;show PySem.EqNone.ne_none_none (a0o I q (by simp))
  |bl j=>cases a;show PySem.EqNone.ne_none_bool (a0o I q (by simp))
  |int j=>let(b,rfl):=a;show PySem.EqNone.ne_none_int (a0o I q (by simp))
  |str j=>let(b,rfl):=a;show PySem.EqNone.ne_none_str (a0o I q (by simp))
  |_=>show absurd (show lT=lS from c) bO
 |bl i=>
  cases d;cases y with
  |non=>cases a;show PySem.EqNone.ne_bool_none (a0o I q (by simp))
  |bl j=>cases a;show ne_bool (a0o I q (congrArg not a7w))
  |str j=>let(b,rfl):=a;show PySem.EqMixed.ne_bool_str (a0o I q (by simp))
  |_=>show absurd (show lT=lS from c) bO
 |int i=>
  let(t,rfl):=d;cases y with
  |non=>cases a;show PySem.EqNone.ne_int_none (a0o I q (by simp))
  |int j=>let(b,rfl):=a;show ne_int (a0o I q (congrArg not a7v))
  |str j=>let(b,rfl):=a;show PySem.EqMixed.ne_int_str (a0o I q (by simp))
  |_=>show absurd (show lT=lS from c) bO
 |str i=>
  let(t,rfl):=d;cases y with
  |non=>cases a;show PySem.EqNone.ne_str_none (a0o I q (by simp))
  |bl j=>cases a;show PySem.EqMixed.ne_str_bool (a0o I q (by simp))
  |int j=>let(b,rfl):=a;show PySem.EqMixed.ne_str_int (a0o I q (by simp))
  |str j=>let(b,rfl):=a;show ne_str (a0o I q (congrArg not a7x))
  |_=>show absurd (show lT=lS from c) bO
 |byt i=>
  let(t,rfl):=d;cases y with
  |byt j=>let(b,rfl):=a;show PySem.W.ne_bytes (a0o I q (congrArg not a7y))
  |_=>show absurd (show lT=lS from c) bO
 |_=>cases y<;>show absurd (show lT=lS from c) bO
def b66:OpR X (io .Lt) (rI0 λi j=>.bl (decide (i<j))):=opB0 λ_ _ _ _ _ _ _ q=>lt_int q
def b67:OpR X (io .LtE) (rI0 λi j=>.bl (decide (i<=j))):=opB0 λ_ _ _ _ _ _ _ q=>le_int q
def b68:OpR X (io .Gt) (rI0 λi j=>.bl (decide (j<i))):=opB0 λ_ _ _ _ _ _ _ q=>gt_int q
def a7z:OpR X (io .Lt) (λx y H Q=>∃i j,x=.str i/\y=.str j/\Q (.bl (decide (i.cps.toList<j.cps.toList))) H):=by
 ext b s σ H x y v u Q I a c h;let(i,j,rfl,rfl,q):=h;let(t,rfl):=a;let(d,rfl):=c;show lt_str (a0o I q rfl)
def op_in_str:OpR X (io .In) (λx y H Q=>∃i j,x=.str i/\y=.str j/\Q (.bl (!(im.Str.occurrences j i 0 j.length 1).isEmpty)) H):=by
 ext b s σ H x y v u Q I a c h;let(i,j,rfl,rfl,q):=h;let(t,rfl):=a;let(d,rfl):=c;show in_str (a0o I q rfl)
def op_isN:OpR X (io .Is) (λx y H Q=>y=.non/\Q (.bl (decide (x=.non))) H):=by
 ext b s σ H x y v u Q I a c h;let(rfl,q):=h;cases c;show is_none_gen (a0o I q ?_);cases x<;>first
  | (cases a;rfl)
  | (let(t,rfl):=a;rfl)
def b2p:OpR X (io .IsNot) (λx y H Q=>y=.non/\Q (.bl (!decide (x=.non))) H):=by
 ext c s σ H x y v u Q I a b h;let(rfl,q):=h;cases b;show isnot_none_gen (a0o I q ?_);cases x<;>first
  | (cases a;rfl)
  | (let(t,rfl):=a;rfl)
def OpR.or(h:OpR X f r)(h':OpR X f r'):OpR X f (λx y H Q=>r x y H Q\/r' x y H Q):=by
 ext a s σ H x y v u Q I c b q;let q||q:=q
 .show h a s σ H x y v u Q I c b q
 .show h' a s σ H x y v u Q I c b q
def a1V(b:Expr)(h:op≠.In:=by decide)(h2:op≠.NotIn:=by decide):ji op b=lT:=by
 let a:(op==CmpOp.In)=lT:=by grind
 let c:(op==CmpOp.NotIn)=lT:=by grind
 cases b<;>simp[ji,a,c]
def b2q(ho:OpR X (io op) r)(ha:PE X a ta)(hb:PE X b tb)(hm:ji op b=lT):PE X (.Compare a [op] [b] pos) (tOp r ta tb):=λc s σ H Q I h=>wpAny_Compare1 (binT ha hb I h λv u d x y f g i e q=>ho c d σ f x y v u Q g i e q) hm
def b4A(t:TE):TT:=fun σ H Q=>t σ H λx H'=>∃k,x=.bl k/\Q k H'
def b2r(ho:OpR X (io op) r)(ha:PE X a ta)(hb:PE X b tb)(hm:ji op b=lT):PT X (.Compare a [op] [b] pos) (b4A (tOp r ta tb)):=by
 ext d s σ H Q I h;show wpAny_isTrue_Compare1 (thn (ha d s σ H _ I h) λv l (x,w,f,n,B)=>thn (hb d l σ w _ f B) λu t (y,m,i,j,A)=>
  thn (ho d t σ m x y v u _ i n j A) λc C (z,q,p,o,k,e,g)=>?_) hm
 subst e;cases o;show ja (q,p,g)
def a7A(r r':R2)(ta tb tc:TE):TE:=fun σ H Q=>ta σ H λx H1=>tb σ H1 λy H2=>r x y H2 λz H3=>∃k,z=.bl k /\
 (if k=lS then tc σ H3 λw' H4=>r' y w' H4 Q else Q (.bl lT) H3)
def a9P(ho:OpR X (io op) r)(ho':OpR X (io op') r')(ha:PE X a ta)(hb:PE X b tb)(hc:PE X c tc)
  (hm:j3 [op,op'] [b,c]=lT:=by with_unfolding_all rfl):PE X (.Compare a [op,op'] [b,c] pos) (a7A r r' ta tb tc):=by
 ext f s σ H Q I h;show Compare_chain (thn (ha f s σ H _ I h) λv m (x,t,J,p,N)=>chain_link (thn (hb f m σ t _ J N) λu o (y,C,F,j,L)=>
  thn (ho f o σ C x y v u _ F p j L) λd A (z,i,g,n,k,e,l)=>?_)) hm
 subst e;cases n;show ja ?_;cases k with
 |false=>show ite_ff (.bl lT,i,g,rfl,l)
 |true=>show ite_tt (chain_last (thn (hc f A σ i _ g l) λM w (D,q,B,G,E)=>ho' f w σ q y D u M Q B j G E))
def a9Q(ho:OpR X (io op) r)(ho':OpR X (io op') r')(ha:PE X a ta)(hb:PE X b tb)(hc:PE X c tc)
  (hm:j3 [op,op'] [b,c]=lT:=by with_unfolding_all rfl):PT X (.Compare a [op,op'] [b,c] pos) (b4A (a7A r r' ta tb tc)):=by
 ext f s σ H Q I h;show isTrue_chain (thn (ha f s σ H _ I h) λv B (x,G,p,D,R)=>test_link (thn (hb f B σ G _ p R) λu q (y,V,J,l,Y)=>
  thn (ho f q σ V x y v u _ J D l Y) λd S (z,j,i,T,k,e,g)=>?_)) hm
 subst e;cases T;show ja ?_;cases k with
 |false=>
  let(k',t,w):=g;cases t;show ite_ff (j,i,w)
 |true=>
  show ite_tt (test_last (thn (hc f S σ j _ i g) λN F (U,o,C,L,m)=>thn (ho' f F σ o y U u N _ C l L m) λd' s5 (z2,A,W,n,k2,M,E)=>?_));subst M;cases n;show ja (A,W,E)
def TruV(K:Fg)(x:V)(H:Hp)(k:Bool):Prop:=
 match x with
 |.non=>k=lT
 |.bl b=>k=b
 |.int i=>k=(i != 0)
 |.str y=>y.length<=ie/\k=((y.length:Int) != 0)
 |.byt y=>y.size<=ie/\k=((y.size:Int) != 0)
 |.ref p=>(∃xs,SqL K H p xs/\k=!xs.isEmpty)\/(∃xs,SqT K H p xs/\k=!xs.isEmpty)\/∃kvs,H p=bo (.dK kvs)/\k=!kvs.isEmpty
 |_=>False
def a6K{κ:Type}{kvs:List (κ×V)}{vs:List (κ×Value)}(r:KV kvs vs):(!vs.isEmpty)=!kvs.isEmpty:=by
 cases r<;>rfl
def a3q(r:Vals xs its):(!its.toArray.isEmpty)=!xs.isEmpty:=by
 cases r<;>simp
def a4l:(ie:Nat)<2 ^ 63:=by rw[ir];decide
def b4B:TruR X (λx H Q=>∃k,TruV X.K x H k/\Q k H):=by
 ext u s σ H x v Q I c h;let(k,e,q):=h;let z:=a4l;let A:ie=16777216:=ir;cases x with
 |non=>
  cases c;let a:k=lT:=e;subst a;show truthy_none (H,I,q)
 |bl b=>
  cases c;let a:k=b:=e;subst a;show ja (H,I,q)
 |int i=>
  let(t,rfl):=c;let a:k=(i != 0):=e;subst a;show PySem.P.truthy_int (H,I,q)
 |str y=>
  let(t,rfl):=c;let(o,a):=e;subst a;show PySem.P.truthy_str (by lia) (H,I.tok _,q)
 |byt y=>
  let(t,rfl):=c;obtain⟨o,a⟩:y.size<=ie/\k=((y.size:Int) != 0):=e;subst a;show PySem.W.truthy_bytes (by lia) (H,I.tok _,q)
 |ref p=>
  cases c;let a:=e;let(xs,hx,a)||(xs,hx,a)||(kvs,hx,a):=a
  .subst a;let(l,r,g,j):=I.list hx;let d:=r.length;show wpAny_truthy_list g.isList (by simp only[bE];lia) (H,I.tok _,by rw[a3q r];show q)
  .subst a;let(l,r,g,j):=I.tuple hx;let d:=r.length;show truthy_tuple g (by simp only[bE];lia) (H,I.tok _,by rw[a3q r];show q)
  .subst a;let(j,n,f,r,m):=I.hok p _ hx;let d:kvs.length=f.length:=Paired.length r;show wpAny_truthy_dict n m (by lia) (H,I.tok _,by rw[a6K r];show q)
 |_=>show (show False from e).elim
def a9R(ha:PE X a ta)(he:∀whole,isTrue a X.env whole=(do let v <- whole;jt a.pos;iM [v] (truthy v))) :
  PT X a (fun σ H Q=>ta σ H λx H'=>∃k,TruV X.K x H' k/\Q k H'):=λb s σ H Q I h=>isTrue_plain (thn (ha b s σ H _ I h) λv e (x,f,d,g,c)=>b4B b e σ f x v Q d g c) (he _)
def op_add_str:OpR X (iA .Add) (λx y H Q=>∃i j,x=.str i/\y=.str j/\i.length+j.length<=ie/\Q (.str (i++j)) H):=by
 ext b s σ H x y v u Q I a d h;let(i,j,rfl,rfl,e,q):=h;let(t,rfl):=a;let(c,rfl):=d;show add_str (λc f=>(.str (i++j),H,I.tok _,(_,rfl),q)) e
def a1F(r:Vals [x] us):∃u,us=[u]/\RelV x u:=by
 cases r with
 |cons r1 r2=>cases r2;show(_,rfl,r1)
def a6L(r:Vals [x,y] us):∃u w',us=[u,w']/\RelV x u/\RelV y w':=by
 cases r with
 |cons r1 r2=>
  cases r2 with
  |cons r3 r4=>cases r4;show(_,_,rfl,r1,r3)
def a7B(hc:X.calm=lS):CallR X (.builtin "min") (λxs H Q=>∃i j,xs=[.int i,.int j]/\Q (.int (if j<i then j else i)) H):=by
 ext a s σ H d f Q I r h;let(i,j,rfl,q):=h;let(u,g,rfl,(t,rfl),(c,rfl)):=a6L r;show min_two_ints (I.ok.hd hc) λb e k=>(_,H,I.kept k,?_,q)
 by_cases hj:j<i
 .rw[if_pos hj,if_pos hj];show(_,rfl)
 .rw[if_neg hj,if_neg hj];show(_,rfl)
def LenV(K:Fg)(x:V)(H:Hp)(n:Nat):Prop:=
 match x with
 |.str y=>y.length<=ie/\n=y.length
 |.byt y=>y.size<=ie/\n=y.size
 |.ref p=>(∃xs,SqL K H p xs/\n=xs.length)\/∃xs,SqT K H p xs/\n=xs.length
 |_=>False
def a9S:CallR X (.builtin "len") (λxs H Q=>∃x n,xs=[x]/\LenV X.K x H n/\Q (.int n) H):=by
 ext j s σ H a v Q I r h;let(x,n,rfl,e,q):=h;let(u,rfl,d):=a1F r;let o:=ir;cases x with
 |str y=>
  let(t,rfl):=d;let(k,b):=e;subst b;show len_str (by lia) (.int _,H,I.tok _,(_,rfl),q)
 |byt y=>
  let(t,rfl):=d;let(k,b):=e;subst b;show PySem.W.len_bytes (by lia) (.int _,H,I.tok _,(_,rfl),q)
 |ref p=>
  cases d;let b:=e;let(a,hx,b)||(a,hx,b):=b
  .subst b;let(i,g,f,l):=I.list hx;let c:=g.length;show Calls.call_len_list f.isList (by grind) (.int a.length,H,I.tok _,(_,by simp only[bE];rw[c]),q)
  .subst b;let(i,g,f,l):=I.tuple hx;let c:=g.length;show len_tuple f (by grind) (.int a.length,H,I.tok _,(_,by simp only[bE];rw[c]),q)
 |_=>show (e).elim
end
structure ObjM (h:Heap) (x dx C:Addr) (mA:Str->Option Value):Prop where
 obj:h.get? x=bo (PySem.W.instObj C dx)
 ns:h.Ns1 dx mA
 ne:dx≠x
def a7C{h:Heap}(n:h.Ns1 dx mA):∃od,h.get? dx=bo od/\∀name,PySem.W.lookIn name od=bo (mA name):=by
 let(o,d,m,l,j,f,_,g):=n;show(o,l,λc=>?_);let e:=g c;unfold nsFind findBy at e;rw[<- Array.find?_toList]at e;unfold PySem.W.lookIn;rw[j];dsimp only
 split
 .simp_all
 .rename_i q
  rw[q]at e;let a:d.toList.any (·.refKey)=lT:=by
   rw[dD];ext y k;let(z,t,b):=f y (fL.mp k);simp[j5.refKey,b]
  let i:¬ d.toList.any (·.refKey)=lS:=a▸bO;rw[if_neg i];show congrArg bo e
def ObjM.look(I:ObjM h x dx C mA):∃od,PySem.W.InstAt h x (PySem.W.instObj C dx) C (bo od)/\∀name,PySem.W.lookIn name od=bo (mA name):=
 let (od,ho,hl):=a7C I.ns
 (od,(I.obj,rfl,rfl,ho),hl)
def RelO.some_of(r:RelO (bo v) o):∃u,o=bo u/\RelV v u:=by
 cases o with
 |none=>show (r).elim
 |some u=>show(u,rfl,r)
section
variable{h:Heap}{a C dx:Addr}{fs:List (Str×V)}
def b2s(hok:HOk P w H h)(e:H a=bo (.ins C dx fs)):∃mA,ObjM h a dx C mA/\(∀f,RelO (fs.lookup f) (mA f))/\PySem.Within mA (fs.map (·.1))/\fs.length<=1000/\H dx=bo (.own a):=by
 let(d,z,c,g,b,n,r,q):=(hok a _ e);show(b,(g,n,c),r,q,z,d)
end
structure Cls (K:Fg) (C:Addr):Prop where
 pg:PySem.W.plainGet K C Str.empty=lS
 hd:PySem.W.hasDictIn K C=lS
 po:PySem.W.plainOver K C=lS
 sa:PySem.W.findIn K (.ref C) "__setattr__"=bo (bo (.builtin "object.__setattr__"))
def Cls.get{K:Fg}(c:Cls K C)(f:Str):PySem.W.plainGet K C f=lS:=c.pg
def b4C(K:Fg)(C:Addr)(f:Str):Prop:=PySem.W.findIn K (.ref C) f=bo lR
structure Meth (K:Fg) (C:Addr) (m:Str) (f:Addr):Prop where
 at_:PySem.W.findIn K (.ref C) m=bo (bo (.ref f))
 fn:PySem.W.isFn K (.ref f)=lS
 kp:PySem.W.keepIn K (.ref f)=lS
section
variable{σ:St}{C:Addr}{f:Str}
def Inv.made(I:Inv X pins σ H s):Inv X pins σ (upd (upd H s.heap.objs.size (.own (s.heap.objs.size+1))) (s.heap.objs.size+1) (.ins C s.heap.objs.size []))
  { s with heap:=(s.heap.push PySem.W.emptyDict).push (PySem.W.instObj C s.heap.objs.size) }:=by
 let c:(s.heap.push PySem.W.emptyDict).get? s.heap.objs.size=bo PySem.W.emptyDict:=Heap.get?_push_size s.heap rfl;let i:((s.heap.push PySem.W.emptyDict).push (PySem.W.instObj C s.heap.objs.size)).get? (s.heap.objs.size+1)=bo (PySem.W.instObj C s.heap.objs.size):=by
  let:=Heap.get?_push_size (s.heap.push PySem.W.emptyDict) (o:=PySem.W.instObj C s.heap.objs.size) rfl
  rwa [Heap.size_push]at this
 let g:(s.heap.push PySem.W.emptyDict).Ns s.heap.objs.size _:=(PySem.W.emptyDict,#[],_,c,rfl,(λe h=>absurd h (by simp)),λ_=>rfl);show (I.laid (o:=.own (s.heap.objs.size+1)) (t':=s.toks) (λb u q=>Heap.get?_push_of_some _ q) (aQ _) (_,c)).laid (t':=s.toks) (λb u q=>Heap.get?_push_of_some _ q) (dE (Heap.size_push _ _)) ?_;let d:s.heap.objs.size≠s.heap.objs.size+1:=aY (eI _);show(by rw[a0f d,a0h],bv _,d,i,λ_=>lR,(Heap.Ns1.of_empty g).at λo q=>Heap.get?_push_of_some _ q,λ_=>True.intro,λy f=>absurd rfl f)
end
section
variable{σ:St}{Q:Value->Shared->Prop}{c:Value}{b:Bool}
inductive TyOf (K:Fg) (H:Hp):V->Value->Prop where
 |non:TyOf K H .non (.type "NoneType")
 |bl (x:Bool):TyOf K H (.bl x) (.type "bool")
 |int (i:Int):TyOf K H (.int i) (.type "int")
 |str (x:Str):TyOf K H (.str x) (.type "str")
 |flt (x:UInt64):TyOf K H (.flt x) (.type "float")
 |lst {a:Addr} {xs:List V} (e:H a=bo (.lst xs)):TyOf K H (.ref a) (.type "list")
 |frz {a:Addr} {o:Obj} {xs:List V} (e:H a=bo (.frz o (.lst xs))):TyOf K H (.ref a) (.type "list")
 |tup {a:Addr} {xs:List V} (e:H a=bo (.tup xs)):TyOf K H (.ref a) (.type "tuple")
 |dK {a:Addr} {kvs:List (Key×V)} (e:H a=bo (.dK kvs)):TyOf K H (.ref a) (.type "dict")
 |dT {a:Addr} {kvs:List (List Key×V)} (e:H a=bo (.dT kvs)):TyOf K H (.ref a) (.type "dict")
 |ins {a C dx:Addr} {fs:List (Str×V)} (e:H a=bo (.ins C dx fs)) (cl:Cls K C) (ha:PySem.W.findIn K (.ref C) "__class__"=bo (bo (.builtin "object.__class__")))
   (hn:PySem.W.specialIn K (.builtin "object.__class__") "__get__"=bo (bo (.builtin "getset_descriptor.__get__"))) (htk:PySem.W.takesIn K (.builtin "object.__class__")=bo lS)
   (hm:PySem.W.mroIn K C (.type "object")=bo lS):TyOf K H (.ref a) (.ref C)
def a7D(I:Inv X pins σ H s)(rx:RelV x u)(ty:TyOf X.K H x t)(e:PySem.W.kitOne X.K t c=bo b)(h:∀tk,Q (.bool b) { s with toks:=tk }) :
  wpAny (model X.prog X.w) A (call (.builtin "isinstance") [u,c]) Q E s:=by
 cases ty with
 |non=>cases (rx);show PySem.W.kia_one PySem.W.kitx_none I.kIn True.intro e (λz=>nomatch z) h
 |bl y=>cases (rx);show PySem.W.kia_one PySem.W.kitx_bool I.kIn True.intro e (λz=>nomatch z) h
 |int i=>let(t,q):=(rx);cases q;show PySem.W.kia_one PySem.W.kitx_int I.kIn True.intro e (λz=>nomatch z) h
 |str y=>let(t,q):=(rx);cases q;show PySem.W.kia_one PySem.W.kitx_str I.kIn True.intro e (λz=>nomatch z) h
 |flt y=>let(t,q):=(rx);cases q;show PySem.W.kia_one PySem.W.kitx_float I.kIn True.intro e (λz=>nomatch z) h
 | @lst a f ea=>
  cases (rx);let(_,_,n,_,d):=(I.hok a _ ea);show PySem.W.kia_one PySem.W.kitx_list I.kIn (_,d,rfl) e (λz=>nomatch z) h
 | @frz a ob f ea=>
  cases (rx);let(_,_,_,n,_,d):=(I.hok a _ ea);show PySem.W.kia_one PySem.W.kitx_list I.kIn (_,d,rfl) e (λz=>nomatch z) h
 | @tup a f ea=>
  cases (rx);let(_,_,_,p):=(I.hok a _ ea);let(o,d,g,_):=p;show PySem.W.kia_one PySem.W.kitx_tuple I.kIn (o,d,g) e (λz=>nomatch z) h
 | @dK a kvs ea=>
  cases (rx);let(_,_,l,_,p):=(I.hok a _ ea);let(o,j,k,d,g,_):=p;show PySem.W.kia_one PySem.W.kitx_dict I.kIn (o,d,g.1) e (λz=>nomatch z) h
 | @dT a kvs ea=>
  cases (rx);let(_,_,f,_,o,j,k,d,g,_):=(I.hok a _ ea);show PySem.W.kia_one PySem.W.kitx_dict I.kIn (o,d,g.1) e (λz=>nomatch z) h
 | @ins a C dx fs ea cl ha hn htk hm=>
  cases (rx);let(r,O,_):=b2s I.hok ea;let(m,J,_):=O.look;show PySem.W.kia_one (PySem.W.kitx_own (cl.get _) cl.hd ha hn htk hm) I.kIn J e (λz=>nomatch z) h
end
structure Room (k:Nat) (A:Around):Prop where
 hd:A.handled=lR
 dp:A.depth+3*k+5<recursionLimit
 un:A.units+16*k+200<cLine
def Room.mono(r:Room k A)(h:j<=k):Room j A:=(r.hd,by let:=r.dp;lia,by let:=r.un;lia)
def Room.deeper(r:Room (k+1) A)(env:Env):Room k (A.deeper env):=
 (r.hd,by let:=r.dp;change A.depth+1+3*k+5<_;lia,by let:=r.un;change A.units+3+16*k+200<_;lia)
def Room.in1(r:Room (k+1) A):Room k A.in1:=
 (r.hd,by let:=r.dp;change A.depth+3*k+5<_;lia,by let:=r.un;change A.units+1+16*k+200<_;lia)
def Room.depth(r:Room k A):A.depth<recursionLimit:=by let:=r.dp;lia
def Room.units(r:Room k A):A.units+64<cLine:=by let:=r.un;lia
def tNil:TA:=λ_ H Q=>Q [] H
def b69(ta:TE)(tr:TA):TA:=fun σ H Q=>ta σ H λx H1=>tr σ H1 λxs H2=>Q (x::xs) H2
section
variable{e:Expr}{te:TE}{t:TA}
def a5S:PA X [] tNil:=λ_ _ _ _ H Q I h=>Calls.spliced_nil ([],H,I,.nil,h)
def a3L(ha:PE X e te)(hr:PA X es t)(hs:ii (e::es) X.env=(lT,eval e X.env,)::ii es X.env):PA X (e::es) (b69 te t):=by
 ext b a s σ H Q I h;rw[hs];show Calls.spliced_cons (thn (ha a s σ H _ I h) λu j (x,d,k,c,g)=>(thn (hr b a j σ d _ k g) λp o (i,f,l,m,n)=>(x::i,f,l,.cons c m,n)))
def tTup(t:TA):TE:=fun σ H Q=>t σ H λxs H1=>xs.length<=ie/\∀p,H1 p=lR->Q (.ref p) (upd H1 p (.tup xs))
def tLst(t:TA):TE:=fun σ H Q=>t σ H λxs H1=>xs.length<=ie/\∀p,H1 p=lR->Q (.ref p) (upd H1 p (.lst xs))
def b4D(h:PA X es t):PE X (.Tuple es x1 pos) (tTup t):=by
 ext c s σ H Q I i;show wpAny_Tuple_spliced (thn (h pos c s σ H _ I i) λk a (g,d,f,r,z,q)=>(by rw[<- r.length];show z,?_));let j:=f.hok.fresh (aQ _);show(.ref a.heap.objs.size,upd d a.heap.objs.size _,f.laid (λb u e=>Heap.get?_push_of_some _ e) (aQ _) ?_,rfl,q _ j);show(z,k,r,(_,Heap.get?_push_size _ rfl,rfl,_,rfl))
def b4E(h:PA X es t):PE X (.List es pos) (tLst t):=by
 ext c s σ H Q I j;show wpAny_List_spliced (thn (h pos c s σ H _ I j) λi a (k,d,f,r,z,q)=>(by rw[<- r.length];show z,?_));let g:=f.hok.fresh (aQ _);show(.ref a.heap.objs.size,upd d a.heap.objs.size _,f.laid (λb u e=>Heap.get?_push_of_some _ e) (aQ _) ?_,rfl,q _ g);show(z,i,0,r,Heap.get?_push_size _ rfl)
end
abbrev Sp:=List V->Hp->VK->XK->Prop
abbrev CXT:=List Env->Hp->Shared->XK->Value->Shared->Prop
structure Env0 (P:ik) (w:World) (K:Fg) (mg:Str->Option Value) (base:Heap) (A:Around) (outer:List Env) (s:Shared) (H:Hp):Prop where
 frames:A.frames=bo outer
 mod:Mod K mg base
 bs:∀b o,base.get? b=bo o->s.heap.get? b=bo o/\H b=lR
 bsz:base.objs.size<=s.heap.objs.size
 funs:s.heap.FunFrames base outer
 frf:∀b∈frs outer,H b=lR
 hok:HOk P w H s.heap
 bare:iX s.gens
def CE(outer:List Env)(P:ik)(w:World)(H:Hp)(s:Shared)(Q:VK)(u:Value)(s':Shared):Prop:=
 ∃v H',s'.os=s.os/\iX s'.gens/\Un (frs outer) [] H H' s.heap s'.heap/\HOk P w H' s'.heap/\RelV v u/\Q v H'
def CR(CX:CXT)(outer:List Env)(P:ik)(w:World)(H:Hp)(s:Shared)(Q:VK)(E:XK)(r:Result)(s':Shared):Prop:=
 match r with
 |.ok (.ret u)=>CE outer P w H s Q u s'
 |.ok _=>False
 |.error e=>CX outer H s E e s'
structure FnOk (P:ik) (w:World) (K:Fg) (mg:Str->Option Value) (base:Heap) (CX:CXT) (k:Nat) (f:Addr) (fd:iG) (ps:List Str) (sp:Sp):Prop where
 len:∀vs H Q E,sp vs H Q E->vs.length=ps.length
 run:∀(A:Around)(outer:List Env)(s:Shared)(H:Hp)(args:Args)(us:List Value)(vs:List V)(Q:VK)(E:XK),Room k A->Env0 P w K mg base A outer s H->jv s fd args (ps.zip us)->Vals vs us->sp vs H Q E ->
  iS (model P w) A (.call (.ref f) args) (CR CX outer P w H s Q E) s
def FnOk.mono{K:Fg}(F:FnOk P w K mg base CX j f fd ps sp)(h:j<=k) :
  FnOk P w K mg base CX k f fd ps sp:=(F.len,λA a s H b c e Q E d=>F.run A a s H b c e Q E (d.mono h))
def FnOk.imp{K:Fg}(F:FnOk P w K mg base CX k f fd ps sp)
  (h:∀vs H Q E,sp' vs H Q E->sp vs H Q E):FnOk P w K mg base CX k f fd ps sp':=
 (λb H Q E q=>F.len b H Q E (h _ _ _ _ q),λA a s H c d b Q E j i g l e=>F.run A a s H c d b Q E j i g l (h _ _ _ _ e))
def Env0.in1{K:Fg}(e:Env0 P w K mg base A outer s H) :
  Env0 P w K mg base A.in1 outer s H:=(e.frames,e.mod,e.bs,e.bsz,e.funs,e.frf,e.hok,e.bare)
section
variable{σ:St}{s':Shared}
def Inv.env0(I:Inv X pins σ H s):Env0 X.prog X.w X.K X.mg X.base X.A X.stack s H:=
 (I.ok.frames,I.ok.mod,I.bs,bj I.ok.bsz I.sz,I.stack,I.stkFree,I.hok,I.bare)
def Inv.after(I:Inv X pins σ H s)(h:CE X.stack X.prog X.w H s Q u s'):EP X pins σ Q u s':=by
 let(v,H',j,a,f,c,r,q):=h;let(i,g,d,t,e):=s';obtain rfl:e=s.os:=j;show(v,H',I.call f c a (λb z=>absurd z (by simp)),r,q)
end
def b4F(sp:Sp)(dvs:List V)(E:XK)(t:TA):TE:=fun σ H Q=>t σ H λvs H1=>sp (vs++dvs) H1 Q E
def Binds(K:Fg)(fd:iG)(ps:List Str)(ds:List Value):Prop:=
 ∀(s:Shared)(us:List Value),K.In s.heap->(us++ds).length=ps.length->jv s fd (us,[]) (ps.zip (us++ds))
def Binds.all{K:Fg}(h:∀us:List Value,us.length=ps.length->jw fd (us,[])=pure (ps.zip us)):Binds K fd ps []:=λs b _ a=>by
 rw[bC]at a ⊢;show .of_eq (h b a)
def a2y(CX:CXT)(X:Cx)(E:XK):Prop:=∀(pins:List (Addr×Obj))(σ:St)(H:Hp)(s:Shared)(e:Value)(s':Shared),Inv X pins σ H s->CX X.stack H s E e s'->X.xe e s'
section
variable{CX:CXT}{k:Nat}{f:Addr}{fd:iG}{ps:List Str}{sp:Sp}{dvs:List V}{ds:List Value}{E:XK}{x:Str}{p:Pos}{e:Expr}{t:TA}
def b4G(F:FnOk X.prog X.w X.K X.mg X.base CX k f fd ps sp)(hr:Room k X.A)(hb:Binds X.K fd ps ds)(hd:Vals dvs ds)(hx:a2y CX X E)
  (I:Inv X pins σ H s) (r:Vals vs us) (h:sp (vs++dvs) H Q E):wpAny (model X.prog X.w) X.A (call (.ref f) us) (EP X pins σ Q) X.xe s:=by
 let b:=r.append hd;let d:(us++ds).length=ps.length:=b.length▸F.len _ _ _ _ h;show jj (i7 (F.run X.A X.stack s H (us,[]) (us++ds) _ Q E hr I.env0 (hb s us I.kIn d) b h) λr c a=>?_);cases r with
 |error e=>show hx pins σ H s e c I a
 |ok fl=>
  cases fl with
  |ret u=>show I.after a
  |next=>show aX a
  |brk=>show aX a
  |cont=>show aX a
def a7E(F:FnOk X.prog X.w X.K X.mg X.base CX k f fd ps sp)(hr:Room k X.A)(hg:Gl X x)(hm:X.mg x=bo (.ref f))(hk:PySem.W.keepIn X.K (.ref f)=lS)(hb:Binds X.K fd ps ds)(hd:Vals dvs ds)(hx:a2y CX X E)
  (ha:PA X (e::es) t) (hdb:(x==("__debug__":Str))=lT) (he:ii (e::es) X.env=(lT,eval e X.env,)::ii es X.env) (hpl:(backTo pos (ii es X.env)).any (·.1)=lT) :
  PE X (.Call (.Name x p) (e::es) [] pos) (b4F sp dvs E t):=by
 ext a s σ H Q I h;show jH (a2M I hg hm ?_ hdb);show PySem.W.callWith_K I.ok.mod.kin hk (thn (ha pos a s σ H _ I h) λi d (c,g,b,r,q)=>(b.kIn,?_)) he hpl;show b4G F hr hb hd hx b r q
end
structure FnScope (N P:List Str) (sc:Scope):Prop where
 kind:sc.kind=.function
 co:sc.isCoroutine=lT
 gen:sc.isGenerator=lT
 nd:N.Nodup
 pre:N.take P.length=P
 par:∀x∈P,sc.names.lookup x=bo .local\/sc.names.lookup x=bo .cell
 nofree:∀y∈sc.names,y.2≠.free
def a7F{kindOf:Str->Option iq}:∀{binds:List (Str×Value)}{m:Str->Option Value},(∀v,(x,v,)∉binds)->bindL kindOf binds m x=m x:=by ext z0;induction z0 with
 |nil=>ext _ _;show rfl
 |cons q0 r I0=>
  let(n,v):=q0;ext m h;unfold bindL;rw[I0 λw a=>h w (cr _ a)]
  split
  .let:x≠n:=by ext rfl;show h v bU
   simp[this]
  .rfl
def a7G{kindOf:Str->Option iq}:∀{binds:List (Str×Value)}{m:Str->Option Value},(∀v,(x,v,)∉binds)->bindC kindOf binds m x=m x:=by ext z0;induction z0 with
 |nil=>ext _ _;show rfl
 |cons q0 r I0=>
  let(n,v):=q0;ext m h;unfold bindC;rw[I0 λw a=>h w (cr _ a)]
  split
  .rfl
  .let:x≠n:=by ext rfl;show h v bU
   simp[this]
theorem a4m{kindOf:Str->Option iq}:∀{P:List Str}{vs:List Value}{i:Nat}{m:Str->Option Value},P.Nodup->P[i]?=bo x->vs[i]?=bo v->kindOf x=bo .local ->
  bindL kindOf (P.zip vs) m x=bo v
 |[],_,_,_,_,h,_,_=>by simp at h
 |_::_,[],_,_,_,_,h,_=>by simp at h
 |p::P,w::vs,0,m,nd,h1,h2,hk=>by
  simp at h1 h2;subst h1;subst h2
  change bindL kindOf (_::P.zip vs) m p=_
  unfold bindL;rw[a7F λv a=>(bV.mp nd).1 (de a).1,if_pos hk];simp
 |p::P,w::vs,i+1,m,nd,h1,h2,hk=>by
  unfold bindL;show a4m (bV.mp nd).2 ↑h1 (by simp_all) hk
theorem a4n{kindOf:Str->Option iq}:∀{P:List Str}{vs:List Value}{i:Nat}{m:Str->Option Value},P.Nodup->P[i]?=bo x->vs[i]?=bo v->kindOf x≠bo .local ->
  bindC kindOf (P.zip vs) m x=bo v
 |[],_,_,_,_,h,_,_=>by simp at h
 |_::_,[],_,_,_,_,h,_=>by simp at h
 |p::P,w::vs,0,m,nd,h1,h2,hk=>by
  simp at h1 h2;subst h1;subst h2
  change bindC kindOf (_::P.zip vs) m p=_
  unfold bindC;rw[a7G λv a=>(bV.mp nd).1 (de a).1,if_neg hk];simp
 |p::P,w::vs,i+1,m,nd,h1,h2,hk=>by
  unfold bindC;show a4n (bV.mp nd).2 ↑h1 (by simp_all) hk
noncomputable def start(N:List Str)(vs:List V):St:=vs.map bo++dU (N.length-vs.length) lR
noncomputable def cxOf(CX:CXT)(P:ik)(w:World)(K:Fg)(mg:Str->Option Value)(base:Heap)(N:List Str)(qual:Str)(scope:Scope)(f:Addr)(cd:Value)(A:Around)(outer:List Env)(s:Shared)(H:Hp)(E:XK):Cx where
 prog:=P
 w:=w
 K:=K
 mg:=mg
 base:=base
 A:=A.deeper (envOfC qual scope s.heap.objs.size f cd)
 N:=N
 s₀:=s
 H₀:=H
 env:=envOfC qual scope s.heap.objs.size f cd
 outer:=outer
 stack:=envOfC qual scope s.heap.objs.size f cd::outer
 ex:=[]
 calm:=lS
 fn:=λ_=>lS
 pn:=[]
 xe:=λe s'=>wpAny (model P w) (A.deeper (envOfC qual scope s.heap.objs.size f cd)) (j6 (envOfC qual scope s.heap.objs.size f cd) e) (λ_ s''=>CX outer H s E e s'') (λe' s''=>CX outer H s E e' s'') s'
def a5T{sc:Scope}(h:sc.names.lookup x=bo .cell):∃c,(j7 n sc.names []).lookup x=bo c:=by
 show dW.mp (PySem.W.cellsFrom_some sc.names n [] (.inl h))
def a4o{K:Fg}
  (S:FnScope N ps scope) (hd:A.handled=lR) (e0:Env0 P w K mg base A outer s H) (hl:vs.length=ps.length) (r:Vals vs us)
  (x:InCallC s s.heap.objs.size (bindL (envOfC qual scope s.heap.objs.size f cd).kindOf (ps.zip us) λ_=>lR) (j7 (s.heap.objs.size+1) scope.names []) (bindC (envOfC qual scope s.heap.objs.size f cd).kindOf (ps.zip us) λ_=>lR) s1) :
  Inv (cxOf CX P w K mg base N qual scope f cd A outer s H lU) [] (start N vs) H s1:=by
 let G:ps.length<=N.length:=by let:=congrArg bn S.pre;rw[bh]at this;lia
 let(m,J,rfl,C):=x.done;let l:∀b:Addr,b∉(cxOf CX P w K mg base N qual scope f cd A outer s H lU).ex:=λb z=>absurd (show b∈([]) from z) (by simp);show((e0.mod,S.kind,rfl,rfl,aQ _,λy z c m d=>?_,λy g=>?_,λy c _ h=>?_,λ_=>hd,Around.frames_deeper e0.frames,.inr (rfl,rfl),λb z=>absurd z (l b),e0.bs,e0.bsz,λb _ _=>l b,λb z=>absurd z (l b),e0.funs,e0.frf),
  rfl,e0.bare,Un.kept C,(_,x.toInCall.ns,λi y v m d I=>?_),λy c h=>(_,x.cell y c h),e0.hok.fresh (aQ _),λy c h=>?_,λp j=>absurd (show p∈([]) from j) (by simp),e0.hok.kept C,?_)
 .show name_of_addr x.apart (PySem.mem_of_lookup m) (PySem.mem_of_lookup d)
 .let g:=g;let g||g:=g
  .show a5T g
  .show absurd rfl (S.nofree _ (PySem.mem_of_lookup g))
 .show bT (x.above y c (PySem.mem_of_lookup h))
 .let o:i<vs.length:=by
   unfold start at d
   by_cases o:i<vs.length
   .show o
   .rw[cI (by simp_all)]at d;rw[List.getElem?_replicate]at d
    split at d<;>cases d
  let F:vs[i]?=bo v:=by
   unfold start at d;rw[cJ ↑o,aR]at d;cases e:vs[i]? with
   |none=>rw[e]at d;cases d
   |some a=>rw[e]at d;cases d;rfl
  let(u,B,D):=r.get F;let j:ps[i]?=bo y:=by
   rw[<- S.pre,List.getElem?_take_of_lt (by lia)];show m
  let t:ps.Nodup:=S.pre▸S.nd.sublist (dX _ _);show(u,D,?_);let k||k:=S.par y (bp j)
  .show .inl (k,a4m t j B k)
  .let(c,e):=a5T k;show .inr (.inl k,c,e,?_);let q:=x.cell y c e;rw[a4n t j B (by change scope.names.lookup y≠_;rw[k];decide)]at q;show q
 .show e0.hok.fresh (bT (x.above y c (PySem.mem_of_lookup h)))
 .unfold start
  change _=N.length
  rw[bg,aN,List.length_replicate]
  lia
def b2t{K:Fg}{dV kV doc pm cdv ct oc:Value}
 (lk:K.lookup f=bo (oc,od,.func (PySem.W.fnOf name qual params body scope dV kV doc pm an cdv ct),osl)) (hcd:PySem.W.codeIn K cdv qual=lS) (S:FnScope N ps scope)
    (len:∀vs H Q E,sp vs H Q E->vs.length=ps.length)
    (hbody:∀(A:Around)(outer:List Env)(s:Shared)(H:Hp)(vs:List V)(Q:VK)(E:XK),Room k (A.deeper (envOfC qual scope s.heap.objs.size f cdv))->sp vs H Q E ->
      ∃t,PSs (cxOf CX P w K mg base N qual scope f cdv A outer s H E) body t/\t { nx:=λ_ H'=>Q .non H',rt:=Q } (start N vs) H) :
    FnOk P w K mg base CX (k+1) f (PySem.W.fnOf name qual params body scope dV kV doc pm an cdv ct) ps sp:=by
  show(len,λA a s H L F m Q E z g R r i=>?_);let C:=g.mod.kin.keeps λb o e=>(g.bs b o e).1;let h:∀y∈ps.zip F,scope.names.lookup y.1=bo .local\/(scope.names.lookup y.1=bo .cell/\((j7 (s.heap.objs.size+1) scope.names []).lookup y.1).isSome=lS):=by
    ext⟨n,v⟩ G;let q||q:=S.par n (de G).1
    . show .inl q
    . show .inr (q,PySem.W.cellsFrom_some _ _ _ (.inl q))
  show codeAny_call_function z.depth (C _ _ lk) rfl S.co S.gen rfl (PySem.W.codeRec_of C hcd) (R _ _ _ _ (wpAny_newFunctionEnv_cells S.kind h λaa Y B x=>?_));subst Y;show((g.mod.nolimit.keeps λb o e=>(g.bs b o e).1).keeps x.toInCall.keep,codeAny_func ?_);let(t,T,U):=hbody A a s H m Q E (z.deeper _) i;let I:Inv (cxOf CX P w K mg base N qual scope f cdv A a s H E) [] _ H B:=a4o S z.hd g (len _ _ _ _ i) r x;show iw (T [] B _ H _ I U) (λX p c=>?_) λe p c=>c;let j:∀{σ':St}{d:Hp}{v:V}{u:Value},Inv (cxOf CX P w K mg base N qual scope f cdv A a s H E) [] σ' d p->RelV v u->Q v d->CE a P w H s Q u p:=
    λ{σ' d v u} J l q=>(v,d,J.os,J.bare,J.base,J.hok,l,q)
  cases X with
  |ret u=>
    let(v,σ',d,J,l,q):=c;show j J l q
  |next=>
    let(σ',d,J,q):=c;show j (v:=V.non) J rfl q
  |brk=>
    let(_,_,_,q):=c;show aX q
  |cont=>
    let(_,_,_,q):=c;show aX q
section
variable{x:Str}{p:Pos}{e:Expr}{t:TA}{id T:String}{r:List V->Hp->VK->Prop}
def tCB(r:List V->Hp->VK->Prop)(t:TA):TE:=fun σ H Q=>t σ H λvs H1=>r vs H1 Q
def a3M(hc:CallR X (.builtin id) r)(hg:Gl X x)(hm:X.mg x=lR)(hv:iH x=bo (.builtin id))(ha:PA X (e::es) t)(hn:x≠"__name__")(hdb:(x==("__debug__":Str))=lT)
  (he:ii (e::es) X.env=(lT,eval e X.env,)::ii es X.env) (hpl:(backTo pos (ii es X.env)).any (·.1)=lT):PE X (.Call (.Name x p) (e::es) [] pos) (tCB r t):=by
 ext a s σ H Q I h;show jH (a2N I hg hm hv ?_ hn hdb);show PyProof.Rows.callWith_builtin1 (thn (ha pos a s σ H _ I h) λg c (b,f,i,d,j)=>hc a c σ f b g Q i d j) he hpl
def a1W(hc:CallR X (.type T) r)(hg:Gl X x)(hm:X.mg x=lR)(hv:iH x=bo (.type T))(ha:PA X (e::es) t)(hn:x≠"__name__")(hdb:(x==("__debug__":Str))=lT)
  (he:ii (e::es) X.env=(lT,eval e X.env,)::ii es X.env) (hpl:(backTo pos (ii es X.env)).any (·.1)=lT):PE X (.Call (.Name x p) (e::es) [] pos) (tCB r t):=by
 ext a s σ H Q I h;show jH (a2N I hg hm hv ?_ hn hdb);show PyProof.Rows.callWith_type1 (thn (ha pos a s σ H _ I h) λj f (b,g,d,i,c)=>hc a f σ g b j Q d i c) he hpl
end
namespace HT
def cat_tup(ht:IsTup s.heap t vs.toArray)(hb:IsTup s.heap b ws.toArray)(hv:vs≠[])
  (h1:ws=[]->Q (.ref t) s) (h2:ws≠[]->Q (.ref s.heap.objs.size) { s with heap:=s.heap.push { cls:=.type "tuple",data:=.seq (vs++ws).toArray } })
  (hsz:vs.length+ws.length<=ie):wpAny (model prog w) A (iA .Add (.ref t) (.ref b)) Q E s:=by
 let((r,j,p,k),c,l,n,m):=id ht;let((q,f,o,h),a,g,i,d):=id hb;subst l m g d;let e:vs.toArray++ws.toArray=(vs++ws).toArray:=by simp
 by_cases hw:ws=[]
 .show concat_meets (_,c,rfl) (_,a,rfl) noFill_tuple_add seq_tuple_add PySem.F.slot_tuple_add PySem.F.entry_tuple_add (PySem.F.args_tuple_add_2 _ _)
   (tuple_addW1 t b vs.toArray ws.toArray n i j f k h (by simp_all) (by grind)) (c,a,h1 hw)
 .show concat_meets (_,c,rfl) (_,a,rfl) noFill_tuple_add seq_tuple_add PySem.F.slot_tuple_add PySem.F.entry_tuple_add (PySem.F.args_tuple_add_2 _ _)
   (tuple_addW2 t b vs.toArray ws.toArray n i j f k h (by simp_all) (by simp_all) (by cbv)) (c,a,?_)
  rw[e];show h2 hw
noncomputable def sIx(n d:Nat):Option Int->Nat
 |none=>d
 |some v=>if v<0 then (v+(n:Int)).toNat else min v.toNat n
def sIx_none(n d:Nat):sIx n d lR=d:=rfl
def sIx_nat(n d k:Nat):sIx n d (bo (k:Int))=min k n:=rfl
def b8x(n d:Nat)(hd:d<=n)(o:Option Int):sIx n d o<=n:=by
 cases o with
 |none=>show hd
 |some v=>
  change (if v<0 then (v+n).toNat else min v.toNat n)<=n
  by_cases hv:v<0
  .grind
  .rw[if_neg hv];show fM _ _
def a7H(v:Int)(n d:Nat):(if v<0 then max (v+(n:Int)) 0 else min v (n:Int))=((sIx n d (bo v):Nat):Int):=by grind [sIx]
def a6M(lo hi:Option Int)(n:Nat):im.Slice.sliceAdjust lo hi 1 (n:Int)=(((sIx n 0 lo:Nat):Int),((sIx n n hi:Nat):Int),):=by
 unfold im.Slice.sliceAdjust;show Prod.ext ?_ ?_
 .cases lo with
  |none=>rfl
  |some v=>show a7H v n 0
 .cases hi with
  |none=>rfl
  |some v=>show a7H v n n
def a6N(i j:Nat):im.Slice.slicePlaces (i:Int) (j:Int) 1=j-i:=by
 unfold im.Slice.slicePlaces;simp
 split<;>lia
def a3r(p:IsPart v o)(h:Q o s):wpAny (model prog w) A (im.Slice.slicePartIndex v) Q E s:=by
 cases p with
 |none=>show slicePart_none h
 |int i t=>show slicePart_int h
def a2D{lo hi:Option Int}{n:Nat}(hs:s.heap.IsSliceOf sl vl vu .none)(pl:IsPart vl lo)(pu:IsPart vu hi)
  (h:Q (((sIx n 0 lo:Nat):Int),1,sIx n n hi-sIx n 0 lo,) s):wpAny (model prog w) A (im.Slice.sliceApplied (.ref sl) (pure (n:Int))) Q E s:=by
 let(d,a,c,b):=id hs;show hZ (hZ (iN a b rfl (hZ (iN a b rfl (hZ (iN a b rfl (h9 (hZ (slicePart_none (hZ (a3r pl (hZ (a3r pu (hZ (h9 ?_)))))))))))))))
 change wpAny _ _ (match im.Slice.sliceAdjust lo hi 1 n with | (lo,hi,)=>pure (lo,_,im.Slice.slicePlaces lo hi 1,)) _ _ s
 rw[a6M lo hi n]
 change wpAny _ _ (pure _) _ _ s
 rw[a6N];show h9 h
def a9T(xs:Array Value)(i k:Nat):((bt k).filterMap λ(m:Nat)=>xs[((i:Int)+(m:Int)*1).toNat]?).toArray=((xs.toList.drop i).take k).toArray:=by
 let e:(λ(m:Nat)=>xs[(i+(m:Int)*1).toNat]?)=λm=>xs[i+m]?:=by
  funext m
  let:(i+(m:Int)*1).toNat=i+m:=by lia
  rw[this]
 rw[e]
 let:=pick_run xs i k
 rw[eJ]at this;let a:(_∘λx=>i+x)=λm=>xs[i+m]?:=rfl;rw[a]at this;rw[this]
def getItem_tuple_cut{lo hi:Option Int}(ht:IsTup s.heap t items)(hs:s.heap.IsSliceOf sl vl vu .none)(pl:IsPart vl lo)(pu:IsPart vu hi)
  (hw:¬ (sIx items.size 0 lo=0/\sIx items.size items.size hi=items.size))
  (h:Q (.ref s.heap.objs.size) { s with heap:=s.heap.push { cls:=.type "tuple",data:=.seq ((items.toList.drop (sIx items.size 0 lo)).take (sIx items.size items.size hi-sIx items.size 0 lo)).toArray } })
  (hsz:items.size<=ie):wpAny (model prog w) A (jI (.ref t) (.ref sl)) Q E s:=by
 let a:sizeOk (.seq ((items.toList.drop (sIx items.size 0 lo)).take (sIx items.size items.size hi-sIx items.size 0 lo)).toArray):=by
  change ((items.toList.drop (sIx items.size 0 lo)).take (sIx items.size items.size hi-sIx items.size 0 lo)).toArray.size<=ie
  rw[bE,bh,bI,bu];cbv
 let(f,d,e,g):=id hs;let b:s.TypeIs (.ref sl) "slice":=(f,d,e);unfold jI
 try with_reducible show iB ?_
 show hZ (wpAny_sequenceKey ht.typeIs (by decide) ?_);show hZ (wpAny_callSpecial?_slot ht.typeIs PyProof.Rows.slot_tuple_getitem
  (iI PyProof.Rows.slot_tuple_getitem ht.typeIs entry_tuple_getitem ?_ (args_tuple_getitem _ _)))
 change wpAny _ _ (im.Tuple.tupleItemsOf _ >>= _) _ _ s
 show hZ (tupleItemsOf_ ht (hZ (j8 b (hZ (a2D hs pl pu ?_)))));let c:¬ ((((sIx items.size 0 lo):Int)==0&&(1:Int)==1&&(sIx items.size items.size hi-sIx items.size 0 lo)==items.size)=lS):=by grind
 change wpAny _ _ (if (((sIx items.size 0 lo):Int)==0&&(1:Int)==1&&(sIx items.size items.size hi-sIx items.size 0 lo)==items.size)=lS then _ else _) _ _ s
 rw[if_neg c,a9T]
 first
  |show hZ (i5 (h9 (_,rfl,h9 h)) a)
  |show hZ _
  |show hZ _
  |show hZ _
end HT
abbrev TO:=St->Hp->(Option Int->Hp->Prop)->Prop
def PO(X:Cx)(e:Option Expr)(t:TO):Prop:=
 ∀(pins:List (Addr×Obj))(s:Shared)(σ:St)(H:Hp)(Q:Option Int->Hp->Prop),Inv X pins σ H s->t σ H Q ->
  wpAny (model X.prog X.w) X.A (evalPart e X.env) (λu s'=>∃o H',Inv X pins σ H' s'/\IsPart u o/\Q o H') X.xe s
def b2u:TO:=λ_ H Q=>Q lR H
def b7a(t:TE):TO:=fun σ H Q=>t σ H λx H1=>∃i,x=.int i/\Q (bo i) H1
def a3s:∀{us:List Value},Vals (ns.map V.int) us->iE us ns:=by
 induction ns with
 |nil=>ext a r;cases r;show .nil
 |cons n ns ih=>
  ext a r;cases r with
  |cons r1 r2=>
   let(t,e):=r1;subst e;show .cons n t (ih r2)
section
variable{e:Expr}{te:TE}{lo hi:Option Expr}{tl th:TO}{p2:Pos}
def b2v:PO X lR b2u:=λa s σ H Q I h=>h9 (lR,H,I,.none,h)
def b2w(h:PE X e te):PO X (bo e) (b7a te):=by
 ext a s σ H Q I b;show thn (h a s σ H _ I b) λu j (x,d,f,c,g)=>?_;let(i,rfl,q):=g;let(t,rfl):=c;show(bo i,d,f,.int i t,q)
def SlR(X:Cx)(r:V->Option Int->Option Int->Hp->VK->Prop):Prop:=
 ∀(pins:List (Addr×Obj))(s:Shared)(σ:St)(H:Hp)(x:V)(v vl vu:Value)(lo hi:Option Int)(sl:Addr)(Q:VK),Inv X pins σ H s->RelV x v->s.heap.IsSliceOf sl vl vu .none->IsPart vl lo->IsPart vu hi->r x lo hi H Q ->
  ∃T id,typeLookup (.type T) "__getitem__"=pure (bo (.builtin id))/\s.TypeIs v T/\wpAny (model X.prog X.w) X.A (jI v (.ref sl)) (EP X pins σ Q) X.xe s
def SlR.or(h:SlR X r)(h':SlR X r'):SlR X (λx lo hi H Q=>r x lo hi H Q\/r' x lo hi H Q):=by
 ext a s σ H x v b k d j c Q I g i e f q;let q||q:=q
 .show h a s σ H x v b k d j c Q I g i e f q
 .show h' a s σ H x v b k d j c Q I g i e f q
def tSl(r:V->Option Int->Option Int->Hp->VK->Prop)(te:TE)(tl th:TO):TE:=fun σ H Q=>te σ H λx H1=>tl σ H1 λl H2=>th σ H2 λu H3=>r x l u H3 Q
def a9U(hr:SlR X r)(he:PE X e te)(hl:PO X lo tl)(hu:PO X hi th):PE X (.Subscript e (.Slice lo hi lR p2) pos) (tSl r te tl th):=by
 ext a s σ H Q I h;show Subscript_ (thn (he a s σ H _ I h) λv o (x,D,j,t,J)=>(wpAny_Slice (thn (hl a o σ D _ j J) λf B (l,p,m,n,G)=>thn (hu a B σ p _ m G) λd c (u,g,y,z,k)=>(h9 ?_))));let C:Inv X a σ g { c with heap:=c.heap.push { cls:=.type "slice",data:=.fields #[f,d,.none] } }:=y.kept λb L q=>Heap.get?_push_of_some _ q;let(T,M,F,E,i):=hr a { c with heap:=c.heap.push { cls:=.type "slice",data:=.fields #[f,d,.none] } } σ g x v f d l u c.heap.objs.size Q C t (Heap.IsSliceOf.new ..) n z k;show tail_any E F i (by with_unfolding_all rfl)
noncomputable def cutV(xs:List V)(lo hi:Option Int):List V:=(xs.drop (HT.sIx xs.length 0 lo)).take (HT.sIx xs.length xs.length hi-HT.sIx xs.length 0 lo)
def a2O(xs:List V)(lo hi:Option Int):(cutV xs lo hi).length<=xs.length:=by
 unfold cutV;rw[bh,bI]
 lia
def rSlT(K:Fg):V->Option Int->Option Int->Hp->VK->Prop:=λx lo hi H Q=>∃a xs,x=.ref a/\SqT K H a xs /\
 ¬ (HT.sIx xs.length 0 lo=0/\HT.sIx xs.length xs.length hi=xs.length)/\∀p,H p=lR->Q (.ref p) (upd H p (.tup (cutV xs lo hi)))
def sl_tup:SlR X (rSlT X.K):=by
 ext p s σ H x v A w e f z Q I k m l t h;let(a,d,rfl,n,u,q):=h;cases k;let(j,r,g,i):=I.tuple n;let c:j.toArray.size=d.length:=bE▸r.length.symm;show("tuple",_,PyProof.Rows.slot_tuple_getitem.lookup,g.typeIs,?_);show HT.getItem_tuple_cut g m l t (c▸u) ?_ (by simp_all);rw[c];show(.ref s.heap.objs.size,_,I.laid (λb y q=>Heap.get?_push_of_some _ q) (aQ _) ?_,rfl,q _ (I.hok.fresh (aQ _)));show(bj (a2O d e f) i,_,(r.drop _).take _,IsTup.new _ _)
def b7b(K:Fg):R2:=λx y H Q=>∃a b xs ys,x=.ref a/\y=.ref b/\SqT K H a xs/\SqT K H b ys/\xs≠[]/\xs.length+ys.length<=ie /\
 (ys=[]->Q (.ref a) H)/\(ys≠[]->∀p,H p=lR->Q (.ref p) (upd H p (.tup (xs++ys))))
def Vals.nil_iff(r:Vals xs us):us=[]↔xs=[]:=by
 cases r with
 |nil=>simp
 |cons _ _=>simp
def op_catT:OpR X (iA .Add) (b7b X.K):=by
 ext r s σ H x y v u Q I p B h;let(a,b,k,j,rfl,rfl,t,g,f,e,m,n):=h;cases p;cases B;let(C,d,i,_):=I.tuple t;let(l,c,A,_):=I.tuple g;show HT.cat_tup i A (λz=>f (d.nil_iff.mp z)) (λz=>(.ref a,H,I,rfl,m (c.nil_iff.mp z))) (λz=>?_) (by rw[<- d.length,<- c.length];show e);show(.ref s.heap.objs.size,_,I.laid (λb D q=>Heap.get?_push_of_some _ q) (aQ _) ?_,rfl,n (λw=>z (c.nil_iff.mpr w)) _ (I.hok.fresh (aQ _)));show(by rw[bg];show e,_,d.append c,IsTup.new _ _)
end
noncomputable def ixN(n:Nat)(i:Int):Option Nat:=if 0<=i then (if i<n then bo i.toNat else lR) else if -(n:Int)<=i then bo (i+n).toNat else lR
noncomputable def atI{α:Type}(xs:List α)(i:Int):Option α:=(ixN xs.length i).bind λj=>xs[j]?
def a7I(h:ixN n i=bo j):seqIndex? i n=bo j/\j<n/\-(n:Int)<=i/\i<n:=by
 unfold ixN at h
 by_cases h0:0<=i
 .rw[if_pos h0]at h
  by_cases h1:i<n
  .rw[if_pos h1]at h;let e:=bo.inj h;show(by rw[kK h0 h1,e],by lia,by lia,h1)
  .simp_all
 .rw[if_neg h0]at h
  by_cases h1:-n<=i
  .rw[if_pos h1]at h;let e:=bo.inj h;show(by rw[kL (by lia) h1,e],by lia,h1,by lia)
  .simp_all
def a5b{α:Type}{xs:List α}{v:α}(h:atI xs i=bo v):∃j,seqIndex? i xs.length=bo j/\xs[j]?=bo v/\j<xs.length/\-(xs.length:Int)<=i/\i<xs.length:=by
 unfold atI at h;cases e:ixN xs.length i with
 |none=>rw[e]at h;cases h
 |some j=>
  rw[e]at h;let(d,c,b,a):=a7I e;show(j,d,h,c,b,a)
def a0F{α:Type}{xs:List α}{j:Nat}{v:α}(h:xs[j]?=bo v):atI xs (j:Int)=bo v:=by
 let a:=(aT.mp h).1;let e:ixN xs.length j=bo j:=by
  unfold ixN;rw[if_pos (by simp),if_pos (by lia)];simp
 unfold atI;rw[e];show h
def a7J(b:Expr):Prop:=∀o i,subscripted b lT o i=operate [o,i] (jI o i)
def IxR(X:Cx)(r:R2):Prop:=
 ∀(value slice:Expr)(pins:List (Addr×Obj))(s:Shared)(σ:St)(H:Hp)(x y:V)(v u:Value)(Q:VK),Inv X pins σ H s->RelV x v->RelV y u->r x y H Q ->
  subscripted slice lT v u=operate [v,u] (jI v u)->wpAny (model X.prog X.w) X.A (subscriptTail value slice v u) (EP X pins σ Q) X.xe s
def MtR(X:Cx)(id:String)(r:V->List V->Hp->VK->Prop):Prop:=
 ∀(pins:List (Addr×Obj))(s:Shared)(σ:St)(H:Hp)(x:V)(xs:List V)(v:Value)(us:List Value)(Q:VK),Inv X pins σ H s->RelV x v->Vals xs us->r x xs H Q ->
  wpAny (model X.prog X.w) X.A (call (.builtin id) (v::us)) (EP X pins σ Q) X.xe s
section
variable{a b:Expr}{ta tb:TE}
def IxR.or(h:IxR X r)(h':IxR X r'):IxR X (λx y H Q=>r x y H Q\/r' x y H Q):=by
 ext b a c s σ H x y v u Q I e f q d;let q||q:=q
 .show h b a c s σ H x y v u Q I e f q d
 .show h' b a c s σ H x y v u Q I e f q d
def MtR.or{id:String}(h:MtR X id r)(h':MtR X id r'):MtR X id (λx xs H Q=>r x xs H Q\/r' x xs H Q):=by
 ext a s σ H x e v b Q I c d q;let q||q:=q
 .show h a s σ H x e v b Q I c d q
 .show h' a s σ H x e v b Q I c d q
def b7c(hr:IxR X r)(ha:PE X a ta)(hb:PE X b tb)(hs:a7J b):PE X (.Subscript a b pos) (tOp r ta tb):=λc s σ H Q I h=>Subscript_ (binT ha hb I h λv u d x y f g i e q=>hr a b c d σ f x y v u Q g i e q (hs _ _))
def rIxL(K:Fg):R2:=λx y H Q=>∃p xs i v,x=.ref p/\y=.int i/\SqL K H p xs/\atI xs i=bo v/\Q v H
def rIxT(K:Fg):R2:=λx y H Q=>∃p xs i v,x=.ref p/\y=.int i/\SqT K H p xs/\atI xs i=bo v/\Q v H
def rIxS:R2:=λx y H Q=>∃z i c,x=.str z/\y=.int i/\z.length<=ie/\atI z.cps.toList i=bo c/\Q (.str ⟨#[c]⟩) H
def ix_list:IxR X (rIxL X.K):=by
 ext n m a s σ H x y v u Q I F o h f;let(p,M,i,z,rfl,rfl,C,J,q):=h;cases F;let(t,rfl):=o;let(l,r,d,R):=I.list C;let(j,b,B,L,D,A):=a5b J;let(w,g,k):=r.get B;let G:=r.length;let N:=a4l;let c:EP X a σ Q w s:=(z,H,I,k,q)
 by_cases h0:0<=i
 .let e:i.toNat=j:=by
   rw[kK h0 A]at b;show bo.inj b
  show item_listR d.isList h0 (by lia) (by rw[e];o_head g) c f
 .let e:(i+(l.toArray.size:Int)).toNat=j:=by
   rw[kL (by lia) D]at b;rw[bE,<- G];show bo.inj b
  show kM d.isList.typeIs slot_list_getitem.lookup
   (wpAny_getItem_list_neg d.isList (by lia) (by simp_all) (by lia) (by rw[e];o_head g) (rfl,c)) f
def ix_tup:IxR X (rIxT X.K):=by
 ext f e a s σ H x y v u Q I A D h k;let(p,J,i,z,rfl,rfl,B,C,q):=h;cases A;let(t,rfl):=D;let(E,r,d,M):=I.tuple B;let(j,l,g,G,F,L):=a5b C;let(w,m,c):=r.get g;let N:=a4l;let b:EP X a σ Q w s:=(z,H,I,c,q);show kM d.typeIs slot_tuple_getitem.lookup
  (getItem_tuple d (by lia) (by lia) (by rw[bE,<- r.length];show l) (by simp_all) (rfl,b)) k
def b4H:IxR X rIxS:=by
 ext b d r s σ H x y v u Q I o f h p;let(z,i,c,rfl,rfl,A,n,q):=h;let(t,rfl):=o;let(C,rfl):=f;let(j,a,l,D,g,w):=a5b n;let k:z.cps.toList.length=z.length:=by simp[Str.length]
 rw[k]at a g w;let B:=a4l;show tail_any (jl s z t) slot_str_getitem.lookup (getItem_str (by grind) (by rw[a];o_head l) (.str ⟨#[c]⟩,H,I.tok _,(_,rfl),q)) p
def rIx(K:Fg):R2:=λx y H Q=>rIxL K x y H Q\/rIxT K x y H Q\/rIxS x y H Q
def b4I:IxR X (rIx X.K):=ix_list.or (ix_tup.or b4H)
def a6O(its:List Value)(n j:Nat)(u:Value):Obj.mapSeq (·.setIfInBounds j u) { cls:=.type "list",data:=.seq its.toArray n }={ cls:=.type "list",data:=.seq (its.set j u).toArray n }:=by
 simp[Obj.mapSeq]
def Inv.lst{pins:List (Addr×Obj)}{σ:St}{H:Hp}{s:Shared}{p:Addr}{xs:List V}(I:Inv X pins σ H s)(h:H p=bo (.lst xs)) :
  ∃(its:List Value)(n:Nat),Vals xs its/\s.heap.get? p=bo { cls:=.type "list",data:=.seq its.toArray n }/\xs.length<=sizeLine:=by
 let(z,a,n,r,e):=I.hok p _ h;show(a,n,r,e,z)
def Inv.lstUpd{its its':List Value}(I:Inv X pins σ H s)(h:H p=bo (.lst xs))
  (ho:s.heap.get? p=bo { cls:=.type "list",data:=.seq its.toArray n }) (hf:f { cls:=.type "list",data:=.seq its.toArray n }={ cls:=.type "list",data:=.seq its'.toArray n' }) (r:Vals ys its') (hz:ys.length<=ie) (t:Nat) :
  Inv X pins σ (upd H p (.lst ys)) { s with heap:=s.heap.update p f,toks:=t }:=by
 let e:(s.heap.update p f).get? p=bo { cls:=.type "list",data:=.seq its'.toArray n' }:=by
  rw[Heap.get?_update_self f ho (by rw[hf]<;>rfl),hf]
 show I.write (by rw[h];trivial) (.inl rfl) (λb u a q=>(Heap.get?_update_other _ _ (Ne.symm a)).trans q) (_,e) ?_;show(hz,its',n',r,e)
def b7d:V->V->V->Hp->(Hp->Prop)->Prop:=λo i v H Q=>∃p xs k j,o=.ref p/\i=.int k/\H p=bo (.lst xs)/\ixN xs.length k=bo j/\Q (upd H p (.lst (xs.set j v)))
def a9V:PSet X b7d:=by
 ext d s σ H o i v D F u Q I x z C h;let(p,y,k,j,rfl,rfl,g,B,q):=h;cases x;let(t,rfl):=z;let(b,n,r,f,A):=I.lst g;let(a,E,m,w):=a7I B;let e:=r.length;let G:=a4l;let l:=
  I.lstUpd g f (a6O b n j u) (r.set C j) (by simp_all) s.toks
 by_cases h0:0<=k
 .let c:k.toNat=j:=by
   rw[kK h0 w]at a;show bo.inj a
  show PySem.W.ki_setAt f h0 (by lia) (by simp_all) (c▸(_,l,q))
 .let c:(k+(b.toArray.size)).toNat=j:=by
   rw[kL (by lia) m]at a;rw[bE,<- e];show bo.inj a
  show PySem.W.ki_setBack f (by lia) (by simp_all) (by lia) (c▸(_,l,q))
def a4p(lo hi:Option Int)(n:Nat):(jm lo hi lR n).1=((HT.sIx n 0 lo:Nat):Int)/\(jm lo hi lR n).2.1=((HT.sIx n n hi:Nat):Int)/\(jm lo hi lR n).2.2=1:=by
 show(?_,?_,rfl)
 .cases lo with
  |none=>simp[jm,HT.sIx]
  |some i=>
   simp only[jm,HT.sIx,eK]
   by_cases h:i<0
   .grind
   .grind
 .cases hi with
  |none=>simp[jm,HT.sIx]
  |some i=>
   simp only[jm,HT.sIx,eK]
   by_cases h:i<0
   .grind
   .grind
def a3N(its:List Value)(lo hi:Option Int):slicePick its.toArray lo hi lR=((its.drop (HT.sIx its.length 0 lo)).take (HT.sIx its.length its.length hi-HT.sIx its.length 0 lo)).toArray:=by
 let(a,c,b):=a4p lo hi its.toArray.size;unfold slicePick;rw[a,c,b];simp only[sliceRange_one,pick_run]<;>rfl
def rSlL(K:Fg):V->Option Int->Option Int->Hp->VK->Prop:=λx lo hi H Q=>∃a xs,x=.ref a/\SqL K H a xs/\∀p,H p=lR->Q (.ref p) (upd H p (.lst (cutV xs lo hi)))
def sl_list:SlR X (rSlL X.K):=by
 ext p s σ H x v u w d e y Q I m i n j h;let(a,c,rfl,k,q):=h;cases m;let(t,r,g,l):=I.list k;let f:=r.length;show("list",_,slot_list_getitem.lookup,g.isList.typeIs,?_);show wpAny_getItem_list_slice g.isList i n j .none (by simp) ?_ (by grind);rw[a3N,<- f];show(.ref s.heap.objs.size,_,I.laid (λb z q=>Heap.get?_push_of_some _ q) (aQ _) ?_,rfl,q _ (I.hok.fresh (aQ _)));show(bj (a2O c d e) l,_,0,(r.drop _).take _,Heap.get?_push_size _ rfl)
def CallR.or(h:CallR X f r)(h':CallR X f r'):CallR X f (λxs H Q=>r xs H Q\/r' xs H Q):=by
 ext a s σ H c d Q I b q;let q||q:=q
 .show h a s σ H c d Q I b q
 .show h' a s σ H c d Q I b q
def a4q:CallR X (.type "list") (λxs H Q=>∃p ys,xs=[.ref p]/\(SqL X.K H p ys\/SqT X.K H p ys)/\∀l,H l=lR->Q (.ref l) (upd H l (.lst ys))):=by
 ext z s σ H C D Q I r h;let(p,v,rfl,j,q):=h;let(u,rfl,B):=a1F r;cases B;let k:∀a,Vals v a->v.length<=ie->∀c f,_ ->
   c.get? s.heap.objs.size=bo { cls:=.type "list",dict:=lR,data:=.seq a.toArray f,slots:=#[] }->EP X z σ Q _ { s with heap:=c }:=λa d g c f i e=>
  (.ref s.heap.objs.size,_,I.laid i (aQ _) (show ObjOk X.prog X.w _ c _ (.lst v) from (g,a,f,d,e)),rfl,q _ (I.hok.fresh (aQ _)))
 let j||j:=j
 .let(a,d,y,g):=I.list j;let t:=d.length;let(o,x,A,n,m):=y.isList;show call_list_seq p (.inl rfl) x A m (λc f i e=>k a d g c f i e) (by grind)
 .let(a,d,y,g):=I.tuple j;let t:=d.length;let(o,x,A,n,m):=y;show call_list_seq p (.inr rfl) x A m (λc f i e=>k a d g c f i e) (by grind)
def tyV(K:Fg)(T:String)(x:V)(H:Hp):Prop:=match x with
 |.str _=>T="str"
 |.int _=>T="int"
 |.ref p=>(T="list"/\∃xs,SqL K H p xs)\/(T="tuple"/\∃o,K.lookup p=bo o/\o.cls=.type "tuple"/\o.dict=lR) \/
   (T="dict"/\((∃kvs,H p=bo (.dK kvs))\/(∃kvs,H p=bo (.dT kvs))\/∃ob kvs,H p=bo (.frz ob (.dK kvs))))\/(T="set"/\∃S n,H p=bo (.set S n))
 |_=>False
def b4J(I:Inv X pins σ H s)(r:RelV x v)(ty:tyV X.K T x H) :
  s.TypeIs v T/\∀a,v=.ref a->∃ob,s.heap.get? a=bo ob/\ob.dict=lR:=by
 cases x with
 |str z=>
  let(t,rfl):=r;cases (ty);show(jl s z t,λ_ e=>nomatch e)
 |int i=>
  let(t,rfl):=r;cases (ty);show(typeIs_int s i t,λ_ e=>nomatch e)
 |ref p=>
  cases r;let(rfl,xs,hq)||(rfl,o,hk,hc,f)||(rfl,hk)||(rfl,S,n,hk):=ty
  .let(h,_,g,_):=I.list hq;show(g.isList.typeIs,λa e=>?_);cases e;let(o,n,e,c,f,_):=g;show(o,e,f)
  .show((o,I.kIn p o hk,hc),λa e=>?_);cases e;show(o,I.kIn _ o hk,f)
  .let z:∃o,s.heap.get? p=bo o/\o.ExactDict:=by
    let(kvs,hk)||(kvs,hk)||(ob,kvs,hk):=hk
    .let(_,_,_,_,o,_,_,e,b,_):=I.hok p _ hk;show(o,e,b)
    .let(_,_,_,_,o,_,_,e,b,_):=I.hok p _ hk;show(o,e,b)
    .let(_,_,_,_,_,o,_,_,e,b,_):=I.hok p _ hk;show(o,e,b)
   let(o,e,b):=z;show((o,e,b.1),λa d=>?_);cases d;show(o,e,b.2.1)
  .let(o,_,_,_,e,b,_):=I.hok p _ hk;show((o,e,b.1),λa d=>?_);cases d;show(o,e,b.2.1)
 |_=>show aX ty
def tBM(K:Fg)(T:String)(r:V->List V->Hp->VK->Prop)(to:TE)(t:TA):TE:=fun σ H Q=>to σ H λx H1=>tyV K T x H1/\t σ H1 λxs H2=>r x xs H2 Q
variable{o e:Expr}{to:TE}{t:TA}{name:Str}{apos cpos:Pos}{T id:String}{r:V->List V->Hp->VK->Prop}
def b7e(pa:PlainAttrs T)(slot:Slot T name id)(hty:typeOf (.builtin id)=pure (.type "method_descriptor"))(hm:MtR X id r)(ho:PE X o to)(ha:PA X (e::es) t)
  (hbase:kO o name X.env (eval o X.env)=eval o X.env)
  (hfew:((backTo cpos (ii (e::es) X.env)).all (λx=>!x.1)&&(kP cpos (kQ [] X.env)).all (λx=>x.1.isSome)
   && decide ((e::es).length+([]:List jk).length+(if ([]:List jk).isEmpty then 0 else 1)<30))=lS)
  (hline:(apos.endLine==cpos.line)=lS) (hs:ii (e::es) X.env=(lT,eval e X.env,)::ii es X.env) (hplain:(backTo cpos (ii es X.env)).any (·.1)=lT) :
  PE X (.Call (.Attribute o name apos) (e::es) [] cpos) (tBM X.K T r to t):=by
 ext a s σ H Q I h;show wpAny_Call_method_late hbase hfew hline rfl (thn (ho a s σ H _ I h) λv k (x,w,b,c,u,j)=>?_);let(g,n):=b4J b c u;show(T,id,pa,slot,hty,g,n,?_);let d:=ha cpos a k σ w _ b j;rw[hs]at d ⊢;show Calls.callWith_builtin (by change (lT||(backTo cpos _).any _)=lT;rw[hplain]<;>rfl) (Calls.evalArgs_plain (thn d λi m (q,l,y,f,p)=>hm a m σ l x q v i Q y c f p))
end
def MtM(X:Cx)(id:String)(r:V->List V->Hp->VK->Prop):Prop:=
 ∀(pins:List (Addr×Obj))(s:Shared)(σ:St)(H:Hp)(x:V)(xs:List V)(v:Value)(us:List Value)(Q:VK),Inv X pins σ H s->RelV x v->Vals xs us->r x xs H Q ->
  wpAny (model X.prog X.w) X.A (call (.builtin id) (v::us)) (EP X pins σ Q) X.xe s
def Vals.one:∀{x:V}{us:List Value},Vals [x] us->∃u,us=[u]/\RelV x u:=by
 ext x us h;cases h with
 |cons r h=>cases h;show(_,rfl,r)
def Vals.two:∀{x y:V}{us:List Value},Vals [x,y] us->∃u v,us=[u,v]/\RelV x u/\RelV y v:=by
 ext x y a h;cases h with
 |cons r h=>cases h with
  |cons q h=>cases h;show(_,_,rfl,r,q)
def Vals.zero:∀{us:List Value},Vals [] us->us=[]:=by
 ext us h;cases h;rfl
def Vals.dropLast(h:Vals xs us):Vals xs.dropLast us.dropLast:=by
 induction h with
 |nil=>show .nil
 |cons r t ih=>
  cases t with
  |nil=>show .nil
  |cons q t'=>show .cons r ih
theorem Vals.eraseIdx:∀{xs:List V}{us:List Value}(i:Nat),Vals xs us->Vals (xs.eraseIdx i) (us.eraseIdx i)
 |_,_,_,.nil=>.nil
 |_,_,0,.cons _ t=>t
 |_,_,i+1,.cons r t=>.cons r (Vals.eraseIdx i t)
def Vals.reverse(h:Vals xs us):Vals xs.reverse us.reverse:=by
 induction h with
 |nil=>show .nil
 |cons r t ih=>rw[dg,dg];show Vals.append ih (.cons r .nil)
section
variable{σ:St}{l b:Addr}{xs ys:List V}
def Inv.lset{its its':List Value}(I:Inv X pins σ H s)(hH:H l=bo (.lst xs))
  (e:s.heap.get? l=bo { cls:=.type "list",data:=.seq its.toArray n }) (hf:f its.toArray=its'.toArray) (hv:Vals ys its') (hz:ys.length<=ie) :
  Inv X pins σ (upd H l (.lst ys)) { s with heap:=s.heap.update l (Obj.mapSeq f),toks:=t' }:=by
 let q:=PySem.IsL.update e f;rw[hf]at q;show I.write (hH▸trivial) (.inl rfl) (λc u a b=>(Heap.get?_update_other s.heap _ (Ne.symm a)).trans b) (_,q) ?_;show(hz,its',_,hv,q)
def Inv.lnew(I:Inv X pins σ H s)(hv:Vals ys its)(hz:ys.length<=ie) :
  Inv X pins σ (upd H s.heap.objs.size (.lst ys)) { s with heap:=s.heap.push { cls:=.type "list",data:=.seq its.toArray },toks:=t' }:=
 I.laid (λ_ _ q=>Heap.get?_push_of_some _ q) (aQ _) (hz,its,0,hv,Heap.get?_push_size _ rfl)
def Inv.fresh(I:Inv X pins σ H s):H s.heap.objs.size=lR:=I.hok.fresh (aQ _)
def Inv.lstM(I:Inv X pins σ H s)(hH:H l=bo (.lst xs)):xs.length<=ie/\∃(its:List Value)(n:Nat),Vals xs its/\xs.length=its.length/\s.heap.get? l=bo { cls:=.type "list",data:=.seq its.toArray n }:=by
 let(z,a,n,r,e):=I.hok l _ hH;show(z,a,n,r,r.length,e)
end
def b2x:V->List V->Hp->VK->Prop:=λx vs H Q=>∃l xs y,x=.ref l/\vs=[y]/\H l=bo (.lst xs)/\xs.length<ie/\Q .non (upd H l (.lst (xs++[y])))
def a4r:MtM X "list.append" b2x:=by
 ext c s σ H x k v o Q I f d h;let(l,j,y,rfl,rfl,b,i,q):=h;cases f;let(u,rfl,g):=d.one;let(z,a,n,r,m,e):=I.lstM b;show call_meets F.slot_list_append (_,e,rfl) F.entry_list_append (F.args_list_append_2 _ _) (PySem.list_append l a.toArray n u (by grind)) (e,?_);show(.non,_,I.lset b e (by simp) (r.append (.cons g .nil)) ?_,rfl,q);rw[bg,fN]
 lia
def rCat:R2:=λx y H Q=>∃l b xs zs,x=.ref l/\y=.ref b/\H l=bo (.lst xs)/\H b=bo (.lst zs)/\xs.length+zs.length<=ie/\∀p,H p=lR->Q (.ref p) (upd H p (.lst (xs++zs)))
def b4K:OpR X (iA .Add) rCat:=by
 ext i s σ H x y v u Q I f k h;let(l,b,C,w,rfl,rfl,m,d,A,q):=h;cases f;cases k;let(z,c,n,r,t,e):=I.lstM m;let(B,a,D,o,p,g):=I.lstM d;show PySem.P.add_list e g ?_ (by grind);let j:c.toArray++a.toArray=(c++a).toArray:=by simp
 rw[j];show(.ref _,_,I.lnew (r.append o) (by grind),rfl,q _ I.fresh)
namespace Att
open PySem PySem.W PySem.Calls PyProof.Rows
def a2P:∀(ns:List Int)(vs:List Value),WellAll lU h vs (ns.map WData.int)->iE vs ns:=by
 ext c
 induction c with
 |nil=>
  ext d w;cases w;show .nil
 |cons n c ih=>
  ext d w;cases w with
  |cons a b=>
   cases a;show .cons _ _ (ih _ b)
def a7K{l:OpenLaw}(hn:l.most=bo n)
  (hpre:l.row.toRowW.claim.pre args=lS) (hwl:WellAll lU h vals args) :
  ∃a vs ns,vals=[Value.ref a]/\args=[WData.list (ns.map WData.int)]/\h.get? a=bo { cls:=.type "list",data:=.seq vs.toArray }/\iE vs ns/\ns.length<=n:=by
 let i:=(pre_splitW hpre).1;let g:l.pre.holds [] { args:=args }=lS:=(pre_splitW hpre).2;let(d,r,rfl,j,m):=hasAllW_cons i;obtain rfl:=hasAllW_nil m;let(p,rfl,o):=hasW_list j;let(b,rfl):=items_int o;let f:b.length<=n:=by
  let c:(WTm.not (.lt (.lit (.int n)) (.len (.arg 0)))).holds [] { args:=[.list (b.map .int)] }=lS:=by
   let c:=(holds_andW g).1;rw[hn]at c;show c
  let e:=condW_of c (w_not (w_lt w_lit (w_len_list (w_arg rfl))))
  first
   | (rw[decide_eq_true k]at e;show absurd e (by simp))
   | (simp at e;cbv)
 cases hwl with
 |cons w1 w2=>
  cases w2;cases w1 with
  |list ho hall=>show(_,_,b,rfl,rfl,ho,a2P b _ hall,f)
def a7L(l:OpenLaw)(args:List WData):l.row.toRowW.claim.post args (.bool lS) args=lS:=
 postW_of
  (show WShape.has [] _ .bool=lS by first |rfl |decide |simp)
  (w_eq_bool (w_res rfl) w_lit) rfl
def attach_call{l:OpenLaw}
  (hn:l.most=bo n) (hdf:d.params.defaults=[])
  (call:∀(w:World)(s₀ sv:Shared)(mg mb:Str->Option Value)(fa:Addr)(o:Obj)(pm cd doc:Value)(a:Addr)(vs:List Value)(ns:List Int),
   Ground q loose [] XP w s₀ mg mb sv.heap->YP w sv.heap ->
   sv.heap.get? fa=bo o->o.data=.func (docDef d.name d.params d.body d.scope pm cd doc)->sv.heap.CodeRec cd d.name->mg d.name=bo (.ref fa) ->
   sv.heap.get? a=bo { cls:=.type "list",data:=.seq vs.toArray }->iE vs ns->ns.length<=n->sv.gens=#[] ->
   iS (model l.prog w) jo (.call (.ref fa) ([.ref a],[])) (λr s'=>r=.ok (.ret (.bool lS))/\OldK sv.heap s'.heap/\s'.os=sv.os/\iX s'.gens) sv) :
  WalkO q loose XP YP l.row.toRowW d [] (λf vs=>PySem.call f vs):=by
 ext w C s D y G Y x o F v i Q H L B k h j N u J U c A S m T;obtain rfl:Q=.none:=Dflts.none h hdf;obtain rfl:H=.none:=Dflts.noKw h;let(a,I,E,rfl,rfl,g,b,e):=a7K hn c m;show enter_call (i7 (call w C s D y x o F v i a I E G Y L (fd_plain B) k j g b e N) λr V R=>?_);let(rfl,t,z,M):=R;show(.inl (.bool lS,.bool lS,[],rfl,λ_=>rfl,.bool lS,a7L l _,λ_=>(cu.nil,λ_ p=>(nomatch p))),t,z,M)
end Att
def a7M:∀{vs:List Value}{ns:List Int},iE vs ns->Vals (ns.map V.int) vs:=by ext z0 y0 x0;induction x0 with
 |nil=>show .nil
 |cons n t h I0=>show .cons (t,rfl) (I0)
def Only(H:Hp):Prop:=∀b,H b=lR\/∃o xs,H b=bo (.frz o (.lst xs))
noncomputable def a3O(s:Stmt)(j:Nat):Stmt:=match s with
 |.ClassDef _ _ _ body _ _ _ _ _ _ _=>body.getD j (.Pass (0,0,0,0))
 |_=>.Pass (0,0,0,0)
noncomputable def a1K(s:Stmt):Arguments:=match s with
 |.FunctionDef _ a _ _ _ _ _ _ _ _=>a
 |_=>{ posonlyargs:=[],args:=[],vararg:=lR,kwonlyargs:=[],kw_defaults:=[],kwarg:=lR,defaults:=[] }
noncomputable def a0I(s:Stmt):List Stmt:=match s with
 |.FunctionDef _ _ b _ _ _ _ _ _ _=>b
 |_=>[]
noncomputable def a0i(s:Stmt):Scope:=match s with
 |.FunctionDef _ _ _ _ _ _ sc _ _ _=>sc
 |_=>{ kind:=.function,names:=[],isGenerator:=lT,isCoroutine:=lT }
abbrev CX0:CXT:=λ_ _ _ _ _ _=>False
abbrev E0:XK:=λ_ _ _=>False
def b7f:a2y CX0 X E0:=λ_ _ _ _ _ _ _ h=>h.elim
structure Fun (K:Fg) (x qual:Str) (st:Stmt) (f:Addr) (fd:iG):Prop where
 ex:∃(oc:Value)(od:Option Addr)(kV doc pm:Value)(an:Option Addr)(cdv ct:Value)(osl:Array (Option Value)),
  fd=PySem.W.fnOf x qual (a1K st) (a0I st) (a0i st) .none kV doc pm an cdv ct/\K.lookup f=bo (oc,od,.func fd,osl)/\PySem.W.codeIn K cdv qual=lS
 kp:PySem.W.keepIn K (.ref f)=lS
section
variable{K:Fg}{mg:Str->Option Value}{base:Heap}
def Fun.ok{st:Stmt}(F:Fun K x qual st f fd)(S:FnScope N ps (a0i st))(len:∀vs H Q E,sp vs H Q E->vs.length=ps.length)
  (hbody:∀(cdv:Value)(A:Around)(outer:List Env)(s:Shared)(H:Hp)(vs:List V)(Q:VK)(E:XK),Room k (A.deeper (envOfC qual (a0i st) s.heap.objs.size f cdv))->sp vs H Q E ->
   ∃t,PSs (cxOf CX0 P w K mg base N qual (a0i st) f cdv A outer s H E).nox (a0I st) t/\t { nx:=λ_ H'=>Q .non H',rt:=Q } (start N vs) H):FnOk P w K mg base CX0 (k+1) f fd ps sp:=by
 let(n,u,r,l,m,o,c,p,j,rfl,i,d):=F.ex;show b2t i d S len λA a s H g Q E e b=>?_;let(t,h,q):=hbody c A a s H g Q E e b;show(t,h.nox,q)
def Fun.binds{st:Stmt}(F:Fun K x qual st f fd)
  (h:∀(kV doc pm:Value)(an:Option Addr)(cdv ct:Value)(us:List Value),us.length=ps.length->jw (PySem.W.fnOf x qual (a1K st) (a0I st) (a0i st) .none kV doc pm an cdv ct) (us,[])=pure (ps.zip us)):Binds K fd ps []:=by
 let(k,l,g,a,e,d,b,c,i,rfl,m,j):=F.ex;show .all (h g a e d b c)
def b1A{st:Stmt}{kV doc pm cdv ct:Value}(l:K.lookup f=bo (oc,od,.func (PySem.W.fnOf x qual (a1K st) (a0I st) (a0i st) .none kV doc pm an cdv ct),osl))
  (c:PySem.W.codeIn K cdv qual=lS) (k:PySem.W.keepIn K (.ref f)=lS):Fun K x qual st f (PySem.W.fnOf x qual (a1K st) (a0I st) (a0i st) .none kV doc pm an cdv ct):=((oc,od,kV,doc,pm,an,cdv,ct,osl,rfl,l,c),k)
end
def a0e(h:n<=1000):n<sizeLine:=dY h (by decide)
def pv(i:Nat)(hN:X.N[i]?=bo x:=by rfl)(hv:Vis X.env.scope x:=by first |show cK rfl |show cf (cK rfl) |show cf (cf rfl))(hd:(x==("__debug__":Str))=lT:=by decide)
  (hcd:(x==("__classdict__":Str))=lT:=by decide):PE X (.Name x pos) (tVar i):=a7p hN hv hd hcd
def Same(H H':Hp):Prop:=∀b o,H b=bo o->H' b=bo o
def Same.refl(H:Hp):Same H H:=λ_ _ h=>h
def Same.trans(a:Same H H1)(b:Same H1 H2):Same H H2:=λc o h=>b c o (a c o h)
def Same.free(e:Same H H')(h:H' l=Option.none):H l=Option.none:=by
 cases q:H l with
 |none=>rfl
 |some o=>
  rw[e l o q]at h;cases h
def Same.seq{K:Fg}(e:Same H H')(h:SqL K H a xs):SqL K H' a xs:=by
 let(h||(o,h))||h:=h
 .show .inl (.inl (e _ _ h))
 .show .inl (.inr (o,e _ _ h))
 .show .inr h
section
variable{κ:Type}[DecidableEq κ]
noncomputable def valV(kvs:List (κ×V))(k:κ):Option V:=(kvs.find? λkv=>decide (kv.1=k)).map (·.2)
noncomputable def putK(kvs:List (κ×V))(k:κ)(v:V):List (κ×V):=
 if (kvs.any λkv=>decide (kv.1=k))=lS then kvs.map (λkv=>if kv.1=k then (kv.1,v,) else kv) else kvs++[(k,v,)]
noncomputable def b4L(kvs:List (κ×V))(k:κ):List (κ×V):=kvs.filter λkv=>decide (kv.1≠k)
def a3P{k:κ}(e:p.1=k):valV (p::r) k=bo p.2:=by simp[valV,cg,e]
def a3Q{k:κ}(e:¬ p.1=k):valV (p::r) k=valV r k:=by simp[valV,cg,e]
def a9W(k:κ):∀kvs:List (κ×V),(kvs.any λkv=>decide (kv.1=k))=(valV kvs k).isSome:=by ext z0;induction z0 with
 |nil=>show rfl
 |cons p r I0=>
  rw[cT]
  by_cases e:p.1=k
  .simp only[a3P e,decide_eq_true e,Bool.true_or,Option.isSome_some]
  .rw[a3Q e,decide_eq_false e,fO];show I0
def a1d(kvs:List (κ×V))(k:κ)(v:V):(putK kvs k v).length<=kvs.length+1:=by grind [putK]
def RelO.isSome_eq(r:RelO o u):o.isSome=u.isSome:=by
 cases o with
 |none=>cases u with
  |none=>rfl
  |some _=>show (r).elim
 |some _=>cases u with
  |none=>show (r).elim
  |some _=>rfl
def RelO.getD(r:RelO o u)(rd:RelV d d'):RelV (o.getD d) (u.getD d'):=by
 cases o with
 |none=>cases u with
  |none=>show rd
  |some _=>show (r).elim
 |some _=>cases u with
  |none=>show (r).elim
  |some _=>show r
noncomputable def KV.val(r:KV kvs vs)(k:κ):RelO (valV kvs k) (iT vs k):=by
 induction r with
 |nil=>show True.intro
 | @cons p q ps qs h t ih=>
  let(c,d):=h
  by_cases e:p.1=k
  .let a:=c.symm.trans e;let b:iT (q::qs) k=bo q.2:=by simp[iT,a]
   rw[a3P e,b];show d
  .let a:¬ q.1=k:=λz=>e (c.trans z);let b:iT (q::qs) k=iT qs k:=by simp[iT,a]
   rw[a3Q e,b];show ih
noncomputable def KV.any(r:KV kvs vs)(k:κ):(kvs.any λkv=>decide (kv.1=k))=vs.any λkv=>decide (kv.1=k):=by
 induction r with
 |nil=>rfl
 |cons h t ih=>rw[cT,cT,ih,h.1]
def KV.repl(r:KV kvs vs)(k:κ)(ry:RelV y u) :
  KV (kvs.map λkv=>if kv.1=k then (kv.1,y,) else kv) (vs.map λkv=>if kv.1=k then (kv.1,u,) else kv):=by
 induction r with
 |nil=>show .nil
 | @cons p q ps qs h t ih=>
  rw[aZ,aZ];show .cons ?_ ih;let(a,b):=h
  by_cases e:p.1=k
  .rw[if_pos e,if_pos (a.symm.trans e)];show(a,ry)
  .rw[if_neg e,if_neg (λz=>e (a.trans z))];show(a,b)
noncomputable def KV.put(r:KV kvs vs)(k:κ)(ry:RelV y u):KV (putK kvs k y) (stored vs k u):=by
 unfold putK stored;rw[r.any k]
 by_cases e:(vs.any λkv=>decide (kv.1=k))=lS
 .rw[if_pos e,if_pos e];show r.repl k ry
 .rw[if_neg e,if_neg e];show Paired.snoc r (rfl,ry)
def KV.drop(r:KV kvs vs)(k:κ):KV (b4L kvs k) (without vs k):=by
 unfold b4L without
 induction r with
 |nil=>show .nil
 | @cons p q ps qs h t ih=>
  let(c,d):=h;rw[cU,cU]
  by_cases e:p.1=k
  .simp_all
  .let f:¬ q.1=k:=λz=>e (c.trans z);let a:decide (p.1≠k)=lS:=by simp[e]
   let b:decide (q.1≠k)=lS:=by simp[f]
   rw[if_pos a,if_pos b];show .cons (c,d) ih
theorem KV.keys{kvs:List (κ×V)}(r:KV kvs vs):kvs.map (·.1)=vs.map (·.1):=by
 induction r with
 |nil=>rfl
 |cons h t ih=>rw[aZ,aZ,ih,h.1]
def KV.length(r:KV kvs vs):kvs.length=vs.length:=Paired.length r
end
def a5c(r:RelV (kV k) u):(a0k P w).is k u=lS:=by
 match k,r with
 |.inl (bo i),r=>let(t,e):=(r);subst e;show a48 P w i t
 |.inl lR,r=>rw[r];rfl
 |.inr x,r=>let(t,e):=(r);subst e;show a49 P w x t
def a7N:∀{ks:List Key}{us:List Value},Vals (ks.map kV) us->ItemsAre (a0k P w) ks us:=by ext z0;induction z0 with
 |nil=>ext _ r;rw[bF]at r;cases r;show .nil
 |cons k ks I0=>
  ext _ r;cases r with
  |cons h t=>show .cons (a5c h) (I0 t)
abbrev KT(H:Hp):List (List Key×V)->List (List Key×Addr×Value)->Prop:=Paired λp q=>p.1=q.1/\H q.2.1=bo (.tup (p.1.map kV))/\RelV p.2 q.2.2
noncomputable def KT.val(r:KT H kvs xs)(k:List Key):RelO (valV kvs k) ((atKey xs k).map (·.2)):=by
 induction r with
 |nil=>show True.intro
 | @cons p q ps qs h t ih=>
  let(c,_,d):=h
  by_cases e:p.1=k
  .let a:=c.symm.trans e;let b:atKey (q::qs) k=bo q.2:=by simp[atKey,a]
   rw[a3P e,b];show d
  .let a:¬ q.1=k:=λz=>e (c.trans z);let b:atKey (q::qs) k=atKey qs k:=by simp[atKey,a]
   rw[a3Q e,b];show ih
def KT.repl(r:KT H kvs xs)(k:List Key)(ry:RelV y u) :
  KT H (kvs.map λkv=>if kv.1=k then (kv.1,y,) else kv) (xs.map (putAt k u)):=by
 induction r with
 |nil=>show .nil
 | @cons p q ps qs h t ih=>
  rw[aZ,aZ];show .cons ?_ ih;let(a,b,c):=h;unfold putAt
  by_cases e:p.1=k
  .rw[if_pos e,if_pos (a.symm.trans e)];show(a,b,ry)
  .rw[if_neg e,if_neg (λz=>e (a.trans z))];show(a,b,c)
noncomputable def KT.put(r:KT H kvs xs)(k:List Key)(hb:H b=bo (.tup (k.map kV)))(ry:RelV y u) :
  KT H (putK kvs k y) (storedH xs k b u):=by
 let e:(kvs.any λa=>decide (a.1=k))=(atKey xs k).isSome:=by
  rw[a9W,(r.val k).isSome_eq,Option.isSome_map]
 unfold putK storedH;rw[e]
 by_cases q:(atKey xs k).isSome=lS
 .rw[if_pos q,if_pos q];show r.repl k ry
 .rw[if_neg q,if_neg q];show Paired.snoc r (rfl,hb,ry)
def KT.keeps(r:KT H kvs xs)(ht:∀b ys,H b=bo (.tup ys)->H' b=bo (.tup ys)):KT H' kvs xs:=
 Paired.mapP r λ_ _ z=>(z.1,ht _ _ z.2.1,z.2.2)
section
variable{h:Heap}{a:Addr}
def b4M(ok:HOk P w H h)(e:Rd H a u):ObjOk P w H h a u:=e.ok ok
def a6P(ok:HOk P w H h)(e:Rd H a (.dK kvs)):kvs.length<=ie/\(a==iC)=lT/\∃vs,KV kvs vs/\h.DictOf (a0k P w) a vs:=
 b4M ok e
def a9X(ok:HOk P w H h)(e:H a=bo (.dK kvs)):kvs.length<=ie/\(a==iC)=lT/\∃vs,KV kvs vs/\h.DictOf (a0k P w) a vs:=a6P ok (.inl e)
def a5U(ok:HOk P w H h)(e:H a=bo (.tup (ks.map kV))):(jD (a0k P w)).is h ks a:=by
 let(_,b,r,o,d,c,n,f):=(ok a _ e);show(o,b.toArray,n,d,c,f,↑(a7N r))
def b2y(ok:HOk P w H h)(e:Rd H a (.dT kvs)):kvs.length<=ie/\(a==iC)=lT /\
  ∃xs,KT H kvs xs/\h.DictOfH (jD (a0k P w)) a xs:=by
 let(z,y,g,r,o,d,s,j,k,f,n,i):=(b4M ok e);show(z,y,g,r,o,d,s,j,k,f,n,λx b=>?_,i);let c:∀{l:List _}{m:List _},KT H l m->∀x∈m,(jD (a0k P w)).is h x.1 x.2.1:=by
  ext l m q
  induction q with
  |nil=>ext x b;show nomatch b
  | @cons p q ps qs hq t ih=>
   ext x b;let e||b:=aO.mp b
   .subst e;show a5U ok (by simp_all)
   .show ih x b
 show c r x b
def b7g(ok:HOk P w H h)(e:H a=bo (.dT kvs)):kvs.length<=ie/\(a==iC)=lT /\
  ∃xs,KT H kvs xs/\h.DictOfH (jD (a0k P w)) a xs:=b2y ok (.inl e)
end
def DGet(H:Hp)(a:Addr)(y:V)(r:Option V):Prop:=
 (∃kvs k,Rd H a (.dK kvs)/\y=kV k/\r=valV kvs k)\/∃kvs k b,Rd H a (.dT kvs)/\y=.ref b/\H b=bo (.tup (k.map kV))/\r=valV kvs k
def DPut(H:Hp)(a:Addr)(y v:V)(H':Hp):Prop:=
 (∃kvs k,H a=bo (.dK kvs)/\y=kV k/\kvs.length<ie/\H'=upd H a (.dK (putK kvs k v))) \/
 ∃kvs k b,H a=bo (.dT kvs)/\y=.ref b/\H b=bo (.tup (k.map kV))/\kvs.length<ie/\H'=upd H a (.dT (putK kvs k v))
def DGet.k{k:Key}(e:H a=bo (.dK kvs)):DGet H a (kV k) (valV kvs k):=.inl (kvs,k,.inl e,rfl,rfl)
def DGet.t{k:List Key}(e:H a=bo (.dT kvs))(eb:H b=bo (.tup (k.map kV))):DGet H a (.ref b) (valV kvs k):=.inr (kvs,k,b,.inl e,rfl,eb,rfl)
def DPut.k{k:Key}(e:H a=bo (.dK kvs))(hl:kvs.length<ie):DPut H a (kV k) v (upd H a (.dK (putK kvs k v))):=.inl (kvs,k,e,rfl,hl,rfl)
def DPut.t{k:List Key}(e:H a=bo (.dT kvs))(eb:H b=bo (.tup (k.map kV)))(hl:kvs.length<ie) :
  DPut H a (.ref b) v (upd H a (.dT (putK kvs k v))):=.inr (kvs,k,b,e,rfl,eb,hl,rfl)
section
variable{σ:St}{a:Addr}{y v:V}{u r:Value}{o:Option V}
def Inv.big(I:Inv X pins σ H s):iC<s.heap.objs.size:=by
 let h:=(I.mod.glob.keeps I.bk).lt;show dG (by decide) h
def a5d(I:Inv X pins σ H s)(mu:Mut (H a))(hs:Heap.SameBut a s.heap h')(he:∃q,h'.get? a=bo q)(new:ObjOk X.prog X.w (upd H a ob) h' a ob) :
  Inv X pins σ (upd H a ob) { s with heap:=h',toks:=t' }:=
 I.write mu (.inl rfl) (λb q c z=>(hs.2 b c).trans z) he new
def b1B(z:kvs.length<=ie)(hd:(a==iC)=lT)(rel:KV kvs vs)(dd:h'.DictOf (a0k P w) a vs) :
  ObjOk P w H' h' a (.dK kvs):=(z,hd,vs,rel,dd)
def a7O(hu:A.units+1<cLine)(I:Inv X pins σ H s)(g:DPut H a y v H')(ry:RelV y u)(rv:RelV v r)(h:∀s',Inv X pins σ H' s'->Q () s') :
  wpAny (model X.prog X.w) A (jX (.ref a) u r) Q E s:=by
 let(kvs,k,e,ey,l,eH)||(kvs,k,b,e,ey,eb,l,eH):=g
 .subst ey eH;let(z,m,F,d,p):=a9X I.hok e;let o:F.length<=sizeLine:=d.length▸z;let n:(putK kvs k v).length<=sizeLine:=by let:=a1d kvs k v;lia
  show wpAny_setItem_pairs (a5c ry) p λx f j=>h _ ?_;let L:∃q,x.get? a=bo q:=by let(q,_,_,i,_):=f;show(q,i)
  show a5d I (e▸True.intro) j L (b1B n m (d.put k rv) f)
 .subst ey eH;cases (ry);let(z,m,D,d,p):=b7g I.hok e;let o:D.length<=sizeLine:=(Paired.length d)▸z;let n:(putK kvs k v).length<=sizeLine:=by let:=a1d kvs k v;lia
  show wpAny_setItem_heap (hsz:=o) (kR hu) (a5U I.hok eb) p λx f j=>h _ ?_;let(q,C,M,i,J,N,B,_,G):=f;show a5d I (e▸True.intro) j (q,i) (n,m,_,(d.put k eb rv).keeps λc R t=>?_,q,C,M,i,J,N,B,G);rw[a0f (b6U t e (λz=>nomatch z))];show t
end
def a5V(h:Heap)(hb:iC<h.objs.size):ObjOk P w H (h.push { cls:=.type "dict",data:=.dict #[] }) h.objs.size (.dK []):=
 (bv _,beq_eq_false_iff_ne.mpr (Ne.symm (aY hb)),[],.nil,Heap.DictOf.new h)
def b4N:TE:=λ_ H Q=>∀p,H p=lR->Q (.ref p) (upd H p (.dK []))
def a9Y:PE X (.Dict [] [] pos) b4N:=λb s σ H Q I h=>
 wpAny_Dict_empty (.ref s.heap.objs.size,_,I.laid (λ_ _ q=>Heap.get?_push_of_some _ q) (aQ _) (a5V s.heap I.big),rfl,h _ (I.hok.fresh (aQ _)))
noncomputable def b4O(kvs more:List (Key×V)):List (Key×V):=more.foldl (λacc kv=>putK acc kv.1 kv.2) kvs
def KV.merge:∀{more:List (Key×V)}{rs:List (Key×Value)}{kvs:List (Key×V)}{vs:List (Key×Value)},KV more rs->KV kvs vs->KV (b4O kvs more) (merged vs rs):=by
 ext d f a b r
 induction r generalizing a b with
 |nil=>ext q;show q
 | @cons p q ps qs h t ih=>
  ext c;let e:KV (putK a p.1 p.2) (stored b q.1 q.2):=by
   let:=c.put p.1 h.2
   rw[<- h.1];show this
  show ih e
structure M2 (X:Cx) (o:Expr) (m:Str) (apos:Pos) (e f:Expr) (cpos:Pos):Prop where
 base:kO o m X.env (eval o X.env)=eval o X.env
 few:((backTo cpos (ii [e,f] X.env)).all (λx=>!x.1)&&(kP cpos (kQ [] X.env)).all (λx=>x.1.isSome)
  && decide (([e,f]:List Expr).length+([]:List jk).length+(if ([]:List jk).isEmpty then 0 else 1)<30))=lS
 line:(apos.endLine==cpos.line)=lS
 trees:backTo cpos (ii [e,f] X.env)=[(lT,eval e X.env,),(lT,eval f X.env,)]
section
variable{σ:St}{a:Addr}{y d:V}{u r:Value}{o:Option V}
def b4P(hu:A.units+1<cLine)(I:Inv X pins σ H s)(g:DGet H a y o)(ry:RelV y u)(h:∀w' s',Inv X pins σ H s'->RelV (o.getD .non) w'->Q w' s') :
  wpAny (model X.prog X.w) A (call (.builtin "dict.get") [.ref a,u]) Q E s:=by
 let(kvs,k,e,ey,l)||(kvs,k,b,e,ey,eb,l):=g
 .subst ey;let(z,f,j,d,c):=a6P I.hok e;show jJ PySem.F.slot_dict_get c.typeIs PySem.F.entry_dict_get (PySem.F.args_dict_get_2 _ _) (meets_dict_get _ a (a5c ry) f) (_,c.mapOf,h _ _ (I.tok _) ?_);rw[l];show (d.val k).getD rfl
 .subst ey;cases (ry);let(z,f,i,d,c):=b2y I.hok e;show jJ PySem.F.slot_dict_get c.typeIs PySem.F.entry_dict_get (PySem.F.args_dict_get_2 _ _) (meetsH_dict_get _ a b f) (kR hu,k,i,a5U I.hok eb,c,h _ _ (I.tok _) ?_);rw[l];show (d.val k).getD rfl
def b4Q(hu:A.units+1<cLine)(I:Inv X pins σ H s)(g:DGet H a y o)(ry:RelV y u)(rd:RelV d r)(h:∀w' s',Inv X pins σ H s'->RelV (o.getD d) w'->Q w' s') :
  wpAny (model X.prog X.w) A (call (.builtin "dict.get") [.ref a,u,r]) Q E s:=by
 let(kvs,k,e,ey,l)||(kvs,k,b,e,ey,eb,l):=g
 .subst ey;let(z,i,m,f,c):=a6P I.hok e;show jJ PySem.F.slot_dict_get c.typeIs PySem.F.entry_dict_get (PySem.F.args_dict_get_3 _ _ _) (meets_dict_get_default _ a (a5c ry) i r) (_,c.mapOf,h _ _ (I.tok _) ?_);rw[l];show (f.val k).getD rd
 .subst ey;cases (ry);let(z,i,j,f,c):=b2y I.hok e;show jJ PySem.F.slot_dict_get c.typeIs PySem.F.entry_dict_get (PySem.F.args_dict_get_3 _ _ _) (meetsH_dict_get_default _ a b i r) (kR hu,k,j,a5U I.hok eb,c,h _ _ (I.tok _) ?_);rw[l];show (f.val k).getD rd
end
noncomputable def a2j(cap:List (Option Nat))(σ:St):St:=cap.map λo=>o.bind λj=>(σ[j]?).join
def a1e:St->St->Prop
 |[],[]=>True
 |none::a,_::b=>a1e a b
 |some x::a,y::b=>y=bo x/\a1e a b
 |_,_=>False
theorem a2k:∀{a b:St},a1e a b->a.length=b.length/\∀(i:Nat) v,a[i]?=bo (bo v)->b[i]?=bo (bo v)
 |[],[],_=>(rfl,λi v h=>by simp at h)
 |none::a,y::b,h=>by
  let c:=a2k (b:=b) h;show(by simp[c.1],λi v e=>?_);cases i with
  |zero=>simp at e
  |succ i=>o_head c.2 i v (by simp_all)
 |some x::a,y::b,h=>by
  let(d,h):=(h);let c:=a2k (b:=b) h;show(by simp[c.1],λi v e=>?_);cases i with
  |zero=>rw[d];o_head e
  |succ i=>o_head c.2 i v ↑e
 |[],_::_,h=>aX h
 |none::_,[],h=>aX h
 |some _::_,[],h=>aX h
theorem a1q:∀a:St,a1e a a
 |[]=>True.intro
 |none::a=>a1q a
 |some _::a=>(rfl,a1q a)
noncomputable def capB(N:List Str)(so sc:Scope)(N':List Str)(cap:List (Option Nat)):Bool:=
 decide (sc.kind=.function)&&decide N'.Nodup&&decide (cap.length=N'.length)&&(sc.names.all λy=>decide (y.2≠.cell)) &&
 (sc.names.all λy=>decide (y.2=.local->sc.names.lookup y.1=bo .local)) &&
 (sc.names.all λy=>decide (y.2=.free->so.names.lookup y.1=bo .cell\/so.names.lookup y.1=bo .free)) &&
 ((N'.zip cap).all λy=>match y.2 with |none=>lS |some j=>decide (N[j]?=bo y.1)&&decide (sc.names.lookup y.1=bo .free))
structure CapOk (N:List Str) (so sc:Scope) (N':List Str) (cap:List (Option Nat)):Prop where
 kind:sc.kind=.function
 nd:N'.Nodup
 len:cap.length=N'.length
 nocell:∀y∈sc.names,y.2≠.cell
 nms:∀y∈sc.names,y.2=.local->sc.names.lookup y.1=bo .local
 fre:∀y∈sc.names,y.2=.free->so.names.lookup y.1=bo .cell\/so.names.lookup y.1=bo .free
 cap:∀(i:Nat) x j,N'[i]?=bo x->cap[i]?=bo (bo j)->N[j]?=bo x/\sc.names.lookup x=bo .free
def a7P(h:capB N so sc N' cap=lS):CapOk N so sc N' cap:=by
 unfold capB at h;simp only[b7,decide_eq_true_eq,bL]at h;let((((((f,k),d),g),b),l),e):=h;show(f,k,d,g,b,l,λi x j c a=>?_);let m:(N'.zip cap)[i]?=bo (x,bo j,):=by rw[List.getElem?_zip_eq_some];show(c,a)
 o_head (e (x,bo j,) (bp m))
structure Lk (fr:List Addr) (ex:Addr->Prop) (h h':Heap):Prop where
 keep:∀b o,h.get? b=bo o->b∉fr->¬ ex b->h'.get? b=bo o
 slot:∀b o,h.get? b=bo o->¬ ex b->∃sl,h'.get? b=bo { o with slots:=sl }
 size:h.objs.size<=h'.objs.size
def Lk.refl{fr:List Addr}{ex:Addr->Prop}{h:Heap}:Lk fr ex h h:=(λ_ _ q _ _=>q,λ_ o q _=>(o.slots,q),aQ _)
def Lk.trans{fr:List Addr}{ex ex2:Addr->Prop}{h h1 h2:Heap}(a:Lk fr ex h h1)(b:Lk fr ex2 h1 h2)(i:∀x,ex2 x->ex x\/h.objs.size<=x):Lk fr ex h h2:=by
 let n:∀{x o},h.get? x=bo o->¬ ex x->¬ ex2 x:=λ{x o} q n z=>by
  let z||z:=i x z
  .show n z
  .show absurd (Heap.lt_size q) (Nat.not_lt.mpr z)
 show(λx o q f z=>b.keep x o (a.keep x o q f z) f (n q z),λx o q z=>?_,bj a.size b.size);let(sl,e):=a.slot x o q z;let(sl2,e2):=b.slot x _ e (n q z);show(sl2,e2)
theorem Lk.funs(k:Lk fr ex h h'):∀{l:List Env},(∀b∈frs l,¬ ex b)->h.FunFrames base l->h'.FunFrames base l
 |[],_,_=>True.intro
 |env::rest,hx,(hk,(L,o,hf,hn,ho,hd),hr)=>by
  let a:L∈frs (env::rest):=by change L∈(env::rest).filterMap _;rw[bY,hf];show .head _
  let(d,e):=k.slot L o ho (hx L a);show(hk,(L,_,hf,hn,e,hd),k.funs (λb c=>hx b (by change b∈(env::rest).filterMap _;rw[bY,hf];show .tail _ c)) hr)
def FlyT(e:Addr)(cls:Value)(T:Addr)(fl:Value)(h:Heap):Prop:=∃oe vs oT ts,h.get? e=bo oe/\(oe.cls=cls/\oe.dict=lR)/\oe.data=.fields vs/\vs[1]?=bo (.ref T)/\T≠e/\h.get? T=bo oT/\oT.data=.fields ts/\ts[3]?=bo fl
section
variable{M:Model}{base:Heap}{env:Env}{outer:List Env}{L e T:Addr}{cls fl:Value}{Q:Unit->Shared->Prop}
def a3h(f:Array Value->Array Value)(o:Obj):(o.mapFields f).dict=o.dict:=by
 unfold Obj.mapFields
 split<;>rfl
def b1C(hfr:A.frames=bo (env::outer))(hl:s.heap.FunFrames base (env::outer))(hf:env.frame=bo L)(he:s.heap.get? e=bo oe)(hn0:oe.dict=lR)(hd:oe.data=.fields vs)(hz:1<vs.size)
  (q:∀h' T',Lk (frs (env::outer)) (·=e) s.heap h'->FlyT e oe.cls T' (rawInt L) h'->s.heap.objs.size<=T'->Q () { s with heap:=h' }) :
  wpAny M A (do let a <- frameOf env;let pl <- entryPlaceOf L hn;let b <- EntryCells.newEntry head a .none (rawInt L) .none pl;setField (.ref e) 1 b) Q E s:=by
 let t:e∉frs _:=λD=>by
  let(_,F,i,C):=hl.mem D;rw[he]at i;cases i;show C vs hd
 show hZ (wpAny_frameOf_fun hfr hl hf λc g=>hZ (wpAny_entryPlaceOf λl m=>?_));unfold EntryCells.newEntry;show hZ (i5 ?_ (m.sizeOk5 _ _ _ _ _));generalize ht:([head,Value.ref L,.none,rawInt L,.none]++_).toArray=ts;let w:ts[3]?=bo (rawInt L):=by rw[<- ht];simp
 let p:=(g.2.1 e t).trans he;let z:=Heap.lt_size p;let j:=bZ z;let k:=Heap.get?_push_of_some { cls:=.type "traceback",dict:=lR,data:=.fields ts } p;let r:=Obj.data_mapFields hd (·.setIfInBounds 1 (Value.ref c.objs.size));let y:=(Heap.get?_update_other (c.push { cls:=.type "traceback",dict:=lR,data:=.fields ts }) (Obj.mapFields (·.setIfInBounds 1 (Value.ref c.objs.size))) (Ne.symm j)).trans (Heap.get?_push_size c rfl);show i8 k hd hz (q _ c.objs.size ?_ (_,_,_,_,(Heap.get?_update_self _ k (Obj.isFreed_of_fields r)),(Obj.cls_mapFields _ _,(a3h _ _).trans hn0),r,by simp[hz],j,y,rfl,w) (dE g.1.symm));let n:∀b o,b≠e->c.get? b=bo o->((c.push { cls:=.type "traceback",dict:=lR,data:=.fields ts }).update e (Obj.mapFields (·.setIfInBounds 1 (Value.ref c.objs.size)))).get? b=bo o:=λb o d f=>by
  rw[Heap.get?_update_other _ _ (Ne.symm d)];show Heap.get?_push_of_some _ f
 show(λb o f x d=>n b o d ((g.2.1 b x).trans f),λb o f d=>?_,?_)
 .let(v,B):=g.2.2 b o f;show(v,n b _ d B)
 .rw[Heap.size_update,<- g.1];show bT (by simp)
def a7Q(hT:FlyT e cls T fl s.heap)(q:∀h',(∀fr,Lk fr (·=T) s.heap h')->FlyT e cls T x h'->Q () { s with heap:=h' }):wpAny M A (setField (.ref T) 3 x) Q E s:=by
 let(l,m,oT,ts,r,p,j,k,i,hT,c,t):=hT;let h:=(eL.mp t).1;show i8 hT c h (q _ (λfr=>?_) ?_)
 all_goals let d:∀b,b≠T->(s.heap.update T (Obj.mapFields (·.setIfInBounds 3 x))).get? b=s.heap.get? b:=λb a=>Heap.get?_update_other _ _ (Ne.symm a)
 all_goals let n:=Heap.get?_update_self (Obj.mapFields (·.setIfInBounds 3 x)) hT (Obj.isFreed_of_fields (Obj.data_mapFields c _))
 .show(λb o a _ g=>(d b g).trans a,λb o a g=>(o.slots,(d b g).trans a),by rw[Heap.size_update];show aQ _)
 .show(l,m,_,_,(d e (Ne.symm i)).trans r,p,j,k,i,n,Obj.data_mapFields c _,by simp[h])
def FlyT.field{Q:Value->Shared->Prop}(h:FlyT e cls T fl s.heap)(q:Q (.ref T) s):wpAny M A (field (.ref e) 1) Q E s:=by
 let(_,_,_,_,a,_,b,c,_):=h;show iN a b c q
def FlyT.mark{Q:Value->Shared->Prop}(h:FlyT e cls T fl s.heap)(q:Q fl s):wpAny M A (PySem.field (.ref T) 3) Q E s:=by
 let(_,_,_,_,_,_,_,_,_,a,c,b):=h;show iN a c b q
def a9Z(hT:FlyT e cls T fl s.heap)(q:∀h',(∀fr,Lk fr (·=T) s.heap h')->FlyT e cls T (fo.elim .none λf=>rawInt f) h'->Q () { s with heap:=h' }):wpAny M A (setFlight (.ref e) fo) Q E s:=by
 show hZ (hT.field (a7Q hT q))
def a90(hfr:A.frames=bo (env::outer))(hl:s.heap.FunFrames base (env::outer))(hf:env.frame=bo L)(he:s.heap.get? e=bo oe)(hn0:oe.dict=lR)(hd:oe.data=.fields vs)(h1:vs[1]?=bo .none)
  (q:∀h' T',Lk (frs (env::outer)) (·=e) s.heap h'->FlyT e oe.cls T' (rawInt L) h'->s.heap.objs.size<=T'->Q () { s with heap:=h' }):wpAny M A (j9 (.ref e) env) Q E s:=by
 unfold j9;simp only[hf];show hZ (iN he hd h1 (b1C hfr hl hf he hn0 hd (eL.mp h1).1 q))
def b1D(hfr:A.frames=bo (env::outer))(hl:s.heap.FunFrames base (env::outer))(hf:env.frame=bo L)(hT:FlyT e cls T fl s.heap)
  (q:∀h' T',Lk (frs (env::outer)) (λb=>b=e\/b=T) s.heap h'->FlyT e cls T' (rawInt L) h'->T'=T\/s.heap.objs.size<=T'->Q () { s with heap:=h' }):wpAny M A (j9 (.ref e) env) Q E s:=by
 unfold j9;simp only[hf];show hZ (hT.field (hZ (hT.mark ?_)))
 by_cases c:(fl==rawInt L)=lS
 .rw[if_pos c];rw[show fl=rawInt L by o_head c]at hT;show h9 (q s.heap T .refl hT (.inl rfl))
 .rw[if_neg c];show hZ (a7Q hT λh a B=>?_);let l:=(a []).funs (λb v z=>by
   let(_,I,g,u):=hl.mem v;let(_,_,_,i,_,_,_,_,_,d,j,_):=hT;rw[z,d]at g;cases g;show u i j) hl
  let(D,G,F,i,C,p,t,r,H,d,j,J):=B;show b1C hfr l hf C p.2 t (eL.mp r).1 λy w k f z=>q y w ?_ (p.1▸f) (.inr (bj (a []).size z));let m:Lk (frs (env::outer)) (λb=>b=e\/b=T) s.heap h:=(λb o q f n=>(a _).keep b o q f λz=>n (.inr z),λb o q n=>(a []).slot b o q λz=>n (.inr z),(a []).size);show m.trans k λx z=>.inl (.inl z)
def a91(hfr:A.frames=bo (env::outer))(hl:s.heap.FunFrames base (env::outer))(hf:env.frame=bo L)(he:s.heap.get? e=bo oe)(hn0:oe.dict=lR)(hd:oe.data=.fields vs)(h1:vs[1]?=bo .none)
  (q:∀h' T',Lk (frs (env::outer)) (·=e) s.heap h'->FlyT e oe.cls T' .none h'->s.heap.objs.size<=T'->Q () { s with heap:=h' }):wpAny M A (j6 env (.ref e)) Q E s:=
 hZ (a90 hfr hl hf he hn0 hd h1 λ_ b k f z=>a9Z f λa d c=>q a b (k.trans (d _) λx w=>.inr (w▸z)) c z)
def b4R(hfr:A.frames=bo (env::outer))(hl:s.heap.FunFrames base (env::outer))(hf:env.frame=bo L)(hT:FlyT e cls T fl s.heap)
  (q:∀h' T',Lk (frs (env::outer)) (λb=>b=e\/b=T) s.heap h'->FlyT e cls T' .none h'->T'=T\/s.heap.objs.size<=T'->Q () { s with heap:=h' }):wpAny M A (j6 env (.ref e)) Q E s:=
 hZ (b1D hfr hl hf hT λ_ c k f z=>a9Z f λa g d=>q a c (k.trans (g _) λx w=>by
  rw[w];let z||z:=z
  .show .inl (.inr z)
  .show .inr z) d z)
end
def Un.lk(u:Un fs ex0 H0 H h0 h)(v:Lk fr ex h h')(hf:∀b∈fr,b∈fs\/h0.get? b=lR)(hx:∀b,ex b->b∈ex0\/h0.get? b=lR):Un fs ex0 H0 H h0 h':=by
 let g:∀{b o},h0.get? b=bo o->b∉ex0->¬ ex b:=λ{b o} q n z=>by
  let z||z:=hx b z
  .grind
  .grind
 show(λb o q n c a=>?_,λb o q n c a=>?_,u.free,λb o q a=>?_,u.tups,u.frzs,u.tbls)
 .show v.keep b o (u.keep b o q n c a) (λz=>?_) (g q a);let z||z:=hf b z
  .grind
  .grind
 .let(j,f):=u.slot b o q n c a;let(d,e):=v.slot b _ f (g q a);show(d,e)
 .let(i,f):=u.there b o q a;let(d,e):=v.slot b _ f (g q a);show(_,e)
def Un.gone(u:Un fs ex H0 H h0 h)(n:h.get? b=lR):b∈ex\/h0.get? b=lR:=by
 cases q:h0.get? b with
 |none=>show .inr rfl
 |some o=>
  by_cases c:b∈ex
  .show .inl c
  .let(a,e):=u.there b o q c;rw[n]at e;cases e
def Un.gone0(u:Un fs [] H0 H h0 h)(n:h.get? b=lR):h0.get? b=lR:=(u.gone n).resolve_left (by simp)
def ObjOk.is(x:ObjOk P w H h a o):∃ob,h.get? a=bo ob:=by
 cases o with
 |lst xs=>let(_,_,_,_,e):=x;show(_,e)
 |tup xs=>let(_,_,_,b,e,_):=x;show(_,e)
 |dK kvs=>let(_,_,_,_,o,_,_,e,_):=x;show(_,e)
 |dT kvs=>let(_,_,_,_,o,_,_,e,_):=x;show(_,e)
 |set S n=>let(o,_,_,_,e,_):=x;show(_,e)
 |ins C dx fs=>let(_,_,_,e,_):=x;show(_,e)
 |own y=>let(_,e):=x;show(_,e)
 |xd fs=>let(_,(_,_,_,e,_),_):=x;show(_,e)
 |rng lo hi=>let(_,_,_,e):=x;show(_,e)
 |frz b u=>let(e,_):=x;show(_,e)
 |tbl ps=>show(_,x)
 |met f y=>show(_,x)
 |ext φ=>let(_,(_,e),_):=x;show(_,e)
def HOk.gone(x:HOk P w H h)(n:h.get? a=lR):H a=lR:=by
 cases q:H a with
 |none=>rfl
 |some u=>let(b,e):=(x a u q).is;rw[n]at e;cases e
def HOk.lk(x:HOk P w H h)(l:Lk fr ex h h')(hf:∀b∈fr,H b=lR)(he:∀b,ex b->H b=lR):HOk P w H h':=λa o q=>
 (x a o q).stay (λb u c r=>by
  let d:H b≠lR:=by
   let rfl||c:=c
   .simp_all
   .simp_all
  show l.keep b u r (λz=>d (hf b z)) λz=>d (he b z)) (λ_ q=>q) λ_ _ q=>q
structure Fly (N:Addr->Prop) (H:Hp) (fl:Value) (e:Addr) (cls:Value) (h:Heap):Prop where
 at_:∃T,FlyT e cls T fl h/\N T/\H T=lR
 old:N e
 free:H e=lR
def CXx(P:ik)(w:World):CXT:=λouter H s E ev s'=>∃e C H',ev=.ref e/\s'.os=s.os/\iX s'.gens/\Un (frs outer) [] H H' s.heap s'.heap/\HOk P w H' s'.heap/\Fly (λb=>s.heap.get? b=lR) H' .none e (.ref C) s'.heap/\E (.ref C) lR H'
structure TKs (H H':Hp):Prop where
 tup:∀b xs,H b=bo (.tup xs)->H' b=bo (.tup xs)
 frz:∀b o u,H b=bo (.frz o u)->H' b=bo (.frz o u)
def since(H:Hp)(E:XK):XK:=λc d H'=>TKs H H'->E c d H'
structure Outs (X:Cx) (E:XK):Prop where
 xe:∀ev s',wpAny (model X.prog X.w) X.A (j6 X.env ev) (λ_ s''=>CXx X.prog X.w X.outer X.H₀ X.s₀ E ev s'') (λe' s''=>CXx X.prog X.w X.outer X.H₀ X.s₀ E e' s'') s'->X.xe ev s'
 stk:X.stack=X.env::X.outer
 frm:X.env.frame=bo X.env.locals
 ex:X.ex=[]
def Outs.of{P:ik}{w:World}{K:Fg}{mg:Str->Option Value}{base:Heap}{N:List Str}{qual:Str}{scope:Scope}{f:Addr}{cd:Value}{A:Around}{outer:List Env}{s:Shared}{H:Hp}{E:XK}:Outs (cxOf (CXx P w) P w K mg base N qual scope f cd A outer s H E) E:=(λ_ _ h=>h,rfl,rfl,rfl)
section
variable{E:XK}{σ:St}
def Outs.frames(O:Outs X E)(I:Inv X pins σ H s):X.A.frames=bo (X.env::X.outer):=by rw[<- O.stk];show I.ok.frames
def Outs.sub(O:Outs X E)(I:Inv X pins σ H s):∀b∈frs (X.env::X.outer),b∈X.fs\/X.s₀.heap.get? b=lR:=λb a=>by
 rw[<- O.stk]at a;let z||z:=aO.mp (I.stkSub b a)
 .rw[z];show .inr (Heap.get?_none_of_le I.ok.above)
 .show .inl z
def Outs.funs(O:Outs X E)(I:Inv X pins σ H s):s.heap.FunFrames X.base (X.env::X.outer):=by rw[<- O.stk];show I.stack
def Outs.free(O:Outs X E)(I:Inv X pins σ H s):∀b∈frs (X.env::X.outer),H b=lR:=by rw[<- O.stk];show I.stkFree
def Outs.base(O:Outs X E)(I:Inv X pins σ H s):Un X.fs [] X.H₀ H X.s₀.heap s.heap:=by let:=I.base;rw[O.ex]at this;show this
def Outs.fin(O:Outs X E)(I:Inv X pins σ H s){e C T:Addr}{ex:Addr->Prop}{h':Heap}(k:Lk (frs (X.env::X.outer)) ex s.heap h')(f:FlyT e (.ref C) T .none h')(hx:∀b,ex b->X.s₀.heap.get? b=lR/\H b=lR)(he:ex e)(hT:ex T\/s.heap.objs.size<=T)(q:since X.H₀ E (.ref C) lR H) :
  CXx X.prog X.w X.outer X.H₀ X.s₀ E (.ref e) { s with heap:=h' }:=
 (e,C,H,rfl,I.os,I.bare,(O.base I).lk k (O.sub I) (λb hb=>.inr (hx b hb).1),I.hok.lk k (O.free I) λb hb=>(hx b hb).2,((T,f,by
  let z||z:=hT
  .show hx T z
  .show(Heap.get?_none_of_le (bj I.sz z),I.hok.fresh z)),(hx e he).1,(hx e he).2),q (I.base.tups,I.base.frzs))
def a92(O:Outs X E)(I:Inv X pins σ H s)(hm:Heap.MadeExcOf s.heap h' e (.ref C) vs)(q:since X.H₀ E (.ref C) lR H):X.xe (.ref e) { s with heap:=h' }:=by
 let(t,d,g,_):=hm.there;let a:Inv X pins σ H { s with heap:=h' }:=I.kept hm.keeps;show O.xe _ _ (a91 (O.frames I) (O.funs a) O.frm d rfl rfl (by simp) λh T l f z=>(O.fin a l f (λb c=>by rw[c];show((O.base I).gone0 hm.new,I.hok.gone hm.new)) rfl (.inr z) q))
def a93(O:Outs X E):a2y (CXx X.prog X.w) X (since X.H₀ E):=by
 intro a σ H s t k I (e,C,o,r,i,c,n,g,((T,f,m,d),old,fe),q);subst r;let h:=I.call' i n g c λ_ z=>nomatch z;show O.xe _ _ (b4R (O.frames I) (O.funs h) O.frm f λv u l p z=>?_);show O.fin h l p (λb j=>?_) (.inl rfl) (by
  let z||z:=z
  .simp_all
  .show .inr z) q
 let rfl||rfl:=j
 .show((O.base I).gone0 old,fe)
 .show((O.base I).gone0 m,d)
end
def ExC(X:Cx)(E:XK)(C:Addr)(s:Shared)(H:Hp)(fp:List Addr)(ev:Value)(s':Shared):Prop:=
 ∃e Cl H',ev=.ref e/\s'.os=s.os/\iX s'.gens/\Un (frs X.stack) fp H H' s.heap s'.heap/\HOk X.prog X.w H' s'.heap/\Fly (λb=>b∈fp\/s.heap.get? b=lR) H' .none e (.ref Cl) s'.heap/\(∃m,s'.heap.Ns C m)/\H' C=lR/\C≠e/\E (.ref Cl) lR H'
def a3T(X:Cx)(EW:XK)(sc:Scope):Prop:=∀(pins:List (Addr×Obj))(σ:St)(H:Hp)(s:Shared)(C:Addr)(fp:List Addr)(use:Option (Value->Sem Unit))(Fin:Value->Shared->Prop)(acc:Value),Inv X pins σ H s->(∀b∈fp,FpOk X pins H b)->C=s.heap.objs.size ->
 ∀ev s',ExC X EW C s H fp ev s'->jL (model X.prog X.w) X.A (jx sc (a0G X.env sc.names []) C X.env) (λe s''=>kT (model X.prog X.w) X.A X.xe use Fin acc C (.error e) s'') ev s'
def a5W:a3T X (λ_ _ _=>False) sc:=by
 ext a σ H s C g d c b _ _ _ e f ⟨_,_,_,_,_,_,_,_,_,_,_,_,q⟩;show q.elim
noncomputable def cxC(X:Cx)(EW:XK)(N':List Str)(sc:Scope)(C:Addr)(s:Shared)(H:Hp)(fp:List Addr):Cx:=
 { X with N:=N',s₀:=s,H₀:=H,env:=jx sc (a0G X.env sc.names []) C X.env,outer:=X.stack,stack:=X.stack,ex:=fp,fn:=λ_=>lT,pn:=[],xe:=ExC X EW C s H fp }
def PIfs(X:Cx)(ifs:List Expr)(t:TT):Prop:=
 ∀(pins:List (Addr×Obj))(s:Shared)(σ:St)(H:Hp)(Q:Bool->Hp->Prop),Inv X pins σ H s->t σ H Q ->
  wpAny (model X.prog X.w) X.A (forIn ifs lS λc r=>if r=lS then do let ok <- isTrue c X.env (eval c X.env);pure (ForInStep.yield ok) else pure (ForInStep.yield r)) (TP X pins σ Q) X.xe s
def tTT:TT:=λ_ H Q=>Q lS H
def a94:PIfs X [] tTT:=λ_ _ _ H _ I h=>wpAny_tests_nil (H,I,h)
def a95(h:PT X c t):PIfs X [c] t:=λa s σ H Q I q=>wpAny_tests_one (h a s σ H Q I q)
def LcB(J:It)(cap:List (Option Nat))(g:TG)(tt:TT)(te:TE)(σ:St)(Q:VK)(D:Addr)(H1:Hp):Prop:=
 ∃W:Nat->Nat->List V->Hp->Prop,(∃m,W 0 m [] (upd H1 D (.lst [])))/\∀i m ys H2,W i m ys H2 ->
  (J.stop i H2/\Q (.ref D) H2) \/
  (J.go i H2/\∃N:List V->Hp->Prop,(∀ys' H',N ys' H'->∃m',m'<m/\W (i+1) m' ys' H')/\∀x H',J.yld i H2 x H' ->
   g x (a2j cap σ) H' fun σ2 H3=>a1e (a2j cap σ) σ2/\tt σ2 H3 λb H4=>if b=lS then te σ2 H4 λy H5=>∃zs,H5 D=bo (.lst zs)/\zs.length<ie/\N (zs++[y]) (upd H5 D (.lst (zs++[y]))) else N ys H4)
def tLC(wi:TI)(cap:List (Option Nat))(g:TG)(tt:TT)(te:TE):TE:=fun σ H Q=>wi σ H λJ H1=>∀D,H1 D=lR->LcB J cap g tt te σ Q D H1
structure CFree (X:Cx) (pins:List (Addr×Obj)) (H:Hp) (C:Addr):Prop where
 free:H C=lR
 loc:C≠X.env.locals
 old:X.s₀.heap.objs.size<=C
 cell:∀x c,X.env.cells.lookup x=bo c->c≠C
 pin:∀p∈X.pn++pins,p.1≠C
section
variable{σ:St}{N':List Str}{sc:Scope}{cap:List (Option Nat)}{C:Addr}{fp:List Addr}{EW:XK}
def a7R(I:Inv X pins σ H s)(ck:CapOk X.N X.env.scope sc N' cap):∀x∈sc.names,x.2=.free->∃c,X.env.cells.lookup x.1=bo c:=λx a b=>
 I.ok.has x.1 (ck.fre x a b)
def a2Q(I:Inv X pins σ H s)(ck:CapOk X.N X.env.scope sc N' cap)(h:(a0G X.env sc.names []).lookup x=bo c):X.env.cells.lookup x=bo c:=
 a3S sc.names [] (a7R I ck) (λy c h=>by simp at h) c h
def a7S(env:Env)(x:Str):(jx sc (a0G X.env sc.names []) C env).kindOf x=(sc.names.lookup x).map λk=>if (k==iq.free&&env.scope.kind==.function&&env.kindOf x==bo .cell)=lS then iq.cell else k:=
 a3g sc.names
def a1b{l:List (Str×iq)}(h:l.lookup x=bo k):(x,k,)∈l:=PySem.mem_of_lookup h
def b7h(I:Inv X pins σ H s)(ck:CapOk X.N X.env.scope sc N' cap)(hf:∀b∈fp,FpOk X pins H b)(hlt:∀b∈fp,b<s.heap.objs.size)(hC:C=s.heap.objs.size):(cxC X EW N' sc C s H fp).Ok:=by
 let g:∀{x:Str}{c:Addr},(a0G X.env sc.names []).lookup x=bo c->X.env.cells.lookup x=bo c:=λh=>a2Q I ck h;show(I.ok.mod,ck.kind,I.ok.glob,I.ok.blt,by rw[hC];show aQ _,λx y c j m=>I.ok.inj x y c (g j) (g m),λx n=>?_,λx c h _=>(by cases h),I.ok.hd,I.ok.frames,.inl rfl,λb a=>(?_,λx c h=>?_),I.bs,bj I.ok.bsz I.sz,λb o e a=>?_,λb a l=>?_,I.stack,I.stkFree)
 .let d:(sc.names.lookup x).map (λk=>if (k==iq.free&&X.env.scope.kind==.function&&X.env.kindOf x==bo .cell)=lS then iq.cell else k)=bo .cell \/
    (sc.names.lookup x).map (λk=>if (k==iq.free&&X.env.scope.kind==.function&&X.env.kindOf x==bo .cell)=lS then iq.cell else k)=bo .free:=by
   rw[<- a7S X.env x];show n
  cases e:sc.names.lookup x with
  |none=>rw[e]at d;let z||z:=d<;>cases z
  |some k=>
   let i:=a1b e;let f:k=.free:=by
    rw[e]at d
    by_cases f:k=.free
    .grind
    .let a:(k==iq.free)=lT:=↑f
     simp only[di,a,bo.injEq]at d;let z||z:=d
     .show absurd z (ck.nocell _ i)
     .simp_all
   subst f;show a3t sc.names [] i
 .change b≠C
  rw[hC];show aY (hlt b a)
 .show (hf b a).2.2.2.2.1 x c (g h)
 .let(_,_,_,z,_):=hf b a;let z||z:=z
  .show I.ok.noex b o e z
  .show absurd (bA (Heap.lt_size e) (bj I.ok.bsz z)) (cz _)
 .let z||z:=aO.mp (I.stkSub b l)
  .show (hf b a).2.1 z
  .show (hf b a).2.2.1 z
def b4S(I:Inv X pins σ H s)(ck:CapOk X.N X.env.scope sc N' cap)(hf:∀b∈fp,FpOk X pins H b)(hlt:∀b∈fp,b<s.heap.objs.size)(hC:C=s.heap.objs.size)
  (hn:h₁.Ns C m) (hk:∀b o,s.heap.get? b=bo o->h₁.get? b=bo o):Inv (cxC X EW N' sc C s H fp) [] (a2j cap σ) H { s with heap:=h₁,toks:=t' }:=by
 show(b7h I ck hf hlt hC,rfl,I.bare,Un.kept hk,(m,hn,λi x v M a S=>?_),λx c h=>?_,?_,λx c h=>I.freeC x c (a2Q I ck h),λp D=>absurd (show p∈([]) from D) (by simp),I.hok.kept hk,?_)
 .let A:=M;unfold a2j at a;rw[aR]at a;cases ec:cap[i]? with
  |none=>rw[ec]at a;cases a
  |some o=>
   rw[ec]at a;cases o with
   |none=>simp at a
   |some j=>
    let d:(σ[j]?).join=bo v:=by simp_all
    let l:σ[j]?=bo (bo v):=by
     cases q:σ[j]? with
     |none=>rw[q]at d;cases d
     |some w=>rw[q]at d;rw[show w=bo v from d]
    let(J,n):=ck.cap i x j A ec;let f:=ck.fre _ (a1b n) rfl;let(R,_,L):=I.loc;let(u,Q,B):=L j x v J l (.inr f);show(u,Q,.inr (?_,?_))
    .change (jx sc _ C X.env).kindOf x=bo .cell\/(jx sc _ C X.env).kindOf x=bo .free
     rw[a7S,n];simp only[di,beq_self_eq_true,eM]
     by_cases hc:(X.env.scope.kind==ScopeKind.function&&X.env.kindOf x==bo iq.cell)=lS
     .simp_all
     .rw[if_neg hc];show .inr rfl
    .let(E,g):=a3t sc.names [] (a1b n);let G:=a2Q I ck g;let(k,_)||(_,c,ec',z):=B
     .let F:X.env.scope.names.lookup x=bo .local:=k;let e:=f;rw[F]at e;let q||q:=e<;>cases q
     .rw[G]at ec';cases ec';let(y,r,t):=z;show(E,g,y,hk _ _ r,t)
 .let(v,y,r,t):=I.cell x c (a2Q I ck h);show(v,y,hk _ _ r,t)
 .change H C=lR
  rw[hC];show I.hok.fresh (aQ _)
 .change (a2j cap σ).length=N'.length
  unfold a2j;rw[aN];show ck.len
def b2z(I:Inv X pins σ H s)(hf:∀b∈fp,FpOk X pins H b)(J:Inv (cxC X EW N' sc C s H fp) pins' σ' H' s'):Inv X pins σ H' s':=
 I.call' J.os J.base J.hok J.bare λb a=>((hf b a).2.2.2.1,(hf b a).2.1,(hf b a).2.2.2.2.1,(hf b a).2.2.2.2.2)
def a96(I:Inv X pins σ H s)(hC:C=s.heap.objs.size)(J:Inv (cxC X EW N' sc C s H fp) pins' σ' H' s'):CFree X pins H' C:=by
 show(J.free,by rw[hC];show bZ I.lt,by rw[hC];show I.sz,λx c e z=>?_,λp a z=>(absurd (Heap.lt_size (I.pin p a).1) (by simp_all)))
 .let(v,q):=I.cell x c e;show absurd q.lt (by simp_all)
def CFree.after(F:CFree X pins H C)(I:Inv X pins σ H s)(k:∀b o,b≠C->s.heap.get? b=bo o->h'.get? b=bo o):Inv X pins σ H { s with heap:=h',toks:=t' }:=
 I.turned k F.free F.loc (.inr F.old) F.cell F.pin
end
section
variable{elt tg iter:Expr}{ifs:List Expr}{sc:Scope}{wi:TI}{g:TG}{tt:TT}{te:TE}{N':List Str}{cap:List (Option Nat)}{EW:XK}
def a7T(hc:X.calm=lS)(hE:a3T X EW sc)(ck:CapOk X.N X.env.scope sc N' cap)(hi:PI X tg iter wi)
    (hg:∀C s H fp,PG (cxC X EW N' sc C s H fp) tg g) (ht:∀C s H fp,PIfs (cxC X EW N' sc C s H fp) ifs tt) (he:∀C s H fp,PE (cxC X EW N' sc C s H fp) elt te)
    (hs:∀x,jc iter X.env x=pure x) {Fin:Value->Shared->Prop}
 (I:Inv X pins σ H s) (h:tLC wi cap g tt te σ H Q)
    (fin:∀D s' C m H',Inv X pins σ H' s'->Q (.ref D) H'->s'.heap.Ns C m->CFree X pins H' C->kT (model X.prog X.w) X.A X.xe use Fin (.ref D) C (.ok .next) s') :
    wpAny (model X.prog X.w) X.A (comprehension (.ListComp elt [(tg,iter,ifs,0)] sc pos) sc X.env pos' (newList []) lT (eval iter X.env) use) Fin X.xe s:=by
  show wpAny_comprehension_free rfl hs (a3R (a7R I ck)) ck.kind ck.nms ?_;show thn (hi pins s σ H _ I h) λv s1 h1=>thn h1 λitv j h2=>?_;let(it,f,tn,J,H2,e,I2,T,st2,f2,h2):=h2;subst e;let hD:=I2.hok.fresh (aQ _);let(W,(m0,w0),turn):=h2 j.heap.objs.size hD;show i5 ?_;let t:=I2.lnew (t':=j.toks) .nil (bv _);generalize hs3:({ j with heap:=j.heap.push { cls:=.type "list",data:=.seq ([]:List Value).toArray } }:Shared)=s3 at t;generalize hH3:upd H2 j.heap.objs.size (.lst [])=H3 at t w0;let ac:∀b∈f,b<j.heap.objs.size:=λb a=>by
    let(o,e,_):=T.obj _ _ st2 b a;show Heap.lt_size e
  let sz3:s3.heap.objs.size=j.heap.objs.size+1:=by rw[<- hs3];show Heap.size_push _ _
  let Y:∀b∈f,b<s3.heap.objs.size:=λb a=>by rw[sz3];show dj (ac b a)
  let B:∀b∈f,FpOk X pins H3 b:=λb a=>by
    show(?_,(f2 b a).2);rw[<- hH3,a0f (aY (ac b a))];show (f2 b a).1
  let st3:tn 0 s3.heap:=T.keep _ _ _ st2 λb _ o e=>by rw[<- hs3];show Heap.get?_push_of_some _ e
  show wpAny_newFunctionEnv ck.nocell (by ext y hy;simp at hy) (λh₁ hjj hjq=>?_) ck.kind;let hk:=λb o e=>hjq.extBut b o (aY (Heap.lt_size e)) (Heap.get?_push_of_some _ e);let I4:=b4S (EW:=EW) (t':=s3.toks+([]:List (Str×Value)).length) t ck B Y rfl hjj hk;generalize hs4:({ s3 with heap:=h₁,toks:=s3.toks+([]:List (Str×Value)).length }:Shared)=s4 at I4 ⊢;let st4:tn 0 s4.heap:=T.keep _ _ _ st3 λb _ o e=>by rw[<- hs4];show hk b o e
  let G:∀{k:Hp}{l:List (Addr×Obj)},(∀p∈l,p.1∉f)->(∀b∈f,k b=lR)->∀b∈f,FpOk (cxC X EW N' sc s3.heap.objs.size s3 H3 f) l k b:=λ{k l} E hn b a=>
    (hn b a,aY (Y b a),λz=>by
      let z||z:=aO.mp (t.stkSub b z)
      . show (B b a).2.1 z
      . show (B b a).2.2.1 z,.inl a,λx c e=>(B b a).2.2.2.2.1 x c (a2Q t ck e),λp hp' z=>E p hp' (by rw[z];show a))
  let hx:=hE pins σ H3 s3 s3.heap.objs.size f use Fin (.ref j.heap.objs.size) t B rfl;let ab:iS (model X.prog X.w) X.A (.compLoop (.ListComp elt [(tg,iter,ifs,0)] sc pos) 0 (.ref it) (.ref j.heap.objs.size) (jx sc (a0G X.env sc.names []) s3.heap.objs.size X.env))
      (kT (model X.prog X.w) X.A X.xe use Fin (.ref j.heap.objs.size) s3.heap.objs.size) s4:=by
    show a1L (λn s'=>∃i ys σ' k,Inv (cxC X EW N' sc s3.heap.objs.size s3 H3 f) [] σ' k s'/\a1e (a2j cap σ) σ'/\tn i s'.heap/\(∀b∈f,k b=lR)/\W i n ys k) ?_ m0
      (0,[],a2j cap σ,H3,I4,a1q _,st4,λb a=>(B b a).1,w0)
    ext n s5 ⟨i,ys,σ5,H5,I5,k5,st5,fr5,w5⟩;let kk:=a2k k5;let I5:=I5.weak kk.1 kk.2;let(stop,q)||(go,N,hN,step):=turn i n ys H5 w5
    . show thn (T.done (cxC X EW N' sc s3.heap.objs.size s3 H3 f) rfl rfl rfl hc i [] s5 _ H5 _ I5 (G (λp E=>by cases E) fr5) st5 stop) λr s6 Y=>Y.elim λhr I6=>?_
      subst hr;let(m6,n6,_):=I6.loc;show fin _ s6 _ m6 H5 (b2z t B I6) q n6 (a96 t rfl I6)
    . show thn (T.item (cxC X EW N' sc s3.heap.objs.size s3 H3 f) rfl rfl rfl hc i [] s5 _ H5 _ I5 (G (λp E=>by cases E) fr5) st5 go) λr s6 Y=>Y.elim λu Y=>Y.elim λhr h6=>?_
      subst hr;show thn h6 λ_ s7 (x,H7,I7,r7,y7,aa,fr7)=>?_;let I7':=I7.pinned (G (λp E=>by cases E) fr7) (T.obj _ _ aa);let M:∀{σ9:St}{F:Hp}{S:Shared}{L:List V},Inv (cxC X EW N' sc s3.heap.objs.size s3 H3 f) ([]++a5R f s7.heap) σ9 F S->a1e (a2j cap σ) σ9->N L F ->
          ∃m,m<n/\∃i ys σ' k,Inv (cxC X EW N' sc s3.heap.objs.size s3 H3 f) [] σ' k S/\a1e (a2j cap σ) σ'/\tn i S.heap/\(∀b∈f,k b=lR)/\W i m ys k:=λ{σ9 F S L} U k9 n9=>by
        let(m',hm,w9):=hN L F n9;show(m',hm,i+1,L,σ9,F,U.unpinned,k9,T.keep _ _ _ aa λb a o e=>(U.pin (b,o,) (bH _ (bH _ (a1z a e)))).1,λb a=>?_,w9);let(o,e,d):=T.obj _ _ aa b a;show (U.pin (b,o,) (bH _ (bH _ (a1z a e)))).2.1
      show iw (hg _ _ _ _ _ s7 _ H7 x u _ I7' r7 (step x H7 y7)) (λ_ s8 (σ8,H8,I8,k8,q8)=>?_) hx;show iw (ht _ _ _ _ _ s8 σ8 H8 _ I8 q8) (λb S Y=>Y.elim λF Y=>Y.elim λU q9=>?_) hx;cases b with
      |false=>
        show M U k8 q9
      |true=>
        rw[if_pos rfl]at q9 ⊢;show iw (he _ _ _ _ _ S σ8 F _ U q9) (λy s10 (vy,H10,I10,r10,zs,hacc,hsz,q10)=>?_) hx;show iw (a4r (X:=cxC X EW N' sc s3.heap.objs.size s3 H3 f) _ s10 σ8 H10 (.ref j.heap.objs.size) [vy] (.ref j.heap.objs.size) [y] (λ_ k=>N (zs++[vy]) k) I10 rfl (.cons r10 .nil) (_,zs,vy,rfl,rfl,hacc,hsz,q10)) (λ_ s11 (_,H11,I11,_,q11)=>?_) hx;show M I11 k8 q11
  show codeAny_compStart_list ab (T.self _ 0 _ _ _ st4 ab)
def b7i(hc:X.calm=lS)(hE:a3T X EW sc)(hNN:X.N=Nj)(hso:X.env.scope=so)(ck:capB Nj so sc N' cap=lS)(hi:PI X tg iter wi)
  (hg:∀C s H fp,PG (cxC X EW N' sc C s H fp) tg g) (ht:∀C s H fp,PIfs (cxC X EW N' sc C s H fp) ifs tt) (he:∀C s H fp,PE (cxC X EW N' sc C s H fp) elt te)
  (hs:∀x,jc iter X.env x=pure x:=by ext _;rfl):PE X (.ListComp elt [(tg,iter,ifs,0)] sc pos) (tLC wi cap g tt te):=by
 ext f s σ H Q I h;subst hNN hso;show a7T hc hE (a7P ck) hi hg ht he hs I h λD d C m i c q k F=>(m,k,λl a=>(.ref D,i,F.after c (λb o j e=>a.extBut b o j e),rfl,q))
def a97(hN:X.N.Nodup)(hx:X.N[i]?=bo x)(hl:X.env.scope.names.lookup x=bo .local)(hc:X.calm=lS)(hE:a3T X EW sc)(hNN:X.N=Nj)(hso:X.env.scope=so)(ck:capB Nj so sc N' cap=lS)(hi:PI X tg iter wi)
  (hg:∀C s H fp,PG (cxC X EW N' sc C s H fp) tg g) (ht:∀C s H fp,PIfs (cxC X EW N' sc C s H fp) ifs tt) (he:∀C s H fp,PE (cxC X EW N' sc C s H fp) elt te)
  (hsw:iY (.ListComp elt [(tg,iter,ifs,0)] sc pos) (bo (.Name x pos')) spos.line X.env=pure lS)
  (hs:∀x,jc iter X.env x=pure x):PS X (.Assign [.Name x pos'] (.ListComp elt [(tg,iter,ifs,0)] sc pos) spos) (tAsg (tLC wi cap g tt te) (a7q i)):=by
 subst hNN hso;ext f s σ H D I h;rw[exec_Assign_Name_used _ _ _ _ hsw];show hZ (kF (hZ (hZ (iw (a7T hc hE (a7P ck) hi hg ht he hs I h λd c C m w t q E F=>?_) (λ_ c u=>h9 (h9 u)) λ_ _ e=>e))));show wpAny_assign_Name (a4k t hN hx (.inl hl) (v:=.ref d) rfl (λj n y=>?_) (.inr hl));let(a,p,r):=y;let l:C≠a:=by
  let z||z:=r
  .rw[z];show F.loc
  .show Ne.symm (F.cell _ _ z)
 show(m,E.sameBut p l,λG k=>(_,w,F.after n (λb o B e=>k.extBut b o B e),q))
end
mutual
def DV(H:Hp):PyData->V->Prop
 |.none,x=>x=.non
 |.bool b,x=>x=.bl b
 |.int i,x=>x=.int i
 |.str s,x=>x=.str s
 |.list ds,x=>∃a vs,x=.ref a/\H a=bo (.lst vs)/\DVs H ds vs
 |.tuple ds,x=>∃a vs,x=.ref a/\H a=bo (.tup vs)/\DVs H ds vs
 |.dict _,_=>False
def DVs(H:Hp):List PyData->List V->Prop
 |[],vs=>vs=[]
 |d::ds,vs=>∃v r,vs=v::r/\DV H d v/\DVs H ds r
end
mutual
theorem DV.reads{P:ik}{w:World}{H:Hp}{h:Heap}(ok:HOk P w H h):∀{d:PyData}{x:V}{u:Value},DV H d x->RelV x u->∃as,Reads h u d as
 |.none,x,u,q,r=>by
  unfold DV at q;subst q;cases (show u=Value.none from r);show(_,.none)
 |.bool b,x,u,q,r=>by
  unfold DV at q;subst q;cases (show u=Value.bool b from r);show(_,.bool b)
 |.int i,x,u,q,r=>by
  unfold DV at q;subst q;let(t,e):=(show ∃t,u=Value.int i t from r);subst e;show(_,.int i t)
 |.str s,x,u,q,r=>by
  unfold DV at q;subst q;let(t,e):=(show ∃t,u=Value.str s t from r);subst e;show(_,.str s t)
 |.list ds,x,u,q,r=>by
  unfold DV at q;let(a,vs,e,ha,q):=q;subst e;cases (show u=Value.ref a from r);let(_,its,n,rv,e):=ok a _ ha;let(as,rd):=DVs.reads ok q rv;show(_,.list e rfl rfl ↑rd)
 |.tuple ds,x,u,q,r=>by
  unfold DV at q;let(a,vs,e,ha,q):=q;subst e;cases (show u=Value.ref a from r);let(_,its,rv,o,e,c,n,d):=ok a _ ha;let(as,rd):=DVs.reads ok q rv;show(_,.tuple e c d ↑rd)
 |.dict _,x,u,q,r=>by unfold DV at q;show q.elim
theorem DVs.reads{P:ik}{w:World}{H:Hp}{h:Heap}(ok:HOk P w H h):∀{ds:List PyData}{vs:List V}{us:List Value},DVs H ds vs->Vals vs us->∃as,ReadsAll h us ds as
 |[],vs,us,q,r=>by
  unfold DVs at q;subst q;cases r;show(_,.nil)
 |d::ds,vs,us,q,r=>by
  unfold DVs at q;let(v,rr,e,q1,q2):=q;subst e;cases r with
  |cons r1 r2=>
   let(as,h1):=DV.reads ok q1 r1;let(bs,h2):=DVs.reads ok q2 r2;show(_,.cons h1 h2)
end
def rEqD:R2:=λx y H Q=>∃d e,DV H d x/\DV H e y/\SeqAt.shaped d=lS/\SeqAt.shaped e=lS/\Q (.bl (PyData.eqv d e)) H
def rNeD:R2:=λx y H Q=>∃d e,DV H d x/\DV H e y/\SeqAt.shaped d=lS/\SeqAt.shaped e=lS/\Q (.bl (!PyData.eqv d e)) H
def b4T(hu:X.A.units+66<cLine):OpR X (io .Eq) rEqD:=by
 ext i s σ H x y v u Q I g k h;let(d,e,b,f,l,a,q):=h;let(m,j):=b.reads I.hok g;let(n,c):=f.reads I.hok k;show eq_dataH j c l a (by lia) (.bl _,H,I,rfl,q)
def b4U(hu:X.A.units+66<cLine):OpR X (io .NotEq) rNeD:=by
 ext b s σ H x y v u Q I j c h;let(d,e,a,g,l,i,q):=h;let(n,f):=a.reads I.hok j;let(m,k):=g.reads I.hok c;show ne_dataH f k l i (by lia) (.bl _,H,I,rfl,q)
def rInD(neg:Bool):R2:=λx y H Q=>∃d p ds vs,DV H d x/\y=.ref p/\(H p=bo (.lst vs)\/H p=bo (.tup vs))/\DVs H ds vs/\SeqAt.shaped d=lS/\SeqAt.shaped (.list ds)=lS /\
 Q (.bl (if neg then !(ds.any λy=>PyData.eqv y d) else ds.any λy=>PyData.eqv y d)) H
def b4V(hu:X.A.units+66<cLine):OpR X (io .In) (rInD lT):=by
 ext r s σ H x y v u Q I z m h;let(d,p,b,j,w,e,a,i,k,t,q):=h;subst e;let(C,f):=w.reads I.hok z;let n:PyData.canLayAll0 b=lS:=by let:=SeqAt.canLay_of_shaped t;simpa[PyData.canLay0]using this
 let g:=SeqAt.canLay_of_shaped k;let o:=SeqAt.depth_of_shaped k;let l:X.A.units+1+min (PyData.depthAll b) d.depth<cLine:=by let:=fM (PyData.depthAll b) d.depth;lia
 let a||a:=a
 .let(B,c):=(show DV H (.list b) _ by unfold DV;show(p,j,rfl,a,i)).reads I.hok m;show SeqAt.in_list_reads c f n g l (.bl _,H,I,rfl,q)
 .let(B,c):=(show DV H (.tuple b) _ by unfold DV;show(p,j,rfl,a,i)).reads I.hok m;show SeqAt.in_tuple_reads c f n g l (.bl _,H,I,rfl,q)
def b4W(_ j:Int):Prop:=0<j/\j<2 ^ 64
def a98:OpR X (iA .FloorDiv) (rI b4W λi j=>.int (i / j)):=opI λi j _ _ _ _ _ a q=>by
 let c:(0:Int)<j:=a.1;let d:j<2 ^ 64:=a.2;show floordiv_int (by lia) ?_ (.inl (PyProof.noPylong_of_log2 ?_))
 .rw[Int.fdiv_eq_ediv_of_nonneg i (by lia)];show q
 .let b:j.natAbs<2 ^ 64:=by cbv
  let e:=(Nat.log2_lt (by lia)).mpr b
  lia
def rIsT(K:Fg):List V->Hp->VK->Prop:=λxs H Q=>∃x T t b,xs=[x,.ty T]/\TyOf K H x t/\PySem.W.kitOne K t (.type T)=bo b/\Q (.bl b) H
def a99:CallR X (.builtin "isinstance") (rIsT X.K):=by
 ext c s σ H j k Q I r h;let(x,T,t,b,rfl,i,e,q):=h;let(u,g,rfl,f,a):=a6L r;cases (a);show a7D I f i e λd=>(.bl b,H,I.tok d,rfl,q)
abbrev veM:List Value:=[.type "ValueError",.type "Exception",.type "BaseException",.type "object"]
set_option tactic.hygienic true in
def b4X{K:Fg}(q:PySem.W.excIn K C veM "ValueError.__new__"=lS):∃bm N nm qn bs hd sn sub ab col dd k0 k1 k2 k3 k5,K.lookup C=bo (excClassObj nm qn C N bs bm hd sn sub ab col dd k0 k1 k2 k3 k5 "ValueError.__new__") /\
  PySem.W.nsOkIn K N=lS/\PySem.W.nsIn K N "__init__"=bo lR/\PySem.W.tailIn K veM bm=lS:=by
 unfold PySem.W.excIn at q
 split at q
 .rename_i dd cd sl ho
  split at q
  .rename_i C2 bm k0 k1 k2 k3 nw k5 hm hs
   simp at q;let(((((p,k),e),g),b),d):=q;subst p k;let(r,h,t,m,o,i,n,a,j,c,s):=cd;subst hm e;let f:sl=#[k0,k1,k2,k3,bo (.builtin "ValueError.__new__"),k5]:=by
    cases sl with
    |mk l=>dsimp only at hs;rw[hs]
   subst f;show(bm,m,r,o,h,i,n,a,j,c,dd,k0,k1,k2,k3,k5,ho,b,d,g)
  .cases q
 .cases q
section
variable{E:XK}
def b0a(O:Outs X E)(hc:X.calm=lS)(hg:Gl X x)(hm:X.mg x=bo (.ref C))(hq:PySem.W.excIn X.K C veM "ValueError.__new__"=lS)(he:PE X e0 te)
  (hs:ii [e0] X.env=(lT,eval e0 X.env,)::ii [] X.env:=by rfl) (hp:(backTo cpos (ii [] X.env)).any (·.1)=lT:=by rfl) (hd:(x==("__debug__":Str))=lT:=by decide) :
  PS X (.Raise (bo (.Call (.Name x np) [e0] [] cpos)) lR pos) (λ_ σ H=>te σ H λ_ H1=>since X.H₀ E (.ref C) lR H1):=by
 ext d s σ H D I h;let(bm,N,nm,qn,bs,k,sn,sub,ab,col,dd,k0,k1,k2,k3,k5,hC,u,z6,z4):=b4X hq;let B:=I.mod.kin;let hN:X.base.Ns N (X.base.nsMap N):=.of_isNs (PySem.W.isNs_of_in B u);let T:=PySem.W.tail_of_in B z4;show wpAny_Raise_call_subT (nm:=nm) (q:=qn) (N:=N) (bs:=bs) (hdct:=k) (sn:=sn) (sub:=sub) (ab:=ab) (col:=col) (dd:=dd) (k0:=k0) (k1:=k1) (k2:=k2) (k3:=k3) (k5:=k5) PySem.F.excBase_ValueError (T.hasType (by decide)) (I.ok.hd hc)
  (by rw[hs];change (lT||(backTo cpos _).any (·.1))=lT;rw[hp];rfl) (PySem.W.nsMap_none_of_in B u z6) (a2M I hg hm (rfl,?_) hd)
 rw[hs];show Calls.evalArgs_plain (Calls.spliced_cons (thn (he d s σ H _ I h) λv s2 (y,H2,a,_,q2)=>Calls.spliced_nil (rfl,bT (a0e (fP rfl)),a.bk _ _ (B _ _ hC),hN.keeps a.bk,T.keeps a.bk,λh' e hm=>a92 O a hm q2)))
end
section
open PySem.Calls PySem.W
structure ExK (K:Frag) (D:Addr):Prop where
 cls:(clsIn K D).isSome=lS
 ga:findIn K (.ref D) "__getattribute__"=bo (bo (.builtin "BaseException.__getattribute__"))
 hk:findIn K (.ref D) "__getattr__"=bo lR
 ha:findIn K (.ref D) "__class__"=bo (bo (.builtin "object.__class__"))
 hn:specialIn K (.builtin "object.__class__") "__get__"=bo (bo (.builtin "getset_descriptor.__get__"))
 tk:takesIn K (.builtin "object.__class__")=bo lS
 hm:mroIn K D (.type "object")=bo lS
 hb:mroIn K D (.type "BaseException")=bo lS
section
variable{K:Frag}{x D:Addr}{ox:Obj}
def ExK.find(k:ExK K D):findObj K D lR "__class__"=bo (.bind (.builtin "getset_descriptor.__get__") (.builtin "object.__class__")):=by
 let(b,a):=dW.mp k.cls;unfold findObj;rw[a,fQ,k.ha,fQ];simp[k.hn,k.tk]
def a4s(k:ExK K D)(X:K.In s.heap)(I:InstAt s.heap x ox D lR)(h:Q () s):wpAny (model prog w) A (jM "BaseException.__getattribute__" ([.ref x,v],[])) Q E s:=by
 let b:builtinKind "BaseException.__getattribute__"=bo .slot:=by decide +kernel
 let a:splitId "BaseException.__getattribute__"=bo ("BaseException","__getattribute__",):=by decide +kernel
 let i:=I.type (M:=model prog w);let j:=looks_mroIn (M:=model prog w) X k.hb;simp only[jM,b,a]
 repeat lk
 show h
def b4Y(k:ExK K D)(X:K.In s.heap)(I:InstAt s.heap x ox D lR)(h:Q (.done (.ret (.ref D))) s) :
  wpAny (model prog w) A (im.«object.__getattribute__» ([.ref x,.str "__class__" tk],[])) Q E s:=by
 let(b,g,d,t,a):=s;let c:=I.type (M:=model prog w);let e:=looks_find (M:=model prog w) X I k.find
 repeat (first |with_reducible show jj ?_ |lk)
 show class_get X I k.hm (h9 h)
def a7U(k:ExK K D)(X:K.In s.heap)(I:InstAt s.heap x ox D lR)(h:Q (bo (.ref D)) { s with toks:=s.toks+1 }):wpAny (model prog w) A (getAttr? (.ref x) "__class__") Q E s:=by
 let c:=I.type (M:=model prog w);let a:=looks_findIn (M:=model prog w) X k.ga;let e:=looks_findIn (M:=model prog w) X k.hk;show hZ (wpAny_mkText (hZ (i9 (iB (hZ (c.at (hZ (a.at ?_))))))));dsimp only;show hZ (e.at ?_);show hZ (i9 (iB ?_));unfold callGetattribute boundAndCalled;rw[if_neg (by simp)];let b:=PySem.F.excAttr_ValueError.ga.bind (.ref x);rw[b];show hZ (h9 (jj (kU PySem.F.excAttr_ValueError.ga.plain PySem.F.entry_bexc_ga (a4s k X I (b4Y k X I ?_)))));show handed_on rfl (h9 h)
theorem a3U(k:ExK K D):KitX K (.ref x) (.ref D) (λh=>InstAt h x ox D lR) where
 ty:=λ_ _ _ I=>I.type
 it:=λ_ _ X _=>by
  let(cd,hc):=dW.mp k.cls;unfold clsIn at hc
  split at hc
  .rename_i ho
   ext A' Q' E' s' k q;unfold isType loadHead;show hZ (wpAny_loadPart (k _ _ (X _ _ ho)) (h9 q))
  .cases hc
 ne:=λh tp dd its n sl X htp=>by
  let(cd,hc):=dW.mp k.cls;show Bool.eq_false_iff.mpr λq=>?_;let e:D=tp:=Value.ref.inj (beq_iff_eq.mp q);subst e;unfold clsIn at hc
  split at hc
  .rename_i ho
   let z:=(X _ _ ho).symm.trans htp;cases z
  .cases hc
 ca:=λX I q=>a7U k X I q
end
end
section
variable{σ σ':St}
def Inv.lk(I:Inv X pins σ H s)(k:Lk (frs X.stack) ex s.heap h')(hx:∀b,ex b->X.s₀.heap.get? b=lR/\H b=lR/\(∀x c,X.env.cells.lookup x=bo c->c≠b)/\∀p∈X.pn++pins,p.1≠b)
  (hl:∃m,h'.Ns X.env.locals m/\∀(i:Nat)(x:Str)(v:V),X.N[i]?=bo x->σ'[i]?=bo (bo v)->Vis X.env.scope x->∃u,RelV v u/\Look X.env h' m x u) (hn:σ'.length=σ.length):Inv X pins σ' H { s with heap:=h',toks:=t' }:=by
 show(I.ok,I.os,I.bare,I.base.lk k (λb a=>?_) (λb a=>.inr (hx b a).1),hl,λx c e=>?_,I.free,I.freeC,λp g=>?_,I.hok.lk k I.stkFree λb a=>(hx b a).2.1,hn.trans I.len)
 .let z||z:=aO.mp (I.stkSub b a)
  .rw[z];show .inr (Heap.get?_none_of_le I.ok.above)
  .simp_all
 .let(v,o,l,n):=I.cell x c e;let(r,d):=k.slot c o l λz=>(hx c z).2.2.1 x c e rfl;show(v,_,d,n)
 .let(d,q,f,h,j):=I.pin p g;show(k.keep _ _ d (λz=>?_) (λz=>(hx _ z).2.2.2 p g rfl),q,f,h,j);let z||z:=aO.mp (I.stkSub _ z)
  .show f z
  .show h z
def Inv.lk0(I:Inv X pins σ H s)(k:Lk (frs X.stack) ex s.heap h')(hx:∀b,ex b->X.s₀.heap.get? b=lR/\H b=lR/\b≠X.env.locals/\(∀x c,X.env.cells.lookup x=bo c->c≠b)/\∀p∈X.pn++pins,p.1≠b):Inv X pins σ H { s with heap:=h' }:=by
 show I.lk k (λb a=>((hx b a).1,(hx b a).2.1,(hx b a).2.2.2)) ?_ rfl;let(m,(o,e,q,B,w,y,h),l):=I.loc;let(j,r):=k.slot _ o B λz=>(hx _ z).2.2.1 rfl;show(m,(_,e,q,r,w,y,h),λi x v d f A=>?_);let(u,t,n):=l i x v d f A;show(u,t,?_);let z||(z1,c,z2,oc,z3,z4):=n
 .show .inl z
 .let(j,g):=k.slot c oc z3 λz=>(hx c z).2.2.2.1 x c z2 rfl;show .inr (z1,c,z2,_,g,z4)
abbrev Cx.hnd(X:Cx)(e:Addr)(oe:Obj):Cx:={ X with A:=X.A.mark (bo (.ref e)),calm:=lT,pn:=(e,oe,)::X.pn,xe:=λ_ _=>False }
noncomputable def Inv.hnd(I:Inv X pins σ H s)(h1:s.heap.get? e=bo oe)(h2:H e=lR)(h3:e≠X.env.locals)(h4:e∉X.fs)(h5:∀v,oe.data≠.cell v):Inv (X.hnd e oe) pins σ H s:=
 ((I.ok.mod,I.ok.kind,I.ok.glob,I.ok.blt,I.ok.above,I.ok.inj,I.ok.has,I.ok.cab,(λz=>nomatch z),I.ok.frames,I.ok.stk,I.ok.exf,I.ok.bs,I.ok.bsz,I.ok.noex,I.ok.exfs,I.ok.funs,I.ok.frf),I.os,I.bare,I.base,I.loc,I.cell,I.free,I.freeC,(λp a=>by
  let rfl||a:=aO.mp (a)
  .show(h1,h2,h3,h4,h5)
  .show I.pin p a),I.hok,I.len)
def Inv.unhnd(ok:X.Ok)(I:Inv (X.hnd e oe) pins σ H s):Inv X pins σ H s:=(ok,I.os,I.bare,I.base,I.loc,I.cell,I.free,I.freeC,λp a=>I.pin p (cr _ a),I.hok,I.len)
def a1X(I:Inv X pins σ H s)(hN:X.N.Nodup)(hi:X.N[i]?=bo n)(hl:X.env.scope.names.lookup n=bo .local)(q:∀s',Inv X pins (σ.set i lR) H s'->Q () s') :
  wpAny M A (do bindName X.env n .none;unbindBehindTheSuite X.env n pos) Q E s:=by
 let(m,w,B):=I.loc;let f:(X.env.scope.kind==.class||(X.env.scope.kind==.module&&X.env.locals != X.env.globals))=lT:=by rw[I.ok.kind];rfl
 show wpAny_nameGoes_keeps hl w f λJ v g a=>q _ ?_;show I.lk (λb o q _ n=>(a.2 b n).trans q,λb o q n=>(o.slots,(a.2 b n).trans q),dE a.1.symm) (λb y=>?_) (_,g,λj x r h d l=>?_) (eN ..)
 .rw[y];show(Heap.get?_none_of_le I.ok.above,I.free,I.cne,λp D=>(I.pin p D).2.2.1)
 .by_cases hj:j=i
  .subst hj;rw[dB (by rw[I.len];show (aT.mp hi).1)]at d;cases d
  .rw[dC (Ne.symm hj)]at d;let(u,C,z):=B j x r h d l;show(u,C,?_);let(z1,z2)||(z1,c,z2,oc,z3,z4):=z
   .show .inl (z1,?_)
    change (if x=n then v else m x)=bo u
    rw[if_neg λe=>hj (by
     subst e;let(G,t):=aT.mp h;let(F,k):=aT.mp hi;show (eG hN).mp (t.trans k.symm))]
    show z2
   .show .inr (z1,c,z2,oc,(a.2 c (I.cne x c z2)).trans z3,z4)
def PX(X:Cx)(e:Expr)(t:XK->TE):Prop:=∀(pins:List (Addr×Obj))(s:Shared)(σ:St)(H:Hp)(Q:VK)(E:XK),Inv X pins σ H s->t E σ H Q ->
 wpAny (model X.prog X.w) X.A (eval e X.env) (EP X pins σ Q) (λev s'=>∃H1 s1,Inv X pins σ H1 s1/\CXx X.prog X.w X.stack H1 s1 E ev s') s
end
section
variable{k:Nat}{f C D:Addr}{fd:iG}{ps:List Str}{sp:Sp}{x n:Str}{p np hpos tpos:Pos}{e ce:Expr}{t:TA}
def b2A(F:FnOk X.prog X.w X.K X.mg X.base (CXx X.prog X.w) k f fd ps sp)(hr:Room k X.A)(hg:Gl X x)(hm:X.mg x=bo (.ref f))(hk:PySem.W.keepIn X.K (.ref f)=lS)(hb:Binds X.K fd ps [])
  (ha:PA X.nox (e::es) t) (hdb:(x==("__debug__":Str))=lT:=by decide) (he:ii (e::es) X.env=(lT,eval e X.env,)::ii es X.env:=by rfl) (hpl:(backTo pos (ii es X.env)).any (·.1)=lT:=by rfl) :
  PX X (.Call (.Name x p) (e::es) [] pos) (λE=>b4F sp [] E t):=by
 ext d s σ H Q E I h;show jH (a2M I hg hm ?_ hdb);show PySem.W.callWith_K I.ok.mod.kin hk (iw (ha pos d s σ H _ (I.wish _) h) (λc i (j,g,a,r,q)=>(a.kIn,?_)) λ_ _ z=>aX z) he hpl;let a:=a.unwish;let q:sp _ g Q E:=q;rw[bC]at q;let l:c.length=ps.length:=by rw[<- r.length];show F.len _ _ _ _ q
 show jj (i7 (F.run X.A X.stack i g (c,[]) c j Q E hr a.env0 ↑(hb i c a.kIn (by simp_all)) r q) λr m b=>?_);cases r with
 |error e=>show(g,i,a,b)
 |ok fl=>
  cases fl with
  |ret u=>show a.after b
  |next=>show aX b
  |brk=>show aX b
  |cont=>show aX b
def tTry(PC:Addr->Prop)(i:Nat)(tc:XK->TE)(th:Addr->Addr->TS):TS:=λD σ H=>∃E:XK,tc E σ H (λ_ H1=>D.nx σ H1)/\∀c H',E c lR H'->∃C,c=.ref C/\PC C/\∀e,H' e=lR ->
 th C e { nx:=fun σ' H''=>D.nx (σ'.set i lR) H'',rt:=D.rt,bk:=fun σ' H''=>D.bk (σ'.set i lR) H'',ct:=fun σ' H''=>D.ct (σ'.set i lR) H'' } (σ.set i (bo (.ref e))) H'
def b4Z{PC:Addr->Prop}(hst:X.stack=X.env::X.outer)(hex:X.ex=[])(hfm:X.env.frame=bo X.env.locals)(hb:PX X ce tc)(hg:Gl X x)(hm:X.mg x=bo (.ref D))(hD:∀C,PC C->PySem.W.exmOne X.K (.ref C) (.ref D)=bo lS)
  (hN:X.N.Nodup) (hi:X.N[i]?=bo n) (hl:X.env.scope.names.lookup n=bo .local) (hh:∀C e oe,PC C->oe.cls=.ref C->oe.dict=lR->PySem.W.notCls oe=lS->PSs (X.hnd e oe) (b₀::suite) (th C e))
  (hs:iY ce lR pos.line X.env=pure lT:=by rfl) (hd:(x==("__debug__":Str))=lT:=by decide) :
  PS X (.Try [.Expr ce pos] [.ExceptHandler (bo (.Name x np)) (bo n) (b₀::suite) hpos] [] [] tpos) (tTry PC i tc th):=by
 intro a s σ H D' I (E,hc,hE);show wpAny_Try_except (kE (wpAny_Expr_any (iw (hb a s σ H _ E I hc) (λv s1 (y,H1,t,r1,q1)=>ju (ju (σ,H1,t,q1))) λev k q=>?_) I.quiet hs));let(H1,s1,t,e,C,H',rfl,os,U,un,hok,((T,f,nT,fT),ne,L),q):=q;let(C0,hC,M,hth):=hE _ _ q;cases hC;let I2:Inv X a σ H' k:=t.call' (ch:=[]) os un hok U λ_ z=>nomatch z;let fr:X.A.frames=bo (X.env::X.outer):=by rw[<- hst];show I.ok.frames
 let V:k.heap.FunFrames X.base (X.env::X.outer):=by rw[<- hst];show I2.stack
 let j:∀b,s1.heap.get? b=lR->H' b=lR->X.s₀.heap.get? b=lR/\H' b=lR/\b≠X.env.locals/\(∀x c,X.env.cells.lookup x=bo c->c≠b)/\∀p∈X.pn++a,p.1≠b:=λb r B=>by
  show(?_,B,λz=>?_,λx c hx z=>?_,λp hp z=>?_)
  .cases q0:X.s₀.heap.get? b with
   |none=>rfl
   |some o=>
    let(o',g):=t.base.there b o q0 (by rw[hex];show dH);rw[r]at g;cases g
  .let(m,(o,_,_,g,_),_):=t.loc;rw[z,g]at r;cases r
  .let(v,o,g,_):=t.cell x c hx;rw[z,r]at g;cases g
  .let g:=(t.pin p hp).1;rw[z,r]at g;cases g
 show b1D fr V hfm f λr T1 k1 f1 z1=>a9Z f1 λB k2 f2=>?_;let yT:∀b,b=e\/b=T->X.s₀.heap.get? b=lR/\H' b=lR/\b≠X.env.locals/\(∀x c,X.env.cells.lookup x=bo c->c≠b)/\∀p∈X.pn++a,p.1≠b:=λb hb=>by
  let rfl||rfl:=hb
  .show j _ ne L
  .show j _ nT fT
 let tk:∀b,b=T1->(b=e\/b=T)\/k.heap.objs.size<=b:=λb hb=>by
  rw[hb];let z||z:=z1
  .show .inl (.inr z)
  .show .inr z
 let Q:=k1.trans (k2 _) tk;let I3:=I2.lk0 (by rw[hst];show Q) yT;let mk:∀{h:Heap},FlyT e (.ref C) T1 .none h->Inv X a σ H' { k with heap:=h }->∃d,d.cls=.ref C/\d.dict=lR/\PySem.W.notCls d=lS/\Inv (X.hnd e d) a σ H' { k with heap:=h }:=λ{h} f I=>by
  let(d,vs,_,_,g1,g2,S,_):=f;show(d,g2.1,g2.2,by unfold PySem.W.notCls;rw[S],I.hnd g1 L (j e ne L).2.2.1 (λz=>?_) (λv=>by rw[S];show λz=>nomatch z));let(_,ob,hob,no):=I.funs.mem z;let F:h.get? e=bo ob:=hob;rw[g1]at F;cases F;show no vs S
 let(d,R,c2,c3,J3):=mk f2 I3;show wpAny_handleBy_cons (codeAny_handlers_test (a2M J3 hg hm ?_ hd)) (by ext q;cases q);let LT:PySem.W.Looks (model X.prog X.w) B (typeOf (.ref e)) (.ref C):=by
  let he:=(J3.pin (e,d,) (.head _)).1;show R▸(PySem.W.Looks.ld he).andThen .now
 show (PySem.W.exm_one I3.kIn LT (hD C M)).at ?_;show codeAny_handlers_suite_as ?_;show a9Z f2 λh3 k3 f3=>?_;let I4:=I2.lk0 (by rw[hst];show Q.trans (k3 _) tk) yT;let(d,R,c2,c3,J4):=mk f3 I4;show a2G (X:=X.hnd e d) J4 hN hi (.inl hl) (v:=.ref e) rfl (λs5 J5=>?_) (.inr hl);show iw (hh C e d M R c2 c3 a s5 _ H' _ J5 (hth e L)) (λV s6 G=>?_) λ_ _ z=>aX z;cases V with
 |next=>
  let(σ6,H6,J6,q):=G;show a1X (J6.unhnd I.ok) hN hi hl λY l=>(_,H6,l,q)
 |brk=>
  let(σ6,H6,J6,q):=G;show a1X (J6.unhnd I.ok) hN hi hl λY l=>(_,H6,l,q)
 |cont=>
  let(σ6,H6,J6,q):=G;show a1X (J6.unhnd I.ok) hN hi hl λY l=>(_,H6,l,q)
 |ret u=>
  let(v,σ6,H6,J6,r6,q):=G;show a1X (J6.unhnd I.ok) hN hi hl λY l=>(v,_,H6,l,r6,q)
end
abbrev a2E(c:Addr)(q:Str):HO:=.ext λh=>h.CodeRec (.ref c) q
def TabO(H:Hp)(p:Pos)(q:Str)(ps:Array Value):Prop:=ps=#[]\/∃c oc,ps=#[rawInt p.line,rawInt p.col,.ref c]/\H c=bo (.frz oc (a2E c q))
def Tab(H:Hp)(P:Addr)(p:Pos)(q:Str):Prop:=∃ps,H P=bo (.tbl ps)/\TabO H p q ps
def Tab.stay(f:∀b o c,H b=bo (.frz o (a2E c q))->H' b=bo (.frz o (a2E c q)))(e:H' lU=H lU)(h:Tab H lU p q):Tab H' lU p q:=by
 let(a,g,h):=h;show(a,e.trans g,?_);let h||(c,oc,h,k):=h
 .show .inl h
 .show .inr (c,oc,h,f _ _ _ k)
inductive Z where
 |non |bl (b:Bool) |int (i:Int) |str (x:Str) |ref (a:Addr) |ty (n:String) |scr (a:Addr) (ns:List Int)
 |tup (ws:List Z)
mutual
def eqZ:Z->Z->Bool
 |.non,.non=>lS
 |.bl a,.bl b=>a==b
 |.int a,.int b=>decide (a=b)
 |.str a,.str b=>decide (a=b)
 |.ref a,.ref b=>decide (a=b)
 |.ty a,.ty b=>decide (a=b)
 |.scr a ns,.scr b ms=>decide (a=b)&&decide (ns=ms)
 |.tup a,.tup b=>eqZs a b
 |_,_=>lT
def eqZs:List Z->List Z->Bool
 |[],[]=>lS
 |a::as,b::bs=>eqZ a b&&eqZs as bs
 |_,_=>lT
end
def a3i{p:Prop}(h:lT=lS):p:=absurd h bO
mutual
theorem a5f:∀x y:Z,eqZ x y=lS↔x=y
 |.tup a,y=>by
  cases y with
  |tup b=>show(λh=>congrArg _ ((a2H a b).mp h),λh=>(a2H a b).mpr (by cases h;rfl))
  |_=>show(λh=>a3i h,λh=>by cases h)
 |.non,y=>by
  cases y with
  |non=>show(λ_=>rfl,λ_=>rfl)
  |_=>show(λh=>a3i h,λh=>by cases h)
 |.bl a,y=>by
  cases y with
  |bl b=>show(λh=>congrArg _ (eq_of_beq h),λh=>by cases h;show beq_self_eq_true a)
  |_=>show(λh=>a3i h,λh=>by cases h)
 |.int a,y=>by
  cases y with
  |int b=>show(λh=>congrArg _ (of_decide_eq_true h),λh=>by cases h;show decide_eq_true rfl)
  |_=>show(λh=>a3i h,λh=>by cases h)
 |.str a,y=>by
  cases y with
  |str b=>show(λh=>congrArg _ (of_decide_eq_true h),λh=>by cases h;show decide_eq_true rfl)
  |_=>show(λh=>a3i h,λh=>by cases h)
 |.ref a,y=>by
  cases y with
  |ref b=>show(λh=>congrArg _ (of_decide_eq_true h),λh=>by cases h;show decide_eq_true rfl)
  |_=>show(λh=>a3i h,λh=>by cases h)
 |.ty a,y=>by
  cases y with
  |ty b=>show(λh=>congrArg _ (of_decide_eq_true h),λh=>by cases h;show decide_eq_true rfl)
  |_=>show(λh=>a3i h,λh=>by cases h)
 |.scr a ns,y=>by
  cases y with
  |scr b ms=>show(λh=>by
    let h:=d5.mp h;rw[of_decide_eq_true h.1,of_decide_eq_true h.2],λh=>by cases h;show d5.mpr (decide_eq_true rfl,decide_eq_true rfl))
  |_=>show(λh=>a3i h,λh=>by cases h)
theorem a2H:∀x y:List Z,eqZs x y=lS↔x=y
 |[],y=>by
  cases y with
  |nil=>show(λ_=>rfl,λ_=>rfl)
  |cons b bs=>show(λh=>a3i h,λh=>by cases h)
 |a::as,y=>by
  cases y with
  |nil=>show(λh=>a3i h,λh=>by cases h)
  |cons b bs=>show(λh=>by
    let h:=d5.mp h;rw[(a5f a b).mp h.1,(a2H as bs).mp h.2],λh=>by cases h;show d5.mpr ((a5f a a).mpr rfl,(a2H as as).mpr rfl))
end
instance:DecidableEq Z:=λx y=>decidable_of_iff _ (a5f x y)
section
variable{K:Fg}{H1 H2:Hp}{a p:Addr}{xs:List V}
def Fz(K:Fg)(H:Hp)(a:Addr)(xs:List V):Prop:=
 (∃o,H a=bo (.frz o (.lst xs)))\/∃(o:Obj)(its:Array Value)(n:Nat),K.lookup a=bo o/\o.cls=.type "list"/\o.dict=lR/\o.data=.seq its n/\its.size<=ie/\Vals xs its.toList
def Fz.sq(h:Fz K H a xs):SqL K H a xs:=by
 let(o,h)||h:=h
 .show .inl (.inr (o,h))
 .show .inr h
def Fz.of(hO:Only H)(h:SqL K H a xs):Fz K H a xs:=by
 let(h||h)||h:=h
 .let z||(o,ys,z):=hO a
  .grind
  .simp_all
 .show .inl h
 .show .inr h
structure TW (K:Fg) (H H':Hp):Prop where
 tup:∀a xs,H a=bo (.tup xs)->H' a=bo (.tup xs)
 frz:∀a xs,Fz K H a xs->Fz K H' a xs
structure TK (K:Fg) (H H':Hp):Prop where
 tup:∀a xs,H a=bo (.tup xs)->H' a=bo (.tup xs)
 frz:∀a xs,Fz K H a xs->Fz K H' a xs
 frd:∀a o u,H a=bo (.frz o u)->H' a=bo (.frz o u)
def TK.refl(K:Fg)(H:Hp):TK K H H:=(λ_ _ h=>h,λ_ _ h=>h,λ_ _ _ h=>h)
def TK.trans(a:TK K H H1)(b:TK K H1 H2):TK K H H2:=(λc d h=>b.tup c d (a.tup c d h),λc d h=>b.frz c d (a.frz c d h),λc o u h=>b.frd c o u (a.frd c o u h))
noncomputable def TK.upd(h:∀xs,H p≠bo (.tup xs))(h2:∀o u,H p≠bo (.frz o u)):TK K H (L2.upd H p o):=by
 show(λc b e=>?_,λc b e=>?_,λc a u e=>by rw[a0f (by ext rfl;show h2 _ _ e)];show e)
 .rw[a0f (by ext rfl;show h _ e)];show e
 .let(a,e)||e:=e
  .show .inl (a,by rw[a0f (by ext rfl;show h2 _ _ e)];show e)
  .show .inr e
def TK.new(h:H p=lR):TK K H (L2.upd H p o):=.upd (λa e=>by rw[h]at e;cases e) (λo u e=>by rw[h]at e;cases e)
def TK.lst{o:HO}(h:H p=bo (.lst xs)):TK K H (L2.upd H p o):=by simp_all[upd]
def TK.dK{o:HO}{kvs:List (Key×V)}(h:H p=bo (.dK kvs)):TK K H (L2.upd H p o):=by simp_all[upd]
def TK.ins{o:HO}{C dx:Addr}{fs:List (Str×V)}(h:H p=bo (.ins C dx fs)):TK K H (L2.upd H p o):=by simp_all[upd]
end
mutual
def Rep(K:Fg)(H:Hp):Z->V->Prop
 |.non,v=>v=.non
 |.bl b,v=>v=.bl b
 |.int i,v=>v=.int i
 |.str x,v=>v=.str x
 |.ref a,v=>v=.ref a
 |.ty n,v=>v=.ty n
 |.scr a ns,v=>v=.ref a/\Fz K H a (ns.map V.int)
 |.tup ws,v=>∃a vs,v=.ref a/\H a=bo (.tup vs)/\Reps K H ws vs
def Reps(K:Fg)(H:Hp):List Z->List V->Prop
 |[],vs=>vs=[]
 |w::ws,vs=>∃v r,vs=v::r/\Rep K H w v/\Reps K H ws r
end
section
variable{K:Fg}
def a0z:Rep K H .non v=(v=.non):=by unfold Rep;rfl
def a0v:Rep K H (.bl b) v=(v=.bl b):=by unfold Rep;rfl
def a0l:Rep K H (.int i) v=(v=.int i):=by unfold Rep;rfl
def a0x:Rep K H (.str x) v=(v=.str x):=by unfold Rep;rfl
def a0q:Rep K H (.ref a) v=(v=.ref a):=by unfold Rep;rfl
def a5X:Rep K H (.ty n) v=(v=.ty n):=by unfold Rep;rfl
def a2l:Rep K H (.scr a ns) v=(v=.ref a/\Fz K H a (ns.map V.int)):=by unfold Rep;rfl
def a03:Rep K H (.tup ws) v=(∃a vs,v=.ref a/\H a=bo (.tup vs)/\Reps K H ws vs):=by conv=>lhs;unfold Rep
def a0t:Reps K H [] vs=(vs=[]):=by unfold Reps;rfl
def a2R:Reps K H (lU::ws) vs=(∃v r,vs=v::r/\Rep K H lU v/\Reps K H ws r):=by conv=>lhs;unfold Reps
mutual
theorem Rep.monoW(t:TW K H H'):∀(w:Z)(v:V),Rep K H w v->Rep K H' w v
 |.tup ws,v,h=>by
  rw[a03]at h ⊢;let(a,vs,e,h,r):=h;show(a,vs,e,t.tup _ _ h,Reps.monoW t ws vs r)
 |.scr a ns,v,h=>by
  rw[a2l]at h ⊢;show(h.1,t.frz _ _ h.2)
 |.non,v,h=>by rw[a0z]at h ⊢;show h
 |.bl _,v,h=>by rw[a0v]at h ⊢;show h
 |.int _,v,h=>by rw[a0l]at h ⊢;show h
 |.str _,v,h=>by rw[a0x]at h ⊢;show h
 |.ref _,v,h=>by rw[a0q]at h ⊢;show h
 |.ty _,v,h=>by rw[a5X]at h ⊢;show h
theorem Reps.monoW(t:TW K H H'):∀(ws:List Z)(vs:List V),Reps K H ws vs->Reps K H' ws vs
 |[],vs,h=>by rw[a0t]at h ⊢;show h
 |w::ws,vs,h=>by
  rw[a2R]at h ⊢;let(v,r,e,h1,h2):=h;show(v,r,e,Rep.monoW t w v h1,Reps.monoW t ws r h2)
end
def Rep.mono(t:TK K H H')(w:Z)(v:V)(h:Rep K H w v):Rep K H' w v:=Rep.monoW (t.tup,t.frz) w v h
def Reps.mono(t:TK K H H')(ws:List Z)(vs:List V)(h:Reps K H ws vs):Reps K H' ws vs:=Reps.monoW (t.tup,t.frz) ws vs h
def Reps.cons{w:Z}{v:V}{ws:List Z}{vs:List V}(a:Rep K H w v)(b:Reps K H ws vs):Reps K H (w::ws) (v::vs):=by rw[a2R];show(v,vs,rfl,a,b)
def Reps.nil:Reps K H [] []:=by rw[a0t]
def Reps.length:∀{ws:List Z}{vs:List V},Reps K H ws vs->ws.length=vs.length:=by ext z0;induction z0 with
 |nil=>ext vs h;rw[a0t]at h;rw[h];rfl
 |cons w ws I0=>
  ext vs h;let(v,r,e,_,a):=h;rw[e,be,be,I0 a]
def Reps.get:∀{ws:List Z}{vs:List V}{i:Nat}{w:Z},Reps K H ws vs->ws[i]?=bo w->∃v,vs[i]?=bo v/\Rep K H w v:=by ext z0;induction z0 with
 |nil=>ext _ _ _ _ e;simp at e
 |cons w ws I0=>
  ext vs i x h e;let(v,r,rfl,b,a):=h;cases i with
  |zero=>simp at e;subst e;show(v,rfl,b)
  |succ i=>o_head I0 a (by simp_all)
def Reps.tog{i:Nat}(h:Reps K H ws vs)(e:vs[i]?=bo v):∃w,ws[i]?=bo w/\Rep K H w v:=by
 let c:=h.length;let a:i<ws.length:=by grind
 let(d,b,r):=h.get (aU a);rw[e]at b;cases b;show(_,aU a,r)
def Reps.append:∀{ws ws':List Z}{vs vs':List V},Reps K H ws vs->Reps K H ws' vs'->Reps K H (ws++ws') (vs++vs'):=by ext z0;induction z0 with
 |nil=>ext _ vs _ h h';rw[a0t]at h;subst h;show h'
 |cons w ws I0=>
  ext _ vs _ h h';let(v,r,rfl,a,b):=h;show .cons a (I0 b h')
theorem Reps.drop:∀{ws:List Z}{vs:List V}(n:Nat),Reps K H ws vs->Reps K H (ws.drop n) (vs.drop n)
 |[],vs,n,h=>by rw[a0t]at h;subst h;o_head Reps.nil
 |w::ws,vs,0,h=>h
 |w::ws,vs,n+1,h=>by
  let(v,r,rfl,b,a):=h;show Reps.drop n a
theorem Reps.take:∀{ws:List Z}{vs:List V}(n:Nat),Reps K H ws vs->Reps K H (ws.take n) (vs.take n)
 |[],vs,n,h=>by rw[a0t]at h;subst h;o_head Reps.nil
 |w::ws,vs,0,h=>↑Reps.nil
 |w::ws,vs,n+1,h=>by
  let(v,r,rfl,a,b):=h;show .cons a (Reps.take n b)
def Reps.set(r:Rep K H lU v):∀{ws:List Z}{vs:List V}(i:Nat),Reps K H ws vs->Reps K H (ws.set i lU) (vs.set i v):=by ext z0;induction z0 with
 |nil=>ext vs i h;rw[a0t]at h;subst h;o_head Reps.nil
 |cons x ws I0=>
  ext vs i h;let(y,s,rfl,b,a):=h;cases i with
  |zero=>show .cons r a
  |succ i=>show .cons b (I0 i a)
def Reps.reverse:∀{ws:List Z}{vs:List V},Reps K H ws vs->Reps K H ws.reverse vs.reverse:=by ext z0;induction z0 with
 |nil=>ext vs h;rw[a0t]at h;subst h;show Reps.nil
 |cons x ws I0=>
  ext vs h;let(y,s,rfl,b,a):=h;rw[dg,dg];show (I0 a).append (.cons b .nil)
def a4t:∀{ns:List Int}{vs:List V},Reps K H (ns.map Z.int) vs->vs=ns.map V.int:=by ext z0;induction z0 with
 |nil=>ext vs h;rw[bF,a0t]at h;subst h;rfl
 |cons n ns I0=>
  ext vs h;let(v,r,rfl,a,b):=h;rw[a,I0 b];rfl
def a1r:∀(ns:List Int),Reps K H (ns.map Z.int) (ns.map V.int):=by ext z0;induction z0 with
 |nil=>show Reps.nil
 |cons n ns I0=>show .cons (by rw[a0l]) (I0)
def Reps.one(h:Reps K H [lU] vs):∃v,vs=[v]/\Rep K H lU v:=by
 let(v,r,rfl,b,a):=h;show(v,by rw[a],b)
def Reps.two(h:Reps K H [lU,w'] vs):∃v v',vs=[v,v']/\Rep K H lU v/\Rep K H w' v':=by
 let(v,r,rfl,c,a):=h;let(d,rfl,b):=a.one;show(v,d,rfl,c,b)
end
inductive O where
 |lst (ws:List Z)
 |dK (kvs:List (Key×Z))
 |ins (C dx:Addr) (fs:List (Str×Z))
 |dF (kvs:List (Key×Z))
 |dT (ks:List (List Key))
 |tab (p:Pos) (q:Str)
abbrev Hq:=Addr->Option O
noncomputable def put(G:Hq)(a:Addr)(o:O):Hq:=λb=>if b=a then bo o else G b
def a0a:put G a o a=bo o:=by unfold put;rw[if_pos rfl]
def a0d(h:b≠a):put G a o b=G b:=by unfold put;rw[if_neg h]
def a1s:put (put G a o) a u=put G a u:=by
 funext b;unfold put;split<;>rfl
def a0g{G:Hq}(h:G a=bo o)(h':G b=lR):a≠b:=by
 ext e;subst e;rw[h]at h';cases h'
def a0b(h:G b=bo u)(n:G a=lR):put G a o b=bo u:=(a0d (a0g h n))▸h
def ROb(K:Fg)(H:Hp)(a:Addr):O->Prop
 |.lst ws=>∃vs,H a=bo (.lst vs)/\Reps K H ws vs
 |.dK kvs=>∃us,H a=bo (.dK us)/\us.map (·.1)=kvs.map (·.1)/\Reps K H (kvs.map (·.2)) (us.map (·.2))
 |.ins C dx fs=>∃gs,H a=bo (.ins C dx gs)/\gs.map (·.1)=fs.map (·.1)/\Reps K H (fs.map (·.2)) (gs.map (·.2))
 |.dF kvs=>∃o us,H a=bo (.frz o (.dK us))/\us.map (·.1)=kvs.map (·.1)/\Reps K H (kvs.map (·.2)) (us.map (·.2))
 |.dT ks=>∃us,H a=bo (.dT us)/\us.map (·.1)=ks
 |.tab p q=>Tab H a p q
def RH(K:Fg)(G:Hq)(H:Hp):Prop:=∀a o,G a=bo o->ROb K H a o
section
variable{K:Fg}{G:Hq}{a p:Addr}{o:O}{u:HO}
def ROb.some(h:ROb K H a o):∃u,H a=bo u:=by
 cases o with
 |lst ws=>let(b,e,_):=h;show(_,e)
 |dK kvs=>let(b,e,_):=h;show(_,e)
 |ins C dx fs=>let(b,e,_):=h;show(_,e)
 |dF kvs=>let(d,b,e,_):=h;show(_,e)
 |dT ks=>let(b,e,_):=h;show(_,e)
 |tab p q=>let(c,e,_):=h;show(_,e)
def ROb.stay(t:TK K H H')(e:H' a=H a)(h:ROb K H a o):ROb K H' a o:=by
 cases o with
 |lst ws=>let(d,q,r):=h;show(d,e.trans q,r.mono t)
 |dK kvs=>let(d,q,n,r):=h;show(d,e.trans q,n,r.mono t)
 |ins C dx fs=>let(d,q,n,r):=h;show(d,e.trans q,n,r.mono t)
 |dF kvs=>let(f,d,q,n,r):=h;show(f,d,e.trans q,n,r.mono t)
 |dT ks=>let(d,q,n):=h;show(d,e.trans q,n)
 |tab p q=>show Tab.stay (λb o c k=>t.frd b o _ k) e h
def RH.out(h:RH K G H)(e:H a=lR):G a=lR:=by
 cases q:G a with
 |none=>rfl
 |some o=>let(u,z):=(h a o q).some;rw[e]at z;cases z
def RH.hid(h:RH K G H)(e:H p=lR):RH K G (upd H p u):=λb o q=>
 (h b o q).stay (.new e) (a0f (by ext rfl;let(u,z):=(h _ o q).some;rw[e]at z;cases z))
def RH.set(h:RH K G H)(t:TK K H (upd H p u))(n:ROb K (upd H p u) p o):RH K (put G p o) (upd H p u):=λb a q=>by
 by_cases hb:b=p
 .subst hb;rw[a0a]at q;cases q;show n
 .rw[a0d hb]at q;show (h b a q).stay t (a0f hb)
end
abbrev S3:=List (Option Z)
abbrev K3:=Z->Hq->Prop
abbrev C3:=S3->Hq->Prop
abbrev E3:=S3->Hq->K3->Prop
abbrev T3:=S3->Hq->(Bool->Hq->Prop)->Prop
abbrev A3:=S3->Hq->(List Z->Hq->Prop)->Prop
abbrev X3:=C3->K3->C3->C3->S3->Hq->Prop
def ROp(K:Fg)(H:Hp)(ow:Option Z)(ov:Option V):Prop:=∀w,ow=bo w->∃v,ov=bo v/\Rep K H w v
def RSt(K:Fg)(H:Hp):S3->L2.St->Prop:=Paired (ROp K H)
section
variable{K:Fg}
def RSt.mono(t:TK K H H'):∀{σ:S3}{τ:L2.St},RSt K H σ τ->RSt K H' σ τ:=by ext z0 y0 x0;induction x0 with
 |nil=>show .nil
 |cons r s I0=>show .cons (λw e=>by let(v,q,h):=r w e;show(v,q,h.mono t)) (I0)
theorem RSt.get:∀{σ:S3}{τ:L2.St}{i:Nat}{w:Z},RSt K H σ τ->σ[i]?=bo (bo w)->∃v,τ[i]?=bo (bo v)/\Rep K H w v
 |_,_,_,_,.nil,e=>by simp at e
 |_,_,0,w,.cons r _,e=>by
  let(v,q,h):=r w ↑e;show(v,by rw[q];rfl,h)
 |_,_,i+1,w,.cons _ s,e=>by
  let(v,q,h):=RSt.get s ↑e;show(v,↑q,h)
theorem RSt.set(r:Rep K H lU v):∀{σ:S3}{τ:L2.St}(i:Nat),RSt K H σ τ->RSt K H (σ.set i (bo lU)) (τ.set i (bo v))
 |_,_,_,.nil=>.nil
 |_,_,0,.cons _ s=>.cons (λ_ e=>by cases e;show(v,rfl,r)) s
 |_,_,i+1,.cons q s=>.cons q (RSt.set r i s)
def RSt.length(h:RSt K H σ τ):σ.length=τ.length:=Paired.length h
def RSt.nones:∀n:Nat,RSt K H (dU n lR) (dU n lR):=by ext z0;induction z0 with
 |zero=>show .nil
 |succ n I0=>show .cons (λ_ e=>nomatch e) (I0)
def RSt.app:∀{σ σ':S3}{τ τ':L2.St},RSt K H σ τ->RSt K H σ' τ'->RSt K H (σ++σ') (τ++τ'):=by ext z0 y0 x0 w0 v0;induction v0 with
 |nil=>ext h;show h
 |cons r s I0=>ext h;show .cons r (I0 h)
def RSt.ofVals:∀{ws:List Z}{vs:List V},Reps K H ws vs->RSt K H (ws.map bo) (vs.map bo):=by ext z0;induction z0 with
 |nil=>ext vs h;rw[a0t]at h;subst h;show .nil
 |cons w ws I0=>
  ext vs h;let(v,r,rfl,b,a):=h;show .cons (λ_ e=>by cases e;show(v,rfl,b)) (I0 a)
end
noncomputable def a07(N:List Str)(ws:List Z):S3:=ws.map bo++dU (N.length-ws.length) lR
noncomputable def RSt.start{K:Fg}(h:Reps K H ws vs):RSt K H (a07 N ws) (L2.start N vs):=by
 unfold a07 L2.start;rw[h.length];show (RSt.ofVals h).app (RSt.nones _)
def UpV(K:Fg)(H:Hp)(R:K3)(Q:VK):Prop:=∀w G v H',R w G->Rep K H' w v->RH K G H'->TK K H H'->Q v H'
def UpB(K:Fg)(H:Hp)(R:Bool->Hq->Prop)(Q:Bool->Hp->Prop):Prop:=∀b G H',R b G->RH K G H'->TK K H H'->Q b H'
def UpA(K:Fg)(H:Hp)(R:List Z->Hq->Prop)(Q:List V->Hp->Prop):Prop:=∀ws G vs H',R ws G->Reps K H' ws vs->RH K G H'->TK K H H'->Q vs H'
def UpS(K:Fg)(H:Hp)(R:C3)(Q:L2.St->Hp->Prop):Prop:=∀σ G τ H',R σ G->RSt K H' σ τ->RH K G H'->TK K H H'->Q τ H'
section
variable{K:Fg}
def UpV.mono(h:UpV K H R Q)(t:TK K H H'):UpV K H' R Q:=λw G v b q r g a=>h w G v b q r g (t.trans a)
def UpB.mono(h:UpB K H R Q)(t:TK K H H'):UpB K H' R Q:=λw G b q g a=>h w G b q g (t.trans a)
def UpA.mono(h:UpA K H R Q)(t:TK K H H'):UpA K H' R Q:=λw G v b q r g a=>h w G v b q r g (t.trans a)
def UpS.mono(h:UpS K H R Q)(t:TK K H H'):UpS K H' R Q:=λw G v b q r g a=>h w G v b q r g (t.trans a)
end
def low(K:Fg)(t:E3):TE:=fun τ H Q=>∃σ G R,RSt K H σ τ/\RH K G H/\t σ G R/\UpV K H R Q
def low.un{K:Fg}{C:Prop}(z:low K t τ H Q)(f:∀σ G R,(RSt K H σ τ)->(RH K G H)->(t σ G R)->(UpV K H R Q)->C):C:=by let(σ,G,R,d,b,c,a):=z;show f _ _ _ d b c a
def lowT(K:Fg)(t:T3):TT:=fun τ H Q=>∃σ G R,RSt K H σ τ/\RH K G H/\t σ G R/\UpB K H R Q
def lowT.un{K:Fg}{C:Prop}(z:lowT K t τ H Q)(f:∀σ G R,(RSt K H σ τ)->(RH K G H)->(t σ G R)->(UpB K H R Q)->C):C:=by let(σ,G,R,b,a,d,c):=z;show f _ _ _ b a d c
def lowA(K:Fg)(t:A3):TA:=fun τ H Q=>∃σ G R,RSt K H σ τ/\RH K G H/\t σ G R/\UpA K H R Q
def lowA.un{K:Fg}{C:Prop}(z:lowA K t τ H Q)(f:∀σ G R,(RSt K H σ τ)->(RH K G H)->(t σ G R)->(UpA K H R Q)->C):C:=by let(σ,G,R,d,b,c,a):=z;show f _ _ _ d b c a
def lowS(K:Fg)(t:X3):TS:=λD τ H=>∃σ G nx rt bk ct,RSt K H σ τ/\RH K G H/\t nx rt bk ct σ G/\UpS K H nx D.nx/\UpV K H rt D.rt/\UpS K H bk D.bk/\UpS K H ct D.ct
def lowS.un{K:Fg}{C:Prop}(z:lowS K t D τ H)(f:∀σ G nx rt bk ct,(RSt K H σ τ)->(RH K G H)->(t nx rt bk ct σ G)->(UpS K H nx D.nx)->(UpV K H rt D.rt)->(UpS K H bk D.bk)->(UpS K H ct D.ct)->C):C:=by let(σ,G,k,j,l,i,h,a,g,b,c,d,e):=z;show f _ _ _ _ _ _ h a g b c d e
structure QE (X:Cx) (e:Expr) (t:E3):Prop where
 p:PE X e (low X.K t)
structure QT (X:Cx) (e:Expr) (t:T3):Prop where
 p:PT X e (lowT X.K t)
structure QW (X:Cx) (e:Expr) (t:T3):Prop where
 p:PW X e (lowT X.K t)
structure QA (X:Cx) (es:List Expr) (t:A3):Prop where
 p:PA X es (lowA X.K t)
structure QS (X:Cx) (st:Stmt) (t:X3):Prop where
 p:PS X st (lowS X.K t)
structure QSs (X:Cx) (st:List Stmt) (t:X3):Prop where
 p:PSs X st (lowS X.K t)
def QW.qt(h:QW X e t):QT X e t:=⟨PW.pt h.p⟩
section
variable{e:Expr}{st:Stmt}{sts:List Stmt}
def a0X(h:PE X e t')(i:∀σ H Q,t σ H Q->t' σ H Q):PE X e t:=λa s σ H Q I q=>h a s σ H Q I (i σ H Q q)
def a7V(h:PT X e t')(i:∀σ H Q,t σ H Q->t' σ H Q):PT X e t:=λa s σ H Q I q=>h a s σ H Q I (i σ H Q q)
def b40(h:PW X e t')(i:∀σ H Q,t σ H Q->t' σ H Q):PW X e t:=λw a s σ H Q I q=>h w a s σ H Q I (i σ H Q q)
def b41(h:PA X es t')(i:∀σ H Q,t σ H Q->t' σ H Q):PA X es t:=λb a s σ H Q I q=>h b a s σ H Q I (i σ H Q q)
def a1G(h:PS X st t')(i:∀D σ H,t D σ H->t' D σ H):PS X st t:=λa s σ H D I q=>h a s σ H D I (i D σ H q)
def a7W(h:PSs X sts t')(i:∀D σ H,t D σ H->t' D σ H):PSs X sts t:=λa s σ H D I q=>h a s σ H D I (i D σ H q)
end
abbrev R3:=Z->Z->Hq->K3->Prop
def low2(K:Fg)(r:R3):R2:=λx y H Q=>∃a b G R,Rep K H a x/\Rep K H b y/\RH K G H/\r a b G R/\UpV K H R Q
def low2.un{K:Fg}{C:Prop}(z:low2 K r x y H Q)(f:∀a b G R,(Rep K H a x)->(Rep K H b y)->(RH K G H)->(r a b G R)->(UpV K H R Q)->C):C:=by let(a,b,G,R,e,h,g,c,d):=z;show f _ _ _ _ e h g c d
def low1(K:Fg)(r:Z->Hq->K3->Prop):V->Hp->VK->Prop:=λx H Q=>∃a G R,Rep K H a x/\RH K G H/\r a G R/\UpV K H R Q
def low1.un{K:Fg}{C:Prop}(z:low1 K r x H Q)(f:∀a G R,(Rep K H a x)->(RH K G H)->(r a G R)->(UpV K H R Q)->C):C:=by let(a,G,R,c,e,d,b):=z;show f _ _ _ c e d b
def lowC(K:Fg)(r:List Z->Hq->K3->Prop):List V->Hp->VK->Prop:=λxs H Q=>∃ws G R,Reps K H ws xs/\RH K G H/\r ws G R/\UpV K H R Q
def lowC.un{K:Fg}{C:Prop}(z:lowC K r xs H Q)(f:∀ws G R,(Reps K H ws xs)->(RH K G H)->(r ws G R)->(UpV K H R Q)->C):C:=by let(e,G,R,b,d,c,a):=z;show f _ _ _ b d c a
def lowM(K:Fg)(r:Z->List Z->Hq->K3->Prop):V->List V->Hp->VK->Prop:=λx xs H Q=>∃w ws G R,Rep K H w x/\Reps K H ws xs/\RH K G H/\r w ws G R/\UpV K H R Q
def lowM.un{K:Fg}{C:Prop}(z:lowM K r x xs H Q)(f:∀w ws G R,(Rep K H w x)->(Reps K H ws xs)->(RH K G H)->(r w ws G R)->(UpV K H R Q)->C):C:=by let(w,g,G,R,a,d,e,b,c):=z;show f _ _ _ _ a d e b c
def OpQ(X:Cx)(f:Value->Value->Sem Value)(r:R3):Prop:=OpR X f (low2 X.K r)
def UnQ(X:Cx)(f:Value->Sem Value)(r:Z->Hq->K3->Prop):Prop:=UnR X f (low1 X.K r)
def a1t(X:Cx)(f:Value)(r:List Z->Hq->K3->Prop):Prop:=CallR X f (lowC X.K r)
def IxQ(X:Cx)(r:R3):Prop:=IxR X (low2 X.K r)
def MtQ(X:Cx)(id:String)(r:Z->List Z->Hq->K3->Prop):Prop:=MtR X id (lowM X.K r)
def a2S(h:OpR X f r')(i:∀x y H Q,r x y H Q->r' x y H Q):OpR X f r:=λa s σ H x y v u Q I c b q=>h a s σ H x y v u Q I c b (i x y H Q q)
def b7j(h:UnR X f r')(i:∀x H Q,r x H Q->r' x H Q):UnR X f r:=λa s σ H x v Q I b q=>h a s σ H x v Q I b (i x H Q q)
def a0U(h:CallR X f r')(i:∀xs H Q,r xs H Q->r' xs H Q):CallR X f r:=λa s σ H b d Q I c q=>h a s σ H b d Q I c (i b H Q q)
def b42(h:IxR X r')(i:∀x y H Q,r x y H Q->r' x y H Q):IxR X r:=λa b c s σ H x y v u Q I e d q=>h a b c s σ H x y v u Q I e d (i x y H Q q)
def a7X{id:String}(h:MtR X id r')(i:∀x xs H Q,r x xs H Q->r' x xs H Q):MtR X id r:=λa s σ H x b v e Q I d c q=>h a s σ H x b v e Q I d c (i x b H Q q)
def uVar(i:Nat):E3:=fun σ G R=>∃w,σ[i]?=bo (bo w)/\R w G
def uC(w:Z):E3:=λ_ G R=>R w G
section
variable{e a b c:Expr}{ta tb tc:E3}
def b43(h:PE X e (tVar i)):QE X e (uVar i):=⟨a0X h fun τ H Q (σ,G,R,c,b,(w,e,q),d)=>by
 let(v,a,r):=c.get e;show(v,a,d w G v H q r b (.refl _ _))⟩
def a6Q(h:PE X e (tC v))(hr:∀H,Rep X.K H lU v):QE X e (uC lU):=⟨a0X h fun τ H Q b=>b.un fun σ G R d a q c=>c lU G v H q (hr H) a (.refl _ _)⟩
def b2B:QE X (.Constant (.int i) j pos) (uC (.int i)):=a6Q b39 λ_=>by rw[a0l]
def q_bl{b j pos}:QE X (.Constant (.bool b) j pos) (uC (.bl b)):=a6Q b6V λ_=>by rw[a0v]
def b7k:QE X (.Constant .none j pos) (uC .non):=a6Q b4a λ_=>by rw[a0z]
def b2C:QE X (.Constant (.str x) j pos) (uC (.str x)):=a6Q b4b λ_=>by rw[a0x]
def q_ty(h:PE X e (tC (.ty n))):QE X e (uC (.ty n)):=a6Q h λ_=>by rw[a5X]
def uOp(r:R3)(ta tb:E3):E3:=fun σ G R=>ta σ G λx G1=>tb σ G1 λy G2=>r x y G2 R
def uUn(r:Z->Hq->K3->Prop)(ta:E3):E3:=fun σ G R=>ta σ G λx G1=>r x G1 R
def a5Y{K:Fg}(h:low K (uOp r ta tb) τ H Q):tOp (low2 K r) (low K ta) (low K tb) τ H Q:=by
 let(σ,G,R,f,k,h,o):=h;show(σ,G,_,f,k,h,λw m v p l i b e=>?_);show(σ,m,_,f.mono e,b,l,λn g q s j d c a=>?_);show(w,n,g,R,i.mono a,d,c,j,o.mono (e.trans a))
def b44{K:Fg}(h:low K (uUn r ta) τ H Q):tUn (low1 K r) (low K ta) τ H Q:=by
 let(σ,G,R,d,f,h,c):=h;show(σ,G,_,d,f,h,λw e v j g b a i=>(w,e,R,b,a,g,c.mono i))
def q_op(ho:OpQ X (iA op) r)(ha:QE X a ta)(hb:QE X b tb):QE X (.BinOp a op b pos) (uOp r ta tb):=⟨a0X (b4u ho ha.p hb.p) λ_ _ _=>a5Y⟩
def q_un(ho:UnQ X (jZ op) r)(ha:QE X a ta):QE X (.UnaryOp op a pos) (uUn r ta):=⟨a0X (b65 ho ha.p) λ_ _ _=>b44⟩
def b0b(ho:OpQ X (io op) r)(ha:QE X a ta)(hb:QE X b tb)(hm:ji op b=lT):QE X (.Compare a [op] [b] pos) (uOp r ta tb):=⟨a0X (b2q ho ha.p hb.p hm) λ_ _ _=>a5Y⟩
def a6R(t:E3):T3:=fun σ G R=>t σ G λx G1=>∃k,x=.bl k/\R k G1
def a3V{K:Fg}(h:lowT K (a6R ta) τ H Q):low K ta τ H λx H'=>∃k,x=.bl k/\Q k H':=by
 let(σ,G,R,g,f,h,i):=h;show(σ,G,_,g,f,h,λw l v j (k,e,c) a b d=>?_);subst e;show(k,a,i _ _ _ c b d)
def a3u(ho:OpQ X (io op) r)(ha:QE X a ta)(hb:QE X b tb)(hm:ji op b=lT):QT X (.Compare a [op] [b] pos) (a6R (uOp r ta tb)):=⟨a7V (b2r ho ha.p hb.p hm) λ_ _ _ h=>a5Y (a3V h)⟩
def a7Y(r r':R3)(ta tb tc:E3):E3:=fun σ G R=>ta σ G λx G1=>tb σ G1 λy G2=>r x y G2 λz G3=>∃k,z=.bl k/\(if k=lS then tc σ G3 λw G4=>r' y w G4 R else R (.bl lT) G3)
def a4u{K:Fg}(h:low K (a7Y r r' ta tb tc) τ H Q):a7A (low2 K r) (low2 K r') (low K ta) (low K tb) (low K tc) τ H Q:=by
 let(σ,G,R,g,F,h,p):=h;show(σ,G,_,g,F,h,λw A v N q B l a=>?_);show(σ,A,_,g.mono a,l,q,λm y T L s e j b=>?_);show(w,m,y,_,B.mono b,e,j,s,λz x M S (k,t,f) o d c=>?_);subst t;show(k,o,?_);cases k with
 |false=>show p _ _ _ _ ↑f (by rw[a0v]) d ((a.trans b).trans c)
 |true=>
  show(σ,x,_,g.mono ((a.trans b).trans c),d,f,λC E J I D u n i=>?_);show(m,C,E,R,e.mono (c.trans i),u,n,D,p.mono (((a.trans b).trans c).trans i))
def b2D(ho:OpQ X (io op) r)(ho':OpQ X (io op') r')(ha:QE X a ta)(hb:QE X b tb)(hc:QE X c tc)
  (hm:j3 [op,op'] [b,c]=lT:=by with_unfolding_all rfl):QE X (.Compare a [op,op'] [b,c] pos) (a7Y r r' ta tb tc):=⟨a0X (a9P ho ho' ha.p hb.p hc.p hm) λ_ _ _=>a4u⟩
def b0c(ho:OpQ X (io op) r)(ho':OpQ X (io op') r')(ha:QE X a ta)(hb:QE X b tb)(hc:QE X c tc)
  (hm:j3 [op,op'] [b,c]=lT:=by with_unfolding_all rfl):QT X (.Compare a [op,op'] [b,c] pos) (a6R (a7Y r r' ta tb tc)):=⟨a7V (a9Q ho ho' ha.p hb.p hc.p hm) λ_ _ _ h=>a4u (a3V h)⟩
def uAnd(t u:T3):T3:=fun σ G R=>t σ G λc G1=>if c=lS then u σ G1 R else R lT G1
def uOr(t u:T3):T3:=fun σ G R=>t σ G λc G1=>if c=lS then R lS G1 else u σ G1 R
def uNot(t:T3):T3:=fun σ G R=>t σ G λc G1=>R (!c) G1
variable{t u:T3}{rest:List Expr}
def b45(ha:QT X a t):QW X (.BoolOp .And [a] pos) t:=⟨b2g ha.p⟩
def b0d(ha:QT X a t):QW X (.BoolOp .Or [a] pos) t:=⟨b4d ha.p⟩
def b7l(ha:QT X a t)(hb:QW X (.BoolOp .And (b::rest) pos) u):QW X (.BoolOp .And (a::b::rest) pos) (uAnd t u):=⟨b40 (b4e ha.p hb.p) fun τ H Q l=>l.un fun σ G R f j h g=>by
 show(σ,G,_,f,j,h,λk i m d c e=>?_);cases k with
 |false=>show g _ _ _ (by simp_all) c e
 |true=>rw[if_pos rfl]at d ⊢;show(σ,i,R,f.mono e,c,d,g.mono e)⟩
def q_or(ha:QT X a t)(hb:QW X (.BoolOp .Or (b::rest) pos) u):QW X (.BoolOp .Or (a::b::rest) pos) (uOr t u):=⟨b40 (b6W ha.p hb.p) fun τ H Q l=>l.un fun σ G R f j h g=>by
 show(σ,G,_,f,j,h,λk i m e c d=>?_);cases k with
 |true=>show g _ _ _ (by simp_all) c d
 |false=>rw[if_neg (by simp)]at e ⊢;show(σ,i,R,f.mono d,c,e,g.mono d)⟩
def a5Z(ha:QT X a t):QT X (.UnaryOp .Not a pos) (uNot t):=⟨a7V (b4f ha.p) fun τ H Q g=>g.un fun σ G R d f h i=>
 (σ,G,_,d,f,h,λk j l e b c=>i _ _ _ e b c)⟩
def b46(ta tb:E3):E3:=fun σ G R=>ta σ G λx G1=>∃c,x=.bl c/\if c=lS then tb σ G1 R else R (.bl lT) G1
def uOrV(ta tb:E3):E3:=fun σ G R=>ta σ G λx G1=>∃c,x=.bl c/\if c=lS then R (.bl lS) G1 else tb σ G1 R
def b47(ta:E3):E3:=fun σ G R=>ta σ G λx G1=>∃c,x=.bl c/\R (.bl (!c)) G1
def b0e(h:QE X a ta):QE X (.BoolOp op [a] pos) ta:=⟨b4g h.p⟩
def a50(ha:QE X a ta)(hb:QE X (.BoolOp .And (b::rest) pos) tb):QE X (.BoolOp .And (a::b::rest) pos) (b46 ta tb):=⟨a0X (b4h ha.p hb.p) fun τ H Q l=>l.un fun σ G R g j h i=>by
 show(σ,G,_,g,j,h,λx n v o (k,m,e) f c d=>?_);subst m;show(k,f,?_);cases k with
 |false=>show i _ _ _ _ ↑e (by rw[a0v]) c d
 |true=>rw[if_pos rfl]at e ⊢;show(σ,n,R,g.mono d,c,e,i.mono d)⟩
def b7m(ha:QE X a ta)(hb:QE X (.BoolOp .Or (b::rest) pos) tb):QE X (.BoolOp .Or (a::b::rest) pos) (uOrV ta tb):=⟨a0X (b6Z ha.p hb.p) fun τ H Q m=>m.un fun σ G R g n h i=>by
 show(σ,G,_,g,n,h,λx j v o (k,l,d) f c e=>?_);subst l;show(k,f,?_);cases k with
 |true=>show i _ _ _ _ ↑d (by rw[a0v]) c e
 |false=>rw[if_neg (by simp)]at d ⊢;show(σ,j,R,g.mono e,c,d,i.mono e)⟩
def b7n(ha:QE X a ta):QE X (.UnaryOp .Not a pos) (b47 ta):=⟨a0X (b4i ha.p) fun τ H Q f=>f.un fun σ G R g d h j=>by
 show(σ,G,_,g,d,h,λx m v n (k,e,i) b c l=>?_);subst e;show(k,b,j _ _ _ _ i (by rw[a0v]) c l)⟩
def uIf(t:T3)(ta tb:E3):E3:=fun σ G R=>t σ G λc G1=>if c=lS then ta σ G1 R else tb σ G1 R
def q_if(hc:QT X c t)(ha:QE X a ta)(hb:QE X b tb):QE X (.IfExp c a b pos) (uIf t ta tb):=⟨a0X (a9J hc.p ha.p hb.p) fun τ H Q l=>l.un fun σ G R g m h j=>by
 show(σ,G,_,g,m,h,λk i n e f d=>?_);cases k with
 |true=>rw[if_pos rfl]at e ⊢;show(σ,i,R,g.mono d,f,e,j.mono d)
 |false=>rw[if_neg (by simp)]at e ⊢;show(σ,i,R,g.mono d,f,e,j.mono d)⟩
def tru:Z->Hq->(Bool->Hq->Prop)->Prop
 |.non,G,R=>R lT G
 |.bl b,G,R=>R b G
 |.int i,G,R=>R (i != 0) G
 |.str y,G,R=>y.length<=ie/\R ((y.length:Int) != 0) G
 |.tup ws,G,R=>R (!ws.isEmpty) G
 |.scr _ ns,G,R=>R (!ns.isEmpty) G
 |.ref p,G,R=>(∃ws,G p=bo (.lst ws)/\R (!ws.isEmpty) G)\/∃kvs,G p=bo (.dK kvs)/\R (!kvs.isEmpty) G
 |.ty _,_,_=>False
def uTru(ta:E3):T3:=fun σ G R=>ta σ G λx G1=>tru x G1 R
def a1f{α β:Type}{a:List α}{b:List β}(h:a.length=b.length):a.isEmpty=b.isEmpty:=by
 cases a<;>cases b<;>simp_all
def b2E{K:Fg}(h:tru lU G R)(r:Rep K H lU v)(hg:RH K G H)(up:UpB K H R Q):∃k,TruV K v H k/\Q k H:=by
 cases lU with
 |non=>rw[a0z]at r;subst r;show(_,rfl,up _ _ _ h hg (.refl _ _))
 |bl b=>rw[a0v]at r;subst r;show(_,rfl,up _ _ _ h hg (.refl _ _))
 |int i=>rw[a0l]at r;subst r;show(_,rfl,up _ _ _ h hg (.refl _ _))
 |str y=>rw[a0x]at r;subst r;show(_,(h.1,rfl),up _ _ _ h.2 hg (.refl _ _))
 |ty n=>show aX h
 |scr a ns=>rw[a2l]at r;let(rfl,f):=r;show(!ns.isEmpty,.inl (_,f.sq,by rw[a1f (aN ..).symm]),up _ _ _ h hg (.refl _ _))
 |tup ws=>
  let(a,d,rfl,e,c):=r;show(!ws.isEmpty,.inr (.inl (d,SqT.of e,by rw[a1f c.length])),up _ _ _ h hg (.refl _ _))
 |ref p=>
  subst r;let(ws,e,h)||(kvs,e,h):=h
  .let(d,g,c):=hg p _ e;show(_,.inl (d,SqL.of g,by rw[<- a1f c.length]),up _ _ _ h hg (.refl _ _))
  .let(j,g,l,c):=hg p _ e;show(_,.inr (.inr (j,g,by rw[a1f (show kvs.length=j.length by rw[<- aN,c.length,aN])])),up _ _ _ h hg (.refl _ _))
def b48(ha:QE X a ta)(he:∀whole,isTrue a X.env whole=(do let v <- whole;jt a.pos;iM [v] (truthy v))):QT X a (uTru ta):=⟨a7V (a9R ha.p he) fun τ H Q i=>i.un fun σ G R d f h j=>
 (σ,G,_,d,f,h,λw k v l e g b c=>b2E e g b (j.mono c))⟩
def a7Z(ha:QE X a ta)(he:∀whole,isTrue a X.env whole=(do let v <- whole;jt a.pos;iM [v] (truthy v)):=by ext _;rfl):QT X a (a6R ta):=⟨a7V (b4c ha.p he) λ_ _ _ h=>a3V h⟩
end
section
variable{env:Env}
def b1E:(backTo pos (ii [] env)).any (·.1)=lT:=rfl
def b2F(h:ii (e::es) env=(lT,eval e env,)::ii es env)(r:(backTo pos (ii es env)).any (·.1)=lT):(backTo pos (ii (e::es) env)).any (·.1)=lT:=by
 rw[h]
 change (lT||(backTo pos _).any _)=lT
 rw[r];rfl
end
section
variable{e a b:Expr}{p2:Pos}{te ta tb:E3}{t:A3}
def q_ix(hr:IxQ X r)(ha:QE X a ta)(hb:QE X b tb)(hs:a7J b):QE X (.Subscript a b pos) (uOp r ta tb):=⟨a0X (b7c hr ha.p hb.p hs) λ_ _ _=>a5Y⟩
abbrev O3:=S3->Hq->(Option Int->Hq->Prop)->Prop
def a70:O3:=λ_ G R=>R lR G
def b49(t:E3):O3:=fun σ G R=>t σ G λx G1=>∃i,x=.int i/\R (bo i) G1
def lowO(K:Fg)(t:O3):TO:=fun τ H Q=>∃σ G R,RSt K H σ τ/\RH K G H/\t σ G R/\∀o G' H',R o G'->RH K G' H'->TK K H H'->Q o H'
def lowO.un{K:Fg}{t:O3}{C:Prop}(z:lowO K t τ H Q)(f:∀σ G R,(RSt K H σ τ)->(RH K G H)->(t σ G R)->(∀o G' H',R o G'->RH K G' H'->TK K H H'->Q o H')->C):C:=by let(σ,G,R,d,b,c,a):=z;show f _ _ _ d b c a
def QO(X:Cx)(e:Option Expr)(t:O3):Prop:=PO X e (lowO X.K t)
def b0f:QO X lR a70:=by ext a s τ H Q I ⟨σ,G,R,d,c,h,b⟩;show b2v a s τ H Q I (b _ _ _ h c (.refl _ _))
def a71(h:QE X e te):QO X (bo e) (b49 te):=by ext a s τ H Q I ⟨σ,G,R,f,k,q,l⟩;show b2w h.p a s τ H Q I (σ,G,_,f,k,q,by
 ext w n v m ⟨i,g,d⟩ b c j;subst g;show(i,b,l _ _ _ d c j))
abbrev L3r:=Z->Option Int->Option Int->Hq->K3->Prop
def lowL(K:Fg)(r:L3r):V->Option Int->Option Int->Hp->VK->Prop:=λx lo hi H Q=>∃w G R,Rep K H w x/\RH K G H/\r w lo hi G R/\UpV K H R Q
def lowL.un{K:Fg}{lo hi:Option Int}{C:Prop}(z:lowL K r x lo hi H Q)(f:∀w G R,(Rep K H w x)->(RH K G H)->(r w lo hi G R)->(UpV K H R Q)->C):C:=by let(w,G,R,a,d,b,c):=z;show f _ _ _ a d b c
def SlQ(X:Cx)(r:L3r):Prop:=SlR X (lowL X.K r)
def b7o(h:SlR X r')(i:∀x lo hi H Q,r x lo hi H Q->r' x lo hi H Q):SlR X r:=λa s σ H x v l b j f d Q I c e g k q=>h a s σ H x v l b j f d Q I c e g k (i _ _ _ _ _ q)
def uSl(r:L3r)(te:E3)(tl th:O3):E3:=fun σ G R=>te σ G λx G1=>tl σ G1 λl G2=>th σ G2 λu G3=>r x l u G3 R
def a72{lo hi:Option Expr}(hr:SlQ X r)(he:QE X e te)(hl:QO X lo tl)(hu:QO X hi th):QE X (.Subscript e (.Slice lo hi lR p2) pos) (uSl r te tl th):=⟨a0X (a9U hr he.p hl hu) fun τ H Q q=>q.un fun σ G R c k h y=>
 (σ,G,_,c,k,h,λw m v z j t f b=>(σ,m,_,c.mono b,f,j,λl o A s d a=>(σ,o,_,c.mono (b.trans a),d,s,λu x B n i g=>
  (w,x,R,t.mono (a.trans g),i,n,y.mono ((b.trans a).trans g)))))⟩
def uNil:A3:=λ_ G R=>R [] G
def b2G(ta:E3)(tr:A3):A3:=fun σ G R=>ta σ G λx G1=>tr σ G1 λxs G2=>R (x::xs) G2
def a0E:QA X [] uNil:=⟨b41 a5S fun τ H Q b=>b.un fun σ G R d a h c=>c _ _ _ _ h .nil a (.refl _ _)⟩
def b5a(ha:QE X e te)(hr:QA X es t)(hs:ii (e::es) X.env=(lT,eval e X.env,)::ii es X.env):QA X (e::es) (b2G te t):=⟨b41 (a3L ha.p hr.p hs) fun τ H Q i=>i.un fun σ G R hs l h o=>
 (σ,G,_,hs,l,h,λw j v H1 g m f d=>(σ,j,_,hs.mono d,f,g,λws G2 vs H2 n k c b=>o _ _ _ _ n (.cons (m.mono b) k) c (d.trans b)))⟩
def uTup(t:A3):E3:=fun σ G R=>t σ G λxs G1=>xs.length<=ie/\R (.tup xs) G1
def uLst(t:A3):E3:=fun σ G R=>t σ G λxs G1=>xs.length<=ie/\∀p,G1 p=lR->R (.ref p) (put G1 p (.lst xs))
def a73(h:QA X es t):QE X (.Tuple es x1 pos) (uTup t):=⟨a0X (b4D h.p) fun τ H Q k=>k.un fun σ G R f j h d=>
 (σ,G,_,f,j,h,by ext o m l n ⟨i,g⟩ b c e;show(by rw[<- b.length];show i,λp a=>d _ _ _ _ g (by rw[a03];show(p,l,rfl,a0h,b.mono (.new a))) (c.hid a) (e.trans (.new a))))⟩
def a0K{K:Fg}(r:Reps K H ws vs)(t:TK K H (upd H p (.lst vs))):ROb K (upd H p (.lst vs)) p (.lst ws):=(vs,a0h,r.mono t)
def b7p(h:QA X es t):QE X (.List es pos) (uLst t):=⟨a0X (b4E h.p) fun τ H Q g=>g.un fun σ G R d k h i=>
 (σ,G,_,d,k,h,by ext m l o n ⟨f,e⟩ c b j;show(by rw[<- c.length];show f,λp a=>i _ _ _ _ (e p (b.out a)) (by rw[a0q]) (b.set (.new a) (a0K c (.new a))) (j.trans (.new a))))⟩
def uCB(r:List Z->Hq->K3->Prop)(t:A3):E3:=fun σ G R=>t σ G λws G1=>r ws G1 R
def b1F{K:Fg}(h:low K (uCB r t) τ H Q):tCB (lowC K r) (lowA K t) τ H Q:=by
 let(σ,G,R,e,j,h,i):=h;show(σ,G,_,e,j,h,λc g k l f b a d=>(c,g,R,b,a,f,i.mono d))
variable{x:Str}{p:Pos}{id T:String}{r:List Z->Hq->K3->Prop}
def b2H(hc:a1t X (.builtin id) r)(hg:Gl X x)(hm:X.mg x=lR)(hv:iH x=bo (.builtin id))(ha:QA X (e::es) t)(hn:x≠"__name__")(hdb:(x==("__debug__":Str))=lT)
  (he:ii (e::es) X.env=(lT,eval e X.env,)::ii es X.env) (hpl:(backTo pos (ii es X.env)).any (·.1)=lT):QE X (.Call (.Name x p) (e::es) [] pos) (uCB r t):=⟨a0X (a3M hc hg hm hv ha.p hn hdb he hpl) λ_ _ _=>b1F⟩
def b0g(hc:a1t X (.type T) r)(hg:Gl X x)(hm:X.mg x=lR)(hv:iH x=bo (.type T))(ha:QA X (e::es) t)(hn:x≠"__name__")(hdb:(x==("__debug__":Str))=lT)
  (he:ii (e::es) X.env=(lT,eval e X.env,)::ii es X.env) (hpl:(backTo pos (ii es X.env)).any (·.1)=lT):QE X (.Call (.Name x p) (e::es) [] pos) (uCB r t):=⟨a0X (a1W hc hg hm hv ha.p hn hdb he hpl) λ_ _ _=>b1F⟩
def tyZ(T:String)(x:Z)(G:Hq):Prop:=match x with
 |.str _=>T="str"
 |.int _=>T="int"
 |.ref p=>(T="list"/\∃ws,G p=bo (.lst ws))\/(T="dict"/\∃kvs,G p=bo (.dK kvs)\/G p=bo (.dF kvs))
 |.scr _ _=>T="list"
 |_=>False
def b2I{K:Fg}(h:tyZ T lU G)(r:Rep K H lU v)(hg:RH K G H):tyV K T v H:=by
 cases lU with
 |str y=>rw[a0x]at r;subst r;show h
 |int y=>rw[a0l]at r;subst r;show h
 |ref q=>
  subst r;let(e,ws,g)||(e,kvs,g):=h
  .let(b,a,_):=hg q _ g;show .inl (e,b,SqL.of a)
  .let g||g:=g
   .let(b,a,_):=hg q _ g;show .inr (.inr (.inl (e,.inl (b,a))))
   .let(c,b,a,_):=hg q _ g;show .inr (.inr (.inl (e,.inr (.inr (c,b,a)))))
 |scr q ns=>rw[a2l]at r;let(rfl,f):=r;show .inl (h,_,f.sq)
 |_=>show aX h
def uBM(T:String)(r:Z->List Z->Hq->K3->Prop)(to:E3)(t:A3):E3:=fun σ G R=>to σ G λx G1=>tyZ T x G1/\t σ G1 λxs G2=>r x xs G2 R
variable{o:Expr}{to:E3}{name:Str}{apos cpos:Pos}{rm:Z->List Z->Hq->K3->Prop}
def q_bm(pa:PlainAttrs T)(slot:Slot T name id)(hty:typeOf (.builtin id)=pure (.type "method_descriptor"))(hm:MtQ X id rm)(ho:QE X o to)(ha:QA X (e::es) t)
  (hbase:kO o name X.env (eval o X.env)=eval o X.env:=by rfl)
  (hfew:((backTo cpos (ii (e::es) X.env)).all (λx=>!x.1)&&(kP cpos (kQ [] X.env)).all (λx=>x.1.isSome)
   && decide ((e::es).length+([]:List jk).length+(if ([]:List jk).isEmpty then 0 else 1)<30))=lS:=by rfl)
  (hline:(apos.endLine==cpos.line)=lS:=by rfl) (hs:ii (e::es) X.env=(lT,eval e X.env,)::ii es X.env:=by rfl) (hplain:(backTo cpos (ii es X.env)).any (·.1)=lT:=by rfl) :
  QE X (.Call (.Attribute o name apos) (e::es) [] cpos) (uBM T rm to t):=⟨a0X (b7e pa slot hty hm ho.p ha.p hbase hfew hline hs hplain) fun τ H Q q=>q.un fun σ G R hs r h u=>
  (σ,G,_,hs,r,h,by ext w j v H1 ⟨m,n⟩ d a g;show(b2I m d a,σ,j,_,hs.mono g,a,n,λs i vs H2 k l f c=>(w,s,i,R,d.mono c,l,f,k,u.mono (g.trans c))))⟩
abbrev P3:=List Z->Hq->K3->Prop
def lowP(K:Fg)(sp:P3):Sp:=λvs H Q _=>lowC K sp vs H Q
def b2J(sp:P3)(t:A3):E3:=fun σ G R=>t σ G λws G1=>sp ws G1 R
variable{k:Nat}{f:Addr}{fd:iG}{ps:List Str}{sp:P3}
def b5b(F:FnOk X.prog X.w X.K X.mg X.base CX0 k f fd ps (lowP X.K sp))(hr:Room k X.A)(hg:Gl X x)(hm:X.mg x=bo (.ref f))(hk:PySem.W.keepIn X.K (.ref f)=lS)(hb:Binds X.K fd ps [])(ha:QA X (e::es) t)
  (hdb:(x==("__debug__":Str))=lT) (he:ii (e::es) X.env=(lT,eval e X.env,)::ii es X.env) (hpl:(backTo pos (ii es X.env)).any (·.1)=lT) :
  QE X (.Call (.Name x p) (e::es) [] pos) (b2J sp t):=⟨a0X (a7E F hr hg hm hk hb .nil b7f ha.p hdb he hpl) fun τ H Q d=>d.un fun σ G R i hg h m=>(σ,G,_,i,hg,h,λc j vs H1 l g b n=>(c,j,R,by rw[bC];show g,b,l,m.mono n))⟩
end
section
variable{e c tg:Expr}{st:Stmt}{rest sa sb:List Stmt}{te:E3}{t u:X3}{tc:T3}
def b2K:X3:=λnx _ _ _ σ G=>nx σ G
def uSeq(t u:X3):X3:=λnx rt bk ct σ G=>t (u nx rt bk ct) rt bk ct σ G
def a1Y:QSs X [] b2K:=⟨a7W b2h λD τ H a=>a.un fun σ G g e k f d b h c i j l=>c _ _ _ _ h d b (.refl _ _)⟩
def a0c(h1:QS X st t)(h2:QSs X rest u):QSs X (st::rest) (uSeq t u):=⟨a7W (a5Q h1.p h2.p) λD τ H q=>q.un fun σ G k j c e l o h n d b g=>
 (σ,G,_,j,c,e,l,o,h,fun σ' r τ' s m f i a=>(σ',r,k,j,c,e,f,i,m,n.mono a,d.mono a,b.mono a,g.mono a),d,b,g)⟩
def a0L(h1:QS X st t):QSs X [st] t:=⟨b2i h1.p⟩
def uCut(t u:X3):X3:=λnx rt bk ct σ G=>∃M:C3,t M rt bk ct σ G/\∀σ' G',M σ' G'->u nx rt bk ct σ' G'
def a2T(h1:QS X st t)(h2:QSs X rest u):QSs X (st::rest) (uCut t u):=⟨a7W (a5Q h1.p h2.p) λD τ H v=>v.un fun σ G n d j b q m l s g e i=>by
 let(M,h,k):=l;show(σ,G,M,d,j,b,q,m,h,fun σ' o τ' w r f c a=>(σ',o,n,d,j,b,f,c,k _ _ r,s.mono a,g.mono a,e.mono a,i.mono a),g,e,i)⟩
def b5c:X3:=λ_ _ bk _ σ G=>bk σ G
def b7q:X3:=λ_ _ _ ct σ G=>ct σ G
def b5d:QS X (.Pass pos) b2K:=⟨a1G b2j λD τ H d=>d.un fun σ G e g i l a b h c k j f=>c _ _ _ _ h a b (.refl _ _)⟩
def b2L:QS X (.Break pos) b5c:=⟨a1G a9K λD τ H a=>a.un fun σ G f i e g b d h j l c k=>c _ _ _ _ h b d (.refl _ _)⟩
def b5e:QS X (.Continue pos) b7q:=⟨a1G a5a λD τ H c=>c.un fun σ G e g i l a b h f k j d=>d _ _ _ _ h a b (.refl _ _)⟩
def b5f(te:E3):X3:=λnx _ _ _ σ G=>te σ G λ_ G1=>nx σ G1
def b1G(he:QE X e te)(hs:iY e lR pos.line X.env=pure lT:=by rfl):QS X (.Expr e pos) (b5f te):=⟨a1G (b2k he.p hs) λD τ H i=>i.un fun σ G nx rt bk ct hs g h f u2 u3 u4=>
 (σ,G,_,hs,g,h,λw G1 v H1 d rv c b=>f _ _ _ _ d (hs.mono b) c b)⟩
def uRet(te:E3):X3:=λ_ rt _ _ σ G=>te σ G rt
def a4v(he:QE X e te):QS X (.Return (bo e) pos) (uRet te):=⟨a1G (b4l he.p) λD τ H c=>c.un fun σ G f j k m a b h g d l i=>(σ,G,_,a,b,h,d)⟩
def b7r:X3:=λ_ rt _ _ _ G=>rt .non G
def b5g:QS X (.Return lR pos) b7r:=⟨a1G b2l λD τ H b=>b.un fun σ G e j d l g a h k c f i=>c _ _ _ _ h (by rw[a0z]) a (.refl _ _)⟩
def uIfS(c:T3)(t u:X3):X3:=λnx rt bk ct σ G=>c σ G λb G1=>if b=lS then t nx rt bk ct σ G1 else u nx rt bk ct σ G1
def z_if(hc:QT X c tc)(ha:QSs X sa t)(hb:QSs X sb u):QS X (.If c sa sb pos) (uIfS tc t u):=⟨a1G (b63 hc.p ha.p hb.p) λD τ H s=>s.un fun σ G l g k m f r h n q j i=>by
 show(σ,G,_,f,r,h,λb o v d e a=>?_);cases b with
 |true=>rw[if_pos rfl]at d ⊢;show(σ,o,l,g,k,m,f.mono a,e,d,n.mono a,q.mono a,j.mono a,i.mono a)
 |false=>rw[if_neg (by simp)]at d ⊢;show(σ,o,l,g,k,m,f.mono a,e,d,n.mono a,q.mono a,j.mono a,i.mono a)⟩
def b5h(c:T3)(tb:X3):X3:=λnx rt _ _ σ G=>∃I:Nat->S3->Hq->Prop,(∃m,I m σ G)/\∀m σ G,I m σ G ->
 c σ G λb G1=>if b=lS then tb (fun σ' G'=>∃m',m'<m/\I m' σ' G') rt nx (fun σ' G'=>∃m',m'<m/\I m' σ' G') σ G1 else nx σ G1
def a5g(hp:iz (model X.prog X.w) X.A X.env X.xe)(hc:QT X c tc)(hb:QSs X sb t):QS X (.While c sb [] pos) (b5h tc t):=⟨a1G (a9M hp hc.p hb.p) λD τ H L=>L.un fun σ G C R Y T F J B v Q W V=>by
 let(I,(y,E),l):=B;show(λm τ' i=>∃σ' G',RSt X.K i σ' τ'/\RH X.K G' i/\TK X.K H i/\I m σ' G',(y,σ,G,F,J,.refl _ _,E),?_);ext m τ' S ⟨σ1,u,g,x,f,M⟩;show(σ1,u,_,g,x,l m σ1 u M,λb z U j k a=>?_);cases b with
 |false=>rw[if_neg (by simp)]at j ⊢;show v _ _ _ _ j (g.mono a) k (f.trans a)
 |true=>
  show(_,fun σ' i h=>h,σ1,z,_,R,C,_,g.mono a,k,j,?_,Q.mono (f.trans a),v.mono (f.trans a),?_)
  .ext σ3 s τ3 N ⟨o,n,r⟩ d e q;show(o,n,σ3,s,d,e,(f.trans a).trans q,r)
  .ext σ3 s τ3 N ⟨o,n,r⟩ d e q;show(o,n,σ3,s,d,e,(f.trans a).trans q,r)⟩
inductive Pt where
 |nm (i:Nat)
 |tp (is:List Nat)
def gsOf:List Nat->TGs
 |[]=>gNil
 |i::is=>b4m (a7q i) (gsOf is)
def gP(K:Fg):Pt->TG
 |.nm i=>a7q i
 |.tp is=>gTup K is.length (gsOf is)
noncomputable def sets:List Nat->List Z->S3->S3
 |i::is,w::ws,σ=>sets is ws (σ.set i (bo w))
 |_,_,σ=>σ
noncomputable def a2U:Pt->Z->S3->Option S3
 |.nm i,w,σ=>bo (σ.set i (bo w))
 |.tp is,.tup ws,σ=>if ws.length=is.length then bo (sets is ws σ) else lR
 |_,_,_=>lR
noncomputable def Pt.slots:Pt->List Nat
 |.nm i=>[i]
 |.tp is=>is
noncomputable def a2F:List Nat->List V->L2.St->L2.St
 |i::is,w::ws,σ=>a2F is ws (σ.set i (bo w))
 |_,_,σ=>σ
theorem a74:∀{is:List Nat}{vs:List V}{τ:L2.St},vs.length=is.length->Q (a2F is vs τ) H->gsOf is vs τ H Q
 |[],[],_,_,q=>(rfl,q)
 |i::is,v::vs,τ,h,q=>(v,vs,rfl,a74 ↑h q)
 |[],_::_,_,h,_=>by simp at h
 |_::_,[],_,h,_=>by simp at h
theorem a4w{K:Fg}:∀{is:List Nat}{ws:List Z}{vs:List V}{σ:S3}{τ:L2.St},Reps K H ws vs->RSt K H σ τ->RSt K H (sets is ws σ) (a2F is vs τ)
 |[],ws,vs,σ,τ,_,h=>by unfold sets a2F;show h
 |i::is,[],vs,σ,τ,r,h=>by rw[a0t]at r;subst r;show h
 |i::is,w::ws,vs,σ,τ,r,h=>by
  let(v,c,rfl,a,b):=r;show a4w (is:=is) b (h.set a i)
theorem a3v:∀{is:List Nat}{vs:List V}{τ:L2.St}{j:Nat},j∉is->(a2F is vs τ)[j]?=τ[j]?
 |[],_,_,_,_=>by unfold a2F;rfl
 |i::is,[],_,_,_=>by unfold a2F;rfl
 |i::is,v::vs,τ,j,h=>by
  let b:j≠i:=λz=>h (z▸bU ..)
  change (a2F is vs _)[j]?=τ[j]?
  rw[a3v (λz=>h (cr _ z)),dC (Ne.symm b)]
theorem a2z:∀{is:List Nat}{vs:List V}{τ:L2.St},(a2F is vs τ).length=τ.length
 |[],_,_=>by unfold a2F;rfl
 |i::is,[],_=>by unfold a2F;rfl
 |i::is,v::vs,τ=>by
  change (a2F is vs _).length=τ.length
  rw[a2z,eN]
def b2M{K:Fg}(r:Rep K H lU v)(hs:RSt K H σ τ)(hb:a2U pt lU σ=bo σ')
  (q:∀τ',RSt K H σ' τ'->τ'.length=τ.length->(∀j,j∉pt.slots->τ'[j]?=τ[j]?)->Q τ' H):gP K pt v τ H Q:=by
 cases pt with
 |nm i=>
  cases hb;show q _ (hs.set r i) (by simp) λj d=>by rw[dC];ext z;show d (z▸bU ..)
 |tp is=>
  cases lU with
  |tup ws=>
   let(a,f,rfl,e,c):=r;let b:(if ws.length=is.length then bo _ else lR)=bo σ':=hb
   by_cases hl:ws.length=is.length
   .rw[if_pos hl]at b;cases b;show(a,f,rfl,SqT.of e,by rw[<- c.length];show hl,a74 (c.length▸hl) (q _ (a4w c hs) a2z λj d=>a3v d))
   .simp_all
  |_=>cases hb
def QP(X:Cx)(tg:Expr)(pt:Pt):Prop:=PG X tg (gP X.K pt)
def uAsg(te:E3)(pt:Pt):X3:=λnx _ _ _ σ G=>te σ G λx G1=>∃σ',a2U pt x σ=bo σ'/\nx σ' G1
def a5h{K:Fg}(h:lowS K (uAsg te pt) D τ H):tAsg (low K te) (gP K pt) D τ H:=by
 let(σ,G,p,s,k,l,b,e,h,j,r,m,n):=h;show(σ,G,_,b,e,h,by ext w o v q ⟨σ',g,i⟩ f c d;show b2M f (b.mono d) g fun τ' a _ _=>j _ _ _ _ i a c d)
def b7s(hN:X.N.Nodup)(hi:X.N[i]?=bo x)(hx:Loc X.env.scope x)(he:QE X e te)(hs:iY e (bo (.Name x pos')) pos.line X.env=pure lT)(hf:X.fn x=lS\/X.env.scope.names.lookup x=bo .local) :
  QS X (.Assign [.Name x pos'] e pos) (uAsg te (.nm i)):=⟨a1G (b4p hN hi hx he.p hs hf) λ_ _ _=>a5h⟩
def b5i(he:QE X e te)(hg:QP X tg pt)(hs:kH [tg] e pos.line X.env=pure lT:=by rfl)(hw:kI [tg] e X.env=pure lR:=by rfl)
  (h1:(iZ [tg] X.env).map (·.2)=[assign tg X.env]:=by rfl):QS X (.Assign [tg] e pos) (uAsg te pt):=⟨a1G (b1z he.p hg hs hw h1) λ_ _ _=>a5h⟩
abbrev Z3:=Z->Z->Z->Hq->(Hq->Prop)->Prop
def lowZ(K:Fg)(r:Z3):TSet:=λo i v H Q=>∃a b w G R,Rep K H a o/\Rep K H b i/\Rep K H w v/\RH K G H/\r a b w G R/\∀G' H',R G'->RH K G' H'->TK K H H'->Q H'
def lowZ.un{K:Fg}{C:Prop}(z:lowZ K r o i v H Q)(f:∀a b w G R,(Rep K H a o)->(Rep K H b i)->(Rep K H w v)->(RH K G H)->(r a b w G R)->(∀G' H',R G'->RH K G' H'->TK K H H'->Q H')->C):C:=by let(a,b,w,G,R,d,j,e,g,c,h):=z;show f _ _ _ _ _ d j e g c h
def SetQ(X:Cx)(r:Z3):Prop:=PSet X (lowZ X.K r)
def b1H(h:PSet X r')(i:∀o j v H Q,r o j v H Q->r' o j v H Q):PSet X r:=λa s σ H o j v c f u Q I b d e q=>h a s σ H o j v c f u Q I b d e (i _ _ _ _ _ q)
def uPut(te to ti:E3)(r:Z3):X3:=λnx _ _ _ σ G=>te σ G λw G1=>to σ G1 λo G2=>ti σ G2 λi G3=>r o i w G3 λG4=>nx σ G4
def b7t(h:PS X st (tAsg (low X.K te) (gSub (low X.K to) (low X.K ti) (lowZ X.K r)))):QS X st (uPut te to ti r):=⟨a1G h λD τ H z=>z.un fun σ G Q I J N a s h B T V C=>
 (σ,G,_,a,s,h,λw m v U o t e d=>(σ,m,_,a.mono d,e,o,λx u R S n i l c=>(σ,u,_,a.mono (d.trans c),l,n,λy A M F q g k b=>
  (x,y,w,A,_,i.mono b,g,t.mono (c.trans b),k,q,λE L p j f=>B _ _ _ _ p (a.mono (((d.trans c).trans b).trans f)) j (((d.trans c).trans b).trans f)))))⟩
def a1u(he:QE X e te)(ho:QE X o to)(hi:QE X i ti)(hr:SetQ X r)(hs:kH [.Subscript o i p'] e pos.line X.env=pure lT:=by rfl)(hw:kI [.Subscript o i p'] e X.env=pure lR:=by rfl)
  (h1:(iZ [.Subscript o i p'] X.env).map (·.2)=[assign (.Subscript o i p') X.env]:=by rfl) (ha:∀v,assign (.Subscript o i p') X.env v=(do
   let ov <- iM [v] (eval o X.env)
   let iv <- iM [v,ov] (eval i X.env)
   jt p'
   iM [v,ov,iv] (jX ov iv v)
   release [v,ov,iv] []):=by ext _;rfl):QS X (.Assign [.Subscript o i p'] e pos) (uPut te to ti r):=b7t (b1z he.p (b4o ho.p hi.p hr ha) hs hw h1)
def uAug(i:Nat)(te:E3)(r:R3):X3:=λnx _ _ _ σ G=>∃x,σ[i]?=bo (bo x)/\te σ G λy G1=>r x y G1 λz G2=>nx (σ.set i (bo z)) G2
def b7u(h:PS X st (tAug i (low X.K te) (low2 X.K r))):QS X st (uAug i te r):=⟨a1G h λD τ H q=>q.un fun σ G y L C u a s k t A B M=>by
 let(x,p,h):=k;let(v,n,o):=a.get p;show(v,n,σ,G,_,a,s,h,λw m N z j c g b=>(x,w,m,_,o.mono b,c,g,j,λF I J E l d e f=>t _ _ _ _ l ((a.mono (b.trans f)).set d i) e (b.trans f)))⟩
def b5j(hN:X.N.Nodup)(hi:X.N[i]?=bo x)(hx:Loc X.env.scope x)(he:QE X e te)(ho:OpQ X (jg op) r)(hf:X.fn x=lS\/X.env.scope.names.lookup x=bo .local) :
  QS X (.AugAssign (.Name x pos') op e pos) (uAug i te r):=b7u (b4q hN hi hx he.p ho hf)
end
abbrev I3:=S3->Hq->(List Z->(Hq->Prop)->Hq->Prop)->Prop
def a4x(K:Fg)(ws:List Z)(ok:Hq->Prop)(J:It)(H0:Hp):Prop:=∀i G H,RH K G H->TK K H0 H->ok G->i<=ws.length ->
 (i=ws.length->J.stop i H)/\∀w,ws[i]?=bo w->J.go i H/\∀x H',J.yld i H x H'->Rep K H' w x/\RH K G H'/\TK K H H'
def lowI(K:Fg)(wi:I3):TI:=fun τ H R2=>∃σ G R,RSt K H σ τ/\RH K G H/\wi σ G R/\∀ws ok G' J H',R ws ok G'->a4x K ws ok J H'->RH K G' H'->TK K H H'->R2 J H'
def lowI.un{K:Fg}{R2:It->Hp->Prop}{C:Prop}(z:lowI K wi τ H R2)(f:∀σ G R,(RSt K H σ τ)->(RH K G H)->(wi σ G R)->(∀ws ok G' J H',R ws ok G'->a4x K ws ok J H'->RH K G' H'->TK K H H'->R2 J H')->C):C:=by let(σ,G,R,d,b,c,a):=z;show f _ _ _ d b c a
def QI(X:Cx)(tg iter:Expr)(wi:I3):Prop:=PI X tg iter (lowI X.K wi)
def a75(h:PI X tg iter wi')(i:∀σ H R,wi σ H R->wi' σ H R):PI X tg iter wi:=λa s σ H R I q=>h a s σ H R I (i σ H R q)
def FORB(ws:List Z)(ok:Hq->Prop)(pt:Pt)(tb:X3)(nx:C3)(rt:K3)(σ:S3)(G1:Hq):Prop:=∃I:Nat->S3->Hq->Prop,I 0 σ G1/\(∀i σ G,i<=ws.length->I i σ G->ok G) /\
 (∀i x σ G,ws[i]?=bo x->I i σ G->∃σ',a2U pt x σ=bo σ'/\tb (I (i+1)) rt nx (I (i+1)) σ' G)/\∀σ G,I ws.length σ G->nx σ G
def uFor(wi:I3)(pt:Pt)(tb:X3):X3:=λnx rt _ _ σ G=>wi σ G λws ok G1=>FORB ws ok pt tb nx rt σ G1
def a0H(I:Nat->S3->Hq->Prop)(h0:I 0 σ G)(hok:∀i σ G,i<=ws.length->I i σ G->ok G)
  (step:∀i x σ G,ws[i]?=bo x->I i σ G->∃σ',a2U pt x σ=bo σ'/\tb (I (i+1)) rt nx (I (i+1)) σ' G) (fin:∀σ G,I ws.length σ G->nx σ G):FORB ws ok pt tb nx rt σ G:=(I,h0,hok,step,fin)
def a1g(hp:iz (model X.prog X.w) X.A X.env X.xe)(hc:X.calm=lS)(hi:QI X tg iter wi)(hg:QP X tg pt)(hb:QSs X sb t)
  (hs:∀x,jc iter X.env x=pure x:=by ext _;rfl):QS X (.For tg iter sb [] pos) (uFor wi pt t):=⟨a1G (b4t hp hc hi hg hb.p hs) λD τ H U=>U.un fun σ G nx rt bk ct hs hg h R u2 u3 u4=>by
 show(σ,G,_,hs,hg,h,?_);ext b ok G1 J L ⟨I,i0,S,u,E⟩ hJ M k;show(λi m τ' a=>m=b.length-i/\i<=b.length/\∃σ' G',RSt X.K a σ' τ'/\RH X.K G' a/\TK X.K L a/\I i σ' G',(b.length,by simp,bv _,σ,G1,hs.mono k,M,.refl _ _,i0),?_);ext i m τ2 H2 ⟨rfl,n,σ2,j,o,r,c,z⟩;let l:=hJ i j H2 r c (S i σ2 j n z) n
 by_cases hlt:i<b.length
 .let(Y,T):=l.2 _ (aU hlt);show .inr (Y,fun τ' a=>i+1<=b.length/\∃σ' G',RSt X.K a σ' τ'/\RH X.K G' a/\TK X.K L a/\I _ σ' G',fun σ' a q=>(b.length-_,by cbv,rfl,q.1,q.2),λx H3 V=>?_);let(rx,N,g):=T x H3 V;let(σ',F,h3):=u i _ σ2 j (aU hlt) z;show b2M rx (o.mono g) F fun τ' C _ _=>(σ',j,_,rt,nx,_,C,N,h3,(fun σ4 v τ4 W s d f y=>(hlt,σ4,v,d,f,(c.trans g).trans y,s)),u2.mono ((k.trans c).trans g),R.mono ((k.trans c).trans g),(fun σ4 v τ4 W s d f y=>(hlt,σ4,v,d,f,(c.trans g).trans y,s)))
 .let e:i=b.length:=by lia
  subst e;show .inl (l.1 rfl,R _ _ _ _ (E σ2 j z) o r (k.trans c))⟩
section
variable{tg l:Expr}{tl:E3}
def wkL(x:Z)(G:Hq)(R:List Z->(Hq->Prop)->Hq->Prop):Prop:=match x with
 |.ref a=>∃ws,G a=bo (.lst ws)/\R ws (λG=>G a=bo (.lst ws)) G
 |.scr _ ns=>R (ns.map Z.int) (λ_=>True) G
 |_=>False
def iL(tl:E3):I3:=fun σ G R=>tl σ G λx G1=>wkL x G1 R
def a6S{K:Fg}:a4x K ws (λG=>G a=bo (.lst ws)) (Itl K a) H:=λi G H c t g m=>by
 let(b,e,f):=c a _ g;show(λh=>(b,SqL.of e,by rw[<- f.length,h];show aQ _),λw j=>?_);let(v,d,k):=f.get j;show((b,v,SqL.of e,d),?_);ext x l ⟨rfl,y⟩
 let:=y b (SqL.of e)
 rw[d]at this;cases this;show(k,c,.refl _ _)
def a76{K:Fg}{ns:List Int}(f:Fz K H0 a (ns.map V.int)):a4x K (ns.map Z.int) (λ_=>True) (Itl K a) H0:=λi G H g t m l=>by
 let b:=(t.frz _ _ f).sq;let c:Reps K H _ _:=a1r ns;show(λh=>(_,b,by rw[<- c.length,h];show aQ _),λw j=>?_);let(v,d,e):=c.get j;show((_,v,b,d),?_);ext x k ⟨rfl,y⟩
 let:=y _ b
 rw[d]at this;cases this;show(e,g,.refl _ _)
def a3W(hl:QE X l tl):QI X tg l (iL tl):=a75 (b2n hl.p) fun τ H s k=>k.un fun σ G R i j h f=>by
 show(σ,G,_,i,j,h,λw q v o c b d g=>?_);cases w with
 |ref a=>
  let(r,e,c):=c;let(m,n,_):=d a _ e;show(a,b,(m,SqL.of n),f _ _ _ _ _ c a6S d g)
 |scr a ns=>
  show(a,b.1,(_,b.2.sq),f _ _ _ _ _ c (a76 b.2) d g)
 |_=>show aX c
noncomputable def rng(lo:Int):Nat->List Z
 |0=>[]
 |n+1=>.int lo::rng (lo+1) n
def a1A:∀(lo:Int)(n:Nat),(rng lo n).length=n:=by ext z0 y0;induction y0 generalizing z0 with
 |zero=>show rfl
 |succ n I0=>rw[rng,be,I0]
theorem a2V:∀{lo:Int}{n i:Nat}{w:Z},(rng lo n)[i]?=bo w->i<n/\w=.int (lo+i)
 |_,0,_,_,h=>by simp[rng]at h
 |lo,n+1,0,w,h=>by simp[rng]at h;show(by lia,by rw[<- h];simp)
 |lo,n+1,i+1,w,h=>by
  let:=a2V (by simpa[rng]using h)
  show(by lia,?_);rw[this.2]
  congr 1
  lia
def a77{K:Fg}{lo:Int}:a4x K (rng lo n) (λ_=>True) (Itr lo n) H0:=λi G H b t e g=>by
 rw[a1A];show(λh=>by rw[h];show aQ _,λw d=>?_);let(a,c):=a2V d;show(a,?_);ext x f ⟨rfl,rfl⟩;show(by rw[c,a0l],b,.refl _ _)
variable{t:A3}
def iR1(t:A3):I3:=fun σ G R=>t σ G λws G1=>∃j:Int,ws=[.int j]/\-(2 ^ 62)<=j/\j<2 ^ 62/\R (rng 0 j.toNat) (λ_=>True) G1
def a78(h:PI X tg wi (b4s (lowA X.K t))):QI X tg wi (iR1 t):=a75 h fun τ H p g=>g.un fun σ G R i d h l=>by
 show(σ,G,_,i,d,h,λq o n s (j,e,a,b,k) f c m=>?_);subst e;let(v,rfl,r):=f.one;subst r;show(j,rfl,a,b,l _ _ _ _ _ k a77 c m)
end
section
variable{tg a:Expr}{p:Pos}{t:A3}
def a6T(hg:Gl X "range")(hm:X.mg "range"=lR)(ha:QA X [a] t)(hs:ii [a] X.env=[(lT,eval a X.env,)]:=by rfl):QI X tg (.Call (.Name "range" p) [a] [] pos) (iR1 t):=a78 (a7t hg hm ha.p hs)
end
noncomputable def cap3(cap:List (Option Nat))(σ:S3):S3:=cap.map λo=>o.bind λj=>(σ[j]?).join
theorem a5i{K:Fg}(h:RSt K H σ τ):∀cap:List (Option Nat),RSt K H (cap3 cap σ) (a2j cap τ)
 |[]=>.nil
 |none::cap=>.cons (λ_ e=>nomatch e) (a5i h cap)
 |some j::cap=>.cons (λw e=>by
   let a:(σ[j]?).join=bo w:=e;let b:σ[j]?=bo (bo w):=by
    cases q:σ[j]? with
    |none=>rw[q]at a;cases a
    |some o=>rw[q]at a;cases o with
     |none=>cases a
     |some z=>cases a;rfl
   let(v,c,r):=h.get b;show(v,by change (τ[j]?).join=bo v;rw[c];rfl,r)) (a5i h cap)
theorem a2m:∀{a b:L2.St},b.length=a.length->(∀(i:Nat) v,a[i]?=bo (bo v)->b[i]?=bo (bo v))->a1e a b
 |[],[],_,_=>True.intro
 |none::a,_::b,h,k=>a2m (b:=b) ↑h λi v e=>↑(k (i+1) v ↑e)
 |some x::a,y::b,h,k=>(↑(k 0 x rfl),a2m (b:=b) ↑h λi v e=>↑(k (i+1) v ↑e))
 |[],_::_,h,_=>by simp at h
 |_::_,[],h,_=>by simp at h
def LCB(ws:List Z)(ok:Hq->Prop)(cap:List (Option Nat))(pt:Pt)(tt:T3)(te:E3)(σ:S3)(R:K3)(D:Addr)(G1:Hq):Prop:=∃I:Nat->List Z->Hq->Prop,I 0 [] (put G1 D (.lst []))/\(∀i ys G,i<=ws.length->I i ys G->ok G) /\
 (∀i x ys G,ws[i]?=bo x->I i ys G->∃σ',a2U pt x (cap3 cap σ)=bo σ'/\tt σ' G λb G4=>if b=lS then te σ' G4 λy G5=>G5 D=bo (.lst ys)/\ys.length<ie/\I (i+1) (ys++[y]) (put G5 D (.lst (ys++[y]))) else I (i+1) ys G4) /\
 ∀ys G,I ws.length ys G->R (.ref D) G
def uLC(wi:I3)(cap:List (Option Nat))(pt:Pt)(tt:T3)(te:E3):E3:=fun σ G R=>wi σ G λws ok G1=>∀D,G1 D=lR->LCB ws ok cap pt tt te σ R D G1
def a6U(I:Nat->List Z->Hq->Prop)(h0:I 0 [] (put G1 D (.lst [])))(hok:∀i ys G,i<=ws.length->I i ys G->ok G)
  (step:∀i x ys G,ws[i]?=bo x->I i ys G->∃σ',a2U pt x (cap3 cap σ)=bo σ'/\tt σ' G λb G4=>if b=lS then te σ' G4 λy G5=>G5 D=bo (.lst ys)/\ys.length<ie/\I (i+1) (ys++[y]) (put G5 D (.lst (ys++[y]))) else I (i+1) ys G4)
  (fin:∀ys G,I ws.length ys G->R (.ref D) G):LCB ws ok cap pt tt te σ R D G1:=(I,h0,hok,step,fin)
def a0R{α β:Type}{f:α->Option β}{ws:List α}{x:α}(h:ws[i]?=bo x):(ws.take (i+1)).filterMap f=(ws.take i).filterMap f++(f x).toList:=by
 rw[cN,eO,h];cases e:f x<;>simp[e]
def a5j(f:Z->Option Z)(hok:∀ys,ok (put G1 D (.lst ys)))(hz:ws.length<=1000)
  (turn:∀x,x∈ws->∀(ys:List Z)(K1:K3)(K2:Hq->Prop),(∀y,f x=bo y->K1 y (put G1 D (.lst ys)))->(f x=lR->K2 (put G1 D (.lst ys)))->∃σ',a2U pt x (cap3 cap σ)=bo σ'/\tt σ' (put G1 D (.lst ys)) λb G4=>if b=lS then te σ' G4 K1 else K2 G4)
  (fin:R (.ref D) (put G1 D (.lst (ws.filterMap f)))):LCB ws ok cap pt tt te σ R D G1:=by
 show(λi a G=>a=(ws.take i).filterMap f/\G=put G1 D (.lst a),(by simp,rfl),?_,?_,?_)
 .simp_all
 .ext i x a G c ⟨e,rfl⟩;show turn x (bp c) a _ _ (λy g=>(a0a,?_,?_,?_)) λd=>(?_,rfl)
  .rw[e];show dY (bj (cO _ _) (by rw[bh];lia)) (a0e (aQ 1000))
  .rw[a0R c,g,e];rfl
  .rw[a1s]
  .rw[a0R c,d,e];simp
 .simp_all
def QIfs(X:Cx)(ifs:List Expr)(t:T3):Prop:=PIfs X ifs (lowT X.K t)
def uTT:T3:=λ_ G R=>R lS G
def b2N:QIfs X [] uTT:=by ext a s τ H Q I ⟨σ,G,R,d,b,h,c⟩;show a94 a s τ H Q I (c _ _ _ h b (.refl _ _))
def a79(h:QT X c t):QIfs X [c] t:=a95 h.p
def b2O{pt:Pt}(hc:(pt.slots.all λj=>decide (cap[j]?=bo lR))=lS)(h:(a2j cap τ)[i]?=bo (bo v)):i∉pt.slots:=λa=>by
 let q:=of_decide_eq_true ((bL.mp hc) i a);unfold a2j at h;rw[aR,q]at h;cases h
def b1I{K:Fg}(hc:(pt.slots.all λj=>decide (cap[j]?=bo lR))=lS)(h:low K (uLC wi cap pt tt te) τ H Q) :
  tLC (lowI K wi) cap (gP K pt) (lowT K tt) (low K te) τ H Q:=by
 let(σ,G,R,hs,hg,h,up):=h;show(σ,G,_,hs,hg,h,λc ok G1 J H1 h1 hJ t U D B=>?_);let(I,i0,S,C,N):=h1 D (t.out B);show(λi m _ d=>m=c.length-i/\i<=c.length/\∃a G',RH K G' d/\TK K H1 d/\I i a G',(c.length,by simp,bv _,[],_,t.set (o:=.lst []) (.new B) ([],a0h,.nil),.new B,i0),?_);ext i m vs H2 ⟨rfl,w,a,f,p,g,E⟩;let n:=hJ i f H2 p g (S i a f w E) w
 by_cases hlt:i<c.length
 .let(go,yl):=n.2 _ (aU hlt);show .inr (go,λ_ d=>i+1<=c.length/\∃a G',RH K G' d/\TK K H1 d/\I _ a G',λvs' d q=>(c.length-_,by cbv,rfl,q.1,q.2),λx H3 y3=>?_);let(rx,aa,F):=yl x H3 y3;let(σ',Y,h3):=C i _ a f (aU hlt) E;show b2M rx (a5i (hs.mono ((U.trans g).trans F)) cap) Y fun τ' z M hk'=>(a2m M λj v T=>by rw[hk' j (b2O hc T)];show T,?_);show(σ',f,_,z,aa,h3,λb G4 H4 l u A=>?_);cases b with
  |false=>
   show(hlt,a,G4,u,(g.trans F).trans A,l)
  |true=>
   show(σ',G4,_,z.mono A,u,l,λy G5 v5 H5 (L,V,h5) r5 r t5=>?_);let(X,k,s):=r D _ L;show(X,k,by rw[<- s.length];show V,hlt,_,_,r.set (.lst k) (a0K (s.append (.cons r5 .nil)) (.lst k)),?_,h5);show (((g.trans F).trans A).trans t5).trans (.lst k)
 .let e:i=c.length:=by lia
  subst e;show .inl (n.1 rfl,up _ _ _ _ (N a f E) (by rw[a0q]) p (U.trans g))
section
variable{N':List Str}{sc:Scope}{cap:List (Option Nat)}{tg iter elt:Expr}{ifs:List Expr}{wi:I3}{pt:Pt}{tt:T3}{te:E3}
def q_lc(hc:X.calm=lS)(hNN:X.N=Nj)(hso:X.env.scope=so)(ck:capB Nj so sc N' cap=lS)(hp:(pt.slots.all λj=>decide (cap[j]?=bo lR))=lS)(hi:QI X tg iter wi)
  (hg:∀C s H fp,QP (cxC X E0 N' sc C s H fp) tg pt) (ht:∀C s H fp,QIfs (cxC X E0 N' sc C s H fp) ifs tt) (he:∀C s H fp,QE (cxC X E0 N' sc C s H fp) elt te)
  (hs:∀x,jc iter X.env x=pure x:=by ext _;rfl):QE X (.ListComp elt [(tg,iter,ifs,0)] sc pos) (uLC wi cap pt tt te):=⟨a0X (b7i (g:=gP X.K pt) (tt:=lowT X.K tt) hc a5W hNN hso ck hi hg ht (λC s H a=>(he C s H a).p) hs) λ_ _ _=>b1I hp⟩
def b2P(hN:X.N.Nodup)(hx:X.N[i]?=bo x)(hl:X.env.scope.names.lookup x=bo .local)(hc:X.calm=lS)(hNN:X.N=Nj)(hso:X.env.scope=so)(ck:capB Nj so sc N' cap=lS)
  (hp:(pt.slots.all λj=>decide (cap[j]?=bo lR))=lS) (hi:QI X tg iter wi)
  (hg:∀C s H fp,QP (cxC X E0 N' sc C s H fp) tg pt) (ht:∀C s H fp,QIfs (cxC X E0 N' sc C s H fp) ifs tt) (he:∀C s H fp,QE (cxC X E0 N' sc C s H fp) elt te)
  (hsw:iY (.ListComp elt [(tg,iter,ifs,0)] sc pos) (bo (.Name x pos')) spos.line X.env=pure lS:=by rfl)
  (hs:∀x,jc iter X.env x=pure x:=by ext _;rfl):QS X (.Assign [.Name x pos'] (.ListComp elt [(tg,iter,ifs,0)] sc pos) spos) (uAsg (uLC wi cap pt tt te) (.nm i)):=⟨a1G (a97 (g:=gP X.K pt) (tt:=lowT X.K tt) hN hx hl hc a5W hNN hso ck hi hg ht (λC s H a=>(he C s H a).p) hsw hs) λD τ H h=>b1I hp (a5h h)⟩
end
section
variable{K:Fg}{mg:Str->Option Value}{base:Heap}
def fn3{st:Stmt}(F:Fun K x qual st f fd)(S:FnScope N ps (a0i st))(len:∀ws G R,sp ws G R->ws.length=ps.length)
  (hbody:∀(cdv:Value)(A:Around)(outer:List Env)(s:Shared)(H:Hp)(E:XK)(ws:List Z)(G:Hq)(R:K3),Room k (A.deeper (envOfC qual (a0i st) s.heap.objs.size f cdv))->sp ws G R ->
   ∃t,QSs (cxOf CX0 P w K mg base N qual (a0i st) f cdv A outer s H E).nox (a0I st) t/\t (λ_ G'=>R .non G') R (λ_ _=>False) (λ_ _=>False) (a07 N ws) G):FnOk P w K mg base CX0 (k+1) f fd ps (lowP K sp):=by
 show F.ok S (by ext n H Q E ⟨d,G,R,c,e,h,b⟩;rw[<- c.length];show len _ _ _ h) ?_;ext g A a s H n Q E j ⟨d,G,R,c,e,h,b⟩;let(t,l,q):=hbody g A a s H E d G R j h;show(_,l.p,a07 N d,G,_,R,_,_,.start c,e,q,fun σ' v τ' u m r i o=>b _ _ _ _ m (by rw[a0z]) i o,b,λ_ _ _ _ h _ _ _=>h.elim,λ_ _ _ _ h _ _ _=>h.elim)
end
def zAdd:R3:=λx y G R=>match x,y with
 |.int i,.int j=>R (.int (i+j)) G
 |.str a,.str b=>a.length+b.length<=ie/\R (.str (a++b)) G
 |.tup xs,.tup ys=>xs≠[]/\xs.length+ys.length<=ie/\R (.tup (xs++ys)) G
 |.ref p,.ref q=>∃xs ys,G p=bo (.lst xs)/\G q=bo (.lst ys)/\xs.length+ys.length<=ie/\∀t,G t=lR->R (.ref t) (put G t (.lst (xs++ys)))
 |_,_=>False
def b7v:OpQ X (iA .Add) zAdd:=a2S (op_add.or (op_add_str.or (op_catT.or b4K))) λx y H Q D=>D.un λa b G R c d f h m=>by
 cases a with
 |int i=>
  cases b with
  |int j=>rw[a0l]at c d;show .inl (_,_,c,d,m _ _ _ _ h (by rw[a0l]) f (.refl _ _))
  |_=>show aX h
 |str i=>
  cases b with
  |str j=>rw[a0x]at c d;show .inr (.inl (_,_,c,d,h.1,m _ _ _ _ h.2 (by rw[a0x]) f (.refl _ _)))
  |_=>show aX h
 |tup w=>
  cases b with
  |tup ws=>
   let(p,n,rfl,o,k):=c;let(q,r,rfl,u,l):=d;let(B,s,h):=h;show .inr (.inr (.inl (p,q,n,r,rfl,rfl,SqT.of o,SqT.of u,λz=>?_,by rw[<- k.length,<- l.length];show s,λz=>?_,λz t g=>?_)))
   .subst z;show B (cC.mp k.length)
   .subst z;let e:=cC.mp l.length;subst e;rw[bC]at h;show m _ _ _ _ h (by rw[a03];show(p,n,rfl,o,k)) f (.refl _ _)
   .show m _ _ _ _ h (by rw[a03];show(t,n++r,rfl,a0h,Reps.mono (.new g) _ _ (k.append l))) (f.hid g) (.new g)
  |_=>show aX h
 |ref p=>
  cases b with
  |ref q=>
   subst c d;let(n,r,o,u,s,h):=h;let(C,A,k):=f _ _ o;let(w,v,l):=f _ _ u;show .inr (.inr (.inr (_,_,C,w,rfl,rfl,A,v,by rw[<- k.length,<- l.length];show s,λt g=>m _ _ _ _ (h t (f.out g)) (by rw[a0q]) (f.set (.new g) (a0K (k.append l) (.new g))) (.new g))))
  |_=>show aX h
 |_=>show aX h
def zI(C:Int->Int->Prop)(g:Int->Int->Z):R3:=λx y G R=>match x,y with
 |.int i,.int j=>C i j/\R (g i j) G
 |_,_=>False
def zI0(g:Int->Int->Z):R3:=λx y G R=>match x,y with
 |.int i,.int j=>R (g i j) G
 |_,_=>False
def oI{g:Int->Int->Int}(h:OpR X f (rI C λi j=>.int (g i j))):OpQ X f (zI C λi j=>.int (g i j)):=a2S h λx y H Q l=>l.un λa b G R d c k h e=>by
 cases a<;>cases b<;>first
  |show aX h
  | (rw[a0l]at d c;show(_,_,d,c,h.1,e _ _ _ _ h.2 (by rw[a0l]) k (.refl _ _)))
def oI0{g:Int->Int->Int}(h:OpR X f (rI0 λi j=>.int (g i j))):OpQ X f (zI0 λi j=>.int (g i j)):=a2S h λx y H Q l=>l.un λa b G R d c k h e=>by
 cases a<;>cases b<;>first
  |show aX h
  | (rw[a0l]at d c;show(_,_,d,c,e _ _ _ _ h (by rw[a0l]) k (.refl _ _)))
def b7w:OpQ X (iA .Sub) (zI0 λi j=>.int (i-j)):=oI0 b4v
def b7x:OpQ X (iA .Mult) (zI CMul λi j=>.int (i*j)):=oI b4w
def b5k:OpQ X (iA .FloorDiv) (zI b4W λi j=>.int (i / j)):=oI a98
def b7y:OpQ X (iA .Mod) (zI (λ_ j=>0<j) λi j=>.int (i % j)):=oI b4x
def b7z:OpQ X (iA .Pow) (zI CPow λi j=>.int (i ^ j.toNat)):=oI b4y
def b5l:OpQ X (jg .Add) (zI0 λi j=>.int (i+j)):=oI0 b2o
def zNeg:Z->Hq->K3->Prop:=λx G R=>match x with
 |.int i=>R (.int (-i)) G
 |_=>False
def b7A:UnQ X (jZ .USub) zNeg:=b7j b4z λx H Q c=>c.un λa G R b d h e=>by
 cases a<;>first
  |show aX h
  | (rw[a0l]at b;show(_,b,e _ _ _ _ h (by rw[a0l]) d (.refl _ _)))
def a8a:OpR X (io .LtE) (λx y H Q=>∃i j,x=.str i/\y=.str j/\Q (.bl (!decide (j.cps.toList<i.cps.toList))) H):=by
 ext b s σ H x y v u Q I a c h;let(i,j,rfl,rfl,q):=h;let(t,rfl):=a;let(d,rfl):=c;show PySem.P.le_str (a0o I q rfl)
def a8b:OpR X (io .Gt) (λx y H Q=>∃i j,x=.str i/\y=.str j/\Q (.bl (decide (j.cps.toList<i.cps.toList))) H):=by
 ext b s σ H x y v u Q I a c h;let(i,j,rfl,rfl,q):=h;let(t,rfl):=a;let(d,rfl):=c;show PySem.P.gt_str (a0o I q rfl)
def zC(f:Int->Int->Bool)(g:Str->Str->Bool):R3:=λx y G R=>match x,y with
 |.int i,.int j=>R (.bl (f i j)) G
 |.str i,.str j=>R (.bl (g i j)) G
 |_,_=>False
def oC(h:OpR X (io op) (rI0 λi j=>.bl (f i j)))(h':OpR X (io op) (λx y H Q=>∃i j,x=.str i/\y=.str j/\Q (.bl (g i j)) H)) :
  OpQ X (io op) (zC f g):=a2S (h.or h') λx y H Q l=>l.un λa b G R c d e h k=>by
 cases a<;>cases b<;>first
  |show aX h
  | (rw[a0l]at c d;show .inl (_,_,c,d,k _ _ _ _ h (by rw[a0v]) e (.refl _ _)))
  | (rw[a0x]at c d;show .inr (_,_,c,d,k _ _ _ _ h (by rw[a0v]) e (.refl _ _)))
abbrev ltS(x y:Str):Bool:=decide (x.cps.toList<y.cps.toList)
def o_lt:OpQ X (io .Lt) (zC (λi j=>decide (i<j)) λx y=>ltS x y):=oC b66 a7z
def o_le:OpQ X (io .LtE) (zC (λi j=>decide (i<=j)) λx y=>!ltS y x):=oC b67 a8a
def o_gt:OpQ X (io .Gt) (zC (λi j=>decide (j<i)) λx y=>ltS y x):=oC b68 a8b
def zIs(neg:Bool):R3:=λx y G R=>match y with
 |.non=>R (.bl (if neg then !decide (x=.non) else decide (x=.non))) G
 |.bl b=>match x with
  |.bl a=>neg=lT/\R (.bl (a==b)) G
  |_=>False
 |_=>False
def a3w{K:Fg}(r:Rep K H lU v):decide (v=.non)=decide (lU=.non):=by
 cases lU with
 |non=>rw[a0z]at r;subst r;rfl
 |bl _=>rw[a0v]at r;subst r;simp
 |int _=>rw[a0l]at r;subst r;simp
 |str _=>rw[a0x]at r;subst r;simp
 |ref _=>rw[a0q]at r;subst r;simp
 |ty _=>rw[a5X]at r;subst r;simp
 |scr _ _=>rw[a2l]at r;let(rfl,_):=r;simp
 |tup _=>rw[a03]at r;let(_,_,rfl,_):=r;simp
mutual
def dZ:Z->PyData
 |.bl b=>.bool b
 |.int i=>.int i
 |.str x=>.str x
 |.tup ws=>.tuple (dZs ws)
 |_=>.none
def dZs:List Z->List PyData
 |[]=>[]
 |w::ws=>dZ w::dZs ws
end
noncomputable def flat:Nat->Z->Bool
 |_,.non=>lS
 |_,.int _=>lS
 |_,.str x=>PyData.strOk x
 |n+1,.tup ws=>ws.all (flat n)
 |_,_=>lT
def b1J:∀(n:Nat)(d:Z),flat n d=lS->(dZ d).canLay0=lS/\(dZ d).depth<=n:=by
 let f:∀n,(∀d,flat n d=lS->(dZ d).canLay0=lS/\(dZ d).depth<=n)->∀a:List Z,(∀d∈a,flat n d=lS)->PyData.canLayAll0 (dZs a)=lS/\PyData.depthAll (dZs a)<=n:=by
  ext n b a
  induction a with
  |nil=>ext _;simp[dZs,PyData.canLayAll0,PyData.depthAll]
  |cons d a hi=>
   ext h;let g:=b d (h d (.head _));let c:=hi λe j=>h e (.tail _ j);simp only[dZs,PyData.canLayAll0,PyData.depthAll,g.1,c.1,eR,true_and]
   lia
 ext n
 induction n with
 |zero=>
  ext d h;cases d<;>simp_all[flat,dZ,PyData.canLay0,PyData.depth]
 |succ n b=>
  ext d h;cases d with
  |non=>simp[dZ,PyData.canLay0,PyData.depth]
  |int i=>simp[dZ,PyData.canLay0,PyData.depth]
  |str x=>simp[flat]at h;simp[dZ,PyData.canLay0,PyData.depth,h]
  |tup a=>
   let q:=f n b a (by simpa[flat]using h);simp only[dZ,PyData.canLay0,PyData.depth,q.1,true_and]
   lia
  |_=>simp[flat]at h
def b2Q(n:Nat)(ds:List Z)(h:ds.all (flat n)=lS):PyData.canLayAll0 (dZs ds)=lS/\PyData.depthAll (dZs ds)<=n:=by
 let q:=b1J (n+1) (.tup ds) (by simpa[flat]using h);simp only[dZ,PyData.depth]at q;show(q.1,by lia)
def a8c:∀(n:Nat)(d e:Z)(k:Nat),flat n d=lS->flat k e=lS->(PyData.eqv (dZ d) (dZ e)=lS↔d=e):=by
 let all:∀(n:Nat),(∀d e k,flat n d=lS->flat k e=lS->(PyData.eqv (dZ d) (dZ e)=lS↔d=e))->∀(k:Nat)(ds es:List Z),(∀d∈ds,flat n d=lS)->(∀d∈es,flat k d=lS) ->
   (PyData.eqvAll (dZs ds) (dZs es)=lS↔ds=es):=by
  ext n ih k ds
  induction ds with
  |nil=>ext es _ _;cases es<;>simp[dZs,PyData.eqvAll]
  |cons d ds hi=>
   ext es h1 h2;cases es with
   |nil=>simp[dZs,PyData.eqvAll]
   |cons e es=>
    let q1:=ih d e k (h1 d (.head _)) (h2 e (.head _));let q2:=hi es (λx hx=>h1 x (.tail _ hx)) λx hx=>h2 x (.tail _ hx);simp only[dZs,PyData.eqvAll,b7,q1,q2,bJ.injEq]
 ext n
 induction n with
 |zero=>
  ext d e k h1 h2;cases d<;>cases e<;>simp_all[flat,dZ,PyData.eqv]
 |succ n ih=>
  ext d e k h1 h2;cases d with
  |tup ds=>
   cases e with
   |tup es=>
    cases k with
    |zero=>simp[flat]at h2
    |succ k=>
     simp only[dZ,PyData.eqv,Z.tup.injEq];show all n ih k ds es (by simpa[flat]using h1) (by simpa[flat]using h2)
   |_=>simp_all[flat,dZ,PyData.eqv]
  |_=>cases e<;>simp_all[flat,dZ,PyData.eqv]
def a8d(n k:Nat)(ds es:List Z)(h:ds.all (flat n)=lS)(h':es.all (flat k)=lS):PyData.eqvAll (dZs ds) (dZs es)=lS↔ds=es:=by
 let q:=a8c (n+1) (.tup ds) (.tup es) (k+1) (by simpa[flat]using h) (by simpa[flat]using h');simpa only [dZ,PyData.eqv,Z.tup.injEq]using q
section
variable{K:Fg}
def b0h:∀(n:Nat)(w:Z)(v:V),flat n w=lS->Rep K H w v->DV H (dZ w) v:=by
 let g:∀n,(∀w v,flat n w=lS->Rep K H w v->DV H (dZ w) v)->∀b c,(∀d∈b,flat n d=lS)->Reps K H b c->DVs H (dZs b) c:=by
  ext n f b
  induction b with
  |nil=>ext c _ r;show r
  |cons w b hi=>
   ext c h r;let(v,j,e,o,l):=r;show(v,j,e,f w v (h w (.head _)) o,hi j (λd k=>h d (.tail _ k)) l)
 ext n
 induction n with
 |zero=>
  ext w v h r;cases w with
  |non=>rw[a0z]at r;show r
  |int i=>rw[a0l]at r;show r
  |str x=>rw[a0x]at r;show r
  |_=>simp[flat]at h
 |succ n f=>
  ext w v h r;cases w with
  |non=>rw[a0z]at r;show r
  |int i=>rw[a0l]at r;show r
  |str x=>rw[a0x]at r;show r
  |tup b=>
   let(a,c,e,p,m):=r;show(a,c,e,p,g n f b c (by simpa[flat]using h) m)
  |_=>simp[flat]at h
def a4y(n:Nat):∀(ws:List Z)(vs:List V),ws.all (flat n)=lS->Reps K H ws vs->DVs H (dZs ws) vs:=by ext z0;induction z0 with
 |nil=>ext vs _ r;rw[a0t]at r;simp only[dZs];unfold DVs;show r
 |cons w ws I0=>
  ext vs h r;let(v,a,e,b,c):=r;rw[bG,b7]at h;show(v,a,e,b0h n w v h.1 b,I0 a h.2 c)
end
def a1M(h:flat n lU=lS)(hn:n<=64):SeqAt.shaped (dZ lU)=lS:=by
 let q:=b1J n lU h;unfold SeqAt.shaped;rw[q.1,eM];show decide_eq_true (by lia)
def a1h(h:ws.all (flat n)=lS)(hn:n<=63):SeqAt.shaped (.list (dZs ws))=lS:=by
 let q:=b2Q n ws h;unfold SeqAt.shaped;simp only[PyData.canLay0,PyData.depth,q.1];show decide_eq_true (by lia)
def a5k{p:Prop}[Decidable p](h:a=lS↔p):a=decide p:=by
 cases a with
 |true=>show (decide_eq_true (h.mp rfl)).symm
 |false=>show (decide_eq_false λq=>by cases h.mpr q).symm
def a0s{p q:Prop}[Decidable p][Decidable q](h:p=q):decide p=decide q:=by grind
def zEq(f:Bool->Bool):R3:=λx y G R=>match x,y with
 |.bl a,.bl b=>R (.bl (f (a==b))) G
 |.int a,.int b=>R (.bl (f (decide (a=b)))) G
 |.str a,.str b=>R (.bl (f (decide (a=b)))) G
 |.ref p,.ref q=>∃xs ys,G p=bo (.lst xs)/\G q=bo (.lst ys)/\xs.all (flat 8)=lS/\ys.all (flat 8)=lS/\R (.bl (f (decide (xs=ys)))) G
 |x,y=>flat 8 x=lS/\flat 8 y=lS/\R (.bl (f (decide (x=y)))) G
def b1K{K:Fg}(h:low2 K (zEq f) x y H Q) :
    (scal x y=lS/\Q (.bl (f (decide (x=y)))) H)\/∃d e,DV H d x/\DV H e y/\SeqAt.shaped d=lS/\SeqAt.shaped e=lS/\Q (.bl (f (PyData.eqv d e))) H:=by
  let(a,b,G,R,g,c,i,h,j):=h;let p:flat 8 a=lS/\flat 8 b=lS/\R (.bl (f (decide (a=b)))) G->∃d e,DV H d x/\DV H e y/\SeqAt.shaped d=lS/\SeqAt.shaped e=lS/\Q (.bl (f (PyData.eqv d e))) H:=by
    ext⟨n,m,w⟩;show(dZ a,dZ b,b0h 8 _ _ n g,b0h 8 _ _ m c,a1M n (by simp),a1M m (by simp),?_);rw[a5k (a8c 8 a b 8 n m)];show j _ _ _ _ w (by rw[a0v]) i (.refl _ _)
  cases a<;>cases b<;>first
    |show .inr (p h)
    | (rw[a0v]at g c;subst g c;show .inl (rfl,by rw[a7w];show j _ _ _ _ h (by rw[a0v]) i (.refl _ _)))
    | (rw[a0l]at g c;subst g c;show .inl (rfl,by rw[a0s (V.int.injEq _ _)];show j _ _ _ _ h (by rw[a0v]) i (.refl _ _)))
    | (rw[a0x]at g c;subst g c;show .inl (rfl,by rw[a0s (V.str.injEq _ _)];show j _ _ _ _ h (by rw[a0v]) i (.refl _ _)))
    | (rw[a0q]at g c
       subst g c;let(r,s,t,z,k,l,h):=h;let(u,q,v):=i _ _ t;let(B,o,A):=i _ _ z;show .inr (.list _,.list _,?_,?_,a1h k (by simp),a1h l (by simp),?_);show(_,u,rfl,q,a4y 8 _ _ k v);show(_,B,rfl,o,a4y 8 _ _ l A)
       . simp only[PyData.eqv]
         rw[a5k (a8d 8 8 r s k l)];show j _ _ _ _ h (by rw[a0v]) i (.refl _ _))
def o_eq(hu:X.A.units+66<cLine):OpQ X (io .Eq) (zEq id):=a2S (op_eq.or (b4T hu)) λx y H Q h=>b1K h
def o_ne(hu:X.A.units+66<cLine):OpQ X (io .NotEq) (zEq not):=a2S (op_ne.or (b4U hu)) λx y H Q h=>b1K h
def zIn(f:Bool->Bool):R3:=λx y G R=>match x,y with
 |.str a,.str b=>R (.bl (f (!(im.Str.occurrences b a 0 b.length 1).isEmpty))) G
 |x,.ref q=>∃ws,G q=bo (.lst ws)/\flat 8 x=lS/\ws.all (flat 8)=lS/\R (.bl (f (decide (x∈ws)))) G
 |x,.tup ws=>flat 8 x=lS/\ws.all (flat 8)=lS/\R (.bl (f (decide (x∈ws)))) G
 |_,_=>False
def b2R(x:Z)(hx:flat 8 x=lS):∀ws:List Z,ws.all (flat 8)=lS->((dZs ws).any λy=>PyData.eqv y (dZ x))=decide (x∈ws):=by ext z0;induction z0 with
 |nil=>ext _;simp[dZs]
 |cons w ws I0=>
  ext h;rw[bG,b7]at h;simp only[dZs,cT];rw[I0 h.2,a5k (a8c 8 w x 8 h.1 hx)]
  by_cases e:w=x
  .simp_all
  .let:¬ x=w:=λz=>e z.symm
   simp[e,this]
def b5m(hf:∀b,f b=if neg=lS then !b else b){K:Fg}(h:low2 K (zIn f) x y H Q) :
  (∃i j,x=.str i/\y=.str j/\Q (.bl (f (!(im.Str.occurrences j i 0 j.length 1).isEmpty))) H)\/rInD neg x y H Q:=by
 let(a,b,G,R,o,m,r,h,t):=h;let s:∀p c d,y=.ref p->_->Reps K H c d->flat 8 a=lS->c.all _=lS->R _ G->rInD neg x y H Q:=λp c d e w n k g h=>by
  show(dZ a,p,dZs c,d,b0h 8 _ _ k o,e,w,a4y 8 _ _ g n,a1M k (by simp),a1h g (by simp),?_);rw[b2R a k c g,<- hf];show t _ _ _ _ h (by rw[a0v]) r (.refl _ _)
 cases b with
 |str j=>
  cases a with
  |str i=>rw[a0x]at o m;show .inl (_,_,o,m,t _ _ _ _ h (by rw[a0v]) r (.refl _ _))
  |_=>show aX h
 |ref q=>
  let l:∃c,G q=bo (.lst c)/\flat 8 a=lS/\c.all (flat 8)=lS/\R (.bl (f (decide (a∈c)))) G:=by cases a<;>show h
  let(c,e,k,g,l):=l;let(d,u,n):=r q _ e;show .inr (s q c d m (.inl u) n k g l)
 |tup c=>
  let(q,d,e,v,n):=m;let l:flat 8 a=lS/\c.all (flat 8)=lS/\R (.bl (f (decide (a∈c)))) G:=by cases a<;>show h
  let(k,g,l):=l;show .inr (s q c d e (.inr v) n k g l)
 |_=>cases a<;>show aX h
def o_in(hu:X.A.units+66<cLine):OpQ X (io .In) (zIn id):=a2S (op_in_str.or (b4V hu)) λx y H Q h=>b5m (λb=>by simp) h
theorem Vals.tog:∀{xs:List V}{us:List Value}{i:Nat}{u:Value},Vals xs us->us[i]?=bo u->∃x,xs[i]?=bo x/\RelV x u
 |_,_,_,_,.nil,e=>by simp at e
 |_,_,0,_,.cons r _,e=>by simp at e;subst e;show(_,rfl,r)
 |_,_,i+1,u,.cons _ t,e=>by
  let(x,a,b):=Vals.tog t ↑e;show(x,↑a,b)
def b5n:OpR X (io .Is) (λx y H Q=>∃a b,x=.bl a/\y=.bl b/\Q (.bl (a==b)) H):=by
 ext d s σ H x y v u Q I c e h;let(a,b,rfl,rfl,q):=h;cases c;cases e;show wpAny_is_plain rfl (a0o I q (by cases a<;>cases b<;>rfl))
def rSlS:V->Option Int->Option Int->Hp->VK->Prop:=λx lo hi H Q=>∃z,x=.str z/\z.length<=ie/\Q (.str (Txt.slice z lo hi)) H
def b5o:SlR X rSlS:=by
 ext g s σ H x v A B f b C Q I w p y m h;let(z,rfl,r,q):=h;let(t,rfl):=w;let(o,e,c,d):=p;let a:∀f b,Q _ H->(Txt.slice z f b).length<=ie/\∀n k,EP X g σ Q (.str (Txt.slice z f b) n) { s with toks:=k }:=λf b q=>
  (bj (Txt.slice_le z _ _) r,λn k=>(.str _,H,I.tok k,(_,rfl),q))
 cases y with
 |none=>
  cases m with
  |none=>show("str",_,F.slot_str_getitem.lookup,jl _ _ _,kc (l:=lR) (u:=lR) (st:=lR) (o,e,c,d) rfl (ke (a _ _ q)))
  |int j u=>show("str",_,F.slot_str_getitem.lookup,jl _ _ _,kc (l:=lR) (u:=bo (j,u,)) (st:=lR) (o,e,c,d) rfl (ke (a _ _ q)))
 |int i v=>
  cases m with
  |none=>show("str",_,F.slot_str_getitem.lookup,jl _ _ _,kc (l:=bo (i,v,)) (u:=lR) (st:=lR) (o,e,c,d) rfl (ke (a _ _ q)))
  |int j u=>show("str",_,F.slot_str_getitem.lookup,jl _ _ _,kc (l:=bo (i,v,)) (u:=bo (j,u,)) (st:=lR) (o,e,c,d) rfl (ke (a _ _ q)))
def o_is:OpQ X (io .Is) (zIs lT):=a2S (op_isN.or b5n) λx y H Q g=>g.un λa b G R d c e h f=>by
 cases b with
 |non=>rw[a0z]at c;show .inl (c,by rw[a3w d];show f _ _ _ _ h (by rw[a0v];rfl) e (.refl _ _))
 |bl b=>
  cases a with
  |bl a=>rw[a0v]at d c;show .inr (_,_,d,c,f _ _ _ _ h.2 (by rw[a0v]) e (.refl _ _))
  |_=>show aX h
 |_=>show aX h
def b2S:OpQ X (io .IsNot) (zIs lS):=a2S b2p λx y H Q d=>d.un λa b G R g c e h f=>by
 cases b with
 |non=>rw[a0z]at c;show(c,by rw[a3w g];show f _ _ _ _ h (by rw[a0v];rfl) e (.refl _ _))
 |bl b=>
  cases a with
  |bl a=>show nomatch h.1
  |_=>show aX h
 |_=>show aX h
def zIx:R3:=λx y G R=>match x,y with
 |.ref p,.int i=>∃ws w,G p=bo (.lst ws)/\atI ws i=bo w/\R w G
 |.scr _ ns,.int i=>∃n,atI ns i=bo n/\R (.int n) G
 |.tup ws,.int i=>∃w,atI ws i=bo w/\R w G
 |.str z,.int i=>∃c,z.length<=ie/\atI z.cps.toList i=bo c/\R (.str ⟨#[c]⟩) G
 |_,_=>False
def a8e{K:Fg}(r:Reps K H ws vs)(h:atI ws i=bo lU):∃v,atI vs i=bo v/\Rep K H lU v:=by
 unfold atI at h ⊢;rw[<- r.length];cases e:ixN ws.length i with
 |none=>rw[e]at h;cases h
 |some j=>
  rw[e]at h;show r.get h
def b2T{α β:Type}{f:α->β}{xs:List α}{x:α}(h:atI xs i=bo x):atI (xs.map f) i=bo (f x):=by
 unfold atI at h ⊢;rw[aN];cases e:ixN xs.length i with
 |none=>rw[e]at h;cases h
 |some j=>
  rw[e]at h;let a:xs[j]?=bo x:=h
  change _[j]?=bo _
  rw[aR,a];rfl
def x_ix:IxQ X zIx:=b42 b4I λx y H Q s=>s.un λa b G R d f g h i=>by
  cases a<;>cases b<;>first
    |show aX h
    | (rw[a0q]at d
       let(z,w,e,m,h):=h;let(q,k,j):=g _ _ e;let(v,o,l):=a8e j m;show .inl (_,_,_,v,d,f,SqL.of k,o,i _ _ _ _ h l g (.refl _ _)))
    | (rw[a2l]at d
       let(n,u,h):=h;show .inl (_,_,_,_,d.1,f,d.2.sq,b2T u,i _ _ _ _ h (by rw[a0l]) g (.refl _ _)))
    | (rw[a03]at d
       let(p,q,e,k,j):=d;let(w,m,h):=h;let(v,o,l):=a8e j m;show .inr (.inl (p,q,_,v,e,f,SqT.of k,o,i _ _ _ _ h l g (.refl _ _))))
    | (rw[a0x]at d
       let(c,r,t,h):=h;show .inr (.inr (_,_,c,d,f,r,t,i _ _ _ _ h (by rw[a0x]) g (.refl _ _))))
noncomputable def cutZ{α:Type}(xs:List α)(lo hi:Option Int):List α:=(xs.drop (HT.sIx xs.length 0 lo)).take (HT.sIx xs.length xs.length hi-HT.sIx xs.length 0 lo)
def b2U(xs:List V)(lo hi:Option Int):cutV xs lo hi=cutZ xs lo hi:=rfl
def Reps.cut{K:Fg}(r:Reps K H ws vs)(lo hi:Option Int):Reps K H (cutZ ws lo hi) (cutV vs lo hi):=by
 unfold cutZ cutV;rw[<- r.length];show (r.drop _).take _
def a3X{α β:Type}(f:α->β)(xs:List α)(lo hi:Option Int):cutZ (xs.map f) lo hi=(cutZ xs lo hi).map f:=by
 unfold cutZ;rw[aN,fR,fS]
def zSl:L3r:=λx lo hi G R=>match x with
 |.ref p=>∃ws,G p=bo (.lst ws)/\∀t,G t=lR->R (.ref t) (put G t (.lst (cutZ ws lo hi)))
 |.scr _ ns=>∀t,G t=lR->R (.ref t) (put G t (.lst ((cutZ ns lo hi).map Z.int)))
 |.tup ws=>¬ (HT.sIx ws.length 0 lo=0/\HT.sIx ws.length ws.length hi=ws.length)/\R (.tup (cutZ ws lo hi)) G
 |.str z=>z.length<=ie/\R (.str (Txt.slice z lo hi)) G
 |_=>False
def x_sl:SlQ X zSl:=b7o (sl_list.or (sl_tup.or b5o)) λx l k H Q m=>m.un λa G R c d h g=>by
 cases a with
 |ref p=>
  let(n,e,h):=h;let(j,i,f):=d _ _ e;show .inl (p,j,c,SqL.of i,λt b=>g _ _ _ _ (h t (d.out b)) (by rw[a0q]) (d.set (.new b) (a0K (f.cut l k) (.new b))) (.new b))
 |scr p ns=>
  show .inl (p,_,c.1,c.2.sq,λt b=>?_);rw[b2U,a3X];show g _ _ _ _ (h t (d.out b)) (by rw[a0q]) (d.set (.new b) (a0K (a1r _) (.new b))) (.new b)
 |tup n=>
  let(p,j,e,i,f):=c;show .inr (.inl (p,j,e,SqT.of i,by rw[<- f.length];show h.1,λt b=>g _ _ _ _ h.2 (by rw[a03];show(t,_,rfl,a0h,(f.cut l k).mono (.new b))) (d.hid b) (.new b)))
 |str z=>
  show .inr (.inr (z,c,h.1,g _ _ _ _ h.2 (by rw[a0x]) d (.refl _ _)))
 |_=>show aX h
def zSet:Z3:=λo i v G R=>match o,i with
 |.ref p,.int k=>∃ws j,G p=bo (.lst ws)/\ixN ws.length k=bo j/\R (put G p (.lst (ws.set j v)))
 |_,_=>False
def b0i:SetQ X zSet:=b1H a9V λo i v H Q p=>p.un λa b w G R f g l k h q=>by
  cases a<;>cases b<;>first
    |show aX h
    | (rw[a0q]at f
       let(r,j,e,m,h):=h;let(n,c,d):=k _ _ e;show(_,n,_,j,f,g,c,by rw[<- d.length];show m,q _ _ h (k.set (.lst c) (a0K (d.set l j) (.lst c))) (.lst c)))
def zLen:List Z->Hq->K3->Prop:=λxs G R=>match xs with
 |[.str z]=>z.length<=ie/\R (.int z.length) G
 |[.ref p]=>∃ws,G p=bo (.lst ws)/\R (.int ws.length) G
 |[.tup ws]=>R (.int ws.length) G
 |[.scr _ ns]=>R (.int ns.length) G
 |_=>False
def b7B:a1t X (.builtin "len") zLen:=a0U a9S λl H Q k=>k.un λj G R c a h d=>by
 match j,h with
 |[.str z],h=>
  let(v,rfl,r):=c.one;show(v,z.length,rfl,by rw[r];show(h.1,rfl),d _ _ _ _ h.2 (by rw[a0l]) a (.refl _ _))
 |[.ref p],h=>
  let(v,rfl,r):=c.one;let(i,e,h):=h;let(g,f,b):=a _ _ e;show(v,i.length,rfl,by rw[r];show .inl (g,SqL.of f,b.length),d _ _ _ _ h (by rw[a0l]) a (.refl _ _))
 |[.tup i],h=>
  let(v,rfl,r):=c.one;let(p,g,e,f,b):=r;show(v,i.length,rfl,by rw[e];show .inr (g,SqT.of f,b.length),d _ _ _ _ h (by rw[a0l]) a (.refl _ _))
 |[.scr p ns],h=>
  let(v,rfl,r):=c.one;show(v,ns.length,rfl,by rw[r.1];show .inl (_,r.2.sq,(aN ..).symm),d _ _ _ _ h (by rw[a0l]) a (.refl _ _))
def zMM(f:Int->Int->Int):List Z->Hq->K3->Prop:=λxs G R=>match xs with
 |[.int i,.int j]=>R (.int (f i j)) G
 |_=>False
def bMM{id:String}(hf:CallR X (.builtin id) (λxs H Q=>∃i j,xs=[.int i,.int j]/\Q (.int (f i j)) H)):a1t X (.builtin id) (zMM f):=a0U hf λl H Q d=>d.un λc G R e b h g=>by
 match c,h with
 |[.int i,.int j],h=>
  let(v,k,rfl,r,a):=e.two;show(i,j,by rw[r,a],g _ _ _ _ h (by rw[a0l]) b (.refl _ _))
def b7C(hc:X.calm=lS):a1t X (.builtin "min") (zMM λi j=>if j<i then j else i):=bMM (a7B hc)
def b5p:List Z->Hq->K3->Prop:=λxs G R=>match xs with
 |[.ref p]=>∃ws,G p=bo (.lst ws)/\∀t,G t=lR->R (.ref t) (put G t (.lst ws))
 |[.tup ws]=>∀t,G t=lR->R (.ref t) (put G t (.lst ws))
 |[.scr _ ns]=>∀t,G t=lR->R (.ref t) (put G t (.lst (ns.map Z.int)))
 |_=>False
def a8f:a1t X (.type "list") b5p:=a0U a4q λm H Q j=>j.un λl G R i b h f=>by
 match l,h with
 |[.ref p],h=>
  let(v,rfl,r):=i.one;let(k,e,h):=h;let(d,g,c):=b _ _ e;show(p,d,by rw[r],.inl (SqL.of g),λt a=>f _ _ _ _ (h t (b.out a)) (by rw[a0q]) (b.set (.new a) (a0K c (.new a))) (.new a))
 |[.tup k],h=>
  let(v,rfl,r):=i.one;let(p,d,e,g,c):=r;show(p,d,by rw[e],.inr (SqT.of g),λt a=>f _ _ _ _ (h t (b.out a)) (by rw[a0q]) (b.set (.new a) (a0K c (.new a))) (.new a))
 |[.scr p ns],h=>
  let(v,rfl,r):=i.one;show(p,_,by rw[r.1],.inl r.2.sq,λt a=>f _ _ _ _ (h t (b.out a)) (by rw[a0q]) (b.set (.new a) (a0K (a1r _) (.new a))) (.new a))
noncomputable def kit0(n T:String):Option Bool:=if (Value.type n==Value.type T)=lS then bo lS else if PySem.W.kitMeta T=lS then (PySem.fastBuiltinMro n).map (·.contains (.type T)) else lR
def b1L{K:Fg}:PySem.W.kitOne K (.type n) (.type T)=kit0 n T:=rfl
noncomputable def tyN(G:Hq):Z->Option String
 |.non=>bo "NoneType"
 |.bl _=>bo "bool"
 |.int _=>bo "int"
 |.str _=>bo "str"
 |.tup _=>bo "tuple"
 |.ref p=>match G p with
  |some (.lst _)=>bo "list"
  |some (.dK _)=>bo "dict"
  |_=>lR
 |_=>lR
def zIsT:List Z->Hq->K3->Prop:=λxs G R=>match xs with
 |[x,.ty T]=>∃n b,tyN G x=bo n/\kit0 n T=bo b/\R (.bl b) G
 |_=>False
def a51{K:Fg}(h:tyN G x=bo n)(r:Rep K H x v)(hg:RH K G H):TyOf K H v (.type n):=by
 cases x with
 |non=>rw[a0z]at r;subst r;cases h;show .non
 |bl _=>rw[a0v]at r;subst r;cases h;show .bl _
 |int _=>rw[a0l]at r;subst r;cases h;show .int _
 |str _=>rw[a0x]at r;subst r;cases h;show .str _
 |tup ws=>rw[a03]at r;let(a,c,rfl,e,_):=r;cases h;show .tup e
 |ref p=>
  subst r;cases e:G p with
  |none=>simp[tyN,e]at h
  |some o=>
   cases o with
   |lst ws=>simp[tyN,e]at h;subst h;let(c,b,_):=hg _ _ e;show .lst b
   |dK kvs=>simp[tyN,e]at h;subst h;let(c,b,_):=hg _ _ e;show .dK b
   |ins C dx fs=>simp[tyN,e]at h
   |dF kvs=>simp[tyN,e]at h
   |dT ks=>simp[tyN,e]at h
   |tab _ _=>simp[tyN,e]at h
 |ty _=>cases h
 |scr _ _=>cases h
def b7D:a1t X (.builtin "isinstance") zIsT:=a0U a99 λl H Q g=>g.un λf G R d a h i=>by
 match f,h with
 |[x,.ty T],h=>
  let(v,j,rfl,r,c):=d.two;let(n,b,e,k,h):=h;show(v,T,.type n,b,by rw[c],a51 e r a,by rw[b1L];show k,i _ _ _ _ h (by rw[a0v]) a (.refl _ _))
def a2W:Z->List Z->Hq->K3->Prop:=λx xs G R=>match x,xs with
 |.ref p,[y]=>∃ws,G p=bo (.lst ws)/\ws.length<ie/\R .non (put G p (.lst (ws++[y])))
 |_,_=>False
def a52:MtQ X "list.append" a2W:=a7X a4r λx n H Q j=>j.un λw k G R c f d h l=>by
 match w,k,h with
 |.ref p,[y],h=>
  let(v,rfl,r):=f.one;let(m,e,g,h):=h;let(i,a,b):=d _ _ e;show(p,i,v,c,rfl,a,by rw[<- b.length];show g,l _ _ _ _ h (by rw[a0z]) (d.set (.lst a) (a0K (b.append (.cons r .nil)) (.lst a))) (.lst a))
def b5q:E3:=λ_ G R=>∀p,G p=lR->R (.ref p) (put G p (.dK []))
def a2A:QE X (.Dict [] [] pos) b5q:=⟨a0X a9Y fun τ H Q (σ,G,R,d,b,h,c) p a=>c _ _ _ _ (h p (b.out a)) (by rw[a0q]) (b.set (.new a) ([],a0h,rfl,.nil)) (.new a)⟩
section
variable{σ:S3}{G:Hq}{R:K3}{Rb:Bool->Hq->Prop}{Ra:List Z->Hq->Prop}{nx bk ct:C3}{rt:K3}{t u:X3}{te ta tb to ti:E3}{c d:T3}{al:A3}{r:R3}{w x y:Z}{i:Nat}
def b7E(e:σ[i]?=bo (bo w))(h:R w G):uVar i σ G R:=(w,e,h)
def i_c(h:R w G):uC w σ G R:=h
def i_op(h:ta σ G λx G1=>tb σ G1 λy G2=>r x y G2 R):uOp r ta tb σ G R:=h
def i_un{r:Z->Hq->K3->Prop}(h:ta σ G λx G1=>r x G1 R):uUn r ta σ G R:=h
def b5r(h:ta σ G λx G1=>∃k,x=.bl k/\Rb k G1):a6R ta σ G Rb:=h
def b7F(h:c σ G λk G1=>if k=lS then d σ G1 Rb else Rb lT G1):uAnd c d σ G Rb:=h
def i_or(h:c σ G λk G1=>if k=lS then Rb lS G1 else d σ G1 Rb):uOr c d σ G Rb:=h
def b7G(h:c σ G λk G1=>Rb (!k) G1):uNot c σ G Rb:=h
def b5s(h:ta σ G λx G1=>∃c,x=.bl c/\if c=lS then tb σ G1 R else R (.bl lT) G1):b46 ta tb σ G R:=h
def b5t(h:ta σ G λx G1=>∃c,x=.bl c/\R (.bl (!c)) G1):b47 ta σ G R:=h
def i_if(h:c σ G λk G1=>if k=lS then ta σ G1 R else tb σ G1 R):uIf c ta tb σ G R:=h
def b7H(h:ta σ G λx G1=>tru x G1 Rb):uTru ta σ G Rb:=h
def b1M(e:G p=bo (.lst ws))(h:Rb (!ws.isEmpty) G):tru (.ref p) G Rb:=.inl (ws,e,h)
def i_sl{r:L3r}(h:te σ G λx G1=>tl σ G1 λl G2=>th σ G2 λu G3=>r x l u G3 R):uSl r te tl th σ G R:=h
def b0j(h:Ro lR G):a70 σ G Ro:=h
def b5u(h:te σ G λx G1=>∃i,x=.int i/\Ro (bo i) G1):b49 te σ G Ro:=h
def b7I(h:Ra [] G):uNil σ G Ra:=h
def b5v(h:ta σ G λx G1=>al σ G1 λxs G2=>Ra (x::xs) G2):b2G ta al σ G Ra:=h
def b7J(h:al σ G λxs G1=>xs.length<=ie/\R (.tup xs) G1):uTup al σ G R:=h
def b7K(h:al σ G λxs G1=>xs.length<=ie/\∀p,G1 p=lR->R (.ref p) (put G1 p (.lst xs))):uLst al σ G R:=h
def i_cb{r:List Z->Hq->K3->Prop}(h:al σ G λws G1=>r ws G1 R):uCB r al σ G R:=h
def i_bm{r:Z->List Z->Hq->K3->Prop}(h:to σ G λx G1=>tyZ T x G1/\al σ G1 λxs G2=>r x xs G2 R):uBM T r to al σ G R:=h
def b5w(h:al σ G λws G1=>sp ws G1 R):b2J sp al σ G R:=h
def b5x(h:nx σ G):b2K nx rt bk ct σ G:=h
def b8z(h:t (u nx rt bk ct) rt bk ct σ G):uSeq t u nx rt bk ct σ G:=h
def b5y(h:te σ G λ_ G1=>nx σ G1):b5f te nx rt bk ct σ G:=h
def b7L(h:te σ G rt):uRet te nx rt bk ct σ G:=h
def b7M(h:c σ G λb G1=>if b=lS then t nx rt bk ct σ G1 else u nx rt bk ct σ G1):uIfS c t u nx rt bk ct σ G:=h
def b7N(h:te σ G λx G1=>∃σ',a2U pt x σ=bo σ'/\nx σ' G1):uAsg te pt nx rt bk ct σ G:=h
def b7O{r:Z3}(h:te σ G λw G1=>to σ G1 λo G2=>ti σ G2 λi G3=>r o i w G3 λG4=>nx σ G4):uPut te to ti r nx rt bk ct σ G:=h
def b7P(e:σ[i]?=bo (bo x))(h:te σ G λy G1=>r x y G1 λz G2=>nx (σ.set i (bo z)) G2):uAug i te r nx rt bk ct σ G:=(x,e,h)
def a2X(M:C3)(h:t M rt bk ct σ G)(h':∀σ' G',M σ' G'->u nx rt bk ct σ' G'):uCut t u nx rt bk ct σ G:=(M,h,h')
def b5z(h:R (.int (a+b)) G):zAdd (.int a) (.int b) G R:=h
def a8g(z:a.length+b.length<=ie)(h:R (.str (a++b)) G):zAdd (.str a) (.str b) G R:=(z,h)
def a8h(e:xs≠[])(z:xs.length+ys.length<=ie)(h:R (.tup (xs++ys)) G):zAdd (.tup xs) (.tup ys) G R:=(e,z,h)
def a1I(e:G p=bo (.lst xs))(e':G q=bo (.lst ys))(z:xs.length+ys.length<=ie)(h:∀t,G t=lR->R (.ref t) (put G t (.lst (xs++ys)))):zAdd (.ref p) (.ref q) G R:=(xs,ys,e,e',z,h)
def i_I(k:C a b)(h:R (g a b) G):zI C g (.int a) (.int b) G R:=(k,h)
def i_I0(h:R (g a b) G):zI0 g (.int a) (.int b) G R:=h
def b7Q(h:R (.int (-a)) G):zNeg (.int a) G R:=h
def i_CI(h:R (.bl (f a b)) G):zC f g (.int a) (.int b) G R:=h
def b7R(h:R (.bl (decide (x=.non))) G):zIs lT x .non G R:=h
def b5A(h:R (.bl (!decide (x=.non))) G):zIs lS x .non G R:=h
def b7S(h:R (.bl (f (a==b))) G):zEq f (.bl a) (.bl b) G R:=h
def b5B(h:R (.bl (f (decide (a=b)))) G):zEq f (.int a) (.int b) G R:=h
def b7T(h:R (.bl (f (decide (a=b)))) G):zEq f (.str a) (.str b) G R:=h
def a5l(e:G p=bo (.lst xs))(e':G q=bo (.lst ys))(f1:xs.all (flat 8)=lS)(f2:ys.all (flat 8)=lS)(h:R (.bl (f (decide (xs=ys)))) G):zEq f (.ref p) (.ref q) G R:=(xs,ys,e,e',f1,f2,h)
def a0y(e:G p=bo (.lst ws))(a:atI ws k=bo w)(h:R w G):zIx (.ref p) (.int k) G R:=(ws,w,e,a,h)
def b7U(a:atI ns k=bo n)(h:R (.int n) G):zIx (.scr p ns) (.int k) G R:=(n,a,h)
def a06(a:atI ws k=bo w)(h:R w G):zIx (.tup ws) (.int k) G R:=(w,a,h)
def b2V(l:z.length<=ie)(a:atI z.cps.toList k=bo ch)(h:R (.str ⟨#[ch]⟩) G):zIx (.str z) (.int k) G R:=(ch,l,a,h)
def b5C{lo hi:Option Int}(l:z.length<=ie)(h:R (.str (Txt.slice z lo hi)) G):zSl (.str z) lo hi G R:=(l,h)
def a8i{lo hi:Option Int}(e:G p=bo (.lst ws))(h:∀t,G t=lR->R (.ref t) (put G t (.lst (cutZ ws lo hi)))):zSl (.ref p) lo hi G R:=(ws,e,h)
def b7V{lo hi:Option Int}(h:∀t,G t=lR->R (.ref t) (put G t (.lst ((cutZ ns lo hi).map Z.int)))):zSl (.scr p ns) lo hi G R:=h
def b7W{lo hi:Option Int}(n:¬ (HT.sIx ws.length 0 lo=0/\HT.sIx ws.length ws.length hi=ws.length))(h:R (.tup (cutZ ws lo hi)) G):zSl (.tup ws) lo hi G R:=(n,h)
def b0k(e:G p=bo (.lst ws))(a:ixN ws.length k=bo j)(h:Rg (put G p (.lst (ws.set j w)))):zSet (.ref p) (.int k) w G Rg:=(ws,j,e,a,h)
def b5D(h:∀p,G p=lR->R (.ref p) (put G p (.dK []))):b5q σ G R:=h
def b5E(l:z.length<=ie)(h:R (.int z.length) G):zLen [.str z] G R:=(l,h)
def a2B(e:G p=bo (.lst ws))(h:R (.int ws.length) G):zLen [.ref p] G R:=(ws,e,h)
def b5F(h:R (.int ns.length) G):zLen [.scr p ns] G R:=h
def i_mm(h:R (.int (f a b)) G):zMM f [.int a,.int b] G R:=h
def a5m(e:G p=bo (.lst ws))(h:∀t,G t=lR->R (.ref t) (put G t (.lst ws))):b5p [.ref p] G R:=(ws,e,h)
def a1c(e:tyN G x=bo n)(k:kit0 n T=bo b)(h:R (.bl b) G):zIsT [x,.ty T] G R:=(n,b,e,k,h)
def a0u(e:G p=bo (.lst ws))(z:ws.length<ie)(h:R .non (put G p (.lst (ws++[y])))):a2W (.ref p) [y] G R:=(ws,e,z,h)
def b7X{P:Prop}(h:P):tyZ "str" (.str z) G/\P:=(rfl,h)
def a04{P:Prop}(e:G p=bo (.lst ws))(h:P):tyZ "list" (.ref p) G/\P:=(.inl (rfl,ws,e),h)
def i_nm(h:nx (σ.set j (bo w)) G):∃σ',a2U (.nm j) w σ=bo σ'/\nx σ' G:=(_,rfl,h)
def b7Y(e:G q=bo (.lst ws))(f1:flat 8 x=lS)(f2:ws.all (flat 8)=lS)(h:R (.bl (f (decide (x∈ws)))) G):zIn f x (.ref q) G R:=by cases x<;>show(ws,e,f1,f2,h)
def b5G{tb:X3}(h:wi σ G λws ok G1=>FORB ws ok pt tb nx rt σ G1):uFor wi pt tb nx rt bk ct σ G:=h
def b7Z(h:wi σ G λws ok G1=>∀D,G1 D=lR->LCB ws ok cap pt tt te σ R D G1):uLC wi cap pt tt te σ G R:=h
variable{Ri:List Z->(Hq->Prop)->Hq->Prop}
def i_iL(h:te σ G λx G1=>wkL x G1 Ri):iL te σ G Ri:=h
def b70(h:al σ G λws G1=>∃j:Int,ws=[.int j]/\-(2 ^ 62)<=j/\j<2 ^ 62/\Ri (rng 0 j.toNat) (λ_=>True) G1):iR1 al σ G Ri:=h
def a1i(e:G p=bo (.lst ws))(h:Ri ws (λG=>G p=bo (.lst ws)) G):wkL (.ref p) G Ri:=(ws,e,h)
def i_tt(h:Rb lS G):uTT σ G Rb:=h
end
def ifD{p A B:Prop}[Decidable p](h1:p->A)(h2:¬ p->B):if decide p=lS then A else B:=by simp_all
def ifN{p A B:Prop}[Decidable p](h1:¬ p->A)(h2:p->B):if (!decide p)=lS then A else B:=by simp_all
def ifB{A B:Prop}(h1:b=lS->A)(h2:b=lT->B):if b=lS then A else B:=by simp_all
def ifT{A B:Prop}(h:A):if lS=lS then A else B:=by rw[if_pos rfl];show h
def ifF{A B:Prop}(h:B):if lT=lS then A else B:=by rw[if_neg (by decide)];show h
def ifNN{A B:Prop}(h:A):if decide (Z.non=Z.non)=lS then A else B:=by simp_all
def ifNI{A B:Prop}(h:B):if decide (Z.int i=Z.non)=lS then A else B:=by rw[if_neg (by simp)];show h
def ifNS{A B:Prop}(h:B):if decide (Z.str i=Z.non)=lS then A else B:=by rw[if_neg (by simp)];show h
def ifNU{A B:Prop}(h:B):if decide (Z.tup i=Z.non)=lS then A else B:=by rw[if_neg (by simp)];show h
def ifMN{A B:Prop}(h:B):if (!decide (Z.non=Z.non))=lS then A else B:=by rw[if_neg (by simp)];show h
def ifMI{A B:Prop}(h:A):if (!decide (Z.int i=Z.non))=lS then A else B:=by rw[if_pos (by simp)];show h
def ifMU{A B:Prop}(h:A):if (!decide (Z.tup i=Z.non))=lS then A else B:=by rw[if_pos (by simp)];show h
def at0{α:Type}{a:α}{r:List α}:atI (a::r) 0=bo a:=a0F (j:=0) rfl
def at1{α:Type}{a b:α}{r:List α}:atI (a::b::r) 1=bo b:=a0F (j:=1) rfl
def at2{α:Type}{a b c:α}{r:List α}:atI (a::b::c::r) 2=bo c:=a0F (j:=2) rfl
def Sm(G G':Hq):Prop:=∀b o,G b=bo o->G' b=bo o
def Sm.refl(G:Hq):Sm G G:=λ_ _ h=>h
def Sm.trans(a:Sm G G1)(b:Sm G1 G2):Sm G G2:=λc o h=>b c o (a c o h)
def Sm.get(s:Sm G G')(h:G b=bo o):G' b=bo o:=s b o h
def Sm.new(h:G p=lR):Sm G (put G p o):=λ_ _ e=>a0b e h
def Sm.free(s:Sm G G')(h:G' p=lR):G p=lR:=by
 cases e:G p with
 |none=>rfl
 |some o=>rw[s p o e]at h;cases h
def Kq(r:Addr)(G G':Hq):Prop:=∀b o,G b=bo o->b≠r->G' b=bo o
def Kq.refl(r:Addr)(G:Hq):Kq r G G:=λ_ _ h _=>h
def Kq.trans(a:Kq r G G1)(b:Kq r G1 G2):Kq r G G2:=λc o h n=>b c o (a c o h n) n
def Kq.new(h:G p=lR):Kq r G (put G p o):=λ_ _ e _=>a0b e h
def Kq.at:Kq r G (put G r o):=λ_ _ e n=>by rw[a0d n];show e
def Sm.kq(s:Sm G G'):Kq r G G':=λb o e _=>s b o e
noncomputable def Sm.put(s:Sm G G')(h:G p=lR):Sm G (put G' p o):=λb u e=>by rw[a0d (a0g e h)];show s b u e
namespace Tim
abbrev KF:=Keyed->Int
noncomputable def Kk(κ:KF)(xs:Array Keyed)(i:Nat):Int:=match xs[i]? with
 |some p=>κ p
 |none=>0
section
variable{xs ys:Array Keyed}{i j:Nat}{p:Keyed}
def a5n(h:xs[i]?=bo p):Kk κ xs i=κ p:=by unfold Kk;rw[h]
def a2Y(h:xs[i]?=ys[j]?):Kk κ xs i=Kk κ ys j:=by unfold Kk;rw[h]
end
def LtOk(M:Model)(A:Around)(E:Value->Shared->Prop)(s:Shared)(κ:KF)(k0:iP)(ajj:Array Keyed):Prop:=
 ∀x y,x∈ajj.toList->y∈ajj.toList->∀(st:SortSt)(Q:Option Bool->SortSt->Prop),kindOf st=k0->Q (bo (decide (κ x<κ y))) st->wpS M A E s (lt' x y) Q st
structure TB (k0:iP) (ajj:Array Keyed) (st:SortSt):Prop where
 pm:(arrOf st).Perm ajj
 kd:kindOf st=k0
 fl:iJ st=lR
def TB.sz{st:SortSt}(h:TB k0 ajj st):(arrOf st).size=ajj.size:=h.pm.size_eq
def TB.mem{st:SortSt}(h:TB k0 ajj st){i:Nat}(e:(arrOf st)[i]?=bo p):p∈ajj.toList:=by
 let a:p∈(arrOf st).toList:=by rw[fL];show Array.mem_of_getElem? e
 show (dI.mp h.pm).mem_iff.mp a
def TB.arr{st:SortSt}(h:TB k0 ajj st)(hp:xs.Perm (arrOf st)):TB k0 ajj (setArr st xs):=(hp.trans h.pm,h.kd,h.fl)
section
variable{M:Model}{k0:iP}{ajj:Array Keyed}{st:SortSt}
def a0A(e:arr[i]?=bo p)(h:Q p st):wpS M A E s (elem' arr i) Q st:=by
 rw[elem'_eq,e];show ij h
def a4z(L:LtOk M A E s κ k0 ajj)(B:TB k0 ajj st)(hi:i<ajj.size)(hj:j<ajj.size)
  (h:Q (bo (decide (Kk κ (arrOf st) i<Kk κ (arrOf st) j))) st):wpS M A E s (ltAt' i j) Q st:=by
 let b:_[i]?=bo ((arrOf st)[i]'(B.sz▸hi)):=getElem?_pos ..;let a:(arrOf st)[j]?=bo ((arrOf st)[j]'(B.sz▸hj)):=getElem?_pos ..;show ig (iU (ig (a0A b (ig (a0A a (L _ _ (B.mem b) (B.mem a) st Q B.kd ?_))))));rw[a5n b,a5n a]at h;show h
end
noncomputable def a1v:Bool->Keyed->Array Keyed->Nat->Nat->Nat->StateT SortSt Sem (Option Nat):=sortPriv% PySem.Builtin.gallop
noncomputable def bey(lft:Bool)(ky:Keyed)(ar:Array Keyed)(bs:Nat)(q:Nat):StateT SortSt Sem (Option Bool):=do
  let z <- elem' ar (bs+q)
  if lft then lt' z ky else return (<- lt' ky z).map (!·)
def a6V(lft:Bool)(ky:Keyed)(ar:Array Keyed)(bs n hnt:Nat):a1v lft ky ar bs n hnt=(do
 let mut lst:=0
 let mut oo:=1
 let mut l:=0
 let mut h:=0
 let bo rgt <- bey lft ky ar bs hnt |return lR
 if rgt then
  let mx:=n-hnt
  for _ in [0:n] do
   if oo>=mx then break
   let bo mo <- bey lft ky ar bs (hnt+oo) |return lR
   if !mo then break
   lst:=oo
   oo:=2*oo+1
  l:=hnt+lst+1
  h:=hnt+min oo mx
 else
  let mx:=hnt+1
  for _ in [0:n] do
   if oo>=mx then break
   let bo fo <- bey lft ky ar bs (hnt-oo) |return lR
   if fo then break
   lst:=oo
   oo:=2*oo+1
  l:=hnt+1-min oo mx
  h:=hnt-lst
 for _ in [0:n] do
  if l>=h then break
  let m:=l+(h-l) / 2
  let bo mo <- bey lft ky ar bs m |return lR
  if mo then l:=m+1 else h:=m
 return bo h):=rfl
noncomputable def bq(lft:Bool)(k x:Int):Bool:=if lft then decide (x<k) else !decide (k<x)
section
variable{M:Model}{k0:iP}{ajj:Array Keyed}{st:SortSt}
def a8j(L:LtOk M A E s κ k0 ajj)(hk:kindOf st=k0)(hm:ky∈ajj.toList)(ha:∀p∈ar.toList,p∈ajj.toList)(hq:bs+q<ar.size)
  (h:Q (bo (bq lft (κ ky) (Kk κ ar (bs+q)))) st):wpS M A E s (bey lft ky ar bs q) Q st:=by
 let b:ar[bs+q]?=bo (ar[bs+q]'hq):=getElem?_pos ..;let a:ar[bs+q]∈ajj.toList:=ha _ (by simp);show ig (a0A b ?_);rw[a5n b]at h;cases lft with
 |true=>
  show L _ _ a hm st Q hk h
 |false=>
  show ig (L _ _ hm a st _ hk (ij h))
def hvN{l r:Nat}(h:¬ l>=r):l<=l+(r-l) / 2/\l+(r-l) / 2<r:=by cbv
def hvM{p q:Nat}(h:¬ p>=q):p<=(p+q) / 2/\(p+q) / 2<q:=by cbv
def hvS{k x p q m:Nat}(h:x<k)(h2:q-p<=k-x)(h3:p<=m)(h4:m<q):m-p<=k-(x+1)/\q-(m+1)<=k-(x+1):=by cbv
def hvC{a b n:Nat}(m:a<b)(o:a<=n):n+1-min b (n+1)<=n-a:=by cbv
def hvD{a b h n:Nat}(m:a<b)(o:h+a<n):h+a+1<=h+min b (n-h):=by cbv
def a1B(L:LtOk M A E s κ k0 ajj)(hk:kindOf st=k0)(hm:ky∈ajj.toList)(ha:∀p∈ar.toList,p∈ajj.toList)
  (hn:bs+n<=ar.size) (hh:hnt<n) (mono:∀i j,i<=j->j<n->Kk κ ar (bs+i)<=Kk κ ar (bs+j))
  (h:∀h,h<=n->(∀i,i<h->bq lft (κ ky) (Kk κ ar (bs+i))=lS)->(∀i,h<=i->i<n->bq lft (κ ky) (Kk κ ar (bs+i))=lT)->Q (bo h) st):wpS M A E s (a1v lft ky ar bs n hnt) Q st:=by
 let t:∀i j,i<=j->j<n->bq lft (κ ky) (Kk κ ar (bs+j))=lS->bq lft (κ ky) (Kk κ ar (bs+i))=lS:=λi j C F H=>by
  let:=mono i j C F
  unfold bq at *;cases lft<;>simp at *<;>lia
 let D:∀i j,i<=j->j<n->bq lft (κ ky) (Kk κ ar (bs+i))=lT->bq lft (κ ky) (Kk κ ar (bs+j))=lT:=λi j C F H=>by grind
 rw[a6V];show ig (a8j L hk hm ha (by lia) ?_);dsimp only;cases e0:bq lft (κ ky) (Kk κ ar (bs+hnt)) with
 |true=>
  rw[if_pos rfl];show ig (iK (iF (I:=λx c d=>d=st/\Ex2 λa b=>An5 (c=(lR,a,b,)) (a<b) (x+1<=b) (hnt+a<n) (bq lft (κ ky) (Kk κ ar (bs+(hnt+a)))=lS))
   (Q:=λc d=>d=st/\Ex2 λa b=>An5 (c=(lR,a,b,)) (a<b) (hnt+a<n) (bq lft (κ ky) (Kk κ ar (bs+(hnt+a)))=lS) (n-hnt<=b\/(hnt+b<n/\bq lft (κ ky) (Kk κ ar (bs+(hnt+b)))=lT))) ?step ?fin ?init) ?post)
  case init=>show(rfl,0,1,rfl,by lia,by lia,by lia,e0)
  case fin=>
   ext c d ⟨rfl,a,b,rfl,m,k,o,f⟩;show(rfl,a,b,rfl,m,o,f,.inl (by lia))
  case step=>
   ext x c d _ G ⟨rfl,a,b,rfl,m,k,o,f⟩;dsimp only
   by_cases hge:b>=n-hnt
   .rw[if_pos hge];show ij (rfl,a,b,rfl,m,o,f,.inl hge)
   .rw[if_neg hge];show ig (a8j L hk hm ha (by lia) ?_);cases e:bq lft (κ ky) (Kk κ ar (bs+(hnt+b))) with
    |true=>
     dsimp only;rw[if_neg (by decide)];show ij (rfl,b,2*b+1,rfl,by lia,by lia,by lia,e)
    |false=>
     dsimp only;rw[if_pos (show (!false)=lS from rfl)];show ij (rfl,a,b,rfl,m,o,f,.inr (by lia,e))
  case post=>
   ext c d ⟨y,a,b,rfl,m,o,f,g⟩;let y:=y.symm;subst y;dsimp only;let q:=hvD m o;let w:hnt+min b (n-hnt)<=n:=by lia
   let v:∀i,i<hnt+a+1->bq lft (κ ky) (Kk κ ar (bs+i))=lS:=λi J=>t i _ (by lia) (by lia) f;let u:∀i,hnt+min b (n-hnt)<=i->i<n->bq lft (κ ky) (Kk κ ar (bs+i))=lT:=λi B z=>by grind
   generalize hnt+a+1=l0 at q v ⊢;generalize hnt+min b (n-hnt)=h0 at q w u ⊢;show ig (iK (iF (I:=λx c d=>d=st/\Ex2 λl r=>An6 (c=(lR,l,r,)) (l<=r) (r<=n) (r-l<=n-x) (∀i,i<l->bq lft (κ ky) (Kk κ ar (bs+i))=lS) (∀i,r<=i->i<n->bq lft (κ ky) (Kk κ ar (bs+i))=lT))
    (Q:=λc d=>d=st/\∃l,An4 (c=(lR,l,l,)) (l<=n) (∀i,i<l->bq lft (κ ky) (Kk κ ar (bs+i))=lS) (∀i,l<=i->i<n->bq lft (κ ky) (Kk κ ar (bs+i))=lT)) ?st2 ?fi2 ?in2) ?po2)
   case in2=>show(rfl,l0,h0,rfl,q,w,by lia,v,u)
   case fi2=>
    ext c d ⟨rfl,l,r,rfl,m,k,o,f,g⟩
    let:l=r:=by lia
    subst this;show(rfl,l,rfl,k,f,g)
   case st2=>
    ext x c d _ G ⟨rfl,l,r,rfl,m,k,o,f,g⟩;dsimp only
    by_cases hge:l>=r
    .rw[if_pos hge]
     let:l=r:=by lia
     subst this;show ij (rfl,l,rfl,k,f,g)
    .rw[if_neg hge];show ig (a8j L hk hm ha (by lia) ?_);cases e:bq lft (κ ky) (Kk κ ar (bs+(l+(r-l) / 2))) with
     |true=>
      dsimp only;rw[if_pos rfl];show ij (rfl,_,r,rfl,(hvN hge).2,k,(hvS G o (hvN hge).1 (hvN hge).2).2,λi J=>t i _ (by lia) (by lia) e,g)
     |false=>
      dsimp only;rw[if_neg (by decide)];show ij (rfl,l,_,rfl,(hvN hge).1,by lia,(hvS G o (hvN hge).1 (hvN hge).2).1,f,λi B z=>D _ i B z e)
   case po2=>
    ext c d ⟨rfl,l,rfl,k,f,g⟩;show ij (h l k f g)
 |false=>
  rw[if_neg (by decide)];show ig (iK (iF (I:=λx c d=>d=st/\Ex2 λa b=>An5 (c=(lR,a,b,)) (a<b) (x+1<=b) (a<=hnt) (bq lft (κ ky) (Kk κ ar (bs+(hnt-a)))=lT))
   (Q:=λc d=>d=st/\Ex2 λa b=>An5 (c=(lR,a,b,)) (a<b) (a<=hnt) (bq lft (κ ky) (Kk κ ar (bs+(hnt-a)))=lT) (hnt+1<=b\/(b<=hnt/\bq lft (κ ky) (Kk κ ar (bs+(hnt-b)))=lS))) ?step ?fin ?init) ?post)
  case init=>show(rfl,0,1,rfl,by lia,by lia,by lia,e0)
  case fin=>
   ext c d ⟨rfl,a,b,rfl,m,k,o,f⟩;show(rfl,a,b,rfl,m,o,f,.inl (by lia))
  case step=>
   ext x c d _ G ⟨rfl,a,b,rfl,m,k,o,f⟩;dsimp only
   by_cases hge:b>=hnt+1
   .rw[if_pos hge];show ij (rfl,a,b,rfl,m,o,f,.inl hge)
   .rw[if_neg hge];show ig (a8j L hk hm ha (by lia) ?_);cases e:bq lft (κ ky) (Kk κ ar (bs+(hnt-b))) with
    |true=>
     dsimp only;rw[if_pos rfl];show ij (rfl,a,b,rfl,m,o,f,.inr (by lia,e))
    |false=>
     dsimp only;rw[if_neg (by decide)];show ij (rfl,b,2*b+1,rfl,by lia,by lia,by lia,e)
  case post=>
   ext c d ⟨y,a,b,rfl,m,o,f,g⟩;let y:=y.symm;subst y;dsimp only;let q:=hvC m o;let w:hnt-a<=n:=by lia
   let v:∀i,i<hnt+1-min b (hnt+1)->bq lft (κ ky) (Kk κ ar (bs+i))=lS:=λi J=>g.elim (λz=>by cbv) λz=>t i _ (by cbv) (by cbv) z.2;let u:=λi B z=>D _ i B z f;generalize hnt+1-min b (hnt+1)=l0 at q v ⊢;generalize hnt-a=h0 at q w u ⊢;show ig (iK (iF (I:=λx c d=>d=st/\Ex2 λl r=>An6 (c=(lR,l,r,)) (l<=r) (r<=n) (r-l<=n-x) (∀i,i<l->bq lft (κ ky) (Kk κ ar (bs+i))=lS) (∀i,r<=i->i<n->bq lft (κ ky) (Kk κ ar (bs+i))=lT))
    (Q:=λc d=>d=st/\∃l,An4 (c=(lR,l,l,)) (l<=n) (∀i,i<l->bq lft (κ ky) (Kk κ ar (bs+i))=lS) (∀i,l<=i->i<n->bq lft (κ ky) (Kk κ ar (bs+i))=lT)) ?st2 ?fi2 ?in2) ?po2)
   case in2=>show(rfl,l0,h0,rfl,q,w,by lia,v,u)
   case fi2=>
    ext c d ⟨rfl,l,r,rfl,m,k,o,f,g⟩
    let:l=r:=by lia
    subst this;show(rfl,l,rfl,k,f,g)
   case st2=>
    ext x c d _ G ⟨rfl,l,r,rfl,m,k,o,f,g⟩;dsimp only
    by_cases hge:l>=r
    .rw[if_pos hge]
     let:l=r:=by lia
     subst this;show ij (rfl,l,rfl,k,f,g)
    .rw[if_neg hge];show ig (a8j L hk hm ha (by lia) ?_);cases e:bq lft (κ ky) (Kk κ ar (bs+(l+(r-l) / 2))) with
     |true=>
      dsimp only;rw[if_pos rfl];show ij (rfl,_,r,rfl,(hvN hge).2,k,(hvS G o (hvN hge).1 (hvN hge).2).2,λi J=>t i _ (by lia) (by lia) e,g)
     |false=>
      dsimp only;rw[if_neg (by decide)];show ij (rfl,l,_,rfl,(hvN hge).1,by lia,(hvS G o (hvN hge).1 (hvN hge).2).1,f,λi B z=>D _ i B z e)
   case po2=>
    ext c d ⟨rfl,l,rfl,k,f,g⟩;show ij (h l k f g)
end
noncomputable def a8k:Nat->StateT SortSt Sem Unit:=sortPriv% PySem.Builtin.setMinGallop
def a3Y(g:Nat):a8k g=modify λs=>SortSt.mk' (kindOf s) (arrOf s) (ip s) g (iJ s):=rfl
noncomputable def a3Z:Array Keyed->Array Keyed->StateT SortSt Sem (Array Keyed):=sortPriv% PySem.Builtin.mergeLo
abbrev dnA(a b o:Array Keyed)(i j:Nat):Array Keyed:=o++a.extract i a.size++b.extract j b.size
abbrev dnB(a b o:Array Keyed)(i j:Nat):Array Keyed:=o++b.extract j b.size++a.extract i a.size
section
variable{A B o:List Keyed}{i j:Nat}{p:Keyed}
abbrev Srt(κ:KF)(l:List Keyed):Prop:=l.Pairwise λx y=>κ x<=κ y
structure MW (κ:KF) (A B o:List Keyed) (i j:Nat):Prop where
 ia:i<=A.length
 jb:j<=B.length
 pm:(o++(A.drop i++B.drop j)).Perm (A++B)
 so:Srt κ o
 ba:∀x∈o,∀y∈A.drop i,κ x<=κ y
 bb:∀x∈o,∀y∈B.drop j,κ x<=κ y
theorem MW.size(W:MW κ A B o i j):o.length=i+j:=by
 let:=W.pm.length_eq
 let b:=W.ia;let a:=W.jb;simp at this
 lia
def drop_get{l:List Keyed}(h:l[n]?=bo p):l.drop n=p::l.drop (n+1):=by
 let(a,e):=aT.mp h;rw[cD a,e]
def a53(h:Srt κ l)(hb:∀x∈l,κ x<=κ p):Srt κ (l++[p]):=by
 show bD.mpr (h,eS _ _,λx b y a=>?_);rw[aS.mp a];show hb x b
def a0Y(h:Srt κ l)(n:Nat):Srt κ (l.drop n):=cu.sublist (d6 n l) h
def MW.pushA(W:MW κ A B o i j)(sa:Srt κ A)(hp:A[i]?=bo p)(hb:∀y∈B.drop j,κ p<=κ y):MW κ A B (o++[p]) (i+1) j:=by
 let c:=drop_get hp;show(((aT.mp hp).1),W.jb,?_,a53 W.so λx b=>W.ba x b p (by simp_all),λx b y a=>?_,λx b y a=>?_)
 .let:=W.pm
  rw[c]at this;o_head this
 .let h||h:=aP.mp b
  .show W.ba x h y (by simp_all)
  .rw[aS.mp h];show (aW.mp (c▸a0Y sa i)).1 y a
 .let h||h:=aP.mp b
  .show W.bb x h y a
  .rw[aS.mp h];show hb y a
def MW.pushB(W:MW κ A B o i j)(sb:Srt κ B)(hp:B[j]?=bo p)(hb:∀y∈A.drop i,κ p<=κ y):MW κ A B (o++[p]) i (j+1):=by
 let c:=drop_get hp;show(W.ia,((aT.mp hp).1),?_,a53 W.so λx b=>W.bb x b p (by simp_all),λx b y a=>?_,λx b y a=>?_)
 .let:=W.pm
  rw[c]at this;show bx.trans ?_ this;rw[bB];show bx.append_left o (show (p::(A.drop i++B.drop _)).Perm _ from fU.symm)
 .let h||h:=aP.mp b
  .show W.ba x h y a
  .rw[aS.mp h];show hb y a
 .let h||h:=aP.mp b
  .show W.bb x h y (by simp_all)
  .rw[aS.mp h];show (aW.mp (c▸a0Y sb j)).1 y a
def take_snoc{l:List Keyed}(h:l[n+k]?=bo p):(l.drop n).take (k+1)=(l.drop n).take k++[p]:=by
 rw[cN,dk,h];rfl
def MW.runA(W:MW κ A B o i j)(sa:Srt κ A):∀k,i+k<=A.length->(∀q z,i<=q->q<i+k->A[q]?=bo z->∀y∈B.drop j,κ z<=κ y)->MW κ A B (o++(A.drop i).take k) (i+k) j:=by ext z0;induction z0 with
 |zero=>ext _ _;o_head W
 |succ k I0=>
  ext hk hz;let e:A[i+k]?=bo A[i+k]:=aU (by lia);rw[take_snoc e,<- bB];show (I0 (by lia) λq z a c=>hz q z a (by lia)).pushA sa e (hz _ _ (by lia) (by lia) e)
def MW.runB(W:MW κ A B o i j)(sb:Srt κ B):∀k,j+k<=B.length->(∀q z,j<=q->q<j+k->B[q]?=bo z->∀y∈A.drop i,κ z<=κ y)->MW κ A B (o++(B.drop j).take k) i (j+k):=by ext z0;induction z0 with
 |zero=>ext _ _;o_head W
 |succ k I0=>
  ext hk hz;let e:B[j+k]?=bo B[j+k]:=aU (by lia);rw[take_snoc e,<- bB];show (I0 (by lia) λq z a c=>hz q z a (by lia)).pushB sb e (hz _ _ (by lia) (by lia) e)
def Mgd(κ:KF)(A B r:List Keyed):Prop:=r.Perm (A++B)/\Srt κ r
def MW.doneA(W:MW κ A B o i j)(sa:Srt κ A)(sb:Srt κ B)(h:i=A.length\/j=B.length):Mgd κ A B (o++A.drop i++B.drop j):=by
 show(by rw[bB];show W.pm,?_);rw[bB];show bD.mpr (W.so,bD.mpr (a0Y sa i,a0Y sb j,λx a y b=>?_),λx a y b=>?_)
 .let rfl||rfl:=h
  .simp_all
  .simp_all
 .let h||h:=aP.mp b
  .show W.ba x a y h
  .show W.bb x a y h
theorem MW.doneB(W:MW κ A B o i j)(sa:Srt κ A)(sb:Srt κ B)(h:i+1=A.length)(hl:∀z,A[A.length-1]?=bo z->∀y∈B,κ y<=κ z):Mgd κ A B (o++B.drop j++A.drop i):=by
 show(?_,?_)
 .rw[bB];show bx.trans (bx.append_left o eT) W.pm
 .rw[bB];let e:A[i]?=bo A[i]:=aU (by cbv);let c:A.drop i=[A[i]]:=by rw[drop_get e,dJ (by lia)]
  show bD.mpr (W.so,bD.mpr (a0Y sb j,a0Y sa i,λx b y a=>?_),λx b y a=>?_)
  .rw[c]at a;rw[aS.mp a];show hl _ (by rw[show A.length-1=i by lia];show e) x (d7 b)
  .let h||h:=aP.mp a
   .show W.bb x b y h
   .show W.ba x b y h
def a1j(h:Srt κ l)(hp:l[n]?=bo p):∀y∈l.drop n,κ p<=κ y:=λy a=>by
 let b:=a0Y h n;rw[drop_get hp]at b a;let rfl||a:=aO.mp a
 .show bM _
 .show (aW.mp b).1 y a
end
abbrev SM:=StateT SortSt Sem
abbrev T1:=Option (Array Keyed)×Array Keyed×Nat×Nat×Nat×Nat
abbrev T2:=Option (Array Keyed)×Array Keyed×Nat×Nat×Nat×Nat×Nat
noncomputable def lo1(a b:Array Keyed)(g:Nat)(o:Array Keyed)(i j ac bc:Nat):SM (ForInStep T1):=do
 let y <- elem' b j
 let x <- elem' a i
 let r <- lt' y x
 match r with
 |some bw=>
  if bw=lS then do
   let y <- elem' b j
   if (j+1==b.size)=lS then pure (.done (bo (dnA a b (o.push y) i (j+1)),o.push y,i,j+1,0,bc+1,))
   else if bc+1>=g then pure (.done (lR,o.push y,i,j+1,0,bc+1,)) else pure (.yield (lR,o.push y,i,j+1,0,bc+1,))
  else do
   let x <- elem' a i
   if (i+1+1==a.size)=lS then pure (.done (bo (dnB a b (o.push x) (i+1) j),o.push x,i+1,j,ac+1,0,))
   else if ac+1>=g then pure (.done (lR,o.push x,i+1,j,ac+1,0,)) else pure (.yield (lR,o.push x,i+1,j,ac+1,0,))
 |_=>pure (.done (bo (dnA a b o i j),o,i,j,ac,bc,))
noncomputable def lo5(a b:Array Keyed)(o:Array Keyed)(i j g ac bc:Nat):SM (ForInStep T2):=do
 let x <- elem' a i
 if (i+1+1==a.size)=lS then pure (.done (bo (dnB a b (o.push x) (i+1) j),o.push x,i+1,j,g,ac,bc,))
 else if (decide (ac<7)&&decide (bc<7))=lS then pure (.done (lR,o.push x,i+1,j,g,ac,bc,)) else pure (.yield (lR,o.push x,i+1,j,g,ac,bc,))
noncomputable def lo4(a b:Array Keyed)(o:Array Keyed)(i j g ac bc:Nat):SM (ForInStep T2):=do
 let y <- elem' b j
 if (j+1==b.size)=lS then pure (.done (bo (dnA a b (o.push y) i (j+1)),o.push y,i,j+1,g,ac,bc,))
 else do
  let x <- elem' a i
  let r <- a1v lS x b (j+1) (b.size-(j+1)) 0
  match r with
  |some k=>
   if k > 0 then
    if (j+1+k==b.size)=lS then pure (.done (bo (dnA a b (o.push y++b.extract (j+1) (j+1+k)) i (j+1+k)),o.push y++b.extract (j+1) (j+1+k),i,j+1+k,g,ac,k,))
    else lo5 a b (o.push y++b.extract (j+1) (j+1+k)) i (j+1+k) g ac k
   else lo5 a b (o.push y) i (j+1) g ac k
  |_=>pure (.done (bo (dnA a b (o.push y) i (j+1)),o.push y,i,j+1,g,ac,bc,))
noncomputable def lo3(a b:Array Keyed)(o:Array Keyed)(i j g ac bc:Nat):SM (ForInStep T2):=do
 a8k g
 let y <- elem' b j
 let r <- a1v lT y a i (a.size-i) 0
 match r with
 |some k=>
  if k > 0 then
   if (i+k+1==a.size)=lS then pure (.done (bo (dnB a b (o++a.extract i (i+k)) (i+k) j),o++a.extract i (i+k),i+k,j,g,k,bc,))
   else if (i+k==a.size)=lS then pure (.done (bo (dnA a b (o++a.extract i (i+k)) (i+k) j),o++a.extract i (i+k),i+k,j,g,k,bc,))
   else lo4 a b (o++a.extract i (i+k)) (i+k) j g k bc
  else lo4 a b o i j g k bc
 |_=>pure (.done (bo (dnA a b o i j),o,i,j,g,ac,bc,))
noncomputable def lo2(a b:Array Keyed)(o:Array Keyed)(i j g ac bc:Nat):SM (ForInStep T2):=
 if g > 1 then lo3 a b o i j (g-1) ac bc else lo3 a b o i j g ac bc
def a4A(a b:Array Keyed):a3Z a b=(do
  liftM (rule "list.sort.merge-lo")
  let y <- elem' b 0
  if (1==b.size)=lS then pure (dnA a b #[y] 0 1)
  else if (0+1==a.size)=lS then pure (dnB a b #[y] 0 1)
  else do
   let st <- get
   let c <- forIn [0:a.size+b.size] ((lR,#[y],0,1,gallopOf st,):Option (Array Keyed)×Array Keyed×Nat×Nat×Nat) λ_ c=>do
    let c1 <- forIn [0:a.size+b.size] ((lR,c.2.1,c.2.2.1,c.2.2.2.1,0,0,):T1) λ_ c1=>lo1 a b c.2.2.2.2 c1.2.1 c1.2.2.1 c1.2.2.2.1 c1.2.2.2.2.1 c1.2.2.2.2.2
    match c1.1 with
    |some r=>pure (ForInStep.done (bo r,c1.2.1,c1.2.2.1,c1.2.2.2.1,c.2.2.2.2,))
    |none=>do
     liftM (rule "list.sort.gallop")
     let c2 <- forIn [0:a.size+b.size] ((lR,c1.2.1,c1.2.2.1,c1.2.2.2.1,c.2.2.2.2+1,c1.2.2.2.2.1,c1.2.2.2.2.2,):T2) λ_ c2=>lo2 a b c2.2.1 c2.2.2.1 c2.2.2.2.1 c2.2.2.2.2.1 c2.2.2.2.2.2.1 c2.2.2.2.2.2.2
     match c2.1 with
     |some r=>pure (ForInStep.done (bo r,c2.2.1,c2.2.2.1,c2.2.2.2.1,c2.2.2.2.2.1,))
     |none=>do
      a8k (c2.2.2.2.2.1+1)
      pure (ForInStep.yield (lR,c2.2.1,c2.2.2.1,c2.2.2.2.1,c2.2.2.2.2.1+1,))
   match c.1 with
   |some r=>pure r
   |none=>jd "internal:list.sort.merge-bound"):=by
 kernel_rfl
structure SG (st st':SortSt):Prop where
 kd:kindOf st'=kindOf st
 ar:arrOf st'=arrOf st
 pe:ip st'=ip st
 fl:iJ st'=iJ st
def SG.refl(st:SortSt):SG st st:=(rfl,rfl,rfl,rfl)
def SG.trans(p:SG x y)(q:SG y z):SG x z:=(q.kd.trans p.kd,q.ar.trans p.ar,q.pe.trans p.pe,q.fl.trans p.fl)
section
variable{a b o:Array Keyed}{i j:Nat}
def a1Z:(dnA a b o i j).toList=o.toList++a.toList.drop i++b.toList.drop j:=by
 simp[cE]
def a2I:(dnB a b o i j).toList=o.toList++b.toList.drop j++a.toList.drop i:=by
 simp[cE]
def a54:(o++a.extract i (i+k)).toList=o.toList++(a.toList.drop i).take k:=by
 simp[d8]
def a0J(h:i<a.size):a.toList[i]?=bo a[i]:=by simp[h]
def a0M(h:i<a.size):Kk κ a i=κ a[i]:=a5n (getElem?_pos ..)
def a13(h:Srt κ a.toList)(hn:i+n<=a.size):∀p q,p<=q->q<n->Kk κ a (i+p)<=Kk κ a (i+q):=λp q b c=>by
 rw[a0M (show i+p<a.size by lia),a0M (show i+q<a.size by lia)]
 by_cases e:p=q
 .simp_all
 .let:=bR.mp h (i+p) (i+q) (by simp;lia) (by simp;lia) (by lia)
  o_head this
end
structure MC (M:Model) (A:Around) (E:Value->Shared->Prop) (s:Shared) (κ:KF) (k0:iP) (ajj a b:Array Keyed):Prop where
 L:LtOk M A E s κ k0 ajj
 ha:∀p∈a.toList,p∈ajj.toList
 hb:∀p∈b.toList,p∈ajj.toList
 sa:Srt κ a.toList
 sb:Srt κ b.toList
 h0:0<a.size
 h1:0<b.size
 hf:∀y∈a.toList,Kk κ b 0<=κ y
 hl:∀z,a.toList[a.toList.length-1]?=bo z->∀y∈b.toList,κ y<=κ z
structure Rdy (κ:KF) (a b o:Array Keyed) (i j:Nat):Prop where
 w:MW κ a.toList b.toList o.toList i j
 hi:i+1<a.size
 hj:j<b.size
section
variable{M:Model}{k0:iP}{ajj a b o:Array Keyed}{st:SortSt}{i j g ac bc:Nat}
def a3x{α:Type}{f:Unit->SM α}{Q:α->SortSt->Prop}(h:wpS M A E s (f ()) Q st):wpS M A E s ((liftM (rule lU):SM Unit) >>= f) Q st:=
 ig (wpS_lift (iW (rfl,h)))
def a0V(a:Array Keyed):a.toList.length=a.size:=by simp
def b71(C:MC M A E s κ k0 ajj a b)(hk:kindOf st=k0)(R:Rdy κ a b o i j)
  (dn:∀r c,Mgd κ a.toList b.toList r.toList->Q (.done (bo r,c,)) st)
  (br:∀o' i' j' x y,Rdy κ a b o' i' j'->i'+j'=i+j+1->Q (.done (lR,o',i',j',x,y,)) st)
  (go:∀o' i' j' x y,Rdy κ a b o' i' j'->i'+j'=i+j+1->Q (.yield (lR,o',i',j',x,y,)) st):wpS M A E s (lo1 a b g o i j ac bc) Q st:=by
 let q:=R.hi;let n:=R.hj;let p:b[j]?=bo b[j]:=getElem?_pos ..;let m:a[i]?=bo a[i]:=getElem?_pos ..;let h:=a0J n;let l:=a0J (a:=a) (i:=i) (by cbv);unfold lo1;show ig (a0A p (ig (a0A m (ig (C.L _ _ (C.hb _ (bp h)) (C.ha _ (bp l)) st _ hk ?_)))));dsimp only
 by_cases c:κ b[j]<κ a[i]
 .rw[if_pos (decide_eq_true c)];show ig (a0A p ?_);let d:=R.w.pushB C.sb h λy k=>bK (ci c) (a1j C.sa l y k);rw[<- bS]at d
  by_cases e:j+1=b.size
  .rw[if_pos ↑e];show ij (dn _ _ (by rw[a1Z];show d.doneA C.sa C.sb (.inr (by rw[a0V];show e))))
  .rw[if_neg ↑e];let f:Rdy κ a b (o.push b[j]) i (j+1):=(d,q,by lia)
   split
   .show ij (br _ _ _ _ _ f (by lia))
   .show ij (go _ _ _ _ _ f (by lia))
 .rw[if_neg ↑c];show ig (a0A m ?_);let d:=R.w.pushA C.sa l λy k=>bK (d9.mp c) (a1j C.sb h y k);rw[<- bS]at d
  by_cases e:i+1+1=a.size
  .rw[if_pos ↑e];show ij (dn _ _ (by rw[a2I];show d.doneB C.sa C.sb (by rw[a0V];show e) C.hl))
  .rw[if_neg ↑e];let f:Rdy κ a b (o.push a[i]) (i+1) j:=(d,by lia,n)
   split
   .show ij (br _ _ _ _ _ f (by lia))
   .show ij (go _ _ _ _ _ f (by lia))
structure G2 (st:SortSt) (κ:KF) (a b:Array Keyed) (n:Nat) (Q:ForInStep T2->SortSt->Prop):Prop where
 dn:∀r c st',SG st st'->Mgd κ a.toList b.toList r.toList->Q (.done (bo r,c,)) st'
 br:∀o' i' j' x y z st',SG st st'->Rdy κ a b o' i' j'->n<i'+j'->Q (.done (lR,o',i',j',x,y,z,)) st'
 go:∀o' i' j' x y z st',SG st st'->Rdy κ a b o' i' j'->n<i'+j'->Q (.yield (lR,o',i',j',x,y,z,)) st'
def b5H(C:MC M A E s κ k0 ajj a b)(R:Rdy κ a b o i j)(hle:∀y∈b.toList.drop j,Kk κ a i<=κ y)(H:G2 st κ a b n Q)(hn:n<=i+j):wpS M A E s (lo5 a b o i j g ac bc) Q st:=by
 let l:=R.hi;let h:a[i]?=bo a[i]:=getElem?_pos ..;rw[a0M (show i<a.size by lia)]at hle;unfold lo5;show ig (a0A h ?_);let c:=R.w.pushA C.sa (a0J (a:=a) (i:=i) (by lia)) hle;rw[<- bS]at c
 by_cases e:i+1+1=a.size
 .rw[if_pos ↑e];show ij (H.dn _ _ _ (SG.refl _) (a2I▸c.doneB C.sa C.sb (by rw[a0V];show e) C.hl))
 .rw[if_neg ↑e];let d:Rdy κ a b (o.push a[i]) (i+1) j:=(c,by lia,R.hj)
  split
  .show ij (H.br _ _ _ _ _ _ _ (SG.refl _) d (by lia))
  .show ij (H.go _ _ _ _ _ _ _ (SG.refl _) d (by lia))
def a1N{l:List Keyed}(h:y∈l.drop n):∃q,n<=q/\q<l.length/\l[q]?=bo y:=by
 let(m,a):=cj h;rw[dk]at a;show(n+m,by lia,(aT.mp a).1,a)
def a2Z(h:a.toList[q]?=bo z):Kk κ a q=κ z:=a5n (by simp_all)
def b5I(C:MC M A E s κ k0 ajj a b)(hk:kindOf st=k0)(R:Rdy κ a b o i j)(hle:∀y∈a.toList.drop i,Kk κ b j<=κ y)(H:G2 st κ a b n Q)(hn:n<=i+j):wpS M A E s (lo4 a b o i j g ac bc) Q st:=by
 let m:=R.hi;let t:=R.hj;let x:b[j]?=bo b[j]:=getElem?_pos ..;let F:a[i]?=bo a[i]:=getElem?_pos ..;let p:=a0J (a:=a) (i:=i) (by lia);rw[a0M t]at hle;unfold lo4;show ig (a0A x ?_);let d:=R.w.pushB C.sb (a0J t) hle;rw[<- bS]at d
 by_cases e:j+1=b.size
 .rw[if_pos ↑e];show ij (H.dn _ _ _ (SG.refl _) (a1Z▸d.doneA C.sa C.sb (.inr (by rw[a0V];show e))))
 .rw[if_neg ↑e];show ig (a0A F (ig (a1B C.L hk (C.ha _ (bp p)) C.hb (by lia) (by lia) (a13 C.sb (by lia)) λk G v r=>?_)));dsimp only;let c:∀y∈b.toList.drop (j+1+k),Kk κ a i<=κ y:=λy h=>by
   let(q,B,u,l):=a1N h;rw[a0V]at u
   let:=r (q-(j+1)) (by lia) (by lia)
   rw[show j+1+(q-(j+1))=q by lia,a2Z l]at this;simp[bq]at this;rw[a0M (show i<a.size by lia)];cbv
  split
  .let f:=d.runB C.sb k (by rw[a0V];lia) λq z B u l y h=>by
    let:=v (q-(j+1)) (by lia)
    rw[show j+1+(q-(j+1))=q by lia,a2Z l]at this;simp[bq]at this;show bK (ci this) (a1j C.sa p y h)
   rw[<- a54]at f
   by_cases e2:j+1+k=b.size
   .rw[if_pos ↑e2];show ij (H.dn _ _ _ (SG.refl _) (a1Z▸f.doneA C.sa C.sb (.inr (by rw[a0V];show e2))))
   .rw[if_neg ↑e2];show b5H C (f,m,by lia) c H (by lia)
  .let:k=0:=by lia
   subst this;show b5H C (d,m,by lia) c H (by lia)
def b72(C:MC M A E s κ k0 ajj a b)(hk:kindOf st=k0)(R:Rdy κ a b o i j)(H:G2 st κ a b n Q)(hn:n<=i+j):wpS M A E s (lo3 a b o i j g ac bc) Q st:=by
 let I:=R.hi;let h:=R.hj;let G:b[j]?=bo b[j]:=getElem?_pos ..;let B:=a0J h;unfold lo3;rw[a3Y];show ig (iQ ?_);let m:SG st (SortSt.mk' _ (arrOf st) _ g _):=(rfl,rfl,rfl,rfl);let e:kindOf (SortSt.mk' _ (arrOf st) (ip st) g (iJ st))=k0:=hk;generalize SortSt.mk' (kindOf st) (arrOf st) (ip st) g (iJ st)=st1 at m e;let l:G2 st1 κ a b n Q:=(λr c d g=>H.dn r c d (m.trans g),λ_ _ _ _ _ _ d g=>H.br _ _ _ _ _ _ d (m.trans g),λ_ _ _ _ _ _ d g=>H.go _ _ _ _ _ _ d (m.trans g));show ig (a0A G (ig (a1B C.L e (C.hb _ (bp B)) C.ha (by lia) (by lia) (a13 C.sa (by lia)) λk J D x=>?_)));dsimp only;let f:∀y∈a.toList.drop (i+k),Kk κ b j<=κ y:=λy t=>by
  let(q,F,v,u):=a1N t;rw[a0V]at v
  let:=x (q-i) (by lia) (by lia)
  rw[show i+(q-i)=q by lia,a2Z u]at this;simp[bq]at this;rw[a0M h]
  lia
 split
 .let p:=R.w.runA C.sa k (by rw[a0V];lia) λq z F v u y t=>by
   let:=D (q-i) (by lia)
   rw[show i+(q-i)=q by lia,a2Z u]at this;simp[bq]at this;show bK this (a1j C.sb B y t)
  rw[<- a54]at p
  by_cases e1:i+k+1=a.size
  .rw[if_pos ↑e1];show ij (l.dn _ _ _ (SG.refl _) (a2I▸p.doneB C.sa C.sb (by rw[a0V];show e1) C.hl))
  .rw[if_neg ↑e1]
   by_cases e2:i+k=a.size
   .rw[if_pos ↑e2];show ij (l.dn _ _ _ (SG.refl _) (a1Z▸p.doneA C.sa C.sb (.inl (by rw[a0V];show e2))))
   .rw[if_neg ↑e2];show b5I C e (p,by lia,h) f l (by lia)
 .let:k=0:=by lia
  subst this;show b5I C e (R.w,I,h) f l (by lia)
def b73(C:MC M A E s κ k0 ajj a b)(hk:kindOf st=k0)(R:Rdy κ a b o i j)(H:G2 st κ a b n Q)(hn:n<=i+j):wpS M A E s (lo2 a b o i j g ac bc) Q st:=by
 unfold lo2
 split<;>show b72 C hk R H hn
def b0l(C:MC M A E s κ k0 ajj a b):MW κ a.toList b.toList [b[0]'C.h1] 0 1:=by
 let e:MW κ a.toList b.toList [] 0 0:=(bv _,bv _,by simp,.nil,λx h=>by simp at h,λx h=>by simp at h);show e.pushB C.sb (a0J C.h1) λy d=>by rw[<- a0M (κ:=κ) C.h1];show C.hf y (by simp_all)
def a8l(C:MC M A E s κ k0 ajj a b)(hk:kindOf st=k0)
  (h:∀r st',SG st st'->Mgd κ a.toList b.toList r.toList->Q r st'):wpS M A E s (a3Z a b) Q st:=by
 let h0:=C.h0;let h1:=C.h1;rw[a4A];show a3x (ig (a0A (getElem?_pos b 0 C.h1) ?_));let w0:=b0l C
 by_cases e1:1=b.size
 .rw[if_pos ↑e1];show ij (h _ _ (SG.refl _) (a1Z▸w0.doneA C.sa C.sb (.inr (by grind))))
 rw[if_neg ↑e1]
 by_cases e2:0+1=a.size
 .rw[if_pos ↑e2];show ij (h _ _ (SG.refl _) (a2I▸w0.doneB C.sa C.sb (by rw[a0V];show e2) C.hl))
 rw[if_neg ↑e2];show ig (iU ?_);let R0:Rdy κ a b #[b[0]] 0 1:=(w0,by lia,by lia);show ig (iK (iF (I:=λx c e=>∃o i j g,c=(lR,o,i,j,g,)/\SG st e/\Rdy κ a b o i j/\x<i+j)
  (Q:=λc e=>Ex2 λr F=>An3 (c=(bo r,F,)) (SG st e) (Mgd κ a.toList b.toList r.toList)) ?step ?fin (_,_,_,_,rfl,SG.refl _,R0,by lia)) ?post)
 case post=>
  ext c e ⟨r,F,rfl,H,m⟩;show ij (h r e H m)
 case fin=>
  ext c e ⟨o,i,j,g,rfl,H,R,hx⟩
  let:=R.hi
  let:=R.hj
  lia
 case step=>
  ext x c e _ hx ⟨o,i,j,g,rfl,H,R,hxi⟩;dsimp only;show ig (iK (iF (I:=λy c f=>∃D l k J T,c=(lR,D,l,k,J,T,)/\f=e/\Rdy κ a b D l k/\i+j+y<=l+k)
   (Q:=λc f=>f=e/\((∃r F,c=(bo r,F,)/\Mgd κ a.toList b.toList r.toList)\/∃D l k J T,c=(lR,D,l,k,J,T,)/\Rdy κ a b D l k/\i+j<=l+k)) ?st1 ?fi1 (_,_,_,_,_,rfl,rfl,R,by lia)) ?po1)
  case fi1=>
   ext c f ⟨D,l,k,J,T,rfl,rfl,L,hy⟩
   let:=L.hi
   let:=L.hj
   lia
  case st1=>
   ext y c f _ hy ⟨D,l,k,J,T,rfl,rfl,L,hyi⟩;dsimp only;show b71 C (H.kd.trans hk) L (λr c m=>(rfl,.inl (r,c,rfl,m))) (λo2 i2 j2 u v X V=>(rfl,.inr (_,_,_,_,_,rfl,X,by lia))) λo2 i2 j2 u v X V=>(_,_,_,_,_,rfl,rfl,X,by lia)
  case po1=>
   ext c f ⟨rfl,⟨r,F,rfl,m⟩ |⟨D,l,k,J,T,rfl,L,hij⟩⟩
   .show ij (r,_,rfl,H,m)
   .dsimp only;show a3x ?_;show ig (iK (iF (I:=λy c B=>∃G q p S z t,c=(lR,G,q,p,S,z,t,)/\SG st B/\Rdy κ a b G q p/\l+k+y<=q+p)
     (Q:=λc B=>SG st B/\((∃r F,c=(bo r,F,)/\Mgd κ a.toList b.toList r.toList)\/∃G q p S z t,c=(lR,G,q,p,S,z,t,)/\Rdy κ a b G q p/\l+k<q+p)) ?f ?fi2 (_,_,_,_,_,_,rfl,H,L,by lia)) ?po2)
    case fi2=>
     ext c B ⟨G,q,p,S,z,t,rfl,d,N,hy⟩
     let:=N.hi
     let:=N.hj
     lia
    case f=>
     ext y c B _ hy ⟨G,q,p,S,z,t,rfl,d,N,hyi⟩;dsimp only;show b73 C (d.kd.trans hk) N (λr c W U m=>(d.trans U,.inl (r,c,rfl,m)),λo4 i4 j4 u v w W U Y V=>(d.trans U,.inr (_,_,_,_,_,_,rfl,Y,by lia)),λo4 i4 j4 u v w W U Y V=>(_,_,_,_,_,_,rfl,d.trans U,Y,by lia)) (aQ _)
    case po2=>
     ext c B ⟨d,⟨r,F,rfl,m⟩ |⟨G,q,p,S,z,t,rfl,N,V⟩⟩
     .show ij (r,_,rfl,d,m)
     .dsimp only;show ig (iQ (ij (_,_,_,_,rfl,(d.kd,d.ar,d.pe,d.fl),N,by lia)))
end
noncomputable def a30:Array Keyed->Array Keyed->SM (Array Keyed):=sortPriv% PySem.Builtin.mergeHi
abbrev hnA(a b o:Array Keyed)(u v:Nat):Array Keyed:=a.extract 0 u++b.extract 0 v++o.reverse
abbrev hnB(a b o:Array Keyed)(u v:Nat):Array Keyed:=b.extract 0 v++a.extract 0 u++o.reverse
abbrev H1:=Option (Array Keyed)×Nat×Nat×Array Keyed×Nat×Nat
abbrev H2:=Option (Array Keyed)×Nat×Nat×Array Keyed×Nat×Nat×Nat
noncomputable def hi1(a b:Array Keyed)(g u v:Nat)(o:Array Keyed)(ac bc:Nat):SM (ForInStep H1):=do
 let y <- elem' b (v-1)
 let x <- elem' a (u-1)
 let r <- lt' y x
 match r with
 |some aw=>
  if aw=lS then do
   let x <- elem' a (u-1)
   if (u-1==0)=lS then pure (.done (bo (hnA a b (o.push x) (u-1) v),u-1,v,o.push x,ac+1,0,))
   else if ac+1>=g then pure (.done (lR,u-1,v,o.push x,ac+1,0,)) else pure (.yield (lR,u-1,v,o.push x,ac+1,0,))
  else do
   let y <- elem' b (v-1)
   if (v-1==1)=lS then pure (.done (bo (hnB a b (o.push y) u (v-1)),u,v-1,o.push y,0,bc+1,))
   else if bc+1>=g then pure (.done (lR,u,v-1,o.push y,0,bc+1,)) else pure (.yield (lR,u,v-1,o.push y,0,bc+1,))
 |_=>pure (.done (bo (hnA a b o u v),u,v,o,ac,bc,))
noncomputable def hi5(a b:Array Keyed)(u v:Nat)(o:Array Keyed)(g ac bc:Nat):SM (ForInStep H2):=do
 let x <- elem' a (u-1)
 if (u-1==0)=lS then pure (.done (bo (hnA a b (o.push x) (u-1) v),u-1,v,o.push x,g,ac,bc,))
 else if (decide (ac<7)&&decide (bc<7))=lS then pure (.done (lR,u-1,v,o.push x,g,ac,bc,)) else pure (.yield (lR,u-1,v,o.push x,g,ac,bc,))
noncomputable def hi4(a b:Array Keyed)(u v:Nat)(o:Array Keyed)(g ac bc:Nat):SM (ForInStep H2):=do
 let y <- elem' b (v-1)
 if (v-1==1)=lS then pure (.done (bo (hnB a b (o.push y) u (v-1)),u,v-1,o.push y,g,ac,bc,))
 else do
  let x <- elem' a (u-1)
  let r <- a1v lS x b 0 (v-1) (v-1-1)
  match r with
  |some p=>
   if v-1-p > 0 then
    if (p==1)=lS then pure (.done (bo (hnB a b (o.push y++(b.extract p (v-1)).reverse) u p),u,p,o.push y++(b.extract p (v-1)).reverse,g,ac,v-1-p,))
    else if (p==0)=lS then pure (.done (bo (hnA a b (o.push y++(b.extract p (v-1)).reverse) u p),u,p,o.push y++(b.extract p (v-1)).reverse,g,ac,v-1-p,))
    else hi5 a b u p (o.push y++(b.extract p (v-1)).reverse) g ac (v-1-p)
   else hi5 a b u (v-1) (o.push y) g ac (v-1-p)
  |_=>pure (.done (bo (hnA a b (o.push y) u (v-1)),u,v-1,o.push y,g,ac,bc,))
noncomputable def hi3(a b:Array Keyed)(u v:Nat)(o:Array Keyed)(g ac bc:Nat):SM (ForInStep H2):=do
 a8k g
 let y <- elem' b (v-1)
 let r <- a1v lT y a 0 u (u-1)
 match r with
 |some p=>
  if u-p > 0 then
   if (p==0)=lS then pure (.done (bo (hnA a b (o++(a.extract p u).reverse) p v),p,v,o++(a.extract p u).reverse,g,u-p,bc,))
   else hi4 a b p v (o++(a.extract p u).reverse) g (u-p) bc
  else hi4 a b u v o g (u-p) bc
 |_=>pure (.done (bo (hnA a b o u v),u,v,o,g,ac,bc,))
noncomputable def hi2(a b:Array Keyed)(u v:Nat)(o:Array Keyed)(g ac bc:Nat):SM (ForInStep H2):=
 if g > 1 then hi3 a b u v o (g-1) ac bc else hi3 a b u v o g ac bc
def a4B(a b:Array Keyed):a30 a b=(do
  liftM (rule "list.sort.merge-hi")
  let x <- elem' a (a.size-1)
  if (a.size-1==0)=lS then pure (hnA a b #[x] (a.size-1) b.size)
  else if (b.size==1)=lS then pure (hnB a b #[x] (a.size-1) b.size)
  else do
   let st <- get
   let c <- forIn [0:a.size+b.size] ((lR,a.size-1,b.size,#[x],gallopOf st,):Option (Array Keyed)×Nat×Nat×Array Keyed×Nat) λ_ c=>do
    let c1 <- forIn [0:a.size+b.size] ((lR,c.2.1,c.2.2.1,c.2.2.2.1,0,0,):H1) λ_ c1=>hi1 a b c.2.2.2.2 c1.2.1 c1.2.2.1 c1.2.2.2.1 c1.2.2.2.2.1 c1.2.2.2.2.2
    match c1.1 with
    |some r=>pure (ForInStep.done (bo r,c1.2.1,c1.2.2.1,c1.2.2.2.1,c.2.2.2.2,))
    |none=>do
     liftM (rule "list.sort.gallop")
     let c2 <- forIn [0:a.size+b.size] ((lR,c1.2.1,c1.2.2.1,c1.2.2.2.1,c.2.2.2.2+1,c1.2.2.2.2.1,c1.2.2.2.2.2,):H2) λ_ c2=>hi2 a b c2.2.1 c2.2.2.1 c2.2.2.2.1 c2.2.2.2.2.1 c2.2.2.2.2.2.1 c2.2.2.2.2.2.2
     match c2.1 with
     |some r=>pure (ForInStep.done (bo r,c2.2.1,c2.2.2.1,c2.2.2.2.1,c2.2.2.2.2.1,))
     |none=>do
      a8k (c2.2.2.2.2.1+1)
      pure (ForInStep.yield (lR,c2.2.1,c2.2.2.1,c2.2.2.2.1,c2.2.2.2.2.1+1,))
   match c.1 with
   |some r=>pure r
   |none=>jd "internal:list.sort.merge-bound"):=by
 kernel_rfl
section
variable{A B o:List Keyed}{u v:Nat}{p:Keyed}
structure MH (κ:KF) (A B o:List Keyed) (u v:Nat):Prop where
 ia:u<=A.length
 jb:v<=B.length
 pm:(A.take u++B.take v++o.reverse).Perm (A++B)
 so:Srt κ o.reverse
 ba:∀x∈o,∀y∈A.take u,κ y<=κ x
 bb:∀x∈o,∀y∈B.take v,κ y<=κ x
def a5o{l:List Keyed}(h:l[n]?=bo p):l.take (n+1)=l.take n++[p]:=by
 rw[cN,h];rfl
def a1k(h:Srt κ l)(n:Nat):Srt κ (l.take n):=cu.sublist (dX n l) h
def a1C(h:Srt κ l)(e:l[n]?=bo p):∀y∈l.take (n+1),κ y<=κ p:=λy a=>by
 let b:=a1k h (n+1);rw[a5o e]at b a;let a||a:=aP.mp a
 .show (bD.mp b).2.2 y a p (by simp)
 .simp_all
def MH.pushA(W:MH κ A B o (u+1) v)(sa:Srt κ A)(hp:A[u]?=bo p)(hb:∀y∈B.take v,κ y<=κ p):MH κ A B (o++[p]) u v:=by
 let c:=a5o hp;let d:=(aT.mp hp).1;show(by lia,W.jb,?_,?_,λx b y a=>?_,λx b y a=>?_)
 .let:=W.pm
  rw[c]at this;show bx.trans ?_ this;rw[cW,dq];simp;show bx.append_left _ fU
 .rw[cW,dq,eU];show aW.mpr (λx b=>?_,W.so);show W.ba x ↑b p (by rw[c];simp)
 .let h||h:=aP.mp b
  .show W.ba x h y (by simp_all)
  .rw[aS.mp h];show a1C sa hp y (by simp_all)
 .let h||h:=aP.mp b
  .show W.bb x h y a
  .simp_all
def MH.pushB(W:MH κ A B o u (v+1))(sb:Srt κ B)(hp:B[v]?=bo p)(hb:∀y∈A.take u,κ y<=κ p):MH κ A B (o++[p]) u v:=by
 let c:=a5o hp;let d:=(aT.mp hp).1;show(W.ia,by lia,?_,?_,λx b y a=>?_,λx b y a=>?_)
 .let:=W.pm
  rw[c]at this;show bx.trans ?_ this;rw[cW,dq];simp only[bB];show bx.refl _
 .rw[cW,dq,eU];show aW.mpr (λx b=>?_,W.so);show W.bb x (by simp_all) p (by simp_all)
 .let h||h:=aP.mp b
  .show W.ba x h y a
  .rw[aS.mp h];show hb y a
 .let h||h:=aP.mp b
  .show W.bb x h y (by simp_all)
  .rw[aS.mp h];show a1C sb hp y (by simp_all)
def MH.runA(sa:Srt κ A):∀(k:Nat){o:List Keyed},MH κ A B o (u+k) v->(∀q z,u<=q->q<u+k->A[q]?=bo z->∀y∈B.take v,κ y<=κ z)->MH κ A B (o++((A.drop u).take k).reverse) u v:=by ext z0;induction z0 with
 |zero=>ext o W _;o_head W
 |succ k I0=>
  ext o W hz;let a:u+k<A.length:=by let:=W.ia;lia
  let e:=aU a;rw[take_snoc e,cW,dq,<- bB];show (I0 (MH.pushA W sa e (hz _ _ (by simp) (by simp) e)) λq z c f=>hz q z c (by lia))
def MH.runB(sb:Srt κ B):∀(k:Nat){o:List Keyed},MH κ A B o u (v+k)->(∀q z,v<=q->q<v+k->B[q]?=bo z->∀y∈A.take u,κ y<=κ z)->MH κ A B (o++((B.drop v).take k).reverse) u v:=by ext z0;induction z0 with
 |zero=>ext o W _;o_head W
 |succ k I0=>
  ext o W hz;let a:v+k<B.length:=by let:=W.jb;lia
  let e:=aU a;rw[take_snoc e,cW,dq,<- bB];show (I0 (MH.pushB W sb e (hz _ _ (by simp) (by simp) e)) λq z c f=>hz q z c (by lia))
def MH.doneA(W:MH κ A B o u v)(sa:Srt κ A)(sb:Srt κ B)(h:u=0\/v=0):Mgd κ A B (A.take u++B.take v++o.reverse):=by
 show(W.pm,?_);show bD.mpr (bD.mpr (a1k sa u,a1k sb v,λx b y c=>?_),W.so,λx b y c=>?_)
 .let rfl||rfl:=h
  .simp_all
  .simp_all
 .let a:y∈o:=↑c
  let h||h:=aP.mp b
  .show W.ba y a x h
  .show W.bb y a x h
def MH.doneB(W:MH κ A B o u 1)(sa:Srt κ A)(sb:Srt κ B)(hf:∀z,B[0]?=bo z->∀y∈A,κ z<=κ y):Mgd κ A B (B.take 1++A.take u++o.reverse):=by
 show(?_,?_)
 .show bx.trans ?_ W.pm;show bx.append_right _ eT
 .show bD.mpr (bD.mpr (a1k sb 1,a1k sa u,λx a y c=>?_),W.so,λx a y c=>?_)
  .cases B with
   |nil=>simp at a
   |cons z B=>
    let:x=z:=↑a
    subst this;show hf x rfl y (dr c)
  .let b:y∈o:=↑c
   let h||h:=aP.mp a
   .show W.bb y b x h
   .show W.ba y b x h
end
section
variable{a b o:Array Keyed}{u v:Nat}
def a14:(hnA a b o u v).toList=a.toList.take u++b.toList.take v++o.toList.reverse:=by
 simp
def a2J:(hnB a b o u v).toList=b.toList.take v++a.toList.take u++o.toList.reverse:=by
 simp
def a55:(o++(a.extract p u).reverse).toList=o.toList++((a.toList.drop p).take (u-p)).reverse:=by
 simp[d8]
end
structure RdH (κ:KF) (a b o:Array Keyed) (u v:Nat):Prop where
 w:MH κ a.toList b.toList o.toList u v
 hu:1<=u
 hv:2<=v
section
variable{M:Model}{k0:iP}{ajj a b o:Array Keyed}{st:SortSt}{u v g ac bc:Nat}
def RdH.ua(R:RdH κ a b o u v):u<=a.size:=by let:=R.w.ia;rwa [a0V]at this
def RdH.vb(R:RdH κ a b o u v):v<=b.size:=by let:=R.w.jb;rwa [a0V]at this
def MC.first(C:MC M A E s κ k0 ajj a b):∀z,b.toList[0]?=bo z->∀y∈a.toList,κ z<=κ y:=λz c y d=>by
 let:=C.hf y d
 rwa [a2Z c]at this
def b74(C:MC M A E s κ k0 ajj a b)(hk:kindOf st=k0)(R:RdH κ a b o (u+1) (v+1))
  (dn:∀r c,Mgd κ a.toList b.toList r.toList->Q (.done (bo r,c,)) st)
  (br:∀o' u' v' x y,RdH κ a b o' u' v'->u'+v'=u+v+1->Q (.done (lR,u',v',o',x,y,)) st)
  (go:∀o' u' v' x y,RdH κ a b o' u' v'->u'+v'=u+v+1->Q (.yield (lR,u',v',o',x,y,)) st):wpS M A E s (hi1 a b g (u+1) (v+1) o ac bc) Q st:=by
 let q:=R.ua;let t:=R.vb;let p:=R.hv;let l:b[v]?=bo b[v]:=getElem?_pos ..;let n:a[u]?=bo a[u]:=getElem?_pos ..;let j:=a0J (a:=b) (i:=v) (by lia);let k:=a0J (a:=a) (i:=u) (by lia);unfold hi1;simp only[eV];show ig (a0A l (ig (a0A n (ig (C.L _ _ (C.hb _ (bp j)) (C.ha _ (bp k)) st _ hk ?_)))));dsimp only
 by_cases c:κ b[v]<κ a[u]
 .rw[if_pos (decide_eq_true c)];show ig (a0A n ?_);let d:=R.w.pushA C.sa k λy h=>bK (a1C C.sb j y h) (ci c);rw[<- bS]at d
  by_cases e:u=0
  .rw[if_pos ↑e];show ij (dn _ _ (a14▸d.doneA C.sa C.sb (.inl e)))
  .rw[if_neg ↑e];let f:RdH κ a b (o.push a[u]) u (v+1):=(d,by lia,p)
   split
   .show ij (br _ _ _ _ _ f (by lia))
   .show ij (go _ _ _ _ _ f (by lia))
 .rw[if_neg ↑c];show ig (a0A l ?_);let d:=R.w.pushB C.sb j λy h=>bK (a1C C.sa k y h) (d9.mp c);rw[<- bS]at d
  by_cases e:v=1
  .rw[if_pos ↑e];subst e;show ij (dn _ _ (a2J▸d.doneB C.sa C.sb C.first))
  .rw[if_neg ↑e];let f:RdH κ a b (o.push b[v]) (u+1) v:=(d,R.hu,by lia)
   split
   .show ij (br _ _ _ _ _ f (by lia))
   .show ij (go _ _ _ _ _ f (by lia))
structure HG (st:SortSt) (κ:KF) (a b:Array Keyed) (n:Nat) (Q:ForInStep H2->SortSt->Prop):Prop where
 dn:∀r c st',SG st st'->Mgd κ a.toList b.toList r.toList->Q (.done (bo r,c,)) st'
 br:∀o' u' v' x y z st',SG st st'->RdH κ a b o' u' v'->u'+v'<n->Q (.done (lR,u',v',o',x,y,z,)) st'
 go:∀o' u' v' x y z st',SG st st'->RdH κ a b o' u' v'->u'+v'<n->Q (.yield (lR,u',v',o',x,y,z,)) st'
def b5J(C:MC M A E s κ k0 ajj a b)(R:RdH κ a b o (u+1) v)(hle:∀y∈b.toList.take v,κ y<=Kk κ a u)(H:HG st κ a b n Q)(hn:u+v<n):wpS M A E s (hi5 a b (u+1) v o g ac bc) Q st:=by
 let k:=R.ua;let j:a[u]?=bo a[u]:=getElem?_pos ..;rw[a0M (show u<a.size by lia)]at hle;unfold hi5;simp only[eV];show ig (a0A j ?_);let c:=R.w.pushA C.sa (a0J (a:=a) (i:=u) (by lia)) hle;rw[<- bS]at c
 by_cases e:u=0
 .rw[if_pos ↑e];show ij (H.dn _ _ _ (SG.refl _) (a14▸c.doneA C.sa C.sb (.inl e)))
 .rw[if_neg ↑e];let d:RdH κ a b _ u v:=(c,by lia,R.hv)
  split
  .show ij (H.br _ _ _ _ _ _ _ (SG.refl _) d (by lia))
  .show ij (H.go _ _ _ _ _ _ _ (SG.refl _) d (by lia))
def a1O{l:List Keyed}(h:y∈l.take n):∃q,q<n/\l[q]?=bo y:=by
 let(m,a):=cj h;let b:=(aT.mp a).1;rw[ej]at a
 split at a
 .show(m,by cbv,a)
 .grind
def b5K(C:MC M A E s κ k0 ajj a b)(hk:kindOf st=k0)(R:RdH κ a b o (u+1) (v+1))(hle:∀y∈a.toList.take (u+1),κ y<=Kk κ b v)(H:HG st κ a b n Q)(hn:u+v<n):wpS M A E s (hi4 a b (u+1) (v+1) o g ac bc) Q st:=by
 let I:=R.ua;let G:=R.vb;let F:=R.hv;let B:b[v]?=bo b[v]:=getElem?_pos ..;let t:a[u]?=bo a[u]:=getElem?_pos ..;let r:=a0J (a:=a) (i:=u) (by lia);rw[a0M (show v<b.size by lia)]at hle;unfold hi4;simp only[eV];show ig (a0A B ?_);let d:=R.w.pushB C.sb (a0J (a:=b) (i:=v) (by lia)) hle;rw[<- bS]at d
 by_cases e:v=1
 .rw[if_pos ↑e];subst e;show ij (H.dn _ _ _ (SG.refl _) (a2J▸d.doneB C.sa C.sb C.first))
 .rw[if_neg ↑e];show ig (a0A t (ig (a1B C.L hk (C.ha _ (bp r)) C.hb (by lia) (by lia) (a13 C.sb (by lia)) λp D j h=>?_)));dsimp only;simp only[cX]at j h;let c:∀y∈b.toList.take p,κ y<=Kk κ a u:=λy k=>by
   let(q,m,l):=a1O k
   let:=j q m
   rw[a2Z l]at this;simp[bq]at this;rw[a0M (show u<a.size by lia)]
   lia
  split
  .let f:=MH.runB C.sb (v-p) (by rw[show p+(v-p)=v by lia];show d) λq z m J l y k=>by
    let:=h q m (by lia)
    rw[a2Z l]at this;simp[bq]at this;show bK (a1C C.sa r y k) this
   rw[<- a55]at f
   by_cases e1:p=1
   .rw[if_pos ↑e1];subst e1;show ij (H.dn _ _ _ (SG.refl _) (a2J▸f.doneB C.sa C.sb C.first))
   .rw[if_neg ↑e1]
    by_cases e2:p=0
    .rw[if_pos ↑e2];show ij (H.dn _ _ _ (SG.refl _) (a14▸f.doneA C.sa C.sb (.inr e2)))
    .rw[if_neg ↑e2];show b5J C (f,by lia,by lia) c H (by lia)
  .let:p=v:=by lia
   subst this;show b5J C (d,by lia,by lia) c H (by cbv)
def b75(C:MC M A E s κ k0 ajj a b)(hk:kindOf st=k0)(R:RdH κ a b o (u+1) (v+1))(H:HG st κ a b n Q)(hn:u+v<n):wpS M A E s (hi3 a b (u+1) (v+1) o g ac bc) Q st:=by
 let S:=R.ua;let N:=R.vb;let I:b[v]?=bo b[v]:=getElem?_pos ..;let D:=a0J (a:=b) (i:=v) (by lia);unfold hi3;rw[a3Y];show ig (iQ ?_);let h:SG st (SortSt.mk' _ _ _ g _):=(rfl,rfl,rfl,rfl);let e:kindOf (SortSt.mk' _ (arrOf st) (ip st) g (iJ st))=k0:=hk;generalize SortSt.mk' _ (arrOf st) (ip st) g (iJ st)=st1 at h e;let l:HG st1 κ a b n Q:=(λr c d g=>H.dn r c d (h.trans g),λ_ _ _ _ _ _ d g=>H.br _ _ _ _ _ _ d (h.trans g),λ_ _ _ _ _ _ d g=>H.go _ _ _ _ _ _ d (h.trans g));show ig (a0A I (ig (a1B C.L e (C.hb _ (bp D)) C.ha (by lia) (by lia) (a13 C.sa (by lia)) λp J k j=>?_)));dsimp only;simp at k j;let f:∀y∈a.toList.take p,κ y<=Kk κ b v:=λy m=>by
  let(q,B,x):=a1O m
  let:=k q B
  rw[a2Z x]at this;simp[bq]at this;rw[a0M _];cbv
 split
 .let t:=MH.runA C.sa _ (show p+(u+1-p)=u+1 by lia▸R.w) λq z B T x y m=>by
   let:=j q B (by lia)
   rw[a2Z x]at this;simp[bq]at this;show bK (a1C C.sb D y m) (ci this)
  rw[<- a55]at t
  by_cases e1:p=0
  .rw[if_pos ↑e1];show ij (l.dn _ _ _ (SG.refl _) (a14▸t.doneA C.sa C.sb (.inl e1)))
  .rw[if_neg ↑e1];obtain⟨G,rfl⟩:∃G,p=G+1:=(p-1,by lia);show b5K C e (t,by lia,R.hv) f l (by lia)
 .let:p=u+1:=by lia
  subst this;show b5K C e R f l (by cbv)
def b76(C:MC M A E s κ k0 ajj a b)(hk:kindOf st=k0)(R:RdH κ a b o (u+1) (v+1))(H:HG st κ a b n Q)(hn:u+v<n):wpS M A E s (hi2 a b (u+1) (v+1) o g ac bc) Q st:=by
 unfold hi2
 split<;>show b75 C hk R H hn
def b0m(C:MC M A E s κ k0 ajj a b):MH κ a.toList b.toList [a[a.size-1]'(by let:=C.h0;cbv)] (a.size-1) b.size:=by
 let f:=C.h0;let d:MH κ a.toList b.toList [] (a.size-1+1) b.size:=(by rw[a0V];lia,by rw[a0V];lia,by rw[cE (by rw[a0V];lia),cE (by rw[a0V];lia)];simp,.nil,λx h=>by simp at h,λx h=>by simp at h);show d.pushA C.sa (a0J (a:=a) (i:=a.size-1) (by cbv)) λy e=>C.hl _ (by simp) y (dr e)
def a8m(C:MC M A E s κ k0 ajj a b)(hk:kindOf st=k0)
  (h:∀r st',SG st st'->Mgd κ a.toList b.toList r.toList->Q r st'):wpS M A E s (a30 a b) Q st:=by
 let h0:=C.h0;let h1:=C.h1;rw[a4B];show a3x (ig (a0A (getElem?_pos a (a.size-1) (by cbv)) ?_));let V:=b0m C
 by_cases e1:a.size-1=0
 .rw[if_pos ↑e1];show ij (h _ _ (SG.refl _) (a14▸V.doneA C.sa C.sb (.inl e1)))
 rw[if_neg ↑e1]
 by_cases e2:b.size=1
 .rw[if_pos ↑e2];show ij (h _ _ (SG.refl _) ?_);rw[e2]at V;rw[a2J,e2];show V.doneB C.sa C.sb C.first
 rw[if_neg ↑e2];show ig (iU ?_);let R0:RdH κ a b #[a[a.size-1]] (a.size-1) b.size:=(V,by lia,by lia);show ig (iK (iF (I:=λx c e=>∃o u v g,c=(lR,u,v,o,g,)/\SG st e/\RdH κ a b o u v/\x+(u+v)<a.size+b.size)
  (Q:=λc e=>Ex2 λr G=>An3 (c=(bo r,G,)) (SG st e) (Mgd κ a.toList b.toList r.toList)) ?step ?fin (_,_,_,_,rfl,SG.refl _,R0,by lia)) ?post)
 case post=>
  ext c e ⟨r,G,rfl,L,m⟩;show ij (h r e L m)
 case fin=>
  ext c e ⟨o,u,v,g,rfl,L,R,hx⟩
  lia
 case step=>
  ext x c e _ hx ⟨o,u,v,g,rfl,L,R,hxi⟩;dsimp only;let hk1:kindOf e=k0:=L.kd.trans hk;show ig (iK (iF (I:=λy c l=>∃D f i S J,c=(lR,f,i,D,S,J,)/\l=e/\RdH κ a b D f i/\f+i+y<=u+v)
   (Q:=λc l=>l=e/\((∃r G,c=(bo r,G,)/\Mgd κ a.toList b.toList r.toList)\/∃D f i S J,c=(lR,f,i,D,S,J,)/\RdH κ a b D f i/\f+i<=u+v)) ?st1 ?fi1 (_,_,_,_,_,rfl,rfl,R,by lia)) ?po1)
  case fi1=>
   ext c l ⟨D,f,i,S,J,rfl,rfl,H,Y⟩;show(rfl,.inr (_,_,_,_,_,rfl,H,by lia))
  case st1=>
   ext y c l _ Y ⟨D,f,i,S,J,rfl,rfl,H,hyi⟩;dsimp only;let hu1:=H.hu;let hv1:=H.hv;obtain⟨f,rfl⟩:∃z,f=z+1:=(f-1,by lia);obtain⟨i,rfl⟩:∃z,i=z+1:=(i-1,by lia);show b74 C hk1 H (λr c m=>(rfl,.inl (r,c,rfl,m))) (λo2 i2 j2 u v R2 U=>(rfl,.inr (_,_,_,_,_,rfl,R2,by lia))) λo2 i2 j2 u v R2 U=>(_,_,_,_,_,rfl,rfl,R2,by lia)
  case po1=>
   ext c l ⟨rfl,⟨r,G,rfl,m⟩ |⟨D,f,i,S,J,rfl,H,hij⟩⟩
   .show ij (r,_,rfl,L,m)
   .dsimp only;show a3x ?_;show ig (iK (iF (I:=λy c p=>∃B k j N q t,c=(lR,k,j,B,N,q,t,)/\SG st p/\RdH κ a b B k j/\k+j+y<=f+i)
     (Q:=λc p=>SG st p/\((∃r G,c=(bo r,G,)/\Mgd κ a.toList b.toList r.toList)\/∃B k j N q t,c=(lR,k,j,B,N,q,t,)/\RdH κ a b B k j/\k+j<f+i)) ?l ?fi2 (_,_,_,_,_,_,rfl,L,H,by lia)) ?po2)
    case fi2=>
     ext c p ⟨B,k,j,N,q,t,rfl,d,F,Y⟩;show(d,.inr (_,_,_,_,_,_,rfl,F,by let:=F.hu;lia))
    case l=>
     ext y c p _ Y ⟨B,k,j,N,q,t,rfl,d,F,hyi⟩;dsimp only;let hu1:=F.hu;let hv1:=F.hv;obtain⟨k,rfl⟩:∃z,k=z+1:=(k-1,by lia);obtain⟨j,rfl⟩:∃z,j=z+1:=(j-1,by lia);show b76 (n:=k+1+(j+1)) C (d.kd.trans hk) F (λr c W T m=>(d.trans T,.inl (r,c,rfl,m)),λo4 i4 j4 u v w W T X U=>(d.trans T,.inr (_,_,_,_,_,_,rfl,X,by lia)),λo4 i4 j4 u v w W T X U=>(_,_,_,_,_,_,rfl,d.trans T,X,by lia)) (by lia)
    case po2=>
     ext c p ⟨d,⟨r,G,rfl,m⟩ |⟨B,k,j,N,q,t,rfl,F,U⟩⟩
     .show ij (r,_,rfl,d,m)
     .dsimp only;rw[a3Y];show ig (iQ (ij (_,_,_,_,rfl,(d.kd,d.ar,d.pe,d.fl),F,by lia)))
end
def SR(κ:KF)(xs:Array Keyed)(lo n:Nat):Prop:=∀i j,i<=j->j<n->Kk κ xs (lo+i)<=Kk κ xs (lo+j)
def NR(κ:KF)(xs:Array Keyed)(lo n:Nat):Prop:=∀i j,i<=j->j<n->Kk κ xs (lo+j)<=Kk κ xs (lo+i)
structure Ar (st st':SortSt) (lo:Nat):Prop where
 pm:(arrOf st').Perm (arrOf st)
 pre:∀i,i<lo->(arrOf st')[i]?=(arrOf st)[i]?
 kd:kindOf st'=kindOf st
 pe:ip st'=ip st
 fl:iJ st'=iJ st
section
variable{M:Model}{k0:iP}{ajj:Array Keyed}{st st':SortSt}{lo:Nat}
def Ar.refl(st:SortSt)(lo:Nat):Ar st st lo:=(dL.refl _,λ_ _=>rfl,rfl,rfl,rfl)
def Ar.trans(p:Ar x y lo)(q:Ar y z lo):Ar x z lo:=(q.pm.trans p.pm,λi h=>(q.pre i h).trans (p.pre i h),q.kd.trans p.kd,q.pe.trans p.pe,q.fl.trans p.fl)
def Ar.tb(q:Ar st st' lo)(B:TB k0 ajj st):TB k0 ajj st':=(q.pm.trans B.pm,q.kd.trans B.kd,q.fl.trans B.fl)
def b1N(hs:src<xs.size)(hd:d<=src)(k:Nat) :
  Kk κ (bubble xs src d) k=if k=src-d then Kk κ xs src else if src-d<k/\k<=src then Kk κ xs (k-1) else Kk κ xs k:=by
 let q:=getElem?_bubble hs d hd k
 by_cases h1:k=src-d
 .rw[if_pos h1]at q ⊢;show a2Y q
 .rw[if_neg h1]at q ⊢
  by_cases h2:src-d<k/\k<=src
  .rw[if_pos h2]at q ⊢;show a2Y q
  .rw[if_neg h2]at q ⊢;show a2Y q
def Ar.bub(hs:src<(arrOf st).size)(hd:d<=src)(h:lo<=src-d):Ar st (setArr st (bubble (arrOf st) src d)) lo:=
 (bubble_perm _ _ _,λi a=>by
  rw[getElem?_bubble hs d hd,if_neg (by lia),if_neg (by lia)],rfl,rfl,rfl)
def a8n(hj:j<=xs.size)(k:Nat):Kk κ (mirror xs i j ((j-i) / 2)) k=if i<=k/\k<j then Kk κ xs (i+j-1-k) else Kk κ xs k:=by
 let q:=getElem?_mirror_all (i:=i) hj k
 by_cases h1:i<=k/\k<j
 .rw[if_pos h1]at q ⊢;show a2Y q
 .rw[if_neg h1]at q ⊢;show a2Y q
def a20(hj:j<=xs.size)(hq:∀k,i<=k->k<j->Kk κ xs k=Kk κ xs (j-1))(k:Nat):Kk κ (mirror xs i j ((j-i) / 2)) k=Kk κ xs k:=by
 rw[a8n hj]
 split
 .grind
 .rfl
def Ar.mir(hj:j<=(arrOf st).size)(h:lo<=i):Ar st (setArr st (mirror (arrOf st) i j ((j-i) / 2))) lo:=
 (mirror_perm _ _ _ _,λk a=>by
  rw[getElem?_mirror_all hj,if_neg (by lia)],rfl,rfl,rfl)
def b0n(L:LtOk M A E s κ k0 ajj)(B:TB k0 ajj st)(hn:lo+n<=ajj.size)(hok:ok<=n)(hs:SR κ (arrOf st) lo ok)
  (h:∀st',Ar st st' lo->SR κ (arrOf st') lo n->Q lS st'):wpS M A E s (binarySort' lo n ok) Q st:=by
 rw[binarySort'_eq];show ig (iK (iF (I:=λk c z=>An3 (c=(lR,(),)) (Ar st z lo) (SR κ (arrOf z) lo (min k n))) (Q:=λc z=>An3 (c=(lR,(),)) (Ar st z lo) (SR κ (arrOf z) lo n)) ?step ?fin ?init) ?post)
 case post=>
  ext c z ⟨rfl,r1,r2⟩;show ij (h z r1 r2)
 case init=>
  show(rfl,Ar.refl _ _,λi j hij hj=>?_)
  by_cases h1:ok=0
  .let:i=j:=by lia
   rw[this];show bM _
  .show hs i j hij (by lia)
 case fin=>
  ext c z ⟨hc,r1,r2⟩;show(hc,r1,?_)
  rwa [show min (max (max ok 1) n) n=n by lia]at r2
 case step=>
  ext k c z hak hkn ⟨rfl,r1,r2⟩;rw[show min k n=k by lia]at r2;let B1:=r1.tb B;show ig (iK (iF (I:=λx c y=>y=z/\Ex2 λp q=>An6 (c=(lR,p,q,)) (p<=q) (q<=k) (q-p<=k-x) (∀i,i<p->Kk κ (arrOf z) (lo+i)<=Kk κ (arrOf z) (lo+k)) (∀i,q<=i->i<k->Kk κ (arrOf z) (lo+k)<Kk κ (arrOf z) (lo+i)))
   (Q:=λc y=>y=z/\Ex2 λp q=>An4 (c=(lR,p,q,)) (p<=k) (∀i,i<p->Kk κ (arrOf z) (lo+i)<=Kk κ (arrOf z) (lo+k)) (∀i,p<=i->i<k->Kk κ (arrOf z) (lo+k)<Kk κ (arrOf z) (lo+i))) ?istep ?ifin ?iinit) ?ipost)
  case iinit=>show(rfl,0,k,rfl,by lia,by lia,by lia,λi hi=>by lia,λi h1 h2=>by lia)
  case ifin=>
   ext c y ⟨rfl,p,q,rfl,u1,u2,u3,u4,u5⟩
   let:p=q:=by lia
   subst this;show(rfl,p,p,rfl,u2,u4,u5)
  case istep=>
   ext x c y _ hxk ⟨rfl,p,q,rfl,u1,u2,u3,u4,u5⟩;dsimp only
   by_cases hge:p>=q
   .rw[if_pos hge]
    let:p=q:=by lia
    subst this;show ij (rfl,p,p,rfl,u2,u4,u5)
   .rw[if_neg hge];show ig (a4z L B1 (by lia) (by lia) ?_)
    by_cases hless:Kk κ (arrOf y) (lo+k)<Kk κ (arrOf y) (lo+(p+q) / 2)
    .simp only[hless,decide_true,if_true];show ij (rfl,p,(p+q) / 2,rfl,(hvM hge).1,by lia,(hvS hxk u3 (hvM hge).1 (hvM hge).2).1,u4,λi h1 h2=>?_);show Int.lt_of_lt_of_le hless (r2 _ _ h1 h2)
    .simp only[hless,decide_false,cY,if_false];show ij (rfl,(p+q) / 2+1,q,rfl,(hvM hge).2,u2,(hvS hxk u3 (hvM hge).1 (hvM hge).2).2,λi h1=>?_,u5);show bK (r2 i ((p+q) / 2) (by lia) (by lia)) (d9.mp hless)
  case ipost=>
   ext c y ⟨rfl,p,q,rfl,u2,u4,u5⟩
   change wpS _ _ _ _ (do moveDown' (lo+k) (lo+p);pure (ForInStep.yield (lR,(),))) _ _
   rw[moveDown'_eq];let hks:lo+k<(arrOf y).size:=by rw[B1.sz];lia
   show ig (iQ (ij (rfl,r1.trans (Ar.bub hks (by lia) (by lia)),?_)));rw[show min (k+1) n=k+1 by lia];ext i j hij hj
   change Kk κ (bubble (arrOf y) (lo+k) (lo+k-(lo+p))) (lo+i)<=Kk κ (bubble (arrOf y) (lo+k) (lo+k-(lo+p))) (lo+j)
   rw[b1N hks (by lia),b1N hks (by lia),show lo+k-(lo+k-(lo+p))=lo+p by lia];let ek:∀t,1<=t->lo+t-1=lo+(t-1):=λt ht=>by lia
   repeat' split
   all_goals first
    | (exfalso;lia)
    |show bM _
    |show u4 _ (by lia)
    | (rw[ek _ (by lia)];show u4 _ (by lia))
    |show ci (u5 _ (by lia) (by lia))
    | (rw[ek _ (by lia)];show ci (u5 _ (by lia) (by lia)))
    |show r2 _ _ (by lia) (by lia)
    | (rw[ek j (by lia)];show r2 _ _ (by lia) (by lia))
    | (rw[ek i (by lia)];show r2 _ _ (by lia) (by lia))
    | (rw[ek i (by lia),ek j (by lia)];show r2 _ _ (by lia) (by lia))
end
abbrev U1:=Option (Option Nat)×Nat
abbrev U2:=Option (Option Nat)×Nat×Nat
noncomputable def rise(lo p nr:Nat):SM U1:=forIn [p:nr] ((lR,p,):U1) λ_ c=>do
 let x <- ltAt' (lo+c.2) (lo+c.2-1)
 match x with
 |some sm=>if sm=lS then pure (.done (lR,c.2,)) else pure (.yield (lR,c.2+1,))
 |_=>pure (.done (bo lR,c.2,))
noncomputable def fin3(lo n nr:Nat):SM (Option Nat):=do
 jN lo (lo+n)
 let c <- rise lo n nr
 match c.1 with
 |some r=>pure r
 |none=>pure (bo c.2)
noncomputable def fall(lo n nr:Nat):SM U2:=forIn [n:nr] ((lR,n,0,):U2) λ_ c=>do
 let x <- ltAt' (lo+c.2.1) (lo+c.2.1-1)
 match x with
 |some sm=>
  if sm=lS then
   if c.2.2 > 0 then do
    jN (lo+c.2.1-(c.2.2+1)) (lo+c.2.1)
    pure (.yield (lR,c.2.1+1,0,))
   else pure (.yield (lR,c.2.1+1,0,))
  else do
   let x <- ltAt' (lo+c.2.1-1) (lo+c.2.1)
   match x with
   |some lg=>if lg=lS then pure (.done (lR,c.2.1,c.2.2,)) else pure (.yield (lR,c.2.1+1,c.2.2+1,))
   |_=>pure (.done (bo lR,c.2.1,c.2.2,))
 |_=>pure (.done (bo lR,c.2.1,c.2.2,))
noncomputable def part(lo n nr:Nat):SM (Option Nat):=do
 liftM (rule "list.sort.descending-run")
 let c <- fall lo (n+1) nr
 match c.1 with
 |some r=>pure r
 |none=>
  if c.2.2 > 0 then do
   jN (lo+c.2.1-(c.2.2+1)) (lo+c.2.1)
   fin3 lo c.2.1 nr
  else fin3 lo c.2.1 nr
def a31(lo nr:Nat):countRun' lo nr=(do
  let c <- rise lo 1 nr
  match c.1 with
  |some r=>pure r
  |none=>
   if (c.2==nr)=lS then pure (bo c.2)
   else if c.2 > 1 then do
    let x <- ltAt' lo (lo+c.2-1)
    match x with
    |some up=>if up=lS then pure (bo c.2) else do
      jN lo (lo+c.2)
      part lo c.2 nr
    |_=>pure lR
   else part lo c.2 nr):=by
 kernel_rfl
section
variable{M:Model}{k0:iP}{ajj:Array Keyed}{st:SortSt}{lo nr:Nat}
def b0o{α:Type}{f:Unit->SM α}{Q:α->SortSt->Prop}(h:wpS M A E s (f ()) Q (setArr st (mirror (arrOf st) i j ((j-i) / 2)))):wpS M A E s (jN i j >>= f) Q st:=ig (iQ h)
def SR.one:SR κ xs lo 1:=by grind [SR]
def SR.snoc(h:SR κ xs lo n)(h1:1<=n)(c:Kk κ xs (lo+n-1)<=Kk κ xs (lo+n)):SR κ xs lo (n+1):=λi j a b=>by
 by_cases hjn:j<n
 .show h i j a hjn
 .let e:j=n:=by lia
  subst e
  by_cases e2:i=j
  .rw[e2];show bM _
  .show bK (h i (j-1) (by lia) (by lia)) ?_;rw[show lo+(j-1)=lo+j-1 by lia];show c
def NR.snoc(h:NR κ xs lo n)(h1:1<=n)(c:Kk κ xs (lo+n)<=Kk κ xs (lo+n-1)):NR κ xs lo (n+1):=λi j a b=>by
 by_cases hjn:j<n
 .show h i j a hjn
 .let e:j=n:=by lia
  subst e
  by_cases e2:i=j
  .simp_all
  .show bK ?_ (h i (j-1) (by lia) (by lia));rw[show lo+(j-1)=lo+j-1 by lia];show c
def NR.congr(h:NR κ xs lo n)(e:∀k,Kk κ ys k=Kk κ xs k):NR κ ys lo n:=λi j b a=>by rw[e,e];show h i j b a
def b1O(L:LtOk M A E s κ k0 ajj)(B:TB k0 ajj st)(hn:lo+nr<=ajj.size)(hp:1<=p)(hpn:p<=nr)(hs:SR κ (arrOf st) lo p)
  (h:∀n,p<=n->n<=nr->SR κ (arrOf st) lo n->(n=nr\/Kk κ (arrOf st) (lo+n)<Kk κ (arrOf st) (lo+n-1))->Q (lR,n,) st):wpS M A E s (rise lo p nr) Q st:=by
 show iF (I:=λx c z=>An3 (z=st) (c=(lR,x,)) (SR κ _ lo x)) ?step ?fin (rfl,rfl,hs)
 case fin=>
  ext c z ⟨rfl,rfl,a⟩;rw[show max p nr=nr by lia]at a ⊢;show h nr hpn (aQ _) a (.inl rfl)
 case step=>
  ext x c z b d ⟨rfl,rfl,a⟩;show ig (a4z L B (by lia) (by lia) ?_)
  by_cases q:Kk κ (arrOf z) (lo+x)<Kk κ (arrOf z) (lo+x-1)
  .simp only[q];show ij (h x b (by lia) a (.inr q))
  .simp only[q];show ij (rfl,rfl,a.snoc (by lia) (d9.mp q))
def b1P(L:LtOk M A E s κ k0 ajj)(B:TB k0 ajj st)(hn:lo+nr<=ajj.size)(h1:1<=n)(hnn:n<=nr)(hs:NR κ (arrOf st) lo n)
  (h:∀m z,Ar st z lo->1<=m->m<=nr->SR κ (arrOf z) lo m->Q (bo m) z):wpS M A E s (fin3 lo n nr) Q st:=by
 let a:lo+n<=(arrOf st).size:=by rw[B.sz];lia
 show b0o ?_;let b:Ar st _ lo:=Ar.mir a (aQ _);show ig (b1O L (b.tb B) hn h1 hnn ?_ λm g d c _=>ij (h m _ b (by lia) d c));ext i j e f;rw[a8n a,a8n a,if_pos (by lia),if_pos (by lia),show lo+_-1-_=lo+(n-1-i) by lia,show lo+_-1-_=lo+(n-1-j) by lia];show hs _ _ (by lia) (by lia)
def b5L(L:LtOk M A E s κ k0 ajj)(B:TB k0 ajj st)(hn:lo+nr<=ajj.size)(h1:1<=n)(hnn:n<=nr)(hs:NR κ (arrOf st) lo n)
  (h:∀m e z,Ar st z lo->n<=m->m<=nr->NR κ (arrOf z) lo m->e+1<=m->(∀i,lo+m-(e+1)<=i->i<lo+m->Kk κ (arrOf z) i=Kk κ (arrOf z) (lo+m-1))->Q (lR,m,e,) z):wpS M A E s (fall lo n nr) Q st:=by
 unfold fall;show iF (I:=λx c z=>∃e,An5 (c=(lR,x,e,)) (Ar st z lo) (NR κ (arrOf z) lo x) (e+1<=x) (∀i,lo+x-(e+1)<=i->i<lo+x->Kk κ (arrOf z) i=Kk κ (arrOf z) (lo+x-1))) ?step ?fin (0,rfl,Ar.refl _ _,hs,by lia,λi l a=>by congr 1;lia)
 case fin=>
  ext c z ⟨e,rfl,b,a,f,d⟩;rw[show max n nr=nr by lia]at a f d ⊢;show h nr e z b hnn (aQ _) a f d
 case step=>
  ext x c z p r ⟨e,rfl,b,a,f,d⟩;dsimp only;let k:=b.tb B;let j:lo+x<=(arrOf z).size:=by rw[k.sz];lia
  show ig (a4z L k (by lia) (by lia) ?_)
  by_cases q:Kk κ (arrOf z) (lo+x)<Kk κ (arrOf z) (lo+x-1)
  .simp only[q,decide_true,if_true];let o:=a.snoc (by lia) (ci q)
   by_cases g:e > 0
   .rw[if_pos g];show b0o (ij (0,rfl,b.trans (Ar.mir j (by lia)),o.congr (a20 j d),by lia,λi l a=>by congr 1;lia))
   .rw[if_neg g];show ij (0,rfl,b,o,by lia,λi l a=>by congr 1;lia)
  .simp only[q,decide_false,if_false];show ig (a4z L k (by lia) (by lia) ?_)
   by_cases q2:Kk κ (arrOf z) (lo+x-1)<Kk κ (arrOf z) (lo+x)
   .simp only[q2,decide_true,if_true];show ij (h x e z b p (by lia) a f d)
   .simp only[q2,decide_false,if_false];let g:Kk κ (arrOf z) (lo+x)=Kk κ (arrOf z) (lo+x-1):=by lia
    show ij (e+1,rfl,b,a.snoc (by lia) (by lia),by lia,λi l a=>?_);rw[show lo+(x+1)-1=lo+x by lia]
    by_cases hix:i=lo+x
    .rw[hix]
    .grind
def b1Q(L:LtOk M A E s κ k0 ajj)(B:TB k0 ajj st)(hn:lo+nr<=ajj.size)(hnn:n+1<=nr)(hs:NR κ (arrOf st) lo (n+1))
  (h:∀m z,Ar st z lo->1<=m->m<=nr->SR κ (arrOf z) lo m->Q (bo m) z):wpS M A E s (part lo n nr) Q st:=by
 show a3x (ig (b5L L B hn (by simp) hnn hs λm e z c l i g o j=>?_));dsimp only;let f:=c.tb B;let a:lo+m<=(arrOf z).size:=by rw[f.sz];lia
 by_cases he:e > 0
 .rw[if_pos he];let d:Ar st (setArr z (mirror (arrOf z) (lo+m-(e+1)) _ _)) lo:=c.trans (Ar.mir a (by lia));show b0o (b1P L (d.tb B) hn (by lia) i (g.congr (a20 a j)) λk w b=>h k w (d.trans b))
 .rw[if_neg he];show b1P L f hn (by lia) i g λk w b=>h k w (c.trans b)
def b2W(L:LtOk M A E s κ k0 ajj)(B:TB k0 ajj st)(hn:lo+nr<=ajj.size)(h1:1<=nr)
  (h:∀m z,Ar st z lo->1<=m->m<=nr->SR κ (arrOf z) lo m->Q (bo m) z):wpS M A E s (countRun' lo nr) Q st:=by
 rw[a31];show ig (b1O L B hn (aQ 1) h1 SR.one λn e l b t=>?_);dsimp only
 by_cases hnn:n=nr
 .rw[if_pos ↑hnn];show ij (h n st (Ar.refl _ _) e l b)
 .rw[if_neg ↑hnn];let d:=t.resolve_left hnn;let c:lo+n<=(arrOf st).size:=by rw[B.sz];lia
  by_cases hgt:n > 1
  .rw[if_pos hgt];show ig (a4z L B (by lia) (by lia) ?_)
   by_cases q:Kk κ (arrOf st) lo<Kk κ (arrOf st) (lo+n-1)
   .simp only[q,decide_true,if_true];show ij (h n st (Ar.refl _ _) e l b)
   .simp only[q,if_false];let a:∀k,lo<=k->k<lo+n->Kk κ (arrOf st) k=Kk κ (arrOf st) (lo+n-1):=λk y x=>by
     let g:=b 0 (k-lo) (by lia) (by lia);let f:=b (k-lo) (n-1) (by lia) (by lia);rw[show lo+(k-lo)=k by lia]at g f;rw[show lo+(n-1)=lo+n-1 by lia]at f;rw[et]at g
     lia
    let o:Ar st _ lo:=Ar.mir c (aQ _);let u:NR κ (arrOf st) lo (n+1):=by
     show NR.snoc (λi j p r=>?_) (by cbv) (ci d);rw[a (lo+i) (by lia) (by lia),a (lo+j) (by lia) (by lia)];show bM _
    show b0o (b1Q L (o.tb B) hn (by lia) (u.congr (a20 c a)) λk w v=>h k w (o.trans v))
  .rw[if_neg hgt]
   let:n=1:=by lia
   subst this;show b1Q L B hn (by lia) ?_ h;show NR.snoc (λi j p r=>?_) (by cbv) (ci d)
   let:i=j:=by lia
   rw[this];show bM _
end
def a5p(i:Nat):kW i=(do
 let z <- get
 let (bo (p,n,w,),bo (q,m,_,),):=((ip z)[i]?,(ip z)[i+1]?,) |jd "internal:list.sort.pending"
 set (jO z (((ip z).setIfInBounds i (p,n+m,w,)).eraseIdxIfInBounds (i+1)))
 let bo k <- a1v lT (<- elem' (arrOf z) q) (arrOf z) p n 0 |return lT
 let (p,n,):=(p+k,n-k,)
 if n==0 then return lS
 let bo m <- a1v lS (<- elem' (arrOf z) (p+n-1)) (arrOf z) q m (m-1) |return lT
 if m==0 then return lS
 let x:=(arrOf z).extract p q
 let y:=(arrOf z).extract q (q+m)
 let mg <- if n<=m then a3Z x y else a30 x y
 modify λz=>setArr z (mg.toList.zipIdx.foldl (λa (v,j,)=>a.setIfInBounds (p+j) v) (arrOf z))
 return (iJ (<- get)).isNone):=rfl
def b0p(bs:Nat):∀(l:List Keyed)(k:Nat)(xs:Array Keyed),bs+k+l.length<=xs.size ->
  ((l.zipIdx k).foldl (λa (pj:Keyed×Nat)=>a.setIfInBounds (bs+pj.2) pj.1) xs).toList=xs.toList.take (bs+k)++(l++xs.toList.drop (bs+k+l.length)):=by ext z0;induction z0 with
 |nil=>ext k xs _;simp
 |cons x l I0=>
  ext k xs h;rw[be]at h;rw[fW,fX,I0 _ _ (by grind)];let e:(xs.setIfInBounds (bs+k) x).toList=xs.toList.set (bs+k) x:=by simp
  rw[e,show bs+_=bs+k+1 by lia,fY (by lia),be,show bs+k+1+l.length=bs+k+(l.length+1) by lia]
  let:(xs.toList.set (bs+k) x).take (bs+k+1)=xs.toList.take (bs+k)++[x]:=by
   rw[cN,fZ (aQ _),dB (by grind)]
   rfl
  rw[this];simp
section
variable{M:Model}{k0:iP}{ajj:Array Keyed}{st:SortSt}
def b77(h:Q ⟨⟩ z):wpS M A E s (set z:SM PUnit) Q st:=h9 (rfl,h)
def b1R(e:xs.toList=lU++(lV++R))(hi:i<lV.length):Kk κ xs (lU.length+i)=κ lV[i]:=by
 show a2Z ?_;rw[e,cI (by simp),cJ (by lia),show lU.length+i-lU.length=i by lia];show aU hi
def a15(h:Srt κ lU)(hij:i<=j)(hj:j<lU.length):κ (lU[i]'(by lia))<=κ lU[j]:=by
 by_cases e:i=j
 .subst e;show bM _
 .show bR.mp h i j (by lia) hj (by lia)
def a56{X:List Keyed}(h:x∈X):∃i,∃(hi:i<X.length),X[i]=x:=b8.mp h
def a4C{X:List Keyed}(h:x∈X.take k):∃i,∃(hi:i<X.length),i<k/\X[i]=x:=by
 let(q,a,d):=a1O h;let(b,c):=aT.mp d;show(q,b,a,c)
def a57{X:List Keyed}(h:x∈X.drop k):∃i,∃(hi:i<X.length),k<=i/\X[i]=x:=by
 let(q,b,e,d):=a1N h;let(c,a):=aT.mp d;show(q,c,b,a)
def a8o(L:LtOk M A E s κ k0 ajj)(B:TB k0 ajj st)(e1:(ip st)[i]?=bo (sa,na,pw,))(e2:(ip st)[i+1]?=bo (sb,nb,pw2,))
  (ea:(arrOf st).toList=lU++(lV++(Y++S))) (hP:lU.length=sa) (hX:lV.length=na) (hsb:sb=sa+na) (hY:Y.length=nb) (sX:Srt κ lV) (sY:Srt κ Y) (h1:0<na) (h2:0<nb)
  (h:∀st' Z,TB k0 ajj st'->(arrOf st').toList=lU++(Z++S)->Z.length=na+nb->Srt κ Z->ip st'=((ip st).setIfInBounds i (sa,na+nb,pw,)).eraseIdxIfInBounds (i+1)->Q lS st'):wpS M A E s (kW i) Q st:=by
 let hsz:(arrOf st).size=sa+na+nb+S.length:=by
  rw[<- a0V,ea];simp;lia
 let hmem:∀p∈(arrOf st).toList,p∈ajj.toList:=λp hp=>(dI.mp B.pm).mem_iff.mp hp;let eb:(arrOf st).toList=(lU++lV)++(Y++S):=by rw[ea,bB]
 let kX:∀i,(hi:i<lV.length)->Kk κ (arrOf st) (sa+i)=κ lV[i]:=λi hi=>by rw[<- hP];show b1R ea hi
 let kY:∀i,(hi:i<Y.length)->Kk κ (arrOf st) (sb+i)=κ Y[i]:=λi hi=>by
  rw[hsb,<- hP,<- hX,<- bg];show b1R eb hi
 rw[a5p];show ig (iU ?_);rw[e1,e2];dsimp only;show ig (b77 ?_);let B1:TB k0 ajj (jO st (((ip st).setIfInBounds i (sa,na+nb,pw,)).eraseIdxIfInBounds (i+1))):=(B.pm,B.kd,B.fl);let hs1:arrOf (jO st (((ip st).setIfInBounds i (sa,na+nb,pw,)).eraseIdxIfInBounds (i+1)))=arrOf st:=rfl;let hp1:ip (jO st (((ip st).setIfInBounds i (sa,na+nb,pw,)).eraseIdxIfInBounds (i+1)))=((ip st).setIfInBounds i (sa,na+nb,pw,)).eraseIdxIfInBounds (i+1):=rfl;generalize jO st (((ip st).setIfInBounds i (sa,na+nb,pw,)).eraseIdxIfInBounds (i+1))=st1 at B1 hs1 hp1;let hy0:sb<(arrOf st).size:=by lia
 let ey:(arrOf st)[sb]?=bo (arrOf st)[sb]:=getElem?_pos ..;let hky:κ (arrOf st)[sb]=κ Y[0]:=by
  let:=kY 0 (by cbv)
  rw[et,a5n ey]at this;show this
 let hmy:(arrOf st)[sb]∈ajj.toList:=hmem _ (by simp);show ig (a0A ey (ig ?_));show a1B L B1.kd hmy hmem (by lia) (by cbv) (λp q hp hq=>by rw[kX p (by lia),kX q (by cbv)];show a15 sX hp (by cbv)) λk hkn hlt hge=>?_;dsimp only;let lo:∀q,(hq:q<lV.length)->q<k->κ lV[q]<=κ Y[0]:=λq hq hqk=>by
  let:=hlt q hqk
  rw[kX q hq,hky]at this;simpa[bq]using this
 let up:∀q,(hq:q<lV.length)->k<=q->κ Y[0]<κ lV[q]:=λq hq hqk=>by
  let:=hge q hqk (by lia)
  rw[kX q hq,hky]at this;simpa[bq]using this
 let whole:(∀x∈lV,∀y∈Y,κ x<=κ y)->Q lS st1:=λhxy=>by
  show h st1 (lV++Y) B1 (by rw[hs1,ea,bB]) (by rw[bg,hX,hY]) ?_ hp1;show bD.mpr (sX,sY,hxy)
 by_cases c1:na-k=0
 .rw[if_pos ↑c1];show ij (whole λx hx y hy=>?_);let(q,hq,rfl):=a56 hx;let(r,hr,rfl):=a56 hy;show bK (lo q hq (by lia)) (a15 sY (bv _) hr)
 rw[if_neg ↑c1];let hl:sa+k+(na-k)-1<(arrOf st).size:=by lia
 let ex:(arrOf st)[sa+k+(na-k)-1]?=bo (arrOf st)[sa+k+(na-k)-1]:=getElem?_pos ..;let hkx:κ (arrOf st)[sa+k+(na-k)-1]=κ lV[na-1]:=by
  let:=kX (na-1) (by cbv)
  rw[show sa+(na-1)=sa+k+(na-k)-1 by lia,a5n ex]at this;show this
 let hmx:(arrOf st)[sa+k+(na-k)-1]∈ajj.toList:=hmem _ (by simp);show ig (a0A ex (ig ?_));show a1B L B1.kd hmx hmem (by lia) (by lia) (λp q hp hq=>by rw[kY p (by lia),kY q (by cbv)];show a15 sY hp (by cbv)) λm hmn hlt2 hge2=>?_;dsimp only;let lo2:∀q,(hq:q<Y.length)->q<m->κ Y[q]<κ lV[na-1]:=λq hq hqk=>by
  let:=hlt2 q hqk
  rw[kY q hq,hkx]at this;simpa[bq]using this
 let up2:∀q,(hq:q<Y.length)->m<=q->κ lV[na-1]<=κ Y[q]:=λq hq hqk=>by
  let:=hge2 q hqk (by lia)
  rw[kY q hq,hkx]at this;simpa[bq]using this
 by_cases c2:m=0
 .rw[if_pos ↑c2];show ij (whole λx hx y hy=>?_);let(q,hq,rfl):=a56 hx;let(r,hr,rfl):=a56 hy;show bK (a15 sX (by lia) (by lia)) (up2 r hr (by lia))
 rw[if_neg ↑c2];let lx:((arrOf st).extract (sa+k) sb).toList=lV.drop k:=by
  rw[f6,d8,ea,eW,<- hP,dJ (by lia),dv,show lU.length+k-lU.length=k by lia,f7 (by lia),eX (by rw[bI];lia),cE (by rw[bI];lia)]
 let ly:((arrOf st).extract sb (sb+m)).toList=Y.take m:=by
  rw[f6,d8,eb,eW,dJ (by rw[bg];lia),dv,show sb-(lU++lV).length=0 by rw[bg];lia,List.drop_zero,eX (by lia),show sb+m-sb=m by lia]
 let C:MC M A E s κ k0 ajj ((arrOf st).extract (sa+k) sb) ((arrOf st).extract sb (sb+m)):=by
  show(L,λp hp=>?_,λp hp=>?_,?_,?_,?_,?_,λy hy=>?_,λz hz y hy=>?_)
  .rw[lx]at hp;show hmem p (by rw[ea];simp[d7 hp])
  .rw[ly]at hp;show hmem p (by rw[ea];simp[dr hp])
  .rw[lx];show a0Y sX k
  .rw[ly];show a1k sY m
  .rw[<- a0V,lx,bI];lia
  .rw[<- a0V,ly,bh];lia
  .rw[lx]at hy;let(q,hq,hk,rfl):=a57 hy;rw[a2Z (z:=Y[0]) (by rw[ly,ej,if_pos (by lia)];show aU _)];show ci (up q hq hk)
  .rw[ly]at hy;rw[lx,bI,dk,show k+(lV.length-k-1)=na-1 by lia,aU (show na-1<lV.length by cbv)]at hz;cases hz;let(q,hq,hk,rfl):=a4C hy;show ci (lo2 q hq hk)
 let fin:∀(r:Array Keyed)(st2:SortSt),SG st1 st2->Mgd κ ((arrOf st).extract (sa+k) sb).toList ((arrOf st).extract sb (sb+m)).toList r.toList ->
   wpS M A E s (do
    modify λz=>setArr z (r.toList.zipIdx.foldl (λa (pj:Keyed×Nat)=>a.setIfInBounds (sa+k+pj.2) pj.1) (arrOf z))
    return (iJ (<- get)).isNone) Q st2:=by
  ext r st2 g2 mg;rw[lx,ly]at mg;let hrl:r.toList.length=na-k+m:=by rw[mg.1.length_eq,bg,bI,bh];lia
  show ig (iQ (ig (iU (ij ?_))));let ha2:arrOf st2=arrOf st:=g2.ar.trans hs1;let ef:=b0p (sa+k) r.toList 0 (arrOf st2) (by rw[ha2];lia);let el:(r.toList.zipIdx.foldl (λa (pj:Keyed×Nat)=>a.setIfInBounds (sa+k+pj.2) pj.1) (arrOf st2)).toList=lU++((lV.take k++r.toList++Y.drop m)++S):=by
   rw[ef,ha2,et,hrl];let t1:(arrOf st).toList.take (sa+k)=lU++lV.take k:=by
    rw[ea,List.take_append,cE (by lia),<- hP,show lU.length+k-lU.length=k by lia,eX (by cbv)]
   let t2:(arrOf st).toList.drop (sa+k+(na-k+m))=Y.drop m++S:=by
    rw[eb,eW,dJ (by rw[bg];cbv),dv,show sa+k+(na-k+m)-(lU++lV).length=m by rw[bg];cbv,f7 (by cbv)]
   rw[t1,t2];simp
  generalize hgz:r.toList.zipIdx.foldl (λa (pj:Keyed×Nat)=>a.setIfInBounds (sa+k+pj.2) pj.1) (arrOf st2)=ar at el;let hperm:(lV.take k++r.toList++Y.drop m).Perm (lV++Y):=by
   let:(lV.take k++r.toList++Y.drop m).Perm (lV.take k++(lV.drop k++Y.take m)++Y.drop m):=(bx.append_left _ mg.1).append_right _
   show this.trans ?_;let e:lV.take k++(lV.drop k++Y.take m)++Y.drop m=lV++Y:=by
    rw[<- bB,cZ,bB,cZ]
   rw[e]
  let pm:ar.Perm (arrOf st):=by
   rw[dI,el,ea];show bx.append_left _ ?_;rw[<- bB (as:=lV)];show hperm.append_right _
  let hfl:iJ (setArr st2 ar)=lR:=g2.fl.trans B1.fl;let B2:TB k0 ajj (setArr st2 ar):=(pm.trans B.pm,g2.kd.trans B1.kd,hfl);rw[hfl];show h _ _ B2 el (by rw[hperm.length_eq,bg,hX,hY]) ?_ (g2.pe.trans hp1);let hr:∀w∈r.toList,w∈lV.drop k\/w∈Y.take m:=λw hw=>aP.mp (mg.1.mem_iff.mp hw);show bD.mpr (bD.mpr (a1k sX k,mg.2,λx hx w hw=>?_),a0Y sY m,λx hx y hy=>?_)
  .let(q,hq,hk,rfl):=a4C hx;let hw||hw:=hr w hw
   .let(p,hp,hk2,rfl):=a57 hw;show a15 sX (by cbv) hp
   .let(p,hp,hk2,rfl):=a4C hw;show bK (lo q hq hk) (a15 sY (bv _) hp)
  .let(p,hp,hk2,rfl):=a57 hy;let hx||hx:=aP.mp hx
   .let(q,hq,hk,rfl):=a4C hx;show bK (lo q hq hk) (a15 sY (bv _) hp)
   .let hx||hx:=hr x hx
    .let(q,hq,hk,rfl):=a57 hx;show bK (a15 sX (by cbv) (by cbv)) (up2 p hp hk2)
    .let(q,hq,hk,rfl):=a4C hx;show a15 sY (by cbv) hp
 split
 .show ig (a8l C B1.kd λr st2 g2 mg=>fin r st2 g2 mg)
 .show ig (a8m C B1.kd λr st2 g2 mg=>fin r st2 g2 mg)
end
noncomputable def pr(p:Nat×Nat×Nat):Nat×Nat:=(p.1,p.2.1,)
noncomputable def offs:Nat->List (List Keyed)->List (Nat×Nat)
 |_,[]=>[]
 |o,R::Rs=>(o,R.length,)::offs (o+R.length) Rs
def a1P:∀(o:Nat)(U V:List (List Keyed)),offs o (U++V)=offs o U++offs (o+U.flatten.length) V:=by ext z0 y0;induction y0 generalizing z0 with
 |nil=>ext V;simp[offs]
 |cons R U I0=>
  ext V;rw[eu,offs,offs,I0,eu,f8,bg,dw]
def a1l:∀(o:Nat)(U:List (List Keyed)),(offs o U).length=U.length:=by ext z0 y0;induction y0 generalizing z0 with
 |nil=>show rfl
 |cons R U I0=>rw[offs,be,be,I0]
def a8p{α:Type}{q p1 p2:α}{pv:List α}:∀pu:List α,((pu++p1::p2::pv).set pu.length q).eraseIdx (pu.length+1)=pu++q::pv:=by ext z0;induction z0 with
 |nil=>show rfl
 |cons x pu I0=>rw[eu,be,List.set_cons_succ,eY,I0,eu]
theorem a4D{α β:Type}{f:α->β}:∀(l:List α)(k:Nat),(l.map f).eraseIdx k=(l.eraseIdx k).map f
 |[],_=>by simp
 |x::l,0=>by simp
 |x::l,k+1=>by rw[aZ,eY,eY,aZ,a4D l k]
def b0q:∀{Rs:List (List Keyed)},(∀R∈Rs,R≠[])->Rs.length<=Rs.flatten.length:=by ext z0;induction z0 with
 |nil=>ext _;simp
 |cons R Rs I0=>
  ext h
  let:=I0 λR a=>h R (.tail _ a)
  let b:=cw.mpr (h R (.head _));rw[f8,bg,be]
  lia
def Runs(κ:KF)(st:SortSt)(lo:Nat)(rest:List Keyed):Prop:=∃Rs:List (List Keyed),(arrOf st).toList=Rs.flatten++rest/\(∀R∈Rs,Srt κ R/\R≠[])/\Rs.flatten.length=lo/\(ip st).toList.map pr=offs 0 Rs
section
variable{M:Model}{k0:iP}{ajj:Array Keyed}{st:SortSt}
def a1Q{i lo:Nat}(L:LtOk M A E s κ k0 ajj)(B:TB k0 ajj st)(R:Runs κ st lo lU)(hi:i+1<(ip st).size)
  (h:∀st',TB k0 ajj st'->Runs κ st' lo lU->(ip st').size+1=(ip st).size->Q lS st'):wpS M A E s (kW i) Q st:=by
 let(Rs,t,f,r,b):=R;let m:(ip st).size=Rs.length:=by
  let:=congrArg bn b
  rw[aN,a1l]at this;o_head this
 obtain⟨U,X,Y,V,rfl,D⟩:∃U X Y V,Rs=U++X::Y::V/\U.length=i:=by
  show(Rs.take i,Rs[i]'(by lia),Rs[i+1]'(by lia),Rs.drop (i+2),?_,by rw[bh];lia);rw[<- cD,<- cD,cZ]
 let n:=f X (by simp);let q:=f Y (by simp);rw[a1P]at b;simp only[offs,cX]at b;let k:∀(j:Nat)(x:Nat×Nat),(offs 0 U++_::_::offs _ V)[j]?=bo x->∃w,(ip st)[j]?=bo (x.1,x.2,w,):=λj x d=>by
  rw[<- b,aR]at d;rw[<- cm];cases e:(ip st).toList[j]? with
  |none=>rw[e]at d;cases d
  |some p=>
   rw[e]at d;cases d;show(p.2.2,rfl)
 let c:(offs 0 U).length=i:=by rw[a1l,D]
 let(J,G):=k i _ (by rw[cI (by lia),c,eZ];rfl);let(I,y):=k (i+1) (U.flatten.length+X.length,Y.length,) (by simp_all);let C:(arrOf st).toList=U.flatten++(X++(Y++(V.flatten++lU))):=by rw[t];simp
 show a8o L B G y C rfl rfl rfl rfl n.1 q.1 (cw.mpr n.2) (cw.mpr q.2) λl Z H F o v u=>?_;let g:(ip l).toList.map pr=offs 0 (U++Z::V):=by
  rw[u,Array.toList_eraseIdxIfInBounds,f9,<- a4D,List.map_set,b,<- c,a8p,a1P];simp only[offs,cX,pr];rw[o,dw]
 show h l H (U++Z::V,by rw[F];simp,λR a=>?_,?_,g) ?_
 .let a||a:=aP.mp a
  .show f R (by simp[a])
  .let rfl||a:=aO.mp a
   .show(v,λz=>by rw[z]at o;let:=cw.mpr n.2;simp at o;lia)
   .show f R (by simp[a])
 .rw[<- r];simp
  lia
 .grind
def Runs.ar{lo n:Nat}(R:Runs κ st lo lU)(q:Ar st st' lo)(hs:SR κ (arrOf st') lo n)(hn:lo+n<=(arrOf st').size)(h1:1<=n):∃X rest',Srt κ X/\X.length=n/\Runs κ st' lo (X++rest'):=by
 let(Rs,g,f,c,e):=R;let b:(arrOf st').toList.take lo=Rs.flatten:=by
  show ez λi=>?_
  by_cases a:i<lo
  .rw[ej,if_pos a,cm,q.pre i a,<- cm,g,cJ (by lia)]
  .grind
 show(((arrOf st').toList.drop lo).take n,((arrOf st').toList.drop lo).drop n,?_,by rw[bh,bI,a0V];lia,Rs,?_,f,c,by rw[q.pe];show e)
 .show bR.mpr λi j a d k=>?_;rw[bh,bI,a0V]at a d
  let:=hs i j (by lia) (by lia)
  rw[a0M _,a0M _]at this;o_head this
 .rw[cZ,<- b,cZ]
def Runs.push{lo n:Nat}(R:Runs κ st lo (lU++lV))(sX:Srt κ lU)(hX:lU.length=n)(h1:1<=n)(ha:arrOf st'=arrOf st)(hp:(ip st').toList.map pr=(ip st).toList.map pr++[(lo,n,)]):Runs κ st' (lo+n) lV:=by
 let(Rs,e,d,b,c):=R;show(Rs++[lU],by rw[ha,e];simp,λR a=>?_,by simp[b,hX],?_)
 .let a||a:=aP.mp a
  .show d R a
  .rw[aS.mp a];show(sX,λz=>by rw[z]at hX;simp at hX;lia)
 .rw[hp,c,a1P,cX,b];simp[offs,hX]
def t_sortRuns(L:LtOk M A E s κ k0 ajj)(B:TB k0 ajj st)(hp:ip st=#[])
  (h:∀st',TB k0 ajj st'->Srt κ (arrOf st').toList->Q () st'):wpS M A E s sortRuns' Q st:=by
 rw[sortRuns'_eq];show ig (iU ?_);dsimp only;rw[B.sz];generalize minRun' ajj.size ajj.size 0=mr;show ig (iK (iF (I:=λx c z=>Ex2 λd e=>An4 (c=(lR,d,)) (TB k0 ajj z) (Runs κ z d e) (x<=d))
  (Q:=λc z=>Ex2 λd e=>An4 (c=(lR,d,)) (TB k0 ajj z) (Runs κ z d e) (ajj.size<=d)) ?step ?fin (0,(arrOf st).toList,rfl,B,([],by simp,λR h=>by simp at h,rfl,by rw[hp];rfl),aQ _)) ?post)
 case fin=>
  ext c z ⟨d,e,rfl,t,u,hx⟩;show(d,e,rfl,t,u,by lia)
 case step=>
  ext x c z _ hx ⟨d,e,rfl,t,u,hxl⟩;dsimp only
  by_cases c1:d>=ajj.size
  .rw[if_pos c1];show ij (d,e,rfl,t,u,c1)
  rw[if_neg c1];show ig (b2W L t (by lia) (by lia) λm z2 Y m1 m2 m3=>?_);dsimp only
  by_cases c2:m<mr
  .rw[if_pos c2];show a3x (ig (b0n L (Y.tb t) (by lia) (by lia) m3 λS C D=>?_));rw[if_neg (by decide)];let C:=Y.trans C;let v:1<=min (ajj.size-d) mr:=by lia
   let V:d+min (ajj.size-d) mr<=ajj.size:=by lia
   generalize min (ajj.size-d) mr=n at v V D ⊢;let r:=C.tb t;let(X,f,J,G,R3):=u.ar C D (by rw[r.sz];lia) v;show ig (iU ?_);cases hb:(ip S).back? with
   |none=>
    dsimp only;show ig (iQ (ij (d+n,f,rfl,(r.pm,r.kd,r.fl),R3.push J G v rfl (by change (((ip S).push (d,n,0,)).toList).map pr=_;rw[bS,aV];rfl),by lia)))
   |some p=>
    let(w,o,w1):=p;dsimp only;generalize power' ajj.size (2*w+o) (2*w+o+o+n) ajj.size=pw;show ig (iK (iF (I:=λ_ c y=>An3 (c=(lR,(),)) (TB k0 ajj y) (Runs κ y d (X++f))) ?w (λ_ _ hh=>hh) (rfl,r,R3)) ?p1)
    case w=>
     ext x c y _ _ ⟨rfl,g,j⟩;show ig (iU ?_)
     by_cases hgt:(ip y).size > 1
     .rw[if_pos hgt];let eo:(ip y)[(ip y).size-2]?=bo (ip y)[(ip y).size-2]:=getElem?_pos ..;rw[eo];dsimp only
      split
      .show ij (rfl,g,j)
      .show ig (a1Q L g j (by lia) λy2 N H _=>?_);rw[if_neg (by decide)];show ij (rfl,N,H)
     .rw[if_neg hgt];show ij (rfl,g,j)
    case p1=>
     ext c y ⟨rfl,g,j⟩;dsimp only;show ig (iQ (ig (iQ (ij (d+n,f,rfl,(g.pm,g.kd,g.fl),j.push J G v rfl ?_,by lia)))));let em:∀(q:Array (Nat×Nat×Nat))(k:Nat),(q.modify k λ(a,b,_,)=>(a,b,pw,)).toList.map pr=q.toList.map pr:=λq k=>by
      show ez λi=>?_;rw[aR,aR,cm,cm,gb]
      split
      .cases q[i]? with
       |none=>rfl
       |some p=>rfl
      .rfl
     rw[bS,aV,em]
     rfl
  .rw[if_neg c2];let V:d+m<=ajj.size:=by lia
   let v:=m1;let D:=m3;let C:=Y;generalize m=n at v V D ⊢;generalize z2=S at C D ⊢;let r:=C.tb t;let(X,f,J,G,R3):=u.ar C D (by rw[r.sz];lia) v;show ig (iU ?_);cases hb:(ip S).back? with
   |none=>
    dsimp only;show ig (iQ (ij (d+n,f,rfl,(r.pm,r.kd,r.fl),R3.push J G v rfl (by change (((ip S).push (d,n,0,)).toList).map pr=_;rw[bS,aV];rfl),by lia)))
   |some p=>
    let(w,o,w1):=p;dsimp only;generalize power' ajj.size (2*w+o) (2*w+o+o+n) ajj.size=pw;show ig (iK (iF (I:=λ_ c y=>An3 (c=(lR,(),)) (TB k0 ajj y) (Runs κ y d (X++f))) ?w (λ_ _ hh=>hh) (rfl,r,R3)) ?p1)
    case w=>
     ext x c y _ _ ⟨rfl,g,j⟩;show ig (iU ?_)
     by_cases hgt:(ip y).size > 1
     .rw[if_pos hgt];let eo:(ip y)[(ip y).size-2]?=bo (ip y)[(ip y).size-2]:=getElem?_pos ..;rw[eo];dsimp only
      split
      .show ij (rfl,g,j)
      .show ig (a1Q L g j (by lia) λy2 N H _=>?_);rw[if_neg (by decide)];show ij (rfl,N,H)
     .rw[if_neg hgt];show ij (rfl,g,j)
    case p1=>
     ext c y ⟨rfl,g,j⟩;dsimp only;show ig (iQ (ig (iQ (ij (d+n,f,rfl,(g.pm,g.kd,g.fl),j.push J G v rfl ?_,by lia)))));let em:∀(q:Array (Nat×Nat×Nat))(k:Nat),(q.modify k λ(a,b,_,)=>(a,b,pw,)).toList.map pr=q.toList.map pr:=λq k=>by
      show ez λi=>?_;rw[aR,aR,cm,cm,gb]
      split
      .cases q[i]? with
       |none=>rfl
       |some p=>rfl
      .rfl
     rw[bS,aV,em]
     rfl
 case post=>
  ext c z ⟨d,e,rfl,t,u,hlo⟩;dsimp only;let hsz:∀y,Runs κ y d e->(ip y).size<=d:=by
   ext y ⟨Rs,T,F,e3,U⟩;let l:=congrArg bn U;rw[aN,a1l]at l;let h2:=b0q λR hR=>(F R hR).2;simp at l
   lia
  let W:d=ajj.size:=by
   let(Rs,T,F,e3,U):=u
   let:=congrArg bn T
   rw[a0V,t.sz,bg]at this
   lia
  subst W;show ig (iK (iF (I:=λx c y=>An4 (c=(lR,(),)) (TB k0 ajj y) (Runs κ y ajj.size e) ((ip y).size<=1\/(ip y).size+x<=ajj.size)) (Q:=λc y=>An4 (c=(lR,(),)) (TB k0 ajj y) (Runs κ y ajj.size e) ((ip y).size<=1)) ?s2 ?f2 (rfl,t,u,.inr (hsz z u))) ?p2)
  case f2=>
   ext c y ⟨rfl,g,j,hc⟩;show(rfl,g,j,by lia)
  case s2=>
   ext x c y _ hx ⟨rfl,g,j,hc⟩;show ig (iU ?_)
   by_cases l:(ip y).size<=1
   .rw[if_pos l];show ij (rfl,g,j,l)
   .rw[if_neg l];show ig (a1Q L g j ?_ λy2 N H hy2=>?_)
    .repeat' split
     all_goals lia
    .rw[if_neg (by decide)];show ij (rfl,N,H,.inr (by lia))
  case p2=>
   ext c y ⟨rfl,g,j,hc⟩;let(Rs,T,F,e3,U):=j;let l:=congrArg bn U;rw[aN,a1l]at l;let h2:=congrArg bn T;rw[a0V,g.sz,bg,e3]at h2;let hr:e=[]:=cC.mp (by lia);show ij (h y g ?_);rw[T,hr,bC]
   match Rs,F,l with
   |[],_,_=>show .nil
   |[R],F,_=>o_head (F R (by simp)).1
   |_::_::_,_,l=>simp at l;lia
end
abbrev kN:KF:=λp=>numOf p.1
def b5M(xs:Array Keyed)(i:Nat):K xs i=Kk kN xs i:=rfl
def srt_to(h:Srt kN xs.toList)(hn:n=xs.size):SortedTo xs n:=λi j a b=>by
 rw[b5M,b5M]
 let:=a13 (i:=0) h (n:=xs.size) (by simp) i j a (by lia)
 o_head this
section
variable{ajj:Array Keyed}{k0:iP}
def lt_ints(h0:IntKeys ajj):LtOk (model prog w) A E s kN oneType' ajj:=λx y c d g Q e h=>by
 let(n,t,b):=h0 x c;let(m,u,a):=h0 y d;let f:Q (bo (decide (n<m))) g:=by
  let:kN x<kN y↔n<m:=by change numOf x.1<numOf y.1↔n<m;rw[b,a];rfl
  rw[decide_eq_decide.mpr this]at h;show h
 rw[lt'_eq];show ig (iU ?_);rw[e,keyLt'_oneType,b,a];show ig (wpS_lift (i9 (oneLt_int (rfl,ij f))))
noncomputable def a5q(h:Heap)(a:Addr)(vs:List Value):Heap:=((h.update a (Obj.mapSeq λ_=>#[])).push (seqObj "tuple" vs.toArray 0)).push (seqObj "list" #[] 0)
def b2X(ho:s.heap.get? a=bo (seqObj "list" vs.toArray n))(hz:vs.length<=100000)
  (hK:2<=vs.length->∀Q:iP->Shared->Prop,Q k0 { s with heap:=a5q s.heap a vs }->wpAny (model prog w) A (keyKind' vs.toArray) Q E { s with heap:=a5q s.heap a vs })
  (hL:2<=vs.length->LtOk (model prog w) A E { s with heap:=a5q s.heap a vs } κ k0 (jy vs))
  (h:∀ps:List Keyed,ps.Perm (jy vs).toList->Srt κ ps->lU (.done (.ret .none)) { s with heap:=sortedHeap s.heap a vs (ps.map (·.2)).toArray }):wpAny (model prog w) A (im.«list.sort» ([.ref a],[])) lU E s:=by
 let i:vs.length<=sizeLine:=by rw[ir];lia
 let o:vs.toArray.size<=sizeLine:=↑i
 let t:=Heap.lt_size ho;rw[list_sort_plain];show hZ (kZ ho rfl (hZ (jp ho rfl ?_ o (by simp))));obtain⟨u,m⟩:∃u,(s.heap.update a (Obj.mapSeq λ_=>#[])).get? a=bo (seqObj "list" #[] u):=(_,get?_update_seq ho λ_=>#[]);show hZ (jP m rfl (hZ (jz ?_ ↑i)));show hZ (jQ (iB ?_));let g:(((s.heap.update a (Obj.mapSeq λ_=>#[])).push (seqObj "tuple" vs.toArray 0)).push (seqObj "list" #[] 0)).get? a=bo (seqObj "list" #[] u):=by
  rw[Heap.get?_push_ne,Heap.get?_push_ne]
  .show m
  .rw[Heap.size_update];show aY t
  .rw[kg,Heap.size_update];show aY (dj t)
 dsimp only;let f:=λy p q=>by
  let:=h (arrOf y).toList (dI.mp p) q
  rw[<- Array.toList_map,gg]at this;show this
 let b:∀y:SortSt,(arrOf y).Perm (jy vs)->((arrOf y).map (·.2)).size<=ie+1:=λy p=>by
  rw[dM,p.size_eq,pairsOf_size];lia
 by_cases c:vs.toArray.size<2
 .rw[if_pos c,if_pos c];show hZ (h9 ?_);rw[StateT.run_pure];show hZ (h9 ?_);dsimp only;let x:(arrOf (SortSt.mk' general' _ #[] 7 lR)).Perm (jy vs):=dL.refl _;show hZ (jP g rfl (hZ (jp g rfl ?_ (by simp) (b _ x))));simp only[bne_self_eq_false,cY,if_false];show h9 (f _ x ?_)
  change Srt κ (jy vs).toList
  rw[pairsOf_toList]
  let:vs.length<2:=↑c
  match vs,this with
  |[],_=>show .nil
  |[v],_=>show eS _ _
 .rw[if_neg c,if_neg c];let r:2<=vs.length:=↑c
  show hZ (hK r _ ?_);show hZ (iw (t_sortRuns
   (Q:=λ_ y=>An3 ((arrOf y).Perm (jy vs)) (iJ y=lR) (Srt κ (arrOf y).toList)) (hL r) (dL.refl _,rfl,rfl) rfl λy d j=>(d.pm,d.fl,j)) ?_ λ_ _ e=>e)
  ext⟨⟨⟩,y⟩ l ⟨rfl,d,j,q3⟩;dsimp only;show hZ (jP g rfl (hZ (jp g rfl ?_ (by simp) (b y d))));rw[j];simp only[bne_self_eq_false,cY,if_false];show h9 (f y d q3)
def sort_any(ho:s.heap.get? a=bo (seqObj "list" vs.toArray n))(hI:iE vs ns)(hz:vs.length<=1000)
  (h:∀(out:Array Value)(ms:List Int),iE out.toList ms->ms.Perm ns->ms.Pairwise (·<=·)->lU (.done (.ret .none)) { s with heap:=sortedHeap s.heap a vs out }):wpAny (model prog w) A (im.«list.sort» ([.ref a],[])) lU E s:=by
 show b2X ho (by lia) (λc Q g=>?_) (λ_=>lt_ints hI.intKeys) λj p q=>?_
 .match vs,c with
  |v1::v2::vr,_=>rw[keyKind_ints hI];show h9 g
 .let b:=dI.mpr p;let(e,i,d,f):=sorted_out hI b (srt_to q b.size_eq.symm)
  let:=h _ e i d f
  o_head this
end
end Tim
namespace Tim
open PySem.W
abbrev Pz:=Sum (Option Int) Str
def PtIs:Pz->Value->Prop
 |.inl lR,v=>v=.none
 |.inl (bo i),v=>∃t,v=.int i t
 |.inr s,v=>∃t,v=.str s t
def PtsAre:List Pz->List Value->Prop
 |[],[]=>True
 |x::xs,v::vs=>PtIs x v/\PtsAre xs vs
 |_,_=>False
noncomputable def lt1:Pz->Pz->Bool
 |.inl (bo i),.inl (bo j)=>decide (i<j)
 |.inr a,.inr b=>decide (a.cps.toList<b.cps.toList)
 |_,_=>lT
noncomputable def ltT:List Pz->List Pz->Bool
 |x::xs,y::ys=>if x=y then ltT xs ys else lt1 x y
 |_,_=>lT
noncomputable def rk(rows:List (List Pz))(x:List Pz):Nat:=rows.countP λq=>ltT q x
def RowIn(h:Heap)(v:Value)(xs:List Pz):Prop:=∃a o its n,v=.ref a/\h.get? a=bo o/\o.cls=.type "tuple"/\o.data=.seq its n/\PtsAre xs its.toList
def PtIs.uniq:∀{x y:Pz}{v:Value},PtIs x v->PtIs y v->x=y:=by
 ext x y v h k;let(_||i)||a:=x
 .rw[h]at k;let(_||j)||b:=y
  .rfl
  .let(_,k):=k;cases k
  .let(_,k):=k;cases k
 .let(t,rfl):=h;let(_||j)||b:=y
  .cases k
  .let(_,k):=k;cases k;rfl
  .let(_,k):=k;cases k
 .let(t,rfl):=h;let(_||j)||b:=y
  .cases k
  .let(_,k):=k;cases k
  .let(_,k):=k;cases k;rfl
theorem PtsAre.uniq:∀{xs ys:List Pz}{vs:List Value},PtsAre xs vs->PtsAre ys vs->xs=ys
 |[],[],[],_,_=>rfl
 |x::xs,y::ys,v::vs,(a,b),(c,d)=>by rw[a.uniq c,PtsAre.uniq b d]
 |[],_::_,[],_,h=>h.elim
 |[],_,_::_,h,_=>h.elim
 |_::_,_,[],h,_=>h.elim
 |_::_,[],_::_,_,h=>h.elim
def RowIn.uniq(r:RowIn h v xs)(q:RowIn h v ys):xs=ys:=by
 let(a,o,k,n,rfl,j,_,g,d):=r;let(p,m,f,l,e,b,_,c,i):=q;cases e;rw[j]at b;cases b;rw[g]at c;cases c;show d.uniq i
open Classical in
noncomputable def b2Y(h:Heap)(v:Value):List Pz:=if e:∃xs,RowIn h v xs then e.choose else []
def b0r(r:RowIn h v xs):b2Y h v=xs:=by
 unfold b2Y;let e:∃xs,RowIn h v xs:=(xs,r);rw[dif_pos e];show e.choose_spec.uniq r
def RowsIn(h:Heap):List Value->List (List Pz)->Prop
 |[],[]=>True
 |v::vs,x::xs=>RowIn h v x/\RowsIn h vs xs
 |_,_=>False
theorem RowsIn.len:∀{vs:List Value}{rows:List (List Pz)},RowsIn h vs rows->vs.length=rows.length
 |[],[],_=>rfl
 |_::_,_::_,(_,r)=>by rw[be,be,RowsIn.len r]
 |[],_::_,r=>r.elim
 |_::_,[],r=>r.elim
theorem RowsIn.mem:∀{vs:List Value}{rows:List (List Pz)},RowsIn h vs rows->∀v∈vs,∃x∈rows,RowIn h v x
 |v::vs,x::xs,(r,q),u,hu=>by
  let rfl||hu:=aO.mp hu
  .show(x,.head _,r)
  .let(y,b,a):=q.mem u hu;show(y,.tail _ b,a)
 |[],[],_,u,hu=>by simp at hu
 |[],_::_,r,_,_=>r.elim
 |_::_,[],r,_,_=>r.elim
theorem RowsIn.map:∀{vs:List Value}{rows:List (List Pz)},RowsIn h vs rows->vs.map (b2Y h)=rows
 |[],[],_=>rfl
 |v::vs,x::xs,(r,q)=>by rw[aZ,b0r r,q.map]
 |[],_::_,r=>r.elim
 |_::_,[],r=>r.elim
end Tim
namespace SetW
def Up(xs:Array Nat):Prop:=xs.toList.Pairwise (·<·)
structure TOk (led:Bool) (t:ib):Prop where
 up:Up t.place
 dm:t.dummies=#[]
 ld:t.led=led
def b0s(h:Up xs)(hij:i<j)(hj:j<xs.size):xs[i]'(by cbv)<xs[j]:=by
 let:=bR.mp h i j (by simp;cbv) (by cbv) hij
 o_head this
def b0t(h:Up xs)(j:Nat):∀(fuel lo hi:Nat),hi-lo<=fuel->lo<=hi->hi<=xs.size->(∀i,(hi':i<xs.size)->i<lo->xs[i]<j)->(∀i,(hi':i<xs.size)->hi<=i->j<=xs[i]) ->
  ib.below.go xs j fuel lo hi<=xs.size/\(∀i,(hi':i<xs.size)->i<ib.below.go xs j fuel lo hi->xs[i]<j)/\(∀i,(hi':i<xs.size)->ib.below.go xs j fuel lo hi<=i->j<=xs[i]):=by ext z0;induction z0 with
 |zero=>
  ext lo hi hf h1 h2 h3 h4
  let:lo=hi:=by lia
  subst this;unfold ib.below.go;show(h2,h3,h4)
 |succ fuel I0=>
  ext lo hi hf h1 h2 h3 h4;unfold ib.below.go
  split
  .next hlt=>
   let b:(lo+hi) / 2<xs.size:=by lia
   let f:xs.getD ((lo+hi) / 2) j=xs[(lo+hi) / 2]:=by simp[Array.getD,b]
   dsimp only;rw[f]
   split
   .next c=>
    show I0 _ _ (by lia) (by lia) h2 (λi a d=>?_) h4
    by_cases e:i=(lo+hi) / 2
    .subst e;show c
    .show dG (b0s h (by lia) b) c
   .next c=>
    show I0 _ _ (by lia) (by lia) (by lia) h3 λi a d=>?_
    by_cases e:i=(lo+hi) / 2
    .subst e;lia
    .let:=b0s h (show (lo+hi) / 2<i by lia) a;lia
  .next hlt=>
   let:lo=hi:=by lia
   subst this;show(h2,h3,h4)
def a58(h:Up xs)(j:Nat):ib.below xs j<=xs.size/\(∀i,(hi':i<xs.size)->i<ib.below xs j->xs[i]<j)/\(∀i,(hi':i<xs.size)->ib.below xs j<=i->j<=xs[i]):=
 b0t h j xs.size 0 xs.size (by simp) (by simp) (aQ _) nofun λi b a=>by lia
def a5r{α:Type}{xs:Array α}{x:α}:(ib.insertAt xs p x).toList=xs.toList.take p++x::xs.toList.drop p:=by
 unfold ib.insertAt;simp[cE]
def b5N(h:Up xs)(hn:xs[ib.below xs j]?≠bo j):Up (ib.insertAt xs (ib.below xs j) j):=by
 let(w,s,i):=a58 h j;unfold Up at h ⊢;rw[a5r];show bD.mpr (cu.sublist (dX _ _) h,aW.mpr (λy d=>?_,cu.sublist (d6 _ _) h),λx r y d=>?_)
 .let(m,a):=cj d;rw[dk]at a;let(l,e):=aT.mp a;let b:ib.below xs j+m<xs.size:=↑l
  let f:=i _ b (by lia);let o:xs[ib.below xs j+m]=y:=↑e
  by_cases c:y=j
  .subst c;exfalso
   by_cases hm0:m=0
   .simp_all
   .let t:=b0s h (show ib.below xs y<ib.below xs y+m by lia) b;let z:=i _ (by lia) (aQ _)
    lia
  .lia
 .let(m,a):=cj r;let g:=(aT.mp a).1;rw[bh]at g;rw[ej,if_pos (by lia)]at a;let(l,e):=aT.mp a;let b:m<xs.size:=↑l
  let f:=s m b (by lia);let o:xs[m]=x:=↑e
  rw[o]at f;let rfl||d:=aO.mp d
  .show f
  .let(k,q):=cj d;rw[dk]at q;let(p,u):=aT.mp q;let n:ib.below xs j+k<xs.size:=↑p
   let t:=i _ n (by lia);let v:xs[ib.below xs j+k]=y:=↑u
   lia
def a8q(j:Nat):ib.has #[] j=lT:=by unfold ib.has;simp
def b0u(hd:t.dummies=#[]):∀(fuel:Nat)(p:ib.Probe)(j:Nat)(d:Option Nat),p.dummy=lR->ib.probe.go t ha h fuel p=bo (.empty j d)->d=lR/\t.slot j=.empty:=by ext z0;induction z0 with
 |zero=>ext p j d _ e;unfold ib.probe.go at e;cases e
 |succ fuel I0=>
  ext p j d a e;let b:∀p:ib.Probe,p.dummy=lR->(t.advance p).dummy=lR:=λp a=>by
   unfold ib.advance
   split
   .cbv
   .cbv
  unfold ib.probe.go at e;cases hs:t.slot p.j with
  |empty=>
   rw[hs]at e;simp at e;let(rfl,rfl):=e;show(a,hs)
  |dummy=>
   unfold ib.slot at hs;dsimp only at hs;rw[hd,a8q]at hs
   split at hs
   .cases hs
   .simp_all
  |live i=>
   rw[hs]at e;dsimp only at e
   split at e
   .grind
   .show I0 _ j d (b p a) e
def a6W{t:ib}(h:t.slot j=.empty):t.place[ib.below t.place j]?≠bo j:=λe=>by
 unfold ib.slot at h;dsimp only at h;rw[e]at h;simp at h
set_option tactic.hygienic true in
def b2Z{t:ib}(hd:t.dummies=#[])(e:t.freeSlot h=bo (j,b,)):b=lT/\t.place[ib.below t.place j]?≠bo j:=by
 unfold ib.freeSlot at e
 split at e
 .next j' d hp=>
  let(rfl,a):=b0u hd _ _ j' d rfl hp;simp at e;let(rfl,rfl):=e;show(rfl,a6W a)
 .cases e
def TOk.standIn(h:TOk led t)(n:Nat):TOk led (t.standIn n):=by
 show(?_,rfl,h.ld)
 change Up (Array.range n)
 unfold Up;rw[Array.toList_range];show e8
def TOk.orStandIn(h:TOk led t)(n:Nat):TOk led (t.orStandIn n):=by
 unfold ib.orStandIn
 split
 .cbv
 .show h.standIn n
def TOk.layNew(h:TOk led t)(es:Array (Int×Value))(hh:Int)(x:Value):TOk led (layNew t es hh x).2.1:=by
 unfold PySem.layNew;cases e:t.freeSlot hh with
 |none=>show h.standIn _
 |some p=>
  let(j,b):=p;let(_,a):=b2Z h.dm e
  let:TOk led (t.put j).1:=by
   unfold ib.put;show(b5N h.up a,?_,h.ld);rw[h.dm,a8q];rfl
  show this.orStandIn _
def b20(f:Nat->Option Nat):(((bt n).filterMap λj=>(f j).map (j,·,)).map (·.1)).Pairwise (·<·):=by
 let e:∀l:List Nat,l.Pairwise (·<·)->((l.filterMap λj=>(f j).map (j,·,)).map (·.1)).Pairwise (·<·)/\∀x∈(l.filterMap λj=>(f j).map (j,·,)).map (·.1),x∈l:=by
  ext l
  induction l with
  |nil=>ext _;show(.nil,λx c=>by simp at c)
  |cons a l ih=>
   ext m;let(i,h):=aW.mp m;let(g,d):=ih h;rw[bY];cases f a with
   |none=>show(g,λx c=>.tail _ (d x c))
   |some b=>
    show(aW.mpr (λy k=>i y (d y k),g),λx c=>by
     let rfl||c:=aO.mp c
     .show .head _
     .show .tail _ (d x c))
 show (e _ e8).1
def TOk.relay(h:TOk led t)(es:Array (Int×Value))(n:Nat):TOk led (jA t es n).2.1:=by
 unfold jA;cases e:t.relaid _ n with
 |none=>show h.standIn _
 |some p=>
  dsimp only
  split
  .unfold ib.relaid ib.laid at e;cases ho:ib.layClean _ _ with
   |none=>rw[ho]at e;cases e
   |some owner=>
    rw[ho]at e;let(rfl,_):=e;show(?_,rfl,h.ld);show b20 _
  .show h.standIn _
end SetW
namespace SetW
noncomputable def byT(w:World):Bool:=w.params.followText "set-order"
inductive KsAre {prog:ik}{w:World}{K:Type}[DecidableEq K] (kd:KeyKind prog w K):List Value->List K->Prop
 |nil:KsAre kd [] []
 |cons {v:Value} {k:K} {vs:List Value} {ks:List K} (h:kd.is k v=lS) (t:KsAre kd vs ks):KsAre kd (v::vs) (k::ks)
structure SO {prog:ik}{w:World}{K:Type}[DecidableEq K] (kd:KeyKind prog w K) (h:Heap) (a:Addr) (es:Array (Int×Value)) (ep:Nat) (t:ib) (ms:List K):Prop where
 at_:∃o,h.get? a=bo o/\o.ExactSet/\o.data=.set es ep t
 el:kh kd es.toList
 nums:KsAre kd (es.toList.map (·.2)) ms
 sc:es.size<iR
 fit:t.fits es.size=lS
 ok:TOk (!byT w) t
def SI{prog:ik}{w:World}{K:Type}[DecidableEq K](kd:KeyKind prog w K)(h:Heap)(a:Addr)(ms:List K):Prop:=∃es ep t,SO kd h a es ep t ms
section
variable{K:Type}[DecidableEq K]{kd:KeyKind prog w K}
def a8r(h:KsAre kd vs ns):vs.length=ns.length:=by
 induction h with
 |nil=>rfl
 |cons _ _ ih=>rw[be,be,ih]
def a0N(h:KsAre kd vs ns)(p:vs'.Perm vs):∃ns',KsAre kd vs' ns'/\ns'.Perm ns:=by
 induction p generalizing ns with
 |nil=>show(ns,h,.refl _)
 |cons x _ ih=>
  cases h with
  |cons h1 h2=>
   let(i,a,b):=ih h2;show(_,.cons h1 a,b.cons _)
 |swap x y l=>
  cases h with
  |cons h1 h2=>
   cases h2 with
   |cons h3 h4=>show(_,.cons h3 (.cons h1 h4),.swap ..)
 |trans _ _ ih1 ih2=>
  let(j,c,d):=ih2 h;let(g,e,f):=ih1 c;show(g,e,f.trans d)
def b21(h:KsAre kd vs ns)(hk:kd.is k v=lS):KsAre kd (vs++[v]) (ns++[k]):=by
 induction h with
 |nil=>show .cons hk .nil
 |cons h1 _ ih=>show .cons h1 ih
def b5O(h:KsAre kd vs ns):(∃v∈vs,kd.is k v=lS)↔k∈ns:=by
 induction h with
 |nil=>simp
 | @cons v n vs ns h1 _ ih=>
  rw[aO,<- ih]
  constructor
  .ext⟨u,a,b⟩;let rfl||a:=aO.mp a
   .show .inl (kd.inj _ _ _ b h1)
   .show .inr (u,a,b)
  .ext (rfl |⟨u,a,b⟩)
   .show(v,.head _,h1)
   .show(u,.tail _ a,b)
def b78(h:KsAre kd vs ns):∀{i:Nat}{v:Value},vs[i]?=bo v->∃k,ns[i]?=bo k/\kd.is k v=lS:=by
 induction h with
 |nil=>ext i v e;simp at e
 |cons h1 _ ih=>
  ext i v e;cases i with
  |zero=>cases e;show(_,rfl,h1)
  |succ i=>show ih ↑e
end
section
variable{a:Addr}{es:Array (Int×Value)}{ep:Nat}{t:ib}{K:Type}[DecidableEq K]{kd:KeyKind prog w K}{ms:List K}{k:K}{v:Value}
def SO.mem(S:SO kd s.heap a es ep t ms):(∃e∈es.toList,kd.is k e.2=lS)↔k∈ms:=by
 rw[<- b5O S.nums]
 constructor
 .ext⟨e,c,b⟩;show(e.2,bP c,b)
 .ext⟨u,d,b⟩;let(e,c,rfl):=bf.mp d;show(e,c,b)
def SO.stored{h:Heap}(ho:h.get? a=bo o)(hx:o.ExactSet)(hd:o.data=.set es ep t)(hel:kh kd es'.toList)(hi:KsAre kd (es'.toList.map (·.2)) ms')(hs:es'.size<iR)(hf:t'.fits es'.size=lS)(hk:TOk (!byT w) t') :
  (h.update a (Obj.putSet es' t')).get? a=bo { o with data:=.set es' (ep+1) t' }/\SO kd (h.update a (Obj.putSet es' t')) a es' (ep+1) t' ms':=by
 let b:(h.update a (Obj.putSet es' t')).get? a=bo { o with data:=.set es' (ep+1) t' }:=by
  let q:=Heap.get?_update_self (Obj.putSet es' t') ho (by rw[putSet_of es' t' hd];rfl);rw[putSet_of es' t' hd]at q;show q
 show(b,((_,b,hx,rfl),hel,hi,hs,hf,hk))
def a6X(h:t.fits n=lS):({ t with plain:=b }:ib).fits n=lS:=by cases t;show h
def TOk.plain(h:TOk led t):TOk led ({ t with plain:=b }:ib):=(h.up,h.dm,h.ld)
def a5s(hkey:kd.is k v=lS)(hsv:v.scannable=lS)(S:SO kd s.heap a es ep t ms)(hr:ms.length+1<iR)
  (h:∀h' ms' b,Heap.SameBut a s.heap h'->SI kd h' a ms'->ms'.Perm (if k∈ms then ms else ms++[k])->Q b { s with heap:=h' }) :
  wpAny (model prog w) A (ki a v (kd.hash k)) Q E s:=by
 let((o,C,hx,D),n,l,V,x,hok):=id S;let M:es.size=ms.length:=by
  o_head (a8r l)
 unfold ki lj;show iB (hZ (iO C D x ?_));dsimp only;rw[byScan_of hsv V n];simp only[↓reduceIte];unfold setAddByScan;show hZ (hZ (iW (hZ (wpAny_setScan_of hkey C D x n ?_))));cases hf:gh (λe=>kd.is k e.2) es.toList with
 |some j=>
  dsimp only;let(hj,T,_):=List.findIdx?_eq_some_iff_getElem.mp hf;let g:k∈ms:=S.mem.mp (_,bN hj,T);show h9 (h9 (h s.heap ms lT (Heap.SameBut.refl a s.heap) (es,ep,t,S) (by rw[if_pos g])))
 |none=>
  dsimp only;let g:k∉ms:=λz=>by
   let(e,he,T):=S.mem.mpr z;let q:=List.findIdx?_eq_none_iff.mp hf e he;rw[T]at q;cases q
  let i:=layNew_perm t es (kd.hash k) v;let p:=layNew_fits t es (kd.hash k) v;let y:=hok.layNew es (kd.hash k) v;generalize layNew t es (kd.hash k) v=L at i p y ⊢;let(c,t1,wd,gv):=L;dsimp only at i p y ⊢;rw[bS]at i;let F:=(n.push hkey hsv).perm i;let sz1:c.size=ms.length+1:=by rw[<- bu,i.length_eq,bg,bu,M];rfl
  let(X,I,J):=a0N (vs':=c.toList.map (·.2)) (b21 l hkey) (by
   let q:=i.map (·.2);rw[aV]at q;show q)
  let G:c.size<scanBound:=by lia
  let H:∀(d:ib),d.fits c.size=lS->TOk (!byT w) d->wpAny (model prog w) A (do
    kj a c d
    if (!wd&&d.tooFull)=lS then do
     (match (jA d c (ib.grown c.size)).2.2 with |true=>rule "set.scan.the-table-gave-way" |false=>pure ())
     kj a (jA d c (ib.grown c.size)).1 (jA d c (ib.grown c.size)).2.1
     pure (bo lS)
    else pure (bo lS)) (λr U=>wpAny (model prog w) A (match r with |some added=>pure added |none=>lj a v (kd.hash k) 99999) Q E U) E s:=by
   ext d f2 k2;show hZ (jR C D ?_ (jS G));let(Y,S1):=SO.stored C hx D F I G f2 k2;let b1:=Heap.SameBut.update s.heap a (Obj.putSet c d)
   split
   .let B:=relayAll_perm d c (ib.grown c.size);let N:=relayAll_fits d c (ib.grown c.size);let R:=k2.relay c (ib.grown c.size);generalize jA d c (ib.grown c.size)=W at B N R ⊢;let(m,t3,g3):=W;dsimp only at B N R ⊢;let sz2:m.size=c.size:=by rw[<- bu,B.length_eq,bu]
    let(ms2,im2,pm2):=a0N I (B.map (·.2));show hZ ?_;let u:wpAny (model prog w) A (kj a m t3 >>= λ_=>pure (bo lS)) (λr U=>wpAny (model prog w) A (match r with |some added=>pure added |none=>lj a v (kd.hash k) 99999) Q E U) E { s with heap:=s.heap.update a (Obj.putSet c d) }:=by
     show hZ (jR Y rfl ?_ (jS (by lia)));let(_,S2):=SO.stored (t:=d) Y hx rfl (F.perm B) im2 (by lia) N R;show h9 (h9 (h _ ms2 lS (b1.trans (Heap.SameBut.update _ a _)) (m,_,t3,S2) (if_neg g▸pm2.trans J)))
    cases g3 with
    |true=>show iW u
    |false=>show h9 u
   .show h9 (h9 (h _ X lS b1 (c,_,d,S1) (if_neg g▸J)))
  let gw:∀{β:Type}{f:Unit->Sem β}{Q':β->Shared->Prop},wpAny (model prog w) A (f ()) Q' E s->wpAny (model prog w) A ((match gv with |true=>rule "set.scan.the-table-gave-way" |false=>pure ()) >>= f) Q' E s:=λhq=>by
   cases gv with
   |true=>show hZ (iW hq)
   |false=>show hZ (h9 hq)
  show gw ?_
  split
  .show hZ ?_;rw[hashByValue_scannable 8 hsv];show h9 ?_;show H _ ?_ ?_<;>cases plainKind v<;>first |show p |show a6X p |show y |show y.plain
  .show hZ (h9 ?_);simp only[↓reduceIte];show H t1 p y
end
def SI.at{K:Type}[DecidableEq K]{kd:KeyKind prog w K}{ms:List K}(S:SI kd h a ms)(k:∀o,h.get? a=bo o->h'.get? a=bo o):SI kd h' a ms:=by
 let(l,i,t,(o,g,x,d),f,j,e,c,b):=S;show(l,i,t,(o,k o g,x,d),f,j,e,c,b)
def Met{K:Type}(val:Nat->K)(i:Nat)(ms:List K):Prop:=ms.Nodup/\ms.length<=i/\∀x,x∈ms↔∃j,j<i/\val j=x
def Met.step{K:Type}[DecidableEq K]{val:Nat->K}{ms ms':List K}(h:Met val i ms)(p:ms'.Perm (if val i∈ms then ms else ms++[val i])):Met val (i+1) ms':=by
 let(d,k,b):=h;let a:∀x,(∃j,j<i+1/\val j=x)↔(∃j,j<i/\val j=x)\/x=val i:=λx=>by grind
 by_cases c:val i∈ms
 .rw[if_pos c]at p;show(p.nodup_iff.mpr d,by rw[p.length_eq];lia,λx=>?_);rw[p.mem_iff,a,b];show(.inl,λz=>z.elim id λe=>(b x).mp (e▸c))
 .rw[if_neg c]at p;show(p.nodup_iff.mpr ?_,by rw[p.length_eq];simp;show k,λx=>?_)
  .rw[b9];show(d,by simp,λx g y f=>by rw[aS.mp f];ext rfl;show c g)
  .rw[p.mem_iff,a,aP,b,aS]
section
variable{R:Result->Shared->Prop}{I:Addr}{fp wr:List Addr}{G:Array kl->Array kl->Prop}{n:Nat}{P:Nat->Value->Prop}{St:Nat->Shared->Prop}{K:Type}[DecidableEq K]{kd:KeyKind prog w K}
def b0v(W:WalksS prog w A.in1 I fp wr G n P St)(S:Addr)(hSf:S∉fp)(val:Nat->K)(hv:∀i v,P i v->kd.is (val i) v=lS/\v.scannable=lS)(hb:n+1<iR) :
  ∀(k i:Nat)(s:Shared)(ms:List K),n-i=k->i<=n->St i s->SI kd s.heap S ms->Met val i ms ->
   (∀s' ms',Moved (S::wr) G s s'->SI kd s'.heap S ms'->Met val n ms'->R (.ok (.ret .none)) s') ->
   iS (model prog w) A (.builtin "set.update.loop" ([.ref S,.ref I],[])) R s:=by
 let C:=λz=>hSf (W.sub _ z);let E:∀b∈wr,b∈S::wr:=λb z=>cr _ z;ext k
 induction k with
 |zero=>
  ext i s p Q U l r f m;let e:i=n:=by lia
  subst e;show je PyProof.Rows.F.entry_set_update_loop ?_;rw[Around.under_plainId PyProof.Rows.F.plain_set_update_loop _];show hZ (W.done s _ _ l λa d=>(h9 (m a p (d.mono E) (r.at λo g=>d.heap S o C g) f)))
 |succ k ih=>
  ext i s p Q U l r f m;show je PyProof.Rows.F.entry_set_update_loop ?_;rw[Around.under_plainId PyProof.Rows.F.plain_set_update_loop _];show hZ (W.item i s _ _ (by lia) l λv a M H d=>?_);let(j,x):=hv i v M;let(Y,V,t,S1):=r.at λo g=>d.heap S o C g;show hZ (iB (iB (hZ (kd.pyHash j (a5s j x S1 (by let:=f.2.1;lia) λh' J b h y N=>(h9 (jq PyProof.Rows.F.plain_set_update_loop _,ih (i+1) _ J (by lia) (by lia) (W.frame _ a _ _ H (dy _) λc q o g=>?_) y (f.step N) λT X B u D=>?_)))))))
  .rw[h.2 c λz=>hSf (z▸q)];show g
  .show m T X (Moved.trans W.gtrans ((d.mono E).then_heap (dy _) λc o q g=>?_) B) u D;rw[h.2 c λz=>q (by grind)];show g
end
section
variable{K:Type}[DecidableEq K]{kd:KeyKind prog w K}
abbrev a0n(w:World):Obj:={ cls:=.type "set",dict:=lR,data:=.set #[] 0 (.fresh 0 0 (!byT w)) }
def SI.fresh(g:h.get? a=bo (a0n w)):SI kd h a []:=
 (#[],0,.fresh 0 0 _,(_,g,(rfl,rfl,rfl),rfl),λe b=>by simp at b,.nil,by decide,rfl,(.nil,rfl,rfl))
def a8s(a:Value)(h:Q (.ref s.heap.objs.size) { s with heap:=s.heap.push (a0n w) }) :
  iS (model prog w) A (.call (.builtin "set.__new__") ([.type "set",a],[])) (wants Q E) s:=by
 show lq ?_
 change wpAny _ A.in1 (do jM "set.__new__" ([.type "set",a],[]);again (.builtin "set.__new__" ([.type "set",a],[]))) _ _ s
 show hZ (km (PySem.F.newCall_set_1 a) (h9 (jq PySem.F.plain_set_new _,je PySem.F.entry_set_new ?_)));rw[Around.under_plainId PySem.F.plain_set_new _];unfold im.«set.__new__» im.Frozenset.newClass;let sub:=sub_set_self;let(hp,g,d,tk,os):=s;dsimp only
 wp_walk
 show jT (h9 ?_);dsimp only;simp only[newObj];show hZ (wpAny_alloc (h9 (h9 h)))
set_option maxHeartbeats 3200000 in
def call_set(hh:A.handled=lR)(hl:s.heap.IsList l items)(hi:KsAre kd items.toList ns)(hsv:∀v∈items.toList,v.scannable=lS)(hb:items.size+1<iR)
  (h:∀(h':Heap)(tk:Nat)(ms:List K),SI kd h' s.heap.objs.size ms->Met (λi=>ns.getD i k0) items.size ms->(∀b o,b<s.heap.objs.size->s.heap.get? b=bo o->h'.get? b=bo o)->Q (.ref s.heap.objs.size) { s with heap:=h',toks:=tk }) :
  wpAny (model prog w) A (call (.type "set") [.ref l]) Q E s:=by
 let(mc,mt,mro):=PySem.F.called_set.mro;let md:=PySem.F.called_set.made;let sb:=PySem.F.called_set.sub;show jj (lq ?_)
 change wpAny _ _ (callAny (.type "set") _) _ _ _
 show h9 (Code.quiet_builtin _ (by decide +kernel),je PySem.F.entry_type_call ?_);rw[Around.under_plain (weight_type_call_type "set" [.ref l] []) rfl];let nt:=PySem.F.called_set.notType;let cc:=PySem.F.called_set.canCreate;let tc:=PySem.F.typeCall_set_1 (.ref l)
 repeat (any_goals (first |assumption |wp_step))
 show i7 (a8s (w:=w) (.ref l) (E:=E) (Q:=λobj s1=>obj=.ref s.heap.objs.size/\s1={ s with heap:=s.heap.push (a0n w) }) (rfl,rfl)) λr s1 hr=>?_;cases r with
 |error e=>show hr
 |ok fl=>
  cases fl with
  |ret obj=>
   let(rfl,rfl):=hr;let gS:(s.heap.push (a0n w)).get? s.heap.objs.size=bo (a0n w):=Heap.get?_push_size _ rfl;let tS:Shared.TypeIs { s with heap:=s.heap.push (a0n w) } (.ref s.heap.objs.size) "set":=(_,gS,rfl);let li:=PySem.F.called_set.init.lookup;let bi:=PySem.F.called_set.init.bind (.ref s.heap.objs.size)
   repeat (any_goals (first |assumption |wp_step))
   show i7 (kU (R:=wants (λr s2=>r=.none/\Ex3 λh' tk ms=>An4 (s2={ s with heap:=h',toks:=tk }) (SI kd h' s.heap.objs.size ms) (Met (λi=>ns.getD i k0) items.size ms) (∀b o,b<s.heap.objs.size->s.heap.get? b=bo o->h'.get? b=bo o)) E) PySem.F.called_set.init.plain PySem.F.entry_set_init (check_set_init_1 tS ?_)) λr2 s2 hr2=>?_
   .let(ol,gl,cl,nl,dl):=hl;let(oc,od,ob,osl):=ol;simp only at cl dl;subst cl dl;let gl':(s.heap.push (a0n w)).get? l=bo { cls:=.type "list",dict:=od,data:=.seq items nl,slots:=osl }:=Heap.get?_push_of_some _ gl;let s1:=PySem.F.sub_list_set;let s2:=PySem.F.sub_list_frozenset;let ne:(Value.type "list"==Value.type "dict")=lT:=by decide
    let il:(s.heap.push (a0n w)).IsList l items:=(_,gl',rfl,nl,rfl);unfold im.«set.__init__» noKeywords im.Frozenset.updateFrom;generalize hPI:pyIter=PI
    wp_walk
    subst hPI;show jY il (hZ (wpAny_runValue ?_));let ll:l<s.heap.objs.size:=Heap.lt_size gl;let h3:A.in1.in1.in1.handled=lR:=by simp[hh]
    let nI:l≠(s.heap.push (a0n w)).objs.size:=by rw[Heap.size_push];show aY (dj ll)
    let nf:s.heap.objs.size∉[(s.heap.push (a0n w)).objs.size,l]:=by
     rw[Heap.size_push];simp only[aO,aS,dH,or_false,not_or];show(aY (eI _),bZ ll)
    show b0v ((Walks.list h3 _ l nI items).toS) s.heap.objs.size nf (λi=>ns.getD i k0) (λi v e=>by
     let e':items.toList[i]?=bo v:=by rw[cm];show e
     let(k,h1,h2):=b78 hi e';show(by rw[dc,h1];show h2,hsv v (bp e'))) hb (items.size-0) 0 _ [] (by lia) (bv _)
     ((_,Heap.get?_push_size _ rfl,rfl,rfl),(il.push _)) (SI.fresh (Heap.get?_push_of_some _ gS)) (.nil,aQ _,λx=>by simp) λs' ms mv hS hM=>?_
    let(h',g',d',tk',os'):=s';let eg:g'=s.gens:=mv.gens;let ed:d'=s.drawn:=mv.drawn;let eo:os'=s.os:=mv.os;subst eg ed eo
    change wpAny _ _ _ _ _ _
    show h9 ?_
    change wpAny _ _ (ret Value.none) _ _ _
    show h9 (rfl,h',tk',ms,rfl,hS,hM,λb o hb e=>?_);show mv.heap b o ?_ (Heap.get?_push_of_some _ (Heap.get?_push_of_some _ e));simp only[aO,aS,dH,or_false,not_or];show(aY hb,by rw[Heap.size_push];show aY (dj hb))
   .cases r2 with
    |error e=>show hr2
    |ok f2=>
     cases f2 with
     |ret r=>
      let(rfl,h',tk,ms,rfl,hS,hM,hk):=hr2
      repeat (any_goals (first |assumption |wp_step))
      show h _ _ _ hS hM hk
     |_=>show hr2.elim
  |_=>show hr.elim
end
def sit_next:Slot "set_iterator" "__next__" "set_iterator.__next__":=.of (owner:="set_iterator") (n:="__next__") (by rw[typeLookup_type,builtinLookup_eq_fast];kernel_rfl) (by decide +kernel) (by decide +kernel) (by decide +kernel) (by first |show .inl (by decide +kernel) |show .inr (by decide +kernel)) (by rw[jU];kernel_rfl)
def a0P:jV table "set_iterator.__next__"=bo im.«set_iterator.__next__»:=entryFor_of_tree (by kernel_rfl)
def a59:Slot "set_iterator" "__iter__" "set_iterator.__iter__":=.of (owner:="set_iterator") (n:="__iter__") (by rw[typeLookup_type,builtinLookup_eq_fast];kernel_rfl) (by decide +kernel) (by decide +kernel) (by decide +kernel) (by first |show .inl (by decide +kernel) |show .inr (by decide +kernel)) (by rw[jU];kernel_rfl)
def a3j:jV table "set_iterator.__iter__"=bo im.«dict_keyiterator.__iter__»:=lu (id':="dict_keyiterator.__iter__") (by kernel_rfl) rfl (by decide +kernel) (by kernel_rfl)
def a3k:jV table "set.__iter__"=bo im.«frozenset.__iter__»:=lu (id':="frozenset.__iter__") (by kernel_rfl) rfl (by decide +kernel) (by kernel_rfl)
def a4E:Manifest.owners.lookup (String.ofList ['r','o','t','a','r','e','t','i','_','t','e','s'].reverse)=bo Manifest.sig_set_iterator:=by kernel_rfl
def a0Z(a:Value):argsOk "set_iterator.__next__" ([a],[]):=by unfold argsOk;rw[signature?_of (n:=['_','_','t','x','e','n','_','_']) (by kernel_rfl) a4E];kernel_rfl
def a32(a:Value):argsOk "set_iterator.__iter__" ([a],[]):=by unfold argsOk;rw[signature?_of (n:=['_','_','r','e','t','i','_','_']) (by kernel_rfl) a4E];kernel_rfl
def SetIt(h:Heap)(it a:Addr)(first:Value)(i n ep:Nat):Prop:=∃o,h.get? it=bo o/\o.cls=.type "set_iterator"/\o.data=.fields #[first,.int i 0,.ref a,.int n 0,.int ep 0]
def SetIt.ty{s:Shared}(x:SetIt s.heap it a f i n ep):s.TypeIs (.ref it) "set_iterator":=let (o,g,c,_):=x;(o,g,c)
def SetIt.at(x:SetIt h it a f i n ep)(e:∀o,h.get? it=bo o->h'.get? it=bo o):SetIt h' it a f i n ep:=let (o,g,r):=x;(o,e _ g,r)
section
variable{it a:Addr}{f:Value}{i n ep:Nat}{o:Obj}{k:Nat}{es:Array (Int×Value)}{t:ib}{K:Type}[DecidableEq K]{kd:KeyKind prog w K}{ms:List K}
def a33(x:SetIt s.heap it a f i n ep)(h:Q (.ref it) s):wpAny (model prog w) A (pyIter (.ref it)) Q E s:=by
 show wpAny_pyIter_slot x.ty a59 (iI a59 x.ty a3j ?_ (a32 _));show h9 (_,rfl,"set_iterator",_,x.ty,sit_next.lookup,h)
def a6a(hh:A.handled=lR)(hQ:∀h':Heap,(∀b o,s.heap.get? b=bo o->h'.get? b=bo o)->Q lR { s with heap:=h' }) :
  wpAny (model prog w) A.in1 (newExc (.type "StopIteration") [] >>= λe=>(raiseNew e:Sem Final)) (λ_ _=>False) (λe s'=>wpAny (model prog w) A (do if <- isInstance e (.type "StopIteration") then pure (lR:Option Value) else throw e) Q E s') s:=by
 show hZ (hZ (i5 ?_ (by size_fits)));show hZ (km (by first |rfl | (simp;rfl)) (i5 ?_ (by size_fits)))
 show hZ (wpAny_handled ?_);rw[hh];show hZ (h9 (wpAny_throw ?_));show hZ (jr (_,Heap.get?_push_size _ rfl,rfl) isSubtype_stop ?_);show h9 (hQ _ λb o e=>Heap.get?_push_of_some _ (Heap.get?_push_of_some _ e))
def a4F(S:SO kd s.heap a es ep t ms)(hT:byT w=lS)(h:Q (((i6 (w.params.setOrder a ep) es)[i]?).map λe=>(e.2,k,)) s) :
  wpAny (model prog w) A (kr a k i ep) Q E s:=by
 let((o,f,n,d),l,g,j,b,m):=id S;show hZ (iO f d b (iV (λ_=>?_) λc=>absurd hT c));simp;show hZ (hZ (iO f d b (iV (λ_=>?_) λc=>absurd hT c)));show hZ (jT (h9 (h9 h)))
def a3y(S:SO kd s.heap a es ep t ms)(hT:byT w=lT)(hp:(!t.plain&&decide (es.size > 1))=lT)
  (h:Q (match es[ib.below t.place k]?,t.place[ib.below t.place k]? with |some (_,x,),bo j=>bo (x,j+1,) |_,_=>lR) s) :
  wpAny (model prog w) A (kr a k i ep) Q E s:=by
 let((o,g,n,f),m,e,l,b,d):=id S;show hZ (iO g f b (iV (λc=>by rw[show (model prog w).w.params.followText "set-order"=byT w from rfl,hT]at c;cases c) λ_=>?_))
 change wpAny _ _ (if (!t.plain&&decide _)=lS then _ else _) _ _ _
 rw[hp]
 change wpAny _ _ ((if _=lS then _ else _) >>= _) _ _ _
 rw[d.ld,hT];show hZ (h9 (h9 h))
def a4G(x:SetIt s.heap it a (.int k 0) i es.size ep)(S:SO kd s.heap a es ep t ms)
  (hnx:∀(B:Around)(F:Value->Shared->Prop)(R:Option (Value×Nat)->Shared->Prop),R (bo (v,nx,)) s->wpAny (model prog w) B (kr a k i ep) R F s)
  (hQ:∀h',SetIt h' it a (.int nx 0) (i+1) es.size ep->Heap.SameBut it s.heap h'->Q (bo v) { s with heap:=h' }):wpAny (model prog w) A (pyNext (.ref it)) Q E s:=by
 let(u,e,n,b):=id x;let((o,l,C,j),r,h,y,c,z):=id S;show hZ (i9 (wpAny_callSpecial?_slot x.ty sit_next (iI sit_next x.ty a0P ?_ (a0Z _))));show hZ (h9 (hZ (kt e b (hZ (js l j c ?_)))));simp;show hZ (hnx _ _ _ (hZ (i8 e b (by simp) ?_)));let f:=Heap.get?_update_self (Obj.mapFields (·.setIfInBounds 0 (rawInt nx))) e (Obj.isFreed_of_fields (Obj.data_mapFields b _));let d:=Obj.data_mapFields b (·.setIfInBounds 0 (rawInt nx));show hZ (i8 f d (by simp) ?_);let q:=Obj.data_mapFields d (·.setIfInBounds 1 (rawInt (i+1)));let p:SetIt _ it a (.int nx 0) (i+1) es.size ep:=
  (_,(Heap.get?_update_self (Obj.mapFields (·.setIfInBounds 1 (rawInt (i+1)))) f (Obj.isFreed_of_fields (Obj.data_mapFields d _))),(Obj.cls_mapFields ..).trans ((Obj.cls_mapFields ..).trans n),by rw[q];simp[rawInt])
 show h9 (_,rfl,?_);show h9 (hQ _ p ((Heap.SameBut.update ..).trans (Heap.SameBut.update ..)))
def a6b(hh:A.handled=lR)(x:SetIt s.heap it a (.int k 0) i es.size ep)(S:SO kd s.heap a es ep t ms)
  (hnx:∀(B:Around)(F:Value->Shared->Prop)(R:Option (Value×Nat)->Shared->Prop),R lR s->wpAny (model prog w) B (kr a k i ep) R F s)
  (hQ:∀h',(∀b o,b≠it->s.heap.get? b=bo o->h'.get? b=bo o)->Q lR { s with heap:=h' }):wpAny (model prog w) A (pyNext (.ref it)) Q E s:=by
 let(u,d,G,f):=id x;let((o,g,C,p),v,h,r,c,y):=id S;show hZ (i9 (wpAny_callSpecial?_slot x.ty sit_next (iI sit_next x.ty a0P ?_ (a0Z _))));show hZ (h9 (hZ (kt d f (hZ (js g p c ?_)))));simp;show hZ (hnx _ _ _ (hZ (i8 d f (by simp) (iw (a6a hh λj n=>?_) (λ_ _ z=>z.elim) λe D z=>z))));show (hQ j λb o l e=>n b o ((Heap.SameBut.update s.heap it _).extBut b o l e))
end
theorem a2n{α:Type}:∀(l:List α){i:Nat}(h:i<l.length),l.Perm (l[i]::l.eraseIdx i)
 |x::l,0,_=>by simp
 |x::l,i+1,h=>by
  show (bx.cons x (a2n l ↑h)).trans (bx.swap _ _ _)
def b22{α:Type}(next:Nat->Nat):∀(fuel k:Nat)(left:List α)(out:Array α),fuel=left.length->(i6.go next fuel k left out).toList.Perm (out.toList++left):=by ext z0;induction z0 with
 |zero=>
  ext k left out h
  let:=cC.mp h.symm
  subst this;unfold i6.go;simp
 |succ fuel I0=>
  ext k left out h;unfold i6.go;let a:next k % left.length<left.length:=eA _ (by lia);rw[aU a];show (I0 _ _ _ (by grind)).trans ?_;rw[bS,bB];show bx.append_left _ (a2n left a).symm
def a21{α:Type}(next:Nat->Nat)(xs:Array α):(i6 next xs).toList.Perm xs.toList:=by
 let:=b22 next xs.size 0 xs.toList #[] (by simp)
 simpa[i6]using this
noncomputable def a16(t:ib):Nat->Nat
 |0=>0
 |j+1=>t.place.getD j 0+1
def a3z(h:TOk led t)(hi:i<=t.place.size):ib.below t.place (a16 t i)=i:=by
 let(f,a,d):=a58 h.up (a16 t i);cases i with
 |zero=>
  by_cases c:ib.below t.place (a16 t 0)=0
  .grind
  .let:=a 0 (by lia) (by lia)
   let z:a16 t 0=0:=rfl
   lia
 |succ j=>
  let b:j<t.place.size:=by lia
  let e:a16 t (j+1)=t.place[j]+1:=by change t.place.getD j 0+1=_;rw[gi,bQ b];rfl
  let c||c||c:=Nat.lt_trichotomy (ib.below t.place (a16 t (j+1))) (j+1)
  .grind
  .cbv
  .let q:=a (j+1) (by lia) c;let r:=b0s h.up (show j<j+1 by lia) (by lia)
   lia
def SO.at{K:Type}[DecidableEq K]{kd:KeyKind prog w K}{ms:List K}(S:SO kd h a lU ep t ms)(k:∀o,h.get? a=bo o->h'.get? a=bo o):SO kd h' a lU ep t ms:=by
 let((o,g,x,d),i,f,e,b,c):=S;show((o,k o g,x,d),i,f,e,b,c)
section
variable{it a:Addr}{f:Value}{i n ep k:Nat}{o:Obj}{es:Array (Int×Value)}{t:ib}{K:Type}[DecidableEq K]{kd:KeyKind prog w K}{ms:List K}{T:Addr}{ps:List Nat}
noncomputable def b0w(w:World)(a:Addr)(ep:Nat)(es:Array (Int×Value)):List Value:=(i6 (w.params.setOrder a ep) es).toList.map (·.2)
def a8t(hh:A.handled=lR)(hne:a≠it)(hT:byT w=lS):Walks prog w A it [it,a] [it] es.size (λi v=>(b0w w a ep es)[i]?=bo v) (λi h=>SetIt h it a (.int (0:Nat) 0) i es.size ep/\SO kd h a es ep t ms):=by
 let p:(i6 (w.params.setOrder a ep) es).size=es.size:=by rw[<- bu,(a21 _ es).length_eq,bu]
 show(λb d=>by simp at d;simp[d],λ_ _ _ c m=>(c.1.at λo e=>m it (by simp) o e,c.2.at λo e=>m a (by simp) o e),λi s Q E q c f=>?_,λs Q E c f=>?_,λ_ _ _ _ c f=>a33 c.1 f)
 .let l:(i6 (w.params.setOrder a ep) es)[i]?=bo ((i6 (w.params.setOrder a ep) es)[i]'(by lia)):=bQ _;show a4G (v:=((i6 (w.params.setOrder a ep) es)[i]'(by lia)).2) (nx:=0) c.1 c.2 (λB F R g=>a4F c.2 hT ?_) λj x k=>?_
  .simp_all
  .show f _ j s.toks ?_ (x,c.2.at λo e=>k.extBut a o hne e) λb o d e=>k.extBut b o (λz=>d (by simp[z])) e;unfold b0w;rw[aR,cm,l]
   rfl
 .show a6b hh c.1 c.2 (λB F R g=>a4F c.2 hT ?_) λj n=>f j s.toks λb o d e=>n b o (λz=>d (by simp[z])) e;rw[gj (by lia)];show g
def a6Y(hh:A.handled=lR)(hne:a≠it)(hT:byT w=lT)(hp:(!t.plain&&decide (es.size > 1))=lT)(hf:t.fits es.size=lS)(ok:TOk (!byT w) t) :
  Walks prog w A it [it,a] [it] es.size (λi v=>(es.toList.map (·.2))[i]?=bo v) (λi h=>SetIt h it a (.int (a16 t i) 0) i es.size ep/\SO kd h a es ep t ms):=by
 let q:t.place.size=es.size:=by
  simp only[ib.fits,b7,beq_iff_eq]at hf;show hf.1
 show(λb d=>by simp at d;simp[d],λ_ _ _ c m=>(c.1.at λo e=>m it (by simp) o e,c.2.at λo e=>m a (by simp) o e),λi s Q E n c f=>?_,λs Q E c f=>?_,λ_ _ _ _ c f=>a33 c.1 f)
 .let j:i<t.place.size:=by lia
  show a4G (v:=es[i].2) (nx:=a16 t (i+1)) c.1 c.2 (λB F R g=>a3y c.2 hT hp ?_) λk x l=>?_
  .rw[a3z ok (by lia),bQ n,bQ j];let e:a16 t (i+1)=t.place[i]+1:=by change t.place.getD i 0+1=_;rw[gi,bQ j];rfl
   rw[e]at g;show g
  .show f _ k s.toks ?_ (x,c.2.at λo e=>l.extBut a o hne e) λb o d e=>l.extBut b o (λz=>d (by simp[z])) e;rw[aR,cm,bQ n]
   rfl
 .show a6b hh c.1 c.2 (λB F R g=>a3y c.2 hT hp ?_) λk p=>f k s.toks λb o d e=>p b o (λz=>d (by simp[z])) e;rw[a3z ok (by lia),gj (by lia)];show g
def b23(hn:n≠0)(h:∀i d',i<n->Q i { s with drawn:=d' }):wpAny (model prog w) A (choose src n) Q E s:=
 λ_ _ _=>(hn,h _ _ (eA _ (Nat.pos_of_ne_zero hn)))
theorem a34{α:Type}:∀(n:Nat)(xs:List α)(s:Shared)(Q:List α->Shared->Prop),xs.length=n->(∀ys d',ys.Perm xs->Q ys { s with drawn:=d' })->wpAny (model prog w) A (drawOrder n xs) Q E s
 |0,xs,s,Q,hl,h=>by
  let:=cC.mp hl
  subst this;show h9 (h [] s.drawn .nil)
 |n+1,[],s,Q,hl,h=>by cases hl
 |n+1,x::xs,s,Q,hl,h=>by
  show hZ (b23 (by simp) λi e a=>?_);rw[aU a];show hZ (a34 n _ _ _ (by grind) λd c b=>(h9 (h _ c ((bx.cons _ b).trans (a2n _ a).symm))))
def PlacesAt(h:Heap)(T:Addr)(ps:List Nat):Prop:=∃o c,h.get? T=bo o/\o.data=.seq (ps.map λ(i:Nat)=>rawInt i).toArray c
def PlacesAt.at(x:PlacesAt h T ps)(k:∀o,h.get? T=bo o->h'.get? T=bo o):PlacesAt h' T ps:=by let(o,c,g,d):=x;show(o,c,k _ g,d)
def a6Z(x:SetIt s.heap it a (.ref T) i es.size ep)(S:SO kd s.heap a es ep t ms)(y:PlacesAt s.heap T ps)(hp:ps[i]?=bo p)(he:es[p]?=bo e)
  (hQ:∀h',SetIt h' it a (.ref T) (i+1) es.size ep->Heap.SameBut it s.heap h'->Q (bo e.2) { s with heap:=h' }):wpAny (model prog w) A (pyNext (.ref it)) Q E s:=by
 let(u,f,k,d):=id x;let((o,h,G,g),D,n,B,b,C):=id S;let(F,c,q,v):=y;show hZ (i9 (wpAny_callSpecial?_slot x.ty sit_next (iI sit_next x.ty a0P ?_ (a0Z _))));show hZ (h9 (hZ (kt f d (hZ (js h g b ?_)))));rw[if_neg (by simp)];show hZ (hZ (jG q ?_));rw[v];show h9 ?_;dsimp only;let r:(ps.map λ(i:Nat)=>rawInt i).toArray[(i:Int).toNat]?=bo (rawInt p):=by simp_all
 rw[r]
 change wpAny _ _ (setNextDrawn a (p:Int).toNat (ep:Int).toNat >>= _) _ _ _
 show hZ (hZ (iO h g b ?_));simp;rw[he];show h9 (hZ (i8 f d (by simp) ?_));let j:=Obj.data_mapFields d (·.setIfInBounds 1 (rawInt ((i:Int)+1)));let z:SetIt _ it a (.ref T) (i+1) es.size ep:=
  (_,(Heap.get?_update_self (Obj.mapFields (·.setIfInBounds 1 (rawInt ((i:Int)+1)))) f (Obj.isFreed_of_fields (Obj.data_mapFields d _))),(Obj.cls_mapFields ..).trans k,by rw[j];simp[rawInt])
 show h9 (_,rfl,?_);show h9 (hQ _ z (Heap.SameBut.update ..))
def a8u(hh:A.handled=lR)(x:SetIt s.heap it a (.ref T) i es.size ep)(S:SO kd s.heap a es ep t ms)(y:PlacesAt s.heap T ps)(hp:ps[i]?=lR)
  (hQ:∀h',(∀b o,b≠it->s.heap.get? b=bo o->h'.get? b=bo o)->Q lR { s with heap:=h' }):wpAny (model prog w) A (pyNext (.ref it)) Q E s:=by
 let(u,f,I,d):=id x;let((o,k,J,C),G,p,H,g,F):=id S;let(L,c,j,l):=y;show hZ (i9 (wpAny_callSpecial?_slot x.ty sit_next (iI sit_next x.ty a0P ?_ (a0Z _))));show hZ (h9 (hZ (kt f d (hZ (js k C g ?_)))));rw[if_neg (by simp)];show hZ (hZ (jG j ?_));rw[l];show h9 ?_;dsimp only;let v:(ps.map λ(i:Nat)=>rawInt i).toArray[(i:Int).toNat]?=lR:=by simp_all
 rw[v];dsimp only;show hZ (i8 f d (by simp) ?_);let r:=Obj.data_mapFields d (·.setIfInBounds 0 (rawInt 0));show hZ (i8 (Heap.get?_update_self (Obj.mapFields (·.setIfInBounds 0 (rawInt 0))) f (Obj.isFreed_of_fields (Obj.data_mapFields d _))) r (by simp) ?_);show iw (a6a hh λB h=>?_) (λ_ _ z=>z.elim) λe M z=>z;show (hQ B λb o n e=>h b o (((Heap.SameBut.update s.heap it _).trans (Heap.SameBut.update _ it _)).extBut b o n e))
noncomputable def a4H(es:Array (Int×Value))(ps:List Nat):List Value:=ps.map λp=>((es[p]?).getD (0,.none,)).2
def a60(hh:A.handled=lR)(hne:a≠it)(hnT:T≠it)(hps:ps.Perm (bt es.size)) :
  Walks prog w A it [it,a,T] [it] es.size (λi v=>(a4H es ps)[i]?=bo v) (λi h=>SetIt h it a (.ref T) i es.size ep/\SO kd h a es ep t ms/\PlacesAt h T ps):=by
 let q:ps.length=es.size:=by rw[hps.length_eq,dN]
 show(λb d=>by simp at d;simp[d],λ_ _ _ c l=>(c.1.at λo e=>l it (by simp) o e,c.2.1.at λo e=>l a (by simp) o e,c.2.2.at λo e=>l T (by simp) o e),λi s Q E r c f=>?_,λs Q E c f=>?_,λ_ _ _ _ c f=>a33 c.1 f)
 .let g:i<ps.length:=by lia
  let m:=cB.mp (hps.mem_iff.mp (bN g));show a6Z c.1 c.2.1 c.2.2 (aU g) (bQ m) λj x k=>?_;show f _ j s.toks ?_ (x,c.2.1.at λo e=>k.extBut a o hne e,c.2.2.at λo e=>k.extBut T o hnT e) λb o d e=>k.extBut b o (λz=>d (by simp[z])) e;unfold a4H;rw[aR,aU g,di,bQ m]
  rfl
 .show a8u hh c.1 c.2.1 c.2.2 (dz (by lia)) λj n=>f j s.toks λb o d e=>n b o (λz=>d (by simp[z])) e
def a8v{α:Type}(d:α)(l:Array α):(bt l.size).map (λp=>(l[p]?).getD d)=l.toList:=by
 show gx (by simp) λi b a=>?_
 let:i<l.size:=by cbv
 simp[this]
def a61(hps:ps.Perm (bt es.size)):(a4H es ps).Perm (es.toList.map (·.2)):=by
 let q:=hps.map λp=>((es[p]?).getD (0,Value.none,)).2;show q.trans (bx.of_eq ?_);rw[<- a8v (0,Value.none,) es,bW]
 rfl
def SO.ty(S:SO kd s.heap a es ep t ms):s.TypeIs (.ref a) "set":=by let(o,g,x,_):=S.at_;show(o,g,x.1)
def SO.len(S:SO kd s.heap a es ep t ms):es.size=ms.length:=by
 let q:=a8r S.nums;o_head q
abbrev b5P(f:Value)(a:Addr)(n ep:Nat):Obj:={ cls:=.type "set_iterator",data:=.fields #[f,.int (0:Nat) 0,.ref a,.int n 0,.int ep 0] }
def a22{h:Heap}:SetIt (h.push (b5P f a n ep)) h.objs.size a f 0 n ep:=(_,Heap.get?_push_size _ rfl,rfl,rfl)
def b0x(hh:A.handled=lR)(S:SI kd s.heap a ms)
  (h:∀(I:Addr)(fp:List Addr)(g:Heap)(d':Drawn)(vs:List Value)(ns:List K)(St:Nat->Heap->Prop),(∀b o,s.heap.get? b=bo o->g.get? b=bo o)->s.heap.objs.size<=I->(∀b∈fp,b=a\/s.heap.objs.size<=b) ->
   KsAre kd vs ns->ns.Perm ms->Walks prog w A I fp [I] vs.length (λi v=>vs[i]?=bo v) St->St 0 g->Q (.ref I) { s with heap:=g,drawn:=d' }) :
  wpAny (model prog w) A (pyIter (.ref a)) Q E s:=by
 let(es,ep,t,S):=S;let((o,p,hx,y),hel,n,N,f,L):=id S;let G:a<s.heap.objs.size:=Heap.lt_size p;show wpAny_pyIter_slot S.ty PySem.F.slot_set_iter (iI PySem.F.slot_set_iter S.ty a3k ?_ (PySem.F.args_set_iter_1 _));unfold im.«frozenset.__iter__» im.Frozenset.slot0 im.Frozenset.sizeOf;show hZ (hZ (h9 (h9 (hZ (hZ (js p y f (h9 ?_)))))));unfold setDrawn setsByText;show hZ (hZ (iO p y f (hZ (hZ (jT (h9 ?_))))));dsimp only;show h9 ?_
 change wpAny _ _ (if (!byT w&&(!t.plain&&decide (es.size > 1)))=lS then _ else _) _ _ _
 let B:(es.toList.map (·.2)).length=es.size:=by simp
 by_cases c:(!byT w&&(!t.plain&&decide (es.size > 1)))=lS
 .rw[if_pos c];show hZ (a34 es.size (bt es.size) _ _ (by simp) λx d' q=>?_);let r:x.length=es.size:=by rw[q.length_eq,dN]
  let sb:iR<=16777216:=by decide
  show hZ (jz ?_ (by rw[aN,r,ir];lia));show hZ (kw (Heap.get?_push_of_some _ p) y f ?_);unfold newFields;show hZ (i5 (h9 (_,rfl,"set_iterator",_,(_,Heap.get?_push_size _ rfl,rfl),sit_next.lookup,?_)));let(D,C,H):=a0N n (a61 (es:=es) q);let k:s.heap.objs.size<(s.heap.push { cls:=.type "tuple",data:=.seq (x.map λ(i:Nat)=>rawInt i).toArray }).objs.size:=by rw[Heap.size_push];show eI _
  let j:=a60 (kd:=kd) (A:=A) (t:=t) (ms:=ms) (ep:=ep) (a:=a) hh (aY (dG G k)) (aY k) q;let e:(a4H es x).length=es.size:=by unfold a4H;rw[aN,r]
  rw[<- e]at j;show h _ _ _ _ _ D _ (λb o g=>Heap.get?_push_of_some _ (Heap.get?_push_of_some _ g)) (bT k) (λb u=>?_) C H j (?_,S.at λo g=>Heap.get?_push_of_some _ (Heap.get?_push_of_some _ g),(_,_,Heap.get?_push_of_some _ (Heap.get?_push_size _ rfl),rfl))
  .simp only[aO,dH,or_false]at u;let rfl||rfl||rfl:=u
   .show .inr (bT k)
   .show .inl rfl
   .show .inr (aQ _)
  .rw[e];show a22
 .rw[if_neg c];show hZ (h9 (hZ (kw p y f ?_)));unfold newFields;show hZ (i5 (h9 (_,rfl,"set_iterator",_,(_,Heap.get?_push_size _ rfl,rfl),sit_next.lookup,?_)));let z:∀b∈[s.heap.objs.size,a],b=a\/s.heap.objs.size<=b:=λb u=>by grind
  cases k:byT w with
  |true=>
   let J:(b0w w a ep es).Perm (es.toList.map (·.2)):=(a21 _ es).map _;let(D,C,H):=a0N n J;let j:=a8t (kd:=kd) (A:=A) (t:=t) (ms:=ms) (ep:=ep) (es:=es) (a:=a) hh (aY G) k;let e:(b0w w a ep es).length=es.size:=by rw[J.length_eq,B]
   rw[<- e]at j;show h _ _ _ _ _ D _ (λb o g=>Heap.get?_push_of_some _ g) (aQ _) z C H j (?_,S.at λo g=>Heap.get?_push_of_some _ g);rw[e];show a22
  |false=>
   let M:(!t.plain&&decide (es.size > 1))=lT:=by
    rw[k]at c;o_head c
   let j:=a6Y (kd:=kd) (A:=A) (t:=t) (ms:=ms) (ep:=ep) (es:=es) (a:=a) hh (aY G) k M f L;rw[<- B]at j;show h _ _ _ _ _ ms _ (λb o g=>Heap.get?_push_of_some _ g) (aQ _) z n (bx.refl _) j (?_,S.at λo g=>Heap.get?_push_of_some _ g);rw[B];show a22
end
section
variable{a:Addr}{K:Type}[DecidableEq K]{kd:KeyKind prog w K}{ms:List K}
def b0y(y:s.TypeIs (.ref a) "set")(h:Q lT s):wpAny (model prog w) A (im.List.listLengthHint (.ref a)) Q E s:=by
 show hZ (wpAny_specialOf y PySem.F.slot_set_len.lookup ?_);generalize e0:_=z;show hZ (jr (b:=lS) y (by rw[jU];kernel_rfl) (hZ (j8 y (h9 h))))
def b0z(h:ItemsOf (λi v=>vs[i]?=bo v) acc vs.length):acc.toList=vs:=by
 let(a,b):=h;show gx (by cbv) λi d c=>?_;let e:i<acc.size:=by cbv
 let:vs[i]?=bo acc[i]:=b i acc[i] (bQ e)
 rw[aU c]at this;o_head this.symm
def a62(hh:A.handled=lR)(S:SI kd s.heap a ms)(L:Addr)(hL:L≠a)(res:Value)(c0:Nat)(gL:s.heap.get? L=bo { cls:=.type "list",data:=.seq #[] c0 })
  (hR:∀g tk d' acc c' ns,(∀b o,b≠L->s.heap.get? b=bo o->g.get? b=bo o)->g.get? L=bo { cls:=.type "list",dict:=lR,data:=.seq acc c',slots:=#[] }->KsAre kd acc.toList ns->ns.Perm ms->R (.ok (.ret res)) { s with heap:=g,drawn:=d',toks:=tk }) :
  wpAny (model prog w) A.in1 (im.List.listExtendWith (.ref L) (.ref a) res)
   (λfin s'=>match fin with |.done f=>R (.ok f) s' |.again c'=>c'.quiet=lS/\iS (model prog w) A c' R s') (λe s'=>R (.error e) s') s:=by
 let ty:s.TypeIs (.ref a) "set":=by let(_,_,_,S'):=S;show S'.ty
 let small:ms.length<=sizeLine:=by
  let(es,ep,t,S'):=S;let q1:=S'.len;let q2:=S'.sc;let sb:iR<=16777216:=by decide
  rw[ir];lia
 let lL:=Heap.lt_size gL;unfold im.List.listExtendWith;show hZ (j8 ty ?_);let n1:im.List.listSameRef (.ref L) (.ref a)=lT:=by simp[im.List.listSameRef,hL]
 let n2:(Value.type "set"==Value.type "list")=lT:=by decide
 let n3:(Value.type "set"==Value.type "tuple")=lT:=by decide
 simp only[n1,n2,n3,Bool.or_false,cY,if_false];show hZ (b0x hh S λI fp g d' vs ns St kp hI hfp i1 i2 wk st=>?_);let nf:L∉fp:=λz=>(hfp L z).elim hL λq=>cz _ (bA lL q);let hz:vs.length<=sizeLine:=by
  let q:=a8r i1;rw[i2.length_eq]at q
  lia
 let key:∀(d:Heap)(c1:Nat),St 0 d->(∀b o,b≠L->g.get? b=bo o->d.get? b=bo o)->d.get? L=bo { cls:=.type "list",data:=.seq #[] c1 } ->
   iS (model prog w) A (.builtin "list.extend.loop" ([.ref L,.ref I,res],[])) R { s with heap:=d,drawn:=d' }:=by
  ext d c1 st2 k2 gL2;show codeAny_extend_loopS wk.toS hz L nf res vs.length 0 _ #[] c1 rfl (bv _) st2 gL2 (ItemsOf.nil _) λs3 acc c3 mv g3 hacc=>?_;rw[Moved.eq_with mv];show hR s3.heap s3.toks d' acc c3 ns (λb o i e=>mv.heap b o (λhm=>?_) (k2 b o i (kp b o e))) g3 (b0z hacc▸i1) i2;let q||q:=aO.mp hm
  .show i q
  .rw[aS.mp q]at e;show cz _ (bA (Heap.lt_size e) hI)
 let h:=kp L _ gL;show hZ (iB (b0y (by let(o,e,c):=ty;show(o,kp _ _ e,c)) (iV (λ_=>?_) λ_=>h9 (jq PySem.F.plain_extend_loop _,key _ c0 st (λb o _ e=>e) h))));show hZ (iW (hZ ?_))
 change wpAny _ _ (updateSeq L (·.push .none) >>= λ_=>updateSeq L (·.pop)) _ _ _
 show hZ (lz h rfl ?_);let d:=Heap.get?_update_self (Obj.mapSeq (·.push Value.none)) h rfl;show lz d rfl ?_;let j:∀b o,b≠L->g.get? b=bo o->((g.update L (Obj.mapSeq (·.push Value.none))).update L (Obj.mapSeq (·.pop))).get? b=bo o:=λb o i e=>
  (Heap.get?_update_other _ _ (Ne.symm i)).trans ((Heap.get?_update_other _ _ (Ne.symm i)).trans e)
 show h9 (jq PySem.F.plain_extend_loop _,key _ _ (wk.frame 0 _ _ st λb hb o e=>j b o (λq=>nf (q▸hb)) e) j (Heap.get?_update_self (Obj.mapSeq (·.pop)) d rfl))
def collect_set(hh:A.handled=lR)(S:SI kd s.heap a ms)
  (h:∀(g:Heap)(tk:Nat)(d':Drawn)(vs:List Value)(ns:List K),(∀b o,s.heap.get? b=bo o->g.get? b=bo o)->KsAre kd vs ns->ns.Perm ms->R vs { s with heap:=g,drawn:=d',toks:=tk }) :
  wpAny (model prog w) A (collect (.ref a)) R E s:=by
 let C:=let (_,_,_,S'):=S;let (_,g,_):=S'.at_;Heap.lt_size g
 show hZ (wpAny_runValue (je PySem.F.entry_proto_collect ?_));rw[Around.under_plainId PySem.F.plain_proto_collect _];show hZ (i5 (h9 (jq PySem.F.plain_list_iadd _,je PySem.F.entry_list_iadd ?_)));rw[Around.under_plainId PySem.F.plain_list_iadd _];let z:(s.heap.push { cls:=.type "list",data:=.seq ([]).toArray }).get? s.heap.objs.size=bo { cls:=.type "list",data:=.seq #[] }:=Heap.get?_push_size _ rfl;let u:=a62 (s:={ s with heap:=s.heap.push { cls:=.type "list",data:=.seq ([]).toArray } })
  (R:=λq t=>∃(g:Heap)(j:Nat)(i:Drawn)(c:Array Value)(n:Nat)(d:List K),q=.ok _/\t={ s with heap:=g,drawn:=i,toks:=j } /\
   (∀b o,s.heap.get? b=bo o->g.get? b=bo o)/\g.get? s.heap.objs.size=bo { cls:=.type "list",dict:=lR,data:=.seq c n,slots:=#[] }/\KsAre kd c.toList d/\d.Perm ms)
  hh (S.at λo e=>Heap.get?_push_of_some _ e) s.heap.objs.size (bZ C) (.ref s.heap.objs.size) 0 z
  λg j i c n d m r p k=>(g,j,i,c,n,d,rfl,rfl,λb o e=>m b o (aY (Heap.lt_size e)) (Heap.get?_push_of_some _ e),r,p,k)
 show iw u (λv t x=>?_) λe t x=>?_
 .cases v with
  |done f=>
   let(g,j,i,c,n,d,e,rfl,m,r,p,k):=x;cases e;show hZ (jG r (h9 (h g j i _ d m p k)))
  |again c1=>
   show(x.1,i7 x.2 λq D y=>?_);let(g,j,i,c,n,d,rfl,rfl,m,r,p,k):=y;show hZ (jG r (h9 (h g j i _ d m p k)))
 .let(_,_,_,_,_,_,B,_):=x;cases B
end
end SetW
def a35:∀{vs:List Value}{ns:List Int},iE vs ns->vs.length=ns.length:=by ext z0 y0 x0;induction x0 with
 |nil=>show rfl
 |cons n t h I0=>rw[be,be,I0]
def a4I:∀{vs:List Value}{ns:List Int},iE vs ns->Vals (ns.map V.int) vs:=by ext z0 y0 x0;induction x0 with
 |nil=>show .nil
 |cons n t h I0=>show .cons (t,rfl) (I0)
theorem a8w:∀{vs:List Value}{ns:List Int},vs.length=ns.length->(∀(i:Nat) v,vs[i]?=bo v->∃n t,ns[i]?=bo n/\v=.int n t)->iE vs ns
 |[],[],_,_=>.nil
 |[],_::_,h,_=>by simp at h
 |_::_,[],h,_=>by simp at h
 |v::vs,n::ns,h,q=>by
  let(m,t,a,b):=q 0 v rfl;simp at a;subst a b;show .cons _ t (a8w ↑h λi v e=>↑(q (i+1) v ↑e))
def a4J(hmx:ns.length<=1000)
  (hcol:∀R:List Value->Shared->Prop,(∀(g:Heap)(tk:Nat)(d:Drawn)(vs:List Value)(ks:List Int),(∀b o,s.heap.get? b=bo o->g.get? b=bo o)->iE vs ks->ks.Perm ns->R vs { s with heap:=g,drawn:=d,toks:=tk })->wpAny (model P w) A.in1 (collect (.ref r)) R E s)
  (h:∀(g g':Heap)(tk:Nat)(d:Drawn)(out:List Value)(n:Nat)(ms:List Int),(∀b o,s.heap.get? b=bo o->g.get? b=bo o)->(∀b o,g.get? b=bo o->g'.get? b=bo o)->g'.get? g.objs.size=bo { cls:=.type "list",data:=.seq out.toArray n } ->
   iE out ms->ms.Perm ns->ms.Pairwise (·<=·)->Q (.ref g.objs.size) { s with heap:=g',drawn:=d,toks:=tk }):wpAny (model P w) A (call (.builtin "sorted") [.ref r]) Q E s:=by
 show Calls.call_function_entry lC lD lE (args_sorted1 _) (hZ (h9 (hZ (hcol _ λg t d f ks p l k=>?_))));let hl:=(a35 l).trans k.length_eq;let v:f.length<=sizeLine:=by rw[ir];lia
 show hZ (jQ ?_ v);let j:(g.push _).get? g.objs.size=bo (seqObj "list" f.toArray 0):=Heap.get?_push_size _ rfl;show hZ (iB (iI lF (_,j,rfl) lG (Tim.sort_any j l (by lia) λout u y x q=>(_,rfl,?_)) (args_list_sort _)));let c:=sortedHeap_at (out:=out) j;let(n,c):=c;show h9 (_,rfl,h g _ t d out.toList n u p (λb o e=>?_) (by cbv) y (x.trans k) q);let i:=Heap.lt_size e;rw[sortedHeap_old (aY i) (by rw[Heap.size_push];show dj i)];show Heap.get?_push_of_some _ e
def Inv.drew(I:Inv X pins σ H s)(d:Drawn):Inv X pins σ H { s with drawn:=d }:=
 I.step (ch:=[]) (λb a=>nomatch a) (λb o _ _ _ e _=>e) (λb o _ _ _ e _=>(o.slots,e)) (λ_ _ _ _ n=>n) (λb o _ e=>(o,e)) (λ_ _ e=>e) (λ_ _ _ e=>e) (λb f e=>(#[],by rw[e];simp)) (λm c=>c) I.hok I.bare
def b24(K:Fg):List V->Hp->VK->Prop:=λxs H Q=>∃(p:Addr)(ns:List Int),xs=[.ref p]/\(SqL K H p (ns.map V.int)\/∃kvs:List (Key×V),H p=bo (.dK kvs)/\kvs.map (·.1)=ns.map λi=>(Sum.inl (bo i):Key))/\ns.length<=1000 /\
 ∀(t:Addr)(ms:List Int),H t=lR->ms.Perm ns->ms.Pairwise (·<=·)->Q (.ref t) (upd H t (.lst (ms.map V.int)))
def a5t(hc:X.calm=lS):CallR X (.builtin "sorted") (b24 X.K):=by
 ext F s σ H xs us Q I r h;let(p,ns,rfl,C,G,q):=h;let(u,rfl,rx):=a1F r;cases rx;let hh:=I.ok.hd hc;show a4J G (λR T=>?_) λg g' l d ab n L k1 k2 e a1 S a3=>?_
 .let C||(kvs,hd,hk):=C
  .let(M,rv,pl,_):=I.list C;let U:=a3s rv;show collect_list pl.isList ?_ (by rw[a35 U,ir];lia);show T _ s.toks s.drawn M _ (λb o e=>?_) U (bx.refl _);let ac:=Heap.lt_size e;rw[Heap.get?_update_ne _ _ _ _ (aY ac)];show Heap.get?_push_of_some _ e
  .let(z,lo,E,B,dd):=a9X I.hok hd;let(ep,ad):=dd.dictAt;let Y:E.length=ns.length:=by rw[<- B.length,<- aN,hk,aN]
   show PySem.W.kdu_collect (PySem.W.kdl_dict lo) hh ad (by rw[Y,ir];lia) λg l aa kp c=>?_;show T g l s.drawn aa.toList ns kp (a8w (by rw[bu,c.1,Y]) λi v e=>?_) (bx.refl _);let(k,x,e1,e2):=c.2 i v (by simp_all);let y:E.map (·.1)=ns.map λi=>(Sum.inl (bo i):Key):=by rw[<- B.keys];show hk
   let j:(ns.map λi=>(Sum.inl (bo i):Key))[i]?=bo k:=by rw[<- y,aR,e1];rfl
   rw[aR]at j;cases hn:ns[i]? with
   |none=>rw[hn]at j;cases j
   |some n=>
    rw[hn]at j;cases j;let D:Value.isInt n v=lS:=e2;cases v with
    |int m t=>show(n,t,rfl,by simp[Value.isInt]at D;rw[D])
    |_=>simp[Value.isInt]at D
 .let J:Inv X F σ H { s with heap:=g,drawn:=d,toks:=l }:=(I.drew d).kept k1;show(.ref g.objs.size,_,J.laid k2 (aQ _) (show ObjOk X.prog X.w _ g' _ (.lst (L.map V.int)) from (by rw[aN,S.length_eq,ir];lia,ab,n,a4I a1,e)),rfl,q _ L (J.hok.fresh (aQ _)) S a3)
structure Zs where
 it:Addr
 tp:Bool
 l:Addr
def Zs.At(z:Zs)(k:Nat)(h:Heap):Prop:=if z.tp=lS then h.IsTupleIter z.it z.l k else h.IsListIter z.it z.l k
def Zs.Has(z:Zs)(h:Heap)(xs:Array Value):Prop:=if z.tp=lS then h.IsTuple z.l xs else h.IsList z.l xs
def Zs.At.keep{z:Zs}(a:z.At k h)(q:∀o,h.get? z.it=bo o->h'.get? z.it=bo o):z.At k h':=by
 unfold Zs.At at a ⊢
 split
 .next e=>rw[if_pos e]at a;show a.at q
 .next e=>rw[if_neg e]at a;show a.at q
def Zs.Has.keep{z:Zs}(a:z.Has h xs)(q:∀o,h.get? z.l=bo o->h'.get? z.l=bo o):z.Has h' xs:=by
 unfold Zs.Has at a ⊢
 split
 .next e=>rw[if_pos e]at a;show let (o,ho,r):=a;(o,q o ho,r)
 .next e=>rw[if_neg e]at a;show let (o,ho,r):=a;(o,q o ho,r)
def Zs.At.obj{z:Zs}(a:z.At k h):∃o,h.get? z.it=bo o/\∀v,o.data≠.cell v:=by
 unfold Zs.At at a
 split at a<;>(let(o,e,_,d):=a;show(o,e,λv q=>by rw[d]at q;cases q))
def b5Q(ti:s.heap.IsTupleIter it t i)(th:s.heap.IsTuple t xs)(hx:xs[i]?=bo x)
  (q:∀g,g.IsTupleIter it t (i+1)->Heap.SameBut it s.heap g->Q x { s with heap:=g }):wpAny (model P w) A (im.SmallTypes.nextOf (.ref it)) Q E s:=by
 let(o,b,c,a):=id ti;let(u,e,_,n,d):=th;show hZ (wpAny_callSpecial?_slot ti.typeIs PySem.F.slot_tuple_iterator_next
  (iI PySem.F.slot_tuple_iterator_next ti.typeIs PySem.F.entry_tuple_iterator_next ?_ (PySem.F.args_tuple_iterator_next_1 _)))
 change wpAny _ _ (field _ 0 >>= _) _ _ s
 show hZ (iN b a rfl ?_);show hZ (iN b a rfl ?_);show hZ (jW e d ?_);simp only[gz,hx];show hZ (i8 b a (by simp) (h9 (x,rfl,h9 (q _ ?_ (Heap.SameBut.update ..)))));show(_,Heap.get?_update_self _ b (Obj.isFreed_of_fields (Obj.data_mapFields a _)),(Obj.cls_mapFields ..).trans c,by rw[Obj.data_mapFields a];simp[rawInt])
def a8x(hh:A.handled=lR)(ti:s.heap.IsTupleIter it t i)(th:s.heap.IsTuple t xs)(hx:xs[i]?=lR)
  (q:∀g e,Heap.ExtBut it s.heap g->(∃o,g.get? e=bo o/\o.cls=.type "StopIteration")->E (.ref e) { s with heap:=g }):wpAny (model P w) A (im.SmallTypes.nextOf (.ref it)) Q E s:=by
 let(o,b,h,c):=id ti;let(u,f,_,n,d):=th;show hZ (wpAny_callSpecial?_slot ti.typeIs PySem.F.slot_tuple_iterator_next
  (iI PySem.F.slot_tuple_iterator_next ti.typeIs PySem.F.entry_tuple_iterator_next ?_ (PySem.F.args_tuple_iterator_next_1 _)))
 change wpAny _ _ (field _ 0 >>= _) _ _ s
 show hZ (iN b c rfl ?_);show hZ (iN b c rfl ?_);show hZ (jW f d ?_);simp only[gz,hx];show hZ (iW (hZ (i8 b c (by simp) ?_)));show hZ ?_;show hZ (i5 ?_ (by size_fits));show hZ (km (by first |rfl | (simp;rfl)) ?_)
 show i5 ?_ (by size_fits);show hZ (wpAny_handled ?_)
 first |rw[hh] |rw[hh]
 show hZ (h9 (wpAny_throw ?_));show q _ _ (((Heap.SameBut.update ..).extBut.push _).push _) (_,Heap.get?_push_size _ rfl,rfl)
def b25{z:Zs}(a:z.At i s.heap)(b:z.Has s.heap xs)(hx:xs[i]?=bo x)
  (q:∀g,z.At (i+1) g->Heap.SameBut z.it s.heap g->Q x { s with heap:=g }):wpAny (model P w) A (im.SmallTypes.nextOf (.ref z.it)) Q E s:=by
 let(d,c,l):=z;cases c with
 |true=>show b5Q a b hx q
 |false=>show wpAny_nextOf_list_item a b hx q
def b5R{z:Zs}(hh:A.handled=lR)(a:z.At i s.heap)(b:z.Has s.heap xs)(hx:xs[i]?=lR)
  (q:∀g e,Heap.ExtBut z.it s.heap g->(∃o,g.get? e=bo o/\o.cls=.type "StopIteration")->E (.ref e) { s with heap:=g }):wpAny (model P w) A (im.SmallTypes.nextOf (.ref z.it)) Q E s:=by
 let(d,c,l):=z;cases c with
 |true=>show a8x hh a b hx q
 |false=>show wpAny_nextOf_list_end hh a b hx q
abbrev IsTu(h:Heap)(T:Addr)(xs:Array Value):Prop:=h.get? T=bo { cls:=.type "tuple",data:=.seq xs }
structure ZAp (z TI TO:Addr) (zs:List Zs):Prop where
 nd:(zs.map (·.it)).Nodup
 a1:TI≠z
 a2:TO≠z
 a3:TI≠TO
 its:∀y∈zs,y.it≠z/\y.it≠TI/\y.it≠TO
 ls:∀y∈zs,y.l≠z/\y.l≠TO/\∀x∈zs,y.l≠x.it
inductive ZLp (arr:Zs->Array Value) (zs:List Zs) (k:Nat) (s:Shared) (z TI TO:Addr) (L:List (Value×Nat)) (s':Shared):Prop
 |mk (j n:List Zs) (d h:List Value) (g:Heap) (r:zs=j++n) (R:L=(n.map λy=>Value.ref y.it).zipIdx j.length) (I:d.length=j.length) (U:h.length=n.length) (e:s'={ s with heap:=g }) (ev:∀(i:Nat) y,j[i]?=bo y->∃v,d[i]?=bo v/\(arr y)[k]?=bo v) (S:IsZip g z TI TO .ellipsis) (X:IsTu g TO (d++h).toArray) (ad:∀y∈j,y.At (k+1) g) (F:∀y∈n,y.At k g) (sg:g.objs.size=s.heap.objs.size) (J:∀c o,c≠z->c≠TO->(∀y∈zs,c≠y.it)->s.heap.get? c=bo o->g.get? c=bo o)
def b1S{z TI TO:Addr}{olds:List Value}{arr:Zs->Array Value}{Q:Value->Shared->Prop}(hh:A.handled=lR)(D:ZAp z TI TO zs)(hne:zs≠[])(hsm:zs.length<=1000)
  (hz:IsZip s.heap z TI TO .none) (hI:IsTu s.heap TI (zs.map λy=>Value.ref y.it).toArray) (hO:IsTu s.heap TO olds.toArray) (hol:olds.length=zs.length)
  (hat:∀y∈zs,y.At k s.heap) (hhas:∀y∈zs,y.Has s.heap (arr y))
  (hQ:∀(g:Heap)(T:Addr)(vs:List Value),vs.length=zs.length->(∀(i:Nat) y,zs[i]?=bo y->∃v,vs[i]?=bo v/\(arr y)[k]?=bo v)->T=s.heap.objs.size->IsZip g z TI TO (rawInt T)->IsTu g TI (zs.map λy=>Value.ref y.it).toArray->IsTu g TO vs.toArray->IsTu g T vs.toArray ->
   (∀y∈zs,y.At (k+1) g)->(∀c o,c≠z->c≠TO->(∀y∈zs,c≠y.it)->s.heap.get? c=bo o->g.get? c=bo o)->Q (.ref T) { s with heap:=g })
  (hE:(∃y∈zs,(arr y)[k]?=lR)->∀g e,(∀c o,c≠z->c≠TO->(∀y∈zs,c≠y.it)->s.heap.get? c=bo o->g.get? c=bo o)->(∃o,g.get? e=bo o/\o.cls=.type "StopIteration")->E (.ref e) { s with heap:=g }) :
  wpAny (model P w) A (im.«zip.__next__» ([.ref z],[])) (λfin s'=>∃v,fin=.done (.ret v)/\Q v s') E s:=by
 change wpAny (model P w) _ (field (.ref z) 2 >>= _) _ _ _
 show hZ (iN hz rfl (x:=.bool lT) rfl ?_)
 change wpAny (model P w) _ (field (.ref z) 3 >>= _) _ _ _
 show hZ (iN hz rfl (x:=.ref TI) rfl (hZ (jW hI rfl ?_)));let he:(zs.map λy=>Value.ref y.it).toArray.isEmpty=lT:=by
  cases zs with
  |nil=>show absurd rfl hne
  |cons _ _=>rfl
 dsimp only;rw[he]
 change wpAny (model P w) _ (im.SmallTypes.ownedTupleIsFree (.ref z) >>= _) _ _ _
 show hZ ?_;unfold im.SmallTypes.ownedTupleIsFree;show hZ (iN hz rfl (x:=.none) rfl (h9 ?_));simp only[if_true];show hZ (iW (hZ (iN hz rfl (x:=.ref TO) rfl (hZ (kx hz (by simp) λg1 z1 N=>?_)))))
 replace z1:IsZip g1 z TI TO .ellipsis:=z1
 show hZ ?_;show lH _ (λL b s'=>b.1=lR/\ZLp arr zs k s z TI TO L s') _ ?_ ?_ _ _ ?_
 .ext x L b s' ⟨hb,j,n,d,h,g,r,R,I,U,rfl,ev,S,X,ad,F,sg,J⟩;cases n with
  |nil=>simp at R
  |cons y n=>
   cases h with
   |nil=>simp at U
   |cons o h=>
   rw[aZ,fW]at R;cases R;let a:y∈zs:=by rw[r];simp
   let hyl:=λo q=>J _ o (D.ls y a).1 (D.ls y a).2.1 (D.ls y a).2.2 q;dsimp only;show hZ (wpAny_onRaise ?_)
   change wpAny (model P w) _ (im.SmallTypes.nextOf (.ref y.it) >>= _) _ _ _
   cases hx:(arr y)[k]? with
   |none=>
    show hZ (b5R (z:=y) hh (F y (.head _)) ((hhas y a).keep hyl) hx λH e x2 he=>?_);let(oe,V,he2):=he;let Y:IsZip H z TI TO .ellipsis:=x2 _ _ (D.its y a).1.symm S;let hez:e≠z:=λq=>by subst q;rw[Y]at V;cases V;simp at he2
    show kx Y (by simp) λg3 _ p=>hE (y,a,hx) g3 e (λc u m G t q=>p.extBut _ _ m (x2 _ _ (t y a) (J c u m G t q))) (oe,p.extBut _ _ hez V,he2)
   |some v=>
    show hZ (b25 (z:=y) (F y (.head _)) ((hhas y a).keep hyl) hx λH a2 C=>h9 ?_);let o2:IsTu H TO (d++o::h).toArray:=C.extBut _ _ (D.its y a).2.2.symm X;show hZ (jW o2 rfl ?_);let W:(d++o::h).length=zs.length:=by rw[r];simp[I];o_head U
    show hZ (lz o2 rfl ?_ (by rw[bE,W,ir];lia) (by rw[gA,bE,W,ir];lia));show hZ (wpAny_letGo (h9 ?_));let nd:(j.map (·.it)++y.it::n.map (·.it)).Nodup:=by let:=D.nd;rw[r]at this;o_head this
    let p:Heap.SameBut TO H (H.update TO (Obj.mapSeq (·.setIfInBounds j.length v))):=Heap.SameBut.update ..;let o3:IsTu (H.update TO (Obj.mapSeq (·.setIfInBounds j.length v))) TO ((d++[v])++h).toArray:=by
     change Heap.get? _ _=_
     rw[Heap.get?_update_self _ o2 rfl]
     let:(d++o::h).set d.length v=(d++[v])++h:=by simp
     simp[Obj.mapSeq,<- I]
    show(rfl,j++[y],n,d++[v],h,_,by rw[r];simp,by simp,by simp[I],↑U,rfl,?_,p.extBut _ _ D.a2.symm (C.extBut _ _ (D.its y a).1.symm S),o3,?_,?_,by rw[p.1,C.1,sg],?_)
    .ext i x B
     by_cases hlt:i<j.length
     .rw[cJ hlt]at B;let(v',q1,q2):=ev i x B;show(v',by rw[cJ (by lia)];show q1,q2)
     .rw[cI (by lia)]at B;let h0:i-j.length=0:=by
       let:=(aT.mp B).1
       simp at this;lia
      rw[h0]at B;simp at B;subst B;show(v,by rw[cI (by lia),show i-d.length=0 by lia];rfl,hx)
    .ext x f;let f||f:=aP.mp f
     .let M:x∈zs:=by rw[r];simp[f]
      show (ad x f).keep λu q=>p.extBut _ _ (D.its x M).2.2 (C.extBut _ _ (λz=>?_) q);rw[b9]at nd;show nd.2.2 x.it (bP f) y.it (by simp) z
     .rw[aS.mp f];show a2.keep λu q=>p.extBut _ _ (D.its y a).2.2 q
    .ext x f;let M:x∈zs:=by rw[r];simp[f]
     show (F x (.tail _ f)).keep λu q=>p.extBut _ _ (D.its x M).2.2 (C.extBut _ _ (λz=>?_) q);rw[b9]at nd;show (bV.mp nd.2.1).1 (z▸bP f)
    .ext c u m G t q;show p.extBut _ _ G (C.extBut _ _ (t y a) (J c u m G t q))
 .ext b s' ⟨hb,j,n,d,h,g,r,R,I,U,rfl,ev,S,X,ad,F,sg,J⟩;let htd:n=[]:=by
   cases n with
   |nil=>rfl
   |cons _ _=>simp at R
  subst htd;let hos:h=[]:=↑U
  subst hos;rw[bC]at r X;subst r;let(N,C):=b;subst hb;dsimp only;show hZ (jW X rfl (hZ (jz ?_ (by change d.toArray.toList.length<=ie;simp only[I,ir];lia))))
  change wpAny (model P w) _ (im.SmallTypes.ownedTupleHandOut (.ref z) (.ref g.objs.size) >>= _) _ _ _
  show hZ ?_;unfold im.SmallTypes.ownedTupleHandOut;let hzl:=Heap.lt_size S;let Y:IsZip (g.push { cls:=.type "tuple",data:=.seq d.toArray.toList.toArray }) z TI TO .ellipsis:=Heap.get?_push_of_some _ S;show hZ (kx Y (by simp) λg3 z3 p=>?_)
  replace z3:IsZip g3 z TI TO (rawInt g.objs.size):=z3
  show kx z3 (by simp) λg4 z4 b4=>?_
  replace z4:IsZip g4 z TI TO (rawInt g.objs.size):=z4
  let up:∀c o,c≠z->g.get? c=bo o->g4.get? c=bo o:=λc o m q=>b4.extBut _ _ m (p.extBut _ _ m (Heap.get?_push_of_some _ q));let t4:IsTu g4 g.objs.size d.toArray:=b4.extBut _ _ (bZ hzl) (p.extBut _ _ (bZ hzl) ↑(Heap.get?_push_size _ rfl));show h9 (_,rfl,?_);show hQ g4 g.objs.size d I ev sg z4 (up _ _ D.a1 (J _ _ D.a1 D.a3 (λy a=>(D.its y a).2.1.symm) hI)) (up _ _ D.a2 X) t4 (λy a=>(ad y a).keep λo q=>up _ o (D.its y a).1 q) λc o m G t q=>up c o m (J c o m G t q)
 .show(rfl,[],zs,[],olds,g1,rfl,by simp,rfl,hol,rfl,λi y q=>by simp at q,z1,↑(N.extBut _ _ D.a2 hO),λy q=>by simp at q,λy a=>(hat y a).keep λo q=>N.extBut _ _ (D.its y a).1 q,N.1,λc o m _ _ q=>N.extBut _ _ m q)
section
variable{σ:St}{h':Heap}
def Inv.turnedN{ch:List Addr}(I:Inv X pins σ H s)(hf:∀b∈ch,FpOk X pins H b)(k:∀b o,b∉ch->s.heap.get? b=bo o->h'.get? b=bo o):Inv X pins σ H { s with heap:=h',toks:=t' }:=by
 let d:∀b u,H b=bo u->b∉ch:=λb u e z=>by rw[(hf b z).1]at e;cases e
 show I.step (λb i=>?_) (λb o _ _ a e _=>k b o a e) (λb o _ _ a e _=>(o.slots,k b o a e)) (λ_ _ _ _ n=>n)
  (λb o a e=>(o,k b o a e)) (λ_ _ e=>e) (λ_ _ _ e=>e) (λb x e=>(#[],by rw[e];simp)) (λm j=>?_) (λb u e=>?_) I.bare
 .let(_,t,_,g,w,l):=hf b i;show(g,t,w,l)
 .let(o,h,f,p,r):=j;show(o,h,f,k _ o (λz=>(hf _ z).2.1 rfl) p,r)
 .show (I.hok b u e).stay (λc v a q=>k c v ?_ q) (λ_ q=>q) λ_ _ q=>q;let z||z:=a
  .simp_all
  .simp_all
def Inv.turnedT{ch:List Addr}(I:Inv X pins σ H s)(hf:∀b∈ch,FpOk X pins H b)(k:∀b o,b∉ch->s.heap.get? b=bo o->h'.get? b=bo o)
  (hT:s.heap.objs.size<=T) (r:Vals vs us) (hz:vs.length<=ie) (ht:IsTup h' T us.toArray):Inv X pins σ (upd H T (.tup vs)) { s with heap:=h',toks:=t' }:=by
 let g:∀b u,H b=bo u->b∉ch:=λb u e z=>by rw[(hf b z).1]at e;cases e
 let d:=I.hok.fresh hT;let y:∀b o,s.heap.get? b=bo o->b≠T:=λb o e=>aY (bA (Heap.lt_size e) hT);show I.step (λb f=>?_) (λb o _ _ a e _=>k b o a e) (λb o _ _ a e _=>(o.slots,k b o a e)) (λb o _ e n=>by rw[a0f (y b o e)];show n)
  (λb o a e=>(o,k b o a e)) (λb l e=>by rw[a0f (a0w e d)];show e) (λb _ _ e=>by rw[a0f (a0w e d)];show e) (λb B e=>(#[],by rw[a0f (a0w e d),e];simp)) (λm x=>?_) (λb u e=>?_) I.bare
 .let(_,j,_,p,A,t):=hf b f;show(p,j,A,t)
 .let(o,i,w,h,r):=x;show(o,i,w,k _ o (λz=>(hf _ z).2.1 rfl) h,r)
 .by_cases f:b=T
  .subst f;rw[a0h]at e;cases e;show(hz,us,r,ht)
  .rw[a0f f]at e;show (I.hok b u e).stay (λc v a q=>k c v ?_ q) (λc q=>by rw[a0f (a0w q d)];show q) λc l q=>by rw[a0f (a0w q d)];show q
   let z||z:=a
   .simp_all
   .simp_all
end
def SrcV(K:Fg)(H:Hp)(y:Zs)(xs:List V):Prop:=if y.tp=lS then SqT K H y.l xs else SqL K H y.l xs
noncomputable def SrcV.has(I:Inv X pins σ H s)(h:SrcV X.K H y xs):∃its:List Value,Vals xs its/\y.Has s.heap its.toArray:=by
 unfold SrcV at h;unfold Zs.Has
 split at h
 .next e=>let(a,r,p,_):=I.tuple h;show(a,r,by rw[if_pos e];show p)
 .next e=>let(a,r,p,_):=I.list h;show(a,r,by rw[if_neg e];show p.isList)
def SrcV.inj(I:Inv X pins σ H s)(h:SrcV X.K H y xs)(h':SrcV X.K H y xs'):xs=xs':=by
 unfold SrcV at h h'
 split at h
 .next e=>rw[if_pos e]at h';show I.tuple_inj h h'
 .next e=>rw[if_neg e]at h';show I.list_inj h h'
noncomputable def Itz(K:Fg)(zs:List Zs):It:=
  (λi H=>∀y∈zs,∃xs x,SrcV K H y xs/\xs[i]?=bo x,
   λi H x H'=>∃T vs,H T=lR/\x=.ref T/\H'=upd H T (.tup vs)/\vs.length=zs.length/\∀(j:Nat) y xs,zs[j]?=bo y->SrcV K H y xs->∃v,vs[j]?=bo v/\xs[i]?=bo v,
   λi H=>(∀y∈zs,∃xs,SrcV K H y xs)/\∃y∈zs,∃xs,SrcV K H y xs/\xs.length<=i)
def TnZ(z TI TO:Addr)(zs:List Zs)(i:Nat)(h:Heap):Prop:=IsZip h z TI TO .none/\IsTu h TI (zs.map λy=>Value.ref y.it).toArray/\(∃olds:List Value,olds.length=zs.length/\IsTu h TO olds.toArray)/\∀y∈zs,y.At i h
theorem Vals.of_get:∀{vs:List V}{us:List Value},vs.length=us.length->(∀(i:Nat) v u,vs[i]?=bo v->us[i]?=bo u->RelV v u)->Vals vs us
 |[],[],_,_=>.nil
 |[],_::_,h,_=>by simp at h
 |_::_,[],h,_=>by simp at h
 |v::vs,u::us,h,q=>.cons (q 0 v u rfl rfl) (Vals.of_get ↑h λi v u a b=>q (i+1) v u ↑a ↑b)
theorem b0A{P:ik}{w:World}{K:Fg}{elts:List Expr}{x1}{pos:Pos}{z TI TO:Addr}{zs:List Zs}(D:∀(X:Cx) pins σ H s,X.K=K->Inv X pins σ H s->(∀b∈z::TI::TO::zs.map (·.it),H b=lR)->(∀y∈zs,∃xs,SrcV K H y xs)->ZAp z TI TO zs)(hne:zs≠[])(hsm:zs.length<=1000) :
  Turn P w K (.Tuple elts x1 pos) (Itz K zs) (z::TI::TO::zs.map (·.it)) z (TnZ z TI TO zs) where
 mem:=by simp
 obj:=λi h (t1,t2,(olds,_,t3),t4) b hb=>by
  let rfl||hb:=aO.mp hb
  .show(_,t1,λv q=>by let q':Data.fields _=Data.cell v:=q;cases q')
  let rfl||hb:=aO.mp hb
  .show(_,t2,λv q=>by let q':Data.seq _ _=Data.cell v:=q;cases q')
  let rfl||hb:=aO.mp hb
  .show(_,t3,λv q=>by let q':Data.seq _ _=Data.cell v:=q;cases q')
  let(y,hy,rfl):=bf.mp hb;show (t4 y hy).obj
 keep:=λi h h' (t1,t2,(olds,t0,t3),t4) k=>(k z (by simp) _ t1,k TI (by simp) _ t2,(olds,t0,k TO (by simp) _ t3),λy hy=>(t4 y hy).keep λo q=>k y.it (by simp;show .inr (.inr (.inr (y,hy,rfl)))) o q)
 item:=by
  ext X hP hw hK hc i pins s σ H E I hf st hg;subst hP hw hK;let(t1,t2,(olds,t0,t3),t4):=st;let Da:=D X pins σ H s rfl I (λb hb=>(hf b hb).1) λy hy=>let (xs,_,q,_):=hg y hy;(xs,q)
  let ex:∀y:Zs,∃its:List Value,y∈zs->∃xs,SrcV X.K H y xs/\Vals xs its/\y.Has s.heap its.toArray/\∃x,xs[i]?=bo x:=λy=>by
   by_cases hy:y∈zs
   .let(xs,x,q1,q2):=hg y hy;let(its,r,p):=q1.has I;show(its,λ_=>(xs,q1,r,p,x,q2))
   .show([],λq=>absurd q hy)
  let(arr,harr):=Classical.axiomOfChoice ex;let hT:s.TypeIs (.ref z) "zip":=(_,t1,rfl);unfold pyNext;show hZ (i9 (wpAny_callSpecial?_slot (name:=Str.ofString "__next__") hT PySem.F.slot_zip_next (iI PySem.F.slot_zip_next hT PySem.F.entry_zip_next ?_ (PySem.F.args_zip_next_1 _))));show b1S (arr:=λy=>(arr y).toArray) (k:=i) (I.ok.hd hc) Da hne hsm t1 t2 t3 t0 t4 (λy hy=>let (_,_,_,p,_):=harr y hy;p) ?_ ?_
  .ext g T us hl hv hT' z2 ti2 to2 tt2 at2 kp;show h9 (_,rfl,?_);show wpAny_letOwnedTupleGo_zip (s:={ s with heap:=g }) z2 λg3 z3 b3=>?_;let zl:=Heap.lt_size t1;let hTz:T≠z:=by rw[hT'];show bZ zl
   let k3:∀b o,b∉z::TI::TO::zs.map (·.it)->s.heap.get? b=bo o->g3.get? b=bo o:=λb o hb q=>by
    simp only[aO,not_or]at hb;show b3.extBut _ _ hb.1 (kp b o hb.1 hb.2.2.1 (λy hy e=>hb.2.2.2 (by rw[e];show bP hy)) q)
   let exv:∀j:Nat,∃v:V,∀y xs,zs[j]?=bo y->SrcV X.K H y xs->xs[i]?=bo v:=λj=>by
    cases hj:zs[j]? with
    |none=>show(.non,λy xs e=>nomatch e)
    |some y=>
     let(xs,q1,_,_,x,q2):=harr y (bp hj);show(x,λy' xs' e q=>by cases e;rw[q.inj I q1];show q2)
   let(val,hval):=Classical.axiomOfChoice exv;let hlv:((bt zs.length).map val).length=zs.length:=by rw[aN,dN]
   let gv:∀(j:Nat) y,zs[j]?=bo y->((bt zs.length).map val)[j]?=bo (val j):=λj y e=>by
    rw[aR,List.getElem?_range (aT.mp e).1];rfl
   let rv:Vals ((bt zs.length).map val) us:=Vals.of_get (by rw[hlv,hl]) λj v u e1 e2=>by
    let hj:j<zs.length:=by rw[<- hl];show (aT.mp e2).1
    let hz':=aU hj;rw[gv j _ hz']at e1;cases e1;let(xs,q1,q2,_,_):=harr _ (bN hj);let q3:=hval j _ xs hz' q1;let(u',e3,e4):=hv j _ hz';rw[e2]at e3;cases e3;let(u2,e5,e6):=q2.get q3;let e4':(arr zs[j])[i]?=bo u:=↑e4
    rw[e5]at e4';cases e4';show e6
   let tt3:IsTup g3 T us.toArray:=(_,b3.extBut _ _ hTz tt2,rfl,_,rfl);show(.ref T,_,I.turnedT (t':=s.toks) hf k3 (by rw[hT'];show aQ _) rv (by rw[hlv];show bT (a0e hsm)) tt3,rfl,(T,_,I.hok.fresh (by rw[hT'];show aQ _),rfl,rfl,hlv,λj y xs e q=>(_,gv j y e,hval j y xs e q)),(z3,b3.extBut _ _ Da.a1 ti2,(us,hl,b3.extBut _ _ Da.a2 to2),λy hy=>(at2 y hy).keep λo q=>b3.extBut _ _ (Da.its y hy).1 q),λb hb=>?_);let hbo:∃o,s.heap.get? b=bo o:=by
    let rfl||hb:=aO.mp hb
    .show(_,t1)
    let rfl||hb:=aO.mp hb
    .show(_,t2)
    let rfl||hb:=aO.mp hb
    .show(_,t3)
    let(y,hy,rfl):=bf.mp hb;let(o,q,_):=(t4 y hy).obj;show(o,q)
   let(o,q):=hbo;rw[a0f (by rw[hT'];show aY (Heap.lt_size q))];show (hf b hb).1
  .ext⟨y,hy,q⟩;let(xs,_,r,_,x,q2):=harr y hy;let(u,e,_):=r.get q2;let q':(arr y)[i]?=lR:=↑q
   rw[e]at q';cases q'
 done:=by
  ext X hP hw hK hc i pins s σ H E I hf st hg;subst hP hw hK;let(t1,t2,(olds,t0,t3),t4):=st;let(hall,y0,hy0,xs0,hx0,hl0):=hg;let Da:=D X pins σ H s rfl I (λb hb=>(hf b hb).1) hall;let ex:∀y:Zs,∃its:List Value,y∈zs->∃xs,SrcV X.K H y xs/\Vals xs its/\y.Has s.heap its.toArray:=λy=>by
   by_cases hy:y∈zs
   .let(xs,q1):=hall y hy;let(its,r,p):=q1.has I;show(its,λ_=>(xs,q1,r,p))
   .show([],λq=>absurd q hy)
  let(arr,harr):=Classical.axiomOfChoice ex;let hT:s.TypeIs (.ref z) "zip":=(_,t1,rfl);unfold pyNext;show hZ (i9 (wpAny_callSpecial?_slot (name:=Str.ofString "__next__") hT PySem.F.slot_zip_next (iI PySem.F.slot_zip_next hT PySem.F.entry_zip_next ?_ (PySem.F.args_zip_next_1 _))));show b1S (arr:=λy=>(arr y).toArray) (k:=i) (I.ok.hd hc) Da hne hsm t1 t2 t3 t0 t4 (λy hy=>let (_,_,_,p):=harr y hy;p) ?_ ?_
  .ext g T us hl hv _ _ _ _ _ _ _;exfalso;let(j,hj):=cj hy0;let(v,_,e):=hv j y0 hj;let(xs,q1,r,_):=harr y0 hy0;let e':(arr y0)[i]?=bo v:=↑e
   let:=(aT.mp e').1
   rw[<- r.length,q1.inj I hx0]at this;cbv
  .ext _ g e kp ⟨o,ho,hcl⟩;show hZ (jr (T:="StopIteration") (b:=lS) (s:={ s with heap:=g }) (o,ho,hcl) isSubtype_stop ?_);show h9 (rfl,I.turnedN (t':=s.toks) hf λb o hb q=>?_);simp only[aO,not_or]at hb;show kp b o hb.1 hb.2.2.1 (λy hy e=>hb.2.2.2 (by rw[e];show bP hy)) q
 self:=λ_ _ _ _ _ st h=>wpAny_pyIter_zip st.1 h
noncomputable def mkZs(b:Nat):List (Bool×Addr)->List Zs
 |[]=>[]
 |p::r=>(b,p.1,p.2)::mkZs (b+1) r
theorem a0O:∀(b:Nat)(l:List (Bool×Addr)),(mkZs b l).length=l.length
 |_,[]=>rfl
 |b,_::r=>by simp[mkZs,a0O _ r]
theorem a1R:∀(b:Nat)(l r:List (Bool×Addr)),mkZs b (l++r)=mkZs b l++mkZs (b+l.length) r
 |_,[],_=>by simp[mkZs]
 |b,p::l,r=>by
  let:=a1R (b+1) l r
  simp[mkZs,this]
  congr 1
  lia
theorem a08:∀{b:Nat}{l:List (Bool×Addr)}{y:Zs},y∈mkZs b l->@LE.le Nat _ b y.it/\@LT.lt Nat _ y.it (b+l.length)/\(y.tp,y.l,)∈l
 |_,[],_,h=>by simp[mkZs]at h
 |b,p::l,y,h=>by
  let rfl||h:=aO.mp h
  .simp
  .let(d,c,a):=a08 h;show(by lia,by rw[be,<- dw,gC];show c,.tail _ a)
theorem a3A:∀(b:Nat)(l:List (Bool×Addr)),((mkZs b l).map (·.it)).Nodup
 |_,[]=>by simp[mkZs]
 |b,p::l=>by
  change (b::(mkZs _ l).map _).Nodup
  show bV.mpr (λh=>?_,a3A _ l);let(y,a,e):=bf.mp h
  let:=(a08 a).1
  lia
def HasS(p:Bool×Addr)(h:Heap):Prop:=∃xs,Zs.Has (0,p.1,p.2) h xs
def a63(srcs:List (Bool×Addr))(hsm:srcs.length<=1000) :
  Meets (im.«zip.__new__» (.type "zip"::srcs.map (λp=>Value.ref p.2),[])) (λ_ R s=>(∀p∈srcs,HasS p s.heap)/\∀(g:Heap),(∀b o,s.heap.get? b=bo o->g.get? b=bo o) ->
   g.objs.size=s.heap.objs.size+srcs.length+3->TnZ (s.heap.objs.size+srcs.length+2) (s.heap.objs.size+srcs.length) (s.heap.objs.size+srcs.length+1) (mkZs s.heap.objs.size srcs) 0 g->R (.ok (.ret (.ref (s.heap.objs.size+srcs.length+2)))) { s with heap:=g }):=
 .of_wp λX w A R s h=>by
  let(Y,h):=h;unfold im.«zip.__new__»;let S:im.SmallTypes.newClass "zip" (.type "zip"::srcs.map (λp=>Value.ref p.2),[])=pure (.type "zip",srcs.map (λp=>Value.ref p.2),):=by
   unfold im.SmallTypes.newClass;simp only[isType,sub_zip,pure_bind,gE,cY,if_false]
  show hZ (km S ?_);dsimp only;rw[if_neg (by simp)];show hZ ?_;unfold im.SmallTypes.iterAll;show hZ ?_;show lH _ (λk t G=>∃(f e:List (Bool×Addr))(g:Heap),srcs=f++e/\k=e.map (λp=>Value.ref p.2)/\t=((mkZs s.heap.objs.size f).map λy=>Value.ref y.it).toArray/\G={ s with heap:=g }/\g.objs.size=s.heap.objs.size+f.length /\
   (∀b o,s.heap.get? b=bo o->g.get? b=bo o)/\∀y∈mkZs s.heap.objs.size f,y.At 0 g) _ ?_ ?_ _ _ ?_
  .ext x k t G ⟨f,e,g,n,z,rfl,rfl,j,m,u⟩;cases e with
   |nil=>simp at z
   |cons p e=>
    rw[aZ]at z;cases z;let(B,l):=p;let(D,L):=Y (B,l,) (by rw[n];simp);show hZ (iB ?_);let F:∀E:Obj,Zs.At (g.objs.size,B,l) 0 (g.push E)->∃(dn' td':List (Bool×Addr))(g':Heap),srcs=dn'++td'/\e.map (λp=>Value.ref p.2)=td'.map (λp=>Value.ref p.2)/\(((mkZs s.heap.objs.size f).map λy=>Value.ref y.it).toArray.push (.ref g.objs.size))=((mkZs s.heap.objs.size dn').map λy=>Value.ref y.it).toArray /\
      ({ s with heap:=g.push E }:Shared)={ s with heap:=g' }/\g'.objs.size=s.heap.objs.size+dn'.length/\(∀b o,s.heap.get? b=bo o->g'.get? b=bo o)/\∀y∈mkZs s.heap.objs.size dn',y.At 0 g':=λE ha=>by
     show(f++[(B,l,)],e,g.push E,by rw[n];simp,rfl,?_,rfl,by rw[Heap.size_push,j];simp;lia,λb o q=>Heap.get?_push_of_some _ (m b o q),λy c=>?_)
     .rw[a1R];simp[mkZs,j]
     .rw[a1R]at c;let c||c:=aP.mp c
      .show (u y c).keep λo q=>Heap.get?_push_of_some _ q
      .simp[mkZs]at c;subst c;rw[<- j];show ha
    cases B with
    |true=>
     let v:g.IsTuple l D:=let (o,ho,r):=(show s.heap.IsTuple l D from L);(o,m _ _ ho,r)
     show wpAny_pyIter_tuple v (h9 (F _ (_,Heap.get?_push_size _ rfl,rfl,rfl)))
    |false=>
     let v:g.IsList l D:=let (o,ho,r):=(show s.heap.IsList l D from L);(o,m _ _ ho,r)
     show jY v (h9 (F _ (_,Heap.get?_push_size _ rfl,rfl,rfl)))
  .ext t G ⟨f,e,g,n,z,rfl,rfl,j,m,u⟩;let M:e=[]:=by
    cases e with
    |nil=>rfl
    |cons _ _=>simp at z
   subst M;rw[bC]at n;subst n;show h9 ?_;show hZ (jz ?_ (by change ((mkZs s.heap.objs.size srcs).map λy=>Value.ref y.it).toArray.toList.length<=ie;simp[a0O];show bT (a0e hsm)));show hZ (jz ?_ (by rw[aN];change ((mkZs s.heap.objs.size srcs).map λy=>Value.ref y.it).toArray.toList.length<=ie;simp[a0O];show bT (a0e hsm)));show hZ ?_;unfold im.SmallTypes.newRecord;show i5 ?_ (by simp[sizeOk,im.SmallTypes.ownedTupleFields,ir]);let T:∀(a d i:Obj),a={ cls:=.type "tuple",data:=.seq ((mkZs s.heap.objs.size srcs).map λy=>Value.ref y.it).toArray }->d={ cls:=.type "tuple",data:=.seq (((mkZs s.heap.objs.size srcs).map λ_=>Value.none)).toArray } ->
     i={ cls:=.type "zip",data:=.fields #[.none,.bool lT,.bool lT,.ref g.objs.size,.ref (g.push a).objs.size] }->R (.ok (.ret (.ref ((g.push a).push d).objs.size))) { s with heap:=((g.push a).push d).push i }:=λa d i I J C=>by
    let U:(g.push a).objs.size=s.heap.objs.size+srcs.length+1:=by rw[Heap.size_push,j]
    let V:((g.push a).push d).objs.size=s.heap.objs.size+srcs.length+2:=by rw[Heap.size_push,U]
    let N:(((g.push a).push d).push i).get? g.objs.size=bo a:=Heap.get?_push_of_some _ (Heap.get?_push_of_some _ (Heap.get?_push_size _ (by rw[I];rfl)));let Q:(((g.push a).push d).push i).get? (g.push a).objs.size=bo d:=Heap.get?_push_of_some _ (Heap.get?_push_size _ (by rw[J];rfl));let H:(((g.push a).push d).push i).get? ((g.push a).push d).objs.size=bo i:=Heap.get?_push_size _ (by rw[C];rfl);let W:∀b o,g.get? b=bo o->(((g.push a).push d).push i).get? b=bo o:=λb o q=>Heap.get?_push_of_some _ (Heap.get?_push_of_some _ (Heap.get?_push_of_some _ q));rw[U]at Q C;rw[V]at H ⊢;rw[j]at N C;show h _ (λb o q=>W b o (m b o q)) (by rw[Heap.size_push,V]) (H.trans (congrArg bo C),N.trans (congrArg bo I),((mkZs s.heap.objs.size srcs).map λ_=>Value.none,by rw[aN],Q.trans (congrArg bo J)),λy c=>(u y c).keep λo q=>W _ o q)
   show h9 (_,rfl,T _ _ _ (by simp) (by simp) rfl)
  .show([],srcs,s.heap,rfl,rfl,by simp[mkZs],rfl,rfl,λ_ _ q=>q,λy c=>by simp[mkZs]at c)
def b26(a b c d:Value):checkTypeCall "zip" ([a,b,c,d],[])=pure ():=by kernel_rfl
def b27(a b c d:Value):jM "zip.__new__" ([.type "zip",a,b,c,d],[])=pure ():=by kernel_rfl
def b0B(o a b c d:Value):argsOk "object.__init__" ([o,a,b,c,d],[]):=by
 unfold argsOk;rw[signature?_of (n:=['_','_','t','i','n','i','_','_']) (by kernel_rfl) PySem.F.owner_object]
 kernel_rfl
def a23(us:List Value):Prop:=checkTypeCall "zip" (us,[])=pure ()/\jM "zip.__new__" (.type "zip"::us,[])=pure ()/\∀o,argsOk "object.__init__" (o::us,[])
def b5S(a b:Value):a23 [a,b]:=(PySem.F.typeCall_zip_2 a b,PySem.F.newCall_zip_2 a b,λo=>PySem.F.args_object_init_3 o a b)
def b5T(a b c d:Value):a23 [a,b,c,d]:=(b26 a b c d,b27 a b c d,λo=>b0B o a b c d)
def a8y(hk:a23 (srcs.map λp=>Value.ref p.2))(hsm:srcs.length<=1000)(hs:∀p∈srcs,HasS p s.heap)
  (h:∀g:Heap,(∀b o,s.heap.get? b=bo o->g.get? b=bo o)->TnZ (s.heap.objs.size+srcs.length+2) (s.heap.objs.size+srcs.length) (s.heap.objs.size+srcs.length+1) (mkZs s.heap.objs.size srcs) 0 g->Q (.ref (s.heap.objs.size+srcs.length+2)) { s with heap:=g }) :
  wpAny (model P w) A (call (.type "zip") (srcs.map λp=>Value.ref p.2)) Q E s:=
 callType_new PySem.F.called_zip (by decide) hk.1 hk.2.1 hk.2.2 PySem.F.entry_zip_new (a63 srcs hsm) (hs,λg c _ a=>((_,a.1,rfl),h g c a))
def SrcP(K:Fg)(H:Hp)(p:Bool×Addr)(xs:List V):Prop:=if p.1=lS then SqT K H p.2 xs else SqL K H p.2 xs
noncomputable def ItzP(K:Fg)(ps:List (Bool×Addr)):It:=
  (λi H=>∀y∈ps,∃xs x,SrcP K H y xs/\xs[i]?=bo x,
   λi H x H'=>∃T vs,H T=lR/\x=.ref T/\H'=upd H T (.tup vs)/\vs.length=ps.length/\∀(j:Nat) y xs,ps[j]?=bo y->SrcP K H y xs->∃v,vs[j]?=bo v/\xs[i]?=bo v,
   λi H=>(∀y∈ps,∃xs,SrcP K H y xs)/\∃y∈ps,∃xs,SrcP K H y xs/\xs.length<=i)
theorem a6c:∀(b:Nat)(l:List (Bool×Addr)),(mkZs b l).map (λy=>(y.tp,y.l,))=l
 |_,[]=>rfl
 |b,p::r=>by simp[mkZs,a6c _ r]
def a6d{j:Nat}(h:l[j]?=bo p):∃y,(mkZs b l)[j]?=bo y/\(y.tp,y.l,)=p:=by
 let:=congrArg (·[j]?) (a6c b l)
 simp only[aR,h]at this;cases e:(mkZs b l)[j]? with
 |none=>rw[e]at this;cases this
 |some y=>rw[e]at this;show(y,rfl,↑this)
theorem Turn.imp{P:ik}{w:World}{K:Fg}{tg:Expr}{J J':It}{fp:List Addr}{it:Addr}{tn:Nat->Heap->Prop}(t:Turn P w K tg J fp it tn)(g:∀i H,J'.go i H->J.go i H)(y:∀i H x H',J'.go i H->J.yld i H x H'->J'.yld i H x H')(s:∀i H,J'.stop i H->J.stop i H):Turn P w K tg J' fp it tn where
 mem:=t.mem
 obj:=t.obj
 keep:=t.keep
 item:=λX h1 h2 h3 h4 i pins s σ H E I hf st hg=>iw (t.item X h1 h2 h3 h4 i pins s σ H E I hf st (g i H hg)) (λr s1 (u,e,q)=>(u,e,iw q (λ_ s2 (x,H',a,b,c,d,e)=>(x,H',a,b,y i H x H' hg c,d,e)) λ_ _ z=>z)) λ_ _ z=>z
 done:=λX h1 h2 h3 h4 i pins s' σ H E I hf st hg=>t.done X h1 h2 h3 h4 i pins s' σ H E I hf st (s i H hg)
 self:=t.self
def a17(h:@Ne Nat a b):a≠b:=h
def b79(K:Fg)(n:Nat)(ta:TA):TI:=fun σ H R=>ta σ H λvs H1=>∃ps:List (Bool×Addr),vs=ps.map (λp=>V.ref p.2)/\ps≠[]/\ps.length=n/\(∀p∈ps,∃xs,SrcP K H1 p xs)/\R (ItzP K ps) H1
theorem a8z:∀{ps:List (Bool×Addr)}{us:List Value},Vals (ps.map λp=>V.ref p.2) us->us=ps.map λp=>Value.ref p.2
 |[],us,r=>by rw[bF]at r;cases r;rfl
 |p::ps,us,r=>by
  cases r with
  |cons r1 r2=>rw[a8z r2,r1];rfl
def b5U(hg:Gl X "zip")(hm:X.mg "zip"=lR)(hok:∀us:List Value,us.length=n->a23 us)(hn:n<=1000)(ha:PA X (e::es) ta)
  (he:ii (e::es) X.env=(lT,eval e X.env,)::ii es X.env) (hpl:(backTo pos (ii es X.env)).any (·.1)=lT):PI X (.Tuple elts x1 tpos) (.Call (.Name "zip" p) (e::es) [] pos) (b79 X.K n ta):=by
 ext pins s σ H R I h;show Call_ (a2N I hg hm (show iH "zip"=bo (.type "zip") by decide +kernel) (PyProof.Rows.callWith_type1 (thn (ha pos pins s σ H _ I h) λus c (vs,H1,r,r1,q1)=>?_) he hpl));let(f,rfl,hne,hl,hsrc,q):=q1;let hsm:f.length<=1000:=by lia
 let e:=a8z r1;subst e;let hnz:mkZs c.heap.objs.size f≠[]:=λz=>hne (cC.mp (by rw[<- a0O c.heap.objs.size f,z];rfl));show a8y (hok _ (by rw[aN,hl])) hsm (λp hp=>?_) λg kp tn=>?_
 .let(t,d):=hsrc p hp;let(its,_,h):=SrcV.has (y:=(0,p.1,p.2)) r d;show(_,h)
 .show wpAny_pyIter_zip (s:={ c with heap:=g }) tn.1 ?_;let I2:Inv X pins σ H1 { c with heap:=g }:=r.kept (t':=c.toks) kp;show(_,_,_,_,H1,rfl,I2,(b0A (K:=X.K) (zs:=mkZs c.heap.objs.size f) ?_ hnz (by rw[a0O];show hsm)).imp ?_ ?_ ?_,tn,λb k=>?_,q)
  .intro X' pins' σ' H' s' hK I' hfp hall;let hl':∀y∈mkZs c.heap.objs.size f,∀b,H' b=lR->b∈(c.heap.objs.size+f.length+2)::(c.heap.objs.size+f.length+1)::(mkZs c.heap.objs.size f).map (·.it)->y.l≠b:=by
    ext y a b k hm z;let(hb1,hb2,hb3):=a08 a;let(t,d):=hsrc _ hb3;let(its,_,hh):=SrcV.has (y:=y) r d
    let:@LT.lt Nat _ y.l c.heap.objs.size:=by
     unfold Zs.Has at hh
     split at hh<;>(let(o,ho,_):=hh;show Heap.lt_size ho)
    let e||hm:=aO.mp hm
    .show absurd (z.trans e) (a17 (by lia))
    let e||hm:=aO.mp hm
    .show absurd (z.trans e) (a17 (by lia))
    let(x,d,e):=bf.mp hm
    let:=(a08 d).1
    show absurd (z.trans e.symm) (a17 (by lia))
   show(a3A _ _,a17 (by lia),a17 (by lia),a17 (by lia),λy a=>?_,λy a=>?_)
   .let:=a08 a
    show(a17 (by lia),a17 (by lia),a17 (by lia))
   .show(hl' y a _ (hfp _ (by simp)) (by simp),hl' y a _ (hfp _ (by simp)) (by simp),λx d=>hl' y a _ (hfp _ (by simp;show .inr (.inr (.inr (x,d,rfl))))) (by simp;show .inr (.inr (x,d,rfl))))
  .ext i H' hgo y a;show hgo (y.tp,y.l,) (a08 a).2.2
  .ext i H' x H2 _ ⟨T,vs,a1,a2,a3,a4,a5⟩;show(T,vs,a1,a2,a3,by rw[a4,a0O],λj p t hp d=>?_);let(y,a,e):=a6d (b:=c.heap.objs.size) hp;subst e;show a5 j y t a d
  .ext i H' ⟨a1,p,hp,t,d,hl⟩;let(j,hj):=cj hp;let(y,a,e):=a6d (b:=c.heap.objs.size) hj;subst e;show(λy a=>a1 (y.tp,y.l,) (a08 a).2.2,y,bp a,t,d,hl)
  .let hb':@LE.le Nat _ c.heap.objs.size b:=by
    let rfl||k:=aO.mp k
    .lia
    let rfl||k:=aO.mp k
    .lia
    let rfl||k:=aO.mp k
    .lia
    let(x,d,rfl):=bf.mp k;show (a08 d).1
   show r.fpOk hb' (r.hok.fresh hb')
noncomputable def Itv(K:Fg)(a:Addr)(n:Nat):It:=
 (λi H=>i<n/\∃xs,SqL K H a xs/\xs.length=n,λi H x H'=>H'=H/\∀xs,SqL K H a xs->xs[n-1-i]?=bo x,λi _=>i=n)
theorem b0C{P:ik}{w:World}{K:Fg}{tg:Expr}(a it:Addr)(n:Nat):Turn P w K tg (Itv K a n) [it] it (λi h=>i<=n/\h.IsRevIter it a ((n:Int)-1-(i:Nat))) where
 mem:=by simp
 obj:=λi h st b hb=>by
  let e:b=it:=↑hb
  subst e;let(o,e,c,d):=st.2;show(o,e,λv z=>by rw[d]at z;cases z)
 keep:=λi h h' st k=>(st.1,st.2.at λo e=>k it (by simp) o e)
 item:=by
  ext X hP hw hK hc i pins s σ H E I hf st hg;subst hP hw hK;let(hi,xs,hq,hx):=hg;let(its,rv,p,hz):=I.list hq;let hx':=aU (show n-1-i<xs.length by cbv);let(u,hu,ru):=rv.get hx';let(f0,f1,f2,f3,f4,f5):=hf it (by simp);let st':=st.2;let e1:(n:Int)-1-(i:Nat)=((n-1-i:Nat):Int):=by cbv
  rw[e1]at st';show wpAny_pyNext_rev_item st' p.isList (x:=u) ↑hu λh' s2 sb=>?_;let I1:Inv X pins σ H { s with heap:=h' }:=I.turned (t':=s.toks) (λb o hb e=>(sb.2 b hb).trans e) f0 f1 f3 f4 f5;let(o,e,c,d):=id s2;show(u,rfl,a9N (s:={ s with heap:=h' }) e c d (by decide) (xs[n-1-i],H,I1,ru,(rfl,λys hy=>by rw[I.list_inj hy hq];show hx'),(by cbv,?_),λb hb=>(hf b hb).1));let e2:(n:Int)-1-((i+1:Nat):Int)=((n-1-i:Nat):Int)-1:=by cbv
  rw[e2];show s2
 done:=by
  ext X hP hw hK hc i pins s σ H E I hf st hg;subst hP hw hK;let(f0,f1,f2,f3,f4,f5):=hf it (by simp);let hi:i=n:=hg;let st':=st.2;let e1:(n:Int)-1-(i:Nat)=-1:=by cbv
  rw[e1]at st';show wpAny_pyNext_rev_end (I.ok.hd hc) st' λh' eb=>(rfl,I.turned (t':=s.toks) (λb o hb e=>eb b o hb e) f0 f1 f3 f4 f5)
 self:=λ_ _ _ _ _ st h=>wpAny_pyIter_revIter st.2 h
def b8a(K:Fg)(ta:TA):TI:=fun σ H R=>ta σ H λvs H1=>∃a xs,vs=[.ref a]/\SqL K H1 a xs/\R (Itv K a xs.length) H1
def b5V(hg:Gl X "reversed")(hm:X.mg "reversed"=lR)(ha:PA X [e] ta)
  (he:ii [e] X.env=(lT,eval e X.env,)::ii [] X.env):PI X tg (.Call (.Name "reversed" p) [e] [] pos) (b8a X.K ta):=by
 ext i s σ H R I h;show Call_ (a2N I hg hm boot_reversed (PyProof.Rows.callWith_type1 (thn (ha pos i s σ H _ I h) λy c (A,v,f,k,l)=>?_) he rfl));let(a,d,rfl,n,q):=l;let(u,rfl,r):=a1F k;cases r;let(j,m,w,z):=f.list n;let x:j.toArray.size=d.length:=by rw[bE,m.length]
 show call_reversed_list w.isList ?_;rw[x];let g:(c.heap.push (revObj a ((d.length)-1))).IsRevIter c.heap.objs.size a ((d.length)-1-0):=(_,Heap.get?_push_size _ rfl,rfl,by simp[revObj]);show wpAny_pyIter_revIter g (c.heap.objs.size,[c.heap.objs.size],_,_,v,rfl,f.kept λb o e=>Heap.get?_push_of_some _ e,b0C a _ d.length,(bv _,g),λb t=>?_,q);let e:b=c.heap.objs.size:=by simp_all
 subst e;show f.fpOk (aQ _) (f.hok.fresh (aQ _))
def a64(I:Inv X pins σ H s)(rx:RelV x u)(ty:TyOf X.K H x t)(h2:∀C dx fs a,x=.ref a->H a≠bo (.ins C dx fs)):∃F:Heap->Prop,PySem.W.KitX X.K u t F/\F s.heap/\u≠.builtin "__main__.__loader__#opaque":=by
 cases ty with
 |non=>cases (rx);show(_,PySem.W.kitx_none,True.intro,λz=>nomatch z)
 |bl y=>cases (rx);show(_,PySem.W.kitx_bool,True.intro,λz=>nomatch z)
 |int i=>let(t,q):=(rx);cases q;show(_,PySem.W.kitx_int,True.intro,λz=>nomatch z)
 |str y=>let(t,q):=(rx);cases q;show(_,PySem.W.kitx_str,True.intro,λz=>nomatch z)
 |flt y=>let(t,q):=(rx);cases q;show(_,PySem.W.kitx_float,True.intro,λz=>nomatch z)
 | @lst a d ea=>
  cases (rx);let(_,_,n,_,b):=(I.hok a _ ea);show(_,PySem.W.kitx_list,(_,b,rfl),λz=>nomatch z)
 | @frz a ob d ea=>
  cases (rx);let(_,_,_,n,_,b):=(I.hok a _ ea);show(_,PySem.W.kitx_list,(_,b,rfl),λz=>nomatch z)
 | @tup a d ea=>
  cases (rx);let(_,_,_,p):=(I.hok a _ ea);let(o,b,h2,_):=p;show(_,PySem.W.kitx_tuple,(o,b,h2),λz=>nomatch z)
 | @dK a kvs ea=>
  cases (rx);let(_,_,vs,_,p):=(I.hok a _ ea);let(o,e,f,b,h2,_):=p;show(_,PySem.W.kitx_dict,(o,b,h2.1),λz=>nomatch z)
 | @dT a kvs ea=>
  cases (rx);let(_,_,d,_,o,e,f,b,h2,_):=(I.hok a _ ea);show(_,PySem.W.kitx_dict,(o,b,h2.1),λz=>nomatch z)
 | @ins a C dx fs ea cl ha hn htk hm=>show absurd ea (h2 C dx fs a rfl)
theorem b1T:∀{Ts:List String}{us:List Value},Vals (Ts.map V.ty) us->us=Ts.map Value.type
 |[],us,r=>by rw[bF]at r;cases r;rfl
 |T::Ts,us,r=>by
  cases r with
  |cons r1 r2=>rw[b1T r2,r1];rfl
def b8b(K:Fg):List V->Hp->VK->Prop:=λxs H Q=>∃(x:V)(p:Addr)(Ts:List String)(t:Value)(b:Bool),xs=[x,.ref p]/\SqT K H p (Ts.map V.ty)/\TyOf K H x t/\(∀C dx fs a,x=.ref a->H a≠bo (.ins C dx fs))/\PySem.W.kitAny K t (Ts.map Value.type)=bo b/\Q (.bl b) H
def a8A:CallR X (.builtin "isinstance") (b8b X.K):=by
 ext l s σ H J L Q I r h;let(x,p,Ts,t,b,rfl,m,A,y,e,q):=h;let(u,f,rfl,o,k):=a6L r;cases (k);let(B,a,c,_):=I.tuple m;let j:=b1T a;subst j;let(F,Z,z,g):=a64 I o A y;let((C,G,E,D),i,w,n,v):=c;cases w;cases v;show PySem.W.kia_tup Z I.kIn z i e g λd=>(.bl b,H,I.tok d,rfl,q)
noncomputable def a8B(x y:Str):Int:=match im.Str.occurrences x y 0 x.length 1 with
 |i::_=>(i:Int)
 |[]=>-1
def b28:MtR X "str.find" (λx vs H Q=>∃(z y:Str),x=.str z/\vs=[.str y]/\Q (.int (a8B z y)) H):=by
 ext c s σ H x f v g Q I b d h;let(z,y,rfl,rfl,q):=h;let(t,rfl):=b;let(u,rfl,e):=a1F d;let(a,rfl):=e;show call_gives PySem.F.slot_str_find (jl _ _ _) PySem.F.entry_str_find (PySem.F.args_str_find_2 _ _) (gives_str_find z y t a) (.int _,H,I.tok _,(_,rfl),q)
section
noncomputable def kitA(n:String):List String->Option Bool
 |[]=>bo lT
 |T::r=>match kit0 n T with
  |some lS=>bo lS
  |some lT=>kitA n r
  |none=>lR
theorem a8C{K:Fg}:∀Ts:List String,PySem.W.kitAny K (.type n) (Ts.map Value.type)=kitA n Ts
 |[]=>rfl
 |T::r=>by
  change (match PySem.W.kitOne K _ _ with |some lS=>bo lS |some lT=>PySem.W.kitAny K _ _ |none=>lR)=_
  rw[b1L,a8C r];rfl
def b29:List Z->Hq->K3->Prop:=λxs G R=>match xs with
 |[x,.tup ts]=>∃n Ts b,ts=Ts.map Z.ty/\tyN G x=bo n/\kitA n Ts=bo b/\R (.bl b) G
 |_=>False
theorem a6e{K:Fg}:∀{bs:List String}{vs:List V},Reps K H (bs.map Z.ty) vs->vs=bs.map V.ty
 |[],vs,h=>by rw[bF,a0t]at h;subst h;rfl
 |n::ns,vs,h=>by
  let(v,r,rfl,a,b):=h;rw[a,a6e b];rfl
def b5W{K:Fg}{G:Hq}{H:Hp}{x:Z}{v:V}{n:String}(h:tyN G x=bo n)(r:Rep K H x v)(hg:RH K G H):∀C dx fs a,v=.ref a->H a≠bo (.ins C dx fs):=by
 ext C dx fs a rfl e;cases x with
 |ref p=>
  rw[a0q]at r;cases r;cases q:G a with
  |none=>simp[tyN,q]at h
  |some o=>
   cases o with
   |lst ws=>let(vs,e',_):=hg _ _ q;rw[e]at e';cases e'
   |dK kvs=>let(vs,e',_):=hg _ _ q;rw[e]at e';cases e'
   |ins C dx fs=>simp[tyN,q]at h
   |dF kvs=>simp[tyN,q]at h
   |dT ks=>simp[tyN,q]at h
   |tab _ _=>simp[tyN,q]at h
 |tup ws=>rw[a03]at r;let(b,vs,q,e',_):=r;cases q;rw[e]at e';cases e'
 |non=>rw[a0z]at r;cases r
 |bl _=>rw[a0v]at r;cases r
 |int _=>rw[a0l]at r;cases r
 |str _=>rw[a0x]at r;cases r
 |ty _=>rw[a5X]at r;cases r
 |scr _ _=>cases h
def b1U:a1t X (.builtin "isinstance") b29:=a0U a8A λq H Q i=>i.un λg G R j a h l=>by
 match g,h with
 |[x,.tup ts],h=>
  let(v,o,rfl,r,d):=j.two;let(n,Ts,b,rfl,e,k,h):=h;let(p,m,rfl,f,c):=d
  let:=a6e c
  subst this;show(v,p,Ts,.type n,b,rfl,SqT.of f,a51 e r a,b5W e r a,by rw[a8C];show k,l _ _ _ _ h (by rw[a0v]) a (.refl _ _))
def b5X(e:tyN G x=bo n)(k:kitA n Ts=bo b)(h:R (.bl b) G):b29 [x,.tup (Ts.map Z.ty)] G R:=(n,Ts,b,rfl,e,k,h)
def b5Y:Z->List Z->Hq->K3->Prop:=λx xs G R=>match x,xs with
 |.str z,[.str y]=>R (.int (a8B z y)) G
 |_,_=>False
def b5Z:MtQ X "str.find" b5Y:=a7X b28 λx g H Q e=>e.un λw c G R a b d h f=>by
 match w,c,h with
 |.str z,[.str y],h=>
  let(v,rfl,r):=b.one;show(z,y,a,by rw[r],f _ _ _ _ h (by rw[a0l]) d (.refl _ _))
def b50(h:R (.int (a8B z y)) G):b5Y (.str z) [.str y] G R:=h
noncomputable def putZ(kvs:List (Key×Z))(k:Key)(v:Z):List (Key×Z):=
 if (kvs.any λkv=>decide (kv.1=k))=lS then kvs.map (λkv=>if kv.1=k then (kv.1,v,) else kv) else kvs++[(k,v,)]
theorem a8D{α β:Type}:∀{kvs:List (Key×α)}{us:List (Key×β)},us.map (·.1)=kvs.map (·.1)->(us.any λkv=>decide (kv.1=k))=kvs.any λkv=>decide (kv.1=k)
 |[],[],_=>rfl
 |[],_::_,h=>by simp at h
 |_::_,[],h=>by simp at h
 |p::ps,q::qs,h=>by
  rw[aZ,aZ]at h;injection h with h1 h2
  rw[cT,cT,a8D h2,h1]
def a36{K:Fg}(rv:Rep K H lU v)(hk:us.map (·.1)=kvs.map (·.1))(hr:Reps K H (kvs.map (·.2)) (us.map (·.2))) :
  (putK us k v).map (·.1)=(putZ kvs k lU).map (·.1)/\Reps K H ((putZ kvs k lU).map (·.2)) ((putK us k v).map (·.2)):=by
 unfold putK putZ;rw[a8D hk]
 split
 .let l:∀{d:List _}{f:List _},f.map (·.1)=d.map (·.1)->Reps K H (d.map (·.2)) (f.map (·.2))->((f.map λc=>if c.1=k then (c.1,v,) else c).map (·.1)=(d.map λc=>if c.1=k then (c.1,lU,) else c).map (·.1)/\Reps K H ((d.map λc=>if c.1=k then (c.1,lU,) else c).map (·.2)) ((f.map λc=>if c.1=k then (c.1,v,) else c).map (·.2))):=by
   ext d
   induction d with
   |nil=>ext f g h;cases f with
    |nil=>show(rfl,.nil)
    |cons _ _=>simp at g
   |cons p ps ih=>
    ext f g h;cases f with
    |nil=>simp at g
    |cons q qs=>
     rw[aZ,aZ]at g h;injection g with h3 h4
     let(a,b,e,j,m):=h;injection e with e1 e2
     subst e1 e2;let i:=ih h4 m;simp only[aZ]
     by_cases e:p.1=k
     .rw[if_pos e,if_pos (h3.trans e)];show(by rw[i.1,h3],.cons rv i.2)
     .rw[if_neg e,if_neg (λz=>e (h3.symm.trans z))];show(by rw[i.1,h3],.cons j i.2)
  show l hk hr
 .rw[aV,aV,hk,aV,aV];show(rfl,hr.append (.cons rv .nil))
noncomputable def keyZ:Z->Option Key
 |.non=>bo (.inl lR)
 |.int i=>bo (.inl (bo i))
 |.str x=>bo (.inr x)
 |_=>lR
def b51:Z3:=λo i v G R=>match o with
 |.ref p=>∃kvs k,G p=bo (.dK kvs)/\keyZ i=bo k/\kvs.length<ie/\R (put G p (.dK (putZ kvs k v)))
 |_=>False
def a18{K:Fg}(h:keyZ i=bo k)(r:Rep K H i v):v=kV k:=by
 cases i with
 |non=>rw[a0z]at r;cases h;show r
 |int j=>rw[a0l]at r;cases h;show r
 |str j=>rw[a0x]at r;cases h;show r
 |_=>cases h
def b0D(hu:X.A.units+66<cLine):PSet X (λo i v H Q=>∃a H',o=.ref a/\DPut H a i v H'/\Q H'):=by
 ext e s σ H o i v j l u Q I d f b h;let(a,H',rfl,g,q):=h;cases (d);show a7O (by lia) I g f b λk c=>(H',c,q)
def a8E{α β:Type}{kvs:List (Key×α)}{us:List (Key×β)}(h:us.map (·.1)=kvs.map (·.1)):us.length=kvs.length:=by
 rw[<- aN,h,aN]
def a24(hu:X.A.units+66<cLine):SetQ X b51:=b1H (b0D hu) λo i v H Q r=>r.un λa b w G R g q f d h u=>by
 cases a with
 |ref p=>
  let(j,k,e,n,t,h):=h;let(x,c,m,s):=d _ _ e;let l:=a36 (k:=k) f m s;show(p,_,g,?_,u _ _ h (d.set (.dK c) (_,a0h,l.1,l.2.mono (.dK c))) (.dK c));rw[a18 n q];show DPut.k c (a8E m▸t)
 |_=>show aX h
def a25(e:G p=bo (.dK kvs))(a:keyZ i=bo k)(z:kvs.length<ie)(h:Rg (put G p (.dK (putZ kvs k lU)))):b51 (.ref p) i lU G Rg:=(kvs,k,e,a,z,h)
def a8F:List Z->Hq->K3->Prop:=λxs G R=>match xs with
 |[.ref p]=>∃ns:List Int,(G p=bo (.lst (ns.map Z.int))\/∃kvs,G p=bo (.dK kvs)/\kvs.map (·.1)=ns.map λi=>Sum.inl (bo i))/\ns.length<=1000/\∀(t:Addr)(ms:List Int),G t=lR->ms.Perm ns->ms.Pairwise (·<=·)->R (.ref t) (put G t (.lst (ms.map Z.int)))
 |_=>False
def b0E(hc:X.calm=lS):a1t X (.builtin "sorted") a8F:=a0U (a5t hc) λw H Q n=>n.un λm G R o b h q=>by
 match m,h with
 |[.ref p],h=>
  let(v,rfl,r):=o.one;let(l,a,e,h):=h;show(p,l,by rw[r],?_,e,λt g c i j=>q _ _ _ _ (h t g (b.out c) i j) (by rw[a0q]) (b.set (.new c) (a0K (a1r _) (.new c))) (.new c));let a||(kvs,a,hk):=a
  .let(u,d,f):=b _ _ a
   let:=a4t f
   subst this;show .inl (SqL.of d)
  .let(k,d,s,_):=b _ _ a;show .inr (k,d,s.trans hk)
def a8G(e:G p=bo (.dK kvs))(k:kvs.map (·.1)=ns.map λi=>Sum.inl (bo i))(z:ns.length<=1000)(h:∀(t:Addr)(ms:List Int),G t=lR->ms.Perm ns->ms.Pairwise (·<=·)->R (.ref t) (put G t (.lst (ms.map Z.int)))):a8F [.ref p] G R:=(ns,.inr (kvs,e,k),z,h)
variable{tg:Expr}{t:A3}
def iRev(t:A3):I3:=fun σ G R=>t σ G λws G1=>∃a xs,ws=[.ref a]/\G1 a=bo (.lst xs)/\R xs.reverse (λG=>G a=bo (.lst xs)) G1
def a8H{K:Fg}:a4x K ws.reverse (λG=>G a=bo (.lst ws)) (Itv K a ws.length) H0:=λi G H g t l m=>by
 let(f,e,d):=g a _ l;rw[gF]at m ⊢;show(λh=>h,λw c=>?_);let b:i<ws.length:=by
  let:=(aT.mp c).1
  rwa [gF]at this
 rw[List.getElem?_reverse b]at c;let(v,j,k):=d.get c;show((b,f,SqL.of e,d.length.symm),?_);ext x n ⟨rfl,y⟩
 let:=y f (SqL.of e)
 rw[j]at this;cases this;show(k,g,.refl _ _)
def a5u(hg:Gl X "reversed")(hm:X.mg "reversed"=lR)(ha:QA X [e] t)
  (he:ii [e] X.env=(lT,eval e X.env,)::ii [] X.env:=by rfl):QI X tg (.Call (.Name "reversed" p) [e] [] pos) (iRev t):=a75 (b5V hg hm ha.p he) fun τ H R2 i=>i.un fun σ G R k hg h o=>by
 show(σ,G,_,k,hg,h,λws G1 vs H1 (a,xs,e,f,l) g b j=>?_);subst e;let(v,rfl,r):=g.one;subst r;let(m,n,d):=b a _ f;show(a,m,rfl,SqL.of n,by rw[<- d.length];show o _ _ _ _ _ l a8H b j)
noncomputable def srcZ(G:Hq):Z->Option (List Z)
 |.ref a=>match G a with
  |some (.lst ws)=>bo ws
  |_=>lR
 |.tup ws=>bo ws
 |_=>lR
noncomputable def zipZ:List (List Z)->List Z
 |[]=>[]
 |[xs]=>xs.map λx=>.tup [x]
 |xs::rest=>List.zipWith (λx r=>match r with |.tup ws=>.tup (x::ws) |r=>r) xs (zipZ rest)
def iZip(n:Nat)(t:A3):I3:=fun σ G R=>t σ G λws G1=>∃xss:List (List Z),ws.map (srcZ G1)=xss.map bo/\xss≠[]/\ws.length=n/\R (zipZ xss) (λG=>ws.map (srcZ G)=xss.map bo) G1
theorem a09:∀(xss:List (List Z)),xss≠[]->∀(i:Nat)(w:Z),(zipZ xss)[i]?=bo w↔∃vs:List Z,w=.tup vs/\xss.map (·[i]?)=vs.map bo
 |[],h,_,_=>absurd rfl h
 |[xs],_,i,w=>by
  simp only[zipZ,aR,aZ,bF]
  constructor
  .ext h;cases e:xs[i]? with
   |none=>rw[e]at h;cases h
   |some x=>rw[e]at h;cases h;show([x],rfl,rfl)
  .ext⟨a,rfl,h⟩
   match a,h with
   |[v],h=>rw[aZ,bF]at h;injection h with h _;rw[h];rfl
   |[],h=>cases h
   |_::_::_,h=>simp at h
 |xs::ys::rest,_,i,w=>by
  let b:=a09 (ys::rest) (by simp)
  change (List.zipWith _ xs _)[i]?=bo w↔_
  rw[List.getElem?_zipWith]
  constructor
  .ext h;cases e1:xs[i]? with
   |none=>rw[e1]at h;cases h
   |some x=>
    cases e2:(zipZ (ys::rest))[i]? with
    |none=>rw[e1,e2]at h;cases h
    |some r=>
     rw[e1,e2]at h;let(a,rfl,c):=(b i r).mp e2;cases h;show(x::a,rfl,by rw[aZ,c,e1];rfl)
  .ext⟨a,rfl,h⟩
   match a,h with
   |[],h=>simp at h
   |v::a,h=>
    rw[aZ,aZ]at h;injection h with h1 h2
    let:=(b i _).mpr (a,rfl,h2)
    rw[h1,this]
def a6f{K:Fg}(h:srcZ G lU=bo ws)(r:Rep K H lU v)(hg:RH K G H):∃p:Bool×Addr,v=.ref p.2/\(p.1=lS↔∃us,lU=.tup us)/\∃vs,SrcP K H p vs/\Reps K H ws vs:=by
 cases lU with
 |ref a=>
  cases q:G a with
  |none=>simp[srcZ,q]at h
  |some o=>
   cases o with
   |lst us=>
    simp[srcZ,q]at h;subst h;let(c,d,b):=hg _ _ q;show((lT,a,),r,by simp,c,by unfold SrcP;rw[if_neg (by simp)];show SqL.of d,b)
   |_=>simp[srcZ,q]at h
 |tup us=>
  let(a,c,rfl,e,b):=r;cases h;show((lS,a,),rfl,by simp,c,by unfold SrcP;rw[if_pos rfl];show SqT.of e,b)
 |_=>cases h
theorem a6g{K:Fg}(hg:RH K G H):∀{ws:List Z}{vs:List V}{xss:List (List Z)},ws.map (srcZ G)=xss.map bo->Reps K H ws vs->∃ps:List (Bool×Addr),vs=ps.map (λp=>V.ref p.2)/\ps.length=ws.length /\
  (∀(j:Nat)(p:Bool×Addr)(w:Z),ps[j]?=bo p->ws[j]?=bo w->(p.1=lS↔∃us,w=.tup us))/\∀p∈ps,∃us,SrcP K H p us
 |[],vs,xss,_,r=>by rw[a0t]at r;subst r;show([],rfl,rfl,λj p w e=>by simp at e,λp h=>by simp at h)
 |w::ws,vs,[],h,_=>by simp at h
 |w::ws,vs,xs::xss,h,r=>by
  injection h with h1 h2
  let(v,s,rfl,d,o):=r;let(p,rfl,i,f,l,_):=a6f h1 d hg;let(q,rfl,m,k,n):=a6g hg h2 o;show(p::q,rfl,by simp[m],λj a g c b=>?_,λa h=>?_)
  .cases j with
   |zero=>simp at c b;subst c b;show i
   |succ j=>show k j a g ↑c ↑b
  .let rfl||h:=aO.mp h
   .grind
   .show n a h
def SrcP.uniq{K:Fg}(h:SrcP K H p xs)(g:(if p.1=lS then H p.2=bo (.tup ys) else H p.2=bo (.lst ys))):SrcP K H p ys:=by
 unfold SrcP
 split
 .next e=>rw[if_pos e]at g;show SqT.of g
 .next e=>rw[if_neg e]at g;show SqL.of g
def a8I{K:Fg}(h:srcZ G lU=bo ws)(r:Rep K H0 lU (.ref p.2))(hp:p.1=lS↔∃us,lU=.tup us)(t:TK K H0 H)(hg:RH K G H):∃vs,SrcP K H p vs/\Reps K H ws vs:=by
 let(q,e,j,i,f,g):=a6f h (r.mono t) hg;let k:p=q:=by
  let(a,b):=p;let(c,d):=q;cases e
  let:a=c:=by rw[cH];show hp.trans j.symm
  rw[this]
 subst k;show(i,f,g)
theorem a1w{α:Type}{β:Type}{f:α->Option β}:∀{l:List α}{m:List β}{j:Nat}{x:α},l.map f=m.map bo->l[j]?=bo x->∃y,m[j]?=bo y/\f x=bo y
 |[],_,_,_,_,e=>by simp at e
 |a::l,[],_,_,h,_=>by simp at h
 |a::l,b::m,j,x,h,e=>by
  injection h with h1 h2
  cases j with
  |zero=>simp at e;subst e;show(b,rfl,h1)
  |succ j=>o_head a1w h2 (by simp_all)
def a8J{K:Fg}(hne:xss≠[])(hv:vs=ps.map λp=>V.ref p.2)(hl:ps.length=ws.length)(rs:Reps K H0 ws vs)(hk:∀(j:Nat)(p:Bool×Addr)(w:Z),ps[j]?=bo p->ws[j]?=bo w->(p.1=lS↔∃us,w=.tup us)) :
  a4x K (zipZ xss) (λG=>ws.map (srcZ G)=xss.map bo) (ItzP K ps) H0:=λi G H S t Q hi=>by
 let A:xss.length=ws.length:=by rw[<- aN (as:=ws),Q,aN]
 let o:∀(j:Nat) p,ps[j]?=bo p->∃b a,xss[j]?=bo b/\SrcP K H p a/\Reps K H b a:=λj p e=>by
  let d:j<ws.length:=by rw[<- hl];show (aT.mp e).1
  let I:=aU d;let(b,k,n):=a1w Q I;let(v,m,r):=rs.get I;rw[hv,aR,e]at m;cases m;let(a,s,L):=a8I n r (hk j p _ e I) t S;show(b,a,k,s,L)
 show(λh=>(λp F=>?_,?_),λw hw=>?_)
 .let(j,d):=cj F;let(b,a,_,k,_):=o j p d;show(a,k)
 .show Classical.byContradiction λno=>?_;let all:∀b∈xss,i<b.length:=λb E=>by
   let(j,d):=cj E;let D:j<ps.length:=by rw[hl,<- A];show (aT.mp d).1
   let(xs',a,k,n,m):=o j _ (aU D);rw[d]at k;cases k;show Classical.byContradiction λc=>no (_,bN D,a,n,?_);rw[<- m.length]
   lia
  let:(zipZ xss)[i]?=bo (.tup (xss.map λb=>b.getD i .non)):=(a09 xss hne i _).mpr (_,rfl,by
   rw[bW];show eC λb E=>?_
   let:=all b E
   simp[aU this])
  let:=(aT.mp this).1
  lia
 .let(g,rfl,U):=(a09 xss hne i w).mp hw;let aa:g.length=ps.length:=by rw[<- aN,<- U,aN,A,hl]
  let B:∀(j:Nat)(b:List Z),xss[j]?=bo b->∃z,g[j]?=bo z/\b[i]?=bo z:=λj b d=>a1w (f:=λl:List Z=>l[i]?) U d;show(λp F=>?_,?_)
  .let(j,d):=cj F;let(b,a,M,k,n):=o j p d;let(z,m,r):=B j b M;let(v,s,_):=n.get r;show(a,v,k,s)
  .ext x H' ⟨T,a,R,rfl,rfl,C,N⟩;let tT:TK K H (upd H T (.tup a)):=.new R;show(?_,S.hid R,tT);rw[a03];show(T,a,rfl,a0h,?_);let go:∀{g:List Z}{a:List V},g.length=a.length->(∀(j:Nat) z u,g[j]?=bo z->a[j]?=bo u->Rep K H z u)->Reps K H g a:=by
    ext g
    induction g with
    |nil=>ext a h _;cases a with
     |nil=>show .nil
     |cons _ _=>simp at h
    |cons z g ih=>ext a h q;cases a with
     |nil=>simp at h
     |cons u a=>show .cons (q 0 z u rfl rfl) (ih ↑h λj z u J y=>q (j+1) z u ↑J ↑y)
   show (go (by rw[aa,C]) λj z u J y=>?_).mono tT;let d:j<ps.length:=by rw[<- C];show (aT.mp y).1
   let(b,Y,M,k,n):=o j _ (aU d);let(z',m,r):=B j b M;rw[J]at m;cases m;let(v,s,L):=n.get r;let(u',h7,X):=N j _ Y (aU d) k;rw[y]at h7;cases h7;rw[s]at X;cases X;show L
def a8K(hok:∀us:List Value,us.length=n->a23 us)(hn:n<=1000)(hg:Gl X "zip")(hm:X.mg "zip"=lR)(ha:QA X (e::es) t)
  (he:ii (e::es) X.env=(lT,eval e X.env,)::ii es X.env:=by rfl) (hpl:(backTo pos (ii es X.env)).any (·.1)=lT:=by rfl):QI X (.Tuple elts x1 tpos) (.Call (.Name "zip" p) (e::es) [] pos) (iZip n t):=a75 (b5U hg hm hok hn ha.p he hpl) fun τ H R2 a=>a.un fun σ G R s hg h u=>by
 show(σ,G,_,s,hg,h,λws G1 vs H1 (b,a,c,k,m) l d q=>?_);let(r,e,g,o,ha):=a6g d a l;show(r,e,?_,by rw[g,k],ha,u _ _ _ _ _ m (a8J c e g l o) d q);ext rfl
 let:b.length=0:=by rw[<- aN,<- a,aN,<- g];rfl
 show c (cC.mp this)
def zok2(us:List Value)(h:us.length=2):a23 us:=by
 cases us with
 |nil=>cases h
 |cons a us=>cases us with
  |nil=>cases h
  |cons b us=>cases us with
   |nil=>show b5S a b
   |cons c us=>cases h
def zok4(us:List Value)(h:us.length=4):a23 us:=by
 cases us with
 |nil=>cases h
 |cons a us=>cases us with
  |nil=>cases h
  |cons b us=>cases us with
   |nil=>cases h
   |cons c us=>cases us with
    |nil=>cases h
    |cons d us=>cases us with
     |nil=>show b5T a b c d
     |cons e us=>cases h
def b52(h:t σ G λws G1=>∃a xs,ws=[.ref a]/\G1 a=bo (.lst xs)/\Ri xs.reverse (λG=>G a=bo (.lst xs)) G1):iRev t σ G Ri:=h
def b53(h:t σ G λws G1=>∃xss:List (List Z),ws.map (srcZ G1)=xss.map bo/\xss≠[]/\ws.length=n/\Ri (zipZ xss) (λG=>ws.map (srcZ G)=xss.map bo) G1):iZip n t σ G Ri:=h
def a8L{K:Fg}(h:∀ws G R,¬ sp ws G R):FnOk P w K mg base CX k f fd ps (lowP K sp):=
 (λ_ _ _ _ (a,G,R,_,_,q,_)=>(h a G R q).elim,λ_ _ _ _ _ _ _ _ _ _ _ _ _ (a,G,R,_,_,q,_)=>(h a G R q).elim)
end
section
variable{C f:Addr}{sp:P3}{a:Str}{e:Expr}
def made(h1:∀q dx,G1 q=lR->sp (.ref q::ws) (put G1 q (.ins C dx [])) λv G2=>v=.non/\R (.ref q) G2)(rs:Reps X.K H1 ws vs)(hg1:RH X.K G1 H1)(up:UpV X.K H1 R Q)(q dx:Addr)(n1:H1 q=lR)(n2:H1 dx=lR)(ne:dx≠q) :
  lowP X.K sp (.ref q::(vs++[])) (L2.upd (L2.upd H1 dx (.own q)) q (.ins C dx [])) (λv H2=>v=.non/\Q (.ref q) H2) lU:=by
 let a:L2.upd H1 dx (.own q) q=lR:=(a0f (Ne.symm ne))▸n1;let d:TK X.K H1 (L2.upd _ q (.ins C dx [])):=(TK.new n2).trans (TK.new a);show(.ref q::ws,put G1 q (.ins C dx []),_,?_,?_,h1 q dx (hg1.out n1),?_)
 .rw[bC,a2R];show(_,vs,rfl,by rw[a0q],rs.mono d)
 .show (hg1.hid n2).set (TK.new a) ([],a0h,rfl,by rw[bF,a0t];rfl)
 .ext w h v i ⟨f,g⟩ b c e;subst f;show(b,up _ _ _ _ g (by rw[a0q]) c (d.trans e))
end
section
variable{σ:St}{a:Addr}{kvs:List (Key×V)}{k:Key}{d:V}{u r:Value}
def b54(I:Inv X pins σ H s)(e:H a=bo (.dK kvs))(ry:RelV (kV k) u)(rd:RelV d r)(hz:kvs.length<ie)
  (h1:∀v w' s',valV kvs k=bo v->Inv X pins σ H s'->RelV v w'->Q w' s') (h2:valV kvs k=lR->∀s',Inv X pins σ (upd H a (.dK (putK kvs k d))) s'->Q r s') :
  wpAny (model X.prog X.w) A (call (.builtin "dict.setdefault") [.ref a,u,r]) Q E s:=by
 let(z,f,n,b,h):=a9X I.hok e;let l:(putK kvs k d).length<=sizeLine:=by let:=a1d kvs k d;lia
 show jJ PySem.F.slot_dict_setdefault h.typeIs PySem.F.entry_dict_setdefault (PySem.F.args_dict_setdefault_3 _ _ _) (kt_meets_setdefault _ a (a5c ry) f r) (n,h,by rw[<- b.length];show z,λm i=>?_,λx p c o=>?_)
 .cases hv:valV kvs k with
  |none=>
   let:=(b.val k).isSome_eq
   rw[hv,i]at this;cases this
  |some v=>
   let g:=b.val k;rw[hv,i]at g;show h1 v m _ hv (I.tok _) g
 .let j:valV kvs k=lR:=by
   let:=(b.val k).isSome_eq
   rw[x]at this;cases hv:valV kvs k with
   |none=>rfl
   |some v=>rw[hv]at this;cases this
  let t:∃q,p.get? a=bo q:=by let(q,_,_,hq,_):=c;show(q,hq)
  show h2 j _ (a5d I (e▸True.intro) o t (b1B l f (b.put k rd) c))
end
def b3a(hu:X.A.units+66<cLine):MtR X "dict.get" (λx vs H Q=>∃a y d o,x=.ref a/\vs=[y,d]/\DGet H a y o/\Q (o.getD d) H):=by
 intro f s σ H x m v t Q I c k (a,y,d,o,h,e,g,q);subst h e;cases c;let(u,r,rfl,j,l):=a6L k;show b4Q (by lia) I g j l λn p i b=>(_,H,i,b,q)
def b0F(hu:X.A.units+66<cLine):MtR X "dict.get" (λx vs H Q=>∃a y o,x=.ref a/\vs=[y]/\DGet H a y o/\Q (o.getD .non) H):=by
 intro i s σ H x m v n Q I f e (a,y,o,c,d,g,q);subst c d;cases f;let(u,rfl,h):=a1F e;show b4P (by lia) I g h λl k j b=>(_,H,j,b,q)
def b3b:MtR X "dict.setdefault" (λx vs H Q=>∃a kvs k d,x=.ref a/\vs=[kV k,d]/\H a=bo (.dK kvs)/\kvs.length<ie/\(∀v,valV kvs k=bo v->Q v H)/\(valV kvs k=lR->Q d (upd H a (.dK (putK kvs k d))))):=by
 intro m s σ H x z v B Q I i p (a,y,k,d,n,j,e,q,g,t);subst n j;cases i;let(u,r,rfl,o,f):=a6L p;show b54 I e o f q (λv A w l b c=>(v,H,b,c,g v l)) λh w b=>(d,_,b,f,t h)
noncomputable def valZ(kvs:List (Key×Z))(k:Key):Option Z:=(kvs.find? λkv=>decide (kv.1=k)).map (·.2)
theorem a0Q{K:Fg}:∀{kvs:List (Key×Z)}{us:List (Key×V)},us.map (·.1)=kvs.map (·.1)->Reps K H (kvs.map (·.2)) (us.map (·.2))->(valZ kvs k=lR->valV us k=lR)/\∀z,valZ kvs k=bo z->∃v,valV us k=bo v/\Rep K H z v
 |[],[],_,_=>(λ_=>rfl,λ_ h=>by cases h)
 |[],_::_,h,_=>by simp at h
 |_::_,[],h,_=>by simp at h
 | (c,x,)::fs,(c',v,)::gs,h,r=>by
  simp at h;let(rfl,h):=h;let(g,f,e,d,a):=r;let(rfl,rfl):=bJ.inj e;unfold valZ valV;rw[cg,cg];cases q:decide (c'=k) with
  |true=>
   show(λe=>?_,λz e=>?_)
   .cases e
   .cases e;show(v,rfl,d)
  |false=>show (a0Q (k:=k) h a)
def b55:Z->List Z->Hq->K3->Prop:=λx xs G R=>match x,xs with
 |.ref p,[y,d]=>∃kvs k,(G p=bo (.dK kvs)\/G p=bo (.dF kvs))/\keyZ y=bo k/\R ((valZ kvs k).getD d) G
 |_,_=>False
def b56(hu:X.A.units+66<cLine):MtQ X "dict.get" b55:=a7X (b3a hu) λx E H Q m=>m.un λw B G R j s i h l=>by
 match w,B,h with
 |.ref p,[y,d],h=>
  let(v,q,rfl,t,o):=s.two;let(g,k,e,D,h):=h;obtain⟨a,f,c,b⟩:∃a,Rd H p (.dK a)/\a.map _=g.map _/\Reps X.K H _ (a.map _):=by
   let e||e:=e
   .let(a,f,c,b):=i _ _ e;show(a,.inl f,c,b)
   .let(C,a,f,c,b):=i _ _ e;show(a,.inr (C,f),c,b)
  show(p,v,q,valV a k,j,rfl,by rw[a18 D t];show .inl (a,k,f,rfl,rfl),?_);cases hz:valZ g k with
  |none=>
   rw[hz]at h;rw[(a0Q c b).1 hz];show l _ _ _ _ h o i (.refl _ _)
  |some z=>
   rw[hz]at h;let(u,r,n):=(a0Q c b).2 z hz;rw[r];show l _ _ _ _ h n i (.refl _ _)
def b57:Z->List Z->Hq->K3->Prop:=λx xs G R=>match x,xs with
 |.ref p,[y]=>∃kvs k,G p=bo (.dK kvs)/\keyZ y=bo k/\R ((valZ kvs k).getD .non) G
 |_,_=>False
def b3c(hu:X.A.units+66<cLine):MtQ X "dict.get" b57:=a7X (b0F hu) λx t H Q n=>n.un λw l G R a j b h g=>by
 match w,l,h with
 |.ref p,[y],h=>
  let(v,rfl,m):=j.one;let(c,k,e,q,h):=h;let(r,s,d,f):=b _ _ e;show(p,v,valV r k,a,rfl,by rw[a18 q m];show DGet.k s,?_);cases hz:valZ c k with
  |none=>
   rw[hz]at h;rw[(a0Q d f).1 hz];show g _ _ _ _ h (by rw[eK,a0z];rfl) b (.refl _ _)
  |some z=>
   rw[hz]at h;let(u,i,o):=(a0Q d f).2 z hz;rw[i];show g _ _ _ _ h o b (.refl _ _)
def b58:Z->List Z->Hq->K3->Prop:=λx xs G R=>match x,xs with
 |.ref p,[y,d]=>∃kvs k,G p=bo (.dK kvs)/\keyZ y=bo k/\kvs.length<ie/\(∀z,valZ kvs k=bo z->R z G)/\(valZ kvs k=lR->R d (put G p (.dK (putZ kvs k d))))
 |_,_=>False
def a4K:MtQ X "dict.setdefault" b58:=a7X b3b λx M H Q C=>C.un λw t G R i F l h r=>by
 match w,t,h with
 |.ref p,[y,d],h=>
  let(v,E,rfl,B,q):=F.two;let(b,k,e,L,A,s,J):=h;let(D,c,f,g):=l _ _ e;show(p,D,k,E,i,by rw[a18 L B],c,by rw[a8E f];show A,λu a=>?_,λa=>?_)
  .cases hq:valZ b k with
   |none=>rw[(a0Q f g).1 hq]at a;cases a
   |some z=>
    let(I,j,m):=(a0Q f g).2 z hq;rw[j]at a;cases a;show r _ _ _ _ (s z hq) m l (.refl _ _)
  .cases hq:valZ b k with
   |some z=>
    let(I,j,m):=(a0Q f g).2 z hq;rw[j]at a;cases a
   |none=>
    let n:=a36 (k:=k) q f g;show r _ _ _ _ (J hq) (q.mono (.dK c)) (l.set (.dK c) (_,a0h,n.1,n.2.mono (.dK c))) (.dK c)
def a4L(e:G p=bo (.dK kvs))(a:keyZ y=bo k)(h:R ((valZ kvs k).getD d) G):b55 (.ref p) [y,d] G R:=(kvs,k,.inl e,a,h)
def b1V(e:G p=bo (.dK kvs))(a:keyZ y=bo k)(z:kvs.length<ie)(h1:∀z,valZ kvs k=bo z->R z G)(h2:valZ kvs k=lR->R d (put G p (.dK (putZ kvs k d)))):b58 (.ref p) [y,d] G R:=(kvs,k,e,a,z,h1,h2)
def a5v{P:Prop}(e:G p=bo (.dK kvs))(h:P):tyZ "dict" (.ref p) G/\P:=(.inr (rfl,kvs,.inl e),h)
noncomputable def keysOf:List (Z×Z)->Option (List (Key×Z))
 |[]=>bo []
 | (x,y,)::r=>match keyZ x,keysOf r with
  |some k,bo kvs=>bo ((k,y,)::kvs)
  |_,_=>lR
noncomputable def a2C(kvs more:List (Key×Z)):List (Key×Z):=more.foldl (λacc kv=>putZ acc kv.1 kv.2) kvs
def PReps(K:Fg)(H:Hp):List (Z×Z)->List (V×V)->Prop:=Paired λp q=>Rep K H p.1 q.1/\Rep K H p.2 q.2
def PReps.mono{K:Fg}(t:TK K H H'):∀{ps:List (Z×Z)}{vs:List (V×V)},PReps K H ps vs->PReps K H' ps vs:=by ext z0 y0 x0;induction x0 with
 |nil=>show .nil
 |cons r s I0=>show .cons (r.1.mono t,r.2.mono t) (I0)
theorem ln0{α:Type}{C:List α->Prop}(h:C []):∀us:List α,us.length=0->C us
 |[],_=>h
theorem lnS{α:Type}{C:List α->Prop}(h:∀a,∀us:List α,us.length=n->C (a::us)):∀us:List α,us.length=n+1->C us
 |a::us,e=>h a us (Nat.succ.inj e)
def b3d:∀{vs:List Value}{ns:List Int},iE vs ns->SetW.KsAre (jE P w) vs ns:=by ext z0 y0 x0;induction x0 with
 |nil=>show .nil
 |cons n t h I0=>show .cons (intKind_is _ _ _ _) (I0)
def b3e(h:SetW.KsAre (jE P w) vs ns):iE vs ns:=by
 induction h with
 |nil=>show .nil
 | @cons v k vs ks h _ ih=>
  cases v<;>simp[jE,Value.isInt]at h
  subst h;show .cons _ _ ih
def a8M:∀{vs:List Value}{ns:List Int},iE vs ns->∀v∈vs,v.scannable=lS:=by
 ext c b h
 induction h with
 |nil=>ext v a;cases a
 |cons n t h ih=>
  ext v a;let rfl||a:=aO.mp a
  .rfl
  .show ih v a
noncomputable def setO(X:Cx)(t:Addr)(ms:List Int):HO:=.ext λh=>SetW.SI (jE X.prog X.w) h t ms
def b59(X:Cx):List V->Hp->VK->Prop:=λxs H Q=>∃(p:Addr)(ns:List Int),xs=[.ref p]/\SqL X.K H p (ns.map V.int)/\ns.length<=1000 /\
 ∀(t:Addr)(ms:List Int),H t=lR->SetW.Met (λi=>ns.getD i 0) ns.length ms->Q (.ref t) (upd H t (setO X t ms))
def a65(hc:X.calm=lS):CallR X (.type "set") (b59 X):=by
 ext c s σ H xs us Q I r h;let(p,ns,rfl,n,hz,q):=h;let(u,rfl,v):=a1F r;cases v;let(j,m,z,_):=I.list n;let f:=a3s m;let A:=a35 f;let sb:1001<scanBound:=by decide
 let i:j.toArray.size=ns.length:=by grind
 show SetW.call_set (ns:=ns) (k0:=0) (I.ok.hd hc) z.isList ↑(b3d f) ↑(a8M f) (by grind) λg l d S M k=>?_;rw[i]at M;let t:=
  I.laid (t':=l) (λb o e=>k b o (Heap.lt_size e) e) (aQ _) (show ObjOk X.prog X.w _ g _ (setO X s.heap.objs.size d) from (S,by let(_,_,_,S'):=S;show by let(o,e,_):=S'.at_;show(o,e),λ_ _ x y=>x.at y))
 show(.ref s.heap.objs.size,_,t,rfl,q _ d (I.hok.fresh (aQ _)) M)
def b0G(X:Cx):List V->Hp->VK->Prop:=λxs H Q=>∃(p:Addr)(ms:List Int),xs=[.ref p]/\H p=bo (setO X p ms)/\ms.length<=1000 /\
 ∀(t:Addr)(ks:List Int),H t=lR->ks.Perm ms->ks.Pairwise (·<=·)->Q (.ref t) (upd H t (.lst (ks.map V.int)))
def a4M(hc:X.calm=lS):CallR X (.builtin "sorted") (b0G X):=by
 ext c s σ H xs us Q I r h;let(p,ns,rfl,y,B,q):=h;let(u,rfl,t):=a1F r;cases t;show a4J B (λR E=>SetW.collect_set (I.ok.hd hc) ((I.hok p _ y).1) λg a d m F J l C=>E g a d m F J (b3e l) C) λg v a d j n i x D e z k o=>?_;let f:Inv X c σ H { s with heap:=g,drawn:=d,toks:=a }:=(I.drew d).kept x;show(.ref g.objs.size,_,f.laid D (aQ _) (show ObjOk X.prog X.w _ v _ (.lst _) from (by rw[aN,k.length_eq,ir];lia,j,n,a4I z,e)),rfl,q _ i (f.hok.fresh (aQ _)) k o)
def b3f{ns ms:List Int}(h:SetW.Met (λi=>ns.getD i 0) ns.length ms):∀x,x∈ms↔x∈ns:=λx=>by
 rw[h.2.2 x]
 constructor
 .ext⟨j,a,e⟩;let e:ns.getD j 0=x:=e;rw[dc,aU a]at e;show e▸bN a
 .ext b;let(j,a,e):=b8.mp b;show(j,a,by change ns.getD j 0=x;rw[dc,aU a];show e)
def a8N:∀{ks:List Int},ks.Nodup->ks.Pairwise (·<=·)->ks.Pairwise (·<·):=by ext z0;induction z0 with
 |nil=>ext _ _;show .nil
 |cons k ks I0=>
  ext h1 h2;let(b,c):=bV.mp h1;let(f,d):=aW.mp h2;show aW.mpr (λx a=>?_,I0 c d);let h:=f x a;let g:k≠x:=λe=>b (e▸a)
  lia
section
variable{e:Expr}{t:A3}{x y:Str}{p p2 pos2:Pos}
def uSS(t:A3):E3:=fun σ G R=>t σ G λws G1=>∃(p:Addr)(ns:List Int),ws=[.ref p]/\G1 p=bo (.lst (ns.map Z.int))/\ns.length<=1000 /\
 ∀(t:Addr)(ks:List Int),G1 t=lR->ks.Pairwise (·<·)->(∀x,x∈ks↔x∈ns)->ks.length<=ns.length->R (.ref t) (put G1 t (.lst (ks.map Z.int)))
def i_ss{p:Addr}{ns:List Int}{R:K3}(e:G p=bo (.lst (ns.map Z.int)))(z:ns.length<=1000)
  (h:∀(t:Addr)(ks:List Int),G t=lR->ks.Pairwise (·<·)->(∀x,x∈ks↔x∈ns)->ks.length<=ns.length->R (.ref t) (put G t (.lst (ks.map Z.int)))) :
  ∃(q:Addr)(ns':List Int),[Z.ref p]=[.ref q]/\G q=bo (.lst (ns'.map Z.int))/\ns'.length<=1000 /\
   ∀(t:Addr)(ks:List Int),G t=lR->ks.Pairwise (·<·)->(∀x,x∈ks↔x∈ns')->ks.length<=ns'.length->R (.ref t) (put G t (.lst (ks.map Z.int))):=(p,ns,rfl,e,z,h)
def q_ss(hc:X.calm=lS)(hg:Gl X x)(hm:X.mg x=lR)(hv:iH x=bo (.builtin "sorted"))(hg2:Gl X y)(hm2:X.mg y=lR)(hv2:iH y=bo (.type "set"))(ha:QA X (e::es) t)
  (he:ii (e::es) X.env=(lT,eval e X.env,)::ii es X.env) (hpl:(backTo pos2 (ii es X.env)).any (·.1)=lT)
  (hn:x≠"__name__":=by decide) (hdb:(x==("__debug__":Str))=lT:=by decide) (hn2:y≠"__name__":=by decide) (hdb2:(y==("__debug__":Str))=lT:=by decide) :
  QE X (.Call (.Name x p) [.Call (.Name y p2) (e::es) [] pos2] [] pos) (uSS t):=⟨a0X (a3M (a4M hc) hg hm hv (a3L (a1W (a65 hc) hg2 hm2 hv2 ha.p hn2 hdb2 he hpl) a5S rfl) hn hdb rfl rfl) fun τ H Q n=>n.un fun σ G R hs hg h s=>
 (σ,G,_,hs,hg,h,λws G1 vs H1 f rs c w=>by
  let(p,B,rfl,A,z,f):=f;let(v,rfl,r):=rs.one;let(vs',o,k):=c _ _ A
  let:=a4t k
  subst this;show(p,B,by rw[r],SqL.of o,z,λa j ha M=>(a,j,rfl,a0h,bj M.2.1 z,λu q b g m=>?_));let l:=c.hid (u:=setO X a j) ha;show s _ _ _ _ (f u q (l.out b) (a8N (g.nodup_iff.mpr M.1) m) (λx=>by rw[g.mem_iff];show b3f M x) (g.length_eq▸M.2.1)) (by rw[a0q]) (l.set (.new b) (a0K (a1r _) (.new b))) (w.trans ((TK.new ha).trans (.new b))))⟩
end
def a66:CallR X (.type "int") (λxs H Q=>∃(x:Str)(n:Int),xs=[.str x]/\intText? x=bo n/\x.length<=640/\Q (.int n) H):=by
 ext d s σ H e f Q I r h;let(x,n,rfl,b,a,q):=h;let(u,rfl,c):=a1F r;let(t,rfl):=c;show PySem.W.KIN.call_text b a (.int n,H,I.tok _,(_,rfl),q)
def KD(X:Cx)(a:Addr)(kvs:List (Key×V)):Prop:=kvs.length<=ie/\(a==iC)=lT/\∃vs,KV kvs vs/\∀h:Heap,X.K.In h->h.DictOf (a0k X.prog X.w) a vs
def a19(h:PE X e (tC (.ref a))):QE X e (uC (.ref a)):=a6Q h λ_=>by rw[a0q]
def a00(hg:Gl X x)(hm:X.mg x=bo (.ref a))(hd:(x==("__debug__":Str))=lT:=by decide):PE X (.Name x pos) (tC (.ref a)):=b2f hg hm rfl hd
def b8c:List Z->Hq->K3->Prop:=λxs G R=>match xs with
 |[.str x]=>∃n,intText? x=bo n/\x.length<=640/\R (.int n) G
 |_=>False
def b8d:a1t X (.type "int") b8c:=a0U a66 λi H Q f=>f.un λc G R e b h a=>by
 match c,h with
 |[.str x],h=>
  let(v,rfl,r):=e.one;let(n,g,d,h):=h;show(x,n,by rw[r],g,d,a _ _ _ _ h (by rw[a0l]) b (.refl _ _))
noncomputable def zV:Z->V
 |.str x=>.str x
 |.ref a=>.ref a
 |.int i=>.int i
 |_=>.non
noncomputable def b6a:Z->Bool
 |.str _=>lS
 |.ref _=>lS
 |.int _=>lS
 |_=>lT
def KDZ(X:Cx)(a:Addr)(kvs:List (Key×Z)):Prop:=(∀kv∈kvs,b6a kv.2=lS)/\KD X a (kvs.map λkv=>(kv.1,zV kv.2,))
def KTup(K:Fg)(a:Addr)(ss:List Str):Prop:=∃(o:Obj)(its:Array Value)(n:Nat),K.lookup a=bo o/\o.cls=.type "tuple"/\o.data=.seq its n/\its.size<=ie/\Vals (ss.map V.str) its.toList
def KTup.sq{K:Fg}(h:KTup K a ss):SqT K H a (ss.map V.str):=.inr h
def KDk(w:World)(K:Fg)(a:Addr)(kvs:List (Key×Z)):Prop:=(∀kv∈kvs,b6a kv.2=lS)/\kvs.length<=ie/\(a==iC)=lT/\∃vs:List (Key×Value),KV (kvs.map λkv=>(kv.1,zV kv.2,)) vs/\∀(P:ik)(h:Heap),K.In h->h.DictOf (a0k P w) a vs
def KDk.at(h:KDk X.w X.K a kvs):KDZ X a kvs:=(h.1,by rw[aN];show h.2.1,h.2.2.1,by let(vs,r,q):=h.2.2.2;show(vs,r,q X.prog))
section
open PySem.W
def b6b(ea:hasDictIn lU D=lS)(eb:findIn lU (.ref D) "__getattribute__"=bo (bo (.builtin "BaseException.__getattribute__")))(ec:findIn lU (.ref D) "__getattr__"=bo lR)(ed:findIn lU (.ref D) "__class__"=bo (bo (.builtin "object.__class__")))
  (ee:specialIn lU (.builtin "object.__class__") "__get__"=bo (bo (.builtin "getset_descriptor.__get__"))) (ef:takesIn lU (.builtin "object.__class__")=bo lS) (eg:mroIn lU D (.type "object")=bo lS) (eh:mroIn lU D (.type "BaseException")=bo lS):ExK lU D:=
 (by let(b,a,_):=any_some ea;rw[a];rfl,eb,ec,ed,ee,ef,eg,eh)
def b6c(xb:subIn lU (.ref D) (.type "BaseException")=bo lS)(xt:typeIn lU (.ref D)=bo (.type "type"))(xs:subIn lU (.ref C) (.ref D)=bo lS)(xh:hasDictIn lU D=lS):exmOne lU (.ref C) (.ref D)=bo lS:=by
 let(b,a,_):=any_some xh;unfold exmOne;rw[if_pos (by simp_all)]
 change (if _=lS then subIn lU _ _ else lR)=bo lS
 rw[if_pos (by simp_all)];show xs
end
section
variable{e:Addr}{oe:Obj}{C:Addr}
def rIsX(K:Fg)(C e:Addr):List V->Hp->VK->Prop:=λxs H Q=>∃y b,xs=[.ref e,y]/\((∃D,y=.ref D/\PySem.W.kitOne K (.ref C) (.ref D)=bo b)\/(∃T,y=.ty T/\PySem.W.kitOne K (.ref C) (.type T)=bo b) \/
 ∃(p:Addr)(ds:List Addr),y=.ref p/\SqT K H p (ds.map V.ref)/\PySem.W.kitAny K (.ref C) (ds.map Value.ref)=bo b)/\Q (.bl b) H
theorem a8O:∀{ds:List Addr}{us:List Value},Vals (ds.map V.ref) us->us=ds.map Value.ref
 |[],us,r=>by rw[bF]at r;cases r;rfl
 |T::Ts,us,r=>by
  cases r with
  |cons r1 r2=>rw[a8O r2,r1];rfl
def b0H(hc:oe.cls=.ref C)(hd:oe.dict=lR)(hn:PySem.W.notCls oe=lS)(k:ExK X.K C):CallR (X.hnd e oe) (.builtin "isinstance") (rIsX X.K C e):=by
 ext m s σ H B E Q I r h;let(y,b,rfl,t,q):=h;let(u,d,rfl,v,c):=a6L r;cases (v);let J:PySem.W.InstAt s.heap e oe C lR:=((I.pin _ (.head _)).1,hc,hn,by rw[hd];show True.intro);let(D,rfl,e1)||(T,rfl,e1)||(p,ds,rfl,hq,e1):=t
 .cases (c);show PySem.W.kia_one (a3U k) I.kIn J e1 (λz=>nomatch z) λa=>(.bl b,H,I.tok a,rfl,q)
 .cases (c);show PySem.W.kia_one (a3U k) I.kIn J e1 (λz=>nomatch z) λa=>(.bl b,H,I.tok a,rfl,q)
 .cases (c);let(w,i,o,_):=I.tuple hq;let l:=a8O i;subst l;let((F,A,x,G),j,g,n,f):=o;cases g;cases f;show PySem.W.kia_tup (a3U k) I.kIn J j e1 (λz=>nomatch z) λa=>(.bl b,H,I.tok a,rfl,q)
end
abbrev PX3:=List Z->Hq->K3->(Addr->Hq->Prop)->Prop
def UpX(K:Fg)(H:Hp)(EE:Addr->Hq->Prop)(E:XK):Prop:=∀C G H',EE C G->RH K G H'->TK K H H'->E (.ref C) lR H'
def a37(K:Fg)(sp:PX3):Sp:=λvs H Q E=>∃ws G R EE,Reps K H ws vs/\RH K G H/\sp ws G R EE/\UpV K H R Q/\UpX K H EE E
def b6d{K:Fg}(t:TKs H H'):TK K H H':=(t.tup,λa b h=>by
 let(o,h)||h:=h
 .show .inl (o,t.frz _ _ _ h)
 .show .inr h,t.frz)
def UpN(K:Fg)(EE:Addr->Hq->Prop)(E:XK):Prop:=∀C G H',EE C G->RH K G H'->E (.ref C) lR H'
def UpX.since{K:Fg}(h:UpX K H EE lU):UpN K EE (since H lU):=λC G a q r t=>h C G a q r (b6d t)
abbrev EE0:Addr->Hq->Prop:=λ_ _=>False
def up0{K:Fg}:UpN K EE0 E0:=λ_ _ _ z _=>z.elim
def a26:a2y (CXx X.prog X.w) X E0:=by simp[a2y,CXx]
section
variable{E:XK}{EE:Addr->Hq->Prop}{e e0:Expr}{x n:Str}{p np cpos hpos tpos:Pos}{t:A3}{te:E3}{k:Nat}{f C D:Addr}{fd:iG}{ps:List Str}{sp:PX3}
def a8P(sp:PX3)(EE:Addr->Hq->Prop)(t:A3):E3:=fun σ G R=>t σ G λws G1=>sp ws G1 R EE
def b3g(hp:a2y (CXx X.prog X.w) X E)(hU:UpN X.K EE E)(F:FnOk X.prog X.w X.K X.mg X.base (CXx X.prog X.w) k f fd ps (a37 X.K sp))(hr:Room k X.A)(hg:Gl X x)(hm:X.mg x=bo (.ref f))(hk:PySem.W.keepIn X.K (.ref f)=lS)(hb:Binds X.K fd ps [])(ha:QA X (e::es) t)
  (hdb:(x==("__debug__":Str))=lT:=by decide) (he:ii (e::es) X.env=(lT,eval e X.env,)::ii es X.env:=by rfl) (hpl:(backTo pos (ii es X.env)).any (·.1)=lT:=by rfl) :
  QE X (.Call (.Name x p) (e::es) [] pos) (a8P sp EE t):=⟨a0X (a7E F hr hg hm hk hb .nil hp ha.p hdb he hpl) fun τ H Q l=>l.un fun σ G R i hg h n=>(σ,G,_,i,hg,h,λo g vs H1 c d b j=>(o,g,R,EE,by rw[bC];show d,b,c,n.mono j,λC G m z r _=>hU C G m z r))⟩
def b6e(EE:Addr->Hq->Prop)(C:Addr)(te:E3):X3:=λ_ _ _ _ σ G=>te σ G λ_ G1=>EE C G1
def b3h(O:Outs X E)(hU:UpX X.K X.H₀ EE E)(hc:X.calm=lS)(hg:Gl X x)(hm:X.mg x=bo (.ref C))(hq:PySem.W.excIn X.K C veM "ValueError.__new__"=lS)(he:QE X e0 te)
  (hs:ii [e0] X.env=(lT,eval e0 X.env,)::ii [] X.env:=by rfl) (hp:(backTo cpos (ii [] X.env)).any (·.1)=lT:=by rfl) (hd:(x==("__debug__":Str))=lT:=by decide) :
  QS X (.Raise (bo (.Call (.Name x np) [e0] [] cpos)) lR pos) (b6e EE C te):=⟨a1G (b0a O hc hg hm hq he.p hs hp hd) λD τ H d=>d.un fun σ G nx rt bk ct hs hg h u1 u2 u3 u4=>(σ,G,_,hs,hg,h,λw G1 v H1 e rv a t1=>λt=>hU _ _ _ e a (b6d t))⟩
theorem RSt.unset{K:Fg}:∀{σ:S3}{τ:L2.St},RSt K H σ τ->∀i:Nat,RSt K H (σ.set i lR) (τ.set i lR)
 |_,_,.nil,_=>by rw[List.set_nil,List.set_nil];show .nil
 |_,_,.cons r h,0=>.cons (λ_ z=>nomatch z) h
 |_,_,.cons r h,i+1=>.cons r (RSt.unset h i)
def uTry(C:Addr)(i:Nat)(sp:PX3)(t:A3)(th:Addr->X3):X3:=λnx rt bk ct σ G=>t σ G λws G1=>sp ws G1 (λ_ G2=>nx σ G2) λC' G2=>C'=C/\∀e,th e (fun σ' G'=>nx (σ'.set i lR) G') rt (fun σ' G'=>bk (σ'.set i lR) G') (fun σ' G'=>ct (σ'.set i lR) G') (σ.set i (bo (.ref e))) G2
def b8e(hst:X.stack=X.env::X.outer)(hex:X.ex=[])(hfm:X.env.frame=bo X.env.locals)
  (F:FnOk X.prog X.w X.K X.mg X.base (CXx X.prog X.w) k f fd ps (a37 X.K sp)) (hr:Room k X.A) (hgf:Gl X y) (hmf:X.mg y=bo (.ref f)) (hk:PySem.W.keepIn X.K (.ref f)=lS) (hb:Binds X.K fd ps []) (ha:QA X.nox (e::es) t)
  (hg:Gl X x) (hm:X.mg x=bo (.ref D)) (hD:PySem.W.exmOne X.K (.ref C) (.ref D)=bo lS) (hN:X.N.Nodup) (hi:X.N[i]?=bo n) (hl:X.env.scope.names.lookup n=bo .local)
  (hh:∀e oe,oe.cls=.ref C->oe.dict=lR->PySem.W.notCls oe=lS->QSs (X.hnd e oe) (b₀::suite) (th e))
  (he:ii (e::es) X.env=(lT,eval e X.env,)::ii es X.env:=by rfl) (hpl:(backTo cp (ii es X.env)).any (·.1)=lT:=by rfl) (hdb:(y==("__debug__":Str))=lT:=by decide)
  (hs:iY (.Call (.Name y p) (e::es) [] cp) lR pos.line X.env=pure lT:=by rfl) (hd:(x==("__debug__":Str))=lT:=by decide) :
  QS X (.Try [.Expr (.Call (.Name y p) (e::es) [] cp) pos] [.ExceptHandler (bo (.Name x np)) (bo n) (b₀::suite) hpos] [] [] tpos) (uTry C i sp t th):=
 ⟨a1G (b4Z (PC:=(·=C)) (th:=λ_ e=>lowS X.K (th e)) hst hex hfm (b2A F hr hgf hmf hk hb ha.p hdb he hpl) hg hm (λ_ z=>z▸hD) hN hi hl (λ_ e oe z r b h3=>(hh e oe (z▸r) b h3).p) hs hd) λD τ H hx=>hx.un fun σ G nx rt bk ct hs hg h u1 u2 u3 u4=>by
  show(λc _ s=>∃l G',c=.ref l/\(l=C/\∀e,th e (fun σ' G'=>nx (σ'.set i lR) G') rt (fun σ' G'=>bk (σ'.set i lR) G') (fun σ' G'=>ct (σ'.set i lR) G') (σ.set i (bo (.ref e))) G')/\RH X.K G' s/\TK X.K H s,?_,?_)
  .show(σ,G,_,hs,hg,h,λws G1 vs H1 r rs hg1 u=>(ws,G1,_,_,by rw[bC];show rs,hg1,r,λw m v q b _ a g=>u1 _ _ _ _ b (hs.mono (u.trans g)) a (u.trans g),λl m q b r2 g=>(l,m,rfl,b,r2,u.trans g)))
  .ext c s ⟨l,G',rfl,⟨hC',hth⟩,hg',t'⟩;show(l,rfl,hC',λe _=>(σ.set i (bo (.ref e)),G',_,_,_,_,(hs.mono t').set (by rw[a0q]) i,hg',hth e,?_,u2.mono t',?_,?_))
   .show fun σ2 m τ2 q b j a g=>u1 _ _ _ _ b (RSt.unset j i) a (t'.trans g)
   .show fun σ2 m τ2 q b j a g=>u3 _ _ _ _ b (RSt.unset j i) a (t'.trans g)
   .show fun σ2 m τ2 q b j a g=>u4 _ _ _ _ b (RSt.unset j i) a (t'.trans g)⟩
variable{o:Expr}{m:Str}
def zIsX(K:Fg)(C e:Addr):List Z->Hq->K3->Prop:=λxs G R=>∃y b,xs=[.ref e,y]/\((∃D,y=.ref D/\PySem.W.kitOne K (.ref C) (.ref D)=bo b)\/(∃T,y=.ty T/\PySem.W.kitOne K (.ref C) (.type T)=bo b) \/
 ∃ds:List Addr,y=.tup (ds.map Z.ref)/\PySem.W.kitAny K (.ref C) (ds.map Value.ref)=bo b)/\R (.bl b) G
theorem a4N{K:Fg}:∀{bs:List Addr}{vs:List V},Reps K H (bs.map Z.ref) vs->vs=bs.map V.ref
 |[],vs,h=>by rw[bF,a0t]at h;subst h;rfl
 |n::ns,vs,h=>by
  let(v,r,rfl,a,b):=h;rw[a,a4N b];rfl
def b3i{e:Addr}(hc:oe.cls=.ref C)(hd:oe.dict=lR)(hn:PySem.W.notCls oe=lS)(k:ExK X.K C):a1t (X.hnd e oe) (.builtin "isinstance") (zIsX X.K C e):=a0U (b0H hc hd hn k) λs H Q j=>j.un λn G R d i h m=>by
 let(y,b,rfl,f,q):=h;let(v,g,rfl,r,a):=d.two;subst r;show(g,b,rfl,?_,m _ _ _ _ q (by rw[a0v]) i (.refl _ _));let(D,rfl,e1)||(T,rfl,e1)||(ds,rfl,e1):=f
 show .inl (D,a,e1);show .inr (.inl (T,a,e1))
 .rw[a03]at a;let(p,o,rfl,l,c):=a
  let:=a4N c
  subst this;show .inr (.inr (p,ds,rfl,SqT.of l,e1))
end
section
variable{K:Fg}{mg:Str->Option Value}{base:Heap}
def fn3x{st:Stmt}(F:Fun K x qual st f fd)(S:FnScope N ps (a0i st))(len:∀ws G R EE,sp ws G R EE->ws.length=ps.length)
  (hbody:∀(cdv:Value)(A:Around)(outer:List Env)(s:Shared)(H:Hp)(E:XK)(ws:List Z)(G:Hq)(R:K3)(EE:Addr->Hq->Prop),Room k (A.deeper (envOfC qual (a0i st) s.heap.objs.size f cdv))->sp ws G R EE->UpX K H EE E ->
   ∃t,QSs (cxOf (CXx P w) P w K mg base N qual (a0i st) f cdv A outer s H E) (a0I st) t/\t (λ_ G'=>R .non G') R (λ_ _=>False) (λ_ _=>False) (a07 N ws) G):FnOk P w K mg base (CXx P w) (k+1) f fd ps (a37 K sp):=by
 let(I,T,U,C,M,V,m,L,z,rfl,n,g):=F.ex;show b2t n g S (λo H Q E (b,G,R,e,c,j,h,d,l)=>by rw[<- c.length];show len _ _ _ _ h) ?_;ext A a s H o Q E r ⟨b,G,R,e,c,j,h,d,l⟩;let(t,v,q):=hbody m A a s H E b G R e r h l;show(_,v.p,a07 N b,G,_,R,_,_,.start c,j,q,fun σ' J τ' D u B i y=>d _ _ _ _ u (by rw[a0z]) i y,d,λ_ _ _ _ h _ _ _=>h.elim,λ_ _ _ _ h _ _ _=>h.elim)
end
mutual
def DZ(G:Hq):PyData->Z->Prop
 |.none,x=>x=.non
 |.bool b,x=>x=.bl b
 |.int i,x=>x=.int i
 |.str s,x=>x=.str s
 |.list ds,x=>∃p ws,x=.ref p/\G p=bo (.lst ws)/\DZs G ds ws
 |.tuple ds,x=>∃ws,x=.tup ws/\DZs G ds ws
 |.dict _,_=>False
def DZs(G:Hq):List PyData->List Z->Prop
 |[],ws=>ws=[]
 |d::ds,ws=>∃w r,ws=w::r/\DZ G d w/\DZs G ds r
end
mutual
theorem DZ.sm{G G':Hq}(s:Sm G G'):∀{d:PyData}{w:Z},DZ G d w->DZ G' d w
 |.none,w,q=>by unfold DZ at q ⊢;show q
 |.bool b,w,q=>by unfold DZ at q ⊢;show q
 |.int i,w,q=>by unfold DZ at q ⊢;show q
 |.str _,w,q=>by unfold DZ at q ⊢;show q
 |.list ds,w,q=>by
  unfold DZ at q ⊢;let(p,ws,e,hp,q):=q;show(p,ws,e,s _ _ hp,DZs.sm s q)
 |.tuple ds,w,q=>by
  unfold DZ at q ⊢;let(ws,e,q):=q;show(ws,e,DZs.sm s q)
 |.dict _,w,q=>by unfold DZ at q;show q.elim
theorem DZs.sm{G G':Hq}(s:Sm G G'):∀{ds:List PyData}{ws:List Z},DZs G ds ws->DZs G' ds ws
 |[],ws,q=>by unfold DZs at q ⊢;show q
 |d::ds,ws,q=>by
  unfold DZs at q ⊢;let(w,r,e,q1,q2):=q;show(w,r,e,DZ.sm s q1,DZs.sm s q2)
end
def b6f:List Z->Hq->K3->Prop:=λxs G R=>match xs with
 |[.bl b]=>R (.int (if b then 1 else 0)) G
 |_=>False
def a8Q:CallR X (.type "int") (λxs H Q=>∃b:Bool,xs=[.bl b]/\Q (.int (if b then 1 else 0)) H):=by
 ext c s σ H e d Q I r h;let(b,rfl,q):=h;let(u,rfl,a):=a1F r;cases (a);show PySem.call_int_bool (.int _,H,I.tok _,(_,rfl),q)
def b1W:a1t X (.type "int") b6f:=a0U a8Q λg H Q d=>d.un λc G R a f h e=>by
 match c,h with
 |[.bl b],h=>
  let(v,rfl,r):=a.one;show(b,by rw[r],e _ _ _ _ h (by rw[a0l]) f (.refl _ _))
def a8R(h:R (.int (if b then 1 else 0)) G):b6f [.bl b] G R:=h
noncomputable def ItD(o:Obj)(a:Addr)(kvs:List (Key×V)):It:=
 (λi H=>H a=bo (.frz o (.dK kvs))/\i<kvs.length,λi H x H'=>H'=H/\∃p,kvs[i]?=bo p/\x=kV p.1,λi H=>H a=bo (.frz o (.dK kvs))/\kvs.length<=i)
def b8f(h:(a0k P w).is k u=lS):RelV (kV k) u:=by
 let(i,t,rfl,rfl)||(x,t,rfl,rfl)||(rfl,rfl):=a0p h
 .show(t,rfl)
 .show(t,rfl)
 .rfl
def a3B:∀{kvs:List (Key×V)}{vs:List (Key×Value)},KV kvs vs->vs.length=kvs.length:=by ext z0;induction z0 with
 |nil=>ext vs h;cases h;rfl
 |cons p kvs I0=>
  ext vs h;cases h with
  |cons h1 h2=>rw[be,be,I0 h2]
theorem b1X:∀{kvs:List (Key×V)}{vs:List (Key×Value)}{i:Nat}{p:Key×V},KV kvs vs->kvs[i]?=bo p->∃q,vs[i]?=bo q/\p.1=q.1
 |[],vs,i,p,h,e=>by simp at e
 |p0::kvs,vs,i,p,h,e=>by
  cases h with
  |cons h1 h2=>
   cases i with
   |zero=>cases e;show(_,rfl,h1.1)
   |succ i=>show b1X (i:=i) h2 ↑e
theorem a8S{P:ik}{w:World}{K:Fg}{tg:Expr}(a it:Addr){o:Obj}(kvs:List (Key×V)){es:Array j5}{ep:Nat}(hd:o.data=.dict es ep):Turn P w K tg (ItD o a kvs) [it] it (λi h=>h.IsKeyIter it a i kvs.length ep) where
 mem:=by simp
 obj:=λi h st b hb=>by
  let e:b=it:=↑hb
  subst e;let(o,e,c,d):=st;show(o,e,λv z=>by rw[d]at z;cases z)
 keep:=λi h h' st k=>st.at λo e=>k it (by simp) o e
 item:=by
  ext X hP hw hK hc i pins s σ H E I hf st hg;subst hP hw hK;let(ha,hi):=hg;let(g,hz,hsm,vs,kv,dof):=(show ObjOk X.prog X.w H s.heap a (.frz o (.dK kvs)) from I.hok a _ ha);let(f0,f1,f2,f3,f4,f5):=hf it (by simp);let hl:=a3B kv;let dat:s.heap.DictAt (a0k X.prog X.w) a vs ep:=by
   let(o',es',ep',h1,h2,h3,h4):=dof;rw[g]at h1;cases h1;rw[hd]at h3;cases h3;show(o,es,g,h2,hd,h4)
  obtain⟨p,hp⟩:∃p,kvs[i]?=bo p:=(kvs[i],aU hi);let((k,v),hq,e1):=b1X kv hp;show wpAny_pyNext_dict_item (by rw[hl];show st) dat hq λkey h' hk st' sb=>?_;let I1:Inv X pins σ H { s with heap:=h' }:=I.turned (t':=s.toks) (λb o hb e=>(sb.2 b hb).trans e) f0 f1 f3 f4 f5;rw[hl]at st';let(oi,e,c,d):=id st';show(key,rfl,a9N (s:={ s with heap:=h' }) e c d (by decide) (kV p.1,H,I1,by rw[e1];show b8f hk,(rfl,p,hp,rfl),st',λb hb=>(hf b hb).1))
 done:=by
  ext X hP hw hK hc i pins s σ H E I hf st hg;subst hP hw hK;let(ha,hi):=hg;let(g,hz,hsm,vs,kv,dof):=(show ObjOk X.prog X.w H s.heap a (.frz o (.dK kvs)) from I.hok a _ ha);let(f0,f1,f2,f3,f4,f5):=hf it (by simp);let hl:=a3B kv;let dat:s.heap.DictAt (a0k X.prog X.w) a vs ep:=by
   let(o',es',ep',h1,h2,h3,h4):=dof;rw[g]at h1;cases h1;rw[hd]at h3;cases h3;show(o,es,g,h2,hd,h4)
  show wpAny_pyNext_dict_end (I.ok.hd hc) (by rw[hl];show st) dat (dz (by cbv)) λh' eb=>(rfl,I.turned (t':=s.toks) (λb o hb e=>eb b o hb e) f0 f1 f3 f4 f5)
 self:=λ_ _ _ _ _ st h=>wpAny_pyIter_keyiter st h
section
variable{σ:St}{a:Addr}{kvs:List (Key×V)}{tg:Expr}
def Inv.freeze(I:Inv X pins σ H s)(e:H a=bo (.dK kvs)):∃o,Inv X pins σ (upd H a (.frz o (.dK kvs))) s:=by
 let(p,k,t,x,h):=(I.hok a _ e);let i:=h;let(o,C,B,g,r):=i;show(o,?_);let l:∀b,H b=lR->b≠a:=λb q z=>by rw[z,e]at q;cases q
 let j:∀b d,H b=bo (.tup d)->b≠a:=λb d q z=>by rw[z,e]at q;cases q
 let A:∀b o u,H b=bo (.frz o u)->b≠a:=λb o u q z=>by rw[z,e]at q;cases q
 let y:∀b f,H b=bo (.tbl f)->b≠a:=λb f q z=>by rw[z,e]at q;cases q
 let m:∀b c,H b=bo (.own c)->b≠a:=λb c q z=>by rw[z,e]at q;cases q
 show I.un (λb o q _ _ _=>q,λb o q _ _ _=>(o.slots,q),λb o q n _=>by rw[a0f (l b n)];show n,λb o q _=>(o,q),λb d q=>by rw[a0f (j b d q)];show q,λb o u q=>by rw[a0f (A b o u q)];show q,λb f q=>(#[],by rw[a0f (y b f q),e9];show q)) λb u q=>?_
 by_cases hb:b=a
 .subst hb;rw[a0h]at q;cases q;show(g,p,k,t,x,h)
 .rw[a0f hb]at q;show (I.hok b u q).stay (λc v _ r=>r) (λc r=>by rw[a0f (m c b r)];show r) λc d r=>by rw[a0f (j c d r)];show r
def iDct(tl:TE):TI:=fun σ H R=>tl σ H λx H1=>∃a kvs,x=.ref a/\((H1 a=bo (.dK kvs)/\∀o,R (ItD o a kvs) (upd H1 a (.frz o (.dK kvs))))\/∃o,H1 a=bo (.frz o (.dK kvs))/\R (ItD o a kvs) H1)
def b3j(hl:PE X l tl):PI X tg l (iDct tl):=by
 ext c s σ H R I h;show thn (hl c s σ H _ I h) λv d (x,B,r,C,E)=>?_;let(a,f,e,q):=E;subst e;cases C;let k:∀o i,Inv X c σ i d->i a=bo (.frz o (.dK f))->R _ i->wpAny _ X.A _ (PIE X c σ tg R) X.xe d:=λo i j m q=>by
  let(g,M,t,L,D,y):=(j.hok a _ m);let(N,n):=y.dictAt;let p:=n;let(J,G,u,_,F,_):=p;rw[g]at u;cases u;show wpAny_pyIter_dict t n (d.heap.objs.size,[d.heap.objs.size],_,_,i,rfl,j.kept λb o e=>Heap.get?_push_of_some _ e,a8S a _ f F,(_,Heap.get?_push_size _ rfl,rfl,by rw[a3B D];rfl),λb z=>?_,q);let e:b=d.heap.objs.size:=by grind
  subst e;show j.fpOk (aQ _) (j.hok.fresh (aQ _))
 let(m,q)||(o,m,q):=q
 .let(o,j):=r.freeze m;show k o _ j a0h (q o)
 .show k o B r m q
end
noncomputable def keyW:Key->Z
 |.inl (bo i)=>.int i
 |.inl lR=>.non
 |.inr s=>.str s
theorem b0I{K:Fg}:∀k:Key,Rep K H (keyW k) (kV k)
 |.inl (bo i)=>by change Rep K H (.int i) (.int i);rw[a0l]
 |.inl lR=>by change Rep K H .non .non;rw[a0z]
 |.inr s=>by change Rep K H (.str s) (.str s);rw[a0x]
def wkD(x:Z)(G:Hq)(R:List Z->(Hq->Prop)->Hq->Prop):Prop:=match x with
 |.ref a=>∃kvs,(G a=bo (.dK kvs)\/G a=bo (.dF kvs))/\R (kvs.map λp=>keyW p.1) (λ_=>True) (put G a (.dF kvs))
 |_=>False
def iD(tl:E3):I3:=fun σ G R=>tl σ G λx G1=>wkD x G1 R
def a3C{K:Fg}{kvs:List (Key×Z)}(e:H0 a=bo (.frz o (.dK us)))(hn:us.map (·.1)=kvs.map (·.1)):a4x K (kvs.map λp=>keyW p.1) (λ_=>True) (ItD o a us) H0:=λi G H g t n j=>by
 let d:=t.frd _ _ _ e;let l:us.length=kvs.length:=by let:=congrArg bn hn;o_head this
 rw[aN]at j;show(λh=>(d,by rw[aN]at h;lia),λw b=>?_);rw[aR]at b;cases hk:kvs[i]? with
 |none=>rw[hk]at b;cases b
 |some p=>
  rw[hk]at b;cases b;let k:=(aT.mp hk).1;show((d,by lia),?_);ext x m ⟨rfl,q,f,rfl⟩
  let:q.1=p.1:=by
   let c:(us.map (·.1))[i]?=bo q.1:=by rw[aR,f];rfl
   rw[hn,aR,hk]at c;show (bo.inj c).symm
  rw[this];show(b0I _,g,.refl _ _)
section
variable{tg l:Expr}{tl:E3}
def a27(hl:QE X l tl):QI X tg l (iD tl):=a75 (b3j hl.p) fun τ H B u=>u.un fun σ G R z A h t=>by
 show(σ,G,_,z,A,h,λw r v q d k c s=>?_);cases w with
 |ref a=>
  let(j,e,d):=d;let e||e:=e
  .let(g,f,i,n):=c _ _ e;show(a,g,k,.inl (f,λo=>?_));let m:TK X.K q (L2.upd q a (.frz o (.dK g))):=.dK f;show t _ _ _ _ _ d (a3C a0h i) (c.set m (o,g,a0h,i,n.mono m)) (s.trans m)
  .let x:=e;let(o,g,f,i,n):=c _ _ e;show(a,g,k,.inr (o,f,?_));let y:put r a (.dF j)=r:=by
    funext b
    unfold put
    split
    .simp_all
    .rfl
   rw[y]at d;show t _ _ _ _ _ d (a3C f i) c s
 |_=>show aX d
def i_iD(h:tl σ G λx G1=>wkD x G1 R):iD tl σ G R:=h
def a8T(e:G p=bo (.dK kvs)\/G p=bo (.dF kvs))(h:R (kvs.map λp=>keyW p.1) (λ_=>True) (put G p (.dF kvs))):wkD (.ref p) G R:=(kvs,e,h)
end
def b3k:∀{ss:List Str}{us:List Value},Vals (ss.map V.str) us->jB us ss:=by ext z0;induction z0 with
 |nil=>ext us r;rw[bF]at r;cases r;show .nil
 |cons s ss I0=>
  ext us r;cases r with
  |cons r1 r2=>let(t,rfl):=r1;show .cons s t (I0 r2)
def a28:∀{vs:List Value}{ss:List Str},jB vs ss->Vals (ss.map V.str) vs:=by ext z0 y0 x0;induction x0 with
 |nil=>show .nil
 |cons s t h I0=>show .cons (t,rfl) (I0)
def b0J(K:Fg):List V->Hp->VK->Prop:=λxs H Q=>∃(p:Addr)(ss:List Str),xs=[.ref p]/\SqL K H p (ss.map V.str)/\ss.length<64 /\
 ∀(t:Addr)(ts:List Str),H t=lR->ts.Perm ss->jf ts=lS->Q (.ref t) (upd H t (.lst (ts.map V.str)))
def a4O:CallR X (.builtin "sorted") (b0J X.K):=by
 ext k s σ H y z Q I r h;let(p,x,rfl,g,t,q):=h;let(u,rfl,i):=a1F r;cases i;let(c,n,m,_):=I.list g;let f:=b3k n;let v:=f.length;show sorted_strs m.isList f (by lia) λa b o d l=>?_;let(e,j):=sortedAll_at s.heap c a;show(.ref _,_,I.laid (λ_ _=>sortedAll_old) (dy _) (show ObjOk X.prog X.w _ _ _ (.lst _) from (by rw[aN,d.length_eq,ir];lia,a.toList,e,a28 o,↑j)),rfl,q _ b (I.hok.fresh (dy _)) d l)
def a2o{K:Fg}:∀ss:List Str,Reps K H (ss.map Z.str) (ss.map V.str):=by ext z0;induction z0 with
 |nil=>rw[bF,bF,a0t]
 |cons s ss I0=>
  show(_,_,rfl,by rw[a0x],I0)
def a67{K:Fg}:∀{ss:List Str}{vs:List V},Reps K H (ss.map Z.str) vs->vs=ss.map V.str:=by ext z0;induction z0 with
 |nil=>ext vs h;rw[bF,a0t]at h;subst h;rfl
 |cons s ss I0=>
  ext vs h;let(v,r,rfl,a,b):=h;rw[a,I0 b];rfl
def a6h:List Z->Hq->K3->Prop:=λxs G R=>match xs with
 |[.ref p]=>∃ss:List Str,G p=bo (.lst (ss.map Z.str))/\ss.length<64/\∀(t:Addr)(ts:List Str),G t=lR->ts.Perm ss->jf ts=lS->R (.ref t) (put G t (.lst (ts.map Z.str)))
 |_=>False
def a8U:a1t X (.builtin "sorted") a6h:=a0U a4O λu H Q n=>n.un λg G R j b h q=>by
 match g,h with
 |[.ref p],h=>
  let(v,rfl,r):=j.one;let(i,e,d,h):=h;let(s,k,l):=b _ _ e
  let:=a67 l
  subst this;show(p,i,by rw[r],SqL.of k,d,λt a c f m=>q _ _ _ _ (h t a (b.out c) f m) (by rw[a0q]) (b.set (.new c) (_,a0h,a2o a)) (.new c))
def a8V(e:G p=bo (.lst (ss.map Z.str)))(z:ss.length<64)(h:∀(t:Addr)(ts:List Str),G t=lR->ts.Perm ss->jf ts=lS->R (.ref t) (put G t (.lst (ts.map Z.str)))):a6h [.ref p] G R:=(ss,e,z,h)
structure Cl where
 x:Str
 np:Pos
 b₀:Stmt
 suite:List Stmt
 hp:Pos
noncomputable def Cl.h(n:Str)(c:Cl):ExceptHandler:=.ExceptHandler (bo (.Name c.x c.np)) (bo n) (c.b₀::c.suite) c.hp
inductive Picks (X:Cx) (C:Addr) (th:Addr->TS):List Cl->Prop
 |here {c:Cl} {cs:List Cl} {D:Addr} (hg:Gl X c.x) (hm:X.mg c.x=bo (.ref D)) (hd:(c.x==("__debug__":Str))=lT) (hD:PySem.W.exmOne X.K (.ref C) (.ref D)=bo lS)
   (hh:∀e oe,oe.cls=.ref C->oe.dict=lR->PySem.W.notCls oe=lS->PSs (X.hnd e oe) (c.b₀::c.suite) (th e)):Picks X C th (c::cs)
 |next {c:Cl} {cs:List Cl} {D:Addr} (hg:Gl X c.x) (hm:X.mg c.x=bo (.ref D)) (hd:(c.x==("__debug__":Str))=lT) (hD:PySem.W.exmOne X.K (.ref C) (.ref D)=bo lT) (hp:Picks X C th cs):Picks X C th (c::cs)
inductive Alt (X:Cx) (cs:List Cl):List (Addr×(Addr->X3))->Prop
 |nil:Alt X cs []
 |cons {C:Addr} {th:Addr->X3} {l:List (Addr×(Addr->X3))} (h:Picks X C (λe=>lowS X.K (th e)) cs) (hs:Alt X cs l):Alt X cs ((C,th,)::l)
theorem Alt.get:∀{l:List (Addr×(Addr->X3))},Alt X cs l->∀p∈l,Picks X p.1 (λe=>lowS X.K (p.2 e)) cs
 |_,.nil,p,h=>by simp at h
 |_,.cons h hs,p,hp=>by
  let rfl||hp:=aO.mp hp
  .cbv
  .show hs.get p hp
def Inv.melt(I:Inv X pins σ H s)(e:H a=bo (.frz o (.dK kvs)))(n:∀o u,X.H₀ a≠bo (.frz o u)):Inv X pins σ (upd H a (.dK kvs)) s:=by
 let(g,E,j,A,B,t):=(I.hok a _ e);let i:∀b,H b=lR->b≠a:=λb q z=>by rw[z,e]at q;cases q
 let k:∀b d,H b=bo (.tup d)->b≠a:=λb d q z=>by rw[z,e]at q;cases q
 let D:∀b f,H b=bo (.tbl f)->b≠a:=λb f q z=>by rw[z,e]at q;cases q
 let L:∀b c,H b=bo (.own c)->b≠a:=λb c q z=>by rw[z,e]at q;cases q
 show(I.ok,I.os,I.bare,(I.base.keep,I.base.slot,λb o F C y=>?_,I.base.there,λb d q=>?_,λb o u q=>?_,λb f q=>?_),I.loc,I.cell,?_,λx c q=>?_,λp M=>?_,λb u q=>?_,I.len)
 .let h:=I.base.free b o F C y;rw[a0f (i b h)];show h
 .let h:=I.base.tups b d q;rw[a0f (k b d h)];show h
 .rw[a0f (λz=>n o u (by simp_all))];show I.base.frzs b o u q
 .let(m,h):=I.base.tbls b f q;show(m,by rw[a0f (D b _ h)];show h)
 .rw[a0f (i _ I.free)];show I.free
 .let h:=I.freeC x c q;rw[a0f (i _ h)];show h
 .let(G,l,J):=I.pin p M;show(G,by rw[a0f (i _ l)];show l,J)
 .by_cases hb:b=a
  .subst hb;rw[a0h]at q;cases q;show(E,j,A,B,t)
  .rw[a0f hb]at q;show (I.hok b u q).stay (λc v _ r=>r) (λc r=>by rw[a0f (L c b r)];show r) λc d r=>by rw[a0f (k c d r)];show r
section
variable{K:Fg}{H1:Hp}{a:Addr}{us us1:List (Key×V)}{o:Obj}{e:Expr}{t:E3}{G:Hq}{kvs:List (Key×Z)}
def a29(h:H1 a=bo (.frz o (.dK us1))):TW K H1 (upd H1 a (.dK us1)):=
 (λc b q=>by rw[a0f (λz=>by rw[z,h]at q;cases q)];show q,λc b q=>by
  let(o',q)||q:=q
  .show .inl (o',by rw[a0f (λz=>by rw[z,h]at q;cases q)];show q)
  .show .inr q)
def b3l(h0:H a=bo (.dK us))(t:TK K H H1)(h:H1 a=bo (.frz o (.dK us1))):TK K H (upd H1 a (.dK us1)):=
 (λc b q=>(a29 (K:=K) h).tup c b (t.tup c b q),λc b q=>(a29 (K:=K) h).frz c b (t.frz c b q),λc d u q=>by
  rw[a0f (λz=>by rw[z,h0]at q;cases q)];show t.frd c d u q)
def b8g(t:TW K H H1)(fc:∀b o c q,H b=bo (.frz o (a2E c q))->H1 b=bo (.frz o (a2E c q)))(e:H1 b=H b)(h:ROb K H b o'):ROb K H1 b o':=by
 cases o' with
 |lst ws=>let(a,q,r):=h;show(a,e.trans q,r.monoW t)
 |dK kvs=>let(a,q,n,r):=h;show(a,e.trans q,n,r.monoW t)
 |ins C dx fs=>let(a,q,n,r):=h;show(a,e.trans q,n,r.monoW t)
 |dF kvs=>let(d,a,q,n,r):=h;show(d,a,e.trans q,n,r.monoW t)
 |dT ks=>let(a,q,n):=h;show(a,e.trans q,n)
 |tab p q=>show Tab.stay (λb o c k=>fc b o c _ k) e h
def b3m(g:RH K G H1)(e1:G a=bo (.dF kvs)):∃o us1,H1 a=bo (.frz o (.dK us1))/\RH K (put G a (.dK kvs)) (upd H1 a (.dK us1)):=by
 let(o,d,h,f,i):=g _ _ e1;show(o,d,h,λb e q=>?_)
 by_cases hb:b=a
 .subst hb;rw[a0a]at q;cases q;show(d,a0h,f,i.monoW (a29 h))
 .rw[a0d hb]at q;show b8g (a29 h) (λc o x y z=>by rw[a0f (λw=>by rw[w,h]at z;cases z)];show z) (a0f hb) (g b e q)
def uUnf(t:E3):E3:=fun σ G R=>∃a kvs,G a=bo (.dK kvs)/\t σ G λv G'=>G' a=bo (.dF kvs)/\R v (put G' a (.dK kvs))
def b0K(h:QE X e t):QE X e (uUnf t):=⟨λf s τ H Q I z=>by
 let(σ,G,R,y,j,(a,d,x,A),C):=z;let(F,k,L,J):=j _ _ x;show thn (h.p f s τ H (λv c=>Ex2 λw b=>An5 (Rep X.K c w v) (RH X.K b c) (TK X.K H c) (b a=bo _) (R w _)) I (σ,G,_,y,j,A,λw b v c q r g t=>(w,b,r,g,t,q.1,q.2))) λu E (v,c,l,m,w,b,r,g,t,n,q)=>?_;let(o,D,i,B):=b3m g n;show(v,_,l.melt i (λo u z=>by let:=I.base.frzs a o u z;rw[k]at this;cases this),m,C w _ v _ q (r.monoW (a29 i)) B (b3l k t i))⟩
def b0L(e:G a=bo (.dK kvs))(h:t σ G λv G'=>G' a=bo (.dF kvs)/\R v (put G' a (.dK kvs))):uUnf t σ G R:=(a,kvs,e,h)
end
namespace DictP
def a3D:jV table "dict.update.loop"=bo im.«dict.update.loop»:=entryFor_of_tree (by kernel_rfl)
def a2p:plainId "dict.update.loop"=lS:=by decide +kernel
def b3n:typeLookup (.type "list") "keys"=pure lR:=am_miss_of_fast (by decide +kernel)
section
variable{a:Addr}{xs:Array Value}{k:Nat}{sl:Array (Option Value)}
def a8W(hx:s.heap.get? a=bo { cls:=.type "list",dict:=lR,data:=.seq xs k,slots:=sl })(hA:A.handled=lR)
  (h:∀h' tk,(∀b ob,s.heap.get? b=bo ob->h'.get? b=bo ob)->Q lR { s with heap:=h',toks:=tk }):wpAny (model prog w) A (getAttr? (.ref a) "keys") Q E s:=by
 let(hp,g,d,tk,os):=s;let hT:∀tk',((hp,g,d,tk',os):Shared).TypeIs (.ref a) "list":=λ_=>(_,hx,rfl);let f1:=sub_AttributeError;let f3:=F.slot_list_getattribute.lookup;let f4:=F.slot_list_getattribute.bind (.ref a);let f5:=am_list_getattr_none;unfold getAttr? getAttrBy? getAttrBy
 repeat (any_goals (first |assumption |show hT _ | ((with_reducible change wpAny _ _ (call (Value.builtin "list.__getattribute__") _ _) _ _ _);show call_meets F.slot_list_getattribute (hT _) am_entry_list_getattribute (F.args_list_getattribute_2 _ _) (meets_getattribute_miss_list a xs k sl "keys" _ b3n (by decide +kernel)) (hx,hA,λh' tk' e hx'=>?_)) |wp_step))
 let(t',u',he):=hx'.there
 change wpAny _ _ (getattributeRaised _ _ _ _ _ _ _) _ _ _
 unfold getattributeRaised
 repeat (any_goals (first |assumption |wp_step))
 show h _ _ hx'.keeps
def a68(g:s.heap.get? t=bo o)(hc:o.cls=.type "tuple")(hd:o.data=.seq #[x,y] n)(h:Q [x,y] s):wpAny (model prog w) A (im.Dict.pairItems (.ref t)) Q E s:=by
 let(c,a,b,e):=o;simp only at hc hd;subst hc hd
 repeat (any_goals (first |assumption |wp_step))
end
abbrev Sv(h h':Heap):Prop:=∀b o,h.get? b=bo o->h'.get? b=bo o
section
variable{R:Result->Shared->Prop}{I:Addr}{fp wr:List Addr}{G:Array kl->Array kl->Prop}{n:Nat}{P:Nat->Value->Prop}{St:Nat->Shared->Prop}
def b1Y(prog:ik)(w:World)(A:Around)(h0:Heap)(D:Nat->Heap->Prop)(d:Addr)(i:Nat)(v:Value):Prop:=∃t o x y m,v=.ref t/\h0.get? t=bo o/\o.cls=.type "tuple"/\o.data=.seq #[x,y] m /\
 ∀(E:Value->Shared->Prop)(s:Shared)(Q:Unit->Shared->Prop),Sv h0 s.heap->D i s.heap->(∀h' tk,s.toks<=tk->D (i+1) h'->Heap.SameBut d s.heap h'->Q () { s with heap:=h',toks:=tk })->wpAny (model prog w) A (dictSet d x y) Q E s
def b8h(W:WalksS prog w A.in1 I fp wr G n P St)(d:Addr)(hdf:d∉fp)(dm:∀i h h',D i h->Sv h0 h->Sv h0 h'->(∀o,h.get? d=bo o->h'.get? d=bo o)->D i h')
  (nw:∀b o,h0.get? b=bo o->b≠d/\b∉wr) (hP:∀j v,P j v->b1Y prog w A.in1 h0 D d j v) :
  ∀(k i:Nat)(s:Shared),n-i=k->i<=n->St i s->Sv h0 s.heap->D i s.heap->(∀s',Moved (d::wr) G s s'->D n s'.heap->R (.ok (.ret .none)) s') ->
   iS (model prog w) A (.builtin "dict.update.loop" ([.ref d,.ref I,rawInt i,.none],[])) R s:=by
 let r:=λh=>hdf (W.sub _ h);let V:∀b∈wr,b∈d::wr:=λb q=>cr _ q;ext k
 induction k with
 |zero=>
  ext i s hk hi p l F E;let L:i=n:=by lia
  subst L;show je a3D (hZ (W.done s _ _ p λa c=>(hZ (h9 (h9 (E a (c.mono V) (dm _ _ _ F l (λb o e=>c.heap b o (nw b o e).2 (l b o e)) λo e=>c.heap d o r e)))))))
 |succ k ih=>
  ext i s hk hi p l F E;show je a3D ?_;rw[Around.under_plainId a2p _];show hZ (W.item i s _ _ (by lia) p λv a M B c=>?_);let(t,o,x,y,m,rfl,g,hc,X,N):=hP i v M;let f:=λb o e=>c.heap b o (nw b o e).2 (l b o e);show hZ (iB (hZ (wpAny_tryCatch (a68 (f t o g) hc X (iB (N _ _ _ f (dm _ _ _ F l f λo e=>c.heap d o r e) λS tk J T Q=>?_))))));let u:∀b o,b≠d->a.heap.get? b=bo o->S.get? b=bo o:=λb o Y e=>by rw[Q.2 b Y];show e
  show h9 (jq a2p _,?_);show ih (i+1) { a with heap:=S,toks:=tk } (by lia) (by lia) (W.frame _ a _ _ B J λb q o e=>u b o (λz=>hdf (z▸q)) e) (λb o e=>u b o (nw b o e).1 (f b o e)) T
   λU H C=>E U (Moved.trans W.gtrans ((c.mono V).then_heap J λb o q e=>u b o (λz=>q (z▸bU)) e) H) C
def b3o(hh:A.handled=lR)
  (hl:s.heap.get? l=bo { cls:=.type "list",dict:=lR,data:=.seq items c,slots:=sl }) (dm:∀i h h',D i h->Sv s.heap h->Sv s.heap h'->(∀o,h.get? s.heap.objs.size=bo o->h'.get? s.heap.objs.size=bo o)->D i h')
  (d0:D 0 (s.heap.push { cls:=.type "dict",data:=.dict #[] })) (hi:∀(j:Nat) v,items[j]?=bo v->b1Y prog w A.in1.in1 s.heap D s.heap.objs.size j v)
  (h:∀(h':Heap)(tk:Nat),D items.size h'->Sv s.heap h'->Q (.ref s.heap.objs.size) { s with heap:=h',toks:=tk }) :
  wpAny (model prog w) A (call (.type "dict") [.ref l]) Q E s:=by
 show callType_codes (Q₁:=λm u=>m=.ref s.heap.objs.size/\u={ s with heap:=s.heap.push { cls:=.type "dict",data:=.dict #[] } }) F.kt_called_dict (F.kt_typeCall_dict_1 _) F.entry_dict_init (kt_code_dict_new _ (rfl,rfl)) ?_;ext m u ⟨rfl,rfl⟩;let f:(s.heap.push { cls:=.type "dict",data:=.dict #[] }).get? l=bo { cls:=.type "list",dict:=lR,data:=.seq items c,slots:=sl }:=Heap.get?_push_of_some _ hl;let L:Shared.TypeIs { s with heap:=s.heap.push { cls:=.type "dict",data:=.dict #[] } } (.ref l) "list":=(_,f,rfl);let H:Shared.TypeIs { s with heap:=s.heap.push { cls:=.type "dict",data:=.dict #[] } } (.ref s.heap.objs.size) "dict":=(_,Heap.get?_push_size _ rfl,rfl);show(H,F.args_dict_init_2 _ _,?_);show hZ (hZ (lI H (h9 ?_)))
 change wpAny _ _ (im.Dict.updateFrom "dict.__init__" s.heap.objs.size (.ref l) [] .none) _ _ _
 show hZ (j8 L (hZ (a8W f (by lia) λa t1 k=>?_)));let C:a.IsList l items:=(_,k l _ f,rfl,c,rfl);show hZ (iW (hZ (jY C (h9 (jq a2p _,?_)))));let t:=Heap.lt_size hl;let p:=Heap.lt_size (k _ _ (Heap.get?_push_size _ rfl));let Y:A.in1.in1.handled=lR:=by lia
 let W:s.heap.objs.size∉[a.objs.size,l]:=by grind
 let q:∀b o,s.heap.get? b=bo o->b≠s.heap.objs.size/\b∉[a.objs.size]:=λb o e=>by
  let r:=Heap.lt_size e;show(aY r,λn=>by rw[aS.mp n]at r;show cz _ (dG r p))
 let d:∀x,Sv s.heap (a.push x):=λx b o e=>Heap.get?_push_of_some _ ((λb o e=>k b o (Heap.get?_push_of_some _ e)) b o e);show b8h ((Walks.list Y _ l (aY (dG t p)) items).toS) s.heap.objs.size W dm q hi (items.size-0) 0 _ (by lia) (bv _)
  ((_,Heap.get?_push_size _ rfl,rfl,rfl),C.push _) (d _) (dm 0 _ _ d0 (λb o e=>Heap.get?_push_of_some _ e) (d _) λo e=>Heap.get?_push_of_some _ (k _ o e)) λR g V=>?_
 let(S,T,J,y,B):=R;let U:T=s.gens:=g.gens;let X:J=s.drawn:=g.drawn;let I:B=s.os:=g.os;subst U X I;show(rfl,h S y V λb o e=>g.heap b o (λn=>?_) (d _ b o e));let z||z:=aO.mp n
 .show (q b o e).1 z
 .simp_all
end
section
variable{K:Type}[DecidableEq K]{knd:KeyKind prog w K}
def PairAt(knd:KeyKind prog w K)(h:Heap)(v:Value)(r:K×Value):Prop:=∃t o key m,v=.ref t/\h.get? t=bo o/\o.cls=.type "tuple"/\o.data=.seq #[key,r.2] m/\knd.is r.1 key=lS
def call_pairs(hh:A.handled=lR)
  (hl:s.heap.get? l=bo { cls:=.type "list",dict:=lR,data:=.seq items c,slots:=sl }) (hi:∀(j:Nat) v,items[j]?=bo v->∃r,rows[j]?=bo r/\PairAt knd s.heap v r) (hn:items.size=rows.length) (hz:rows.length<=ie)
  (h:∀(h':Heap)(tk:Nat),h'.DictOf knd s.heap.objs.size (merged [] rows)->(∀b o,s.heap.get? b=bo o->h'.get? b=bo o)->Q (.ref s.heap.objs.size) { s with heap:=h',toks:=tk }) :
  wpAny (model prog w) A (call (.type "dict") [.ref l]) Q E s:=by
 show b3o (D:=λi h=>h.DictOf knd s.heap.objs.size (merged [] (rows.take i))) hh hl (by ext i h d ⟨o,G,C,z,n⟩ _ _ q;show(o,G,C,q _ z,n)) (Heap.DictOf.new s.heap) (λj v e=>?_) λd H a F=>h d H (by simp_all) F;let(r,B,t,o,p,m,rfl,g,y,x,k):=hi j v e;show(t,o,p,r.2,m,rfl,g,y,x,λE J Q I a q=>wpAny_dictSet_pairs k a (λd f u=>q d _ (dy _) (by rw[<- merged_take_succ _ _ _ _ B]at f;show f) u) ?_)
 let:=merged_length_le [] (rows.take j)
 simp at this
 lia
end
end DictP
noncomputable def a69(rows:List (Addr×Key×V))(acc:List (Key×V)):List (Key×V):=rows.foldl (λacc r=>putK acc r.2.1 r.2.2) acc
def b6g(X:Cx):List V->Hp->VK->Prop:=λxs H Q=>∃(p:Addr)(rows:List (Addr×Key×V)),xs=[.ref p]/\SqL X.K H p (rows.map λr=>V.ref r.1)/\(∀r∈rows,H r.1=bo (.tup [kV r.2.1,r.2.2]))/\rows.length<=1000 /\
 ∀t,H t=lR->Q (.ref t) (upd H t (.dK (a69 rows [])))
def b0M(ok:HOk P w H h):∀{rows:List (Addr×Key×V)},(∀r∈rows,H r.1=bo (.tup [kV r.2.1,r.2.2]))->∃vs:List (Key×Value),vs.length=rows.length /\
  (∀(j:Nat) r,rows[j]?=bo r->∃q,vs[j]?=bo q/\DictP.PairAt (a0k P w) h (.ref r.1) q)/\∀acc bcc,KV acc bcc->KV (a69 rows acc) (merged bcc vs):=by ext z0;induction z0 with
 |nil=>ext _;show([],rfl,λj r e=>by simp at e,λ_ _ k=>k)
 |cons r rows I0=>
  ext hr;let(m,p,d,l):=I0 λr a=>hr r (.tail _ a);let(_,y,s,o,i,f,n,t):=(ok _ _ (hr r (.head _)));let(b,u,rfl,g,c):=Vals.two s;show((r.2.1,u,)::m,by rw[be,be,p],λj q e=>?_,λx v k=>l _ _ (k.put r.2.1 c));cases j with
  |zero=>
   cases e;show(_,rfl,r.1,o,b,n,rfl,i,f,t,a5c g)
  |succ j=>show d j q (by simp_all)
def a8X:∀(rows:List (Addr×Key×V))(acc:List (Key×V)),(a69 rows acc).length<=acc.length+rows.length:=by ext z0;induction z0 with
 |nil=>ext _;show aQ _
 |cons r rows I0=>
  ext acc
  let:=I0 (putK acc r.2.1 r.2.2)
  let:=a1d acc r.2.1 r.2.2
  change (a69 rows (putK acc r.2.1 r.2.2)).length<=_
  rw[be];lia
def a7a(hc:X.calm=lS):CallR X (.type "dict") (b6g X):=by
 ext f s σ H xs us Q I r h;let(p,rows,rfl,T,ht,hz,q):=h;let(u,rfl,V):=a1F r;cases V;let(d,z,(o,n,F,C,E,B),_):=I.list T;let(c,dd,dt,sl):=o;subst C E B;let(A,k,h2,W):=b0M I.hok ht;let G:d.length=rows.length:=by let:=z.length;rw[aN]at this;lia
 let b:A.length<=sizeLine:=by grind
 show DictP.call_pairs (knd:=a0k X.prog X.w) (I.ok.hd hc) F (λj v e=>?_) (by grind) b λg t M U=>?_
 .let l:d[j]?=bo v:=↑e
  obtain⟨r,D⟩:∃r,rows[j]?=bo r:=(rows[j]'(by grind),aU _);let(q,m,pa):=h2 j r D;let(u,y,N):=z.get (by rw[aR,D];rfl);rw[l]at y;cases y;rw[N];show(q,m,pa)
 .let L:=W [] [] .nil;let Y:=(a5V (P:=X.prog) (w:=X.w) (H:=λ_=>lR) s.heap I.big).2.1;let R:=a8X rows [];let J:=
   I.laid (t':=t) U (aQ _) (show ObjOk X.prog X.w _ g _ (.dK _) from (by rw[ir];simp at R;lia,Y,_,L,M))
  show(.ref s.heap.objs.size,_,J,rfl,q _ (I.hok.fresh (aQ s.heap.objs.size)))
def a3E(h64:ss.length<64)
  (hcol:∀R:List Value->Shared->Prop,(∀(g:Heap)(tk:Nat)(d:Drawn)(vs:List Value)(ks:List Str),(∀b o,s.heap.get? b=bo o->g.get? b=bo o)->jB vs ks->ks.Perm ss->R vs { s with heap:=g,drawn:=d,toks:=tk })->wpAny (model P w) A.in1 (collect (.ref r)) R E s)
  (h:∀(g g':Heap)(tk:Nat)(d:Drawn)(out:List Value)(n:Nat)(ts:List Str),(∀b o,s.heap.get? b=bo o->g.get? b=bo o)->(∀b o,g.get? b=bo o->g'.get? b=bo o)->g'.get? g.objs.size=bo { cls:=.type "list",data:=.seq out.toArray n } ->
   jB out ts->ts.Perm ss->jf ts=lS->Q (.ref g.objs.size) { s with heap:=g',drawn:=d,toks:=tk }):wpAny (model P w) A (call (.builtin "sorted") [.ref r]) Q E s:=by
 show Calls.call_function_entry lC lD lE (args_sorted1 _) (hZ (h9 (hZ (hcol _ λg t d f D x c l=>?_))));let F:=c.length.trans l.length_eq;let z:f.length<=sizeLine:=by rw[ir];lia
 show hZ (jQ ?_ z);let k:(g.push _).get? g.objs.size=bo (seqObj "list" f.toArray 0):=Heap.get?_push_size _ rfl;show hZ (iB (iI lF (_,k,rfl) lG (list_sort_treeK strKind_oneLt k c.keysOf (λH G B e=>keyKind_strs (e▸c)) (by lia) λi p v=>(_,rfl,?_)) (args_list_sort _)));let(y,u,C,q):=sorted_out_str c p v;let a:=sortedHeap_at (out:=(arrOf i).map (·.2)) k;let(n,a):=a;show h9 (_,rfl,h g _ t d ((arrOf i).map (·.2)).toList n y x (λb o e=>?_) (by cbv) u (C.trans l) q);let j:=Heap.lt_size e;rw[sortedHeap_old (aY j) (by rw[Heap.size_push];show dj j)];show Heap.get?_push_of_some _ e
def b3p(hl:vs.length=ss.length)(h:∀(i:Nat)(v:Value),vs[i]?=bo v->∃(x:Str)(t:Tok),ss[i]?=bo x/\v=Value.str x t):jB vs ss:=by
 induction vs generalizing ss with
 |nil=>cases ss with
  |nil=>show .nil
  |cons _ _=>simp at hl
 |cons v vs ih=>cases ss with
  |nil=>simp at hl
  |cons x ss=>
   let(y,t,a,rfl):=h 0 v rfl;cases a;show .cons x t (ih ↑hl λi v e=>↑(h (i+1) v ↑e))
def b0N(K:Fg):List V->Hp->VK->Prop:=λxs H Q=>∃(p:Addr)(kvs:List (Key×V))(ss:List Str),xs=[.ref p]/\H p=bo (.dK kvs)/\kvs.map (·.1)=ss.map (λs=>(Sum.inr s:Key))/\ss.length<64 /\
 ∀(t:Addr)(ts:List Str),H t=lR->ts.Perm ss->jf ts=lS->Q (.ref t) (upd H t (.lst (ts.map V.str)))
def a4P(hc:X.calm=lS):CallR X (.builtin "sorted") (b0N X.K):=by
 ext y s σ H xs us Q I r h;let(p,kvs,ss,rfl,hd,L,F,q):=h;let(u,rfl,rx):=a1F r;cases rx;show a3E F (λR U=>?_) λg g' j d E n M k1 k2 e T N a3=>?_
 .let(z,lo,B,m,dd):=a9X I.hok hd;let(ep,C):=dd.dictAt;let D:B.length=ss.length:=by rw[<- m.length,<- aN,L,aN]
  show PySem.W.kdu_collect (PySem.W.kdl_dict lo) (I.ok.hd hc) C (by rw[D,ir];lia) λg j S Y b=>(U g j s.drawn S.toList ss Y (b3p (by rw[bu,b.1,D]) λi v e=>?_) (.refl _));let(k,x,e1,e2):=b.2 i v (by simp_all);let l:B.map (·.1)=ss.map λs=>(Sum.inr s):=m.keys▸L;let c:(ss.map λs=>(Sum.inr s))[i]?=bo k:=by rw[<- l,aR,e1];rfl
  rw[aR]at c;cases hn:ss[i]? with
  |none=>rw[hn]at c;cases c
  |some n=>
   rw[hn]at c;cases c;let(t,e4):=Value.isStrOf_shape e2;show(n,t,rfl,e4)
 .let G:Inv X y σ H { s with heap:=g,drawn:=d,toks:=j }:=(I.drew d).kept k1;show(.ref g.objs.size,_,G.laid k2 (aQ _) (show ObjOk X.prog X.w _ g' _ (.lst _) from (by rw[aN,N.length_eq,ir];lia,E,n,a28 T,e)),rfl,q _ M (G.hok.fresh (aQ _)) N a3)
section
variable{K:Fg}
def b0O(h:Rep K H (keyW k) v):v=kV k:=by
 match k,h with
 |.inl (bo i),h=>rw[show keyW _=.int i from rfl,a0l]at h;show h
 |.inl lR,h=>rw[show keyW _=.non from rfl,a0z]at h;show h
 |.inr x,h=>rw[show keyW _=.str x from rfl,a0x]at h;show h
noncomputable def prZ(r:Key×Z):Z:=.tup [keyW r.1,r.2]
def b3q:∀{rows:List (Key×Z)}{vs:List V},Reps K H (rows.map prZ) vs->∃rs:List (Addr×Key×V),vs=rs.map (λr=>V.ref r.1)/\(∀r∈rs,H r.1=bo (.tup [kV r.2.1,r.2.2]))/\rs.length=rows.length /\
  ∀acc bcc,bcc.map (·.1)=acc.map (·.1)->Reps K H (acc.map (·.2)) (bcc.map (·.2))->(a69 rs bcc).map (·.1)=(a2C acc rows).map (·.1)/\Reps K H ((a2C acc rows).map (·.2)) ((a69 rs bcc).map (·.2)):=by ext z0;induction z0 with
 |nil=>
  ext vs h;show([],h,λr e=>by simp at e,rfl,λf g b c=>(b,c))
 |cons r rows I0=>
  ext vs h;let(v,x,rfl,b,c):=h;let(t,rfl,l,n,u):=I0 c;let(a,y,rfl,p,e):=b;let(z,w,rfl,j,i):=e.two
  let:=b0O j
  subst this;show((a,r.1,w,)::t,rfl,λq d=>?_,by rw[be,be,n],λf g b s=>?_)
  .let rfl||d:=aO.mp d
   .grind
   .show l q d
  .let(m,o):=a36 i b s;show u _ _ m o
def b1Z:List Z->Hq->K3->Prop:=λxs G R=>match xs with
 |[.ref p]=>∃rows:List (Key×Z),G p=bo (.lst (rows.map prZ))/\rows.length<=1000/\∀t,G t=lR->R (.ref t) (put G t (.dK (a2C [] rows)))
 |_=>False
def a8Y(hc:X.calm=lS):a1t X (.type "dict") b1Z:=a0U (a7a hc) λx H Q n=>n.un λg G R d b h q=>by
 match g,h with
 |[.ref p],h=>
  let(v,rfl,r):=d.one;let(c,e,w,h):=h;let(s,j,l):=b _ _ e;let(d,rfl,f,u,k):=b3q l;let(m,i):=k [] [] rfl .nil;show(p,d,by rw[r],SqL.of j,f,by lia,λt a=>q _ _ _ _ (h t (b.out a)) (by rw[a0q]) (b.set (.new a) (_,a0h,m,i.mono (.new a))) (.new a))
def a8Z(e:G p=bo (.lst (rows.map prZ)))(z:rows.length<=1000)(h:∀t,G t=lR->R (.ref t) (put G t (.dK (a2C [] rows)))):b1Z [.ref p] G R:=(rows,e,z,h)
def a6i:List Z->Hq->K3->Prop:=λxs G R=>match xs with
 |[.ref p]=>∃(kvs:List (Key×Z))(ss:List Str),G p=bo (.dK kvs)/\kvs.map (·.1)=ss.map (λs=>(Sum.inr s:Key))/\ss.length<64/\∀(t:Addr)(ts:List Str),G t=lR->ts.Perm ss->jf ts=lS->R (.ref t) (put G t (.lst (ts.map Z.str)))
 |_=>False
def a4Q(hc:X.calm=lS):a1t X (.builtin "sorted") a6i:=a0U (a4P hc) λy H Q l=>l.un λg G R f b h u=>by
 match g,h with
 |[.ref p],h=>
  let(v,rfl,r):=f.one;let(w,i,e,m,d,h):=h;let(q,s,j,x):=b _ _ e;show(p,q,i,by rw[r],s,by rw[j];show m,d,λt c a n k=>u _ _ _ _ (h t c (b.out a) n k) (by rw[a0q]) (b.set (.new a) (_,a0h,a2o c)) (.new a))
def a3F(e:G p=bo (.dK kvs))(k:kvs.map (·.1)=ss.map (λs=>(Sum.inr s:Key)))(z:ss.length<64)(h:∀(t:Addr)(ts:List Str),G t=lR->ts.Perm ss->jf ts=lS->R (.ref t) (put G t (.lst (ts.map Z.str)))):a6i [.ref p] G R:=(kvs,ss,e,k,z,h)
theorem Reps.dropLast:∀{ws:List Z}{vs:List V},Reps K H ws vs->Reps K H ws.dropLast vs.dropLast
 |[],vs,h=>by rw[a0t]at h;subst h;show .nil
 |[w],vs,h=>by
  let(v,rfl,_):=h.one;show .nil
 |w::w'::ws,vs,h=>by
  let(v,r,rfl,c,b):=h;let a:=b;let(e,d,rfl,_,_):=a;show .cons c (Reps.dropLast b)
end
def b0P:IxR X (λx y H Q=>∃a kvs k v,x=.ref a/\y=kV k/\Rd H a (.dK kvs)/\valV kvs k=bo v/\Q v H):=by
 intro h i b s σ H x y v u Q I B j (a,D,k,w,A,m,e,l,q) p;subst A m;cases B;let(z,E,t,d,c):=a6P I.hok e;let(f,C,g):=RelO.some_of (l▸d.val k);show kM c.typeIs PySem.F.slot_dict_getitem.lookup (wpAny_getItem_of (a5c j) c.mapOf C (rfl,w,H,I.tok _,g,q)) p
def b6h:R3:=λx y G R=>match x with
 |.ref p=>∃kvs k z,(G p=bo (.dK kvs)\/G p=bo (.dF kvs))/\keyZ y=bo k/\valZ kvs k=bo z/\R z G
 |_=>False
def a2a:IxQ X b6h:=b42 b0P λx y H Q u=>u.un λa b G R l o j h v=>by
 cases a with
 |ref p=>
  let(i,k,z,e,m,t,h):=h;obtain⟨c,f,d,g⟩:∃c,Rd H p (.dK c)/\c.map _=i.map _/\Reps X.K H _ (c.map _):=by
   let e||e:=e
   .let(c,f,d,g):=j _ _ e;show(c,.inl f,d,g)
   .let(q,c,f,d,g):=j _ _ e;show(c,.inr (q,f),d,g)
  let(s,n,r):=(a0Q d g).2 z t;show(p,c,k,s,l,a18 m o,f,n,v _ _ _ _ h r j (.refl _ _))
 |_=>show aX h
def a2b(e:G p=bo (.dK kvs)\/G p=bo (.dF kvs))(a:keyZ y=bo k)(v:valZ kvs k=bo lU)(h:R lU G):b6h (.ref p) y G R:=(kvs,k,lU,e,a,v,h)
def b3r(h:SetW.KsAre (PySem.strKind P w) vs ss):jB vs ss:=by
 induction h with
 |nil=>show .nil
 | @cons v k vs ks h _ ih=>
  cases v<;>simp[PySem.strKind,Value.isStrOf]at h
  subst h;show .cons _ _ ih
def metK{K:Type}{k0:K}{ns ms:List K}(h:SetW.Met (λi=>ns.getD i k0) ns.length ms):∀x,x∈ms↔x∈ns:=λx=>by
 rw[h.2.2 x]
 constructor
 .ext⟨j,a,e⟩;let e:ns.getD j k0=x:=e;rw[dc,aU a]at e;show e▸bN a
 .ext b;let(j,a,e):=b8.mp b;show(j,a,by change ns.getD j k0=x;rw[dc,aU a];show e)
noncomputable def setS(X:Cx)(t:Addr)(ms:List Str):HO:=.ext λh=>SetW.SI (PySem.strKind X.prog X.w) h t ms
def a80(X:Cx):List V->Hp->VK->Prop:=λxs H Q=>∃(p:Addr)(ms:List Str),xs=[.ref p]/\H p=bo (setS X p ms)/\ms.length<64 /\
 ∀(t:Addr)(ks:List Str),H t=lR->ks.Perm ms->jf ks=lS->Q (.ref t) (upd H t (.lst (ks.map V.str)))
def a38(hc:X.calm=lS):CallR X (.builtin "sorted") (a80 X):=by
 ext b s σ H M L Q I r h;let(p,c,rfl,v,x,q):=h;let(u,rfl,J):=a1F r;cases J;let D:=I.ok.hd hc;let S:=(I.hok p _ v).1;show a3E x (λR E=>SetW.collect_set D S λg a d y B t C G=>E g a d y B t (b3r C) G) λg z a d k n j o m e l f F=>?_;let i:Inv X b σ H { s with heap:=g,drawn:=d,toks:=a }:=(I.drew d).kept o;show(.ref g.objs.size,_,i.laid m (aQ _) (show ObjOk X.prog X.w _ z _ (.lst _) from (by rw[aN,f.length_eq,ir];lia,k,n,a28 l,e)),rfl,q _ j (i.hok.fresh (aQ _)) f F)
namespace Tim
open PySem.W
def RowQ(h:Heap)(v:Value)(xs:List Pz):Prop:=∃a o its n ps b,v=.ref a/\h.get? a=bo o/\o.cls=.type "tuple"/\o.data=.seq its n/\its.toList=ps++[Value.ref b]/\PtsAre xs ps
def RowQ.uniq(r:RowQ h v xs)(q:RowQ h v ys):xs=ys:=by
 let(a,o,s,n,x,b,rfl,j,_,m,l,g):=r;let(z,y,k,u,t,w,i,f,_,d,c,p):=q;cases i;rw[j]at f;cases f;rw[m]at d;cases d;rw[l]at c;let e:=(List.append_inj' c rfl).1;subst e;show g.uniq p
def RowsQ(h:Heap):List Value->List (List Pz)->Prop
 |[],[]=>True
 |v::vs,x::xs=>RowQ h v x/\RowsQ h vs xs
 |_,_=>False
theorem RowsQ.mem:∀{vs:List Value}{rows:List (List Pz)},RowsQ h vs rows->∀v∈vs,∃x∈rows,RowQ h v x
 |v::vs,x::xs,(r,q),u,hu=>by
  let rfl||hu:=aO.mp hu
  .show(x,.head _,r)
  .let(y,a,b):=q.mem u hu;show(y,.tail _ a,b)
 |[],[],_,u,hu=>by simp at hu
 |[],_::_,r,_,_=>r.elim
 |_::_,[],r,_,_=>r.elim
theorem RowsQ.inj:∀{vs:List Value}{rows:List (List Pz)},RowsQ h vs rows->rows.Nodup->∀{v u x},v∈vs->u∈vs->RowQ h v x->RowQ h u x->v=u
 |w::vs,y::ys,(r,q),nd,v,u,x,hv,hu,e1,e2=>by
  let(e,g):=bV.mp nd;let c:∀{z},z∈vs->RowQ h z x->RowQ h w x->False:=λf a b=>by
   let(j,d,i):=q.mem _ f;rw[i.uniq a]at d;rw[b.uniq r]at d;show e d
  let c1||c1:=aO.mp hv
  .let c2||c2:=aO.mp hu
   .simp_all
   .rw[c1]at e1;show (c c2 e2 e1).elim
  .let c2||c2:=aO.mp hu
   .rw[c2]at e2;show (c c1 e1 e2).elim
   .show q.inj g c1 c2 e1 e2
 |[],[],_,_,_,_,_,hv,_,_,_=>by simp at hv
 |[],_::_,r,_,_,_,_,_,_,_,_=>r.elim
 |_::_,[],r,_,_,_,_,_,_,_,_=>r.elim
def perm_lift{α β:Type}{f:α->β}:∀{l:List α}{m:List β},m.Perm (l.map f)->∃l':List α,l'.Perm l/\l'.map f=m:=by
 ext l m h;generalize hk:l.map f=k at h
 induction h generalizing l with
 |nil=>show(l,.refl _,hk)
 |cons x _ ih=>
  cases l with
  |nil=>simp at hk
  |cons y l=>
   injection hk with h1 h2
   let(e,c,d):=ih h2;show(y::e,c.cons y,by rw[aZ,h1,d])
 |swap x y t=>
  match l,hk with
  |a::b::l,hk=>
   injection hk with h1 hk
   injection hk with h2 h3
   show(b::a::l,.swap ..,by rw[aZ,aZ,h1,h2,h3])
 |trans _ _ ih1 ih2=>
  let(n,c,d):=ih2 hk;let(g,j,i):=ih1 d;show(g,j.trans c,i)
end Tim
section
variable{K:Fg}{mg:Str->Option Value}{base:Heap}
def b3s(S:FnScope N ps scope)
    (hbind:∀us:List Value,us.length=ps.length->jw (PySem.W.kla_fn name qual params body scope [] pm (.ref c') ctv) (us,[])=pure (ps.zip us))
 (hr:Room k A) (e0:Env0 P w K mg base A outer s H) (r:Vals vs us) (hl:vs.length=ps.length)
    (ho:s.heap.get? f=bo (PySem.W.kla_obj name qual params body scope [] pm c' ctv)) (hcd:s.heap.CodeRec (.ref c') qual)
 (ht:PE (cxOf CX0 P w K mg base N qual scope f (.ref c') A outer s H E0).nox body t) (hq:t (start N vs) H Q) :
    iS (model P w) A (.call (.ref f) (us,[])) (CR CX0 outer P w H s Q E0) s:=by
  let c:=e0.mod.nolimit.keeps λb o e=>(e0.bs b o e).1;let a:∀y∈ps.zip us,scope.names.lookup y.1=bo .local\/(scope.names.lookup y.1=bo .cell/\((j7 (s.heap.objs.size+1) scope.names []).lookup y.1).isSome=lS):=λ(n,v) h=>by
    let q||q:=S.par n (de h).1
    . show .inl q
    . show .inr (q,PySem.W.cellsFrom_some _ _ _ (.inl q))
  show PySem.W.kla_callFunE hr.depth ho rfl S.co S.gen rfl hcd ?_;rw[hbind us (by rw[<- r.length];show hl)];show h9 ?_;show wpAny_newFunctionEnv_cells S.kind a λp j d x=>?_;subst j;show(c.keeps x.toInCall.keep,PySem.W.kla_codeExpr ?_);let I:Inv (cxOf CX0 P w K mg base N qual scope f _ A outer s H E0) [] _ H d:=a4o S hr.hd e0 hl r x;show iw (ht [] d _ H Q (I.wish _) hq) (λu g (v,l,J,i,q)=>(v,l,J.os,J.bare,J.base,J.hok,i,q)) λe g m=>m.elim
end
def b0Q(r:h.CodeRec (.ref c) q):∃oc,h.get? c=bo oc/\ObjOk Pr w H h c (a2E c q):=by
 let(s,o,b,t,e,g,d,x):=r;cases e;show(o,g,(c,o,b,t,rfl,g,d,x),(o,g),λu v (p,f,a,m,l,i,n,j) k=>by cases l;show(c,f,a,m,rfl,k _ i,n,j))
def b0R(I:Inv X pins σ H s)(hT:Tab H lU lpos q)(hq:q=X.env.qual++"<lambda>")
  (hdef:lJ params X.env=([],[],)) (hcl:jK scope X.env=pure []) (hcode:X.env.code=.ref c) (hhd:PySem.W.codeHdIn X.K c lU=lS) (hgP:iu≠lU) (hb:X.base.BuiltinsAt X.mg lU)
  (h:∀(f c':Addr)(H':Hp)(pm ctv:Value)(s1:Shared)(oc:Obj),Inv X (pins++[(f,PySem.W.kla_obj "<lambda>" q params body scope [] pm c' ctv,)]) σ H' s1->H' c'=bo (.frz oc (a2E c' q))->Tab H' lU lpos q->(∀b u,H b=bo u->b≠lU->H' b=bo u)->Q (.ref f) s1) :
  wpAny (model X.prog X.w) X.A (eval (.Lambda params body scope lpos) X.env) Q E s:=by
 show PySem.W.kla_eval hdef ?_;rw[<- hq];let(ps,k,ht):=hT;let oP:=I.hok lU _ k;let hg:=I.ok.mod.glob.keeps I.bk;let S:∀(N:Hp) L (f:Addr) (o:Obj),Inv X pins σ N L->L.heap.get? f=bo o->N f=lR->s.heap.objs.size<=f->_->Inv X (pins++[(f,o,)]) σ N L:=λN L f o J e n l d=>by
  show J.pins_of λp F=>?_;let F||F:=aP.mp F
  .show J.pin p (bH _ F)
  .rw[aS.mp F];show(e,n,bZ (bA I.lt l),I.nofs l,d)
 let rfl||(c0,g,rfl,hc):=ht
 .show PySem.W.kla_makeFunction hcl I.ok.glob hg hcode (PySem.W.codeHd_of_K I.kIn hhd) oP trivial rfl hgP (hb.keeps I.bk) λa t j V hx x R Y T=>?_;generalize hfo:PySem.W.kla_obj "<lambda>" q params body scope [] _ a t=fo;let hfd:∀v,fo.data≠.cell v:=λv z=>by rw[<- hfo]at z;cases z
  let hn:=I.hok.fresh x;let hcP:=a0w k hn |>.symm;let G:∀b o,b≠lU->s.heap.get? b=bo o->(j.push fo).get? b=bo o:=λb o hb e=>Heap.get?_push_of_some _ (hx b o hb e);let M:∀b,H b=lR->b≠lU:=λb e z=>by rw[z,k]at e;cases e
  let nc:∀b o,s.heap.get? b=bo o->b≠a:=λb o e=>aY (bA (Heap.lt_size e) x);let(g,D,B):=b0Q (Pr:=X.prog) (w:=X.w) (H:=upd (upd H lU (.tbl (#[]++#[rawInt lpos.line,rawInt lpos.col,.ref a]))) a (.frz default (a2E a q))) (Y.push fo);let m:∀b u,H b=bo u->b≠lU->upd (upd H lU (.tbl (#[]++#[rawInt lpos.line,rawInt lpos.col,.ref a]))) a (.frz g (a2E a q)) b=bo u:=λb u e hb=>by
   rw[a0f (a0w e hn),a0f hb];show e
  let U:upd (upd H lU (.tbl (#[]++#[rawInt lpos.line,rawInt lpos.col,.ref a]))) a (.frz g (a2E a q)) lU=bo (.tbl (#[]++#[rawInt lpos.line,rawInt lpos.col,.ref a])):=by rw[a0f hcP.symm,a0h]
  let J:Inv X pins σ (upd (upd H lU (.tbl (#[]++#[rawInt lpos.line,rawInt lpos.col,.ref a]))) a (.frz g (a2E a q))) { s with heap:=j.push fo,toks:=V }:=by
   show I.un (λb o e n _ _=>G b o (M b n) e,λb o e n _ _=>(o.slots,G b o (M b n) e),λb o e n _=>by rw[a0f (nc b o e),a0f (M b n)];show n,λb o e _=>?_,λb xs e=>m b _ e λz=>(by rw[z,k]at e;cases e),λb o u e=>m b _ e λz=>(by rw[z,k]at e;cases e),λb ps e=>?_) λb u e=>?_
   .by_cases hb:b=lU
    .rw[hb];show(_,Heap.get?_push_of_some _ T)
    .show(o,G b o hb e)
   .by_cases hb:b=lU
    .grind
    .show(#[],by rw[e9];show m b _ e hb)
   .by_cases hb:b=a
    .subst hb;rw[a0h]at e;cases e;show(D,B)
    .by_cases hb2:b=lU
     .subst hb2;rw[U]at e;cases e;show Heap.get?_push_of_some _ T
     .rw[a0f hb,a0f hb2]at e;show (I.hok b u e).stay (λd v hd q=>G d v ?_ q) (λd r=>m d _ r λz=>by rw[z,k]at r;cases r) λd xs r=>m d _ r λz=>by rw[z,k]at r;cases r
      let z||z:=hd
      .rw[z];show hb2
      .grind
  let gf:(j.push fo).get? j.objs.size=bo fo:=Heap.get?_push_size _ (by rw[<- hfo];rfl);let C:=bT (dY x R);let nf:upd (upd H lU (.tbl (#[]++#[rawInt lpos.line,rawInt lpos.col,.ref a]))) a (.frz g (a2E a q)) j.objs.size=lR:=by
   rw[a0f (bZ R),a0f (M _ (I.hok.fresh C))];show I.hok.fresh C
  let J2:=S _ _ _ fo J gf nf C hfd;rw[<- hfo]at J2;rw[<- hfo];show h _ a _ _ t _ g J2 a0h (_,U,.inr (a,g,by simp,a0h)) m
 .show PySem.W.kla_makeFunctionHit hcl I.ok.glob hg hcode (PySem.W.codeHd_of_K I.kIn hhd) oP trivial (cv:=.ref c0) (by simp[codeAmong,rawInt]) (hb.keeps I.bk) λt j V kp sz=>?_;let J:Inv X pins σ H { s with heap:=j.push (PySem.W.kla_obj "<lambda>" q params body scope [] ((X.mg "__name__").getD .none) c0 t),toks:=V }:=I.kept λb o e=>Heap.get?_push_of_some _ (kp b o e);show h _ c0 H _ t _ g (S _ _ _ _ J (Heap.get?_push_size _ rfl) (I.hok.fresh sz) sz λv z=>by cases z) hc (_,k,.inr (c0,g,rfl,hc)) λb u e _=>e
section
variable{pl:List (Addr×Obj)}{σ:St}{h':Heap}{b:Addr}
def Inv.repin(I:Inv X (pl++[(b,o,)]) σ H s)(fb:FpOk X pl H b)(k:∀c u,c≠b->s.heap.get? c=bo u->h'.get? c=bo u)(g:h'.get? b=bo o')(d:∀v,o'.data≠.cell v):Inv X (pl++[(b,o',)]) σ H { s with heap:=h',toks:=t' }:=by
 let(f,e,j,l,h,i):=fb;let J:Inv X pl σ H { s with heap:=h',toks:=t' }:=I.unpinned.turned k f e l h i;show J.pins_of λp a=>?_;let a||a:=aP.mp a
 .show J.pin p (bH _ a)
 .rw[aS.mp a];show(g,f,e,j,d)
def Inv.adopt(I:Inv X pl σ H s)(fb:FpOk X pl H b)(k:∀c u,c≠b->s.heap.get? c=bo u->h'.get? c=bo u)(new:ObjOk X.prog X.w (upd H b o) h' b o)(th:∃u,h'.get? b=bo u):Inv X pl σ (upd H b o) { s with heap:=h',toks:=t' }:=by
 let(A,g,D,B,j,h):=fb;let f:∀c u,H c=bo u->c≠b:=λc u e z=>by rw[z,A]at e;cases e
 show I.step (ch:=[b]) (λc a=>?_) (λc u _ _ a e _=>k c u ↑a e) (λc u _ _ a e _=>(u.slots,k c u ↑a e)) (λc u a _ n=>by rw[a0f ↑a];show n) (λc u a e=>(u,k c u ↑a e))
  (λc x e=>by rw[a0f (f c _ e)];show e) (λc _ _ e=>by rw[a0f (f c _ e)];show e) (λc C e=>(#[],by rw[a0f (f c _ e),e9];show e)) (λm t=>?_) (λc u e=>?_) I.bare
 .rw[aS.mp a];show(B,g,j,h)
 .let(u,l,i,p,r):=t;show(u,l,i,k _ u (λz=>g z.symm) p,r)
 .by_cases hb:c=b
  .subst hb;rw[a0h]at e;cases e;show new
  .rw[a0f hb]at e;show (I.hok c u e).stay (λd v y q=>k d v ?_ q) (λd q=>by rw[a0f (f d _ q)];show q) λd x q=>by rw[a0f (f d _ q)];show q
   let z||z:=y
   .rw[z];show hb
   .show f d _ z
end
section
variable{pf:List (Addr×Obj)}{σ:St}{a kS f:Addr}{vs:List Value}{kz:List Int}{e1:Nat}{P:Fin->Shared->Prop}
abbrev lObj(xs:Array Value)(n:Nat):Obj:=seqObj "list" xs n
def a39(xs:Array Value)(n:Nat):∀v,(lObj xs n).data≠.cell v:=λv z=>by cases z
def FpOk.re(f:FpOk X pl H b)(h:H' b=lR):FpOk X pl H' b:=(h,f.2)
def b3t(I:Inv X (pf++[(a,lObj #[] e1,),(kS,lObj keys e,)]) σ H s)(fa:FpOk X pf H a)(fk:FpOk X (pf++[(a,lObj #[] e1,)]) H kS)(hk:iE keys.toList kz)(hlen:kz.length=vs.length)(hz:vs.length<=100000)
  (h:∀(s':Shared)(out:List Value)(n:Nat),KskOut lT kz vs out->Inv X pf σ H s'->FpOk X pf H a->s'.heap.get? a=bo (lObj #[] e1)->P (.done (.ret .none)) { s' with heap:=s'.heap.update a (Obj.mapSeq λ_=>out.toArray) }) :
  wpAny (model X.prog X.w) X.A.in1.in1 (ksk_end a lT vs.toArray e1 (.ref kS) keys) P E s:=by
 let k:keys.size=vs.length:=by
  let R:=hk.length;rw[bu]at R
  lia
 let m:(keys.zip vs.toArray).size=vs.length:=by rw[Array.size_zip,k,bE,Nat.min_self]
 let v:=(I.pin (kS,lObj keys e,) (by simp)).1;let L:=(I.pin (a,lObj #[] e1,) (by simp)).1;let D:a≠kS:=fk.2.2.2.2.2 (a,lObj #[] e1,) (by simp);let g:∀st:SortSt,(arrOf st).Perm (keys.zip vs.toArray)->SortedTo (arrOf st) (arrOf st).size->iJ st=lR->wpAny (model X.prog X.w) X.A.in1.in1 (ksk_tail a lT e1 (.ref kS) st) P E s:=λst B N M=>by
  let r:(arrOf st).size=vs.length:=by rw[B.size_eq,m]
  unfold ksk_tail;dsimp only;show hZ (jp v rfl ?_ (by rw[k,ir];lia) (bv _));show hZ (wpAny_letGo ?_);let x:=Heap.SameBut.update s.heap kS (Obj.mapSeq λ_=>(#[]:Array Value));let J:Inv X (pf++[(a,lObj #[] e1,)]) σ H { s with heap:=s.heap.update kS (Obj.mapSeq λ_=>(#[]:Array Value)) }:=by
   obtain⟨t,z⟩:∃t,(s.heap.update kS (Obj.mapSeq λ_=>(#[]:Array Value))).get? kS=bo (lObj #[] t):=(_,get?_update_seq v λ_=>#[]);show (Inv.repin ↑I fk (λc u G q=>(x.2 c G).trans q) z (a39 _ _)).unpinned
  let f:=(x.2 a D).trans L;show hZ (jP f rfl ?_);show hZ (jp f rfl ?_ (bv _) (by simp;rw[r,ir];lia));rw[M];simp;let p:=ksk_out (b:=lT) hk B N
  let:=h { s with heap:=s.heap.update kS (Obj.mapSeq λ_=>(#[]:Array Value)) } _ 0 p J.unpinned fa f
  simp only[gg]at this;show h9 this
 unfold ksk_end;dsimp only;simp only[cY,if_false]
 by_cases h2:vs.toArray.size<2
 .rw[if_pos h2,if_pos h2];show hZ (h9 ?_);rw[StateT.run_pure];show hZ (h9 ?_);dsimp only;show g _ (dL.refl _) ?_ rfl;ext i j S F;let C:=F;rw[m]at C;rw[bE]at h2
  let:i=j:=by lia
  subst this;show bM _
 .rw[if_neg h2,if_neg h2];rw[bE]at h2;rw[ksk_kind hk (by rw[k];lia)];show hZ (h9 ?_);show hZ (iw (Tim.t_sortRuns
   (Q:=λ_ y=>An3 ((arrOf y).Perm (keys.zip vs.toArray)) (iJ y=lR) (Tim.Srt Tim.kN (arrOf y).toList)) (Tim.lt_ints (ksk_intKeys hk)) (dL.refl _,rfl,rfl) rfl λy l o=>(l.pm,l.fl,o)) ?_ λ_ _ e=>e)
  ext⟨⟨⟩,y⟩ s' ⟨rfl,l,o,q3⟩;dsimp only;show g y l (Tim.srt_to q3 rfl) o
def b0S{Θ:Hp->Prop}(hΘ:Θ H)(I:Inv X (pf++[(a,lObj #[] e1,),(kS,lObj #[] 0,)]) σ H s)(fa:FpOk X pf H a)(fk:FpOk X (pf++[(a,lObj #[] e1,)]) H kS)(hlen:kz.length=vs.length)(hz:vs.length<=100000)
  (turn:∀(i:Nat)(v:Value)(k:Int),vs[i]?=bo v->kz[i]?=bo k->∀(H1:Hp)(s':Shared)(pl:List (Addr×Obj)),Θ H1->Inv X (pf++pl) σ H1 s'->wpAny (model X.prog X.w) X.A.in1.in1 (call (.ref f) [v]) (EP X (pf++pl) σ λy H'=>y=.int k/\Θ H') (λ_ _=>False) s')
  (h:∀(H1:Hp)(s':Shared)(out:List Value)(n:Nat),Θ H1->KskOut lT kz vs out->Inv X pf σ H1 s'->FpOk X pf H1 a->s'.heap.get? a=bo (lObj #[] e1)->P (.done (.ret .none)) { s' with heap:=s'.heap.update a (Obj.mapSeq λ_=>out.toArray) }) :
  wpAny (model X.prog X.w) X.A.in1.in1 (ksk_rest a (.ref f) lT vs.toArray e1 (.ref kS)) P E s:=by
 show hZ (iW ?_)
 first
  |rw[List.forIn_toArray]
  | (rw[<- eD];simp)
  |rw[<- eD]
 show hZ (ksk_fold (λi g=>Ex3 λm b e=>An3 (Θ m) (Inv X (pf++[_,(kS,lObj b e,)]) σ m g) (iE b.toList (kz.take i))) vs 0 s (H,#[],0,hΘ,I,↑iE.nil) ?step ?done)
 case step=>
  ext j x g D ⟨m,b,e,θ1,J,o⟩;simp only[cX]at o ⊢;let V:=(aT.mp D).1;obtain⟨k,r⟩:∃k,kz[j]?=bo k:=(_,aU (by lia));let U:b.size<=vs.length:=by
   let T:=o.length;rw[bu,bh]at T
   lia
  show hZ (i9 (iw (turn j x k D r m g _ θ1 J) (λv l L=>?_) λ_ _ N=>N.elim));let(y,H',J2,G,rfl,θ2):=L;let(d,rfl):=G;let p:=(J2.pin (kS,lObj b e,) (by simp)).1;let Q:=Heap.SameBut.update l.heap kS (Obj.mapSeq (·.push (.int k d)));obtain⟨t,B⟩:∃t,(l.heap.update kS (Obj.mapSeq (·.push (.int k d)))).get? kS=bo _:=(_,get?_update_seq p (·.push (.int k d)));let F:kz.take (j+1)=kz.take j++[k]:=by rw[cN,r];simp
  let R:(b.push (Value.int k d)).toList=b.toList++[Value.int k d]:=by simp
  show hZ (jp p rfl ?_ (by rw[ir];lia) (bj (dE (Array.size_push ..)) (by rw[ir];lia)));show h9 (rfl,H',b.push (.int k d),t,θ2,?_,by rw[R,F];show ksk_snoc o)
  let:=Inv.repin (t':=l.toks) ↑J2 (fk.re (J2.pin (kS,lObj b e,) (by simp)).2.1) (λc u M q=>(Q.2 c M).trans q) B (a39 _ _)
  o_head this
 case done=>
  ext g ⟨m,b,e,θ1,J,o⟩;let C:iE b.toList kz:=by grind
  let p:=(J.pin (kS,lObj b e,) (by simp)).1;show hZ (kZ p rfl ?_);show b3t J (fa.re (J.pin (a,lObj #[] e1,) (by simp)).2.1) (fk.re (J.pin (kS,lObj b e,) (by simp)).2.1) C hlen hz λg z n=>h m g z n θ1
end
def perm_lift{α β:Type}{g:α->β}:∀{l:List β}{m:List β},l.Perm m->∀{T:List α},m=T.map g->∃T':List α,T'.Perm T/\l=T'.map g:=by
 ext l m h
 induction h with
 |nil=>ext T e;show(T,.refl _,e)
 |cons x h ih=>
  ext T e;cases T with
  |nil=>cases e
  |cons a T=>
   injection e with e1 e2
   let(T',p,q):=ih e2;show(a::T',p.cons a,by rw[aZ,<- q,e1])
 |swap x y l=>
  ext T e
  match T,e with
  |a::b::T,e=>
   injection e with e1 e2
   injection e2 with e2 e3
   show(b::a::T,.swap a b T,by rw[aZ,aZ,<- e1,<- e2,<- e3])
 |trans h1 h2 ih1 ih2=>
  ext T e;let(T2,d,c):=ih2 e;let(T1,i,f):=ih1 c;show(T1,i.trans d,f)
def SOut{α:Type}(kz:List Int)(xs os:List α):Prop:=∃ps:List (Int×α),ps.Perm (kz.zip xs)/\os=ps.map (·.2)/\ps.Pairwise λp q=>p.1<=q.1
theorem a4a{α β:Type}:∀{kz:List Int}{xs:List α}{us:List β},xs.length=us.length->kz.zip us=(kz.zip (xs.zip us)).map λt=>(t.1,t.2.2,)
 |[],_,_,_=>rfl
 |_::_,[],[],_=>rfl
 |_::kz,_::xs,_::us,h=>by simp[a4a ↑h]
theorem a4b{α β:Type}:∀{kz:List Int}{xs:List α}{us:List β},xs.length=us.length->kz.zip xs=(kz.zip (xs.zip us)).map λt=>(t.1,t.2.1,)
 |[],_,_,_=>rfl
 |_::_,[],[],_=>rfl
 |_::kz,_::xs,_::us,h=>by simp[a4b ↑h]
theorem a6j:∀{T:List (Int×V×Value)},(∀t∈T,RelV t.2.1 t.2.2)->Vals (T.map λt=>t.2.1) (T.map λt=>t.2.2)
 |[],_=>.nil
 |t::T,h=>.cons (h t (.head _)) (a6j λu a=>h u (.tail _ a))
theorem a6k:∀{xs:List V}{us:List Value},Vals xs us->∀p∈xs.zip us,RelV p.1 p.2
 |_,_,.nil,p,h=>by simp at h
 |_,_,.cons r t,p,h=>by
  let rfl||h:=aO.mp h
  .cbv
  .show a6k t p h
def b3u(rv:Vals xs us)(k:KskOut lT kz us out):∃os,SOut kz xs os/\Vals os out:=by
 let(j,i,g,c):=k;let(T,e,d):=perm_lift i (a4a rv.length);show(T.map λt=>t.2.1,(T.map λt=>(t.1,t.2.1,),?_,by rw[bW];rfl,?_),?_)
 .rw[a4b rv.length];show e.map _
 .rw[d]at c;rw[cq]at c ⊢;show c.imp λ{a b} h=>↑h
 .rw[g,d,bW];show a6j λt f=>a6k rv t.2 (de (e.mem_iff.mp f)).2
section
variable{pf:List (Addr×Obj)}{σ:St}{l f:Addr}{xs:List V}{kz:List Int}{Q:Value->Shared->Prop}
def a7b{Θ:Hp->Prop}(hΘ:Θ H)(I:Inv X pf σ H s)(hl:SqL X.K H l xs)(hlen:kz.length=xs.length)(hz:xs.length<=100000)
  (turn:∀(i:Nat)(x:V)(v:Value)(k:Int),xs[i]?=bo x->RelV x v->kz[i]?=bo k->∀(H1:Hp)(s':Shared)(pl:List (Addr×Obj)),Θ H1->Inv X (pf++pl) σ H1 s'->wpAny (model X.prog X.w) X.A.in1.in1 (call (.ref f) [v]) (EP X (pf++pl) σ λy H'=>y=.int k/\Θ H') (λ_ _=>False) s')
  (h:∀(H1:Hp)(s':Shared)(t:Addr)(os:List V),Θ H1->Inv X pf σ (upd H1 t (.lst os)) s'->H1 t=lR->SOut kz xs os->Q (.ref t) s'):wpAny (model X.prog X.w) X.A (call (.builtin "sorted") [.ref l] [(Str.ofString "key",.ref f,)]) Q E s:=by
 let(its,rv,pl,_):=I.list hl;let hle:its.length=xs.length:=rv.length.symm;show call_function_entry_kw lC lD lE (ksk_s1 _ _) ?_;unfold im.«sorted»;show hZ (m:=checkCount "sorted" 1 1 _) (h9 ?_);show hZ (collect_list pl.isList ?_ (by rw[ir];lia));show hZ (jQ ?_ (by rw[ir];lia));let hsz:((s.heap.push (seqObj "list" #[] 0)).update s.heap.objs.size (Obj.mapSeq (·++its.toArray))).objs.size=s.heap.objs.size+1:=by
  rw[Heap.size_update,kg]
 let k1:∀b o,s.heap.get? b=bo o->((s.heap.push (seqObj "list" #[] 0)).update s.heap.objs.size (Obj.mapSeq (·++its.toArray))).get? b=bo o:=λb o e=>by
  let hlt:=Heap.lt_size e;rw[Heap.get?_update_ne _ _ _ _ (aY hlt)];show Heap.get?_push_of_some _ e
 generalize (s.heap.push (seqObj "list" #[] 0)).update s.heap.objs.size (Obj.mapSeq (·++its.toArray))=g at k1 hsz ⊢;let ho:(g.push (seqObj "list" its.toArray 0)).get? g.objs.size=bo (seqObj "list" its.toArray 0):=Heap.get?_push_size _ rfl;show hZ (iB (wpAny_call_entry_kw lF (_,ho,rfl) lG ?body (ksk_l1 _ _)))
 change wpAny (model X.prog X.w) X.A.in1.in1 (im.«list.sort» ([.ref g.objs.size],[(Str.ofString "key",.ref f,)])) _ _ _
 rw[ksk_t1];unfold ksk_tree;show hZ (kZ ho rfl ?_);show hZ (jp ho rfl ?_ (by rw[bE,ir];lia) (bv _));obtain⟨e1,ho1⟩:∃e1,((g.push (seqObj "list" its.toArray 0)).update g.objs.size (Obj.mapSeq λ_=>(#[]:Array Value))).get? g.objs.size=bo (seqObj "list" #[] e1):=(_,get?_update_seq ho λ_=>#[]);show hZ (jP ho1 rfl ?_);let k2:∀b o,s.heap.get? b=bo o->((g.push (seqObj "list" its.toArray 0)).update g.objs.size (Obj.mapSeq λ_=>(#[]:Array Value))).get? b=bo o:=λb o e=>by
  let hlt:=Heap.lt_size (k1 b o e);rw[Heap.get?_update_ne _ _ _ _ (aY hlt)];show Heap.get?_push_of_some _ (k1 b o e)
 let hs2:((g.push (seqObj "list" its.toArray 0)).update g.objs.size (Obj.mapSeq λ_=>(#[]:Array Value))).objs.size=g.objs.size+1:=by rw[Heap.size_update,kg]
 generalize (g.push (seqObj "list" its.toArray 0)).update g.objs.size (Obj.mapSeq λ_=>(#[]:Array Value))=g2 at ho1 k2 hs2 ⊢;show hZ (jz ?_ (by change its.length<=_;rw[ir];lia));show hZ (jQ ?_ (bv _));show iB ?_;let hn:∀b,@LE.le Nat _ s.heap.objs.size b->FpOk X pf H b:=λb hb=>I.fpOk hb (I.hok.fresh hb);let hga:s.heap.objs.size<=g.objs.size:=by rw[hsz];show dy _
 let fa:FpOk X pf H g.objs.size:=hn _ hga;let hkS:(g2.push (seqObj "tuple" its.toArray 0)).objs.size=g.objs.size+2:=by rw[kg,hs2]
 let fk0:FpOk X pf H (g2.push (seqObj "tuple" its.toArray 0)).objs.size:=hn _ (by rw[hkS];show bj hga (gG _ _));let hne:g.objs.size≠(g2.push (seqObj "tuple" its.toArray 0)).objs.size:=by rw[hkS];show aY (Nat.lt_add_of_pos_right (by decide))
 let fk:FpOk X (pf++[(g.objs.size,lObj #[] e1,)]) H (g2.push (seqObj "tuple" its.toArray 0)).objs.size:=by
  let(f0,f1,f2,f3,f4,f5):=fk0;show(f0,f1,f2,f3,f4,λp hp=>?_);rw[<- bB]at hp;let hp||hp:=aP.mp hp
  .show f5 p hp
  .rw[aS.mp hp];show hne
 let I3:Inv X (pf++[(g.objs.size,lObj #[] e1,),((g2.push (seqObj "tuple" its.toArray 0)).objs.size,lObj #[] 0,)]) σ H { s with heap:=(g2.push (seqObj "tuple" its.toArray 0)).push (seqObj "list" #[] 0) }:=by
  let J:Inv X pf σ H { s with heap:=(g2.push (seqObj "tuple" its.toArray 0)).push (seqObj "list" #[] 0) }:=I.kept (t':=s.toks) λb o e=>Heap.get?_push_of_some _ (Heap.get?_push_of_some _ (k2 b o e));show J.pins_of λp hp=>?_;let hp||hp:=aP.mp hp
  .show J.pin p (bH _ hp)
  .let rfl||hp:=aO.mp hp
   .show(Heap.get?_push_of_some _ (Heap.get?_push_of_some _ ho1),fa.1,fa.2.1,fa.2.2.1,a39 _ _)
   .rw[aS.mp hp];show(Heap.get?_push_size _ rfl,fk0.1,fk0.2.1,fk0.2.2.1,a39 _ _)
 show b0S (vs:=its) hΘ I3 fa fk (by rw[hlen,hle]) (by lia) (λi v k hv hk H1 s' pl' θ J=>?_) λH1 s' out n θ ko J fa' ga=>(_,rfl,?_)
 .let(x,hx,rx):=rv.tog hv;show turn i x v k hx rx hk H1 s' pl' θ J
 .let(os,so,ro):=b3u rv ko;show h9 (_,rfl,h H1 _ _ os θ ?_ fa'.1 so);let s1:=Heap.SameBut.update s'.heap g.objs.size (Obj.mapSeq λ_=>out.toArray);obtain⟨c2,hc2⟩:∃c2,(s'.heap.update g.objs.size (Obj.mapSeq λ_=>out.toArray)).get? g.objs.size=bo (seqObj "list" out.toArray c2):=(_,get?_update_seq ga λ_=>out.toArray);let hol:os.length<=sizeLine:=by
   let(ps,p1,p2,_):=so;rw[p2,aN,p1.length_eq,List.length_zip,ir]
   lia
  show J.adopt (t':=s'.toks) fa' (λc u hc q=>(s1.2 c hc).trans q) (hol,out,c2,ro,hc2) (_,hc2)
end
def b6i(P:Addr)(H H':Hp):Prop:=∀b u,H b=bo u->b≠P->H' b=bo u
def b6j(ha:PE X a ta)(he:ii [a] X.env=(lT,eval a X.env,)::ii [] X.env:=by rfl):PA X [a] (fun σ H Q=>ta σ H λv H1=>Q [v] H1):=by
 ext c b s σ H Q I h;show a3L ha a5S he c b s σ H Q I h
structure LamAt (X:Cx) (params:Arguments) (body:Expr) (scope:Scope) (P:Addr) (q x:Str) (N:List Str):Prop where
 sc:FnScope N [x] scope
 qn:q=X.env.qual++"<lambda>"
 df:lJ params X.env=([],[],)
 cl:jK scope X.env=pure []
 cd:∃c,X.env.code=.ref c/\PySem.W.codeHdIn X.K c P=lS
 gP:iu≠P
 bi:X.base.BuiltinsAt X.mg P
 bd:∀(pm ctv:Value)(c':Addr)(us:List Value),us.length=1->jw (PySem.W.kla_fn "<lambda>" q params body scope [] pm (.ref c') ctv) (us,[])=pure ([x].zip us)
def b6k(K:Fg)(P:Addr)(lp:Pos)(q:Str)(N:List Str)(t:TE)(Q:VK):VK:=λv H1=>∃p xs kz,∃Θ:Hp->Hp->Prop,v=.ref p/\SqL K H1 p xs/\xs.length<=100000/\Tab H1 P lp q/\kz.length=xs.length /\
 (∀H2,b6i P H1 H2->Tab H2 P lp q->Θ H2 H2)/\(∀H2 H',Θ H2 H'->∀b o u,H2 b=bo (.frz o u)->H' b=bo (.frz o u)) /\
 (∀(i:Nat) x k,xs[i]?=bo x->kz[i]?=bo k->∀H2 H',Θ H2 H'->t (start N [x]) H' λy H3=>y=.int k/\Θ H2 H3) /\
 ∀H2 H' tA os,Θ H2 H'->H' tA=lR->SOut kz xs os->Q (.ref tA) (upd H' tA (.lst os))
def b6l(K:Fg)(P:Addr)(lp:Pos)(q:Str)(N:List Str)(ta t:TE):TE:=fun σ H Q=>ta σ H (b6k K P lp q N t Q)
def one1(Q:VK):List V->Hp->Prop:=λvs H=>match vs with |[v]=>Q v H |_=>False
def b3v(h:one1 Q vs H):∃v,vs=[v]/\Q v H:=by
 match vs,h with
 |[v],h=>show(v,rfl,h)
def b0T(hg:Gl X "sorted")(hm:X.mg "sorted"=lR)(hr:Room (k+3) X.A)(L:LamAt X params body scope lU q x N)(ha:PE X a ta)
  (ht:∀(f c':Addr)(A:Around)(outer:List Env)(s:Shared)(H:Hp),Room k (A.deeper (envOfC q scope s.heap.objs.size f (.ref c')))->PE (cxOf CX0 X.prog X.w X.K X.mg X.base N q scope f (.ref c') A outer s H E0).nox body t)
  (he:ii [a] X.env=(lT,eval a X.env,)::ii [] X.env:=by rfl) :
  PE X (.Call (.Name "sorted" pN) [a] [(bo "key",.Lambda params body scope lpos,kp)] pos) (b6l X.K lU lpos q N ta t):=by
 ext B s σ H Q I h;show jH (a2N I hg hm (show iH "sorted"=bo (.builtin "sorted") by decide +kernel) ?_);show callWith_kw (thn (b6j ha he pos B s σ H (one1 (b6k X.K lU lpos q N t Q)) I h) λus s1 (vs,H1,W,r,q0)=>?_) (by rw[he];rfl) (by rw[he];rfl);let(v,rfl,q1):=b3v q0;let(u,rfl,ru):=a1F r;let(p,xs,kz,Θ,rfl,b,Y,y,C,θ0,θf,hk,hQ):=q1;cases ru;let(c,E,M):=L.cd;show kws_cons (b0R W y L.qn L.df L.cl E M L.gP L.bi λf d g pm S s2 oc I2 R T D=>?_);show kws_nil ?_;let G:SqL X.K g p xs:=by
  let(b||(o,b))||b:=b
  .show .inl (.inl (D _ _ b λz=>by let(ps,e,_):=y;rw[z,e]at b;cases b))
  .show .inl (.inr (o,D _ _ b λz=>by let(ps,e,_):=y;rw[z,e]at b;cases b))
  .show .inr b
 show a7b (θ0 g D T) I2 G C Y (λi x' v k' hx rx F j m pl θ J=>?_) λj m U os θ J hn so=>(.ref U,_,J.unpinned,rfl,hQ g j U os θ hn so);let V:=(J.hok d _ (θf _ _ θ _ _ _ R)).2.1;let n:=Room.in1 (Room.in1 hr);show jj (i7 (b3s L.sc (L.bd pm S d) n J.env0.in1.in1 (.cons rx .nil) rfl (J.pin (f,_,) (by simp)).1 V (ht f d X.A.in1.in1 X.stack m j (n.deeper _)) (hk i x' k' hx F g j θ)) λr s'' l=>?_);cases r with
 |error e=>show l.elim
 |ok fl=>
  cases fl with
  |ret u=>show J.after l
  |next=>show l.elim
  |brk=>show l.elim
  |cont=>show l.elim
def a81(P:Addr)(lp:Pos)(q:Str)(N:List Str)(te t:E3):E3:=fun σ G R=>te σ G λx G1=>∃p ws kz,x=.ref p/\G1 p=bo (.lst ws)/\ws.length<=100000/\G1 P=bo (.tab lp q)/\kz.length=ws.length /\
 (∀(i:Nat) w k,ws[i]?=bo w->kz[i]?=bo k->t (a07 N [w]) G1 λy G2=>y=.int k/\G2=G1)/\∀tA os,G1 tA=lR->SOut kz ws os->R (.ref tA) (put G1 tA (.lst os))
theorem a6l{K:Fg}:∀{T:List (Int×Z×V)},(∀t∈T,Rep K H t.2.1 t.2.2)->Reps K H (T.map λt=>t.2.1) (T.map λt=>t.2.2)
 |[],_=>.nil
 |t::T,h=>.cons (h t (.head _)) (a6l λu a=>h u (.tail _ a))
theorem a6m{K:Fg}:∀{ws:List Z}{vs:List V},Reps K H ws vs->∀p∈ws.zip vs,Rep K H p.1 p.2
 |[],vs,_,p,h=>by simp at h
 |w::ws,vs,r,p,h=>by
  let(v,c,rfl,a,b):=r;let rfl||h:=aO.mp h
  .cbv
  .show a6m b p h
def b0U{K:Fg}{vs os:List V}(rs:Reps K H ws vs)(so:SOut kz vs os):∃zs,SOut kz ws zs/\Reps K H zs os:=by
 let(g,d,f,a):=so;let(T,c,b):=perm_lift d (a4a rs.length);show(T.map λt=>t.2.1,(T.map λt=>(t.1,t.2.1,),?_,by rw[bW];rfl,?_),?_)
 .rw[a4b rs.length];show c.map _
 .rw[b]at a;rw[cq]at a ⊢;show a
 .rw[f,b,bW];show a6l λt e=>a6m rs t.2 (de (c.mem_iff.mp e)).2
def b3w{K:Fg}(hP:H lU=bo (.tbl ps))(k:b6i lU H H2):TK K H H2:=
 (λb a e=>k _ _ e λz=>(by simp_all),λb a e=>by
  let(o,e)||e:=e
  .show .inl (o,k _ _ e λz=>by rw[z,hP]at e;cases e)
  .show .inr e,λb o u e=>k _ _ e λz=>by rw[z,hP]at e;cases e)
def b3x(hg:Gl X "sorted")(hm:X.mg "sorted"=lR)(hr:Room (k+3) X.A)(L:LamAt X params body scope lU q x N)(ha:QE X a te)
  (ht:∀(f c':Addr)(A:Around)(outer:List Env)(s:Shared)(H:Hp),Room k (A.deeper (envOfC q scope s.heap.objs.size f (.ref c')))->QE (cxOf CX0 X.prog X.w X.K X.mg X.base N q scope f (.ref c') A outer s H E0).nox body t)
  (he:ii [a] X.env=(lT,eval a X.env,)::ii [] X.env:=by rfl) :
  QE X (.Call (.Name "sorted" pN) [a] [(bo "key",.Lambda params body scope lpos,kp)] pos) (a81 lU lpos q N te t):=
 ⟨a0X (b0T (t:=low X.K t) hg hm hr L ha.p (λf c' A n s H r=>(ht f c' A n s H r).p) he) fun τ H Q hx=>hx.un fun σ G R hs hg h up=>(σ,G,_,hs,hg,h,λw M v S hw D c t1=>by
  let(p,ws,kz,rfl,ew,hz,T,hl,hk,hR):=hw;let(vs,ev,l):=c p _ ew;let(ps,I,hO):=(c lU _ T);show(p,vs,kz,λj d=>RH X.K M d/\TK X.K S d/\∀b o u,j b=bo _->d b=bo _,D,SqL.of ev,by rw[<- l.length];show hz,(ps,I,hO),by rw[hl,l.length],λj Y T2=>?_,λj d θ=>θ.2.2,λi x' k' E F j d θ=>?_,λj d tA os θ m so=>?_)
  .let W:=b3w (K:=X.K) I Y;show(λb o e=>?_,W,λ_ _ _ z=>z)
   by_cases hb:b=lU
   .subst hb;rw[T]at e;cases e;show T2
   .let(u,z):=(c b o e).some;show (c b o e).stay W ((Y _ _ z hb).trans z.symm)
  .let(U,J,B):=l.tog E;show(a07 N [U],M,_,.start (.cons (B.mono θ.2.1) .nil),θ.1,hk i U k' J F,λz G' v' H3 (e1,e2) r g V=>by
    subst e1 e2;show(r,g,θ.2.1.trans V,λb o u q=>V.frd _ _ _ (θ.2.2 _ _ _ q)))
  .let(zs,C,rz):=b0U (l.mono θ.2.1) so;show up _ _ _ _ (hR tA zs (θ.1.out m) C) (by rw[a0q]) (θ.1.set (.new m) (a0K rz (.new m))) (t1.trans (θ.2.1.trans (.new m))))⟩
def b3y (h:te σ G λx G1=>∃p ws kz,x=.ref p/\G1 p=bo (.lst ws)/\ws.length<=100000/\G1 lU=bo (.tab lp q)/\kz.length=ws.length /\
 (∀(i:Nat) w k,ws[i]?=bo w->kz[i]?=bo k->t (a07 N [w]) G1 λy G2=>y=.int k/\G2=G1)/\∀tA os,G1 tA=lR->SOut kz ws os->R (.ref tA) (put G1 tA (.lst os))):a81 lU lp q N te t σ G R:=h
def b3z:∀{kvs:List (Key×V)}{vs:List (Key×Value)}{i:Nat}{p:Key×V},KV kvs vs->kvs[i]?=bo p->∃q,vs[i]?=bo q/\p.1=q.1/\RelV p.2 q.2:=by
 ext a
 induction a with
 |nil=>ext b i p h e;simp at e
 |cons p0 a ih=>
  ext b i p h e;cases h with
  |cons h1 h2=>
   cases i with
   |zero=>cases e;show(_,rfl,h1)
   |succ i=>show ih (i:=i) h2 ↑e
def a5w{us:List (Key×V)}{kvs:List (Key×Z)}{K:Fg}(hn:us.map (·.1)=kvs.map (·.1))(rr:Reps K H (kvs.map (·.2)) (us.map (·.2))){i:Nat}(e:kvs[i]?=bo p):∃u,us[i]?=bo u/\u.1=p.1/\Rep K H p.2 u.2:=by
 let(v,a,c):=rr.get (by rw[aR,e];rfl);rw[aR]at a;cases hu:us[i]? with
 |none=>rw[hu]at a;cases a
 |some u=>
  rw[hu]at a;cases a;let b:(us.map (·.1))[i]?=bo u.1:=by rw[aR,hu];rfl
  rw[hn,aR,e]at b;show(u,rfl,(bo.inj b).symm,c)
namespace Tim
open PySem.W
section
variable{vs:List Value}{rows:List (List Pz)}
theorem rows_at:∀{h:Heap}{vs:List Value}{rows:List (List Pz)},RowsIn h vs rows->∀{i:Nat}{v:Value},vs[i]?=bo v->∃x,rows[i]?=bo x/\RowIn h v x
 |_,_::_,_::_,(r,_),0,v,e=>by cases e;show(_,rfl,r)
 |_,_::_,_::_,(_,q),i+1,v,e=>↑(rows_at q (i:=i) (v:=v) ↑e)
 |_,[],[],_,_,_,e=>by simp at e
def RowIn.up(r:RowIn h v x)(k:∀b o,h.get? b=bo o->h'.get? b=bo o):RowIn h' v x:=by
 let(a,o,c,n,e,d,r):=r;show(a,o,c,n,e,k _ _ d,r)
end
end Tim
def EqW(P:ik)(w:World)(A:Around)(s:Shared)(v y:Value):Prop:=∀(E:Value->Shared->Prop)(Q:Bool->Shared->Prop),Q lS s->wpAny (model P w) A (eqBool v y) Q E s
def a4R(na:(a==iC)=lT)(nb:(b==iC)=lT)(da:s.heap.DictOf (a0k P w) a ka)(db:s.heap.DictOf (a0k P w) b kb)(hl:ka.length=kb.length)
  (hv:∀(i:Nat) k v,ka[i]?=bo (k,v,)->∃y,iT kb k=bo y/\EqW P w A s v y) (q:Q lS s):wpAny (model P w) A (im.Dict.samePairs nm a b) Q E s:=by
 let(Y,c,p1,x,x1,m,S,N,z1):=da;let(o2,h,p2,r,X,l,I,B,z2):=db;let V:c.size=ka.length:=by rw[<- N.length,bu]
 let C:h.size=kb.length:=by rw[<- B.length,bu]
 let L:∀k,findBy (a0k P w).is h k=iT kb k:=λk=>by
  rw[<- B.find k];simp[findBy]
 unfold im.Dict.samePairs im.Dict.showsAll;simp only[na,nb];show hZ (h9 (hZ (h9 (hZ (jC x m ?_)))));show hZ (jC r l ?_);rw[if_neg (by grind)];show hZ (lK x m (hZ ?_));rw[Std.Legacy.Range.forIn_eq_forIn_range'];show lH _ (λg u t=>t=s/\u=_/\∃i,i<=c.size/\g=List.range' i (c.size-i)) _ ?_ ?_ _ _ (rfl,rfl,0,bv _,by simp)
 .ext n g u t ⟨rfl,rfl,i,H,f⟩;let o:i<c.size:=by
   show Nat.lt_of_le_of_ne H λz=>?_;rw[z,eZ]at f;cases f
  rw[show c.size-i=(c.size-(i+1))+1 by lia,gH]at f;cases f;show hZ (jC x m ?_);rw[bQ o];let U:n<ka.length:=by lia
  obtain⟨⟨k,v⟩,D⟩:∃p,ka[n]?=bo p:=(_,aU U);let(R,T):=N.get? (by rw[cm];show bQ o) D;let(k',F,W):=S c[n] (Array.getElem_mem o);cases (a0k P w).inj _ _ _ F R;let(y,d,G):=hv n k v D
  change wpAny _ _ (iM [c[n].key,c[n].val] _ >>= _) _ _ _
  rw[W];show hZ (iB (hZ (wpAny_dictFind_of R r l I ?_)));rw[<- L k,findBy_of_findIdx?]at d;cases hj:h.findIdx? λe=>(a0k P w).is k e.key with
  |none=>rw[hj]at d;cases d
  |some j=>
   let M:=(Array.findIdx?_eq_some_iff_getElem.mp hj).1;rw[hj]at d;let J:h[j].val=y:=by simpa[bQ M]using d
   show hZ (jC r l ?_);rw[bQ M];rw[<- J,<- T]at G;show iB (G _ _ ?_);show hZ (lK x m ?_);rw[if_neg (by simp)];show h9 (rfl,rfl,n+1,o,rfl)
 .ext u t ⟨rfl,rfl,i,H,f⟩;show h9 q
def b3A{a b:Addr}{ka kb:List (Key×Value)}{Q:Value->Shared->Prop}(na:(a==iC)=lT)(nb:(b==iC)=lT)(da:s.heap.DictOf (a0k P w) a ka)(db:s.heap.DictOf (a0k P w) b kb)(hu:A.units<cLine)(hl:ka.length=kb.length)
  (hv:∀(i:Nat) k v,ka[i]?=bo (k,v,)->∃y,iT kb k=bo y/\EqW P w A.in1 s v y) (q:Q (.bool lT) s):wpAny (model P w) A (io .NotEq (.ref a) (.ref b)) Q E s:=by
 show wpAny_richCompare_same_room (op:=.NotEq) da.typeIs db.typeIs PySem.F.slot_dict_ne (iI PySem.F.slot_dict_ne da.typeIs PySem.F.entry_dict_ne ?_ (PySem.F.args_dict_ne_2 _ _)) hu
 change wpAny _ _ (im.Dict.dictSlotArgs "__ne__" ([.ref a,.ref b],[]) >>= _) _ _ s
 show hZ ?_;unfold im.Dict.dictSlotArgs;show hZ (lI da.typeIs (h9 ?_));show hZ (jr (T:="dict") db.typeIs PySem.F.sub_dict_dict ?_);simp only[gE,cY,if_false];show hZ (h9 (hZ (h9 (hZ (a4R na nb da db hl hv ?_)))));show h9 (_,rfl,(λx=>nomatch x),q)
def DEq1(H:Hp)(x y:V):Prop:=∃d,DV H d x/\DV H d y/\SeqAt.shaped d=lS/\PyData.eqv d d=lS
def b10{K:Fg}(hg:RH K G H)(e:G p=bo (.dK kvs)\/G p=bo (.dF kvs)):∃us,Rd H p (.dK us)/\us.map (·.1)=kvs.map (·.1)/\Reps K H (kvs.map (·.2)) (us.map (·.2)):=by
 let e||e:=e
 .let(a,d,b,c):=hg _ _ e;show(a,.inl d,b,c)
 .let(f,a,d,b,c):=hg _ _ e;show(a,.inr (f,d),b,c)
def LEq(G:Hq)(x y:Z):Prop:=∃p q ws,x=.ref p/\y=.ref q/\G p=bo (.lst ws)/\G q=bo (.lst ws)/\ws.all (flat 8)=lS
abbrev NsG(K:Fg)(x:Str)(v:Option Value):Prop:=PySem.W.nsIn K iu x=bo v
def Br(K:Fg)(mg:Str->Option Value):Prop:=∀x v,NsG K x v->mg x=v
def b8i{K:Fg}(X:K.In h)(G:h.Ns iu mg):Br K mg:=λ_ v e=>match v,e with
 |some _,e=>PySem.W.mg_of X G e
 |none,e=>PySem.W.mg_none_of X G e
def FX(K:Fg)(x:Str)(st:Stmt):Prop:=∃f d,NsG K x (bo (.ref f))/\Fun K x x st f d
def MX(K:Fg)(C:Addr)(m q:Str)(st:Stmt):Prop:=∃f d,Meth K C m f/\Fun K m q st f d
def AllF(K:Fg)(tp:Nat->Stmt)(l:List (Str×Nat)):Prop:=∀(i:Nat)(r:Str×Nat),l[i]?=bo r->FX K r.1 (tp r.2)
def AllM(K:Fg)(tp:Nat->Stmt)(C:Addr)(l:List (Str×Str×Nat×Nat)):Prop:=∀(i:Nat)(r:Str×Str×Nat×Nat),l[i]?=bo r->MX K C r.1 r.2.1 (a3O (tp r.2.2.1) r.2.2.2)
def AllB(K:Fg)(l:List Str):Prop:=∀(i:Nat) x,l[i]?=bo x->NsG K x lR
def AllN(K:Fg)(C:Addr)(l:List Str):Prop:=∀(i:Nat) x,l[i]?=bo x->b4C K C x
section
variable{K:Fg}{tp:Nat->Stmt}{x m q:Str}{n j:Nat}{f C:Addr}{oc:Value}{od an:Option Addr}{osl:Array (Option Value)}{kV doc pm cdv ct:Value}
def af0:AllF K tp []:=λ_ _ h=>nomatch h
def af1(a:PySem.W.nsIn K iu x=bo (bo (.ref f)))(e:K.lookup f=bo (oc,od,.func (PySem.W.fnOf x x (a1K (tp n)) (a0I (tp n)) (a0i (tp n)) .none kV doc pm an cdv ct),osl))
  (c:PySem.W.codeIn K cdv x=lS) (k:PySem.W.keepIn K (.ref f)=lS) (t:AllF K tp l):AllF K tp ((x,n,)::l):=λi r h=>by
 cases i with
 |zero=>cases h;show(f,_,a,b1A e c k)
 |succ i=>show t i r h
def ab0:AllB K []:=λ_ _ h=>nomatch h
def ab1(a:PySem.W.nsIn K iu x=bo lR)(t:AllB K l):AllB K (x::l):=λi y h=>by
 cases i with
 |zero=>cases h;show a
 |succ i=>show t i y h
def an0:AllN K C []:=λ_ _ h=>nomatch h
def an1(a:PySem.W.findIn K (.ref C) x=bo lR)(t:AllN K C l):AllN K C (x::l):=λi y h=>by
 cases i with
 |zero=>cases h;show a
 |succ i=>show t i y h
def am0:AllM K tp C []:=λ_ _ h=>nomatch h
def am1(a:PySem.W.findIn K (.ref C) m=bo (bo (.ref f)))(g:PySem.W.isFn K (.ref f)=lS)
  (e:K.lookup f=bo (oc,od,.func (PySem.W.fnOf m q (a1K (a3O (tp n) j)) (a0I (a3O (tp n) j)) (a0i (a3O (tp n) j)) .none kV doc pm an cdv ct),osl))
  (c:PySem.W.codeIn K cdv q=lS) (k:PySem.W.keepIn K (.ref f)=lS) (t:AllM K tp C l):AllM K tp C ((m,q,n,j,)::l):=λi r h=>by
 cases i with
 |zero=>cases h;show(f,_,(a,g,k),b1A e c k)
 |succ i=>show t i r h
end
section
variable{K:Fg}{mg:Str->Option Value}{base:Heap}{x q:Str}{st:Stmt}{f:Addr}{d:iG}{N:List Str}{k n:Nat}
def Fd(P:ik)(w:World)(K:Fg)(mg:Str->Option Value)(base:Heap)(CX:CXT)(k:Nat)(f:Addr)(s:Sp):Prop:=∃d ps,FnOk P w K mg base CX k f d ps s/\Binds K d ps []
structure Cal (P:ik) (w:World) (K:Fg) (mg:Str->Option Value) (base:Heap) (CX:CXT) (k:Nat) (x:Str) (s:Sp):Prop where
 ex:∃f,Fd P w K mg base CX k f s/\mg x=bo (.ref f)/\PySem.W.keepIn K (.ref f)=lS
abbrev Bd0(P:ik)(w:World)(K:Fg)(mg:Str->Option Value)(base:Heap)(N:List Str)(q:Str)(st:Stmt)(k:Nat)(sp:P3):Prop:=∀(f:Addr)(cdv:Value)(A:Around)(outer:List Env)(s:Shared)(H:Hp)(E:XK)(ws:List Z)(G:Hq)(R:K3),Room k (A.deeper (envOfC q (a0i st) s.heap.objs.size f cdv))->N.Nodup->sp ws G R ->
 ∃t,QSs (cxOf CX0 P w K mg base N q (a0i st) f cdv A outer s H E).nox (a0I st) t/\t (λ_ G'=>R .non G') R (λ_ _=>False) (λ_ _=>False) (a07 N ws) G
abbrev BdX(P:ik)(w:World)(K:Fg)(mg:Str->Option Value)(base:Heap)(N:List Str)(q:Str)(st:Stmt)(k:Nat)(sp:PX3):Prop:=∀(f:Addr)(cdv:Value)(A:Around)(outer:List Env)(s:Shared)(H:Hp)(E:XK)(ws:List Z)(G:Hq)(R:K3)(EE:Addr->Hq->Prop),Room k (A.deeper (envOfC q (a0i st) s.heap.objs.size f cdv))->N.Nodup->sp ws G R EE->UpX K H EE E ->
 ∃t,QSs (cxOf (CXx P w) P w K mg base N q (a0i st) f cdv A outer s H E) (a0I st) t/\t (λ_ G'=>R .non G') R (λ_ _=>False) (λ_ _=>False) (a07 N ws) G
abbrev Pl(x q:Str)(st:Stmt)(ps:List Str):Prop:=∀(kV doc pm:Value)(an:Option Addr)(cdv ct:Value)(us:List Value),us.length=ps.length->jw (PySem.W.fnOf x q (a1K st) (a0I st) (a0i st) .none kV doc pm an cdv ct) (us,[])=pure (ps.zip us)
def fnd(F:Fun K x q st f d)(b:Bd0 P w K mg base N q st k sp)(S:FnScope N (N.take n) (a0i st))(len:∀ws G R,sp ws G R->ws.length=(N.take n).length):FnOk P w K mg base CX0 (k+1) f d (N.take n) (lowP K sp):=
 fn3 F S len λc A a s H E e G R g h=>b f c A a s H E e G R g S.nd h
def fnc(n:Nat)(B:Br K mg)(F:FX K x st)(b:Bd0 P w K mg base N x st k sp)(len:∀ws G R,sp ws G R->ws.length=(N.take n).length:=by ext ws G R h;repeat' first | (let(rfl,_):=h;rfl) | (cases h<;>rename_i h))(S:FnScope N (N.take n) (a0i st):=by show(rfl,rfl,rfl,by decide +kernel,rfl,by decide +kernel,by decide +kernel))(pl:Pl x x st (N.take n):=by ext _ _ _ _ _ _;(repeat show lnS λ_=>?_);show ln0 rfl):Cal P w K mg base CX0 (k+1) x (lowP K sp):=by
 let(f,d,e,F):=F;show⟨(f,(d,_,fnd F b S len,F.binds pl),B _ _ e,F.kp)⟩
def fndX(F:Fun K x q st f d)(S:FnScope N (N.take n) (a0i st))(len:∀ws G R EE,sp ws G R EE->ws.length=(N.take n).length)(b:BdX P w K mg base N q st k sp):FnOk P w K mg base (CXx P w) (k+1) f d (N.take n) (a37 K sp):=
 fn3x F S len λc A a s H E e G R g i h j=>b f c A a s H E e G R g i S.nd h j
def fncX{sp:PX3}(n:Nat)(B:Br K mg)(F:FX K x st)(b:BdX P w K mg base N x st k sp)(len:∀ws G R EE,sp ws G R EE->ws.length=(N.take n).length:=by ext ws G R EE h;repeat' first | (let(rfl,_):=h;rfl) | (cases h<;>rename_i h))(S:FnScope N (N.take n) (a0i st):=by show(rfl,rfl,rfl,by decide +kernel,rfl,by decide +kernel,by decide +kernel))(pl:Pl x x st (N.take n):=by ext _ _ _ _ _ _;(repeat show lnS λ_=>?_);show ln0 rfl):Cal P w K mg base (CXx P w) (k+1) x (a37 K sp):=by
 let(f,d,e,F):=F;show⟨(f,(d,_,fndX F S len b,F.binds pl),B _ _ e,F.kp)⟩
end
noncomputable def nst:Expr->Bool
 |.Starred _ _=>lT
 |_=>lS
def se_(h:nst e=lS):ii (e::es) env=(lT,eval e env,)::ii es env:=by cases e<;>first |rfl |cases h
def hp_:∀{es:List Expr},es.all nst=lS->(backTo pos (ii es env)).any (·.1)=lT:=by ext z0;induction z0 with
 |nil=>ext _;show b1E
 |cons e es I0=>
  ext h;rw[bG,b7]at h;show b2F (se_ h.1) (I0 h.2)
def s1_(h:(e::es).all nst=lS):ii (e::es) env=(lT,eval e env,)::ii es env:=se_ (by simp_all)
def h1_(h:(e::es).all nst=lS):(backTo pos (ii es env)).any (·.1)=lT:=hp_ (by rw[bG,b7]at h;show h.2)
section
variable{e:Expr}{t:A3}{te:E3}{x:Str}{k j:Nat}{C:Addr}{p:Pos}{sp:P3}{sq:PX3}{E:XK}{EE:Addr->Hq->Prop}
def q_c(c:Cal X.prog X.w X.K X.mg X.base CX0 k x (lowP X.K sp))(hr:Room j X.A)(ha:QA X (e::es) t)(hn:(e::es).all nst=lS:=by rfl)(hk:k<=j:=by decide)(hg:Gl X x:=by rfl)
  (hdb:(x==("__debug__":Str))=lT:=by decide):QE X (.Call (.Name x p) (e::es) [] pos) (b2J sp t):=by
 let(f,(d,h,F,b),g,a):=c.ex;show b5b F (hr.mono hk) hg g a b ha hdb (s1_ hn) (h1_ hn)
def q_cX(hp:a2y (CXx X.prog X.w) X E)(hU:UpN X.K EE E)(c:Cal X.prog X.w X.K X.mg X.base (CXx X.prog X.w) k x (a37 X.K sq))(hr:Room j X.A)(ha:QA X (e::es) t)(hn:(e::es).all nst=lS:=by rfl)(hk:k<=j:=by decide)(hg:Gl X x:=by rfl)
  (hdb:(x==("__debug__":Str))=lT:=by decide):QE X (.Call (.Name x p) (e::es) [] pos) (a8P sq EE t):=by
 let(f,(d,h,F,b),a,g):=c.ex;show b3g hp hU F (hr.mono hk) hg a g b ha hdb (s1_ hn) (h1_ hn)
def q_k(ha:QE X e te)(hr:QA X es t)(h:nst e=lS:=by rfl):QA X (e::es) (b2G te t):=b5a ha hr (se_ h)
def q_B{id:String}(hc:a1t X (.builtin id) r)(hm:X.mg x=lR)(ha:QA X (e::es) t)(hv:iH x=bo (.builtin id):=by rfl)(hn:(e::es).all nst=lS:=by rfl)(hg:Gl X x:=by rfl)(h1:x≠"__name__":=by decide)(h2:(x==("__debug__":Str))=lT:=by decide) :
  QE X (.Call (.Name x p) (e::es) [] pos) (uCB r t):=b2H hc hg hm hv ha h1 h2 (s1_ hn) (h1_ hn)
def q_Y{id:String}(hc:a1t X (.type id) r)(hm:X.mg x=lR)(ha:QA X (e::es) t)(hv:iH x=bo (.type id):=by rfl)(hn:(e::es).all nst=lS:=by rfl)(hg:Gl X x:=by rfl)(h1:x≠"__name__":=by decide)(h2:(x==("__debug__":Str))=lT:=by decide) :
  QE X (.Call (.Name x p) (e::es) [] pos) (uCB r t):=b0g hc hg hm hv ha h1 h2 (s1_ hn) (h1_ hn)
structure Nm (X:Cx) (x:Str) (i:Nat):Prop where
 nd:X.N.Nodup
 ix:X.N[i]?=bo x
 lc:Loc X.env.scope x
 fn:X.fn x=lS\/X.env.scope.names.lookup x=bo .local
def nmI(i:Nat)(nd:X.N.Nodup)(ix:X.N[i]?=bo x:=by rfl)(lc:Loc X.env.scope x:=by first |show cK rfl |show cf rfl)(fn:X.fn x=lS\/X.env.scope.names.lookup x=bo .local:=by first |show .inl rfl |show .inr rfl |assumption):Nm X x i:=(nd,ix,lc,fn)
def z_st(h:Nm X x i)(he:QE X e te)(hs:iY e (bo (.Name x pos')) pos.line X.env=pure lT:=by rfl):QS X (.Assign [.Name x pos'] e pos) (uAsg te (.nm i)):=b7s h.nd h.ix h.lc he hs h.fn
def z_au(h:Nm X x i)(he:QE X e te)(ho:OpQ X (jg op) r):QS X (.AugAssign (.Name x pos') op e pos) (uAug i te r):=b5j h.nd h.ix h.lc he ho h.fn
def p_nm(h:Nm X x i):QP X (.Name x pos) (.nm i):=a7r h.nd h.ix h.lc h.fn
def QPg(X:Cx)(es:List Expr)(is:List Nat):Prop:=PGs X es (gsOf is)/\(iZ es X.env).length=is.length/\(iZ es X.env).findIdx? (·.1)=lR
def b8j:QPg X [] []:=(b2m,rfl,rfl)
def b6m(h:Nm X x i)(t:QPg X es is):QPg X (.Name x pos::es) (i::is):=(a9L (a7r h.nd h.ix h.lc h.fn) t.1,congrArg Nat.succ t.2.1,by
 change gh _ (_::iZ es X.env)=lR
 rw[List.findIdx?_cons,if_neg nofun,t.2.2];rfl)
def p_tp(hc:X.calm=lS)(h:QPg X es is):QP X (.Tuple es c pos) (.tp is):=b4n hc h.1 h.2.1 h.2.2
section
variable{CX:CXT}{K:Fg}{mg:Str->Option Value}{base:Heap}{N:List Str}{q:Str}{so:Scope}{f:Addr}{cd:Value}{outer:List Env}{E:XK}
def cxN:(cxOf CX P w K mg base N q so f cd A outer s H E).nox.N=N:=rfl
def cxS:(cxOf CX P w K mg base N q so f cd A outer s H E).nox.env.scope=so:=rfl
def cxN':(cxOf CX P w K mg base N q so f cd A outer s H E).N=N:=rfl
def cxS':(cxOf CX P w K mg base N q so f cd A outer s H E).env.scope=so:=rfl
end
def cxcN:(cxC X EW N' sc D s H fp).N=N':=rfl
section
variable{Nj:List Str}{so sc:Scope}{wi:I3}{tg iter elt:Expr}{ifs:List Expr}{tt:T3}{i:Nat}
def q_l(N':List Str)(cap:List (Option Nat))(pt:Pt)(hi:QI X tg iter wi:=by ac_rfl)(ht:∀C s H fp,QIfs (cxC X E0 N' sc C s H fp) ifs tt:=by walk_at "r4")(he:∀C s H fp,QE (cxC X E0 N' sc C s H fp) elt te:=by walk_at "r4")(hg:∀C s H fp,N'.Nodup->QP (cxC X E0 N' sc C s H fp) tg pt:=by walk_at "r5")
  (hNN:X.N=Nj:=by first |show cxN |show cxN' |show cxcN) (hso:X.env.scope=so:=by first |show cxS |show cxS' |rfl) (ck:capB Nj so sc N' cap=lS:=by first |decide +kernel |rfl) (hp:(pt.slots.all λj=>decide (cap[j]?=bo lR))=lS:=by rfl)
  (nd:N'.Nodup:=by decide +kernel) (hc:X.calm=lS:=by rfl) (hs:∀x,jc iter X.env x=pure x:=by ext _;rfl):QE X (.ListComp elt [(tg,iter,ifs,0)] sc pos) (uLC wi cap pt tt te):=q_lc hc hNN hso ck hp hi (λC s H a=>hg C s H a nd) ht he hs
def z_l(h:Nm X x i)(N':List Str)(cap:List (Option Nat))(pt:Pt)(hi:QI X tg iter wi:=by ac_rfl)(ht:∀C s H fp,QIfs (cxC X E0 N' sc C s H fp) ifs tt:=by walk_at "r4")(he:∀C s H fp,QE (cxC X E0 N' sc C s H fp) elt te:=by walk_at "r4")(hg:∀C s H fp,N'.Nodup->QP (cxC X E0 N' sc C s H fp) tg pt:=by walk_at "r5")
  (hNN:X.N=Nj:=by first |show cxN |show cxN' |show cxcN) (hso:X.env.scope=so:=by first |show cxS |show cxS' |rfl) (ck:capB Nj so sc N' cap=lS:=by first |decide +kernel |rfl) (hp:(pt.slots.all λj=>decide (cap[j]?=bo lR))=lS:=by rfl)
  (nd:N'.Nodup:=by decide +kernel) (hl:X.env.scope.names.lookup x=bo .local:=by rfl) (hsw:iY (.ListComp elt [(tg,iter,ifs,0)] sc pos) (bo (.Name x pos')) spos.line X.env=pure lS:=by rfl) (hc:X.calm=lS:=by rfl) (hs:∀x,jc iter X.env x=pure x:=by ext _;rfl) :
  QS X (.Assign [.Name x pos'] (.ListComp elt [(tg,iter,ifs,0)] sc pos) spos) (uAsg (uLC wi cap pt tt te) (.nm i)):=b2P h.nd h.ix hl hc hNN hso ck hp hi (λC s H a=>hg C s H a nd) ht he hsw hs
end
end
def At(N:List Str)(i:Nat)(x:Str):Prop:=N[i]?=bo x
def at_0:At (x::l) 0 x:=rfl
def at_1:At (c0::x::l) 1 x:=rfl
def at_2:At (c0::c1::x::l) 2 x:=rfl
def at_3:At (c0::c1::c2::x::l) 3 x:=rfl
def at_4:At (c0::c1::c2::c3::x::l) 4 x:=rfl
def at_5:At (c0::c1::c2::c3::c4::x::l) 5 x:=rfl
def at_6:At (c0::c1::c2::c3::c4::c5::x::l) 6 x:=rfl
def at_7:At (c0::c1::c2::c3::c4::c5::c6::x::l) 7 x:=rfl
def at_8:At (c0::c1::c2::c3::c4::c5::c6::c7::x::l) 8 x:=rfl
def at_9:At (c0::c1::c2::c3::c4::c5::c6::c7::c8::x::l) 9 x:=rfl
def b6n:At (c0::c1::c2::c3::c4::c5::c6::c7::c8::c9::x::l) 10 x:=rfl
def b6o:At (c0::c1::c2::c3::c4::c5::c6::c7::c8::c9::c10::x::l) 11 x:=rfl
def b6p:At (c0::c1::c2::c3::c4::c5::c6::c7::c8::c9::c10::c11::x::l) 12 x:=rfl
def b6q:At (c0::c1::c2::c3::c4::c5::c6::c7::c8::c9::c10::c11::c12::x::l) 13 x:=rfl
def b6r:At (c0::c1::c2::c3::c4::c5::c6::c7::c8::c9::c10::c11::c12::c13::x::l) 14 x:=rfl
def b6s:At (c0::c1::c2::c3::c4::c5::c6::c7::c8::c9::c10::c11::c12::c13::c14::x::l) 15 x:=rfl
def b6t:At (c0::c1::c2::c3::c4::c5::c6::c7::c8::c9::c10::c11::c12::c13::c14::c15::x::l) 16 x:=rfl
def b6u:At (c0::c1::c2::c3::c4::c5::c6::c7::c8::c9::c10::c11::c12::c13::c14::c15::c16::x::l) 17 x:=rfl
section
variable{x:Str}
def qv(i:Nat)(hN:X.N[i]?=bo x:=by rfl)(hv:Vis X.env.scope x:=by first |show cK rfl |show cf (cK rfl) |show cf (cf rfl))(hd:(x==("__debug__":Str))=lT:=by decide)
  (hcd:(x==("__classdict__":Str))=lT:=by decide):QE X (.Name x pos) (uVar i):=b43 (a7p hN hv hd hcd)
def qw(h:X.N=N)(a:At N i x)(hv:Vis X.env.scope x:=by first |show cK rfl |show cf (cK rfl) |show cf (cf rfl))(hd:(x==("__debug__":Str))=lT:=by decide)
  (hcd:(x==("__classdict__":Str))=lT:=by decide):QE X (.Name x pos) (uVar i):=b43 (a7p (h▸a) hv hd hcd)
def nwI(h:X.N=N)(a:At N i x)(nd:X.N.Nodup)(lc:Loc X.env.scope x:=by first |show cK rfl |show cf rfl)(fn:X.fn x=lS\/X.env.scope.names.lookup x=bo .local:=by first |show .inl rfl |show .inr rfl |assumption):Nm X x i:=(nd,by rw[h];show a,lc,fn)
end
def newK(e:put G a o=G')(h:G a=lR):G' a=bo o/\Sm G G':=by subst e;show(a0a,Sm.new h)
def b0V(P0:Addr)(H:Hp):Prop:=H P0=bo (.tbl #[])/\∀b,b≠P0->H b=lR\/∃o xs,H b=bo (.frz o (.lst xs))
def a82{K:Fg}
  (KX:K.In sv.heap) (hns:sv.heap.Ns iu mg) (hb:sv.heap.Ns jF mb) (hbb:∀x:Str,x≠"__name__"->mb x=iH x) (hlim:sv.heap.NoLimit) (hg:sv.gens=#[])
  (hT:sv.heap.get? P0=bo (PySem.W.tabObj #[])) (hK0:K.lookup P0=lR) (hC:PySem.W.codeHdIn K c0 P0=lS)
  (hB:∃bm ob,mg "__builtins__"=bo (.ref bm)/\bm≠jF/\sv.heap.get? bm=bo ob/\ob.cls=.type "module"/\ob.dict=bo jF/\ob.data=.plain)
  (ha:sv.heap.get? a=bo { cls:=.type "list",data:=.seq vs.toArray }) (hi:iE vs ns) (hl:ns.length<=ie) (hr:Room k jo)
  (F:∀base:Heap,K.In base->base.Ns iu mg->base.BuiltinsAt mg P0->FnOk P w K mg base CX k fa fd [x] sp) (hbind:∀(s:Shared)(u:Value),jv s fd ([u],[]) [(x,u,)])
  (hsp:∀H:Hp,b0V P0 H->SqL K H a (ns.map V.int)->sp [.ref a] H (λv _=>v=.bl lS) λ_ _ _=>False)
  (hCX:∀H e s',CX [] H sv (λ_ _ _=>False) e s'->False) :
  iS (model P w) jo (.call (.ref fa) ([.ref a],[])) (λr s'=>r=.ok (.ret (.bool lS))/\OldK sv.heap s'.heap/\s'.os=sv.os/\iX s'.gens) sv:=by
 let N:=a7M hi;let M:=hi.length;let Y:a≠P0:=λz=>by rw[z,hT]at ha;cases ha
 let p:∀H:Hp,b0V P0 H->SqL K H a (ns.map V.int)->HOk P w H sv.heap->(∀b,H b≠lR->b=a\/b=P0)->(H a≠lR->K.lookup a=lR) ->
   iS (model P w) jo (.call (.ref fa) ([.ref a],[])) (λr i=>r=.ok (.ret (.bool lS))/\OldK sv.heap i.heap/\i.os=sv.os/\iX i.gens) sv:=by
  ext H y hS B T hK;let j:∀{b:Addr}{o:Obj},sv.heap.get? b=bo o->o≠PySem.W.tabObj #[]->o≠{ cls:=.type "list",data:=.seq vs.toArray }->H b=lR:=λ{b o} e n1 n2=>by
   cases q:H b with
   |none=>rfl
   |some u=>
    let z||z:=T b (by rw[q];simp)
    .grind
    .simp_all
  let l:∀{b:Addr}{m:Str->Option Value},sv.heap.Ns b m->(hidT sv.heap H).Ns b m:=λ{b m} (o,es,U,e,d,r)=>(o,es,U,a3K e (j e (λz=>by rw[z]at d;cases d) λz=>by rw[z]at d;cases d),d,r);let A:K.In (hidT sv.heap H):=λb o e=>a3K (KX b o e) (by
   cases q:H b with
   |none=>rfl
   |some u=>
    let z||z:=T b (by rw[q];simp)
    .grind
    .subst z;rw[hK0]at e;cases e)
  let hM:Mod K mg (hidT sv.heap H):=(A,l hns,(mb,l hb,hbb),let (mc,C,f):=hlim;(mc,l C,f));let hBb:(hidT sv.heap H).BuiltinsAt mg P0:=by
   let(S,I,C,f,G,t,h5,R):=hB;let E:=j G (λz=>by rw[z]at t;cases t) λz=>by rw[z]at t;simp at t
   show(S,I,C,f,λz=>?_,λz=>?_,a3K G E,t,h5,R)
   .subst z;let(o,es,U,e,d,_):=hns;rw[G]at e;cases e;rw[R]at d;cases d
   .subst z;rw[y.1]at E;cases E
  let e0:Env0 P w K mg (hidT sv.heap H) jo [] sv H:=(rfl,hM,λb o e=>b2d e,dE (a7o _ _),trivial,λb hb=>absurd (show b∈([]:List Addr) from hb) (by simp),B,.of_eq hg);show i7 ((F _ A (l hns) hBb).run jo [] sv H ([.ref a],[]) [.ref a] [.ref a] _ _ hr e0 (hbind sv (.ref a)) (.cons rfl .nil) (hsp H y hS)) λr i h=>?_;cases r with
  |error e=>show (hCX H e i h).elim
  |ok fl=>
   cases fl with
   |next=>show aX h
   |brk=>show aX h
   |cont=>show aX h
   |ret u=>
    let(v,H',os,L,J,n,r',q):=h;let q':=q;subst q';obtain rfl:u=Value.bool lS:=r';let D:∃g,i.heap.get? P0=bo (PySem.W.tabObj (#[]++g)):=by
     let(g,e):=J.tbls P0 _ y.1;show(g,n P0 _ e)
    let kp:∀b o,b≠P0->sv.heap.get? b=bo o->i.heap.get? b=bo o:=λb o hb e=>by
     let z||(I,xs,z):=y.2 b hb
     .show J.keep b o e z (by ext z;show absurd (show b∈([]:List Addr) from z) (by simp)) (by simp)
     .let(Q,_):=B b _ z;let(e2,_):=n b _ (J.frzs b I _ z);rw[e]at Q;cases Q;show e2
    let(g,X):=D;show(rfl,(λb o e=>?_,λb o e=>?_),os,L)
    .by_cases hb:b=P0
     .subst hb;rw[hT]at e;cases e;show .inr (.inl (((PySem.W.codeHd_of_K KX hC).tab hT).isCodeTable,rfl,#[],g,rfl,X))
     .show .inl (kp b o hb e)
    .by_cases hb:b=P0
     .subst hb;show(_,X)
     .show(o,kp b o hb e)
 cases hk:K.lookup a with
 |some o=>
  let e:=KX a o hk;rw[ha]at e;cases e;show p _ (a0h,λb hb=>.inl (a0f hb)) (.inr (_,vs.toArray,_,hk,rfl,rfl,rfl,by rw[bE,M];show hl,↑N)) (λb u z=>?_) (λb z=>?_) λz=>absurd (a0f Y) z
  .by_cases hb:b=P0
   .subst hb;rw[a0h]at z;cases z;show hT
   .rw[a0f hb]at z;cases z
  .by_cases hb:b=P0
   .show .inr hb
   .show absurd (a0f hb) z
 |none=>
  show p (upd (upd (λ_=>lR) a _) P0 (.tbl #[])) (a0h,λb hb=>?_) (.inl (.inr ({ cls:=.type "list",data:=.seq vs.toArray },by rw[a0f Y,a0h]))) (λb u z=>?_) (λb z=>?_) λ_=>hk
  .by_cases f:b=a
   .subst f;show .inr (_,_,by rw[a0f hb,a0h])
   .show .inl (by rw[a0f hb,a0f f])
  .by_cases hb:b=P0
   .subst hb;rw[a0h]at z;cases z;show hT
   .rw[a0f hb]at z
    by_cases f:b=a
    .subst f;rw[a0h]at z;cases z;show(ha,by rw[aN];show hl,vs,_,N,ha)
    .rw[a0f f]at z;cases z
  .by_cases hb:b=P0
   .show .inr hb
   .by_cases f:b=a
    .show .inl f
    .show absurd (by rw[a0f hb,a0f f]) z
def walk_ofT{l:PySem.W.OpenLaw}{K:Params->Fg}{CX:World->CXT}{sp:World->Sp}
  (hn:l.most=bo n) (hn2:n<=ie) (hdf:d.params.defaults=[]) (hr:Room k jo)
  (hY:∀(w:World)(h:Heap),YP w h->(K w.params).In h/\h.get? P0=bo (PySem.W.tabObj #[])) (hK0:∀w:World,(K w.params).lookup P0=lR)
  (F:∀(w:World)(mg:Str->Option Value)(fa:Addr)(h:Heap),(K w.params).In h->h.Ns iu mg->mg d.name=bo (.ref fa) ->
   ∃(fd:iG)(c0:Addr),PySem.W.codeHdIn (K w.params) c0 P0=lS/\(∀(s:Shared)(u:Value),jv s fd ([u],[]) [(x,u,)]) /\
    ∀base:Heap,(K w.params).In base->base.Ns iu mg->base.BuiltinsAt mg P0->FnOk l.prog w (K w.params) mg base (CX w) k fa fd [x] (sp w))
  (hsp:∀(w:World)(H:Hp)(a:Addr)(ns:List Int),ns.length<=n->b0V P0 H->SqL (K w.params) H a (ns.map V.int)->sp w [.ref a] H (λv _=>v=.bl lS) λ_ _ _=>False)
  (hCX:∀(w:World)(H:Hp)(s:Shared)(e:Value)(s':Shared),CX w [] H s (λ_ _ _=>False) e s'->False) :
  PySem.W.WalkO q loose XP YP l.row.toRowW d [] (λf vs=>PySem.call f vs):=by
 show Att.attach_call hn hdf λw s₀ B C R D o Q X L a N r G Y S hd M m j i c p=>?_;let(KX,I):=hY w _ Y;let(fd,U,z,y,E):=F w C D _ KX G.T.g m;show a82 KX G.T.g G.T.b G.T.builtins G.T.nolimit p I (hK0 w) z G.T.bmain j i (bj c hn2) hr E y (λH t A=>hsp w H a r c t A) λH e J=>hCX w H B e J
namespace SetW
theorem hole:∀{l:List (Option Nat)},(l.filterMap id).length<l.length->∃j:Nat,l[j]?=bo lR
 |none::l,_=>(0,rfl)
 |some k::l,h=>by
  let(j,e):=hole ↑h;show(j+1,↑e)
theorem a4c:∀{l:List (Option Nat)}{j k:Nat},l[j]?=bo lR->((l.set j (bo k)).filterMap id).Perm (k::l.filterMap id)
 |none::l,0,k,_=>by simp
 |none::l,j+1,k,h=>↑(a4c (by simp_all))
 |some a::l,j+1,k,h=>by
  let q:=a4c (k:=k) ↑h;show (q.cons a).trans (.swap ..)
noncomputable def lp(m:Nat):Nat->Nat×Nat->Nat×Nat
 |0,q=>q
 |n+1,q=>lp m n (ib.leap m q.1 q.2)
set_option tactic.hygienic true in
theorem a83:∀(fuel i p:Nat){j:Nat},ib.layClean.free m ow fuel i p=bo j->ow[j]?=bo lR
 |0,i,p,j,h=>by simp[ib.layClean.free]at h
 |fuel+1,i,p,j,h=>by
  unfold ib.layClean.free at h
  split at h
  .next k e=>
   cases h;let q:=fh e;cases c:ow[i+k]? with
   |none=>simp[c]at q
   |some v=>
    simp[c]at q;rw[q]
  .show a83 fuel _ _ h
theorem a84:∀(fuel i p n:Nat),ib.layClean.free m ow fuel i p=lR->n<fuel->ow[(lp m n (i,p,)).1]?≠bo lR
 |fuel+1,i,p,n,h,hn=>by
  unfold ib.layClean.free at h
  split at h
  .cases h
  .next e=>
   cases n with
   |succ n=>show a84 fuel _ _ n h (by lia)
   |zero=>
    let q:=dO.mp e 0 (cB.mpr (by unfold ib.runEnd;split<;>lia))
    ext z;let z:ow[i]?=bo lR:=z;simp[z]at q
theorem b11(m:Nat):∀(a b:Nat)(q:Nat×Nat),lp m (a+b) q=lp m b (lp m a q)
 |0,b,q=>by rw[cX];rfl
 |a+1,b,q=>by rw[gC];show b11 m a b _
theorem b12(m:Nat):∀(n i p:Nat),(lp m n (i,p,)).2=p / 32 ^ n
 |0,i,p=>by simp[lp]
 |n+1,i,p=>by
  change (lp m n (ib.leap m i p)).2=_
  unfold ib.leap;rw[b12,Nat.div_div_eq_div_mul,Nat.pow_succ,Nat.mul_comm 32]
theorem b6v(m:Nat):∀(n i p:Nat),i<=m->(lp m n (i,p,)).1<=m
 |0,i,p,h=>h
 |n+1,i,p,h=>b6v m n _ _ (gI (eA _ (Nat.succ_pos m)))
noncomputable def rnd(m:Nat):Bool:=(bt (m+1)).all λi=>(bt (m+1)).all λj=>(bt (m+1)).any λn=>(lp m n (i,0,)).1==j
def rnd7:rnd 7=lS:=by decide +kernel
def b6w(h:rnd m=lS)(hi:i<=m)(hj:j<=m):∃n,n<=m/\(lp m n (i,0,)).1=j:=by
 let q:=bL.mp (bL.mp h i (cB.mpr (by lia))) j (cB.mpr (by lia));let(n,a,e):=cx.mp q;show(n,by let:=cB.mp a;lia,↑e)
def b3B(h:Int):ib.bits h<2 ^ 64:=by unfold ib.bits;lia
def a85(hr:rnd m=lS)(hs:ow.size=m+1){j:Nat}(hj:ow[j]?=bo lR)(hi:i<=m)(hp:p<2 ^ 64):∃j,ib.layClean.free m ow (ib.turns m) i p=bo j/\ow[j]?=bo lR:=by
 cases e:ib.layClean.free m ow _ i p with
 |some j=>show(j,rfl,a83 _ _ _ e)
 |none=>
  exfalso;let a:j<=m:=by grind
  let z:(lp m 13 (i,p,)).2=0:=by rw[b12];show Nat.div_eq_of_lt (by lia)
  let(n,c,q):=b6w hr (b6v m 13 i p hi) a;let b:(lp m (13+n) (i,p,)).1=j:=by rw[b11,show lp m 13 (i,p,)=((lp m 13 (i,p,)).1,0,) from by rw[<- z]];show q
  show a84 _ i p (13+n) e (by unfold ib.turns;lia) (by grind)
structure Own (m k:Nat) (ow:Array (Option Nat)):Prop where
 sz:ow.size=m+1
 pm:(ow.toList.filterMap id).Perm (bt k)
theorem b13(hr:rnd m=lS):∀(hs:List Int)(ow:Array (Option Nat))(k:Nat),Own m k ow->k+hs.length<=m+1 ->
  ∃ow',hs.foldl (λacc h=>do
   let (owner,k,) <- acc
   let j <- ib.layClean.free m owner (ib.turns m) (ib.bits h % (m+1)) (ib.bits h)
   pure (owner.setIfInBounds j (bo k),k+1,)) (bo (ow,k,))=bo (ow',k+hs.length,)/\Own m (k+hs.length) ow'
 |[],ow,k,h,_=>(ow,rfl,h)
 |x::hs,ow,k,h,hl=>by
  let(g,a):=hole (by rw[h.pm.length_eq,dN,bu,h.sz];simp at hl;lia);let(j,e,d):=a85 hr h.sz ↑a (i:=ib.bits x % _) (gI (eA _ (Nat.succ_pos m))) (b3B x);let(b,f,c):=b13 hr hs (ow.setIfInBounds j (bo k)) _ (by rw[gA];show h.sz,by
   rw[f9];show (a4c (by simp_all)).trans ?_;rw[List.range_succ];show (h.pm.cons k).trans (eT (l₁:=[k]))) (by simp at hl;lia)
  show(b,?_,by rw[be,fi hs.length,<- dw];show c);rw[fX,be,fi hs.length,<- dw,<- f];simp[e]
def b0W(l:List (Option Nat)):((bt l.length).filterMap λj=>(l[j]?.getD lR).map (j,·,)).map (·.2)=l.filterMap id:=by
 rw[gJ]
 induction l with
 |nil=>rfl
 |cons x l ih=>
  rw[be,List.range_succ_eq_map,bY,eJ,bY];cases x<;>simp at ih ⊢<;>show ih
def laid_ok(hr:rnd m=lS)(hl:hs.size<=m) :
  ∃t od,ib.laid m f mv led pl hs=bo (t,od,)/\od.toList.Perm (bt hs.size)/\t.fits hs.size=lS/\TOk led t:=by
 let(c,e,o):=b13 hr hs.toList (Array.replicate (m+1) lR) 0 (by simp,by
  rw[Array.toList_replicate,List.range_zero];generalize m+1=n
  induction n with
  |zero=>show .nil
  |succ n ih=>rw[List.replicate_succ];show ih) (by grind)
 rw[cX,bu]at o;let l:ib.layClean m hs=bo c:=by
  unfold ib.layClean;rw[<- Array.foldl_toList,e]
  rfl
 let g:=b0W c.toList;rw[bu,o.sz]at g;let d:((bt (m+1)).filterMap λj=>(c.getD j lR).map (j,·,)).map (·.2)=c.toList.filterMap id:=by simp_all
 let p:((bt (m+1)).filterMap λj=>(c.getD j lR).map (j,·,)).length=hs.size:=by
  rw[<- aN,d,o.pm.length_eq,dN]
 show(_,_,by unfold ib.laid;rw[l];rfl,?_,?_,?_,rfl,rfl)
 .rw[List.toList_toArray,d];show o.pm
 .unfold ib.fits ib.fill;simp only[bE,aN,p];o_head hl
 .unfold Up;rw[gJ]
  let:(bt (m+1)).Pairwise _:=e8
  show List.pairwise_filterMap.mpr (this.imp λ{a b} h x k y i=>?_);simp at k i;let(_,_,rfl):=k;let(_,_,rfl):=i;show h
end SetW
namespace SetW
def b0X{n:Nat}(h:n<=20):ib.sizeAbove n<=32/\rnd (ib.sizeAbove n-1)=lS/\7<=ib.sizeAbove n-1:=by
 let q:(bt 21).all (λn=>decide (ib.sizeAbove n<=32)&&rnd (ib.sizeAbove n-1)&&decide (7<=ib.sizeAbove n-1))=lS:=by decide +kernel
 let:=bL.mp q n (cB.mpr (by lia))
 simp only[b7,decide_eq_true_eq]at this;show(this.1.1,this.1.2,this.2)
section
variable{a b:Addr}{es eo:Array (Int×Value)}{ep epo:Nat}{t to:ib}{K:Type}[DecidableEq K]{kd:KeyKind prog w K}{ms mo:List K}{k:K}{v:Value}
def b3C{od:Array Nat}(h:od.toList.Perm (bt es.size)):(od.filterMap (es[·]?)).toList.Perm es.toList:=by
 rw[Array.toList_filterMap];show (h.filterMap _).trans (.of_eq ?_);show filterMap_getElem?_range es
def a6n{od:Array Nat}(hp:od.toList.Perm (bt es.size))(h:Q (od.filterMap (es[·]?),t,) s) :
  wpAny (model prog w) A (do
   let bo (t,order,):=bo (t,od,) |jd "internal:set-table-without-room"
   let es':=order.filterMap (es[·]?)
   if es'.size != es.size then jd "internal:set-table-lost-an-element"
   pure (es',t,)) Q E s:=by
 let q:((od.filterMap (es[·]?)).size != es.size)=lT:=by
  rw[<- bu,(b3C hp).length_eq,bu];simp
 dsimp only;rw[q];show h9 h
def a4S{wanted:Nat}{Q:Unit->Shared->Prop}(S:SO kd s.heap a es ep t ms)(hw:wanted<=20)(hn:ms.length<=7)
  (h:∀h' es' ep' t' ms',Heap.SameBut a s.heap h'->SO kd h' a es' ep' t' ms'->ms'.Perm ms->rnd t'.mask=lS->7<=t'.mask->Q () { s with heap:=h' }) :
  wpAny (model prog w) A (lN a wanted) Q E s:=by
 let((o,ho,hx,hd),hel,hnum,hsc,hfit,hok):=id S;let(w1,w2,w3):=b0X hw;let hlen:=S.len;unfold lN;show hZ (iO ho hd hfit ?_);dsimp only;rw[if_neg (by rw[ir];lia)];let(t',od,e,p1,p2,p3):=laid_ok (f:=t.finger) (mv:=t.movedTo (ib.sizeAbove wanted-1)) (led:=t.led) (pl:=t.plain) (hs:=es.map (·.1)) w2 (by rw[dM];lia);rw[dM]at p1 p2;let e':t.relaid (es.map (·.1)) wanted=bo (t',od,):=e;let em:t'.mask=ib.sizeAbove wanted-1:=by
  unfold ib.laid at e;cases c:ib.layClean (ib.sizeAbove wanted-1) (es.map (·.1)) with
  |none=>rw[c]at e;cases e
  |some q=>rw[c]at e;cases e;rfl
 rw[e'];show hZ (a6n p1 ?_);let pm:=b3C p1;let sz:(od.filterMap (es[·]?)).size=es.size:=by rw[<- bu,pm.length_eq,bu]
 let(ms1,i1,q1):=a0N hnum (pm.map (·.2));dsimp only;show jR ho hd ?_ (jS (by lia));rw[hok.ld]at p3;let(_,S1):=SO.stored (kd:=kd) ho hx hd (hel.perm pm) i1 (by lia) (by rw[sz];show p2) p3;show h _ _ _ _ ms1 (Heap.SameBut.update ..) S1 q1 (by rw[em];show w2) (by rw[em];show w3)
def b0Y{more:Nat}{Q:Unit->Shared->Prop}(S:SO kd s.heap a es ep t ms)(hn:ms.length<=5)(hm:more<=5)
  (h:∀h' es' ep' t' ms',Heap.SameBut a s.heap h'->SO kd h' a es' ep' t' ms'->ms'.Perm ms->(rnd t'.mask=lS/\7<=t'.mask\/t'=t)->Q () { s with heap:=h' }) :
  wpAny (model prog w) A (setRoomFor a more) Q E s:=by
 let((o,ho,hx,hd),hel,hnum,hsc,hfit,hok):=id S;let hlen:=S.len;unfold setRoomFor;show hZ (iO ho hd hfit ?_);dsimp only;unfold ib.roomFor
 split
 .next wanted e=>
  split at e
  .cases e
   let:t.place.size=es.size:=by simp only[ib.fits,b7,beq_iff_eq]at hfit;show hfit.1
   show a4S S (by lia) (by lia) λh' es' ep' t' ms' sb S' pm r1 r2=>h h' es' ep' t' ms' sb S' pm (.inl (r1,r2))
  .cases e
 .show h9 (h s.heap es ep t ms (Heap.SameBut.refl ..) S (.refl _) (.inr rfl))
def b0Z(S:SO kd s.heap b eo epo to mo)(h:∀l d',l.toList.Perm eo.toList->Q l { s with drawn:=d' }):wpAny (model prog w) A (setWalk b) Q E s:=by
 let((o,g,m,i),j,e,k,a,d):=id S;show hZ (iO g i a ?_);show iV (λ_=>?_) λc=>?_
 .show hZ (jT (h9 ?_));show h _ s.drawn (a21 _ _)
 .let c:byT w=lT:=↑(show ¬ byT w=lS from c)
  show iV (λ_=>?_) λ_=>?_
  .show hZ (a34 _ _ _ _ (by simp) λn f p=>h9 (h _ f ?_));o_head p
  .let q:(!to.led&&decide (eo.size > 1))=lT:=by rw[d.ld,c];rfl
   show hZ (?_:wpAny _ _ (if (!to.led&&decide (eo.size > 1))=lS then jd "set:maker-not-led" else pure ()) _ _ _);rw[q];show h9 (h9 (h _ s.drawn (.refl _)))
def a6o(hel:kh kd es.toList){Q:Option Bool×Unit->Shared->Prop}(hf:∀e r,e.2.scannable=lS->f e r=pure (.yield (lR,(),)))(h:Q (lR,(),) s):wpAny (model prog w) A (forIn es (lR,(),) f) Q E s:=by
 rw[<- eD];generalize es.toList=l at hel
 induction l with
 |nil=>show h9 h
 |cons e l ih=>
  rw[dh,hf e _ hel.head.2,pure_bind];show ih hel.tail
def a7c(So:SO kd s.heap b eo epo to mo)(S:SO kd s.heap a es ep t ms)(h:Q lS s):wpAny (model prog w) A (setsQuiet [b,a]) Q E s:=by
 let((o,u,D,m),j,l,B,d,z):=So;let((C,g,v,i),f,k,n,c,p):=S;unfold setsQuiet;rw[dh];show hZ (hZ (hZ (js u m d (hZ (a6o j (λe r q=>?_) (h9 ?_))))))
 .let(x,y):=e;cases y<;>first |rfl |cases q
 dsimp only;rw[dh];show hZ (hZ (js g i c (hZ (a6o f (λe r q=>?_) (h9 ?_)))))
 .let(x,y):=e;cases y<;>first |rfl |cases q
 show h9 (h9 h)
def a5x(So:SO kd s.heap b eo epo to mo)(S:SO kd s.heap a es ep t ms)
  (h:∀l h' ep' t' d',l.toList.Perm eo.toList->Heap.SameBut a s.heap h'->SO kd h' a es ep' t' ms->Q l { s with heap:=h',drawn:=d' }):wpAny (model prog w) A (setWalkUnseen b [a] (bo a)) Q E s:=by
 let((o,u,B,v),z,r,y,k,m):=id So;let q:wpAny _ A _ Q E s:=b0Z So λl x p=>h l s.heap ep t x p (Heap.SameBut.refl ..) S;show hZ (iO u v k ?_);show iV (λ_=>q) λ_=>?_;show hZ (a7c So S ?_);show iV (λ_=>q) λ_=>?_;show hZ (iW ?_);let((C,e,n,g),j,i,f,d,c):=id S;show hZ (iO e g d ?_);show iV (λ_=>?_) λ_=>h9 (h eo s.heap ep t s.drawn (.refl _) (Heap.SameBut.refl ..) S);show hZ (jR e g ?_ (jS f));let(_,S1):=SO.stored (t':={ t with led:=t.led&&to.led,plain:=t.plain&&to.plain }) e n g j i f (by cases t;show d) (c.up,c.dm,by change _=_;rw[c.ld,m.ld,eR]);show h9 (h eo _ _ _ s.drawn (.refl _) (Heap.SameBut.update ..) S1)
theorem a6p(hab:b≠a)(he:∀{s':Shared}{Q:Unit->Shared->Prop},SO kd s'.heap b eo epo to mo->Q () s'->wpAny (model prog w) A each Q E s')
 (hf:∀h x r,f (h,x,) r=(do
      let _ <- iM [x] (ki a x h)
      each
      let q <- setState b
      if (q.2.1 != epo)=lS then do
        jd "set.changed-during-merge"
        pure (ForInStep.yield PUnit.unit)
      else pure (ForInStep.yield PUnit.unit))) :
    ∀(l:List (Int×Value))(ks:List K)(s:Shared)(ms:List K)(Q:PUnit->Shared->Prop),kh kd l->KsAre kd (l.map (·.2)) ks->SI kd s.heap a ms->ms.Nodup->ms.length+l.length+1<iR->SO kd s.heap b eo epo to mo ->
      (∀h' ms',Heap.SameBut a s.heap h'->SI kd h' a ms'->ms'.Nodup->(∀x,x∈ms'↔x∈ms\/x∈ks)->ms'.length<=ms.length+l.length->Q ⟨⟩ { s with heap:=h' }) ->
      wpAny (model prog w) A (forIn l PUnit.unit f) Q E s
  |[],_,s,ms,Q,_,.nil,S,nd,_,_,h=>h9 (h s.heap ms (Heap.SameBut.refl ..) S nd (λx=>by simp) (aQ _))
  | (z,v,)::l,_,s,ms,Q,hel,.cons (k:=k) (ks:=ks) hk ht,S,nd,hb,So,h=>by
    let((W,n,i),m):=hel.head
    let:=kd.inj _ _ _ hk n
    subst this;subst i;rw[dh,hf];let(Y,ep,t,S'):=S;show hZ (hZ (iB (a5s hk m S' (by simp at hb;lia) λR g V u C p=>?_)));let d:=So.at λo e=>u.extBut b o hab e;let(o,T,B,D):=d.at_;show hZ (he d (hZ (iO T D d.fit ?_)));rw[if_neg (by simp)];show h9 ?_;let G:g.Nodup:=by
      show p.nodup_iff.mpr ?_
      split
      . show nd
      . next c=>show b9.mpr (nd,by simp,λx B y H=>by rw[aS.mp H];ext rfl;show c B)
    let U:g.length<=ms.length+1:=by rw[p.length_eq];split<;>simp
    let J:∀x,x∈g↔x∈ms\/x=k:=λx=>by
      rw[p.mem_iff]
      split
      . simp_all
      . simp
    show a6p hab he hf l ks _ g Q hel.tail ht C G (by simp at hb;lia) d λN M j I L F X=>h N M (u.trans j) I L (λx=>by rw[F,J,aO,or_assoc]) (by simp;lia)
def a4T(hab:a≠b){each:Sem Unit}(he:∀{s':Shared}{Q:Unit->Shared->Prop},SO kd s'.heap b eo epo to mo->Q () s'->wpAny (model prog w) A each Q E s'){Q:Unit->Shared->Prop}
  (S:SO kd s.heap a es ep t ms) (So:SO kd s.heap b eo epo to mo) (hn:ms.length<=5) (hm:mo.length<=5) (nd:ms.Nodup) (ndo:mo.Nodup) (hz:ms=[]->t.mask=7)
  (h:∀h' es' ep' t' ms' d',Heap.SameBut a s.heap h'->SO kd h' a es' ep' t' ms'->(ms'=[]->t'.mask=7)->ms'.Nodup->(∀x,x∈ms'↔x∈ms\/x∈mo)->ms'.length<=ms.length+mo.length->Q () { s with heap:=h',drawn:=d' }) :
  wpAny (model prog w) A (lO a b each) Q E s:=by
 let((o,ho,hx,hd),hel,hnum,hsc,hfit,hok):=id So;let lo:=So.len;unfold lO;rw[if_neg ↑hab];show hZ (iO ho hd hfit ?_);dsimp only;show iV (λc=>?_) λc=>?_
 .let:mo=[]:=by
   rw[gK,lo]at c;show cC.mp c
  subst this;show h9 (h s.heap es ep t ms s.drawn (Heap.SameBut.refl ..) S hz nd (λx=>by simp) (gG ..))
 let mne:mo≠[]:=λz=>c (by rw[gK,lo,z];rfl);show hZ (b0Y S hn (by lia) λh1 es1 ep1 t1 m1 sb S1 p r=>?_);let So1:SO kd h1 b eo epo to mo:=So.at λo e=>sb.extBut b o (Ne.symm hab) e;let((o1,ho1,hx1,hd1),hel1,hnum1,hsc1,hfit1,hok1):=id S1;show hZ (iO ho1 hd1 hfit1 ?_);dsimp only;let fl:t1.fill=m1.length:=by
  simp only[ib.fits,b7,beq_iff_eq]at hfit1;rw[ib.fill,hok1.dm,hfit1.1,S1.len (s:={ s with heap:=h1 })];rfl
 let fin:∀(es':Array (Int×Value))(t':ib),m1=[]->es'.toList.Perm eo.toList->t'.fits eo.size=lS->TOk (!byT w) t'->wpAny (model prog w) A (kj a es' t') Q E { s with heap:=h1 }:=λes' t' z p1 f1 k1=>by
  let sz:es'.size=eo.size:=by rw[<- bu,p1.length_eq,bu]
  let(m2,i2,p2):=a0N hnum (p1.map (·.2));show jR ho1 hd1 ?_ (jS (by lia));let(_,S2):=SO.stored (kd:=kd) ho1 hx1 hd1 (hel.perm p1) i2 (by lia) (by rw[sz];show f1) k1;let mz:ms=[]:=by rw[z]at p;show p.symm.eq_nil
  show h _ _ _ _ m2 s.drawn (sb.trans (Heap.SameBut.update ..)) S2 (λq=>absurd (by rw[q]at p2;show p2.symm.eq_nil) mne) (p2.nodup_iff.mpr ndo) (λx=>by rw[p2.mem_iff,mz];simp) (by rw[p2.length_eq];lia)
 unfold ib.road
 by_cases z:m1=[]
 .rw[if_neg (by rw[fl,z];simp)];let ld:(t1.led&&to.led)=!byT w:=by rw[hok1.ld,hok.ld,eR]
  let mr:rnd t1.mask=lS/\7<=t1.mask:=r.elim id λe=>by
   rw[e,hz (by rw[z]at p;show p.symm.eq_nil)];show(rnd7,aQ _)
  by_cases c2:(t1.mask==to.mask&&to.dummies.isEmpty)=lS
  .rw[if_pos c2];show fin eo _ z (.refl _) (by cases to;show hfit) (hok.up,hok.dm,ld)
  .rw[if_neg c2];let(t',od,e,p1,p2,p3):=laid_ok (f:=t1.finger) (mv:=t1.moves) (led:=t1.led&&to.led) (pl:=t1.plain&&to.plain) (hs:=eo.map (·.1)) mr.1 (by rw[dM];lia);rw[dM]at p1 p2;dsimp only;rw[e];show hZ (a6n p1 ?_);show fin _ t' z (b3C p1) p2 (ld▸p3)
 .rw[if_pos (by rw[fl];o_head z)];dsimp only;let nd1:m1.Nodup:=p.nodup_iff.mpr nd;let pl:=p.length_eq;let sb4:4096=scanBound:=rfl;show hZ (a5x So1 S1 λl h2 ep2 t2 d2 p2 sb2 S2=>?_);let So2:SO kd h2 b eo epo to mo:=So1.at λo e=>sb2.extBut b o (Ne.symm hab) e;let(ks,i3,p3):=a0N hnum (p2.map (·.2));let ll:l.toList.length=mo.length:=by rw[p2.length_eq,bu,lo]
  rw[<- eD];show hZ (a6p (Ne.symm hab) he (λ_ _ _=>rfl) l.toList ks _ m1 _ (hel.perm p2) i3 (_,_,_,S2) nd1 (by lia) So2 λh3 m3 sb3 S3 n3 e3 l3=>?_);let(es3,ep3,t3,S3):=S3;let mm:∀x,x∈m3↔x∈ms\/x∈mo:=λx=>by rw[e3,p.mem_iff,p3.mem_iff]
  show h9 (h h3 es3 ep3 t3 m3 d2 (sb.trans (sb2.trans sb3)) S3 (λq=>?_) n3 mm (by lia));let(x,hx):=List.exists_mem_of_ne_nil mo mne
  let:=(mm x).mpr (.inr hx)
  rw[q]at this;cases this
def SO.fresh(g:h.get? a=bo (a0n w)):SO kd h a #[] 0 (.fresh 0 0 (!byT w)) []:=((_,g,(rfl,rfl,rfl),rfl),λe b=>by simp at b,.nil,by decide,rfl,(.nil,rfl,rfl))
def b00{Q:Value->Shared->Prop}(So:SO kd s.heap b eo epo to mo)(hm:mo.length<=5)(ndo:mo.Nodup)
  (h:∀h' es' ep' t' ms' d',(∀c o,s.heap.get? c=bo o->h'.get? c=bo o)->SO kd h' s.heap.objs.size es' ep' t' ms'->(ms'=[]->t'.mask=7)->ms'.Nodup->(∀x,x∈ms'↔x∈mo)->ms'.length<=mo.length->Q (.ref s.heap.objs.size) { s with heap:=h',drawn:=d' }) :
  wpAny (model prog w) A (im.Frozenset.copyOf b) Q E s:=by
 unfold im.Frozenset.copyOf im.Frozenset.baseOf newSet;show hZ (hZ (jr (T:="set") (b:=lS) So.ty (by rw[jU];kernel_rfl) (h9 ?_)));dsimp only;rw[if_pos rfl];unfold setsByText;show hZ (hZ (hZ (jT (h9 ?_))));dsimp only;simp only[newObj];show hZ (wpAny_alloc (h9 ?_));let(o,ho,_):=So.at_;let lb:b<s.heap.objs.size:=Heap.lt_size ho;let g1:(s.heap.push (a0n w)).get? s.heap.objs.size=bo (a0n w):=Heap.get?_push_size _ rfl;let So1:SO kd (s.heap.push (a0n w)) b eo epo to mo:=So.at λo e=>Heap.get?_push_of_some _ e
 change wpAny _ _ (lO s.heap.objs.size b (pure ()) >>= _) _ _ _
 show hZ (a4T (s:={ s with heap:=s.heap.push (a0n w) }) (bZ lb) (λ_ q=>h9 q) (SO.fresh (kd:=kd) g1) So1 (by simp) hm .nil ndo (λ_=>rfl) λh' es' ep' t' ms' d' sb S1 z n1 e1 l1=>h9 ?_);show h h' es' ep' t' ms' d' (λc o e=>sb.extBut c o (aY (Heap.lt_size e)) (Heap.get?_push_of_some _ e)) S1 z n1 (λx=>by rw[e1];simp) ↑l1
def a5y(So:SO kd s.heap b eo epo to mo)(h:Q lS s):wpAny (model prog w) A (im.Frozenset.isAnySet (.ref b)) Q E s:=by
 show hZ (jr (b:=lS) So.ty (by rw[jU];kernel_rfl) ?_);show h9 h
def b01:jV table "set.__or__"=bo im.«frozenset.__or__»:=lu (id':="frozenset.__or__") (by kernel_rfl) rfl (by decide +kernel) (by kernel_rfl)
def or_set{Q:Value->Shared->Prop}(hab:a≠b)(S:SO kd s.heap a es ep t ms)(So:SO kd s.heap b eo epo to mo)(hn:ms.length<=5)(hm:mo.length<=5)(nd:ms.Nodup)(ndo:mo.Nodup)
  (h:∀h' ms' d',(∀c o,s.heap.get? c=bo o->h'.get? c=bo o)->SI kd h' s.heap.objs.size ms'->ms'.Nodup->(∀x,x∈ms'↔x∈ms\/x∈mo)->ms'.length<=ms.length+mo.length->Q (.ref s.heap.objs.size) { s with heap:=h',drawn:=d' }) :
  wpAny (model prog w) A (iA .BitOr (.ref a) (.ref b)) Q E s:=by
 show wpAny_binaryOp_same (op:=.BitOr) S.ty So.ty PySem.F.fills_set_or PySem.F.slot_set_or (iI PySem.F.slot_set_or S.ty b01 ?_ (PySem.F.args_set_or_2 _ _))
 change wpAny _ _ (im.Frozenset.slot1 "__or__" _ >>= _) _ _ _
 show hZ (m:=im.Frozenset.slot1 "__or__" _) (h9 ?_);dsimp only;show hZ (hZ (a5y S ?_));show a5y So ?_;rw[if_neg (by decide)]
 change wpAny _ _ (im.Frozenset.copyOf a >>= _ >>= _) _ _ _
 let(oa,ha,_):=S.at_;let(ob,hob,hbx,hbd):=So.at_;let la:a<s.heap.objs.size:=Heap.lt_size ha;let lb:b<s.heap.objs.size:=Heap.lt_size hob;show hZ (hZ (b00 S hn nd λh1 es1 ep1 t1 m1 d1 k1 S1 z1 n1 e1 l1=>?_));let So1:SO kd h1 b eo epo to mo:=So.at λo e=>k1 b o e;rw[if_pos ↑(Ne.symm hab)]
 change wpAny _ _ (iM [Value.ref s.heap.objs.size] (im.Frozenset.updateFrom _ s.heap.objs.size (.ref b)) >>= _) _ _ _
 show hZ (iB ?_);unfold im.Frozenset.updateFrom;show hZ (a5y So1 ?_);rw[if_pos rfl]
 change wpAny _ _ (im.Frozenset.merge _ s.heap.objs.size b) _ _ _
 unfold im.Frozenset.merge;show hZ (kw (k1 b _ hob) hbd So.fit ?_);show a4T (bZ lb) (λ{s' Q'} S' q=>?_) S1 So1 (by lia) hm n1 ndo z1 λh2 es2 ep2 t2 m2 d2 sb S2 z2 n2 e2 l2=>h9 (h9 (_,rfl,nofun,?_))
 .unfold im.Frozenset.unchanged;let(o',ho',hx',hd'):=S'.at_;show hZ (kw ho' hd' S'.fit ?_);rw[if_neg (by simp)];show h9 q
 .show h h2 m2 d2 (λc o e=>sb.extBut c o (aY (Heap.lt_size e)) (k1 c o e)) (_,_,_,S2) n2 (λx=>by rw[e2,e1]) (by lia)
end
section
variable{a d:Addr}{K:Type}[DecidableEq K]{kd:KeyKind prog w K}{es0:Array j5}{epd:Nat}{od:Obj}{ks:List K}{k0:K}
theorem a86(hda:d≠a)(dd:od.data=.dict es0 epd)(hl:es0.size=ks.length)(hb:ks.length+1<iR)
    (he:∀(i:Nat) e,es0[i]?=bo e->∃k,ks[i]?=bo k/\kd.is k e.key=lS/\e.hash=kd.hash k/\e.key.scannable=lS)
 (hf:∀i r,f i r=(do
      let es <- dictEntries d
      match es[i]? with
      |some e=>do
        let _ <- iM [e.key] (ki a e.key e.hash)
        let q <- dictEpoch d
        if (q != epd)=lS then do
          jd m
          pure (ForInStep.yield PUnit.unit)
        else pure (ForInStep.yield PUnit.unit)
      |none=>do
        jd m2
        pure (ForInStep.yield PUnit.unit))) :
    ∀(n i:Nat)(s:Shared)(ms:List K)(Q:PUnit->Shared->Prop),i+n=ks.length->s.heap.get? d=bo od->SI kd s.heap a ms->Met (λi=>ks.getD i k0) i ms ->
      (∀h' ms',Heap.SameBut a s.heap h'->SI kd h' a ms'->Met (λi=>ks.getD i k0) ks.length ms'->Q ⟨⟩ { s with heap:=h' })->wpAny (model prog w) A (forIn (List.range' i n) PUnit.unit f) Q E s
  |0,i,s,ms,Q,hi,_,S,M,h=>by
    let:=hi
    subst this;show h9 (h s.heap ms (Heap.SameBut.refl ..) S M)
  |n+1,i,s,ms,Q,hi,g,S,M,h=>by
    let b:i<es0.size:=by lia
    let(k,x,G,o,D):=he i _ (bQ b);rw[gH,dh,hf];show hZ (hZ (jC g dd ?_));rw[bQ b];let(J,L,t,S'):=S;show hZ (iB ?_);rw[o];show a5s G D S' (by let:=M.2.1;lia) λH F I l v p=>?_;let j:=l.extBut d od hda g;show hZ (lK j dd ?_);rw[if_neg (by simp)];let y:ks.getD i k0=k:=by rw[dc,x];rfl
    show h9 (a86 hda dd hl hb he hf n _ _ F Q (by lia) j v (M.step (by rw[y];show p)) λC B c z u=>h C B (l.trans c) z u)
set_option maxHeartbeats 3200000 in
def a5z{T:Shared->Prop}
  (hi:wpAny (model prog w) A.in1.in1 (im.«set.__init__» ([.ref s.heap.objs.size,u],[])) (λfin s2=>fin=.done (.ret .none)/\T s2) E { s with heap:=s.heap.push (a0n w) }) (h:∀s2,T s2->Q (.ref s.heap.objs.size) s2) :
  wpAny (model prog w) A (call (.type "set") [u]) Q E s:=by
 let(mc,mt,mro):=PySem.F.called_set.mro;let md:=PySem.F.called_set.made;let sb:=PySem.F.called_set.sub;show jj (lq ?_)
 change wpAny _ _ (callAny (.type "set") _) _ _ _
 show h9 (Code.quiet_builtin _ (by decide +kernel),je PySem.F.entry_type_call ?_);rw[Around.under_plain (weight_type_call_type "set" [u] []) rfl];let nt:=PySem.F.called_set.notType;let cc:=PySem.F.called_set.canCreate;let tc:=PySem.F.typeCall_set_1 u
 repeat (any_goals (first |assumption |wp_step))
 show i7 (a8s (w:=w) u (E:=E) (Q:=λobj s1=>obj=.ref s.heap.objs.size/\s1={ s with heap:=s.heap.push (a0n w) }) (rfl,rfl)) λr s1 hr=>?_;cases r with
 |error e=>show hr
 |ok fl=>
  cases fl with
  |ret obj=>
   let(rfl,rfl):=hr;let gS:(s.heap.push (a0n w)).get? s.heap.objs.size=bo (a0n w):=Heap.get?_push_size _ rfl;let tS:Shared.TypeIs { s with heap:=s.heap.push (a0n w) } (.ref s.heap.objs.size) "set":=(_,gS,rfl);let li:=PySem.F.called_set.init.lookup;let bi:=PySem.F.called_set.init.bind (.ref s.heap.objs.size)
   repeat (any_goals (first |assumption |wp_step))
   show i7 (kU (R:=wants (λr s2=>r=.none/\T s2) E) PySem.F.called_set.init.plain PySem.F.entry_set_init (check_set_init_1 tS (iw hi (λfin s2 q=>?_) λ_ _ q=>q))) λr2 s2 hr2=>?_
   .let(rfl,q):=q;show(rfl,q)
   .cases r2 with
    |error e=>show hr2
    |ok f2=>
     cases f2 with
     |ret r=>
      let(rfl,q):=hr2
      repeat (any_goals (first |assumption |wp_step))
      show h _ q
     |_=>show hr2.elim
  |_=>show hr.elim
def b6x{n:Nat}{m:Sem Unit}{Q:Unit->Shared->Prop}(m1:(ib.fresh 0 0 (!byT w)).roomFor n=lR->m=pure ())(m2:∀x,(ib.fresh 0 0 (!byT w)).roomFor n=bo x->m=lN a x)(g:s.heap.get? a=bo (a0n w))(hn:n<=10)(h:∀h1,Heap.SameBut a s.heap h1->SI kd h1 a []->Q () { s with heap:=h1 }) :
  wpAny (model prog w) A m Q E s:=by
 cases e:(ib.fresh 0 0 (!byT w)).roomFor n with
 |none=>
  rw[m1 e];show h9 (h s.heap (Heap.SameBut.refl ..) (SI.fresh g))
 |some x=>
  rw[m2 x e];unfold ib.roomFor at e
  split at e
  .cases e;show a4S (SO.fresh (kd:=kd) g) (by simp[ib.fresh];lia) (bv _) λh' es' ep' t' ms' sb S' pm _ _=>by
    cases pm.eq_nil;show h h' sb (_,_,_,S')
  .cases e
def call_setD{Q:Value->Shared->Prop}(g:s.heap.get? d=bo od)(hx:od.ExactDict)(dd:od.data=.dict es0 epd)(hsm:d≠iC)(hl:es0.size=ks.length)(hb:ks.length<=5)
  (he:∀(i:Nat) e,es0[i]?=bo e->∃k,ks[i]?=bo k/\kd.is k e.key=lS/\e.hash=kd.hash k/\e.key.scannable=lS)
  (h:∀(h':Heap)(ms:List K),SI kd h' s.heap.objs.size ms->Met (λi=>ks.getD i k0) ks.length ms->(∀b o,s.heap.get? b=bo o->h'.get? b=bo o)->Q (.ref s.heap.objs.size) { s with heap:=h' }) :
  wpAny (model prog w) A (call (.type "set") [.ref d]) Q E s:=by
 let gS:(s.heap.push (a0n w)).get? s.heap.objs.size=bo (a0n w):=Heap.get?_push_size _ rfl;let g':(s.heap.push (a0n w)).get? d=bo od:=Heap.get?_push_of_some _ g;let ld:=Heap.lt_size g;show a5z (T:=λs2=>∃h' ms,s2={ s with heap:=h' }/\SI kd h' s.heap.objs.size ms/\Met (λi=>ks.getD i k0) ks.length ms/\∀b o,s.heap.get? b=bo o->h'.get? b=bo o) ?_ λs2 q=>by
  let(h',ms,rfl,S,M,k):=q;show h h' ms S M k
 let(oc,ox,ob,osl):=od;let(x1,x2,x3):=hx;simp only at dd x1 x2 x3;subst dd x1;let s1:=PySem.F.sub_dict_set;let s2:=PySem.F.sub_dict_frozenset;let ne:(Value.type "dict"==Value.type "dict")=lS:=by decide
 let nm:(d==iC)=lT:=↑hsm
 unfold im.«set.__init__» noKeywords im.Frozenset.updateFrom
 wp_walk
 dsimp only;show b6x (kd:=kd) (s:={ s with heap:=s.heap.push (a0n w) }) (n:=es0.size) (λe=>by rw[e]) (λx e=>by rw[e]) gS (by lia) λh1 sb1 S1=>?_;let g1:h1.get? d=bo _:=sb1.extBut d _ (aY ld) g';show hZ (jC g1 rfl ?_);let sb4:4096=scanBound:=rfl;rw[Std.Legacy.Range.forIn_eq_forIn_range'];show hZ ?_;show a86 (kd:=kd) (ks:=ks) (k0:=k0) (a:=s.heap.objs.size) (d:=d) (epd:=epd) (m:=toString "set.__init__"++toString ":changed-during-callback") (m2:="internal:set-from-dict") (aY ld) rfl hl (by lia) he ?_ _ 0 _ [] _ ?_ g1 S1 (.nil,aQ _,λx=>by simp) λh' ms sb S M=>?_
 .ext i r;show congrArg _ (funext λes=>?_);cases es[i]?<;>rfl
 .simp[Std.Legacy.Range.size,hl]
 .show h9 (h9 (rfl,h',ms,rfl,S,M,λb o e=>?_));show (sb1.trans sb).extBut b o (aY (Heap.lt_size e)) (Heap.get?_push_of_some _ e)
end
end SetW
theorem b6y:∀{es:List j5}{vs:List (Key×Value)}{ns:List Str},Pairs (a0k P w) es vs->(∀e∈es,∃k,(a0k P w).is k e.key=lS/\e.hash=(a0k P w).hash k)->vs.map (·.1)=ns.map .inr ->
  ∀(i:Nat) e,es[i]?=bo e->∃k,ns[i]?=bo k/\(PySem.strKind P w).is k e.key=lS/\e.hash=(PySem.strKind P w).hash k/\e.key.scannable=lS
 |_,_,ns,.nil,_,_,i,e,h=>by simp at h
 |_,_,[],.cons ..,_,a,i,e,h=>by cases a
 |e0::es,kv::vs,n::ns,.cons h1 h2 h3,hk,a,i,e,h=>by
  cases i with
  |succ i=>show b6y h3 (λe c=>hk e (.tail _ c)) ↑((bJ.inj a).2) i e ↑h
  |zero=>
   cases h;let a:kv.1=.inr n:=(bJ.inj a).1;rw[a]at h1;let(k,b,d):=hk e0 (.head _)
   let:=(a0k P w).inj _ _ _ b h1
   subst this;let(_,_,z,_)||(x,t,z,q)||(z,_):=a0p (k:=.inr n) h1
   .cases z
   .cases z;show(n,rfl,by rw[q];show strKind_is ..,d,by rw[q];rfl)
   .cases z
def b3D(X:Cx):List V->Hp->VK->Prop:=λxs H Q=>∃(p:Addr)(kvs:List (Key×V))(ns:List Str),xs=[.ref p]/\(H p=bo (.dK kvs)\/∃o,H p=bo (.frz o (.dK kvs)))/\kvs.map (·.1)=ns.map .inr/\ns.length<=5 /\
 ∀(t:Addr)(ms:List Str)(o:Obj),H t=lR->ms.Nodup->(∀x,x∈ms↔x∈ns)->ms.length<=ns.length->Q (.ref t) (upd H t (.frz o (setS X t ms)))
def a3a:CallR X (.type "set") (b3D X):=by
 ext f s σ H xs us Q I r h;let(p,a,j,rfl,J,L,B,q):=h;let(u,rfl,N):=a1F r;cases N;obtain⟨_,m,b,G,od,D,ep,g,T,R,ks,t,_⟩:a.length<=ie/\_=lT/\∃b,KV a b/\s.heap.DictOf (a0k X.prog X.w) p b:=by
  let e||(o,e):=J
  .show I.hok p _ e
  .show (I.hok p _ e).2
 let z:∀{a:List (Key×V)}{b:List _},KV a b->b.map _=a.map (·.1):=λ{a}=>by
  induction a with
  |nil=>ext b h;cases h;rfl
  |cons p a ih=>ext b h;cases h with |cons h1 h2=>rw[aZ,aZ,ih h2,h1.1]
 let n:=(z G).trans L;let C:D.size=j.length:=by
  let v:=t.length;let A:=congrArg bn n;simp at v A
  lia
 show SetW.call_setD (k0:=Str.ofString "") g T R (by grind) C B (λi e h=>b6y t (λe E=>ks e (by simp_all)) n i e (by simp_all)) λc d S M k=>?_;obtain⟨o,e⟩:∃o,c.get? s.heap.objs.size=bo o:=let (_,_,_,S'):=S;let (o,e,_):=S'.at_;(o,e)
 let F:=
  I.laid (t':=s.toks) k (aQ _) (show ObjOk X.prog X.w _ c _ (.frz o (setS X s.heap.objs.size d)) from (e,S,(o,e),λ_ _ x y=>x.at y))
 show(.ref s.heap.objs.size,_,F,rfl,q _ d o (I.hok.fresh (aQ _)) M.1 (metK M) M.2.1)
def rOrS(X:Cx):R2:=λx y H Q=>∃(p q:Addr)(o o':Obj)(ms mo:List Str),x=.ref p/\y=.ref q/\p≠q/\H p=bo (.frz o (setS X p ms))/\H q=bo (.frz o' (setS X q mo))/\ms.length<=5/\mo.length<=5/\ms.Nodup/\mo.Nodup /\
 ∀(t:Addr)(ks:List Str),H t=lR->ks.Nodup->(∀x,x∈ks↔x∈ms\/x∈mo)->ks.length<=ms.length+mo.length->Q (.ref t) (upd H t (setS X t ks))
def b6z:OpR X (iA .BitOr) (rOrS X):=by
 ext b s σ H x y v u Q I D G h;let(p,r,o,N,f,E,rfl,rfl,j,F,z,m,i,C,B,q):=h;cases D;cases G;let(L,T,t,S):=(I.hok p _ F).2.1;let(M,J,R,So):=(I.hok r _ z).2.1;show SetW.or_set j S So m i C B λg a d k c n e l=>?_;let A:=
  (I.drew d).laid (t':=s.toks) k (aQ _) (show ObjOk X.prog X.w _ g _ (setS X s.heap.objs.size a) from (c,let (_,_,_,S'):=c;let (o,e,_):=S'.at_;(o,e),λ_ _ x y=>x.at y))
 show(.ref s.heap.objs.size,_,A,rfl,q _ a (I.hok.fresh (aQ _)) n e l)
section
variable{a b:Expr}{ta tb:A3}{x y:Str}{p p2 p3 pos2 pos3 pos4:Pos}
def KeysS(G:Hq)(ws:List Z)(ns:List Str):Prop:=∃(p:Addr)(kvs:List (Key×Z)),ws=[.ref p]/\(G p=bo (.dK kvs)\/G p=bo (.dF kvs))/\kvs.map (·.1)=ns.map .inr/\ns.length<=5
def uSSU(ta tb:A3):E3:=fun σ G R=>ta σ G λws G1=>∃ns,KeysS G1 ws ns/\tb σ G1 λws' G2=>∃ns',KeysS G2 ws' ns' /\
 ∀(t:Addr)(ks:List Str),G2 t=lR->jf ks=lS->ks.Nodup->(∀x,x∈ks↔x∈ns\/x∈ns')->ks.length<=10->R (.ref t) (put G2 t (.lst (ks.map Z.str)))
def KeysS.low{K:Fg}(h:KeysS G ws ns)(rs:Reps K H ws vs)(hg:RH K G H) :
  ∃(p:Addr)(kvs:List (Key×V)),vs=[.ref p]/\(H p=bo (.dK kvs)\/∃o,H p=bo (.frz o (.dK kvs)))/\kvs.map (·.1)=ns.map .inr:=by
 let(p,f,rfl,e,d,_):=h;let(v,rfl,r):=rs.one;let e||e:=e
 .let(a,c,b,_):=hg _ _ e;show(p,a,by rw[r],.inl c,by rw[b,d])
 .let(o,a,c,b,_):=hg _ _ e;show(p,a,by rw[r],.inr (o,c),by rw[b,d])
def b8k(hc:X.calm=lS)(hg:Gl X x)(hm:X.mg x=lR)(hv:iH x=bo (.builtin "sorted"))(hg2:Gl X y)(hm2:X.mg y=lR)(hv2:iH y=bo (.type "set"))(ha:QA X [a] ta)(hb:QA X [b] tb)
  (he:ii [a] X.env=(lT,eval a X.env,)::ii [] X.env) (hpl:(backTo pos2 (ii [] X.env)).any (·.1)=lT)
  (he2:ii [b] X.env=(lT,eval b X.env,)::ii [] X.env) (hpl2:(backTo pos3 (ii [] X.env)).any (·.1)=lT)
  (hn:x≠"__name__":=by decide) (hdb:(x==("__debug__":Str))=lT:=by decide) (hn2:y≠"__name__":=by decide) (hdb2:(y==("__debug__":Str))=lT:=by decide) :
  QE X (.Call (.Name x p) [.BinOp (.Call (.Name y p2) [a] [] pos2) .BitOr (.Call (.Name y p3) [b] [] pos3) pos4] [] pos) (uSSU ta tb):=⟨a0X (a3M (a38 hc) hg hm hv (a3L (b4u b6z (a1W a3a hg2 hm2 hv2 ha.p hn2 hdb2 he hpl) (a1W a3a hg2 hm2 hv2 hb.p hn2 hdb2 he2 hpl2)) a5S rfl) hn hdb rfl rfl) fun τ H Q hx=>hx.un fun σ G R hs hg h up=>
 (σ,G,_,hs,hg,h,λws G1 vs T n rs i S=>by
  let(ns,J,n):=n;let(p,w,rfl,e,hn):=J.low rs i;let(_,_,_,_,_,z1):=J;show(p,w,ns,rfl,e,hn,z1,λt C o A nd me ml=>?_);let t2:TK X.K T (L2.upd T t (.frz o (setS X t C))):=.new A;show(σ,G1,_,hs.mono (S.trans t2),i.hid A,n,λws' G2 vs' H2 m I hg2 L=>?_);let(ns',B,m):=m;let(p',k,rfl,e',N):=B.low I hg2;let(_,_,_,_,_,z2):=B;let r:=L.frd t o _ a0h;show(p',k,ns',rfl,e',N,z2,λq j o' c nd' F ml'=>?_);let D:t≠q:=λz=>by rw[z]at r;rw[r]at c;cases c
  show(t,q,o,o',C,j,rfl,rfl,D,by rw[a0f D];show r,a0h,by lia,by lia,nd,nd',λu M v n3 m3 l3=>(u,M,rfl,a0h,by lia,λu2 g f l so=>?_));let g3:=(hg2.hid c).hid (u:=setS X u M) v;show up _ _ _ _ (m u2 g (g3.out f) so (l.nodup_iff.mpr n3) (λx=>by rw[l.mem_iff,m3,me,F]) (by rw[l.length_eq];lia)) (by rw[a0q]) (g3.set (.new f) (_,a0h,a2o g)) (S.trans (t2.trans (L.trans ((TK.new c).trans ((TK.new v).trans (.new f)))))))⟩
end
def b02(na:(a==iC)=lT)(nb:(b==iC)=lT)(da:s.heap.DictOf (a0k P w) a ka)(db:s.heap.DictOf (a0k P w) b kb)(hu:A.units<cLine)(hl:ka.length=kb.length)
  (hv:∀(i:Nat) k v,ka[i]?=bo (k,v,)->∃y,iT kb k=bo y/\EqW P w A.in1 s v y) (q:Q (.bool lS) s):wpAny (model P w) A (io .Eq (.ref a) (.ref b)) Q E s:=by
 show wpAny_richCompare_same_room (op:=.Eq) da.typeIs db.typeIs PySem.F.slot_dict_eq (iI PySem.F.slot_dict_eq da.typeIs PySem.F.entry_dict_eq ?_ (PySem.F.args_dict_eq_2 _ _)) hu;show hZ ?_;show hZ (lI da.typeIs (h9 ?_));show hZ (jr db.typeIs PySem.F.sub_dict_dict ?_);show hZ (h9 (hZ (h9 (hZ (a4R na nb da db hl hv ?_)))));show h9 (_,rfl,(λx=>nomatch x),q)
def b3E{K:Fg}(hg:RH K G H)(h1:LEq G x y)(r1:Rep K H x u)(r2:Rep K H y v):DEq1 H u v:=by
 let(p,q,a,rfl,rfl,e,h,f):=h1;subst r1 r2;let(j,b,d):=hg _ _ e;let(i,c,g):=hg _ _ h;show(.list _,?_,?_,a1h f (by simp),?_);show(_,j,rfl,b,a4y 8 _ _ f d);show(_,i,rfl,c,a4y 8 _ _ f g)
 .simp only[PyData.eqv];show (a8d 8 8 a a f f).mpr rfl
def b03(R:V->V->Prop)(H:Hp)(x y:V):Prop:=∃a b ua ub,x=.ref a/\y=.ref b/\Rd H a (.dK ua)/\Rd H b (.dK ub)/\ua.length=ub.length/\∀(i:Nat) p,ua[i]?=bo p->∃y,valV ub p.1=bo y/\R p.2 y
section
variable{σ:St}
def a3G{a b:Addr}{x y:V}(I:Inv X pins σ H s)(hu:X.A.units+66<cLine)(h:b03 (DEq1 H) H x y):∃a b ka kb,x=.ref a/\y=.ref b/\(a==iC)=lT/\(b==iC)=lT/\s.heap.DictOf (a0k X.prog X.w) a ka/\s.heap.DictOf (a0k X.prog X.w) b kb/\ka.length=kb.length /\
  ∀(i:Nat) k v,ka[i]?=bo (k,v,)->∃y,iT kb k=bo y/\EqW X.prog X.w X.A.in1 s v y:=by
 let(a,b,ua,ub,rfl,rfl,ra,rb,hl,hr):=h;let(_,na,ka,va,da):=a6P I.hok ra;let(_,nb,kb,vb,db):=a6P I.hok rb;show(a,b,ka,kb,rfl,rfl,na,nb,da,db,by rw[a3B va,a3B vb,hl],λi k v e=>?_);let li:i<ua.length:=by let:=(aT.mp e).1;rw[a3B va]at this;show this
 obtain⟨p,hp⟩:∃p,ua[i]?=bo p:=(_,aU li);let(p',e1,e2,e3):=b3z va hp;rw[e]at e1;cases e1;let(y,hy,d,d1,d2,d3,d4):=hr i p hp;let q:=vb.val p.1;rw[hy]at q;cases hz:iT kb p.1 with
 |none=>rw[hz]at q;cases q
 |some z=>
  rw[hz]at q;let q:RelV y z:=q;show(z,by rw[<- hz,e2],?_);let(as,q1):=d1.reads I.hok e3;let(bs,q2):=d2.reads I.hok q
  let:=PySem.W.keq_at (A:=X.A) q1 q2 d3 d3 (by change X.A.units+1+64<_;cbv)
  rw[d4]at this;show λE Q h=>this _ _ E Q h
def b3F(hu:X.A.units+66<cLine):OpR X (io .Eq) (λx y H Q=>b03 (DEq1 H) H x y/\Q (.bl lS) H):=by
 intro pins s σ H x y v u Q I rx ry (h,q);let(a,b,ka,kb,rfl,rfl,na,nb,da,db,hl,hv):=a3G (a:=0) (b:=0) I hu h;cases rx;cases ry;show b02 na nb da db (by cbv) hl hv (.bl lS,H,I,rfl,q)
def b3G(hu:X.A.units+66<cLine):OpR X (io .NotEq) (λx y H Q=>b03 (DEq1 H) H x y/\Q (.bl lT) H):=by
 intro pins s σ H x y v u Q I rx ry (h,q);let(a,b,ka,kb,rfl,rfl,na,nb,da,db,hl,hv):=a3G (a:=0) (b:=0) I hu h;cases rx;cases ry;show b3A na nb da db (by cbv) hl hv (.bl lT,H,I,rfl,q)
end
def a87(R:Z->Z->Prop)(G:Hq)(x y:Z):Prop:=∃a b ka kb,x=.ref a/\y=.ref b/\(G a=bo (.dK ka)\/G a=bo (.dF ka))/\(G b=bo (.dK kb)\/G b=bo (.dF kb))/\ka.length=kb.length/\∀(i:Nat) p,ka[i]?=bo p->∃y,valZ kb p.1=bo y/\R p.2 y
def a4U{K:Fg}{G:Hq}{H:Hp}(hg:RH K G H){x y:Z}{u v:V}(h:a87 (LEq G) G x y)(ru:Rep K H x u)(rv:Rep K H y v):b03 (DEq1 H) H u v:=by
 let(a,b,ka,kb,rfl,rfl,ea,eb,hl,hr):=h;rw[a0q]at ru rv;let(us,e1,n1,r1):=b10 hg ea;let(vs,e2,n2,r2):=b10 hg eb;let l1:us.length=ka.length:=by let:=congrArg bn n1;o_head this
 let l2:vs.length=kb.length:=by let:=congrArg bn n2;o_head this
 show(a,b,us,vs,ru,rv,e1,e2,by lia,λi p hp=>?_);obtain⟨p',hp'⟩:∃p',ka[i]?=bo p':=(_,aU (by let:=(aT.mp hp).1;lia));let(p2,a1,a3,a2):=a5w n1 r1 hp';rw[hp]at a1;cases a1;let(y,hy,R):=hr i p' hp';let(z,z1,z2):=(a0Q n2 r2).2 y hy;show(z,by rw[a3];show z1,b3E hg R a2 z2)
def b8l:R3:=λx y G R=>a87 (LEq G) G x y/\R (.bl lS) G
def b8m:R3:=λx y G R=>a87 (LEq G) G x y/\R (.bl lT) G
def a88{X:Cx}(hu:X.A.units+66<cLine):OpQ X (io .Eq) b8l:=a2S (b3F hu) λx y H Q hx=>hx.un λa b G R ra rb hg h up=>(a4U hg h.1 ra rb,up _ _ _ _ h.2 (by rw[a0v]) hg (.refl _ _))
def b14{X:Cx}(hu:X.A.units+66<cLine):OpQ X (io .NotEq) b8m:=a2S (b3G hu) λx y H Q hx=>hx.un λa b G R ra rb hg h up=>(a4U hg h.1 ra rb,up _ _ _ _ h.2 (by rw[a0v]) hg (.refl _ _))
noncomputable def a89(K:Fg)(f P0:Addr):Bool:=match K.lookup f with
 |some (_,_,.func fd,_)=>(match fd.code with
  |.ref c=>PySem.W.codeHdIn K c P0
  |_=>lT)
 |_=>lT
section
variable{K:Fg}{mg:Str->Option Value}{base:Heap}{x q:Str}{st:Stmt}{f C P0:Addr}{d:iG}{N ps:List Str}{k n:Nat}
def a6q(F:Fun K x q st f d)(h:a89 K f P0=lS):∃c,d.code=.ref c/\PySem.W.codeHdIn K c P0=lS:=by
 let(n,l,j,i,o,m,a,k,e,rfl,b,g):=F.ex;unfold a89 at h;rw[b]at h
 match a,h with
 |.ref c,h=>show(c,rfl,h)
def fnL(F:Fun K x q st f d)(hL:a89 K f P0=lS)(S:FnScope N ps (a0i st))(len:∀ws G R,sp ws G R->ws.length=ps.length)
  (b:∀(c:Addr)(A:Around)(outer:List Env)(s:Shared)(H:Hp)(E:XK)(ws:List Z)(G:Hq)(R:K3),PySem.W.codeHdIn K c P0=lS->Room k (A.deeper (envOfC q (a0i st) s.heap.objs.size f (.ref c)))->N.Nodup->sp ws G R ->
   ∃t,QSs (cxOf CX0 P w K mg base N q (a0i st) f (.ref c) A outer s H E).nox (a0I st) t/\t (λ_ G'=>R .non G') R (λ_ _=>False) (λ_ _=>False) (a07 N ws) G):FnOk P w K mg base CX0 (k+1) f d ps (lowP K sp):=by
 let(c,i,D):=a6q F hL;let(M,T,X,L,V,an,m,ct,I,rfl,B,n):=F.ex;subst i;show b2t B n S (λy H Q E (j,G,R,e,l,h,g)=>by rw[<- e.length];show len _ _ _ h) ?_;ext A a s H y Q E v ⟨j,G,R,e,l,h,g⟩;let(t,u,z):=b c A a s H E j G R D v S.nd h;show(_,PSs.nox u.p,a07 N j,G,_,R,_,_,.start e,l,z,fun σ' Y τ' U r J o C=>g _ _ _ _ r (by rw[a0z]) o C,g,λ_ _ _ _ h _ _ _=>h.elim,λ_ _ _ _ h _ _ _=>h.elim)
def FXL(K:Fg)(x:Str)(P0:Addr):Prop:=∃f,NsG K x (bo (.ref f))/\a89 K f P0=lS
def fnc0{sp:P3}(n:Nat)(B:Br K mg)(F:FX K x st)(h:∀ws G R,¬ sp ws G R)(pl:Pl x x st (N.take n):=by ext _ _ _ _ _ _;(repeat show lnS λ_=>?_);show ln0 rfl):Cal P w K mg base CX0 k x (lowP K sp):=by
 let(f,d,e,F):=F;show⟨(f,(d,_,a8L h,F.binds pl),B _ _ e,F.kp)⟩
def fncL(n:Nat)(B:Br K mg)(F:FX K x st)(L:FXL K x P0)
  (b:∀(f c:Addr)(A:Around)(outer:List Env)(s:Shared)(H:Hp)(E:XK)(ws:List Z)(G:Hq)(R:K3),PySem.W.codeHdIn K c P0=lS->Room k (A.deeper (envOfC x (a0i st) s.heap.objs.size f (.ref c)))->N.Nodup->sp ws G R ->
   ∃t,QSs (cxOf CX0 P w K mg base N x (a0i st) f (.ref c) A outer s H E).nox (a0I st) t/\t (λ_ G'=>R .non G') R (λ_ _=>False) (λ_ _=>False) (a07 N ws) G)
  (len:∀ws G R,sp ws G R->ws.length=(N.take n).length) (S:FnScope N (N.take n) (a0i st)) (pl:Pl x x st (N.take n)):Cal P w K mg base CX0 (k+1) x (lowP K sp):=by
 let(f,d,e,F):=F;let(h,g,a):=L;cases (e.symm.trans g);show⟨(f,(d,_,fnL F a S len λc=>b f c,F.binds pl),B _ _ e,F.kp)⟩
end
section
variable{k j:Nat}
def q_sk(hm:X.mg "sorted"=lR)(hr:Room j X.A)(ha:QE X a te)(hc:X.env.code=.ref c)(hd:PySem.W.codeHdIn X.K c P0=lS)(gP:iu≠P0)(bi:X.base.BuiltinsAt X.mg P0)
  (ht:∀(f c':Addr)(A:Around)(outer:List Env)(s:Shared)(H:Hp),Room k (A.deeper (envOfC q scope s.heap.objs.size f (.ref c')))->N.Nodup->QE (cxOf CX0 X.prog X.w X.K X.mg X.base N q scope f (.ref c') A outer s H E0).nox body tb)
  (sc:FnScope N [y] scope) (qn:q=X.env.qual++"<lambda>") (df:lJ params X.env=([],[],)) (cl:jK scope X.env=pure [])
  (bd:∀(pm ctv:Value)(c':Addr)(us:List Value),us.length=1->jw (PySem.W.kla_fn "<lambda>" q params body scope [] pm (.ref c') ctv) (us,[])=pure ([y].zip us)) (hk:k+3<=j:=by decide) (hg:Gl X "sorted":=by rfl) (hn:nst a=lS:=by rfl) :
  QE X (.Call (.Name "sorted" pN) [a] [(bo "key",.Lambda params body scope lpos,kp)] pos) (a81 P0 lpos q N te tb):=
 b3x hg hm (hr.mono hk) (sc,qn,df,cl,(c,hc,hd),gP,bi,bd) ha (λf d A b s H r=>ht f d A b s H r sc.nd) (se_ hn)
end
def a7d{K:Fg}(a:Addr)(ns:List Int)(f:Fz K H a (ns.map V.int))(hT:H P0=bo (.tbl #[]))(h:sp [.scr a ns] (put (λ_=>lR) P0 (.tab lp q)) λw _=>w=.bl lS):lowP K sp [.ref a] H (λv _=>v=.bl lS) lU:=
 ([.scr a ns],put _ P0 _,λw _=>w=.bl lS,.cons (by rw[a2l];show(rfl,f)) .nil,λb o e=>(by
  by_cases hb:b=P0
  .subst hb;rw[a0a]at e;cases e;show(#[],hT,.inl rfl)
  .rw[a0d hb]at e;cases e),h,λw G v c e r _ _=>by subst e;rw[a0v]at r;show r)
def Fz.ofT{K:Fg}(hO:b0V P0 H)(h:SqL K H a xs):Fz K H a xs:=by
 let(h||h)||h:=h
 .by_cases hb:a=P0
  .rw[hb,hO.1]at h;cases h
  .let z||(o,ys,z):=hO.2 a hb
   .grind
   .simp_all
 .show .inl h
 .show .inr h
section
variable{CX:CXT}{K:Fg}{mg:Str->Option Value}{base:Heap}{N:List Str}{q:Str}{so:Scope}{f:Addr}{cd:Value}{outer:List Env}{E:XK}
def cxNn:(cxOf CX P w K mg base N q so f cd A outer s H E).nox.nox.N=N:=rfl
def cxNh{e:Addr}{oe:Obj}:((cxOf CX P w K mg base N q so f cd A outer s H E).nox.hnd e oe).N=N:=rfl
end
section
variable{e:Expr}{x y:Str}{p np cp hpos tpos:Pos}{t:A3}{k j:Nat}{C D:Addr}{sp:PX3}
def z_t1{b₀:Stmt}{suite:List Stmt}{i:Nat}{n:Str}{th:Addr->X3}(c:Cal X.prog X.w X.K X.mg X.base (CXx X.prog X.w) k y (a37 X.K sp))(hr:Room j X.A)(ha:QA X.nox (e::es) t)(hm:X.mg x=bo (.ref D))(hD:PySem.W.exmOne X.K (.ref C) (.ref D)=bo lS)(hN:X.N.Nodup)(hi:X.N[i]?=bo n)
  (hh:∀e oe,oe.cls=.ref C->oe.dict=lR->PySem.W.notCls oe=lS->QSs (X.hnd e oe) (b₀::suite) (th e)) (hl:X.env.scope.names.lookup n=bo .local:=by rfl) (hn:(e::es).all nst=lS:=by rfl) (hk:k<=j:=by decide) (hst:X.stack=X.env::X.outer:=by rfl) (hex:X.ex=[]:=by rfl) (hfm:X.env.frame=bo X.env.locals:=by rfl) (hgf:Gl X y:=by rfl) (hg:Gl X x:=by rfl)
  (hdb:(y==("__debug__":Str))=lT:=by decide) (hs:iY (.Call (.Name y p) (e::es) [] cp) lR pos.line X.env=pure lT:=by rfl) (hd:(x==("__debug__":Str))=lT:=by decide) :
  QS X (.Try [.Expr (.Call (.Name y p) (e::es) [] cp) pos] [.ExceptHandler (bo (.Name x np)) (bo n) (b₀::suite) hpos] [] [] tpos) (uTry C i sp t th):=by
 let(f,(d,ps,F,hb),hmf,hkp):=c.ex;show b8e hst hex hfm F (hr.mono hk) hgf hmf hkp hb ha hg hm hD hN hi hl hh (s1_ hn) (h1_ hn) hdb hs hd
end
abbrev B3:=(Addr->Hq->Prop)->X3
end L2
set_option maxHeartbeats 4000000
namespace Lw
open PySem L2
noncomputable def top(i:Nat):Stmt:=PySem.Challenge.pw_twotimes_k62_changes_laid_on.main.body.getD i (.Pass (0,0,0,0))
def UnLt(n:Nat):Prop:=n+66<cLine
def b3H{A:Around}{k:Nat}(hr:Room k A):UnLt A.units:=by let:=hr.un;unfold UnLt;cbv
noncomputable def tF:List (Str×Nat):=("bounds_of",13,)::("is_over",15,)::("worths_in",14,)::("with_alike_joined",16,)::("laid_together",12,)::("pairs_by_key",19,)::("line_changed",20,)::("changed",18,)::("_law_cell_at",22,)::("_law_stream",23,)::("_law_take",24,)::("_law_name",25,)::("_law_names",26,)::("_law_stretch",27,)::("_law_worth_at",28,)::("_law_bounds",29,)::("_law_line",30,)::("_law_same",31,)::("_law_begun",32,)::("_law_pieces",33,)::("_law_part",34,)::("_law_some",35,)::("_law_put",36,)::("_law_spoilt",37,)::("_law_refused",38,)::("_law_copy",39,)::("_law_right",40,)::("law",41,)::[]
noncomputable def tB:List Str:=["sorted","set","len","zip","range","reversed","isinstance","str","list","tuple","int","bool","min","dict","ValueError"]
set_option genInjectivity false in
structure Ad where
 x_NoFit:Addr
 x_TimesError:Addr
 x_Broken:Addr
 x_Forgotten:Addr
 x_NoKnowing:Addr
 x_NoLog:Addr
 x_NoName:Addr
 x_NoRow:Addr
 x_NoSheet:Addr
 x_NoStretch:Addr
 tP:Addr
abbrev lamO:O:=.tab (77,55,77,79) "pairs_by_key.<locals>.<lambda>"
structure Txt (K:Fg) (mg:Str->Option Value) (base:Heap) (a:Ad):Prop where
 br:Br K mg
 f:AllF K top tF
 b0:AllB K tB
 gP:iu≠a.tP
 bi:base.BuiltinsAt mg a.tP
 lam:FXL K "pairs_by_key" a.tP
 x_NoFit:mg "NoFit"=bo (.ref a.x_NoFit)
 x_TimesError:mg "TimesError"=bo (.ref a.x_TimesError)
 x_Broken:mg "Broken"=bo (.ref a.x_Broken)
 x_Forgotten:mg "Forgotten"=bo (.ref a.x_Forgotten)
 x_NoKnowing:mg "NoKnowing"=bo (.ref a.x_NoKnowing)
 x_NoLog:mg "NoLog"=bo (.ref a.x_NoLog)
 x_NoName:mg "NoName"=bo (.ref a.x_NoName)
 x_NoRow:mg "NoRow"=bo (.ref a.x_NoRow)
 x_NoSheet:mg "NoSheet"=bo (.ref a.x_NoSheet)
 x_NoStretch:mg "NoStretch"=bo (.ref a.x_NoStretch)
 xi_NoFit:PySem.W.excIn K a.x_NoFit veM "ValueError.__new__"=lS
 xm_NoFit_TimesError:PySem.W.exmOne K (.ref a.x_NoFit) (.ref a.x_TimesError)=bo lS
 xk_NoFit:ExK K a.x_NoFit
 kt_NoFit_ValueError:PySem.W.kitOne K (.ref a.x_NoFit) (.type "ValueError")=bo lS
 ka_NoFit_0:PySem.W.kitAny K (.ref a.x_NoFit) [.ref a.x_Broken,.ref a.x_Forgotten,.ref a.x_NoKnowing,.ref a.x_NoLog,.ref a.x_NoName,.ref a.x_NoRow,.ref a.x_NoSheet,.ref a.x_NoStretch]=bo lT
def Txt.b{K:Fg}{mg:Str->Option Value}{base:Heap}{a:Ad}(T:Txt K mg base a)(i:Nat){x:Str}(h:tB[i]?=bo x:=by rfl):mg x=lR:=T.br _ _ (T.b0 i x h)
set_option hygiene false in
local macro_rules | `(tactic| walk_at "in")=>`(tactic| (ext f cdv A outer s H E ws G R hr nd h;let hu:=b3H hr))
set_option hygiene false in
local macro_rules | `(tactic| walk_at "inx")=>`(tactic| (ext f cdv A outer s H E ws G R EE hr nd h ux;let hu:=b3H hr))
set_option hygiene false in
local macro_rules | `(tactic| ac_rfl)=>`(tactic| repeat' first
 | ((with_reducible change QE _ _ _);first | ((with_reducible change QE _ (.Name _ _) _);first | show qw (by first | show cxN | show cxcN | show cxN' | show cxNn | show cxNh) (by with_reducible first | show at_0 | show at_1 | show at_2 | show at_3 | show at_4 | show at_5 | show at_6 | show at_7 | show at_8 | show at_9 | show b6n | show b6o | show b6p | show b6q | show b6r | show b6s | show b6t | show b6u) | show q_ty (a1J (v:=.ty "str") rfl (T.b 7) rfl rfl) | show q_ty (a1J (v:=.ty "list") rfl (T.b 8) rfl rfl) | show q_ty (a1J (v:=.ty "tuple") rfl (T.b 9) rfl rfl) | show q_ty (a1J (v:=.ty "int") rfl (T.b 10) rfl rfl) | show q_ty (a1J (v:=.ty "bool") rfl (T.b 11) rfl rfl) | show q_ty (a1J (v:=.ty "dict") rfl (T.b 13) rfl rfl)) | show b2B | show b7k | show b2C | show q_bl | refine' a72 x_sl ?_ ?_ ?_ | refine' q_ix x_ix ?_ ?_ (λ_ _=>rfl) | apply q_op | ((with_reducible change QE _ (.Call (.Name "len" _) _ _ _) _);refine' q_B b7B (T.b 2) ?_ (hv:=PySem.boot_len)) | ((with_reducible change QE _ (.Call (.Name "min" _) _ _ _) _);refine' q_B (b7C rfl) (T.b 12) ?_) | ((with_reducible change QE _ (.Call (.Name "isinstance" _) _ _ _) _);refine' q_B b7D (T.b 6) ?_) | ((with_reducible change QE _ (.Call (.Name "list" _) _ _ _) _);refine' q_Y a8f (T.b 8) ?_) | ((with_reducible change QE _ (.Call (.Name "int" _) _ _ _) _);refine' q_Y b8d (T.b 10) ?_) | refine' q_c (by walk_at "c") hr ?_ | apply a73 | apply b7p | ((with_reducible change QE _ (.Call (.Attribute _ "append" _) _ _ _) _);refine' q_bm PySem.F.plainAttrs_list PySem.F.slot_list_append PySem.F.type_list_append a52 ?_ ?_) | ((with_reducible change QE _ (.Call (.Attribute _ "find" _) _ _ _) _);refine' q_bm PySem.F.plainAttrs_str PySem.F.slot_str_find PySem.F.type_str_find b5Z ?_ ?_) | ((with_reducible change QE _ (.Call (.Attribute _ "get" _) _ _ _) _);first | refine' q_bm PySem.F.plainAttrs_dict PySem.F.slot_dict_get PySem.F.type_dict_get (b56 hu) ?_ ?_ | refine' q_bm PySem.F.plainAttrs_dict PySem.F.slot_dict_get PySem.F.type_dict_get (b3c hu) ?_ ?_) | ((with_reducible change QE _ (.Call (.Attribute _ "setdefault" _) _ _ _) _);refine' q_bm PySem.F.plainAttrs_dict PySem.F.slot_dict_setdefault PySem.F.type_dict_setdefault a4K ?_ ?_) | apply b0b | refine' b2D ?_ ?_ ?_ ?_ ?_ | apply b7n | refine' q_un b7A ?_ | apply b0e | apply a50 | apply b7m | apply q_if)
 | ((with_reducible change QA _ _ _);first | show a0E | refine' q_k ?_ ?_)
 | ((with_reducible change OpQ _ _ _);first | ((with_reducible change OpQ _ (iA .Add) _);show b7v) | ((with_reducible change OpQ _ (io .Eq) _);show (o_eq hu)) | ((with_reducible change OpQ _ (iA .FloorDiv) _);show b5k) | ((with_reducible change OpQ _ (io .Gt) _);show o_gt) | ((with_reducible change OpQ _ (io .In) _);show (o_in hu)) | ((with_reducible change OpQ _ (io .Is) _);show o_is) | ((with_reducible change OpQ _ (io .IsNot) _);show b2S) | ((with_reducible change OpQ _ (io .Lt) _);show o_lt) | ((with_reducible change OpQ _ (io .LtE) _);show o_le) | ((with_reducible change OpQ _ (iA .Mod) _);show b7y) | ((with_reducible change OpQ _ (iA .Mult) _);show b7x) | ((with_reducible change OpQ _ (io .NotEq) _);show (o_ne hu)) | ((with_reducible change OpQ _ (iA .Pow) _);show b7z) | ((with_reducible change OpQ _ (iA .Sub) _);show b7w) | ((with_reducible change OpQ _ (jg .Add) _);show b5l))
 | ((with_reducible change ji _ _=_);first | show a1V _ | with_unfolding_all rfl)
 | ((with_reducible change QT _ _ _);first | apply a3u | refine' b0c ?_ ?_ ?_ ?_ ?_ | refine' QW.qt (e:=.BoolOp _ _ _) ?_ | apply a5Z | refine' a7Z (a:=.Call _ _ _ _) ?_ | refine' b48 ?_ (λ_=>rfl))
 | ((with_reducible change QW _ _ _);first | apply b45 | apply b7l | apply b0d | apply q_or)
 | ((with_reducible change QO _ _ _);first | show b0f | apply a71)
 | ((with_reducible change QI _ _ _ _);first | ((with_reducible change QI _ _ (.Call (.Name "range" _) _ _ _) _);first | refine' a6T rfl (T.b 4) ?_) | apply a3W)
 | ((with_reducible change QP _ _ _);first | apply p_nm | refine' p_tp rfl ?_)
 | ((with_reducible change QPg _ _ _);first | show b8j | apply b6m)
 | ((with_reducible change Nm _ _ _);show nwI (by first | show cxN | show cxcN | show cxN' | show cxNn | show cxNh) (by with_reducible first | show at_0 | show at_1 | show at_2 | show at_3 | show at_4 | show at_5 | show at_6 | show at_7 | show at_8 | show at_9 | show b6n | show b6o | show b6p | show b6q | show b6r | show b6s | show b6t | show b6u) nd)
 | ((with_reducible change QS _ _ _);first | apply a4v | refine' z_st ?_ ?_ | refine' b1G ?_ | apply z_if | refine' b5i ?_ ?_ | refine' a1g iz.never rfl ?_ ?_ ?_ | apply z_au | show b5d | show b2L | show b5e | show b5g)
 | ((with_reducible change QSs _ _ _);first | show a1Y | apply a0L | apply a0c)
 | ((with_reducible change QIfs _ _ _);first | show b2N | apply a79)
 | ((with_reducible change Cal _ _ _ _ _ _ _ _ _);walk_at "c")
 | ((with_reducible change _<=_);decide))
local macro_rules | `(tactic| walk_at "r4")=>`(tactic| (ext _ _ _ _;ac_rfl))
set_option hygiene false in
local macro_rules | `(tactic| walk_at "r5")=>`(tactic| (ext _ _ _ _ nd;ac_rfl))
set_option hygiene false in
local macro_rules | `(tactic| walk_at "c")=>`(tactic| first | show a3o T | show a4X T | show a3m T | show a1p T | show a2g T | show a2t T | show a7g T | show a9b T | show b3I T | show b3P T | show b1e T | show a7i T | show a5H T | show a9o T | show a5K T | show a9p T | show b1n T | show a9x T | show b31 T | show b34 T | show a9D T | show a9I T | show a7l T | show a5O T | show b1w T)
def b8n (h:t σ G λws G1=>∃(p:Addr)(ns:List Int),ws=[.ref p]/\G1 p=bo (.lst (ns.map Z.int))/\ns.length<=1000 /\
  ∀(t:Addr)(ks:List Int),G1 t=lR->ks.Pairwise (·<·)->(∀x,x∈ks↔x∈ns)->ks.length<=ns.length->R (.ref t) (put G1 t (.lst (ks.map Z.int)))):uSS t σ G R:=h
def a6r(t:Addr):P3:=λws G R=>∃b ns,ws=[.scr b ns]/\ns.length<=63/\G t=bo lamO/\∀G',R (.bl lS) G'
def b04(hl:ns.length<=63):a6r t [.scr b ns] (put (λ_=>lR) t lamO) λw _=>w=.bl lS:=(_,_,rfl,hl,a0a,λ_=>rfl)
def lenK(h:Nat.ble n 1000=lS):n<=sizeLine:=bT (a0e (fP h))
def a0S(h:n<=1000):n<=sizeLine:=bT (a0e h)
def a7e(x w:Int):Prop:=w=0\/(w=1/\0<=x/\x<536870909)
abbrev RowO(x w:Int):O:=.lst [.int x,.int w]
def RowAt(G:Hq)(r:Addr):Prop:=∃x w,G r=bo (RowO x w)/\a7e x w
structure NxOf (P nx:C3):Prop where
 h:∀σ G,P σ G->nx σ G
def i_sq{t u:X3}{nx:C3}{rt:K3}{bk ct:C3}{σ:S3}{G:Hq}(h:∀n,NxOf (u nx rt bk ct) n->t n rt bk ct σ G):uSeq t u nx rt bk ct σ G:=h _ ⟨λ_ _ h=>h⟩
def i_nx{P n:C3}{σ:S3}{G:Hq}(e:NxOf P n)(h:P σ G):n σ G:=e.h _ _ h
local macro_rules | `(tactic| walk_at "sd")=>`(tactic| first | assumption | (show a0S (by first | decide | cbv | (simp;done) | (simp;cbv))) | (show a0e (by first | decide | cbv | (simp;done) | (simp;cbv))) | decide | cbv)
local macro_rules | `(tactic| walk_at "hp")=>`(tactic| first | assumption | show a0a | (show a0b ?_ (by assumption);walk_at "hp") | (show Sm.get (by assumption) ?_;walk_at "hp"))
local macro_rules | `(tactic| walk_at "go1")=>`(tactic| with_reducible (first
 | show i_sq λ_ _=>?_ | show b7E (by with_unfolding_all rfl) ?_ | apply i_c | apply i_op | apply i_un | apply b5r | apply i_chain | apply b7F | apply i_or | apply b7G | apply b5s | apply i_orV | apply b5t | apply i_if
 | apply b7H | apply i_truI | apply i_truB | apply i_sl | apply b0j | apply b5u | apply b7I | apply b5v | apply b7J | apply b7K | apply i_cb | apply b8n | apply i_bm0 | apply i_bm | apply b5w
 | apply b5x | apply b5y | apply b7L | apply i_retN | apply b7M | apply b7N | apply b7O | show b7P (by with_unfolding_all rfl) ?_ | apply i_break | apply i_cont | apply b5G | apply b7Z | apply i_iL | apply i_iT | apply i_iS | apply b70 | apply i_iR2 | apply i_wkC | apply i_wkT | apply i_wkS | apply i_tt
 | apply b5z | apply i_I0 | apply b7Q | apply i_CI | apply i_CS | apply b7R | apply i_isB | apply b5A | apply b7S | apply b5B | apply b7T | apply i_inS | apply b5D | apply i_nm | show a06 (by with_unfolding_all rfl) ?_ | apply i_lenT | apply b5F | apply i_mm | apply b7X
 | apply ifT | apply ifF | apply ifNN | apply ifNI | apply ifNS | apply ifNU | apply ifMN | apply ifMI | apply ifMS | apply ifMU | show a06 at0 ?_ | show a06 at1 ?_ | show a06 at2 ?_ | apply b50 | apply b52 | apply i_iR3 | apply b53 | apply i_fldE | apply i_methE | apply i_makeE | apply i_fset | apply i_faug | apply i_disp | apply i_pcons | apply i_pnil | show(_,rfl,?_) | show i_nx (by assumption) ?_))
local macro_rules | `(tactic| walk_at "go")=>`(tactic| repeat walk_at "go1")
local macro_rules | `(tactic| lk)=>`(tactic| walk_at "go")
def a7f:P3:=λws G R=>∃p ns k,ws=[.scr p ns,.int k]/\0<=k/\∀i,R (.int i) G
variable{P:ik}{w:World}{K:Fg}{mg:Str->Option Value}{base:Heap}{a:Ad}
set_option tactic.hygienic true in
def a7g(T:Txt K mg base a):Cal P w K mg base CX0 1 "_law_cell_at" (lowP K a7f):=by
 show fnc 2 (N:=["script","k"]) T.br (T.f 8 _ rfl) ?_;walk_at "in";show(_,(by ac_rfl),?_);let(p,ns,k,rfl,hk,q):=h;lk;show ifD (λc=>?_) λ_=>?_
 .let(j,rfl):=cF hk;let hj:j<ns.length:=by lia
  lk;show b7U (a0F (aU hj)) (q _)
 .lk;show q _
def a9a:P3:=λws G R=>∃c w,ws=[.int c,.int w]/\(w=0\/w=1)/\∀r x w',G r=lR->a7e x w'->R (.ref r) (put G r (RowO x w'))
def m9(x:Int):0<=x % 536870909/\x % 536870909<536870909:=(fj _ (by decide),fm _ (by decide))
set_option tactic.hygienic true in
def a9b(T:Txt K mg base a):Cal P w K mg base CX0 1 "_law_stream" (lowP K a9a):=by
 show fnc 2 (N:=["cell","way","low"]) T.br (T.f 9 _ rfl) ?_;walk_at "in";show(_,(by ac_rfl),?_);let(c,w,rfl,hw,q):=h;lk;show ifD (λz=>?_) λz=>?_
 .lk;show(lenK rfl,λr hr=>q r _ _ hr (.inl rfl))
 .lk;show i_I (show (0:Int)<536870909 by decide) ?_;lk;let h1:=m9 c;show i_I (.inl (by lia,by lia)) ?_;lk;show i_I (show (0:Int)<536870909 by decide) ?_;lk;let h2:=m9 (c % 536870909*(c % 536870909));show i_I (.inl (by lia,by lia)) ?_;lk;show i_I (show (0:Int)<536870909 by decide) ?_;lk;show(lenK rfl,λr hr=>q r _ _ hr (.inr (rfl,m9 _)))
def a9c:P3:=λws G R=>Ex4 λr n x w=>ws=[.ref r,.int n]/\G r=bo (RowO x w)/\a7e x w/\0<n/\n<2 ^ 64/\∀f y w,0<=f->f<n->a7e y w->R (.int f) (put G r (RowO y w))
set_option tactic.hygienic true in
def b3I(T:Txt K mg base a):Cal P w K mg base CX0 1 "_law_take" (lowP K a9c):=by
 show fnc 2 (N:=["row","many","found"]) T.br (T.f 10 _ rfl) ?_;walk_at "in";show(_,(a0c (z_if (by ac_rfl)
  (a0c (by ac_rfl)
  (a0c (a1u (by ac_rfl) (qv 0) b2B b0i)
  (by ac_rfl)))
  a1Y)
  (a0c (a1u (by ac_rfl) (qv 0) b2B b0i)
  (by ac_rfl))),?_)
 let(r,n,x,w,rfl,hR,hok,h0,h1,q):=h;lk;show a0y hR rfl ?_;lk;show ifD (λc=>?_) λc=>?_
 .lk;show a0y hR rfl ?_;lk;show i_I h0 ?_;lk;show a0y hR rfl ?_;lk;show i_I (h0,h1) ?_;lk;show b0k hR rfl ?_;lk;show q _ _ _ (fj _ (by lia)) (fm _ h0) (.inl c)
 .let z||(hw1,hx0,hx1):=hok
  .show absurd z c
  lk;show a0y hR rfl ?_;lk;show a0y hR rfl ?_;lk;show i_I (.inl (by lia,by lia)) ?_;lk;show i_I (show (0:Int)<536870909 by decide) ?_;lk;show b0k hR rfl ?_;lk;let h2:=m9 ((x+7919)*(x+104729));show a0y a0a rfl ?_;lk;show i_I (.inl (by lia,by lia)) ?_;lk;show i_I h0 ?_;lk;show q _ _ _ (fj _ (by lia)) (fm _ h0) (.inr (hw1,h2))
def a0B(hR:RowAt G r)(h0:0<n)(h1:n<2 ^ 64)(q:∀f y w,0<=f->f<n->a7e y w->R (.int f) (put G r (RowO y w))):a9c [.ref r,.int n] G R:=by
 let(x,w,e,k):=hR;show(r,n,x,w,rfl,e,k,h0,h1,q)
def RowAt.new(h:RowAt G r)(n:G p=lR):RowAt (put G p o) r:=by
 let(x,w,e,k):=h;show(x,w,a0b e n,k)
def RowAt.at{G:Hq}{r:Addr}{x w:Int}(k:a7e x w):RowAt (put G r (RowO x w)) r:=(x,w,a0a,k)
structure Rw where
 b:Int
 e:Option Int
 w:List Z
@[reducible] noncomputable def oz:Option Int->Z
 |none=>.non
 |some i=>.int i
def b15(h:oz x=oz y):x=y:=by
 cases x<;>cases y<;>first |rfl |cases h<;>rfl
noncomputable def Rw.z(r:Rw):Z:=.tup (.int r.b::oz r.e::r.w)
def Rw.z_inj{r s:Rw}(h:r.z=s.z):r=s:=by
 let(b,e,w):=r;simp only[Rw.z,Z.tup.injEq,bJ.injEq,Z.int.injEq]at h;let(rfl,a,rfl):=h;rw[b15 a]
noncomputable def bef(t:Int):Option Int->Bool
 |none=>lS
 |some e=>decide (t<e)
noncomputable def Rw.has(r:Rw)(t:Int):Bool:=decide (r.b<=t)&&bef t r.e
def Rw.good(r:Rw):Prop:=bef r.b r.e=lS
noncomputable def val(l:List Rw)(t:Int):Option (List Z):=(l.find? (·.has t)).map (·.w)
def a05:val [] t=lR:=rfl
def a0j:val (r::l) t=if r.has t=lS then bo r.w else val l t:=by
 unfold val;rw[cg];cases h:r.has t<;>simp
def a02:val (l++m) t=(val l t).or (val m t):=by
 unfold val;rw[fq];cases h:l.find? _<;>simp
def Lt(r s:Rw):Prop:=∃e,r.e=bo e/\e<=s.b
def Lt2(r s:Rw):Prop:=∃e,r.e=bo e/\e<=s.b/\(e=s.b->r.w≠s.w)
def Rise(l:List Rw):Prop:=(∀r∈l,r.good)/\l.Pairwise Lt
def Can(l:List Rw):Prop:=(∀r∈l,r.good)/\l.Pairwise Lt2
def Lt2.lt{r s:Rw}(h:Lt2 r s):Lt r s:=let (e,a,b,_):=h;(e,a,b)
noncomputable def Can.rise(h:Can l):Rise l:=(h.1,h.2.imp Lt2.lt)
def Can.nil:Can []:=(λ_ h=>by simp at h,.nil)
def Rise.nil:Rise []:=Can.nil.rise
def Can.tail(h:Can (r::l)):Can l:=(λs a=>h.1 s (.tail _ a),(aW.mp h.2).2)
def Rise.tail(h:Rise (r::l)):Rise l:=(λs a=>h.1 s (.tail _ a),(aW.mp h.2).2)
def a1H{r:Rw}(h:r.good):r.has r.b=lS:=by
 unfold Rw.has;rw[h];simp
noncomputable def Lt.has(h:Lt r s)(a:r.has t=lS):s.has t=lT:=by
 let(e,c,d):=h;unfold Rw.has at a ⊢;rw[c]at a;simp only[bef,b7,decide_eq_true_eq]at a
 let:decide (s.b<=t)=lT:=decide_eq_false (by lia)
 rw[this,gM]
def Lt.b(g:r.good)(h:Lt r s):r.b<s.b:=by
 let(e,a,c):=h
 let:bef r.b r.e=lS:=g
 rw[a]at this;simp only[bef,decide_eq_true_eq]at this
 lia
def a01(h:∀r∈l,r.has t=lT):val l t=lR:=by simp_all[val]
def a1m{l:List Rw}{t:Int}{w:List Z}(h:val l t=bo w):∃r∈l,r.has t=lS/\r.w=w:=by
 induction l with
 |nil=>cases h
 |cons r l ih=>
  rw[a0j]at h
  split at h
  .next e=>cases h;show(r,.head _,e,rfl)
  .let(s,h1,h2):=ih h;show(s,.tail _ h1,h2)
def a3b{r:Rw}(h:t<r.b):r.has t=lT:=by
 unfold Rw.has;rw[decide_eq_false (by lia),gM]
def b6A(h:Can (r::l))(h':Can (s::m))(q:∀t,val (r::l) t=val (s::m) t):¬ r.b<s.b:=λc=>by
 let d:=q r.b;rw[a0j,a1H (h.1 r (.head _)),if_pos rfl,a01]at d
 .grind
 .ext x a;show a3b ?_;let rfl||a:=aO.mp a
  .cbv
  .let:=(((aW.mp h'.2).1 x a).lt).b (h'.1 s (.head _))
   lia
def b3J(h:Can (r::l))(hb:r.b=s.b)(hw:r.w=s.w)(q:∀t,val (r::l) t=val (s::m) t)(he:r.e=bo e):bef e s.e=lT:=by
 cases hc:bef e s.e with
 |false=>rfl
 |true=>
  exfalso;let g:bef r.b r.e=lS:=h.1 r (.head _)
  rw[he]at g;simp only[bef,decide_eq_true_eq]at g;let c:=q e;let i:s.has e=lS:=by unfold Rw.has;rw[hc,decide_eq_true (show s.b<=e by lia)];rfl
  let k:r.has e=lT:=by unfold Rw.has;rw[he];simp[bef]
  rw[a0j,a0j,i,k,if_pos rfl,if_neg (by simp)]at c;let(x,n,a,d):=a1m c;let(u,f,p,j):=(aW.mp h.2).1 x n;rw[he]at f;cases f;let o:x.b<=e:=by unfold Rw.has at a;simp at a;show a.1
  show j (by lia) (by simp_all)
theorem a1x:∀{l m:List Rw},Can l->Can m->(∀t,val l t=val m t)->l=m
 |[],[],_,_,_=>rfl
 |[],s::m,_,h',q=>by
  let:=q s.b
  rw[a05,a0j,a1H (h'.1 s (.head _)),if_pos rfl]at this;cases this
 |r::l,[],h,_,q=>by
  let:=q r.b
  rw[a05,a0j,a1H (h.1 r (.head _)),if_pos rfl]at this;cases this
 |r::l,s::m,h,h',q=>by
  let a:r.b=s.b:=by
   let f:=b6A h h' q;let g:=b6A h' h λt=>(q t).symm
   lia
  let c:r.w=s.w:=by
   let f:=q r.b;let g:s.has r.b=lS:=a▸a1H (h'.1 s (.head _));rw[a0j,a0j,a1H (h.1 r (.head _)),g,if_pos rfl,if_pos rfl]at f;show bo.inj f
  let i:r.e=s.e:=by
   cases e1:r.e with
   |none=>
    cases e2:s.e with
    |none=>rfl
    |some e=>
     let:=b3J h' a.symm c.symm (λt=>(q t).symm) e2
     rw[e1]at this;cases this
   |some e=>
    let:=b3J h a c q e1
    cases e2:s.e with
    |none=>rw[e2]at this;cases this
    |some e'=>
     let k:=b3J h' a.symm c.symm (λt=>(q t).symm) e2;rw[e1]at k;rw[e2]at this;simp only[bef,decide_eq_false_iff_not]at this k
     congr 1
     lia
  let j:r=s:=by
   let(_,_,_):=r;simp only at a c i;rw[a,c,i]
  subst j
  congr 1
  show a1x h.tail h'.tail λt=>?_;cases ht:r.has t with
  |true=>
   rw[a01 λx d=>((aW.mp h.2).1 x d).lt.has ht,a01 λx d=>((aW.mp h'.2).1 x d).lt.has ht]
  |false=>
   let:=q t
   rw[a0j,a0j,ht,if_neg (by simp),if_neg (by simp)]at this;show this
noncomputable def jn(told:List Rw)(p:Rw):List Rw:=match told.getLast? with
 |some l=>if l.e=bo p.b/\l.w=p.w then told.dropLast++[(l.b,p.e,p.w)] else told++[p]
 |none=>told++[p]
noncomputable def join(ps:List Rw):List Rw:=ps.foldl jn []
def a2c{α:Type}{l:List α}{x:α}(h:l.getLast?=bo x):l=l.dropLast++[x]:=by
 let(a,rfl):=List.getLast?_eq_some_iff.mp h;simp
def b8o(h:Can told)(g:p.good)(hlt:∀r∈told,Lt r p):Can (jn told p)/\(∀t,val (jn told p) t=(val told t).or (val [p] t))/\(∀x,(∀r∈told,Lt r x)->Lt p x->∀r∈jn told p,Lt r x)/\(jn told p).length<=told.length+1/\∀r∈jn told p,r.w=p.w\/∃r'∈told,r.w=r'.w:=by
 unfold jn;cases hl:told.getLast? with
 |none=>
  let:told=[]:=ft.mp hl
  subst this;show((λr a=>by simp at a;rw[a];show g,by simp),λt=>by simp[a05],λx _ f r a=>by simp at a;rw[a];show f,by simp,λr a=>by simp at a;rw[a];show .inl rfl)
 |some l=>
  let d:=a2c hl;generalize told.dropLast=init at d;subst d;let i:l∈init++[l]:=by simp
  let k:=bD.mp h.2;dsimp only
  split
  .next hc=>
   let(n,o):=hc;let D:l.b<p.b:=by
    let:bef l.b l.e=lS:=h.1 l i
    rw[n]at this;simpa[bef]using this
   let v:((l.b,p.e,p.w):Rw).good:=by
    change bef l.b p.e=lS
    let:bef p.b p.e=lS:=g
    cases hpe:p.e with
    |none=>rfl
    |some e=>
     rw[hpe]at this;simp only[bef,decide_eq_true_eq]at this ⊢
     lia
   show((λr a=>?_,?_),λt=>?_,λx m f r a=>?_,by simp,λr a=>?_)
   .let a||a:=aP.mp a
    .show h.1 r (by simp[a])
    .rw[aS.mp a];show v
   .show bD.mpr (k.1,by simp,λr a s d=>?_);rw[aS.mp d];let(e,c,j,A):=k.2.2 r a l (by simp);show(e,c,j,λz=>by rw[<- o];show A z)
   .rw[a02,a02];cases val init t with
    |some w=>rfl
    |none=>
     let y:((l.b,p.e,p.w):Rw).has t=(l.has t||p.has t):=by
      unfold Rw.has;rw[n]
      let:bef p.b p.e=lS:=g
      cases hpe:p.e with
      |none=>
       simp only[bef,Bool.and_true]
       by_cases c1:l.b<=t<;>by_cases c2:t<p.b<;>by_cases c3:p.b<=t<;>simp[c1,c2,c3]<;>lia
      |some e=>
       rw[hpe]at this;simp only[bef,decide_eq_true_eq]at this ⊢
       by_cases c1:l.b<=t<;>by_cases c2:t<p.b<;>by_cases c3:p.b<=t<;>by_cases c4:t<e<;>simp[c1,c2,c3,c4]<;>lia
     simp only[a0j,a05,y,o,Option.none_or];cases l.has t<;>cases p.has t<;>simp
   .let a||a:=aP.mp a
    .show m r (by simp[a])
    .rw[aS.mp a];let(e,c,j):=f;show(e,c,j)
   .let a||a:=aP.mp a
    .show .inr (r,by simp[a],rfl)
    .rw[aS.mp a];show .inl rfl
  .next hc=>
   show((λr a=>?_,?_),λt=>a02,λx m f r a=>?_,by simp,λr a=>?_)
   .let a||a:=aP.mp a
    .show h.1 r a
    .rw[aS.mp a];show g
   .show bD.mpr (h.2,by simp,λr a s d=>?_);rw[aS.mp d];let(e,c,j):=hlt r a;show(e,c,j,λz u=>?_);let hr'||hr':=aP.mp a
    .let(C,q,B,_):=k.2.2 r hr' l (by simp);rw[c]at q;cases q
     let:=(hlt l i).b (h.1 l i)
     lia
    .simp_all
   .let a||a:=aP.mp a
    .show m r a
    .rw[aS.mp a];show f
   .let a||a:=aP.mp a
    .show .inr (r,a,rfl)
    .rw[aS.mp a];show .inl rfl
def b3K:∀(ps told:List Rw),Can told->Rise ps->(∀r∈told,∀p∈ps,Lt r p)->Can (ps.foldl jn told)/\(∀t,val (ps.foldl jn told) t=(val told t).or (val ps t))/\(ps.foldl jn told).length<=told.length+ps.length/\∀r∈ps.foldl jn told,∃r'∈told++ps,r.w=r'.w:=by ext z0;induction z0 with
 |nil=>ext told h _ _;show(h,λt=>by simp[a05],by simp,λr f=>(r,↑f,rfl))
 |cons p ps I0=>
  ext told h f hlt;let a:=b8o h (f.1 p (.head _)) λr q=>hlt r q p (.head _);let b:=I0 _ a.1 f.tail λr q x j=>a.2.2.1 x (λg k=>hlt g k x (.tail _ j)) ((aW.mp f.2).1 x j) r q;show(b.1,λt=>?_,?_,λr i=>?_)
  .change val (ps.foldl jn _) t=_
   rw[b.2.1 t,a.2.1 t,show p::ps=[p]++ps from rfl,a02,Option.or_assoc]
  .grind
  .let(g,c,d):=b.2.2.2 r i;let c||c:=aP.mp c
   .let e||(r2,e1,e2):=a.2.2.2.2 g c
    .show(p,by simp,d.trans e)
    .grind
   .show(g,by simp[c],d)
def a4d(h:Rise ps):Can (join ps)/\(∀t,val (join ps) t=val ps t)/\(join ps).length<=ps.length/\∀r∈join ps,∃r'∈ps,r.w=r'.w:=by
 let:=b3K ps [] .nil h λr a=>by simp at a
 unfold join;show(this.1,λt=>by rw[this.2.1 t];rfl,↑this.2.2.1,↑this.2.2.2)
noncomputable def emin:Option Int->Option Int->Option Int
 |none,o=>o
 |some e,lR=>bo e
 |some e,bo o=>bo (if o<e then o else e)
noncomputable def b6B(m:Option Int)(r:Rw):Option Rw:=if bef r.b m=lS then bo (r.b,emin r.e m,r.w) else lR
noncomputable def b8p(m:Option Int)(l:List Rw):List Rw:=l.filterMap (b6B m)
noncomputable def b8q(m:Int)(r:Rw):Option Rw:=if bef m r.e=lS then bo (if m > r.b then m else r.b,r.e,r.w) else lR
noncomputable def b6C(m:Int)(l:List Rw):List Rw:=l.filterMap (b8q m)
def b8r(hf:∀r s r' s',R r s->f r=bo r'->f s=bo s'->R r' s'):∀{l:List Rw},l.Pairwise R->(l.filterMap f).Pairwise R:=by ext z0;induction z0 with
 |nil=>ext _;simp
 |cons r l I0=>
  ext h;let b:=aW.mp h;let c:=I0 b.2;rw[bY];cases e:f r with
  |none=>show c
  |some r'=>
   show aW.mpr (λs i=>?_,c);let(a,d,g):=cS.mp i;show hf r a r' s (b.1 a d) e g
noncomputable def b8y(l:List Rw)(b:Int)(e:Option Int)(w:Option (List Z)):List Rw:=
 b8p (bo b) l++(match w with |some w=>[(b,e,w)] |none=>[])++(match e with |some e=>b6C e l |none=>[])
noncomputable def pcs(f:Int->Option (List Z)):List Int->List Rw
 |[]=>[]
 |b::bs=>(match f b with |some w=>[(b,bs.head?,w)] |none=>[])++pcs f bs
def a4e:∀{bs:List Int}{r:Rw},r∈pcs f bs->r.b∈bs/\f r.b=bo r.w:=by ext z0;induction z0 with
 |nil=>ext _ h;simp[pcs]at h
 |cons b bs I0=>
  ext r h;let h||h:=aP.mp h
  .cases e:f b with
   |none=>rw[e]at h;simp at h
   |some w=>rw[e]at h;rw[aS.mp h];show(.head _,e)
  .let(c,a):=I0 h;show(.tail _ c,a)
def a2q(f:Int->Option (List Z)):∀bs:List Int,(pcs f bs).length<=bs.length:=by ext z0;induction z0 with
 |nil=>simp[pcs]
 |cons b bs I0=>
  let:=I0
  unfold pcs;cases f b<;>simp<;>cbv
def a4f(f:Int->Option (List Z)):∀{bs:List Int},bs.Pairwise (·<·)->Rise (pcs f bs):=by ext z0;induction z0 with
 |nil=>ext _;simp[pcs];show .nil
 |cons b bs I0=>
  ext h;let g:=aW.mp h;let i:=I0 g.2;unfold pcs;cases e:f b with
  |none=>o_head i
  |some w=>
   show(λr a=>?_,bD.mpr (by simp,i.2,λr a s j=>?_))
   .let a||a:=aP.mp a
    .rw[aS.mp a]
     change bef b bs.head?=lS
     cases bs with
     |nil=>rfl
     |cons c cs=>simpa[bef]using g.1 c (.head _)
    .show i.1 r a
   .rw[aS.mp a];let d:=(a4e j).1;cases bs with
    |nil=>simp at d
    |cons c cs=>
     show(c,rfl,?_);let q||q:=aO.mp d
     .lia
     .let:=(aW.mp g.2).1 _ q
      lia
def a9d:∀{bs:List Int},bs.Pairwise (·<·)->(∀t b,b∈bs->b<=t->(∀c∈bs,c<=t->c<=b)->f t=f b)->∀t,val (pcs f bs) t=if (bs.any λb=>decide (b<=t))=lS then f t else lR:=by ext z0;induction z0 with
 |nil=>ext _ _ t;simp[pcs,a05]
 |cons b bs I0=>
  ext h hf t;let j:=aW.mp h;let p:=I0 j.2 (λt c a g o=>hf t c (.tail _ a) g λd k l=>by
   let rfl||k:=aO.mp k
   .let:=j.1 c a;lia
   .show o d k l) t
  unfold pcs;rw[a02,p,cT]
  by_cases c1:b<=t
  .rw[decide_eq_true c1,Bool.true_or,if_pos rfl];cases c2:bs.any λb=>decide (b<=t) with
   |true=>
    let(c,a,g):=cx.mp c2;let g:c<=t:=↑g
    rw[if_pos rfl]
    let:val (match f b with |some w=>[((b,bs.head?,w):Rw)] |none=>[]) t=lR:=by
     cases f b with
     |none=>rfl
     |some w=>
      rw[a0j,a05];cases bs with
      |nil=>simp at a
      |cons d ds=>
       let k:d<=t:=by
        let rfl||a:=aO.mp a
        .show g
        .let:=(aW.mp j.2).1 c a;lia
       let n:((b,(d::ds).head?,w):Rw).has t=lT:=by
        unfold Rw.has;simp only[gN,bef];rw[decide_eq_false (show ¬ t<d by lia),gO]
       rw[n]
       rfl
    rw[this];rfl
   |false=>
    rw[if_neg (by decide)];let i:∀c∈bs,¬ c<=t:=λc a g=>by grind
    let m:=hf t b (.head _) c1 λc a g=>by
     let rfl||a:=aO.mp a
     .lia
     .show absurd g (i c a)
    rw[m];cases e:f b with
    |none=>rfl
    |some w=>
     rw[a0j,a05]
     let:((b,bs.head?,w):Rw).has t=lS:=by
      unfold Rw.has;simp only;rw[decide_eq_true c1];cases bs with
      |nil=>rfl
      |cons d ds=>simp only[gN,bef,eM,decide_eq_true_eq];let:=i d (.head _);lia
     rw[this];rfl
  .rw[decide_eq_false c1,fO];let i:(bs.any λb=>decide (b<=t))=lT:=dD.mpr λc a=>by grind
   rw[i,if_neg (by decide)]
   let:val (match f b with |some w=>[((b,bs.head?,w):Rw)] |none=>[]) t=lR:=by
    cases f b with
    |none=>rfl
    |some w=>
     rw[a0j,a05,a3b (by change t<b;lia)]
     rfl
   rw[this];rfl
noncomputable def lastAt(puts:List Rw)(t:Int):Z:=match puts.reverse.find? (·.has t) with
 |some r=>r.w.headD .non
 |none=>.non
noncomputable def optW(z:Z):Option (List Z):=if z=.non then lR else bo [z]
def a5A(puts:List Rw)(p:Rw)(t:Int):lastAt (puts++[p]) t=if p.has t=lS then p.w.headD .non else lastAt puts t:=by
 unfold lastAt;rw[cW,dg,List.reverse_nil,dv,eU,cg];cases p.has t<;>rfl
def a1n(rows:List Rw)(bs:List Int):Prop:=bs.Pairwise (·<·)/\∀x,x∈bs↔∃r∈rows,x=r.b\/r.e=bo x
def a6s{r:Rw}(h:b<=t)(h1:r.b<=t->r.b<=b)(h2:∀e,r.e=bo e->e<=t->e<=b):r.has t=r.has b:=by
 unfold Rw.has;let a:decide (r.b<=t)=decide (r.b<=b):=a0s (by grind)
 congr 1
 cases he:r.e with
 |none=>rfl
 |some e=>
  let:=h2 e he
  show a0s (by grind)
def a1D:∀{l:List Rw},(∀r∈l,f r=g r)->l.find? f=l.find? g:=by ext z0;induction z0 with
 |nil=>ext _;show rfl
 |cons r l I0=>ext h;rw[cg,cg,h r (.head _),I0 λs a=>h s (.tail _ a)]
def a4V{puts:List Rw}{bs:List Int}(hb:a1n puts bs)(t b:Int)(_:b∈bs)(hbt:b<=t)(hm:∀c∈bs,c<=t->c<=b):lastAt puts t=lastAt puts b:=by
 unfold lastAt;rw[a1D λr d=>?_];let a:r∈puts:=by simp_all
 show a6s hbt (λh=>hm _ ((hb.2 _).mpr (r,a,.inl rfl)) h) λe f h=>hm _ ((hb.2 _).mpr (r,a,.inr f)) h
def a5B(hb:a1n puts bs)(t:Int)(h:(bs.any λb=>decide (b<=t))=lT):lastAt puts t=.non:=by
 unfold lastAt
 let:puts.reverse.find? (·.has t)=lR:=by
  rw[dO];ext r c;let a:r∈puts:=by simp_all
  let:=dD.mp h r.b ((hb.2 _).mpr (r,a,.inl rfl))
  rw[a3b (by simp_all)]
  decide
 rw[this]
def b3L(hb:a1n puts bs):Can (join (pcs (λt=>optW (lastAt puts t)) bs))/\(∀t,val (join (pcs (λt=>optW (lastAt puts t)) bs)) t=optW (lastAt puts t))/\(join (pcs (λt=>optW (lastAt puts t)) bs)).length<=bs.length /\
  ∀r∈join (pcs (λt=>optW (lastAt puts t)) bs),∃t,optW (lastAt puts t)=bo r.w:=by
 let h:=a4d (a4f (λt=>optW (lastAt puts t)) hb.1);show(h.1,λt=>?_,bj h.2.2.1 (a2q _ _),λr f=>?_)
 .rw[h.2.1 t,a9d hb.1 λt b d a g=>by rw[a4V hb t b d a g]]
  split
  .rfl
  .next c=>rw[a5B hb t ↑c];rfl
 .let(e,d,a):=h.2.2.2 r f;show(e.b,by rw[a];show (a4e d).2)
def okW(w:List Z):Prop:=w≠[]/\w.length<=4/\w.all (flat 4)=lS
def OkR(l:List Rw):Prop:=∀r∈l,okW r.w
def a0m:∀{n m:Nat}{z:Z},n<=m->flat n z=lS->flat m z=lS:=by
 ext n
 induction n with
 |zero=>ext m z _ h;cases z<;>first | (simp[flat]at h;done) | (cases m<;>simp_all[flat])
 |succ n ih=>
  ext m z b h;cases m with
  |zero=>lia
  |succ m=>
   cases z with
   |tup ws=>
    simp only[flat,bL]at h ⊢;show λx a=>ih (by lia) (h x a)
   |_=>first | (simp[flat];done) | (simp[flat]at h;done) | (simp only[flat]at h ⊢;show h)
def a6t{ws:List Z}(hm:n<=m)(h:ws.all (flat n)=lS):ws.all (flat m)=lS:=by
 rw[bL]at h ⊢;show λx a=>a0m hm (h x a)
def a5C:flat n (oz e)=lS:=by
 cases e<;>cases n<;>rfl
def a2K:flat n (.int i)=lS:=by cases n<;>rfl
def b05:flat n .non=lS:=by cases n<;>rfl
def b06{r:Rw}(h:okW r.w):flat 5 r.z=lS:=by
 change ((Z.int r.b::oz r.e::r.w).all _)=lS
 rw[bG,bG,a2K,a5C,h.2.2];rfl
def a1y(h:OkR l):(l.map Rw.z).all (flat 8)=lS:=by
 rw[bL];ext x b;let(r,a,rfl):=bf.mp b;show a0m (by simp) (b06 (h r a))
noncomputable def wz:Option (List Z)->Z
 |none=>.non
 |some w=>w.headD .non
def b16(h:R (.bl (decide (e=bo b))) G):zEq id (oz e) (.int b) G R:=by
 cases e with
 |none=>
  show ((b05,a2K,?_))
  let:decide (Z.non=Z.int b)=decide (lR=bo b):=by simp
  show h
 |some e=>
  show b5B ?_
  let:decide (e=b)=decide (bo e=bo b):=a0s (by simp)
  rw[this];show h
def b8s(h1:flat 8 (.tup xs)=lS)(h2:flat 8 (.tup ys)=lS)(h:R (.bl (f (decide (xs=ys)))) G):zEq f (.tup xs) (.tup ys) G R:=by
 show ((h1,h2,?_));rw[a0s (Z.tup.injEq _ _)];show h
noncomputable def over(r:Rw)(m:Int):Bool:=match r.e with
 |none=>lT
 |some e=>decide (e<=m)
def a4W:P3:=λws G R=>∃r m,ws=[Rw.z r,.int m]/\R (.bl (over r m)) G
set_option tactic.hygienic true in
def a4X(T:Txt K mg base a):Cal P w K mg base CX0 1 "is_over" (lowP K a4W):=by
 show fnc 2 (N:=["stretch","moment"]) T.br (T.f 1 _ rfl) ?_;walk_at "in";show(_,(by ac_rfl),?_);let((b,e,w),m,rfl,q):=h;cases e with
 |none=>
  lk;show a06 at1 (by lk;show q)
 |some e=>
  lk;show a06 at1 ?_;lk;show a06 at1 ?_;lk;show q
def a9e{α β:Type}{l:List α}{g:α->Z}{g':β->Z}(f:α->Option β)(hok:∀ys,ok (put G1 D (.lst ys)))(hz:l.length<=1000)
  (turn:∀x,x∈l->∀(ys:List Z)(K1:K3)(K2:Hq->Prop),(∀y,f x=bo y->K1 (g' y) (put G1 D (.lst ys)))->(f x=lR->K2 (put G1 D (.lst ys)))->∃σ',a2U pt (g x) (cap3 cap σ)=bo σ'/\tt σ' (put G1 D (.lst ys)) λb G4=>if b=lS then te σ' G4 K1 else K2 G4)
  (fin:R (.ref D) (put G1 D (.lst ((l.filterMap f).map g')))):LCB (l.map g) ok cap pt tt te σ R D G1:=by
 show a6U (λi c G=>c=((l.take i).filterMap f).map g'/\G=put G1 D (.lst c)) (by simp,rfl) ?_ ?_ ?_
 .simp_all
 .ext i x c G d ⟨e,rfl⟩;rw[aR]at d;cases hx':l[i]? with
  |none=>rw[hx']at d;cases d
  |some a=>
   rw[hx']at d;cases d;show turn a (bp hx') c _ _ (λy j=>(a0a,?_,?_,?_)) λh=>(?_,rfl)
   .rw[e,aN];show dY (bj (cO _ _) (by rw[bh];lia)) (a0e (aQ 1000))
   .rw[a0R hx',j,e,aV];rfl
   .rw[a1s]
   .rw[a0R hx',h,e];simp
 .simp_all
def One(l:List Rw):Prop:=∀r∈l,∃x,r.w=[x]
def a5D(h:0<n):ixN n (-1)=bo (n-1):=by grind [ixN]
def a2r{α:Type}{l:List α}{x:α}(h:l.getLast?=bo x):atI l (-1)=bo x:=by
 let a:l≠[]:=λz=>by subst z;simp at h
 unfold atI;rw[a5D (cw.mpr a)]
 change l[l.length-1]?=bo x
 rw[<- List.getLast?_eq_getElem?];show h
def a6u{α:Type}{l:List α}{x y:α}(h:l.getLast?=bo x):l.set (l.length-1) y=l.dropLast++[y]:=by
 let a:=a2c h;generalize l.dropLast=i at a;subst a;simp
def sIx2{a b:Z}{w:List Z}:HT.sIx (a::b::w).length 0 (bo 2)=2:=by
 let:=HT.sIx_nat (a::b::w).length 0 2
 rw[show ((2:Nat):Int)=2 from rfl]at this;rw[this];simp
def cut2{a b:Z}{w:List Z}:cutZ (a::b::w) (bo 2) lR=w:=by
 unfold cutZ;rw[sIx2,HT.sIx_none];simp
def a9f{a b:Z}{w:List Z}:¬ (HT.sIx (a::b::w).length 0 (bo 2)=0/\HT.sIx (a::b::w).length (a::b::w).length lR=(a::b::w).length):=by
 rw[sIx2];ext h;show absurd h.1 (by decide)
def okW0(w:List Z):Prop:=w.length<=4/\w.all (flat 4)=lS
def OkR0(l:List Rw):Prop:=∀r∈l,okW0 r.w
def OkR.weak(h:OkR l):OkR0 l:=λr hr=>(h r hr).2
def a1o:P3:=λws G R=>∃p ps,ws=[.ref p]/\G p=bo (.lst (ps.map Rw.z))/\OkR0 ps/\ps.length<=1000/\∀t,G t=lR->R (.ref t) (put G t (.lst ((join ps).map Rw.z)))
def b3M{G:Hq}{R:K3}{a b:Z}{w:List Z}(h:R (.tup w) G):zSl (.tup (a::b::w)) (bo 2) lR G R:=b7W a9f (by rw[cut2];show h)
def a9g{w:List Z}(h:okW0 w):flat 8 (.tup w)=lS:=a6t (n:=4) (m:=7) (by decide) h.2
set_option tactic.hygienic true in
theorem a6v:∀(ps told:List Rw),OkR0 told->OkR0 ps->OkR0 (ps.foldl jn told)
 |[],_,h,_=>h
 |p::ps,told,h,h'=>by
  show a6v ps _ (λr a=>?_) λr a=>h' r (.tail _ a);unfold jn at a
  split at a
  .next l hl=>
   split at a
   .let a||a:=aP.mp a
    .show h r (gQ _ a)
    .rw[aS.mp a];show h' p (.head _)
   .let a||a:=aP.mp a
    .show h r a
    .rw[aS.mp a];show h' p (.head _)
  .let a||a:=aP.mp a
   .show h r a
   .rw[aS.mp a];show h' p (.head _)
def b6D(told:List Rw)(p:Rw):(jn told p).length<=told.length+1:=by
 unfold jn
 split
 .split<;>simp
 .simp
def b07:∀(ps told:List Rw),(ps.foldl jn told).length<=told.length+ps.length:=by ext z0;induction z0 with
 |nil=>ext told;simp
 |cons p ps I0=>
  ext told;let b:=I0 (jn told p);let a:=b6D told p
  change (ps.foldl jn (jn told p)).length<=_
  rw[be]
  lia
def a9h{ps:List Rw}(h:ps[i]?=bo p):(ps.take (i+1)).foldl jn []=jn ((ps.take i).foldl jn []) p:=by
 rw[cN,h];simp
set_option tactic.hygienic true in
def a1p(T:Txt K mg base a):Cal P w K mg base CX0 1 "with_alike_joined" (lowP K a1o):=by
 show fnc 1 (N:=["pieces","told","piece"]) T.br (T.f 3 _ rfl) ?_;walk_at "in";show(_,(a0c (by ac_rfl)
  (a0c (a1g (pt:=(.nm 2)) iz.never rfl (by ac_rfl) (p_nm (nmI 2 nd))
  (a0L (z_if (by ac_rfl)
  (a0L (a1u (by ac_rfl) (qv 1) (by ac_rfl) b0i))
  (by ac_rfl))))
  (by ac_rfl))),?_)
 let(p,ps,rfl,hp,hok,hz,q):=h;lk;show(lenK rfl,λt ht=>?_);lk;show a1i (a0b hp ht) ?_;show a0H (λi σ G'=>∃v,σ=[bo (.ref p),bo (.ref t),v]/\G'=put G t (.lst (((ps.take i).foldl jn []).map Rw.z))) (_,rfl,by simp) (by ext i σ G' _ ⟨v,_,e⟩;show by rw[e];show a0b hp ht) ?_ ?_
 .ext i x σ G' hx ⟨v,rfl,rfl⟩;rw[aR]at hx;cases hx':ps[i]? with
  |none=>rw[hx']at hx;cases hx
  |some r=>
   rw[hx']at hx;cases hx;let hr:=hok r (bp hx');let hot:OkR0 ((ps.take i).foldl jn []):=a6v _ _ (λr hr=>by simp at hr) λr hr=>hok r (dr hr);let hlt:=b07 (ps.take i) [];rw[bh]at hlt;let hi:=(aT.mp hx').1;rw[a9h hx'];generalize (ps.take i).foldl jn []=told at hot hlt ⊢;simp only[List.length_nil]at hlt;show(_,rfl,?_);let app:∀G',G'=put G t (.lst (told.map Rw.z))->jn told r=told++[r]->a2W (.ref t) [r.z] G' (λ_ G1=>∃v,([bo (.ref p),bo (.ref t),bo r.z]:S3)=[bo (.ref p),bo (.ref t),v]/\G1=put G t (.lst ((jn told r).map Rw.z))):=by
    ext _ rfl e;show a0u a0a (by rw[aN];show a0e (by lia)) (_,rfl,?_);rw[a1s,e,aV]
    rfl
   lk;show b1M a0a ?_;cases hl:told.getLast? with
   |none=>
    let e0:told=[]:=ft.mp hl;subst e0;show ifF ?_;lk;show a04 a0a ?_;lk;show app _ rfl (by unfold jn;rw[hl])
   |some k=>
    let hne:told≠[]:=λz=>by subst z;simp at hl
    let hlm:(told.map Rw.z).getLast?=bo k.z:=by rw[gR,hl];rfl
    let he:(told.map Rw.z).isEmpty=lT:=by cases told with |nil=>show absurd rfl hne |cons _ _=>rfl
    let hk:=hot k (gU hl);rw[he];show ifT ?_;lk;show a0y a0a (a2r hlm) ?_;lk;show a06 at1 ?_;lk;show a06 at0 ?_;show b16 ?_;lk;show ifD (λc1=>?_) λc1=>?_
    .lk;show a0y a0a (a2r hlm) ?_;lk;show b3M ?_;lk;show b3M ?_;show b8s (a9g hk) (a9g hr) ?_;lk;show ifD (λc2=>?_) λc2=>?_
     .lk;show a0y a0a (a2r hlm) ?_;lk;show a06 at0 ?_;lk;show a06 at1 ?_;lk;show(lenK rfl,?_);lk;show b3M ?_;show a8h (by simp) (a0S (by let:=hr.1;simp;lia)) ?_;lk;show b0k a0a (a5D (by rw[aN];show cw.mpr hne)) ?_;show(_,rfl,?_);rw[a1s,a6u hlm]
      congr 1
      unfold jn;rw[hl];dsimp only;rw[if_pos (c1,c2),aV,gX]
      rfl
     .lk;show a04 a0a ?_;lk;show app _ rfl (by unfold jn;rw[hl];dsimp only;rw[if_neg λz=>c2 z.2])
    .show ifF ?_;lk;show a04 a0a ?_;lk;show app _ rfl (by unfold jn;rw[hl];dsimp only;rw[if_neg λz=>c1 z.1])
 .ext σ G' ⟨v,rfl,rfl⟩;lk;rw[aN,bX];show q t ht
def b08(h:over r m=lS):r.has m=lT:=by
 unfold over at h;unfold Rw.has;cases he:r.e with
 |none=>rw[he]at h;cases h
 |some e=>
  rw[he]at h;simp at h;simp only[bef];rw[decide_eq_false (show ¬ m<e by lia),gO]
def a9i(h:m<=m')(o:over r m=lS):over r m'=lS:=by
 unfold over at o ⊢;cases he:r.e with
 |none=>rw[he]at o;cases o
 |some e=>rw[he]at o;simp at o ⊢;lia
theorem a6w:∀{l:List Rw}{m:Int}{k:Nat},(∀(i:Nat) r,i<k->l[i]?=bo r->over r m=lS)->val l m=val (l.drop k) m
 |l,m,0,_=>rfl
 |[],m,k+1,_=>rfl
 |r::l,m,k+1,h=>by
  rw[a0j,b08 (h 0 r (by simp) rfl),if_neg (by simp),List.drop_succ_cons];show a6w λi s a e=>h (i+1) s (by lia) (by grind)
def b09(h:Rise (r::l))(o:over r m=lT):val (r::l) m=if r.b<=m then bo r.w else lR:=by
 rw[a0j];let d:bef m r.e=lS:=by
  unfold over at o;cases he:r.e with
  |none=>rfl
  |some e=>rw[he]at o;simp at o;simp only[bef,decide_eq_true_eq];cbv
 by_cases c:r.b<=m
 .let:r.has m=lS:=by unfold Rw.has;rw[d,decide_eq_true c];rfl
  rw[this,if_pos rfl,if_pos c]
 .rw[a3b (by lia),if_neg (by simp),if_neg c];show a01 λs a=>a3b ?_
  let:=((aW.mp h.2).1 s a).b (h.1 r (.head _))
  lia
def Rise.drop(h:Rise l)(k:Nat):Rise (l.drop k):=(λr a=>h.1 r (d7 a),h.2.sublist (d6 _ _))
def drop_get{α:Type}{l:List α}{x:α}(h:l[k]?=bo x):l.drop k=x::l.drop (k+1):=by
 let(b,a):=aT.mp h;rw[cD b,a]
def a3l:P3:=λws G R=>Ex4 λ(p q:Addr) (l:List Rw) (ms:List Int)=>ws=[.ref p,.ref q]/\G p=bo (.lst (l.map Rw.z))/\G q=bo (.lst (ms.map Z.int))/\Rise l/\OkR l/\l.length<=1000/\ms.Pairwise (·<=·)/\ms.length<=1000 /\
 ∀t,G t=lR->R (.ref t) (put G t (.lst (ms.map λm=>wz (val l m))))
def a5E{l:List Rw}{k:Nat}(h:l[k]?=bo r):atI (l.map Rw.z) (k:Int)=bo r.z:=a0F (by simp_all)
def take_snoc{α:Type}{l:List α}{x:α}(h:l[i]?=bo x):l.take (i+1)=l.take i++[x]:=by rw[cN,h];rfl
set_option tactic.hygienic true in
def a3m(T:Txt K mg base a):Cal P w K mg base CX0 2 "worths_in" (lowP K a3l):=by
 show fnc 2 (N:=["line","moments","worths","at","moment"]) T.br (T.f 2 _ rfl) ?_;walk_at "in";show(_,(a0c (by ac_rfl)
  (a0c (by ac_rfl)
  (a0c (a1g (pt:=(.nm 4)) iz.never rfl (by ac_rfl) (p_nm (nmI 4 nd))
  (a2T (a5g iz.never (by ac_rfl)
  (by ac_rfl))
  (by ac_rfl)))
  (by ac_rfl)))),?_)
 let(p,q,l,ms,rfl,hp,hq,hr,hok,hz,hm,hmz,fin):=h;lk;show(lenK rfl,λt ht=>?_);lk;show a1i (a0b hq ht) ?_;show a0H (λi σ G'=>Ex2 λ(k:Nat) (v:Option Z)=>An4 (k<=l.length) (∀(j:Nat) r m,j<k->l[j]?=bo r->ms[i]?=bo m->over r m=lS) (σ=[bo (.ref p),bo (.ref q),bo (.ref t),bo (.int k),v]) (G'=put G t (.lst ((ms.take i).map λm=>wz (val l m))))) (0,_,bv _,λj r m hj=>by lia,rfl,by simp) (by ext i σ G' _ ⟨_,_,_,_,_,e⟩;show by rw[e];show a0b hq ht) ?_ ?_
 .ext i x σ G' hx ⟨k,v,hk,hov,rfl,rfl⟩;rw[aR]at hx;cases hx':ms[i]? with
  |none=>rw[hx']at hx;cases hx
  |some m=>
   rw[hx']at hx;cases hx;show(_,rfl,?_);lk;let hp':put G t (.lst ((ms.take i).map λm=>wz (val l m))) p=bo (.lst (l.map Rw.z)):=a0b hp ht;generalize hG:put G t (.lst ((ms.take i).map λm=>wz (val l m)))=G1 at hp' ⊢;show a2X (fun σ' G'=>∃(k':Nat),An5 (k'<=l.length) (∀(j:Nat) r,j<k'->l[j]?=bo r->over r m=lS) (∀r,l[k']?=bo r->over r m=lT) (σ'=[bo (.ref p),bo (.ref q),bo (.ref t),bo (.int k'),bo (.int m)]) (G1=G')) ?_ ?_
   .show(λn σ' G'=>∃k':Nat,n+k'=l.length/\(∀(j:Nat) r,j<k'->l[j]?=bo r->over r m=lS)/\σ'=[bo (.ref p),bo (.ref q),bo (.ref t),bo (.int k'),bo (.int m)]/\G1=G',(l.length-k,k,by lia,λj r hj e=>hov j r m hj e hx',rfl,rfl),?_);ext n σ' G' ⟨k',hn,ho,rfl,rfl⟩;lk;show a2B hp' ?_;lk;show ifD (λc=>?_) λc=>?_
    .rw[aN]at c;let hlt:k'<l.length:=by lia
     let hg:=aU hlt;lk;show a0y hp' (a5E hg) ?_;lk;show(_,_,rfl,?_);lk;show ifB (λc2=>?_) λc2=>?_
     .lk;show(n-1,by lia,k'+1,by lia,λj r hj e=>?_,rfl,rfl)
      by_cases hjk:j<k'
      .show ho j r hjk e
      .let:j=k':=by lia
       subst this;rw[hg]at e;cases e;show c2
     .show(k',by lia,ho,λr e=>by rw[hg]at e;cases e;show c2,rfl,rfl)
    .rw[aN]at c;show ifF ?_;show(k',by lia,ho,λr e=>by let:=(aT.mp e).1;lia,rfl,rfl)
   .ext σ' G' ⟨k',hk',ho,hn,rfl,rfl⟩;let hv:val l m=val (l.drop k') m:=a6w ho;let nxt:∀w:Z,w=wz (val l m)->a2W (.ref t) [w] G1 (λ_ G2=>Ex2 λ(k:Nat) (v:Option Z)=>An4 (k<=l.length) (∀(j:Nat) r m,j<k->l[j]?=bo r->ms[i+1]?=bo m->over r m=lS) (([bo (.ref p),bo (.ref q),bo (.ref t),bo (.int k'),bo (.int m)]:S3)=[bo (.ref p),bo (.ref q),bo (.ref t),bo (.int k),v]) (G2=put G t (.lst ((ms.take (i+1)).map λm=>wz (val l m))))):=by
     ext w rfl;subst hG;let hi:=(aT.mp hx').1;show a0u a0a (by rw[aN,bh];show a0e (by lia)) (k',_,hk',λj r m' hj e e'=>a9i ?_ (ho j r hj e),rfl,?_)
     .let(h1,e1):=aT.mp hx';let(h2,e2):=aT.mp e';rw[<- e1,<- e2];show bR.mp hm _ _ h1 h2 (by lia)
     .rw[a1s,take_snoc hx',aV];rfl
    let ht1:∃ws,G1 t=bo (.lst ws):=by rw[<- hG];show(_,a0a)
    let(wt,ht1):=ht1;lk;show a2B hp' ?_;lk;show ifD (λc=>?_) λc=>?_
    .rw[aN]at c;let hlt:k'<l.length:=by lia
     let hg:=aU hlt;let hv2:=b09 (by rw[<- drop_get hg];show hr.drop k') (hn _ hg);rw[<- drop_get hg,<- hv]at hv2;lk;show a0y hp' (a5E hg) ?_;lk;show a06 at0 ?_;lk;show ifD (λc2=>?_) λc2=>?_
     .lk;show a04 ht1 ?_;lk;show a0y hp' (a5E hg) ?_;lk;let hw:=hok _ (bN hlt);obtain⟨x,xs,ex⟩:∃x xs,(l[k']).w=x::xs:=by
       cases e:(l[k']).w with
       |nil=>show absurd e hw.1
       |cons x xs=>show(x,xs,rfl)
      show a06 (w:=x) (by change atI (_::_::(l[k']).w) 2=bo x;rw[ex];show at2) ?_;lk;show nxt x ?_;rw[hv2,if_pos c2,ex];rfl
     .lk;show a04 ht1 ?_;lk;show nxt .non ?_;rw[hv2,if_neg c2];rfl
    .rw[aN]at c;show ifF ?_;lk;show a04 ht1 ?_;lk;show nxt .non ?_;rw[hv,dJ (by lia)];rfl
 .ext σ G' ⟨k,v,_,_,rfl,rfl⟩;lk;rw[aN,bX];show fin t ht
def okV(z:Z):Prop:=flat 4 z=lS
def b6E(h:okV z):okW [z]:=(by simp,by simp,by rw[bG,h];rfl)
def leS(a b:Str):Prop:=PySem.Spec.ltCps b.cps.toList a.cps.toList=lT
def a9j{a b:Str}:leS a b↔¬ b.cps.toList<a.cps.toList:=by unfold leS;rw[PyProof.Rows.ltCps_eq];simp
def a9k{a b c:Str}(h:leS a b)(g:leS b c):leS a c:=by
 rw[a9j]at *;show List.le_trans (α:=Nat) h g
def b1a{a b:Str}(h:leS a b)(g:leS b a):a=b:=by
 rw[a9j]at *;let e:a.cps.toList=b.cps.toList:=List.le_antisymm (α:=Nat) h g;cases a;cases b;o_head e
def b8t:∀{l:List Str}{p:Str},PyProof.Rows.risingS p l=lS->(p::l).Pairwise leS:=by ext z0;induction z0 with
 |nil=>ext p _;show eS _ _
 |cons x r I0=>
  ext p h;unfold PyProof.Rows.risingS at h;rw[b7,Bool.not_eq_true']at h;let b:=I0 h.2;show aW.mpr (λy a=>?_,b);let rfl||a:=aO.mp a
  .show h.1
  .show a9k h.1 (fv b a)
theorem b3N:∀{l:List Str},PyProof.Rows.sortedS l=lS->l.Pairwise leS
 |[],_=>cu.nil
 |_::_,h=>b8t h
theorem a3c:∀{xs ys:List Str},xs.Pairwise leS->ys.Pairwise leS->xs.Perm ys->xs=ys
 |[],ys,_,_,h=>(List.nil_perm.mp h).symm
 |x::xs,[],_,_,h=>by let:=h.length_eq;simp at this
 |x::xs,y::ys,h1,h2,h=>by
  let e:x=y:=by
   let c:=h.mem_iff.mp (bU);let b:=h.mem_iff.mpr (bU);let e||c:=aO.mp c
   .cbv
   .let e||b:=aO.mp b
    .simp_all
    .show b1a (fv h1 b) (fv h2 c)
  subst e;rw[a3c (aW.mp h1).2 (aW.mp h2).2 h.cons_inv]
def isL(c:Nat):Prop:=97<=c/\c<=122
def nmOk(s:Str):Prop:=1<=s.cps.toList.length/\s.cps.toList.length<=8/\∀c∈s.cps.toList,isL c
def a1S(s:Str):s.length=s.cps.toList.length:=by rw[bu];rfl
def b6S:(Str.ofString "abcdefghijklmnopqrstuvwxyz").cps.toList=[97,98,99,100,101,102,103,104,105,106,107,108,109,110,111,112,113,114,115,116,117,118,119,120,121,122]:=by decide +kernel
def b17(h0:0<=k)(h1:k<26):atI (Str.ofString "abcdefghijklmnopqrstuvwxyz").cps.toList k=bo (97+k.toNat):=by
 let(j,rfl):=cF h0;let a:j<26:=by lia
 show a0F ?_
 let:∀j:Fin 26,([97,98,99,100,101,102,103,104,105,106,107,108,109,110,111,112,113,114,115,116,117,118,119,120,121,122])[j.1]?=bo (97+j.1):=by decide
 show this (j,a)
def b1b(h:∀c∈s.cps.toList,isL c):PyData.strOk s=lS:=by
 unfold PyData.strOk;rw[Array.all_eq_true_iff_forall_mem];ext c a
 let:=(h c (by simp_all)).2
 show decide_eq_true (by lia)
def a4g(h:nmOk s):flat n (.str s)=lS:=by
 let:=b1b h.2.2
 cases n<;>show this
def a2d(a b:Str):(a++b).cps.toList=a.cps.toList++b.cps.toList:=by
 change (a.cps++b.cps).toList=_
 rw[Array.toList_append]
def b3O:P3:=λws G R=>∃r,ws=[.ref r]/\RowAt G r/\∀s G',nmOk s->RowAt G' r->Kq r G G'->R (.str s) G'
set_option tactic.hygienic true in
def b3P(T:Txt K mg base a):Cal P w K mg base CX0 2 "_law_name" (lowP K b3O):=by
 show fnc 1 (N:=["row","letters","name","k"]) T.br (T.f 11 _ rfl) ?_;walk_at "in";show(_,(by ac_rfl),?_);let(r,rfl,hR,q):=h;lk;show a0B hR (by decide) (by decide) λf y w f0 f1 ok=>?_;lk;show(by lia,by lia,?_);let hR1:RowAt (put G r (RowO y w)) r:=RowAt.at ok;show a0H (λi σ G'=>Ex2 λ(s:Str) (v:Option Z)=>An5 (s.cps.toList.length=i) (∀c∈s.cps.toList,isL c) (σ=[bo (.ref r),bo (.str (Str.ofString "abcdefghijklmnopqrstuvwxyz")),bo (.str s),v]) (RowAt G' r) (Kq r G G')) (Str.ofString "",_,by decide +kernel,λc h=>absurd h (by rw[show (Str.ofString "").cps.toList=[] by decide +kernel];simp),rfl,hR1,Kq.at) (λ_ _ _ _ _=>True.intro) ?_ ?_
 .ext i x σ G' hx ⟨s,v,hs,hl,rfl,hR',hK⟩;let(hi,rfl):=a2V hx;show(_,rfl,?_);lk;show a0B hR' (by decide) (by decide) λg y2 w2 g0 g1 ok2=>?_;show b2V (lenK rfl) (b17 g0 g1) ?_;show a8g (a0S (by rw[a1S,hs];change i+1<=1000;lia)) ?_;lk;show(_,_,?_,?_,rfl,RowAt.at ok2,hK.trans Kq.at)
  .rw[a2d,bg,hs];rfl
  .ext c hc;rw[a2d]at hc;let hc||hc:=aP.mp hc
   .show hl c hc
   .let:c=97+g.toNat:=↑hc
    unfold isL
    lia
 .ext σ G' ⟨s,v,hs,hl,rfl,hR',hK⟩;rw[a1A]at hs;lk;show q s G' (by lia,by lia,hl) hR' hK
noncomputable def nx(L:List Nat)(p i:Nat):List Nat:=L.set p (97+(L.getD p 0-97+i) % 26)
noncomputable def nxS(L:List Nat)(p i:Nat):Str:=⟨(nx L p i).toArray⟩
def b3Q(hp:p<L.length)(hl:∀c∈L,isL c):nx L p 0=L:=by
 unfold nx;let e:L.getD p 0=L[p]:=by simp_all
 let:=hl L[p] (bN hp)
 unfold isL at this;rw[e,et,Nat.mod_eq_of_lt (by lia),show 97+_=L[p] by lia];show List.set_getElem_self hp
def b18(hp:p<L.length):(nx L p i)[p]?=bo (97+(L.getD p 0-97+i) % 26):=by
 unfold nx;rw[dB hp]
def b6F(hp:p<L.length)(hi:i<26)(hj:j<26)(h:nxS L p i=nxS L p j):i=j:=by
 let a:nx L p i=nx L p j:=by
  unfold nxS at h
  let:=congrArg (λs:Str=>s.cps.toList) h
  o_head this
 let:=congrArg (·[p]?) a
 simp only[b18 hp,bo.injEq]at this
 lia
def a4Y:(nx L p i).length=L.length:=by unfold nx;rw[eN]
def b8u(hl:∀c∈L,isL c):∀c∈nx L p i,isL c:=by grind [isL,nx]
def b3R(hp:p<L.length):(nx L p i).take p++[97+(L.getD p 0-97+i+1) % 26]++(nx L p i).drop (p+1)=nx L p (i+1):=by
 unfold nx;rw[fZ (aQ _),fY (by simp),List.set_eq_take_append_cons_drop,if_pos hp];simp[dw]
def b1c(h:isL c):a8B (Str.ofString "abcdefghijklmnopqrstuvwxyz") ⟨#[c]⟩=(c-97:Nat):=by
 let(a,b):=h
 let:∀j:Fin 26,a8B (Str.ofString "abcdefghijklmnopqrstuvwxyz") ⟨#[97+j.1]⟩=(j.1:Int):=by decide +kernel
 let:=this (c-97,by cbv)
 simp only at this;rw[show 97+(c-97)=c by lia]at this;show this
noncomputable def left(ns:List Str)(S:Nat->Str)(i:Nat):Nat:=(ns.filter λn=>(bt 26).any λj=>decide (i<=j)&&decide (n=S j)).length
theorem a4Z{α:Type}{P Q:α->Bool}:∀{l:List α}{x:α},(∀y,Q y=lS->P y=lS)->x∈l->P x=lS->Q x=lT->(l.filter Q).length<(l.filter P).length
 |y::l,x,h,hx,hp,hq=>by
  let b:∀l:List α,(l.filter Q).length<=(l.filter P).length:=by
   ext l
   induction l with
   |nil=>simp
   |cons z l a=>
    rw[cU,cU];cases hz:Q z with
    |true=>rw[h z hz];simp;show a
    |false=>cases P z<;>simp<;>cbv
  rw[cU,cU];let rfl||hx:=aO.mp hx
  .grind
  .let a:=a4Z h hx hp hq;cases hz:Q y with
   |true=>rw[h y hz];simp;show a
   |false=>cases P y<;>simp<;>cbv
def b3S(hS:∀i j,i<26->j<26->S i=S j->i=j)(hi:i<26)(h:S i∈ns):left ns S (i+1)<left ns S i:=by
 show a4Z (λy c=>?_) h ?_ ?_
 .let(j,b,a):=cx.mp c;simp at a;show cx.mpr (j,b,by simp;show(by lia,a.2))
 .show cx.mpr (i,cB.mpr hi,by simp)
 .rw[dD];ext j d;simp;ext b a
  let:=hS i j hi (cB.mp d) a
  lia
def b3T{ns:List Str}{S:Nat->Str}:left ns S 0<=ns.length:=fw _ _
def a6x{ns:List Str}:(Z.str s∈ns.map Z.str)=(s∈ns):=by simp
def a3H{ns:List Str}(h:∀s∈ns,nmOk s):(ns.map Z.str).all (flat 8)=lS:=by
 rw[bL];ext x a;let(s,b,rfl):=bf.mp a;show a4g (h s b)
def b1d:P3:=λws G R=>∃r n,ws=[.ref r,.int n]/\RowAt G r/\1<=n/\n<=20/\∀(t:Addr)(ns:List Str)(G':Hq),G t=lR->G' t=bo (.lst (ns.map Z.str))->(ns.length:Int)=n->(∀s∈ns,nmOk s)->ns.Nodup->RowAt G' r->Kq r G G'->R (.ref t) G'
def RowAt.ne(h:RowAt G r)(n:G D=lR):r≠D:=by let(_,_,e,_):=h;show a0g e n
def RowAt.kq(h:RowAt G r)(k:Kq p G G')(n:r≠p):RowAt G' r:=by let(x,w,e,o):=h;show(x,w,k r _ e n,o)
def a0D(l:List Nat):(⟨l.toArray⟩:Str).cps.toList=l:=by simp
def a9l{a b:Str}(h:a.cps.toList=b.cps.toList):a=b:=by
 let⟨⟨x⟩⟩:=a;let⟨⟨y⟩⟩:=b;o_head h
abbrev ABC:Z:=.str (Str.ofString "abcdefghijklmnopqrstuvwxyz")
set_option tactic.hygienic true in
def b1e(T:Txt K mg base a):Cal P w K mg base CX0 3 "_law_names" (lowP K b1d):=by
 show fnc 2 (N:=["row","many","letters","names","name","at","sign"]) T.br (T.f 12 _ rfl) ?_;walk_at "in";show(_,(a0c (by ac_rfl)
  (a0c (by ac_rfl)
  (a2T (a5g iz.never (by ac_rfl)
  (a0c (by ac_rfl)
  (a2T (by ac_rfl)
  (a0c (by ac_rfl)
  (a2T (a5g iz.never (by ac_rfl)
  (by ac_rfl))
  (by ac_rfl))))))
  (by ac_rfl)))),?_)
 let(r,n,rfl,hR,h1,h2,q):=h;lk;show(r,rfl,hR,λs0 G1 hs0 hR1 hK1=>?_);lk;show(lenK rfl,λt ht=>?_);lk;let hne:=hR1.ne ht;let ht0:G t=lR:=by
  cases e:G t with
  |none=>rfl
  |some o=>rw[hK1 t o e (Ne.symm hne)]at ht;cases ht
 show a2X (fun σ' G'=>Ex4 λ(ns:List Str) (v1 v2 v3:Option Z)=>An7 ((ns.length:Int)=n) (∀s∈ns,nmOk s) ns.Nodup (G' t=bo (.lst (ns.map Z.str))) (RowAt G' r) (Kq r G G') (σ'=[bo (.ref r),bo (.int n),bo ABC,bo (.ref t),v1,v2,v3])) ?_ ?_
 .show(λm σ' G'=>Ex4 λ(ns:List Str) (v1 v2 v3:Option Z)=>(ns.length:Int)+m=n/\1<=ns.length/\(∀s∈ns,nmOk s)/\ns.Nodup/\G' t=bo (.lst (ns.map Z.str))/\RowAt G' r/\Kq r G G'/\σ'=[bo (.ref r),bo (.int n),bo ABC,bo (.ref t),v1,v2,v3],(n.toNat-1,[s0],_,_,_,by simp;lia,by simp,λs hs=>by rw[aS.mp hs];show hs0,by simp,a0a,hR1.new ht,hK1.trans (Kq.new ht),rfl),?_);ext m σ' G' ⟨ns,v1,v2,v3,hm,hpos,hns,hnd,hgt,hR',hK,rfl⟩;lk;show a2B hgt ?_;lk;rw[aN];show ifD (λc=>?_) λc=>?_
  .lk;obtain⟨a,as,ea⟩:∃a as,ns=a::as:=by cases ns with |nil=>simp at hpos |cons a as=>show(a,as,rfl)
   show a0y hgt (w:=.str a) (by rw[ea];show at0) ?_;lk;show a2X (fun σ' G2=>Ex3 λ(s:Str) (v2 v3:Option Z)=>An5 (nmOk s) (G2 t=bo (.lst (ns.map Z.str))) (RowAt G2 r) (Kq r G G2) (σ'=[bo (.ref r),bo (.int n),bo ABC,bo (.ref t),bo (.str s),v2,v3])) ?_ ?_
   .lk;show a0B hR' (by decide) (by decide) λf y w f0 f1 ok=>?_;let gt2:put G' r (RowO y w) t=bo (.lst (ns.map Z.str)):=by rw[a0d (Ne.symm hne)];show hgt
    lk;show ifD (λ_=>?_) λ_=>?_
    .lk;show(r,rfl,RowAt.at ok,λs G3 hs hR3 hK3=>?_);lk;show(s,_,_,hs,hK3 _ _ gt2 (Ne.symm hne),hR3,(hK.trans Kq.at).trans hK3,rfl)
    .lk;show(a,_,_,hns a (by rw[ea];simp),gt2,RowAt.at ok,hK.trans Kq.at,rfl)
   .ext σ2 G2 ⟨s,u2,u3,hs,hgt2,hR2,hK2,rfl⟩;lk;show b5E (a0S (by rw[a1S];let:=hs.2.1;lia)) ?_;lk;show a0B (n:=(s.length:Int)) hR2 (by rw[a1S];let:=hs.1;lia) (by rw[a1S];let:=hs.2.1;lia) λf y w f0 f1 ok=>?_;let gt3:put G2 r (RowO y w) t=bo (.lst (ns.map Z.str)):=by rw[a0d (Ne.symm hne)];show hgt2
    let hR3:RowAt (put G2 r (RowO y w)) r:=RowAt.at ok;let hK3:Kq r G (put G2 r (RowO y w)):=hK2.trans Kq.at
    generalize put G2 r (RowO y w)=G3 at gt3 hR3 hK3 ⊢;let(p,rfl):=cF f0;let hp:p<s.cps.toList.length:=by rw[a1S]at f1;lia
    lk;show a2X (fun σ' G'=>Ex2 λ(s:Str) (v3:Option Z)=>An4 (nmOk s) (s∉ns) (G'=G3) (σ'=[bo (.ref r),bo (.int n),bo ABC,bo (.ref t),bo (.str s),bo (.int p),v3])) ?_ ?_
    .let hS:∀i j,i<26->j<26->nxS s.cps.toList p i=nxS s.cps.toList p j->i=j:=λi j hi hj h=>b6F hp hi hj h;show(λm σ' G'=>∃(i:Nat)(v3:Option Z),m=left ns (nxS s.cps.toList p) i/\i+m<=ns.length/\G'=G3/\σ'=[bo (.ref r),bo (.int n),bo ABC,bo (.ref t),bo (.str (nxS s.cps.toList p i)),bo (.int p),v3],(_,0,_,rfl,by let:=@b3T ns (nxS s.cps.toList p);lia,rfl,by rw[show nxS s.cps.toList p 0=s from a9l (by unfold nxS;rw[a0D,b3Q hp hs.2.2])];rfl),?_);ext m' σ' G' ⟨i,v3,rfl,hle,rfl,rfl⟩;let hnm:nmOk (nxS s.cps.toList p i):=by
      unfold nxS;show(?_,?_,?_)
      .rw[a0D,a4Y];show hs.1
      .rw[a0D,a4Y];show hs.2.1
      .rw[a0D];show b8u hs.2.2
     lk;show b7Y gt3 (a4g hnm) (a3H hns) ?_;lk;show ifD (λc=>?_) λc=>?_
     .rw[a6x]at c;let hi:i<26:=by lia
      let hlt:=b3S hS hi c;let hsz:(nxS s.cps.toList p i).length<=sizeLine:=a0S (by rw[a1S];let:=hnm.2.1;lia);let hcl:(nxS s.cps.toList p i).cps.toList=nx s.cps.toList p i:=a0D _;let hch:isL (97+(s.cps.toList.getD p 0-97+i) % 26):=by unfold isL;lia
      lk;show b2V hsz (a0F (by rw[hcl];show b18 hp)) ?_;lk;show i_I (show (0:Int)<26 by decide) ?_;rw[b1c hch];show b2V (lenK rfl) (b17 (by lia) (by lia)) ?_;let hk:97+((((97+(s.cps.toList.getD p 0-97+i) % 26-97:Nat):Int)+1) % 26).toNat=97+(s.cps.toList.getD p 0-97+i+1) % 26:=by lia
      rw[hk];lk;show b5C hsz ?_;lk;show a8g (a0S ?_) ?_
      .let:=Txt.slice_le (nxS s.cps.toList p i) lR (bo (p:Int))
       rw[a1S]at this;let h8:=hnm.2.1
       change (Txt.slice (nxS s.cps.toList p i) lR (bo (p:Int))).length+1<=1000
       rw[a1S];rw[a1S]at this
       lia
      lk;show b5C hsz ?_;let e1:Txt.slice (nxS s.cps.toList p i) lR (bo (p:Int))=⟨((nx s.cps.toList p i).take p).toArray⟩:=by
       let:=eq_of_beq (PyProof.Rows.slice_closes_to (x:=nxS s.cps.toList p i) (j:=(p:Int)) (by lia,by rw[hcl,a4Y];lia))
       rw[this,hcl];simp
      let e2:Txt.slice (nxS s.cps.toList p i) (bo ((p:Int)+1)) lR=⟨((nx s.cps.toList p i).drop (p+1)).toArray⟩:=by
       let:=PyProof.Rows.slice_from_eq (x:=nxS s.cps.toList p i) (i:=(p:Int)+1) (b:=((nxS s.cps.toList p i).length:Int)) (by lia) (by rw[a1S,hcl,a4Y];lia) rfl
       rw[this,hcl,a1S,hcl];rw[cE (by rw[bI];lia)]
       rfl
      show a8g (a0S ?_) ?_
      .let a1:(Txt.slice (nxS s.cps.toList p i) lR (bo (p:Int))).length=p:=by
        rw[e1,a1S,a0D,bh,a4Y];lia
       let a2:=Txt.slice_le (nxS s.cps.toList p i) (bo ((p:Int)+1)) lR;rw[a1S (nxS s.cps.toList p i)]at a2;let a3:(Txt.slice (nxS s.cps.toList p i) lR (bo (p:Int))++(⟨#[97+(s.cps.toList.getD p 0-97+i+1) % 26]⟩:Str)).length=p+1:=by
        rw[a1S,a2d,bg,<- a1S,a1];rfl
       rw[a3]
       let:=hnm.2.1
       let:=hs.2.1
       lia
      let e3:Txt.slice (nxS s.cps.toList p i) lR (bo (p:Int))++(⟨#[97+(s.cps.toList.getD p 0-97+i+1) % 26]⟩:Str)++Txt.slice (nxS s.cps.toList p i) (bo ((p:Int)+1)) lR=nxS s.cps.toList p (i+1):=by
       show a9l ?_;rw[a2d,a2d,e1,e2,a0D,a0D];unfold nxS;rw[a0D,<- b3R hp]
      rw[e3];lk;show(_,hlt,i+1,_,rfl,by lia,rfl,rfl)
     .rw[a6x]at c;show(_,_,hnm,c,rfl,rfl)
    .ext σ4 G4 ⟨s4,v3,hs4,hn4,rfl,rfl⟩;lk;show a04 gt3 ?_;lk;show a0u gt3 (by rw[aN];show a0e (by lia)) ?_;show(m-1,by lia,ns++[s4],_,_,_,by simp;lia,by simp,λs h=>?_,b9.mpr (hnd,by simp,λx hx y hy=>by rw[aS.mp hy];ext rfl;show hn4 hx),by rw[a0a,aV];rfl,?_,?_,rfl)
     .let h||h:=aP.mp h
      .show hns s h
      .rw[aS.mp h];show hs4
     .show hR3.kq Kq.at hne
     .show λb o e nb=>by
       let hb:=hK3 b o e nb;rw[a0d]
       .show hb
       .ext rfl;rw[ht0]at e;cases e
  .show(ns,_,_,_,by lia,hns,hnd,hgt,hR',hK,rfl)
 .ext σ' G' ⟨ns,v1,v2,v3,hm,hns,hnd,hgt,hR',hK,rfl⟩;lk;show q t ns G' ht0 hgt hm hns hnd hR' hK
noncomputable def T12:Int:=1000000000000
def stOk(b:Int)(e:Option Int):Prop:=0<=b/\b<=T12/\∀x,e=bo x->b<x/\x<=T12
noncomputable def stOk.bef(h:stOk b e):bef b e=lS:=by
 cases e with
 |none=>rfl
 |some x=>simp only[Lw.bef,decide_eq_true_eq];show (h.2.2 x rfl).1
def a7h:P3:=λws G R=>∃r,ws=[.ref r]/\RowAt G r/\∀b e G',stOk b e->RowAt G' r->Kq r G G'->R (.tup [.int b,oz e]) G'
def at6{a b c d e f:Int}{k:Int}(h0:0<=k)(h1:k<6){P:Int->Prop}(pa:P a)(pb:P b)(pc:P c)(pd:P d)(pe:P e)(pf:P f):∃n,atI [Z.int a,.int b,.int c,.int d,.int e,.int f] k=bo (.int n)/\P n/\(k=0->n=a)/\(k=1->n=b):=by
 let:k=0\/k=1\/k=2\/k=3\/k=4\/k=5:=by cbv
 let rfl||rfl||rfl||rfl||rfl||rfl:=this
 .show(_,rfl,pa,λ_=>rfl,λh=>absurd h (by decide))
 .show(_,rfl,pb,λh=>absurd h (by decide),λ_=>rfl)
 .show(_,rfl,pc,λh=>absurd h (by decide),λh=>absurd h (by decide))
 .show(_,rfl,pd,λh=>absurd h (by decide),λh=>absurd h (by decide))
 .show(_,rfl,pe,λh=>absurd h (by decide),λh=>absurd h (by decide))
 .show(_,rfl,pf,λh=>absurd h (by decide),λh=>absurd h (by decide))
def a5F:(10:Int) ^ (12:Int).toNat=1000000000000:=by decide
set_option tactic.hygienic true in
def a7i(T:Txt K mg base a):Cal P w K mg base CX0 2 "_law_stretch" (lowP K a7h):=by
 show fnc 1 (N:=["row","kind","begin","end"]) T.br (T.f 13 _ rfl) ?_;walk_at "in";show(_,(a0c (by ac_rfl)
  (a0c (by ac_rfl)
  (a2T (by ac_rfl)
  (by ac_rfl)))),?_)
 let(r,rfl,hR,q):=h;lk;show a0B hR (by decide) (by decide) λkd y w d0 d1 ok=>?_;let hR1:RowAt (put G r (RowO y w)) r:=RowAt.at ok;let hK1:Kq r G (put G r (RowO y w)):=Kq.at
 generalize put G r (RowO y w)=G1 at hR1 hK1 ⊢;lk;show i_I (by decide,by decide,by decide) ?_;rw[a5F];lk;show(lenK rfl,λa ha=>?_);lk;let(n,hn,(hn0,hn1),hn2,hn3):=at6 (a:=1000000000000+1) (b:=12) (c:=20) (d:=20) (e:=20) (f:=20) (P:=λn=>0<n/\n<=1000000000001) d0 d1 (by decide) (by decide) (by decide) (by decide) (by decide) (by decide);show a0y a0a hn ?_;lk;show a0B (n:=n) (hR1.new ha) hn0 (by lia) λf y2 w2 f0 f1 ok2=>?_;let hK2:Kq r G (put (put G1 a (.lst [.int (1000000000000+1),.int 12,.int 20,.int 20,.int 20,.int 20])) r (RowO y2 w2)):=(hK1.trans (Kq.new ha)).trans Kq.at
 let hR2:RowAt (put (put G1 a (.lst [.int (1000000000000+1),.int 12,.int 20,.int 20,.int 20,.int 20])) r (RowO y2 w2)) r:=RowAt.at ok2;generalize put (put G1 a (.lst [.int (1000000000000+1),.int 12,.int 20,.int 20,.int 20,.int 20])) r (RowO y2 w2)=G2 at hR2 hK2 ⊢;lk;show a2X (fun σ' G'=>∃(b:Int),An4 (0<=b) (b<=T12) (G'=G2) (σ'=[bo (.ref r),bo (.int kd),bo (.int b),lR])) ?_ ?_
 .lk;show ifD (λc=>?_) λc=>?_
  .lk;show i_I (by decide,by decide,by decide) ?_;rw[a5F];lk
   let:=hn3 c
   show(1000000000000-f,by lia,by unfold T12;lia,rfl,rfl)
  .lk;show(f,f0,by unfold T12;lia,rfl,rfl)
 .ext σ' G' ⟨b,hb0,hb1,rfl,rfl⟩;lk;show a0B hR2 (by decide) (by decide) λkd2 y3 w3 e0 e1 ok3=>?_;let hR3:RowAt (put G' r (RowO y3 w3)) r:=RowAt.at ok3;let hK3:Kq r G (put G' r (RowO y3 w3)):=hK2.trans Kq.at
  generalize put G' r (RowO y3 w3)=G3 at hR3 hK3 ⊢;lk;show i_I (by decide,by decide,by decide) ?_;rw[a5F];lk;show(lenK rfl,λa2 ha2=>?_);lk;let(n2,hm,(hm0,hm1),_,_):=at6 (a:=1000000000000) (b:=1) (c:=4) (d:=12) (e:=30) (f:=30) (P:=λn=>0<n/\n<=1000000000001) e0 e1 (by decide) (by decide) (by decide) (by decide) (by decide) (by decide);show a0y a0a hm ?_;lk;show a0B (n:=n2) (hR3.new ha2) hm0 (by lia) λf2 y4 w4 g0 g1 ok4=>?_;let hK4:=(hK3.trans (Kq.new (o:=.lst [.int 1000000000000,.int 1,.int 4,.int 12,.int 30,.int 30]) ha2)).trans (Kq.at (o:=RowO y4 w4));lk;show i_I (by decide,by decide,by decide) ?_;rw[a5F];lk;show ifD (λc=>?_) λc=>?_
  .lk;show(lenK rfl,?_);show q b lR _ (hb0,hb1,λx h=>nomatch h) (RowAt.at ok4) hK4
  .lk;show ifD (λc2=>?_) λc2=>?_
   .lk;show(lenK rfl,?_);show q b lR _ (hb0,hb1,λx h=>nomatch h) (RowAt.at ok4) hK4
   .lk;show(lenK rfl,?_);show q b (bo (b+1+f2)) _ (hb0,hb1,λx h=>?_) (RowAt.at ok4) hK4;cases h;unfold T12
    lia
def a5G:P3:=λws G R=>∃p puts t,ws=[.ref p,.int t]/\G p=bo (.lst (puts.map Rw.z))/\One puts/\R (lastAt puts t) G
set_option tactic.hygienic true in
def a5H(T:Txt K mg base a):Cal P w K mg base CX0 1 "_law_worth_at" (lowP K a5G):=by
 show fnc 2 (N:=["puts","moment","begin","end","worth"]) T.br (T.f 14 _ rfl) ?_;walk_at "in";show(_,(a0c (a1g (pt:=(.tp [2,3,4])) iz.never rfl (a5u rfl (T.b 5) (q_k (qv 0) a0E)) (by ac_rfl)
  (by ac_rfl))
  (by ac_rfl)),?_)
 let(p,puts,t,rfl,hp,h1,q):=h;lk;show(p,_,rfl,hp,?_);rw[<- List.map_reverse];show a0H (λi σ G'=>Ex3 λ(v1 v2 v3:Option Z)=>An3 (∀(j:Nat) r,j<i->puts.reverse[j]?=bo r->r.has t=lT) (σ=[bo (.ref p),bo (.int t),v1,v2,v3]) (G'=G)) (_,_,_,λj r hj=>by lia,rfl,rfl) (by ext i σ G' _ ⟨_,_,_,_,_,e⟩;show by rw[e];show hp) ?_ ?_
 .ext i x σ G' hx ⟨v1,v2,v3,hall,rfl,rfl⟩;rw[aR]at hx;cases hx':puts.reverse[i]? with
  |none=>rw[hx']at hx;cases hx
  |some r=>
   rw[hx']at hx;cases hx;let(x,ex):=h1 r (by let:=bp hx';o_head this);let hfind:r.has t=lS->lastAt puts t=x:=λhh=>by
    unfold lastAt
    let:puts.reverse.find? (·.has t)=bo r:=by
     rw[List.find?_eq_some_iff_getElem];let(hi,e):=aT.mp hx';show(hh,i,hi,e,λj hj=>by
      rw[hall j _ hj (aU (by lia))];rfl)
    rw[this]
    change r.w.headD .non=x
    rw[ex];rfl
   let hno:r.has t=lT->∀(j:Nat) r,j<i+1->puts.reverse[j]?=bo r->r.has t=lT:=λhh j s hj e=>by
    by_cases hji:j<i
    .show hall j s hji e
    .let:j=i:=by lia
     subst this;rw[hx']at e;cases e;show hh
   let(b,e,w):=r;cases ex;show(_,rfl,?_);lk;show ifD (λc=>?_) λc=>?_
   .cases e with
    |none=>
     lk
     let:=hfind (by unfold Rw.has bef;o_head c)
     rw[this]at q;show q
    |some e=>
     lk;show ifD (λc2=>?_) λc2=>?_
     .lk
      let:=hfind (by unfold Rw.has bef;simp[c,c2])
      rw[this]at q;show q
     .lk;show(_,_,_,hno (by unfold Rw.has bef;simp[c2]),rfl,rfl)
   .show ifF ?_;lk;show(_,_,_,hno (by unfold Rw.has;simp[c]),rfl,rfl)
 .ext σ G' ⟨v1,v2,v3,hall,rfl,rfl⟩;lk
  let:lastAt puts t=.non:=by
   unfold lastAt
   let:puts.reverse.find? (·.has t)=lR:=by
    rw[dO];ext r hr;let(j,hj):=cj hr;let hlt:=(aT.mp hj).1;rw[hall j r (by rw[aN];show hlt) hj]
    decide
   rw[this]
  rw[this]at q;show q
def a7j(kvs:List (Key×Z))(ns:List Int):Prop:=kvs.map (·.1)=ns.map λi=>Sum.inl (bo i)
def a6y{kvs:List (Key×Z)}{ns:List Int}(h:a7j kvs ns)(hd:ns.Nodup)(x:Int)(v:Z):∃ms,a7j (putZ kvs (.inl (bo x)) v) ms/\ms.Nodup/\ms.length<=ns.length+1/\∀y,y∈ms↔y∈ns\/y=x:=by
 unfold putZ;let hany:(kvs.any λkv=>decide (kv.1=Sum.inl (bo x)))=decide (x∈ns):=by
  rw[cH];simp only[cx,decide_eq_true_eq]
  constructor
  .ext⟨kv,h1,h2⟩
   let:kv.1∈ns.map (λi=>(Sum.inl (bo i):Key)):=by rw[<- h];show bP h1
   let(n,h3,h4):=bf.mp this;rw[h2]at h4;cases h4;show h3
  .ext hx
   let:Sum.inl (bo x)∈kvs.map (·.1):=by rw[h];show bP hx
   let(kv,h3,h4):=bf.mp this;show(kv,h3,h4)
 rw[hany]
 by_cases hx:x∈ns
 .rw[decide_eq_true hx,if_pos rfl];show(ns,?_,hd,by lia,λy=>(.inl,λh=>h.elim id λe=>e▸hx));unfold a7j at h ⊢;rw[<- h,bW];show eC λkv _=>?_
  change (if kv.1=Sum.inl (bo x) then (kv.1,v,) else kv).1=kv.1
  split<;>rfl
 .rw[decide_eq_false hx,if_neg (by decide)];show(ns++[x],?_,?_,by simp,λy=>by simp)
  .unfold a7j;rw[aV,h,aV];rfl
  .rw[b9];show(hd,by simp,λa ha b hb=>by rw[aS.mp hb];ext rfl;show hx ha)
def a9m{ms:List Int}(h:ms.Pairwise (·<=·))(hd:ms.Nodup):ms.Pairwise (·<·):=by
 let:=h.and hd
 show this.imp λ(a,b)=>by lia
def a6z(h:a7j kvs ns):kvs.length=ns.length:=by
 let:=congrArg bn h
 o_head this
def a9n:P3:=λws G R=>∃p rows,ws=[.ref p]/\G p=bo (.lst (rows.map Rw.z))/\rows.length<=400/\∀(t:Addr)(ms:List Int)(G':Hq),G t=lR->Sm G G'->G' t=bo (.lst (ms.map Z.int))->a1n rows ms->ms.length<=2*rows.length->R (.ref t) G'
def a2e{α:Type}{l:List α}{i:Nat}{x:α}(h:l[i]?=bo x){P:α->Prop}:(∃r∈l.take (i+1),P r)↔(∃r∈l.take i,P r)\/P x:=by
 rw[cN,h]
 constructor
 .ext⟨r,hr,hp⟩;let hr||hr:=aP.mp hr
  .show .inl (r,hr,hp)
  .let:r=x:=↑hr
   show .inr (this▸hp)
 .ext (⟨r,hr,hp⟩ |hp)
  .show(r,by simp[hr],hp)
  .show(x,by simp,hp)
set_option tactic.hygienic true in
def a9o(T:Txt K mg base a):Cal P w K mg base CX0 1 "_law_bounds" (lowP K a9n):=by
 show fnc 1 (N:=["rows","found","row"]) T.br (T.f 15 _ rfl) ?_;walk_at "in";show(_,(a0c (z_st (nmI 1 nd) a2A)
  (a0c (a1g (pt:=(.nm 2)) iz.never rfl (by ac_rfl) (p_nm (nmI 2 nd))
  (a0c (a1u q_bl (qv 1) (by ac_rfl) (a24 hu))
  (a0L (z_if (by ac_rfl)
  (a0L (a1u q_bl (qv 1) (by ac_rfl) (a24 hu)))
  a1Y))))
  (a0L (a4v (q_B (b0E rfl) (T.b 0) (q_k (qv 1) a0E)))))),?_)
 let(p,rows,rfl,hp,hz,q):=h;lk;ext d hd;lk;show a1i (a0b hp hd) ?_;show a0H (λi σ G'=>Ex3 λ(v:Option Z) (kvs:List (Key×Z)) (ns:List Int)=>An6 (a7j kvs ns) ns.Nodup (ns.length<=2*i) (∀x,x∈ns↔∃r∈rows.take i,x=r.b\/r.e=bo x) (σ=[bo (.ref p),bo (.ref d),v]) (G'=put G d (.dK kvs))) (_,[],[],rfl,.nil,by simp,λx=>by simp,rfl,rfl) (by ext i σ G' _ ⟨_,_,_,_,_,_,_,_,e⟩;show by rw[e];show a0b hp hd) ?_ ?_
 .ext i x σ G' hx ⟨v,kvs,ns,hk,hnd,hl,hmem,rfl,rfl⟩;rw[aR]at hx;cases hx':rows[i]? with
  |none=>rw[hx']at hx;cases hx
  |some r=>
   rw[hx']at hx;cases hx;let hi:=(aT.mp hx').1;show(_,rfl,?_);let(b,e,w):=r;lk;show a06 at0 ?_;let(ms,hk1,hd1,hl1,hm1):=a6y hk hnd b (.bl lS);show a25 a0a rfl (by rw[a6z hk];show a0e (by lia)) ?_;rw[a1s];generalize putZ kvs (.inl (bo b)) (.bl lS)=kvs1 at hk1 ⊢;cases e with
   |none=>
    lk;show a06 at1 ?_;lk;show(_,kvs1,ms,hk1,hd1,by lia,λx=>?_,rfl,rfl);rw[hm1,hmem,a2e hx'];simp
   |some e=>
    lk;show a06 at1 ?_;lk;show a06 at1 ?_;let(ms2,hk2,hd2,hl2,hm2):=a6y hk1 hd1 e (.bl lS);show a25 a0a rfl (by rw[a6z hk1];show a0e (by lia)) ?_;rw[a1s];show(_,_,ms2,hk2,hd2,by lia,λx=>?_,rfl,rfl);rw[hm2,hm1,hmem,a2e hx'];simp only[bo.injEq]
    constructor
    .ext ((h |h) |h)
     .show .inl h
     .show .inr (.inl h)
     .show .inr (.inr h.symm)
    .ext (h |h |h)
     .show .inl (.inl h)
     .show .inl (.inr h)
     .show .inr h.symm
 .ext σ G' ⟨v,kvs,ns,hk,hnd,hl,hmem,rfl,rfl⟩;rw[aN]at hl hmem;rw[bX]at hmem;lk;show a8G a0a hk (by lia) λt ms ht hperm hpw=>?_;show q t ms _ ((Sm.new (o:=.dK kvs) hd).free ht) ((Sm.new (o:=.dK kvs) hd).trans (Sm.new ht)) a0a (a9m hpw (hperm.nodup_iff.mpr hnd),λx=>?_) (by rw[hperm.length_eq];show hl);rw[hperm.mem_iff];show hmem x
def a0W(h1:flat 8 x=lS)(h2:flat 8 y=lS)(h:R (.bl (f (decide (x=y)))) G):zEq f x y G R:=by
 cases x<;>cases y<;>first
  |show(h1,h2,h)
  | (simp at h1;done)
  | (simp[flat]at h2;done)
  | (rw[a0s (Z.int.injEq _ _)]at h;show h)
  | (rw[a0s (Z.str.injEq _ _)]at h;show h)
noncomputable def LT:List Z:=[.ty "list",.ty "tuple"]
def i_lt{G:Hq}{R:K3}{x:Z}{n:String}{b:Bool}(e:tyN G x=bo n)(k:kitA n ["list","tuple"]=bo b)(h:R (.bl b) G):b29 [x,.tup [.ty "list",.ty "tuple"]] G R:=b5X (Ts:=["list","tuple"]) e k h
def b19{G:Hq}{R:K3}{x:Z}{xs:List Z}(e:srcZ G x=bo xs)(h:R (.int xs.length) G):zLen [x] G R:=by
 cases x with
 |ref p=>
  simp only[srcZ]at e;cases hp:G p with
  |none=>rw[hp]at e;cases e
  |some o=>rw[hp]at e;cases o with
   |lst ws=>cases e;show(_,hp,h)
   |_=>cases e
 |tup ws=>cases e;show h
 |_=>cases e
def a6A:Nat->P3
 |0=>λ_ _ _=>False
 |d+1=>λws G R=>∃x y,ws=[x,y]/\((flat d x=lS/\flat d y=lS/\R (.bl (decide (x=y))) G) \/
  Ex4 λp q xs ys=>x=.ref p/\y=.ref q/\1<=d/\G p=bo (.lst xs)/\G q=bo (.lst ys)/\xs.all (flat (d-1))=lS/\ys.all (flat (d-1))=lS/\R (.bl (decide (xs=ys))) G)
abbrev b3U:P3:=a6A 3
def zip2{xs ys:List Z}{i:Nat}{w:Z}(h:(zipZ [xs,ys])[i]?=bo w):∃a b,w=.tup [a,b]/\xs[i]?=bo a/\ys[i]?=bo b:=by
 let(vs,rfl,e):=(a09 [xs,ys] (by simp) i w).mp h
 match vs,e with
 |[],e=>simp at e
 |[_],e=>simp at e
 |[a,b],e=>
  simp only[aZ,bF,bJ.injEq,and_true]at e;show(a,b,rfl,e.1,e.2)
 |_::_::_::_,e=>simp at e
def a5I{xs ys:List Z}(h:xs.length=ys.length):(zipZ [xs,ys]).length=xs.length:=by
 let key:∀i,(∃w,(zipZ [xs,ys])[i]?=bo w)↔i<xs.length:=λi=>by
  constructor
  .ext⟨w,hw⟩;let(a,b,_,ha,_):=zip2 hw;show (aT.mp ha).1
  .ext hi;show(.tup [xs[i],ys[i]'(by lia)],(a09 [xs,ys] (by simp) i _).mpr (_,rfl,?_));simp only[aZ,bF,bJ.injEq,and_true];show(aU hi,aU (by lia))
 let h1:=key (zipZ [xs,ys]).length;let h2:=key xs.length
 by_cases c:(zipZ [xs,ys]).length<xs.length
 .let(w,hw):=h1.mpr c
  let:=(aT.mp hw).1
  lia
 .by_cases c2:xs.length<(zipZ [xs,ys]).length
  .let:=h2.mp (_,aU c2)
   lia
  .lia
def a9p(T:Txt K mg base a):Cal P w K mg base CX0 3 "_law_same" (lowP K b3U):=by
 show Nat.rec (motive:=λd=>Cal P w K mg base CX0 (0+d) "_law_same" (lowP K (a6A d))) (fnc0 2 (N:=["found","due","one","other"]) T.br (T.f 17 _ rfl) λws G R h=>h) (λd G_same=>?_) 3;show fnc 2 (N:=["found","due","one","other"]) (k:=0+d) T.br (T.f 17 _ rfl) ?_ (len:=λws G R h=>(by let(_,_,rfl,_):=h;rfl));walk_at "in";show(_,(a0c (z_if (a7Z (q_B b1U (T.b 6) (by ac_rfl)))
  (a0c (z_if (QW.qt (q_or (by ac_rfl) (b0d (a5Z (a7Z (q_B b1U (T.b 6) (by ac_rfl)))))))
  (by ac_rfl)
  a1Y)
  (a0c (by ac_rfl)
  (a0c (a1g (pt:=(.tp [2,3])) iz.never rfl (a8K (n:=2) zok2 (by decide) rfl (T.b 3) (q_k (qv 0) (q_k (qv 1) a0E)) (he:=se_ rfl) (hpl:=hp_ rfl)) (by ac_rfl)
  (a0L (z_if (a5Z (a7Z (q_c G_same hr (q_k (qv 2) (q_k (qv 3) a0E)) (hk:=by lia))))
  (by ac_rfl)
  a1Y)))
  (by ac_rfl))))
  a1Y)
  (by ac_rfl)),?_)
 let(x,y,rfl,h):=h
 by_cases pr:Ex4 λ(n:String) (d':Nat) (xs ys:List Z)=>d=d'+1/\(n="list"\/n="tuple")/\tyN G x=bo n/\tyN G y=bo n/\srcZ G x=bo xs/\srcZ G y=bo ys/\xs.all (flat d')=lS/\ys.all (flat d')=lS/\R (.bl (decide (xs=ys))) G
 .clear h;let(n,d',xs,ys,hd,hn,tx,ty,sx,sy,fx,fy,q):=pr;subst hd;let kA:kitA n ["list","tuple"]=bo lS:=by let rfl||rfl:=hn<;>decide +kernel
  obtain⟨b,kb⟩:∃b,kit0 n "list"=bo b:=by let rfl||rfl:=hn<;>show(_,rfl)
  lk;show(lenK rfl,?_);lk;show i_lt ty kA ?_;lk;show a1c tx kb ?_;lk;show a1c ty kb ?_;lk;rw[beq_self_eq_true];show ifF ?_;lk;show(lenK rfl,?_);lk;show i_lt tx kA ?_;lk;show ifF ?_;lk;show b19 sx ?_;lk;show b19 sy ?_;lk;show ifN (λc=>?_) λc=>?_
  .lk;rw[decide_eq_false (λz=>c (by rw[z]))]at q;show q
  .let hl:xs.length=ys.length:=by lia
   lk;show([xs,ys],by simp[sx,sy],by simp,rfl,?_);show a0H (λi σ G'=>Ex2 λ(v1 v2:Option Z)=>An3 (∀j,j<i->xs[j]?=ys[j]?) (σ=[bo x,bo y,v1,v2]) (G'=G)) (_,_,λj hj=>by lia,rfl,rfl) (by ext i σ G' _ ⟨_,_,_,_,e⟩;show by rw[e];simp[sx,sy]) ?_ ?_
   .ext i w σ G' hw ⟨v1,v2,hall,rfl,rfl⟩;let(a,b,rfl,ha,hb):=zip2 hw;let fa:=bL.mp fx a (bp ha);let fb:=bL.mp fy b (bp hb);show(_,rfl,?_);lk;show(a,b,rfl,.inl (fa,fb,?_));lk;show ifN (λc=>?_) λc=>?_
    .lk;rw[decide_eq_false (λz=>c (by rw[z,hb]at ha;cases ha;rfl))]at q;show q
    .lk;show(_,_,λj hj=>?_,rfl,rfl)
     by_cases hji:j<i
     .show hall j hji
     .let:j=i:=by lia
      subst this;rw[ha,hb,c]
   .ext σ G' ⟨v1,v2,hall,rfl,rfl⟩;rw[a5I hl]at hall;lk
    let:xs=ys:=by
     show ez λj=>?_
     by_cases hj:j<xs.length
     .show hall j hj
     .rw[dz (by lia),dz (by lia)]
    rw[decide_eq_true this]at q;show q
 let(fx,fy,q)||(p,p',xs,ys,rfl,rfl,hd,hp,hp',fx,fy,q):=h
 .cases y with
  |non=>
   lk;show(lenK rfl,?_);lk;show i_lt (n:="NoneType") (b:=lT) rfl (by decide +kernel) ?_;lk;show q
  |int j=>
   lk;show(lenK rfl,?_);lk;show i_lt (n:="int") (b:=lT) rfl (by decide +kernel) ?_;lk;show a1c (n:="int") (b:=lT) rfl rfl ?_;lk;cases x with
   |int i=>
    show a1c (n:="int") (b:=lS) rfl rfl ?_;lk;show a1c (n:="int") (b:=lT) rfl rfl ?_;lk;show ifT ?_;lk;rw[a0s (Z.int.injEq _ _)]at q;show q
   |non=>
    show a1c (n:="NoneType") (b:=lT) rfl rfl ?_;lk;show q
   |str s=>
    show a1c (n:="str") (b:=lT) rfl rfl ?_;lk;show q
   |tup s=>
    show a1c (n:="tuple") (b:=lT) rfl rfl ?_;lk;show q
   |_=>cases d<;>cases fx
  |str t=>
   lk;show(lenK rfl,?_);lk;show i_lt (n:="str") (b:=lT) rfl (by decide +kernel) ?_;lk;show a1c (n:="str") (b:=lS) rfl rfl ?_;lk;cases x with
   |int i=>
    show a1c (n:="int") (b:=lT) rfl rfl ?_;lk;show q
   |non=>
    show a1c (n:="NoneType") (b:=lT) rfl rfl ?_;lk;show q
   |str s=>
    show a1c (n:="str") (b:=lS) rfl rfl ?_;lk;rw[a0s (Z.str.injEq _ _)]at q;show q
   |tup s=>
    show a1c (n:="tuple") (b:=lT) rfl rfl ?_;lk;show q
   |_=>cases d<;>cases fx
  |tup ys=>
   obtain⟨d',rfl⟩:∃d',d=d'+1:=by cases d with |zero=>cases fy |succ d'=>show(d',rfl)
   cases x with
   |tup xs=>
    rw[a0s (Z.tup.injEq _ _)]at q;show absurd ("tuple",d',xs,ys,rfl,.inr rfl,rfl,rfl,rfl,rfl,fx,fy,q) pr
   |non=>
    lk;show(lenK rfl,?_);lk;show i_lt (n:="tuple") (b:=lS) rfl (by decide +kernel) ?_;lk;show a1c (n:="NoneType") (b:=lT) rfl rfl ?_;lk;show a1c (n:="tuple") (b:=lT) rfl rfl ?_;lk;show ifF ?_;lk;show(lenK rfl,?_);lk;show i_lt (n:="NoneType") (b:=lT) rfl (by decide +kernel) ?_;lk;show ifT ?_;lk;show q
   |int i=>
    lk;show(lenK rfl,?_);lk;show i_lt (n:="tuple") (b:=lS) rfl (by decide +kernel) ?_;lk;show a1c (n:="int") (b:=lT) rfl rfl ?_;lk;show a1c (n:="tuple") (b:=lT) rfl rfl ?_;lk;show ifF ?_;lk;show(lenK rfl,?_);lk;show i_lt (n:="int") (b:=lT) rfl (by decide +kernel) ?_;lk;show ifT ?_;lk;show q
   |str s=>
    lk;show(lenK rfl,?_);lk;show i_lt (n:="tuple") (b:=lS) rfl (by decide +kernel) ?_;lk;show a1c (n:="str") (b:=lT) rfl rfl ?_;lk;show a1c (n:="tuple") (b:=lT) rfl rfl ?_;lk;show ifF ?_;lk;show(lenK rfl,?_);lk;show i_lt (n:="str") (b:=lT) rfl (by decide +kernel) ?_;lk;show ifT ?_;lk;show q
   |_=>cases fx
  |_=>cases d<;>cases fy
 .obtain⟨d',rfl⟩:∃d',d=d'+1:=(d-1,by lia);show absurd ("list",d',xs,ys,rfl,.inl rfl,by simp[tyN,hp],by simp[tyN,hp'],by simp[srcZ,hp],by simp[srcZ,hp'],fx,fy,q) pr
def Plain(l:List Rw):Prop:=∀r∈l,∃x,r.w=[x]/\flat 0 x=lS
def Plain.one(h:Plain l):One l:=λr a=>by let(x,e,_):=h r a;show(x,e)
def Plain.okR(h:Plain l):OkR l:=λr a=>by
 let(x,e,f):=h r a;rw[e];show b6E (a0m (by simp) f)
def Plain.nil:Plain []:=λr hr=>by simp at hr
def a1E(h:Plain l)(e:r.w=[x])(f:flat 0 x=lS):Plain (l++[r]):=λs a=>by
 let a||a:=aP.mp a
 .show h s a
 .rw[aS.mp a];show(x,e,f)
def a0T(h:Plain puts)(t:Int):flat 0 (lastAt puts t)=lS:=by
 unfold lastAt;cases e:puts.reverse.find? _ with
 |none=>rfl
 |some r=>
  let(x,a,f):=h r (by let:=dP e;o_head this)
  change flat 0 (r.w.headD .non)=lS
  rw[a];show f
def a5J(z:Z):wz (optW z)=z:=by
 unfold optW
 split
 .next h=>rw[h];rfl
 .rfl
def b6G{ms:List Int}{i:Nat}(hi:i<ms.length):atI (ms.map Z.int++[Z.non]) ((i:Int)+1)=bo (oz ms[i+1]?):=by
 show a0F (j:=i+1) ?_
 by_cases c:i+1<ms.length
 .rw[cJ (by rw[aN];show c),aR,aU c];rfl
 .let:i+1=ms.length:=by lia
  rw[cI (by rw[aN];lia),aN,this,dz (aQ _)];simp
def b3V:P3:=λws G R=>∃p puts,ws=[.ref p]/\G p=bo (.lst (puts.map Rw.z))/\Plain puts/\puts.length<=400/\∀(t:Addr)(rows:List Rw)(G':Hq),G t=lR->Sm G G'->G' t=bo (.lst (rows.map Rw.z))->Can rows->Plain rows->rows.length<=2*puts.length->(∀m,val rows m=optW (lastAt puts m))->R (.ref t) G'
def a5K(T:Txt K mg base a):Cal P w K mg base CX0 2 "_law_line" (lowP K b3V):=by
 show fnc 1 (N:=["puts","bounds","rows","k","worth","end"]) T.br (T.f 16 _ rfl) ?_ (len:=λws G R h=>(by let(_,_,rfl,_):=h;rfl));walk_at "in";show(_,(a0c (by ac_rfl)
  (a0c (by ac_rfl)
  (a0c (a1g (pt:=(.nm 3)) iz.never rfl (by ac_rfl) (p_nm (nmI 3 nd))
  (a0c (by ac_rfl)
  (a0c (by ac_rfl)
  (a0L (z_if (by ac_rfl)
  (a0L (a1u (by ac_rfl) (qv 2) (by ac_rfl) b0i))
  (by ac_rfl))))))
  (by ac_rfl)))),?_)
 let(p,puts,rfl,hp,hpl,hz,q):=h;lk;show(p,puts,rfl,hp,hz,λu ms G1 hu s1 hu1 hb hl=>?_);lk;show(lenK rfl,λt ht=>?_);lk;show a2B (a0b hu1 ht) ?_;lk;rw[aN];show(by lia,by lia,?_);rw[show (ms.length:Int).toNat=ms.length by lia];let tG:G t=lR:=s1.free ht;show a0H (λi σ G'=>Ex4 λ(told:List Rw) (v1 v2 v3:Option Z)=>An6 ((pcs (λt=>optW (lastAt puts t)) (ms.drop i)).foldl jn told=join (pcs (λt=>optW (lastAt puts t)) ms)) (told.length<=i) (Plain told) (Sm G1 G') (G' t=bo (.lst (told.map Rw.z))) (σ=[bo (.ref p),bo (.ref u),bo (.ref t),v1,v2,v3])) ([],_,_,_,rfl,by simp,Plain.nil,Sm.new ht,a0a,rfl) (λ_ _ _ _ _=>True.intro) ?_ ?_
 .ext i x σ G' hx ⟨told,v1,v2,v3,hj,hlen,hpt,s,gt,rfl⟩;let(hi,rfl):=a2V hx;show(_,rfl,?_);rw[Int.zero_add];let hbi:ms[i]?=bo ms[i]:=aU hi;let hdr:ms.drop i=ms[i]::ms.drop (i+1):=cD hi;rw[hdr]at hj;generalize ms[i]=b at hbi hj;let hbm:atI (ms.map Z.int) (i:Int)=bo (.int b):=a0F (by rw[aR,hbi];rfl);rw[pcs,gY]at hj;lk;show a0y (s _ _ hu1) hbm ?_;lk;show(p,puts,b,rfl,s _ _ (s1 _ _ hp),hpl.one,?_);lk;show(lenK rfl,λa ha=>?_);lk;show a1I (a0b (s _ _ hu1) ha) a0a (a0S (by rw[aN];change ms.length+1<=1000;lia)) λa2 ha2=>?_;lk;show a0y a0a (b6G hi) ?_;let s2:Sm G1 (put (put G' a (.lst [.non])) a2 (.lst (ms.map Z.int++[Z.non]))):=(s.trans (Sm.new ha)).trans (Sm.new ha2);let gt2:put (put G' a (.lst [.non])) a2 (.lst (ms.map Z.int++[Z.non])) t=bo (.lst (told.map Rw.z)):=a0b (a0b gt ha) ha2;generalize put (put G' a (.lst [.non])) a2 (.lst (ms.map Z.int++[Z.non]))=G2 at s2 gt2 ⊢;let gu2:=s2 _ _ hu1;lk;show ifN (λc=>?_) λc=>?_
  .let fb:optW (lastAt puts b)=bo [lastAt puts b]:=if_neg c;rw[fb]at hj
   change (pcs (λt=>optW (lastAt puts t)) (ms.drop (i+1))).foldl jn (jn told (b,ms[i+1]?,[lastAt puts b]))=_ at hj
   lk;show(lenK rfl,λa3 ha3=>?_);lk;let s3:Sm G1 (put G2 a3 (.lst [])):=s2.trans (Sm.new ha3);let gt3:put G2 a3 (.lst []) t=bo (.lst (told.map Rw.z)):=a0b gt2 ha3;show a5l gt3 a0a (a1y hpt.okR) rfl ?_;generalize put G2 a3 (.lst [])=G3 at s3 gt3 ⊢;let gu3:=s3 _ _ hu1;lk;show ifN (λc2=>?_) λc2=>?_
   .let hne:told≠[]:=λz=>c2 (by rw[z];rfl);obtain⟨k,hl⟩:∃k,told.getLast?=bo k:=by
     cases e:told.getLast? with
     |none=>show absurd (ft.mp e) hne
     |some k=>show(k,rfl)
    let hlm:(told.map Rw.z).getLast?=bo k.z:=by rw[gR,hl];rfl
    let(x,ex,fx):=hpt k (gU hl);lk;show a0y gt3 (a2r hlm) ?_;lk;show a06 at1 ?_;lk;show a0y gu3 hbm ?_;lk;show b16 ?_;lk;show ifD (λc3=>?_) λc3=>?_
    .lk;show a0y gt3 (a2r hlm) ?_;lk;show a06 (w:=x) (by change atI (_::_::k.w) 2=bo x;rw[ex];show at2) ?_;lk;show a0W (a0m (by decide) fx) (a0m (by decide) (a0T hpl b)) ?_;lk;show ifD (λc4=>?_) λc4=>?_
     .let hjn:jn told (b,ms[i+1]?,[lastAt puts b])=told.dropLast++[(k.b,ms[i+1]?,[lastAt puts b])]:=by
       unfold jn;rw[hl];show if_pos (c3,by rw[ex,c4])
      lk;show a0y gt3 (a2r hlm) ?_;lk;show a06 at0 ?_;lk;show(lenK rfl,?_);lk;show b0k gt3 (a5D (by rw[aN];show cw.mpr hne)) ?_;show(told.dropLast++[(k.b,ms[i+1]?,[lastAt puts b])],_,_,_,by rw[<- hjn];show hj,by simp;lia,a1E (λr hr=>hpt r (gQ _ hr)) rfl (a0T hpl b),s3.put ht,?_,rfl);rw[a0a,a6u hlm,aV,gX]
      rfl
     .let hjn:jn told (b,ms[i+1]?,[lastAt puts b])=told++[(b,ms[i+1]?,[lastAt puts b])]:=by
       unfold jn;rw[hl];show if_neg λz=>c4 (by let:=z.2;rw[ex]at this;show (bJ.inj this).1)
      lk;show ifN (λ_=>?_) λz=>absurd z c;lk;show a04 gt3 ?_;lk;show a0y gu3 hbm ?_;lk;show(lenK rfl,?_);lk;show a0u gt3 (by rw[aN];show a0e (by lia)) ?_;show(told++[(b,ms[i+1]?,[lastAt puts b])],_,_,_,by rw[<- hjn];show hj,by simp;lia,a1E hpt rfl (a0T hpl b),s3.put ht,by rw[a0a,aV];rfl,rfl)
    .let hjn:jn told (b,ms[i+1]?,[lastAt puts b])=told++[(b,ms[i+1]?,[lastAt puts b])]:=by
      unfold jn;rw[hl];show if_neg λz=>c3 z.1
     lk;show ifN (λ_=>?_) λz=>absurd z c;lk;show a04 gt3 ?_;lk;show a0y gu3 hbm ?_;lk;show(lenK rfl,?_);lk;show a0u gt3 (by rw[aN];show a0e (by lia)) ?_;show(told++[(b,ms[i+1]?,[lastAt puts b])],_,_,_,by rw[<- hjn];show hj,by simp;lia,a1E hpt rfl (a0T hpl b),s3.put ht,by rw[a0a,aV];rfl,rfl)
   .let e0:told=[]:=dA.mp c2;let hjn:jn told (b,ms[i+1]?,[lastAt puts b])=told++[(b,ms[i+1]?,[lastAt puts b])]:=by
     subst e0;rfl
    lk;show ifN (λ_=>?_) λz=>absurd z c;lk;show a04 gt3 ?_;lk;show a0y gu3 hbm ?_;lk;show(lenK rfl,?_);lk;show a0u gt3 (by rw[aN];show a0e (by lia)) ?_;show(told++[(b,ms[i+1]?,[lastAt puts b])],_,_,_,by rw[<- hjn];show hj,by simp;lia,a1E hpt rfl (a0T hpl b),s3.put ht,by rw[a0a,aV];rfl,rfl)
  .let fb:optW (lastAt puts b)=lR:=if_pos c;rw[fb]at hj;lk;show ifN (λz=>absurd c z) λ_=>?_;lk;show(told,_,_,_,hj,by lia,hpt,s2,gt2,rfl)
 .ext σ G' ⟨told,v1,v2,v3,hj,hlen,hpt,s,gt,rfl⟩;rw[a1A,fz]at hj;let ht2:told=join (pcs (λt=>optW (lastAt puts t)) ms):=hj;let lk:=b3L hb;rw[<- ht2]at lk;lk;show q t told G' tG (s1.trans s) gt lk.1 hpt (bj lk.2.2.1 hl) lk.2.1
def Pair1(l:List Rw):Prop:=∀r∈l,∃x,r.w=[x]/\flat 1 x=lS
def Pair1.one(h:Pair1 l):One l:=λr a=>let (x,e,_):=h r a;(x,e)
def Pair1.okR(h:Pair1 l):OkR l:=λr a=>by
 let(x,e,f):=h r a;rw[e];show b6E (a0m (by simp) f)
def a3n:P3:=λws G R=>∃(p:Addr)(rows:List Rw),ws=[.ref p]/\G p=bo (.lst (rows.map Rw.z))/\One rows/\rows.length<=400/\∀(t:Addr)(ms:List Int)(G':Hq),G t=lR->Sm G G'->G' t=bo (.lst (ms.map Z.int))->a1n rows ms->ms.length<=2*rows.length->R (.ref t) G'
def a5L(h:ms.Pairwise (·<·))(q:∀x,x∈ms↔x∈rows.filterMap (λr=>bo r.b)++rows.filterMap (λr=>r.e)):a1n rows ms:=by
 show(h,λx=>?_);rw[q x,aP,cS,cS]
 constructor
 .ext (⟨r,a,e⟩ |⟨r,a,e⟩)
  .show(r,a,.inl ↑e.symm)
  .show(r,a,.inr e)
 .ext⟨r,a,e |e⟩
  .show .inl (r,a,by rw[e])
  .show .inr (r,a,e)
set_option tactic.hygienic true in
def a3o(T:Txt K mg base a):Cal P w K mg base CX0 1 "bounds_of" (lowP K a3n):=by
 show fnc 1 (N:=["stretches","begins","ends"]) T.br (T.f 0 _ rfl) ?_;walk_at "in";show(_,(a0c (z_l (nmI 1 nd) ["begin","end","worth"] [lR,lR,lR] (.tp [0,1,2]))
  (a0c (z_l (nmI 2 nd) ["begin","end","worth"] [lR,lR,lR] (.tp [0,1,2]))
  (a0L (a4v (q_ss rfl rfl (T.b 0) rfl rfl (T.b 1) rfl (by ac_rfl) (he:=se_ rfl) (hpl:=hp_ rfl)))))),?_)
 let(p,rows,rfl,hp,h1,hz,q):=h;lk;show a1i hp ?_;ext D hD;show a9e (g':=Z.int) (λr=>bo r.b) (λys=>a0b hp hD) (by lia) ?_ ?_
 .ext r hr ys K1 K2 k1 k2;let(x,hx):=h1 r hr;let(b,e,w):=r;cases hx;show(_,rfl,?_);lk;show k1 _ rfl
 let nDp:p≠D:=a0g hp hD;lk;show a1i (a0b hp hD) ?_;ext F hF;show a9e (g':=Z.int) (λr=>r.e) (λys=>a0b (a0b hp hD) hF) (by lia) ?_ ?_
 .ext r hr ys K1 K2 k1 k2;let(x,hx):=h1 r hr;let(b,e,w):=r;cases hx;show(_,rfl,?_);cases e with
  |none=>
   lk;show k2 rfl
  |some e=>
   lk;show k1 _ rfl
 lk;let l1:(rows.filterMap λr=>bo r.b).length<=rows.length:=cO _ _;let l2:(rows.filterMap λr=>r.e).length<=rows.length:=cO _ _;show a1I (a0b a0a hF) a0a (a0S (by rw[aN,aN];lia)) λc hc=>?_;lk;show i_ss (ns:=(rows.filterMap λr=>bo r.b)++(rows.filterMap λr=>r.e)) (by rw[a0a,aV]) (by rw[bg];lia) λt ks ht hpw hm hl=>?_;show q t ks _ ((((Sm.new hD).trans (Sm.new hF)).trans (Sm.new hc)).free ht) ((((Sm.new hD).trans (Sm.new hF)).trans (Sm.new hc)).trans (Sm.new ht)) a0a (a5L hpw hm) (by rw[bg]at hl;lia)
def b3W{α:Type}{xs:List α}:cutZ xs (bo 1) lR=xs.drop 1:=by
 cases xs with
 |nil=>rfl
 |cons x xs=>
  unfold cutZ;simp[HT.sIx]
def b1f(hne:xss≠[])(h:∀xs∈xss,n<=xs.length)(h2:∃xs∈xss,xs.length=n):(zipZ xss).length=n:=by
 let b:∀i,(∃w,_[i]?=bo w)↔i<n:=λi=>by
  constructor
  .ext⟨w,d⟩;let(vs,rfl,e):=(a09 xss hne i w).mp d;let(a,f,hl):=h2
   let:a[i]?∈xss.map (·[i]?):=bP f
   rw[e]at this;let(v,_,k):=bf.mp this
   let:=(aT.mp k.symm).1
   lia
  .ext hi;show(_,(a09 xss hne i _).mpr (xss.map λa=>a.getD i .non,rfl,?_));rw[bW];show eC λa f=>?_
   let:=h a f
   rw[Function.comp,dc,aU (by lia)]
   rfl
 let h2:=b n
 by_cases c:(zipZ xss).length<n
 .grind
 .by_cases c2:n<(zipZ xss).length
  .simp_all
  .lia
def zip4{xs ys zs us:List Z}{i:Nat}{w:Z}(h:(zipZ [xs,ys,zs,us])[i]?=bo w):Ex4 λa b c d=>w=.tup [a,b,c,d]/\xs[i]?=bo a/\ys[i]?=bo b/\zs[i]?=bo c/\us[i]?=bo d:=by
 let(vs,rfl,e):=(a09 [xs,ys,zs,us] (by simp) i w).mp h
 match vs,e with
 |[],e=>simp at e
 |[_],e=>simp at e
 |[_,_],e=>simp at e
 |[_,_,_],e=>simp at e
 |[a,b,c,d],e=>
  simp only[aZ,bF,bJ.injEq,and_true]at e;show(a,b,c,d,rfl,e.1,e.2.1,e.2.2.1,e.2.2.2)
 |_::_::_::_::_::_,e=>simp at e
noncomputable def laidF(l o:List Rw)(t:Int):Option (List Z):=if wz (val l t)=.non/\wz (val o t)=.non then lR else bo [wz (val l t),wz (val o t)]
def a40(h:Pair1 l)(t:Int):flat 1 (wz (val l t))=lS:=by
 unfold val;cases e:l.find? _ with
 |none=>rfl
 |some r=>
  let(x,a,f):=h r (dP e)
  change flat 1 (r.w.headD .non)=lS
  rw[a];show f
def b1g(hl:Pair1 l)(ho:Pair1 o)(bs:List Int):OkR (pcs (laidF l o) bs):=λr a=>by
 let(_,e):=a4e a;unfold laidF at e
 split at e
 .grind
 .rw[<- bo.inj e];show(by simp,by simp,?_);rw[bG,bG,a0m (by decide) (a40 hl r.b),a0m (by decide) (a40 ho r.b)];rfl
def a2f:P3:=λws G R=>Ex4 λ(p q:Addr) (l o:List Rw)=>ws=[.ref p,.ref q]/\G p=bo (.lst (l.map Rw.z))/\G q=bo (.lst (o.map Rw.z))/\Rise l/\Pair1 l/\Rise o/\Pair1 o/\l.length<=200/\o.length<=150 /\
 ∀(t:Addr)(bs:List Int)(G':Hq),G t=lR->Sm G G'->a1n (l++o) bs->bs.length<=2*(l.length+o.length)->G' t=bo (.lst ((join (pcs (laidF l o) bs)).map Rw.z))->R (.ref t) G'
def b3X{bs:List Int}(hi:i<bs.length):((bs.map Z.int).drop 1++[Z.non])[i]?=bo (oz bs[i+1]?):=by
 by_cases c:i+1<bs.length
 .rw[cJ (by rw[bI,aN];lia),dk,fi 1 i,aR,aU c];rfl
 .let:i+1=bs.length:=by lia
  rw[cI (by rw[bI,aN];lia),bI,aN,this,dz (aQ _),show i-_=0 by lia]
  rfl
set_option tactic.hygienic true in
def a2g(T:Txt K mg base a):Cal P w K mg base CX0 3 "laid_together" (lowP K a2f):=by
 show fnc 2 (N:=["line","other","bounds","worths","other_worths","ends","pieces","begin","end","worth","other_worth"]) T.br (T.f 4 _ rfl) ?_;walk_at "in";show(_,(a0c (by ac_rfl)
  (a0c (by ac_rfl)
  (a0c (by ac_rfl)
  (a0c (by ac_rfl)
  (a0c (by ac_rfl)
  (a0c (a1g (pt:=(.tp [7,8,9,10])) iz.never rfl (a8K (n:=4) zok4 (by decide) rfl (T.b 3) (q_k (qv 2) (q_k (qv 5) (q_k (qv 3) (q_k (qv 4) a0E)))) (he:=se_ rfl) (hpl:=hp_ rfl)) (by ac_rfl)
  (by ac_rfl))
  (by ac_rfl))))))),?_)
 let(p,q,l,o,rfl,hp,hq,hl,pl,ho,po,zl,zo,fin):=h;lk;show a1I hp hq (a0S (by rw[aN,aN];lia)) λa ha=>?_;lk;let one:One (l++o):=λr hr=>(aP.mp hr).elim (pl.one r) (po.one r);show(a,l++o,rfl,by rw[a0a,aV],one,by rw[bg];lia,λu bs G1 hu s1 gu hb hbl=>?_);let s1:=(Sm.new ha).trans s1;rw[bg]at hbl;let hpw:bs.Pairwise (·<=·):=hb.1.imp λh=>by lia
 lk;show(p,u,l,bs,rfl,s1 _ _ hp,gu,hl,pl.okR,by lia,hpw,by lia,λw hw=>?_);lk;show(q,u,o,bs,rfl,a0b (s1 _ _ hq) hw,a0b gu hw,ho,po.okR,by lia,hpw,by lia,λv hv=>?_);lk;show a8i (a0b (a0b gu hw) hv) λc hc=>?_;rw[b3W];lk;show(lenK rfl,λd hd=>?_);lk;show a1I (a0b a0a hd) a0a (a0S (by rw[bI,aN];change bs.length-1+1<=1000;lia)) λe he=>?_;lk;show(lenK rfl,λt ht=>?_);let s2:Sm G1 (put (put (put (put (put (put G1 w (.lst (bs.map λm=>wz (val l m)))) v (.lst (bs.map λm=>wz (val o m)))) c (.lst ((bs.map Z.int).drop 1))) d (.lst [.non])) e (.lst ((bs.map Z.int).drop 1++[Z.non]))) t (.lst [])):=
  (((((Sm.new hw).trans (Sm.new hv)).trans (Sm.new hc)).trans (Sm.new hd)).trans (Sm.new he)).trans (Sm.new ht)
 let gw:=a0b (a0b (a0b (a0b (a0b (a0a (G:=G1) (a:=w) (o:=.lst (bs.map λm=>wz (val l m)))) hv) hc) hd) he) (o:=.lst []) ht;let gv:=a0b (a0b (a0b (a0b (a0a (G:=put G1 w (.lst (bs.map λm=>wz (val l m)))) (a:=v) (o:=.lst (bs.map λm=>wz (val o m)))) hc) hd) he) (o:=.lst []) ht;let ge:=a0b (a0a (G:=put (put (put (put G1 w (.lst (bs.map λm=>wz (val l m)))) v (.lst (bs.map λm=>wz (val o m)))) c (.lst ((bs.map Z.int).drop 1))) d (.lst [.non])) (a:=e) (o:=.lst ((bs.map Z.int).drop 1++[Z.non]))) (o:=.lst []) ht;let gt:=a0a (G:=put (put (put (put (put G1 w (.lst (bs.map λm=>wz (val l m)))) v (.lst (bs.map λm=>wz (val o m)))) c (.lst ((bs.map Z.int).drop 1))) d (.lst [.non])) e (.lst ((bs.map Z.int).drop 1++[Z.non]))) (a:=t) (o:=.lst []);let nu:=a0g (a0b (a0b (a0b (a0b (a0b gu hw) hv) hc) hd) he) ht;let nw:=a0g (a0b (a0b (a0b (a0b (a0a (G:=G1) (a:=w) (o:=.lst (bs.map λm=>wz (val l m)))) hv) hc) hd) he) ht;let nv:=a0g (a0b (a0b (a0b (a0a (G:=put G1 w (.lst (bs.map λm=>wz (val l m)))) (a:=v) (o:=.lst (bs.map λm=>wz (val o m)))) hc) hd) he) ht;let ne:=a0g (a0a (G:=put (put (put (put G1 w (.lst (bs.map λm=>wz (val l m)))) v (.lst (bs.map λm=>wz (val o m)))) c (.lst ((bs.map Z.int).drop 1))) d (.lst [.non])) (a:=e) (o:=.lst ((bs.map Z.int).drop 1++[Z.non]))) ht;let hGt:G t=lR:=s1.free ((((((Sm.new hw).trans (Sm.new hv)).trans (Sm.new hc)).trans (Sm.new hd)).trans (Sm.new he)).free ht);generalize put (put (put (put (put (put G1 w (.lst (bs.map λm=>wz (val l m)))) v (.lst (bs.map λm=>wz (val o m)))) c (.lst ((bs.map Z.int).drop 1))) d (.lst [.non])) e (.lst ((bs.map Z.int).drop 1++[Z.non]))) t (.lst [])=G2 at s2 gw gv ge gt ⊢;let gu2:=s2 _ _ gu;let hsrc:∀G':Hq,(∀b ob,b≠t->G2 b=bo ob->G' b=bo ob)->[Z.ref u,Z.ref e,Z.ref w,Z.ref v].map (srcZ G')=[bs.map Z.int,(bs.map Z.int).drop 1++[Z.non],bs.map λm=>wz (val l m),bs.map λm=>wz (val o m)].map bo:=λG' k=>by
  let k1:=k u _ nu gu2;let k2:=k e _ ne ge;let k3:=k w _ nw gw;let k4:=k v _ nv gv;simp only[aZ,bF,srcZ,k1,k2,k3,k4]
 let hzl:(zipZ [bs.map Z.int,(bs.map Z.int).drop 1++[Z.non],bs.map λm=>wz (val l m),bs.map λm=>wz (val o m)]).length=bs.length:=
  b1f (by simp) (λxs hx=>by
   simp only[aO,dH,or_false]at hx;let rfl||rfl||rfl||rfl:=hx
   .simp
   .simp;lia
   .simp
   .simp) (_,.head _,by simp)
 lk;show([bs.map Z.int,(bs.map Z.int).drop 1++[Z.non],bs.map λm=>wz (val l m),bs.map λm=>wz (val o m)],hsrc G2 λb ob _ h=>h,by simp,rfl,?_);show a0H (λi σ G'=>Ex5 λ(told:List Rw) (v1 v2 v3 v4:Option Z)=>An5 (told++pcs (laidF l o) (bs.drop i)=pcs (laidF l o) bs) (told.length<=i) (G' t=bo (.lst (told.map Rw.z))) (∀b ob,b≠t->G2 b=bo ob->G' b=bo ob) (σ=[bo (.ref p),bo (.ref q),bo (.ref u),bo (.ref w),bo (.ref v),bo (.ref e),bo (.ref t),v1,v2,v3,v4]))
  ([],_,_,_,_,rfl,aQ _,gt,λb ob _ h=>h,rfl) (by ext i σ G' _ ⟨_,_,_,_,_,_,_,_,k,_⟩;show hsrc G' k) ?_ ?_
 .ext i x σ G' hx ⟨told,v1,v2,v3,v4,hj,hlen,gt',k,rfl⟩;let hi:i<bs.length:=by let:=(aT.mp hx).1;lia
  let(x1,x2,x3,x4,rfl,e1,e2,e3,e4):=zip4 hx;rw[b3X hi]at e2;rw[aR,aU hi]at e1 e3 e4;simp only[di,bo.injEq]at e1 e2 e3 e4;subst e1 e2 e3 e4;let hdr:bs.drop i=bs[i]::bs.drop (i+1):=cD hi;rw[hdr,pcs,gY]at hj;show(_,rfl,?_);let skip:wz (val l bs[i])=.non->wz (val o bs[i])=.non->told++pcs (laidF l o) (bs.drop (i+1))=pcs (laidF l o) bs:=λc1 c2=>by
   let:laidF l o bs[i]=lR:=if_pos (c1,c2)
   rw[this]at hj;show hj
  let some_:¬ (wz (val l bs[i])=.non/\wz (val o bs[i])=.non)->(told++[(bs[i],bs[i+1]?,[wz (val l bs[i]),wz (val o bs[i])])])++pcs (laidF l o) (bs.drop (i+1))=pcs (laidF l o) bs:=λc=>by
   let:laidF l o bs[i]=bo [wz (val l bs[i]),wz (val o bs[i])]:=if_neg c
   rw[this]at hj;rw[bB];show hj
  generalize bs[i]=b at skip some_ ⊢;generalize wz (val l b)=y1 at skip some_ ⊢;generalize wz (val o b)=y2 at skip some_ ⊢;generalize bs[i+1]?=en at some_ ⊢;lk;show ifN (λc1=>?_) λc1=>?_
  .lk;show a04 gt' ?_;lk;show(lenK rfl,?_);lk;show a0u gt' (by rw[aN];show a0e (by lia)) (told++[(b,en,[y1,y2])],_,_,_,_,some_ (λz=>c1 z.1),by rw[bg];change told.length+1<=i+1;lia,?_,λc ob nc h=>by rw[a0d nc];show k c ob nc h,rfl);rw[a0a,aV];rfl
  .lk;show ifN (λc2=>?_) λc2=>?_
   .lk;show a04 gt' ?_;lk;show(lenK rfl,?_);lk;show a0u gt' (by rw[aN];show a0e (by lia)) (told++[(b,en,[y1,y2])],_,_,_,_,some_ (λz=>c2 z.2),by rw[bg];change told.length+1<=i+1;lia,?_,λc ob nc h=>by rw[a0d nc];show k c ob nc h,rfl);rw[a0a,aV];rfl
   .lk;show(told,_,_,_,_,skip c1 c2,by lia,gt',k,rfl)
 .ext σ G' ⟨told,v1,v2,v3,v4,hj,hlen,gt',k,rfl⟩;rw[hzl,fz,pcs,bC]at hj;subst hj;lk;show(t,_,rfl,gt',(b1g pl po bs).weak,bj (a2q _ _) (by lia),λz hz=>?_);let s3:Sm G G':=λb ob h=>k b ob (a0g h hGt) (s2 _ _ (s1 _ _ h));show fin z bs _ (s3.free hz) (s3.trans (Sm.new hz)) hb hbl a0a
noncomputable def dif(x y:Z):Option (List Z):=if x=y then lR else bo [x,y]
structure Cg where
 k:Str
 r:Rw
noncomputable def Cg.z(c:Cg):Z:=.tup (.str c.k::.int c.r.b::oz c.r.e::c.r.w)
def b6H(hb:bs.Pairwise (·<·))(st:∀t b,b∈bs->b<=t->(∀c∈bs,c<=t->c<=b)->F t=F b)(no:∀t,(bs.any λb=>decide (b<=t))=lT->F t=lR) :
  Can (join (pcs F bs))/\(∀t,val (join (pcs F bs)) t=F t)/\(join (pcs F bs)).length<=bs.length:=by
 let j:=a4d (a4f F hb);show(j.1,λt=>?_,bj j.2.2.1 (a2q _ _));rw[j.2.1,a9d hb st t]
 split
 .rfl
 .next c=>show (no t ↑c).symm
def a3I{rows l:List Rw}(sub:∀r∈l,r∈rows)(hb:a1n rows bs)(hbt:b<=t)(hm:∀c∈bs,c<=t->c<=b):l.find? (·.has t)=l.find? (·.has b):=
 a1D λr a=>a6s hbt (λh=>hm _ ((hb.2 _).mpr (r,sub r a,.inl rfl)) h) λe d h=>hm e ((hb.2 _).mpr (r,sub r a,.inr d)) h
def a6B(hb:a1n rows bs)(h:(bs.any λb=>decide (b<=t))=lT)(hr:r∈rows):r.has t=lT:=by
 show a3b ?_;let q:=dD.mp h r.b ((hb.2 _).mpr (r,hr,.inl rfl));simp at q;show q
def laid_ok(hb:a1n (l++o) bs):Can (join (pcs (laidF l o) bs))/\(∀t,val (join (pcs (laidF l o) bs)) t=laidF l o t)/\(join (pcs (laidF l o) bs)).length<=bs.length:=by
 show b6H hb.1 (λt b _ c d=>?_) λt h=>?_
 .unfold laidF val;rw[a3I (λr a=>cP _ a) hb c d,a3I (λr a=>bH _ a) hb c d]
 .unfold laidF;rw[a01 λr a=>a6B hb h (cP _ a),a01 λr a=>a6B hb h (bH _ a)]
  rfl
theorem a5M:∀{l:List Rw},val (l.map λr=>(r.b,r.e,h r.w)) t=(val l t).map h
 |[]=>rfl
 |r::l=>by
  rw[aZ,a0j,a0j,a5M]
  change (if r.has t=lS then _ else _)=_
  split<;>rfl
def a6C{h:List Z->List Z}(g:Rise l):Rise (l.map λr=>(r.b,r.e,h r.w)):=by
 show(λr c=>?_,?_)
 .let(s,a,rfl):=bf.mp c;show g.1 s a
 .rw[cq];show g.2
noncomputable def pr(l:List Rw):List Rw:=l.map λr=>(r.b,r.e,[.tup r.w])
noncomputable def fstZ:Z->Z
 |.tup (x::_)=>x
 |_=>.non
noncomputable def sndZ:Z->Z
 |.tup (_::y::_)=>y
 |_=>.non
noncomputable def hw:List Z->List Z
 |[p,o]=>[if p=.non then fstZ o else fstZ p,if o=.non then sndZ p else sndZ o]
 |w=>w
noncomputable def pj(l o:List Rw)(bs:List Int):List Rw:=join ((join (pcs (laidF l o) bs)).map λr=>(r.b,r.e,hw r.w))
def b1h(h:val l t=dif x y):wz (val (pr l) t)=if x=y then .non else .tup [x,y]:=by
 unfold pr;rw[a5M (h:=λw=>[.tup w]),h];unfold dif
 split<;>rfl
noncomputable def cgs(ks:List Str)(L:Str->List Rw):List Cg:=ks.flatMap λk=>(L k).map (Cg.mk k)
noncomputable def rowsOf(A:List Cg)(k:Str):List Rw:=(A.filter λc=>decide (c.k=k)).map (·.r)
abbrev FZ:=Str->Int->Z
def FF(f:FZ):Prop:=∀k t,flat 0 (f k t)=lS
structure CL (f g:FZ) (A:List Cg):Prop where
 ex:∃ks L,A=cgs ks L/\ks.Pairwise leS/\ks.Nodup/\(∀k,k∉ks->L k=[])/\(∀k∈ks,nmOk k)/\∀k,Can (L k)/\∀t,val (L k) t=dif (f k t) (g k t)
def a2L(nd:ks.Nodup)(k:Str):rowsOf (cgs ks L) k=if k∈ks then L k else []:=by
 unfold rowsOf cgs
 induction ks with
 |nil=>rfl
 |cons x ks ih=>
  rw[cG,fB,aV,ih (bV.mp nd).2]
  by_cases c:x=k
  .subst c;rw[if_neg (bV.mp nd).1,if_pos bU,bC,gZ.mpr λc a=>by let(r,_,rfl):=bf.mp a;simp,bW];show List.map_id _
  .rw[dQ.mpr λd b=>by let(r,_,rfl):=bf.mp b;o_head c];simp[Ne.symm c]
def b2a(ks:List Str)(L:Str->List Rw):cgs ks L=cgs (ks.filter λk=>!(L k).isEmpty) L:=by
 unfold cgs
 induction ks with
 |nil=>rfl
 |cons x ks ih=>
  rw[cG,cU,ih];cases e:L x with
  |nil=>rfl
  |cons r l=>simp[e]
def CL.uniq(a:CL f g A)(b:CL f g B):A=B:=by
 let(j,L,rfl,n,r,l,_,d):=a;let(i,M,rfl,m,p,o,_,c):=b;let e:=funext λk=>a1x (d k).1 (c k).1 λt=>by rw[(d k).2,(c k).2]
 subst e;rw[b2a j,b2a i]
 congr 1
 show a3c (n.sublist dR) (m.sublist dR) ((fC (r.sublist dR) (p.sublist dR)).mpr λk=>?_);rw[cA,cA]
 constructor
 .ext⟨h,q⟩;show(Classical.byContradiction λz=>?_,q);rw[o k z]at q;cases q
 .ext⟨h,q⟩;show(Classical.byContradiction λz=>?_,q);rw[l k z]at q;cases q
def CL.rows(a:CL f g A)(k:Str):Can (rowsOf A k)/\∀t,val (rowsOf A k) t=dif (f k t) (g k t):=by
 let(i,L,rfl,h,e,d,_,b):=a;rw[a2L e]
 split
 .show b k
 .next c=>rw[<- d k c];show b k
def a9q{f g:Int->Z}(c:Can l)(h:∀t,val l t=dif (f t) (g t))(hr:r∈l):r.w=[f r.b,g r.b]/\f r.b≠g r.b:=by
 let q:val l r.b=bo r.w:=by
  clear h
  induction l with
  |nil=>cases hr
  |cons s l ih=>
   rw[a0j];let rfl||hr:=aO.mp hr
   .rw[if_pos (a1H (c.1 _ (.head _)))]
   .let:=(((aW.mp c.2).1 r hr).lt).b (c.1 s (.head _))
    let z:s.has r.b=lT:=by
     cases e:s.has r.b with
     |false=>rfl
     |true=>
      let w:=((aW.mp c.2).1 r hr).lt.has e;rw[a1H (c.1 r (.tail _ hr))]at w;cases w
    rw[z,if_neg (by decide)];show ih c.tail hr
 rw[h]at q;unfold dif at q
 split at q
 .grind
 .next n=>show((bo.inj q).symm,n)
def W2(r:Rw):Prop:=∃x y,r.w=[x,y]/\flat 0 x=lS/\flat 0 y=lS
def CL.w2(a:CL f g A)(hf:FF f)(hg:FF g)(hc:c∈A):W2 c.r/\nmOk c.k:=by
 let(l,L,rfl,m,n,j,i,b):=a;let(k,d,e):=cy.mp hc;let(r,h,rfl):=bf.mp e;show((_,_,(a9q (b k).1 (b k).2 h).1,hf _ _,hg _ _),i k d)
def CL.nil(f:FZ):CL f f []:=([],λ_=>[],rfl,.nil,.nil,λ_ _=>rfl,λ_ h=>(nomatch h),λk=>(Can.nil,λt=>by unfold dif;rw[if_pos rfl];rfl))
noncomputable def rev2:List Z->List Z
 |[x,y]=>[y,x]
 |w=>w
noncomputable def turn(A:List Cg):List Cg:=A.map λc=>(c.k,(c.r.b,c.r.e,rev2 c.r.w))
def b3Y(x y:Z):(dif x y).map rev2=dif y x:=by
 unfold dif
 by_cases c:x=y
 .rw[if_pos c,if_pos c.symm];rfl
 .rw[if_neg c,if_neg (Ne.symm c)];rfl
noncomputable def CL.turn(a:CL f g A):CL g f (turn A):=by
 let(j,L,rfl,d,o,l,n,c):=a;show(j,λk=>(L k).map λr=>(r.b,r.e,rev2 r.w),?_,d,o,λk p=>by change (L k).map _=[];rw[l k p];rfl,n,λk=>((?_,?_),λt=>by rw[a5M,(c k).2,b3Y]))
 .unfold Lw.turn cgs;rw[List.map_flatMap]
  congr 1
  funext k
  rw[bW,bW]
  rfl
 .show (a6C (c k).1.rise).1
 .rw[cq];show cu.imp_of_mem (λ{r s} x v h=>?_) (c k).1.2;let(e,y,B,m):=h;show(e,y,B,λz q=>m z ?_);let i:=(a9q (c k).1 (c k).2 x).1;let u:=(a9q (c k).1 (c k).2 v).1;rw[i,u]at q ⊢;simp only[rev2,bJ.injEq,and_true]at q ⊢;show q.symm
structure CB (A:List Cg):Prop where
 ks:∃ns:List Str,ns.length<=4/\∀c∈A,c.k∈ns
 ln:∀k,(rowsOf A k).length<=150
 all:A.length<=600
noncomputable def CB.turn(h:CB A):CB (turn A):=by
 let((i,j,b),g,a):=h;show((i,j,λc e=>?_),λk=>?_,by unfold Lw.turn;rw[aN];show a)
 .let(d,f,rfl):=bf.mp e;show b d f
 .let:=g k
  unfold rowsOf Lw.turn at *;rw[List.filter_map,aN,aN];rw[aN]at this;show this
def CB.nil:CB []:=(([],by simp,λ_ h=>(nomatch h)),λk=>by simp[rowsOf],by simp)
def OkC(A:List Cg):Prop:=∀c∈A,W2 c.r/\nmOk c.k
def OkC.fl1(h:OkC A):(A.map Cg.z).all (flat 1)=lS:=by
 rw[bL];ext x i;let(c,g,rfl):=bf.mp i;let((x,y,e,a,f),d):=h c g
 change ((Z.str c.k::.int c.r.b::oz c.r.e::c.r.w).all _)=lS
 rw[bG,bG,bG,e,bG,bG,a4g d,a2K,a5C,a,f];rfl
def OkC.fl8(h:OkC A):(A.map Cg.z).all (flat 8)=lS:=a6t (n:=1) (by decide) h.fl1
def OkC.add(h:OkC A)(w:W2 c.r)(k:nmOk c.k):OkC (A++[c]):=λd a=>by
 let a||a:=aP.mp a
 .show h d a
 .rw[aS.mp a];show(w,k)
def a4h(nd:(kvs.map (·.1)).Nodup)(h:(k,z,)∈kvs):valZ kvs k=bo z:=by
 induction kvs with
 |nil=>simp at h
 |cons q kvs ih=>
  rw[aZ,bV]at nd;unfold valZ;rw[cg];let rfl||h:=aO.mp h
  .simp
  .let a:¬ q.1=k:=λb=>nd.1 (b▸bP h);rw[decide_eq_false a];show ih nd.2 h
def Plain.p1(h:Plain l):Pair1 l:=λr a=>let (x,e,f):=h r a;(x,e,a0m (by simp) f)
def Pr2(l:List Rw):Prop:=∀r∈l,∃x y,r.w=[.tup [x,y]]/\flat 0 x=lS/\flat 0 y=lS
def Pr2.p1(h:Pr2 l):Pair1 l:=λr b=>by
 let(x,y,e,a,c):=h r b;show(_,e,by simp[flat,a,c])
def b6I(hb:a1n (l++o) bs)(hr:r∈join (pcs (laidF l o) bs)):∃t,r.w=[wz (val l t),wz (val o t)]/\¬ (wz (val l t)=.non/\wz (val o t)=.non):=by
 let(a,d,f):=(a4d (a4f _ hb.1)).2.2.2 r hr;let(_,e):=a4e d;unfold laidF at e
 split at e
 .grind
 .next c=>show(a.b,f.trans (bo.inj e).symm,c)
def a0r:valZ (putZ kvs k v) j=if j=k then bo v else valZ kvs j:=by
 unfold putZ
 split
 .next hc=>
  let m:∀kvs:List (Key×Z),valZ (kvs.map λkv=>if kv.1=k then (kv.1,v,) else kv) j=(valZ kvs j).map λx=>if j=k then v else x:=by
   ext kvs
   induction kvs with
   |nil=>rfl
   |cons p r ih=>
    unfold valZ at ih ⊢;rw[aZ,cg,cg];let h:(if p.1=k then (p.1,v,) else p).1=p.1:=by split<;>rfl
    rw[h];cases c:decide (p.1=j) with
    |false=>show ih
    |true=>
     let d:=of_decide_eq_true c;simp
     by_cases ck:p.1=k
     .simp_all
     .simp_all
  rw[m]
  by_cases c:j=k
  .subst c;let(p,f,g):=cx.mp hc
   let:(kvs.find? λkv=>decide (kv.1=j)).isSome=lS:=g5.mpr (p,f,g)
   unfold valZ;cases e:kvs.find? λkv=>decide (kv.1=j) with
   |none=>rw[e]at this;cases this
   |some q=>simp
  .simp_all
 .next hc=>
  unfold valZ;rw[fq]
  by_cases c:j=k
  .subst c
   let:kvs.find? (λkv=>decide (kv.1=j))=lR:=by
    rw[dO];ext p i l;show hc (cx.mpr (p,i,l))
   rw[this];simp
  .rw[if_neg c]
   let:[(k,v,)].find? (λkv=>decide (kv.1=j))=lR:=by simp;show λz=>c z.symm
   rw[this,fD]
def a9r(h:valZ kvs k=lR):∀q∈kvs,q.1≠k:=λq b e=>by
 unfold valZ at h
 let:(kvs.find? λa=>decide (a.1=k)).isSome=lS:=g5.mpr (q,b,decide_eq_true e)
 cases e2:kvs.find? λa=>decide (a.1=k) with
 |none=>rw[e2]at this;cases this
 |some x=>rw[e2]at h;cases h
def a1T(h:valZ kvs k=lR):putZ kvs k v=kvs++[(k,v,)]:=by
 unfold putZ;rw[if_neg λz=>?_];let(q,a,b):=cx.mp z;show a9r h q a (of_decide_eq_true b)
set_option tactic.hygienic true in
def b1i{α β:Type}{f:α->β}{ps qs:List β}(h:ps.Perm qs):∀A:List α,qs=A.map f->∃B:List α,B.Perm A/\ps=B.map f:=by
 induction h with
 |nil=>show λA e=>([],by rw[dA.mp e.symm],rfl)
 |cons x _ ih=>
  ext A e
  match A,e with
  |a::A,e=>
   injection e with d g
   let(B,c,rfl):=ih A g;show(a::B,c.cons a,by rw[d];rfl)
 |swap x y l=>
  ext A e
  match A,e with
  |[],e=>cases e
  |[_],e=>cases e
  |a::b::A,e=>
   simp at e;let(rfl,rfl,rfl):=e;show(b::a::A,bx.swap a b A,rfl)
 |trans _ _ ih1 ih2=>
  ext A e;let(B,c,d):=ih2 A e;let(C,i,g):=ih1 B d;show(C,i.trans c,g)
def b6J{α β γ:Type}{f:α->β}{g:α->γ}(A:List α):(A.map f).zip (A.map g)=A.map λx=>(f x,g x,):=by grind
def b1j{α:Type}{f:α->Int}{g:α->Z}{A:List α}{os:List Z}(h:SOut (A.map f) (A.map g) os):∃B:List α,B.Perm A/\os=B.map g/\B.Pairwise λx y=>f x<=f y:=by
 let(d,c,rfl,a):=h;let(B,b,rfl):=b1i c A (b6J A);let a:=cq.mp a;show(B,b,by rw[bW];rfl,a)
theorem a41:∀{l m:List Rw},(l.Pairwise λx y=>x.b<y.b)->(m.Pairwise λx y=>x.b<=y.b)->m.Perm l->m=l
 |[],m,_,_,h=>h.eq_nil
 |y::l,[],_,_,h=>by let:=h.length_eq;simp at this
 |y::l,x::m,h1,h2,h=>by
  let e:x=y:=by
   let e||m1:=aO.mp (h.mem_iff.mp (bU))
   .lia
   .let e||m2:=aO.mp (h.mem_iff.mpr (bU))
    .simp_all
    .let d:=(aW.mp h1).1 x m1;let c:=(aW.mp h2).1 y m2
     lia
  subst e;rw[a41 (aW.mp h1).2 (aW.mp h2).2 h.cons_inv]
def a9s(h:B.Perm A)(s:B.Pairwise λx y=>x.r.b<=y.r.b)(k:Str)(r:Rise (rowsOf A k)):rowsOf B k=rowsOf A k:=by
 show a41 (cu.imp_of_mem (λ{x y} a _ q=>q.b (r.1 x a)) r.2) ?_ ((h.filter _).map _);unfold rowsOf;rw[cq];show s.sublist dR
def a0C:rowsOf (A++[c]) k=rowsOf A k++if c.k=k then [c.r] else []:=by
 unfold rowsOf
 by_cases e:c.k=k<;>simp[e]
def b6K:pr (l++m)=pr l++pr m:=aV
structure PD (B0 G:Hq) (d:Addr) (A:List Cg) (vs:List Str) (kvs:List (Key×Z)):Prop where
 at_:G d=bo (.dK kvs)
 ks:kvs.map (·.1)=vs.map λs=>(Sum.inr s:Key)
 nd:vs.Nodup
 ln:∀w∈vs,∃l,valZ kvs (.inr w)=bo (.ref l)/\G l=bo (.lst ((pr (rowsOf A w)).map Rw.z))/\B0 l=lR
 no:∀w,w∉vs->valZ kvs (.inr w)=lR
 al:∀w,w∈vs↔∃c∈A,c.k=w
 inj:∀w v l,valZ kvs (.inr w)=bo (.ref l)->valZ kvs (.inr v)=bo (.ref l)->w=v
 sm:Sm B0 G
 fr:B0 d=lR
def PD.len(H:PD B0 G d A vs kvs):kvs.length=vs.length:=by let:=congrArg bn H.ks;o_head this
def PD.short(H:PD B0 G d A vs kvs):vs.length<=A.length:=by
 let:=H.nd.length_le_of_subset λw b=>by
  let(c,a,e):=(H.al w).mp b;show bf.mpr (c,a,e)
 o_head this
def PD.weak(H:PD B0 G d A vs kvs)(s:Sm B1 B0):PD B1 G d A vs kvs:=
 (H.at_,H.ks,H.nd,λw e=>let (l,a,b,c):=H.ln w e;(l,a,b,s.free c),H.no,H.al,H.inj,s.trans H.sm,s.free H.fr)
def PD.keep(H:PD B0 G d A vs kvs)(s:Sm G G'):PD B0 G' d A vs kvs:=
 (s _ _ H.at_,H.ks,H.nd,λw e=>let (l,a,b,c):=H.ln w e;(l,a,s _ _ b,c),H.no,H.al,H.inj,H.sm.trans s,H.fr)
def a4i{A:List Cg}{c:Cg}{w:Str}:(∃d∈A++[c],d.k=w)↔(∃d∈A,d.k=w)\/c.k=w:=by
 constructor
 .ext⟨d,hd,e⟩;let hd||hd:=aP.mp hd
  .show .inl (d,hd,e)
  .rw[aS.mp hd]at e;show .inr e
 .ext (⟨d,hd,e⟩ |e)
  .show(d,cP _ hd,e)
  .show(c,bH _ (.head _),e)
def PD.old(H:PD B0 G d A vs kvs)(hw:c.k∈vs)(hl:valZ kvs (.inr c.k)=bo (.ref l))(s:Sm G Gx):PD B0 (put Gx l (.lst ((pr (rowsOf A c.k)).map Rw.z++[Rw.z (c.r.b,c.r.e,[.tup c.r.w])]))) d (A++[c]) vs kvs:=by
 let(q,g,p,i):=H.ln c.k hw;rw[hl]at g;cases g;let f:d≠l:=λz=>by let:=H.at_;rw[z,p]at this;cases this
 show(by rw[a0d f];show s _ _ H.at_,H.ks,H.nd,λw h=>?_,H.no,λw=>?_,H.inj,λb o e=>?_,H.fr)
 .let(m,a,j,n):=H.ln w h
  by_cases cc:w=c.k
  .subst cc;rw[hl]at a;show(l,hl,?_,i);rw[a0a,a0C,if_pos rfl,b6K,aV]
   rfl
  .show(m,a,?_,n);rw[a0d λz=>cc (H.inj w c.k l (by grind) hl),a0C,if_neg (Ne.symm cc),bC];show s _ _ j
 .rw[a4i,<- H.al];show(.inl,λz=>z.elim id λe=>e▸hw)
 .rw[a0d λz=>by rw[z,i]at e;cases e];show s _ _ (H.sm _ _ e)
def PD.new(H:PD B0 G d A vs kvs)(hw:c.k∉vs)(ht:G t=lR):PD B0 (put (put (put G t (.lst [])) d (.dK (putZ kvs (.inr c.k) (.ref t)))) t (.lst [Rw.z (c.r.b,c.r.e,[.tup c.r.w])])) d (A++[c]) (vs++[c.k]) (putZ kvs (.inr c.k) (.ref t)):=by
 let p:=a0g H.at_ ht;let D:=H.no c.k hw;let u:=H.sm.free ht;let n:∀b o,b≠d->G b=bo o->put (put (put G t (.lst [])) d (.dK (putZ kvs (.inr c.k) (.ref t)))) t (.lst [Rw.z (c.r.b,c.r.e,[.tup c.r.w])]) b=bo o:=λb o F e=>by
  let j:=a0g e ht;rw[a0d j,a0d F,a0d j];show e
 let j:∀w l,valZ kvs (.inr w)=bo (.ref l)->l≠t:=λw l e z=>by
  by_cases cc:w∈vs
  .let(y,m,i,_):=H.ln w cc;rw[e]at m;cases m;rw[z,ht]at i;cases i
  .rw[H.no w cc]at e;cases e
 show(by rw[a0d p,a0a],by rw[a1T D,aV,H.ks,aV];rfl,?_,λw h=>?_,λw h=>?_,λw=>?_,λw v l f g=>?_,λb o e=>?_,H.fr)
 .rw[b9];show(H.nd,by simp,λa B b E z=>hw (by simp_all))
 .by_cases cc:w=c.k
  .subst cc;show(t,by rw[a0r,if_pos rfl],?_,u);let J:rowsOf A c.k=[]:=by
    unfold rowsOf;rw[dQ.mpr λx I=>↑(λz:x.k=c.k=>hw ((H.al _).mpr (x,I,z)))]
    rfl
   rw[a0a,a0C,if_pos rfl,J]
   rfl
  .let s:w∈vs:=by
    let q||q:=aP.mp h
    .show q
    .simp_all
   let(y,m,i,C):=H.ln w s;show(y,by rw[a0r,if_neg (λz=>cc (by injection z))];show m,?_,C);rw[n _ _ (λz=>by rw[z,H.at_]at i;cases i) i,a0C,if_neg (Ne.symm cc),bC]
 .rw[aP,not_or]at h;rw[a0r,if_neg (λz=>h.2 (by simp_all))];show H.no w h.1
 .rw[a4i,<- H.al,aP,aS];show or_congr Iff.rfl (Eq.symm,Eq.symm)
 .rw[a0r]at f g
  split at f<;>split at g
  .grind
  .injection f with f;injection f with f;show absurd f.symm (j _ _ g)
  .injection g with g;injection g with g;show absurd g.symm (j _ _ f)
  .show H.inj _ _ _ f g
 .show n _ _ (λz=>by rw[z,H.fr]at e;cases e) (H.sm _ _ e)
def a2s(a:Ad):P3:=λws G R=>∃(p:Addr)(A:List Cg),ws=[.ref p]/\G p=bo (.lst (A.map Cg.z))/\OkC A/\(∀k,Rise (rowsOf A k))/\A.length<=600/\G a.tP=bo lamO /\
 ∀(d:Addr)(B:List Cg)(vs:List Str)(kvs:List (Key×Z))(G':Hq),PD G G' d B vs kvs->B.Perm A->(∀k,rowsOf B k=rowsOf A k)->R (.ref d) G'
def a2t(T:Txt K mg base a):Cal P w K mg base CX0 4 "pairs_by_key" (lowP K (a2s a)):=by
 show fncL 1 (N:=["some","pairs","key","begin","end","then","now"]) T.br (T.f 5 _ rfl) T.lam ?_ (λws G R h=>(by let(_,_,rfl,_):=h;rfl)) (rfl,rfl,rfl,by decide +kernel,rfl,by decide +kernel,by decide +kernel) (by ext kV doc pm an cdv ct us hl;match us,hl with |[_],_=>rfl)
 ext f c A outer s H E ws G R hcd hr nd h;let hu:=b3H hr;show(_,(a0c (z_st (nmI 1 nd) a2A)
  (a0c (a1g (pt:=(.tp [2,3,4,5,6])) iz.never rfl (a3W (q_sk (y:="change") (N:=["change"]) (k:=0) (T.b 0) hr (qv 0) rfl hcd T.gP T.bi (λ_ _ _ _ _ _ hr nd=>(by ac_rfl)) (rfl,rfl,rfl,by decide +kernel,rfl,by decide +kernel,by decide +kernel) rfl rfl rfl (λ_ _ _ us hl=>match us,hl with |[_],_=>rfl))) (by ac_rfl)
  (by ac_rfl))
  (by ac_rfl))),?_)
 let(p,A',rfl,gp,ok,ri,hl,gT,q):=h;lk;ext D hD;show(_,rfl,?_);lk;show b3y ?_;lk;show(p,_,A'.map (·.r.b),rfl,a0b gp hD,by rw[aN];lia,a0b gT hD,by rw[aN,aN],λi w k hw hk=>?_,λt os ht so=>?_)
 .rw[aR]at hw hk;cases hh:A'[i]? with
  |none=>rw[hh]at hw;cases hw
  |some c=>
   rw[hh]at hw hk;cases hw;cases hk;lk;show a06 at1 (rfl,rfl)
 .let(B,pm,rfl,hs):=b1j so;let okB:OkC B:=λc hc=>ok c (pm.mem_iff.mp hc);let lB:B.length<=600:=by rw[pm.length_eq];show hl
  let nDt:D≠t:=a0g a0a ht;let hGt:G t=lR:=(Sm.new hD).free ht;let q:=λvs kvs G' H=>q D B vs kvs G' H pm λk=>a9s pm hs k (ri k);let H0:PD (put G t (.lst (B.map Cg.z))) (put (put G D (.dK [])) t (.lst (B.map Cg.z))) D [] [] []:=by
   show(by rw[a0d nDt,a0a],rfl,.nil,(λw h=>by simp at h),λ_ _=>rfl,λw=>by simp,(λw v l e=>by cases e),λb o e=>?_,by rw[a0d nDt];show hD)
   by_cases c:b=t
   .subst c;rw[a0a]at e ⊢;show e
   .rw[a0d c]at e ⊢;show a0b e hD
  let gB:put G t (.lst (B.map Cg.z)) t=bo (.lst (B.map Cg.z)):=a0a;let sB:Sm G (put G t (.lst (B.map Cg.z))):=Sm.new hGt;generalize put G t (.lst (B.map Cg.z))=B0 at H0 gB sB;generalize put (put G D (.dK [])) t (.lst (B.map Cg.z))=G1 at H0 ⊢;lk;show a1i (H0.sm _ _ gB) ?_;show a0H (λi σ G'=>Ex7 λ(vs:List Str) (kvs:List (Key×Z)) (v1 v2 v3 v4 v5:Option Z)=>PD B0 G' D (B.take i) vs kvs/\σ=[bo (.ref p),bo (.ref D),v1,v2,v3,v4,v5]) (_,_,_,_,_,_,_,H0,rfl) (by ext i σ G' _ ⟨_,_,_,_,_,_,_,H,_⟩;show H.sm _ _ gB) ?_ ?_
  .ext i x σ G2 hx ⟨vs,kvs,v1,v2,v3,v4,v5,H,rfl⟩;rw[aR]at hx;cases hx':B[i]? with
   |none=>rw[hx']at hx;cases hx
   |some c=>
   rw[hx']at hx;cases hx;let hi:=(aT.mp hx').1;let((x,y,e0,fx,fy),hk):=okB c (bp hx');let tk:=take_snoc hx';let lv:=H.short;let lh:=H.len;rw[bh]at lv;let l3:(B.take i).length<=600:=by rw[bh];lia
   rw[tk];generalize B.take i=A0 at H lv l3;let(k,b,en,w):=c;cases e0;show(_,rfl,?_);lk;show a5v H.at_ ?_;lk;show(lenK rfl,λt0 ht0=>?_);lk;show b1V (a0b H.at_ ht0) rfl (a0e (by lia)) (λz hz=>?_) λhz=>?_
   .let hwv:k∈vs:=by
     by_cases c:k∈vs
     .show c
     .let:=H.no k c;rw[hz]at this;cases this
    let(l',e1,e2,_):=H.ln k hwv;rw[hz]at e1;cases e1;show a04 (a0b e2 ht0) ?_;lk;show(lenK rfl,?_);lk;show(lenK rfl,?_);lk;show a0u (a0b e2 ht0) ?_ (vs,kvs,_,_,_,_,_,H.old (c:=(k,(b,en,[x,y]))) hwv hz (Sm.new ht0),rfl);unfold pr rowsOf;rw[aN,aN,aN];show a0e (by let:=fw (λc:Cg=>decide (c.k=k)) A0;lia)
   .let hwv:k∉vs:=λc=>by
     let(l',e1,_):=H.ln k c;rw[hz]at e1;cases e1
    let ndt:D≠t0:=a0g H.at_ ht0;let gt0:put (put G2 t0 (.lst [])) D (.dK (putZ kvs (.inr k) (.ref t0))) t0=bo (.lst []):=by rw[a0d (Ne.symm ndt),a0a]
    show a04 gt0 ?_;lk;show(lenK rfl,?_);lk;show(lenK rfl,?_);lk;show a0u gt0 (a0e (by simp)) (vs++[k],putZ kvs (.inr k) (.ref t0),_,_,_,_,_,H.new (c:=(k,(b,en,[x,y]))) hwv ht0,rfl)
  .ext σ G2 ⟨vs,kvs,v1,v2,v3,v4,v5,H,rfl⟩;rw[aN,bX]at H;lk;show q vs kvs G2 (H.weak sB)
def b1k(c:Can l)(hr:r∈l):val l r.b=bo r.w:=by
 induction l with
 |nil=>cases hr
 |cons s l ih=>
  rw[a0j];let rfl||hr:=aO.mp hr
  .rw[if_pos (a1H (c.1 _ (.head _)))]
  .let z:s.has r.b=lT:=by
    cases e:s.has r.b with
    |false=>rfl
    |true=>
     let w:=((aW.mp c.2).1 r hr).lt.has e;rw[a1H (c.1 r (.tail _ hr))]at w;cases w
   rw[z,if_neg (by decide)];show ih c.tail hr
def a2h(h:r∈rowsOf A k):(k,r)∈A:=by
 let(c,d,rfl):=bf.mp h;let(a,b):=cA.mp d
 let:c.k=k:=↑b
 subst this;show a
def CL.okC(a:CL f g A)(hf:FF f)(hg:FF g):OkC A:=λ_ hc=>a.w2 hf hg hc
def b6L(a:CL f g A)(hf:FF f)(hg:FF g)(k:Str):Pr2 (pr (rowsOf A k)):=λr d=>by
 let(s,b,rfl):=bf.mp d;let((x,y,e,h,c),_):=a.okC hf hg _ (a2h b);show(x,y,by change [Z.tup s.w]=_;rw[e],h,c)
def PD.get(H:PD B0 G d B vs kvs)(hr:∀k,rowsOf B k=rowsOf A k)(s:Sm G G')(g0:G' t0=bo (.lst []))(k:Str) :
  ∃x,(valZ kvs (.inr k)).getD (.ref t0)=.ref x/\G' x=bo (.lst ((pr (rowsOf A k)).map Rw.z)):=by
 by_cases c:k∈vs
 .let(l,e,f,_):=H.ln k c;show(l,by rw[e];rfl,by rw[<- hr];show s _ _ f)
 .show(t0,by rw[H.no k c];rfl,?_);let a:rowsOf B k=[]:=by
   unfold rowsOf;rw[dQ.mpr λx b=>↑(λz:x.k=k=>c ((H.al _).mpr (x,b,z)))]
   rfl
  rw[<- hr,a];show g0
def b1l{A B:Prop}(h:A):if (!false)=lS then A else B:=h
def b3Z{A B:Prop}(h:B):if (!true)=lS then A else B:=h
def a9t(h:t σ G λws G1=>sp ws G1 R EE):a8P sp EE t σ G R:=h
local macro_rules | `(tactic| walk_at "go1")=>`(tactic| with_reducible first | apply b1l | apply b3Z | apply a9t)
theorem a6D:∀{l:List Rw},Rise l->val (l.filterMap λr=>(h r.w).map λw=>((r.b,r.e,w):Rw)) t=(val l t).bind h
 |[],_=>rfl
 |r::l,g=>by
  rw[bY,a0j];let a:=a6D (h:=h) (t:=t) g.tail
  by_cases c:r.has t=lS
  .rw[if_pos c];let n:=a01 λs d=>((aW.mp g.2).1 s d).has c;rw[n]at a;cases e:h r.w with
   |none=>show a.trans e.symm
   |some w=>
    change val (_::_) t=h r.w
    rw[a0j,if_pos (show (Rw.mk r.b r.e w).has t=lS from c),e]
  .rw[if_neg c];cases e:h r.w with
   |none=>show a
   |some w=>
    change val (_::_) t=_
    rw[a0j,if_neg (show ¬ (Rw.mk r.b r.e w).has t=lS from c),a]
def a9u{h:List Z->Option (List Z)}(g:Rise l):Rise (l.filterMap λr=>(h r.w).map λw=>((r.b,r.e,w):Rw)):=by
 let i:∀r c:Rw,(h r.w).map (λw=>((r.b,r.e,w)))=bo c->c.b=r.b/\c.e=r.e:=λr c e=>by
  cases q:h r.w with
  |none=>rw[q]at e;cases e
  |some w=>rw[q]at e;cases e;show(rfl,rfl)
 show(λr m=>?_,b8r (λr s c p q d f=>?_) g.2)
 .let(s,k,e):=cS.mp m;let(d,f):=i s r e
  let:=g.1 s k
  unfold Rw.good at *;rw[d,f];show this
 .let(x,a,b):=q;let(o,n):=i _ _ d;let(j,t):=i _ _ f;show(x,by rw[n];show a,by rw[j];show b)
noncomputable def nwW:List Z->Option (List Z)
 |[x,y]=>optW (if y=.non then x else sndZ y)
 |_=>lR
noncomputable def lch(l o:List Rw)(bs:List Int):List Rw:=join ((join (pcs (laidF l o) bs)).filterMap λr=>(nwW r.w).map λw=>(r.b,r.e,w))
def b6M{u f g:Int->Z}{l o:List Rw}{bs:List Int}(hl:∀t,wz (val l t)=u t)(ho:∀t,val o t=dif (f t) (g t))(hb:a1n (l++pr o) bs) :
  Can (lch l (pr o) bs)/\(∀t,val (lch l (pr o) bs) t=optW (if f t=g t then u t else g t))/\(lch l (pr o) bs).length<=bs.length:=by
 let q:=laid_ok hb;let j:=a4d (a9u (h:=nwW) q.1.rise);show(j.1,λt=>?_,bj j.2.2.1 (bj (cO _ _) q.2.2))
 change val (join _) t=_
 rw[j.2.1,a6D q.1.rise,q.2.1];unfold laidF;rw[hl,b1h (ho t)]
 by_cases a:f t=g t
 .rw[if_pos a,if_pos a]
  by_cases b:u t=.non
  .rw[if_pos (b,rfl),b];rfl
  .rw[if_neg λz=>b z.1]
   change nwW [u t,.non]=_
   simp[nwW]
 .simp[a,nwW,sndZ]
def b8v{u x y:Z}{w:List Z}(h:nwW [u,if x=y then .non else .tup [x,y]]=bo w):w=[if x=y then u else y]:=by
 by_cases c:x=y
 .subst c;simp[nwW,optW]at h;simp[h.2]
 .simp[nwW,optW,c,sndZ]at h;simp[c,h.2]
def a2u(a:Ad):PX3:=λws G R EE=>Ex7 λ(p q:Addr) (l o:List Rw) (u f g:Int->Z)=>ws=[.ref p,.ref q]/\G p=bo (.lst (l.map Rw.z))/\G q=bo (.lst ((pr o).map Rw.z))/\Rise l/\Plain l/\Can o/\Pr2 (pr o)/\l.length<=200/\o.length<=150/\(∀t,wz (val l t)=u t)/\(∀t,val o t=dif (f t) (g t))/\(∀t,flat 0 (u t)=lS/\flat 0 (f t)=lS/\flat 0 (g t)=lS) /\
 ((∀t,f t≠g t->u t=f t)->∀(t:Addr)(L:List Rw)(G':Hq),G t=lR->Sm G G'->G' t=bo (.lst (L.map Rw.z))->Can L->(∀t,val L t=optW (if f t=g t then u t else g t))->Plain L->R (.ref t) G') /\
 ((∃t,f t≠g t/\u t≠f t)->∀G',Sm G G'->EE a.x_NoFit G')
def a2v(T:Txt K mg base a):Cal P w K mg base (CXx P w) 4 "line_changed" (a37 K (a2u a)):=by
 show fncX 2 (N:=["line","pairs","pieces","begin","end","worth","pair","now"]) T.br (T.f 6 _ rfl) ?_ (len:=λws G R EE h=>(by let(_,_,_,_,_,_,_,rfl,_):=h;rfl));walk_at "inx";show(_,(a0c (by ac_rfl)
  (a0c (a1g (pt:=(.tp [3,4,5,6])) iz.leaving rfl (by ac_rfl) (by ac_rfl)
  (a0c (z_if (by ac_rfl)
  (a0L (b3h Outs.of ux rfl rfl T.x_NoFit T.xi_NoFit b2C (se_ rfl) b1E))
  a1Y)
  (by ac_rfl)))
  (by ac_rfl))),?_)
 let(p,q,l,o,u',f',g',rfl,gp,gq,rl,pl,co,po,zl,zo,vl,vo,ff,fin,bad):=h;lk;show(lenK rfl,λW hW=>?_);generalize ee:put G W _=G1;let(gW,s1):=newK ee hW;lk;show(p,q,l,pr o,rfl,s1 _ _ gp,s1 _ _ gq,rl,pl.p1,a6C (h:=λw=>[.tup w]) co.rise,po.p1,zl,by unfold pr;rw[aN];show zo,λx bs G2 hx s2 hb hbl gu=>?_);let gW2:=s2 _ _ gW;let nuW:x≠W:=λz=>by rw[z,gW]at hx;cases hx
 let lk:=b6M vl vo hb;let LW:=λ(r:Rw) (hr:r∈join (pcs (laidF l (pr o)) bs))=>b6I hb hr;let LL:=(laid_ok hb).2.2;let LV:∀t,f' t≠g' t->val (join (pcs (laidF l (pr o)) bs)) t=bo [u' t,.tup [f' t,g' t]]:=λt c=>by
  rw[(laid_ok hb).2.1];unfold laidF;rw[vl,b1h (vo t),if_neg c,if_neg λz=>nomatch z.2]
 let hbl:bs.length<=700:=by
  unfold pr at hbl;rw[aN]at hbl
  lia
 unfold lch at lk;generalize join (pcs (laidF l (pr o)) bs)=J at gu LW LL lk LV;lk;show a1i gu ?_;show a0H (λi σ G'=>Ex5 λ(v1 v2 v3 v4 v5:Option Z)=>Kq W G2 G'/\G' W=bo (.lst (((J.take i).filterMap λr=>(nwW r.w).map λw=>((r.b,r.e,w):Rw)).map Rw.z))/\(∀r∈J.take i,∀x y,r.w=[x,y]->y≠.non->fstZ y=x)/\σ=[bo (.ref p),bo (.ref q),bo (.ref W),v1,v2,v3,v4,v5]) (_,_,_,_,_,λ_ _ e _=>e,gW2,λr h=>by simp at h,rfl) (by ext i σ G' _ ⟨_,_,_,_,_,k,_⟩;show k _ _ gu nuW) ?_ ?_
 .ext i x σ G3 hx ⟨v1,v2,v3,v4,v5,kq,gW3,hfit,rfl⟩;let s3:Sm G G3:=λb o e=>kq b o (s2 _ _ (s1 _ _ e)) (a0g e hW);rw[aR]at hx;cases hx':J[i]? with
  |none=>rw[hx']at hx;cases hx
  |some r=>
  rw[hx']at hx;cases hx;let hi:=(aT.mp hx').1;let(t,e,c):=LW r (bp hx');rw[vl,b1h (vo t)]at e c;let tk:((J.take (i+1)).filterMap λr=>(nwW r.w).map λw=>((r.b,r.e,w):Rw))=((J.take i).filterMap λr=>(nwW r.w).map λw=>((r.b,r.e,w):Rw))++((nwW r.w).map λw=>((r.b,r.e,w):Rw)).toList:=by
   rw[take_snoc hx',eO]
   congr 1
  let lt:((J.take i).filterMap λr=>(nwW r.w).map λw=>((r.b,r.e,w):Rw)).length<=700:=bj (cO _ _) (by rw[bh];lia);let hfit2:(f' t≠g' t->f' t=u' t)->∀s∈J.take (i+1),∀x y,s.w=[x,y]->y≠.non->fstZ y=x:=λhf s hs x y e2 hy=>by
   rw[take_snoc hx']at hs;let hs||hs:=aP.mp hs
   .show hfit s hs x y e2 hy
   .rw[aS.mp hs,e]at e2;simp only[bJ.injEq,and_true]at e2;let(rfl,rfl):=e2
    by_cases eq:f' t=g' t
    .rw[if_pos eq]at hy;show absurd rfl hy
    .rw[if_neg eq];show hf eq
  generalize ((J.take i).filterMap λr=>(nwW r.w).map λw=>((r.b,r.e,w):Rw))=P0 at gW3 tk lt;rw[e]at tk;let(b,en,w):=r;cases e;let fl:=ff t;let app:∀(x:Z)(v1 v2 v3 v4 v5:Option Z),(f' t≠g' t->f' t=u' t)->nwW [u' t,if f' t=g' t then .non else .tup [f' t,g' t]]=bo [x]->a2W (.ref W) [.tup [.int b,oz en,x]] G3 (λ_ G'=>Ex5 λ(u1 u2 u3 u4 u5:Option Z)=>Kq W G2 G'/\G' W=bo (.lst (((J.take (i+1)).filterMap λr=>(nwW r.w).map λw=>((r.b,r.e,w):Rw)).map Rw.z))/\(∀r∈J.take (i+1),∀x y,r.w=[x,y]->y≠.non->fstZ y=x)/\([bo (.ref p),bo (.ref q),bo (.ref W),v1,v2,v3,v4,v5]:S3)=[bo (.ref p),bo (.ref q),bo (.ref W),u1,u2,u3,u4,u5]):=λx v1 v2 v3 v4 v5 hf ew=>by
   show a0u gW3 (by rw[aN];show a0e (by lia)) (_,_,_,_,_,λb o e1 nb=>by rw[a0d nb];show kq b o e1 nb,?_,hfit2 hf,rfl);rw[a0a,tk,ew,aV]
   rfl
  let non:∀(v1 v2 v3 v4 v5:Option Z),(f' t≠g' t->f' t=u' t)->nwW [u' t,if f' t=g' t then .non else .tup [f' t,g' t]]=lR->Ex5 λ(u1 u2 u3 u4 u5:Option Z)=>Kq W G2 G3/\G3 W=bo (.lst (((J.take (i+1)).filterMap λr=>(nwW r.w).map λw=>((r.b,r.e,w):Rw)).map Rw.z))/\(∀r∈J.take (i+1),∀x y,r.w=[x,y]->y≠.non->fstZ y=x)/\([bo (.ref p),bo (.ref q),bo (.ref W),v1,v2,v3,v4,v5]:S3)=[bo (.ref p),bo (.ref q),bo (.ref W),u1,u2,u3,u4,u5]:=λv1 v2 v3 v4 v5 hf ew=>
   (_,_,_,_,_,kq,by rw[tk,ew];o_head gW3,hfit2 hf,rfl)
  show(_,rfl,?_)
  by_cases eq:f' t=g' t
  .rw[if_pos eq]at app non c ⊢;let fn:u' t≠.non:=λz=>c (z,rfl);lk;show ifN (λ_=>?_) λz=>absurd z fn;lk;show a04 gW3 ?_;lk;show(lenK rfl,?_);lk;show app (u' t) _ _ _ _ _ (λz=>absurd eq z) (by simp[nwW,optW,fn])
  .rw[if_neg eq]at app non c ⊢;lk;show a0W (a0m (by decide) fl.2.1) (a0m (by decide) fl.1) ?_
   by_cases fu:f' t=u' t
   .rw[decide_eq_true fu];lk;show ifN (λgn=>?_) λgn=>?_
    .lk;show a04 gW3 ?_;lk;show(lenK rfl,?_);lk;show app (g' t) _ _ _ _ _ (λ_=>fu) (by simp[nwW,optW,sndZ,gn])
    .lk;show non _ _ _ _ _ (λ_=>fu) (by simp[nwW,optW,sndZ,gn])
   .rw[decide_eq_false fu];lk;show bad (t,eq,Ne.symm fu) _ s3
 .ext σ G3 ⟨v1,v2,v3,v4,v5,kq,gW3,hfit,rfl⟩;rw[aN,bX]at gW3 hfit;lk;let s3:Sm G G3:=λb o e=>kq b o (s2 _ _ (s1 _ _ e)) (a0g e hW);let fin:=fin λt c=>by
   let(r,hr,_,e):=a1m (LV t c);show (hfit r hr _ _ e (λz=>nomatch z)).symm
  let w1:∀r∈J.filterMap (λr=>(nwW r.w).map λw=>((r.b,r.e,w):Rw)),∃x,r.w=[x]/\flat 0 x=lS:=λr hr=>by
   let(s,hs,e):=cS.mp hr;let(t,e1,c):=LW s hs;rw[vl,b1h (vo t)]at e1;cases q:nwW s.w with
   |none=>rw[q]at e;cases e
   |some w=>
    rw[q]at e;cases e;rw[e1]at q;show(_,b8v q,?_)
    split
    .show (ff t).1
    .show (ff t).2.2
  show(W,_,rfl,gW3,λr hr=>?_,bj (cO _ _) (by lia),λz hz=>fin z _ _ (s3.free hz) (s3.trans (Sm.new hz)) a0a lk.1 lk.2.1 λr hr=>?_)
  .let(x,e,f):=w1 r hr;show(by rw[e];simp,?_);rw[e,bG,a0m (by decide) f];rfl
  .obtain⟨t,e⟩:∃t,optW (if f' t=g' t then u' t else g' t)=bo r.w:=(r.b,by rw[<- lk.2.1];show b1k lk.1 hr);let fy:flat 0 (if f' t=g' t then u' t else g' t)=lS:=by
    split
    .show (ff t).1
    .show (ff t).2.2
   generalize (if f' t=g' t then u' t else g' t)=y at e fy;unfold optW at e
   split at e
   .cases e
   .show(_,(bo.inj e).symm,fy)
def a42(nd:(rows.map (·.1)).Nodup):a2C [] rows=rows:=by
 let c:∀a b,((b++a).map (·.1)).Nodup->a2C b a=b++a:=by
  ext a
  induction a with
  |nil=>ext b _;simp[a2C]
  |cons r a ih=>
   ext b h;let d:valZ b r.1=lR:=by
    cases e:valZ b r.1 with
    |none=>rfl
    |some z=>
     unfold valZ at e;cases e2:b.find? λi=>decide (i.1=r.1) with
     |none=>rw[e2]at e;cases e
     |some q=>
      rw[aV,b9]at h;let g:q.1=r.1:=by let:=fh e2;o_head this
      show absurd g (h.2.2 q.1 (bP (dP e2)) r.1 (by simp))
   change a2C (putZ b r.1 r.2) a=_
   rw[a1T d,ih _ (by simp_all)];simp
 o_head c rows [] (by simp_all)
structure TabN (G:Hq) (d:Addr) (f:FZ) (ts:List Str) (kvs:List (Key×Z)):Prop where
 at_:G d=bo (.dK kvs)
 ks:kvs.map (·.1)=ts.map (λs=>(Sum.inr s:Key))
 nd:ts.Nodup
 ln:∀k∈ts,∃l L,valZ kvs (.inr k)=bo (.ref l)/\G l=bo (.lst (L.map Rw.z))/\Can L/\Plain L/\L≠[]/\∀t,val L t=optW (f k t)
 no:∀k,k∉ts->valZ kvs (.inr k)=lR/\∀t,f k t=.non
def TabN.keep{G G':Hq}{d:Addr}{f:FZ}{ts:List Str}{kvs:List (Key×Z)}(H:TabN G d f ts kvs)(s:Sm G G'):TabN G' d f ts kvs:=(s _ _ H.at_,H.ks,H.nd,λk hk=>let (l,L,a,b,c):=H.ln k hk;(l,L,a,s _ _ b,c),H.no)
def a2i{x:Z}(h:optW x=lR):x=.non:=by
 unfold optW at h
 split at h
 .assumption
 .cases h
def TabN.get{G G':Hq}{d t0:Addr}{f:FZ}{ts:List Str}{kvs:List (Key×Z)}(H:TabN G d f ts kvs)(s:Sm G G')(g0:G' t0=bo (.lst []))(k:Str) :
  ∃x L,(valZ kvs (.inr k)).getD (.ref t0)=.ref x/\G' x=bo (.lst (L.map Rw.z))/\Can L/\Plain L/\∀t,val L t=optW (f k t):=by
 by_cases c:k∈ts
 .let(l,L,e1,e2,e3,e4,_,e6):=H.ln k c;show(l,L,by rw[e1];rfl,s _ _ e2,e3,e4,e6)
 .show(t0,[],by rw[(H.no k c).1];rfl,g0,Can.nil,Plain.nil,λt=>by rw[(H.no k c).2];rfl)
def a1U{kvs:List (Key×Z)}{ts:List Str}(ks:kvs.map (·.1)=ts.map (λs=>(Sum.inr s:Key)))(nd:ts.Nodup){i:Nat}{p:Key×Z}(h:kvs[i]?=bo p):∃k,k∈ts/\p.1=.inr k/\valZ kvs (.inr k)=bo p.2:=by
 let k1:(ts.map (λs=>(Sum.inr s:Key)))[i]?=bo p.1:=by rw[<- ks,aR,h];rfl
 rw[aR]at k1;cases e:ts[i]? with
 |none=>rw[e]at k1;cases k1
 |some k=>
  rw[e]at k1;let k1:Sum.inr k=p.1:=bo.inj k1;show(k,bp e,k1.symm,a4h (by rw[ks];show cq.mpr (nd.imp λh z=>h (by injection z))) ?_);rw[k1];show bp h
def TabN.same{G:Hq}{d e:Addr}{f:FZ}{ts us:List Str}{kv kv2:List (Key×Z)}(H:TabN G d f ts kv)(K:TabN G e f us kv2):a87 (LEq G) G (.ref d) (.ref e):=by
 let sub:∀{d e:Addr}{ts us:List Str}{kv kv2:List (Key×Z)},TabN G d f ts kv->TabN G e f us kv2->∀k,k∈ts->k∈us:=λ{d e ts us kv kv2} H K k h=>Classical.byContradiction λc=>by
  let(l,L,_,_,a3,_,a5,a6):=H.ln k h;show a5 (a1x a3 Can.nil λt=>by rw[a6,(K.no k c).2 t];rfl)
 let el:ts.length=us.length:=((fC H.nd K.nd).mpr λk=>(sub H K k,sub K H k)).length_eq;let l1:=congrArg bn H.ks;let l2:=congrArg bn K.ks;simp at l1 l2;show(d,e,kv,kv2,rfl,rfl,.inl H.at_,.inl K.at_,by lia,λi p hp=>?_);let(k,hk,e1,e2):=a1U H.ks H.nd hp;let(l,L,a1,a2,a3,a4,_,a6):=H.ln k hk;let(l',M,b1,b2,b3,b4,_,b6):=K.ln k (sub H K k hk);rw[e2]at a1
 let:L=M:=a1x a3 b3 λt=>by rw[a6,b6]
 subst this;show(_,by rw[e1];show b1,l,l',_,bo.inj a1,rfl,a2,b2,a1y a4.okR)
def LB(u:FZ):Prop:=∀k L,Can L->(∀t,val L t=optW (u k t))->L.length<=200
noncomputable def hh(u f g:FZ):FZ:=λk t=>if f k t=g k t then u k t else g k t
structure Own1 (G:Hq) (W:Addr) (kv:List (Key×Z)):Prop where
 new:∀k l,valZ kv (.inr k)=bo (.ref l)->G l=lR/\l≠W
 one:∀k j l,valZ kv (.inr k)=bo (.ref l)->valZ kv (.inr j)=bo (.ref l)->k=j
def a43(a:Ad):PX3:=λws G R EE=>Ex8 λ(d q:Addr) (B:List Cg) (ts:List Str) (kvs:List (Key×Z)) (u f g:FZ)=>ws=[.ref d,.ref q]/\TabN G d u ts kvs/\ts.length<=5/\LB u/\G q=bo (.lst (B.map Cg.z))/\CL f g B/\CB B/\FF u/\FF f/\FF g/\G a.tP=bo lamO /\
 ((∀k t,f k t≠g k t->u k t=f k t)->∀(W:Addr)(us:List Str)(kv:List (Key×Z))(G':Hq),G W=lR->Sm G G'->TabN G' W (hh u f g) us kv->Own1 G W kv->R (.ref W) G')/\((∃k t,f k t≠g k t/\u k t≠f k t)->∀G',Sm G G'->EE a.x_NoFit G')
def a1a(T:Txt K mg base a):Cal P w K mg base (CXx P w) 5 "changed" (a37 K (a43 a)):=by
 show fncX 2 (N:=["tables","some","pairs","told","key","line"]) T.br (T.f 7 _ rfl) ?_ (len:=λws G R EE h=>(by let(_,_,_,_,_,_,_,_,rfl,_):=h;rfl));walk_at "inx";show(_,(a0c (by ac_rfl)
  (a0c (z_st (nmI 3 nd) a2A)
  (a0c (a1g (pt:=(.nm 4)) iz.leaving rfl (a3W (b8k rfl rfl (T.b 0) rfl rfl (T.b 1) rfl (q_k (qv 0) a0E) (q_k (qv 2) a0E) (he:=se_ rfl) (hpl:=hp_ rfl) (he2:=se_ rfl) (hpl2:=hp_ rfl))) (p_nm (nmI 4 nd))
  (a0c (z_st (nmI 5 nd) (q_cX (a93 Outs.of) ux.since (a2v T) hr (by ac_rfl) ))
  (a0L (z_if (b48 (qv 5) (λ_=>rfl))
  (a0L (a1u (qv 5) (qv 3) (qv 4) (a24 hu)))
  a1Y))))
  (by ac_rfl)))),?_)
 let(d,q,B',ts,kvs,u',f',g',rfl,H1,l1,lbu,gq,cb,bb,fu,ff,fg,gT,fin,bad):=h;lk;show(q,B',rfl,gq,cb.okC ff fg,λk=>(cb.rows k).1.rise,bb.all,gT,λd2 P2 vs2 kv2 G1 H2 pm2 r2=>?_)
 replace H1:=H1.keep H2.sm
 let l2:vs2.length<=4:=by
  let(ns,a1,a2):=bb.ks;show bj (H2.nd.length_le_of_subset λw hw=>by let(c,h1,h2):=(H2.al w).mp hw;rw[<- h2];show a2 c (pm2.mem_iff.mp h1)) a1
 lk;ext W hW;show(_,rfl,?_);generalize ee:put G1 W _=G2;let(gW,s2):=newK ee hW;lk;unfold uSSU;lk;show(ts,(d,kvs,rfl,.inl (s2 _ _ H1.at_),H1.ks,l1),?_);lk;show(vs2,(d2,kv2,rfl,.inl (s2 _ _ H2.at_),H2.ks,Nat.le_succ_of_le l2),λt ks ht so nd mem l8=>?_);let ntW:t≠W:=λz=>by rw[z,gW]at ht;cases ht
 generalize ee4:put G2 t _=G4;let(gt,s4):=newK ee4 ht;let kp:∀G',Kq W G4 G'->Sm G1 G':=λG' k b o e=>k _ _ (s4 _ _ (s2 _ _ e)) (a0g e hW);let gW4:=s4 _ _ gW;lk;show a1i gt ?_;show a0H (λi σ G'=>Ex4 λ(us:List Str) (kv:List (Key×Z)) (v1 v2:Option Z)=>An9 (Kq W G4 G') (G' W=bo (.dK kv)) (us.Sublist (ks.take i)) (kv.map (·.1)=us.map (λs=>(Sum.inr s:Key))) (∀k∈us,∃l L,valZ kv (.inr k)=bo (.ref l)/\l≠W/\G' l=bo (.lst (L.map Rw.z))/\Can L/\Plain L/\L≠[]/\∀t,val L t=optW (hh u' f' g' k t)) (∀k,k∉us->valZ kv (.inr k)=lR/\(k∈ks.take i->∀t,hh u' f' g' k t=.non)) (∀k∈ks.take i,∀t,f' k t≠g' k t->u' k t=f' k t) (Own1 G W kv) (σ=[bo (.ref d),bo (.ref q),bo (.ref d2),bo (.ref W),v1,v2]))
  ([],[],_,_,λ_ _ e _=>e,gW4,fE _,rfl,(λk h=>by cases h),λk _=>(rfl,λh=>by simp at h),(λk h=>by simp at h),((λk l e=>by cases e),λk j l e=>by cases e),rfl) (by ext i σ G' _ ⟨_,_,_,_,k,_⟩;show k _ _ gt ntW) ?_ ?_
 .ext i x σ G5 hx ⟨us,kv,v1,v2,kq,gW5,hus,hks,hln,hno,hft,own,rfl⟩;let hi:=(aT.mp hx).1;rw[aN]at hi;rw[aR]at hx;cases hx':ks[i]? with
  |none=>rw[hx']at hx;cases hx
  |some key=>
  rw[hx']at hx;cases hx;let nkey:key∉ks.take i:=λz=>by
   let(j,hj,e):=b8.mp z;rw[bh]at hj;rw[dS]at e;let(h2,e2):=aT.mp hx';show bR.mp nd j i (by lia) h2 (by lia) (e.trans e2.symm)
  let nus:key∉us:=λz=>nkey (hus.subset z);let lus:us.length<=10:=by let:=hus.length_le;rw[bh]at this;lia
  let lkv:kv.length<=10:=by let:=congrArg bn hks;simp at this;lia
  show(_,rfl,?_);lk;show a5v (kp _ kq _ _ H1.at_) ?_;lk;show(lenK rfl,λt1 ht1=>?_);generalize ee6:put G5 t1 _=G6;let(g1,s6):=newK ee6 ht1;let(x1,L1,e1,gx1,cL1,pL1,vL1):=H1.get ((kp _ kq).trans s6) g1 key;lk;show a4L (s6 _ _ (kp _ kq _ _ H1.at_)) rfl ?_;rw[e1];lk;show a5v (s6 _ _ (kp _ kq _ _ H2.at_)) ?_;lk;show(lenK rfl,λt2 ht2=>?_);generalize ee7:put G6 t2 _=G7;let(g2,s7):=newK ee7 ht2;let(x2,e2,gx2):=H2.get r2 (((kp _ kq).trans s6).trans s7) g2 key;lk;show a4L (s7 _ _ (s6 _ _ (kp _ kq _ _ H2.at_))) rfl ?_;rw[e2];lk;let lb:=bb.ln key;let rb:=cb.rows key;let va:∀t,wz (val L1 t)=u' key t:=λt=>by rw[vL1,a5J]
  show(x1,x2,L1,rowsOf B' key,u' key,f' key,g' key,rfl,s7 _ _ gx1,gx2,cL1.rise,pL1,rb.1,b6L cb ff fg key,lbu key L1 cL1 vL1,lb,va,rb.2,λt=>(fu _ _,ff _ _,fg _ _),λhfit y L G8 hy s8 gy cL vL pL=>?_,λhb G8 s8=>?_)
  .let vL:∀t,val L t=optW (hh u' f' g' key t):=vL;let hft2:∀k∈ks.take (i+1),∀t,f' k t≠g' k t->u' k t=f' k t:=λk hk t c=>by
    rw[take_snoc hx']at hk;let hk||hk:=aP.mp hk
    .show hft k hk t c
    .rw[aS.mp hk]at c ⊢;show hfit t c
   let s58:Sm G5 G8:=(s6.trans s7).trans s8;let nyW:y≠W:=λz=>by rw[z,s7 _ _ (s6 _ _ gW5)]at hy;cases hy
   let sGy:G y=lR:=(H2.sm.trans ((kp _ kq).trans (s6.trans s7))).free hy;let nold:∀k,valZ kv (.inr k)≠bo (.ref y):=λk e=>by
    by_cases c:k∈us
    .let(l,M,a1,_,a3,_):=hln k c;rw[e]at a1;cases a1;rw[s7 _ _ (s6 _ _ a3)]at hy;cases hy
    .rw[(hno k c).1]at e;cases e
   let kq8:Kq W G4 G8:=λb o e nb=>s58 _ _ (kq _ _ e nb);lk;show b1M gy ?_;cases hL:L with
   |nil=>
    lk;show(us,kv,_,_,kq8,s58 _ _ gW5,by rw[take_snoc hx'];show hus.trans (fF _ _),hks,λk hk=>?_,λk hk=>?_,hft2,own,rfl)
    .let(l,M,a1,a2,a3,a4):=hln k hk;show(l,M,a1,a2,s58 _ _ a3,a4)
    .show((hno k hk).1,λh t=>?_);rw[take_snoc hx']at h;let h||h:=aP.mp h
     .show (hno k hk).2 h t
     .rw[aS.mp h]
      let:=vL t
      rw[hL]at this;show a2i this.symm
   |cons r L'=>
    lk
    change if (!false)=lS then _ else _
    show b1l ?_;lk;show a25 (s58 _ _ gW5) rfl (a0e (by lia)) ?_;let hv:=(hno key nus).1;show(us++[key],putZ kv (.inr key) (.ref y),_,_,λb o e nb=>by rw[a0d nb];show kq8 _ _ e nb,a0a,by rw[take_snoc hx'];show hus.append_right _,by rw[a1T hv,aV,hks,aV];rfl,λk hk=>?_,λk hk=>?_,hft2,(λk l e=>?_,λk j l e e2=>?_),rfl)
    .by_cases c:k=key
     .subst c;show(y,L,by rw[a0r,if_pos rfl],nyW,by rw[a0d nyW];show gy,cL,pL,by rw[hL];simp,vL)
     .let hk2:k∈us:=by
       let h||h:=aP.mp hk
       .show h
       .show absurd (aS.mp h) c
      let(l,M,a1,a2,a3,a4):=hln k hk2;show(l,M,by rw[a0r,if_neg λz=>c (by injection z)];show a1,a2,by rw[a0d a2];show s58 _ _ a3,a4)
    .rw[aP,not_or]at hk;let c:k≠key:=λz=>hk.2 (by rw[z];simp);show(by rw[a0r,if_neg λz=>c (by injection z)];show (hno k hk.1).1,λh t=>?_);rw[take_snoc hx']at h;let h||h:=aP.mp h
     .show (hno k hk.1).2 h t
     .show absurd (aS.mp h) c
    .rw[a0r]at e
     split at e
     .cases e;show(sGy,nyW)
     .show own.new k l e
    .rw[a0r]at e e2
     split at e<;>split at e2
     .next z1 z2=>show Sum.inr.inj (z1.trans z2.symm)
     .cases e;show absurd (own.new j _ e2).1 (λz=>nold j e2)
     .cases e2;show absurd (own.new k _ e).1 (λz=>nold k e)
     .show own.one k j l e e2
  .let(t,h1,h2):=hb;show bad (key,t,h1,h2) _ (H2.sm.trans ((kp _ kq).trans ((s6.trans s7).trans s8)))
 .ext σ G5 ⟨us,kv,v1,v2,kq,gW5,hus,hks,hln,hno,hft,own,rfl⟩;rw[aN,bX]at hus hno hft;lk;let emp:∀k,k∉ks->rowsOf B' k=[]:=λk c=>by
   cases e:rowsOf B' k with
   |nil=>rfl
   |cons r l=>show absurd ((mem k).mpr (.inr ((H2.al k).mpr ((k,r),pm2.mem_iff.mpr (a2h (by rw[e];show .head _)),rfl)))) c
  let eqk:∀k,k∉ks->∀t,f' k t=g' k t:=λk c t=>by
   let a2:=(cb.rows k).2 t;rw[emp k c]at a2;unfold dif at a2
   split at a2
   .assumption
   .cases a2
  show fin (λk t n=>?_) W us kv G5 (H2.sm.free hW) (H2.sm.trans (kp _ kq)) (gW5,hks,nd.sublist hus,λk hk=>let (l,L,a1,_,a3,a4):=hln k hk;(l,L,a1,a3,a4),λk hk=>((hno k hk).1,λt=>?_)) own
  .show hft k (Classical.byContradiction λz=>n (eqk k z t)) t n
  .by_cases c:k∈ks
   .show (hno k hk).2 c t
   .unfold hh;rw[if_pos (eqk k c t)];show (H1.no k λz=>c ((mem k).mpr (.inl z))).2 t
local macro_rules | `(tactic| walk_at "go1")=>`(tactic| with_reducible show i_iD ?_)
def TabN.kq{G G':Hq}{d r:Addr}{u:FZ}{ts:List Str}{kvs:List (Key×Z)}(H:TabN G d u ts kvs)(R:RowAt G r)(k:Kq r G G'):TabN G' d u ts kvs:=by
 let(x,w,e,_):=R;show(k _ _ H.at_ λz=>(by let:=H.at_;rw[z,e]at this;cases this),H.ks,H.nd,λy hy=>?_,H.no);let(l,L,a,b,c,p,n,v):=H.ln y hy;show(l,L,a,k _ _ b λz=>?_,c,p,n,v);rw[z,e]at b;let b:[Z.int x,Z.int w]=L.map Rw.z:=↑b
 cases L with
 |nil=>show n rfl
 |cons r L=>
  let:=(bJ.inj b).1
  cases this
structure PT (rs:List Addr) (B0 G:Hq) (d:Addr) (A:List Cg) (vs:List Str) (kvs:List (Key×Z)):Prop where
 at_:G d=bo (.dK kvs)
 ks:kvs.map (·.1)=vs.map λs=>(Sum.inr s:Key)
 nd:vs.Nodup
 ln:∀w∈vs,∃l,valZ kvs (.inr w)=bo (.ref l)/\G l=bo (.lst ((rowsOf A w).map Rw.z))/\B0 l=lR
 no:∀w,w∉vs->valZ kvs (.inr w)=lR
 al:∀w,w∈vs↔∃c∈A,c.k=w
 inj:∀w v l,valZ kvs (.inr w)=bo (.ref l)->valZ kvs (.inr v)=bo (.ref l)->w=v
 sm:∀b o,b∉rs->B0 b=bo o->G b=bo o
 row:∀r∈rs,RowAt G r/\B0 r≠lR
 fr:B0 d=lR
section
variable{rs:List Addr}{B0 G G':Hq}{d:Addr}{A:List Cg}{vs:List Str}{kvs:List (Key×Z)}{c:Cg}
def PT.short(H:PT rs B0 G d A vs kvs):kvs.length<=A.length:=by
 let h0:=congrArg bn H.ks
 let:=H.nd.length_le_of_subset (l₂:=A.map Cg.k) λw hw=>by
  let(c,h1,h2):=(H.al w).mp hw;show bf.mpr (c,h1,h2)
 simp at this h0
 lia
def PT.keep(H:PT rs B0 G d A vs kvs)(s:Sm G G'):PT rs B0 G' d A vs kvs:=
 (s _ _ H.at_,H.ks,H.nd,λw hw=>let (l,a,b,c):=H.ln w hw;(l,a,s _ _ b,c),H.no,H.al,H.inj,λb o n e=>s _ _ (H.sm b o n e),λr hr=>(let (x,w,e,o):=(H.row r hr).1;(x,w,s _ _ e,o),(H.row r hr).2),H.fr)
def PT.draw{r:Addr}(H:PT rs B0 G d A vs kvs)(hr:r∈rs)(k:Kq r G G')(R':RowAt G' r):PT rs B0 G' d A vs kvs:=by
 let ne:∀b,B0 b=lR->b≠r:=λb e z=>(H.row r hr).2 (z▸e);show(k _ _ H.at_ (ne d H.fr),H.ks,H.nd,λw hw=>let (l,a,b,c):=H.ln w hw;(l,a,k _ _ b (ne l c),c),H.no,H.al,H.inj,λb o n e=>k _ _ (H.sm b o n e) λz=>n (z▸hr),λr2 h2=>(?_,(H.row r2 h2).2),H.fr)
 by_cases c:r2=r
 .rw[c];show R'
 .show (H.row r2 h2).1.kq k c
def PT.old{l:Addr}(H:PT rs B0 G d A vs kvs)(hw:c.k∈vs)(hl:valZ kvs (.inr c.k)=bo (.ref l)):PT rs B0 (put G l (.lst ((rowsOf A c.k).map Rw.z++[c.r.z]))) d (A++[c]) vs kvs:=by
 let(l',e1,e2,e3):=H.ln c.k hw;rw[hl]at e1;cases e1;let ndl:d≠l:=λz=>by let:=H.at_;rw[z,e2]at this;cases this
 show(by rw[a0d ndl];show H.at_,H.ks,H.nd,λw hw'=>?_,H.no,λw=>?_,H.inj,λb o n e=>?_,λr hr=>((H.row r hr).1.kq Kq.at λz=>(H.row r hr).2 (z▸e3),(H.row r hr).2),H.fr)
 .let(l2,a1,a2,a3):=H.ln w hw'
  by_cases cc:w=c.k
  .subst cc;rw[hl]at a1;cases a1;show(l,hl,?_,e3);rw[a0a,a0C,if_pos rfl,aV]
   rfl
  .show(l2,a1,?_,a3);rw[a0d λz=>cc (H.inj w c.k l (by rw[<- z];show a1) hl),a0C,if_neg (Ne.symm cc),bC];show a2
 .rw[a4i,<- H.al];show(.inl,λz=>z.elim id λe=>e▸hw)
 .rw[a0d λz=>by rw[z,e3]at e;cases e];show H.sm _ _ n e
def PT.new{t:Addr}(H:PT rs B0 G d A vs kvs)(hw:c.k∉vs)(fr:B0 t=lR)(nt:∀w l,valZ kvs (.inr w)=bo (.ref l)->l≠t)(gd:G' d=bo (.dK (putZ kvs (.inr c.k) (.ref t))))(gt:G' t=bo (.lst [c.r.z]))(kp:∀b o,b≠d->b≠t->b∉rs->G b=bo o->G' b=bo o)(row:∀r∈rs,RowAt G' r):PT rs B0 G' d (A++[c]) (vs++[c.k]) (putZ kvs (.inr c.k) (.ref t)):=by
 let hv:=H.no c.k hw;show(gd,by rw[a1T hv,aV,H.ks,aV];rfl,?_,λw hw'=>?_,λw hw'=>?_,λw=>?_,λw v l e1 e2=>?_,λb o n e=>?_,λr hr=>(row r hr,(H.row r hr).2),H.fr)
 .rw[b9];show(H.nd,by simp,λa h1 b h2 z=>hw (by rw[<- aS.mp h2,<- z];show h1))
 .by_cases cc:w=c.k
  .subst cc;show(t,by rw[a0r,if_pos rfl],?_,fr);let e0:rowsOf A c.k=[]:=by
    unfold rowsOf;rw[dQ.mpr λx hx=>↑(λz:x.k=c.k=>hw ((H.al _).mpr (x,hx,z)))]
    rfl
   rw[gt,a0C,if_pos rfl,e0]
   rfl
  .let hw2:w∈vs:=by
    let q||q:=aP.mp hw'
    .show q
    .show absurd (aS.mp q) cc
   let(l2,a1,a2,a3):=H.ln w hw2;show(l2,by rw[a0r,if_neg (λz=>cc (by injection z))];show a1,?_,a3);rw[kp _ _ (λz=>by rw[z,H.at_]at a2;cases a2) (nt _ _ a1) (λz=>(H.row _ z).2 a3) a2,a0C,if_neg (Ne.symm cc),bC]
 .rw[aP,not_or]at hw';rw[a0r,if_neg (λz=>hw'.2 (by injection z with z;simp[z]))];show H.no w hw'.1
 .rw[a4i,<- H.al,aP,aS];show or_congr Iff.rfl (Eq.symm,Eq.symm)
 .rw[a0r]at e1 e2
  split at e1<;>split at e2
  .next c1 c2=>injection c1 with c1;injection c2 with c2;rw[c1,c2]
  .injection e1 with e1;injection e1 with e1;show absurd e1.symm (nt _ _ e2)
  .injection e2 with e2;injection e2 with e2;show absurd e2.symm (nt _ _ e1)
  .show H.inj _ _ _ e1 e2
 .show kp _ _ (λz=>by rw[z,H.fr]at e;cases e) (λz=>by rw[z,fr]at e;cases e) n (H.sm _ _ n e)
end
noncomputable def fA(A:List Cg):FZ:=λk t=>lastAt (rowsOf A k) t
structure PutOk (c:Cg):Prop where
 k:nmOk c.k
 st:stOk c.r.b c.r.e
 w:∃x,c.r.w=[x]/\flat 0 x=lS
def b6N{A:List Cg}(h:∀c∈A,PutOk c)(k:Str):Plain (rowsOf A k):=λr hr=>(h _ (a2h hr)).w
def a5N{A:List Cg}{k:Str}:(rowsOf A k).length<=A.length:=by unfold rowsOf;rw[aN];show fw _ _
def a44{A:List Cg}{k:Str}(h:¬ ∃c∈A,c.k=k):rowsOf A k=[]:=by
 unfold rowsOf;rw[dQ.mpr λx hx=>↑(λz:x.k=k=>h (x,hx,z))]
 rfl
def WV(wn:List Str)(x:Z):Prop:=x∈wn.map Z.str++[Z.non]
noncomputable def WV.flat{wn:List Str}{x:Z}(ok:∀s∈wn,nmOk s)(h:WV wn x):flat 0 x=lS:=by
 let h||h:=aP.mp h
 .let(s,hs,rfl):=bf.mp h;show a4g (ok s hs)
 .rw[aS.mp h];rfl
def a3J{xs:List Z}{k:Int}(h0:0<=k)(h1:k<(xs.length:Int)):∃x,atI xs k=bo x/\x∈xs:=by
 let(j,rfl):=cF h0;let hj:j<xs.length:=by lia
 show(xs[j],a0F (aU hj),bN hj)
def b1m:P3:=λws G R=>Ex6 λ(p kp wp:Addr) (rs:List Addr) (kn wn:List Str)=>ws=[.ref p,.ref kp,.ref wp]/\G p=bo (.lst (rs.map Z.ref))/\G kp=bo (.lst (kn.map Z.str))/\G wp=bo (.lst (wn.map Z.str))/\rs.length<=40/\(∀r∈rs,RowAt G r)/\4<=kn.length/\wn.length=4/\(∀s∈kn,nmOk s)/\(∀s∈wn,nmOk s)/\p∉rs/\kp∉rs/\wp∉rs /\
 ∀(d:Addr)(A:List Cg)(ts:List Str)(kvs:List (Key×Z))(G':Hq),G d=lR->(∀b o,b∉rs->G b=bo o->G' b=bo o)->(∀r∈rs,RowAt G' r)->(∀c∈A,PutOk c)->A.length<=40->TabN G' d (fA A) ts kvs->(∀c∈A,c.k∈kn/\∃x,c.r.w=[x]/\WV wn x)->R (.ref d) G'
def b1n(T:Txt K mg base a):Cal P w K mg base CX0 3 "_law_begun" (lowP K b1m):=by
 show fnc 3 (N:=["rows","keys","worths","puts","row","worth","key","lines"]) T.br (T.f 18 _ rfl) ?_ (len:=λws G R h=>(by let(_,_,_,_,_,_,rfl,_):=h;rfl));walk_at "in";show(_,(a0c (z_st (nmI 3 nd) a2A)
  (a0c (by ac_rfl)
  (a0c (z_st (nmI 7 nd) a2A)
  (a0c (a1g (pt:=(.nm 6)) iz.never rfl (a27 (qv 3)) (p_nm (nmI 6 nd))
  (a0L (z_if (a3u (o_ne hu) (q_c (a5K T) hr (q_k (q_ix a2a (qv 3) (qv 6) (λ_ _=>rfl)) a0E) ) (by ac_rfl) (a1V _))
  (a0L (a1u (q_c (a5K T) hr (q_k (q_ix a2a (qv 3) (qv 6) (λ_ _=>rfl)) a0E) ) (qv 7) (qv 6) (a24 hu)))
  a1Y)))
  (by ac_rfl))))),?_)
 let(p,kp,wp,rs,kn,wn,rfl,gp,gk,gw,lr,hrow,lk,lw,okk,okw,np,nk,nw,q):=h;lk;ext d hd;show(_,rfl,?_);let H0:PT rs G (put G d (.dK [])) d [] [] []:=(a0a,rfl,.nil,(λw h=>by simp at h),λ_ _=>rfl,λw=>by simp,(λw v l e=>by cases e),λb o _ e=>a0b e hd,λr hr=>((hrow r hr).new hd,λz=>by let(_,_,e,_):=hrow r hr;rw[e]at z;cases z),hd);generalize put G d _=G1 at H0 ⊢;lk;show a1i (H0.sm _ _ np gp) ?_;show a0H (λi σ G'=>Ex7 λ(A:List Cg) (vs:List Str) (kvs:List (Key×Z)) (v1 v2 v3 v4:Option Z)=>An4 (A.length=i) (∀c∈A,PutOk c/\c.k∈kn/\∃x,c.r.w=[x]/\WV wn x) (PT rs G G' d A vs kvs) (σ=[bo (.ref p),bo (.ref kp),bo (.ref wp),bo (.ref d),v1,v2,v3,v4])) (_,_,_,_,_,_,_,rfl,(λc h=>by simp at h),H0,rfl) (by ext i σ G' _ ⟨_,_,_,_,_,_,_,_,_,H,_⟩;show H.sm _ _ np gp) ?_ ?_
 .ext i x σ G2 hx ⟨A,vs,kvs,v1,v2,v3,v4,hA,okA,H,rfl⟩;let hi:=(aT.mp hx).1;rw[aN]at hi;rw[aR]at hx;cases hx':rs[i]? with
  |none=>rw[hx']at hx;cases hx
  |some r=>
  rw[hx']at hx;cases hx;let mr:=bp hx';show(_,rfl,?_);lk;show(lenK rfl,λa1 ha1=>?_);let H:=H.keep (Sm.new (o:=.lst [.non]) ha1);let ga1:put G2 a1 (.lst [.non]) a1=bo (.lst [.non]):=a0a;generalize put G2 a1 (.lst [.non])=G3 at H ga1 ⊢;show a1I (H.sm _ _ nw gw) ga1 (a0S (by rw[aN,lw];decide)) λa2 ha2=>?_;let H:=H.keep (Sm.new (o:=.lst (wn.map Z.str++[.non])) ha2);let ga2:put G3 a2 (.lst (wn.map Z.str++[.non])) a2=bo (.lst (wn.map Z.str++[.non])):=a0a;generalize put G3 a2 (.lst (wn.map Z.str++[.non]))=G4 at H ga2 ⊢;lk;show a0B (H.row r mr).1 (by decide) (by decide) λk1 y w j0 j1 ok1=>?_;let na2:a2≠r:=λz=>by let(_,_,e,_):=(H.row r mr).1;rw[<- z,ga2]at e;let:=congrArg (λo=>match o with |some (.lst l)=>l.length |_=>0) e;simp[lw]at this
  let(wz1,ew,mw):=a3J (xs:=wn.map Z.str++[.non]) j0 (by rw[bg,aN,lw];show j1);let H:=H.draw mr Kq.at (RowAt.at ok1);let ga2:put G4 r (RowO y w) a2=bo (.lst (wn.map Z.str++[.non])):=by rw[a0d na2];show ga2
  generalize put G4 r (RowO y w)=G5 at H ga2 ⊢;show a0y ga2 ew ?_;lk;show a0B (H.row r mr).1 (by decide) (by decide) λk2 y w j0 j1 ok1=>?_;let H:=H.draw mr Kq.at (RowAt.at ok1);generalize put G5 r (RowO y w)=G6 at H ⊢;let(kz,ek,mk):=a3J (xs:=kn.map Z.str) j0 (by rw[aN];lia);let(key,mkey,rfl):=bf.mp mk;show a0y (H.sm _ _ nk gk) ek ?_;lk;show a5v H.at_ ?_;lk;show(lenK rfl,λt0 ht0=>?_);let lkv:=H.short;let ft0:G t0=lR:=by
   cases e:G t0 with
   |none=>rfl
   |some o=>
    by_cases c:t0∈rs
    .let(_,_,e2,_):=(H.row t0 c).1;rw[e2]at ht0;cases ht0
    .rw[H.sm _ _ c e]at ht0;cases ht0
  let okP:∀b en,stOk b en->PutOk (key,(b,en,[wz1])):=λb en st=>(okk _ mkey,st,_,rfl,WV.flat okw mw);let okA2:∀b en,stOk b en->∀c∈A++[(key,(b,en,[wz1]))],PutOk c/\c.k∈kn/\∃x,c.r.w=[x]/\WV wn x:=λb en st c hc=>by
   let hc||hc:=aP.mp hc
   .show okA c hc
   .rw[aS.mp hc];show(okP b en st,mkey,_,rfl,mw)
  lk;show b1V (a0b H.at_ ht0) rfl (a0e (by lia)) (λz hz=>?_) λhz=>?_
  .let H:=H.keep (Sm.new (o:=.lst []) ht0);generalize put G6 t0 (.lst [])=G7 at H ⊢;let hwv:key∈vs:=by
    by_cases c:key∈vs
    .show c
    .let:=H.no key c;rw[hz]at this;cases this
   let(l',e1,e2,_):=H.ln key hwv;rw[hz]at e1;cases e1;show a04 e2 ?_;lk;show(r,rfl,(H.row r mr).1,λb en G8 st R8 k8=>?_);let H:=H.draw mr k8 R8;let(l2,e1,e3,_):=H.ln key hwv;rw[hz]at e1;cases e1;lk;show(lenK rfl,a8h (by simp) (lenK rfl) ?_);lk;show a0u e3 ?_ (A++[((key,(b,en,[wz1])):Cg)],vs,kvs,_,_,_,_,by simp;lia,okA2 b en st,H.old (c:=(key,(b,en,[wz1]))) hwv hz,rfl);rw[aN];show a0e (by let:=a5N (A:=A) (k:=key);lia)
  .let hwv:key∉vs:=λc=>by
    let(l',e1,_):=H.ln key c;rw[hz]at e1;cases e1
   let ndt:d≠t0:=a0g H.at_ ht0;let nrt:∀r∈rs,r≠t0/\r≠d:=λr hr=>(λz=>(H.row r hr).2 (z▸ft0),λz=>(H.row r hr).2 (z▸hd));let gt0:put (put G6 t0 (.lst [])) d (.dK (putZ kvs (.inr key) (.ref t0))) t0=bo (.lst []):=by rw[a0d (Ne.symm ndt),a0a]
   let gd7:put (put G6 t0 (.lst [])) d (.dK (putZ kvs (.inr key) (.ref t0))) d=bo (.dK (putZ kvs (.inr key) (.ref t0))):=a0a;let k7:∀b o,b≠d->b≠t0->G6 b=bo o->put (put G6 t0 (.lst [])) d (.dK (putZ kvs (.inr key) (.ref t0))) b=bo o:=λb o n1 n2 e=>by rw[a0d n1,a0d n2];show e
   generalize put (put G6 t0 (.lst [])) d (.dK (putZ kvs (.inr key) (.ref t0)))=G7 at gt0 gd7 k7 ⊢;show a04 gt0 ?_;lk;let r7:∀r∈rs,RowAt G7 r:=λr hr=>let (x,w,e,o):=(H.row r hr).1;(x,w,k7 _ _ (nrt r hr).2 (nrt r hr).1 e,o)
   show(r,rfl,r7 r mr,λb en G8 st R8 k8=>?_);let n1:=nrt r mr;lk;show(lenK rfl,a8h (by simp) (lenK rfl) ?_);lk;show a0u (k8 _ _ gt0 (Ne.symm n1.1)) (a0e (by simp)) (A++[((key,(b,en,[wz1])):Cg)],vs++[key],putZ kvs (.inr key) (.ref t0),_,_,_,_,by simp;lia,okA2 b en st,H.new (c:=(key,(b,en,[wz1]))) (t:=t0) hwv ft0 (λw l e z=>?_) (by rw[a0d ndt];show k8 _ _ gd7 (Ne.symm n1.2)) a0a (λb o m1 m2 m3 e=>by rw[a0d m2];show k8 _ _ (k7 _ _ m1 m2 e) λz=>m3 (z▸mr)) (λr2 h2=>?_),rfl)
   .by_cases c:w∈vs
    .let(l2,a1,a2,_):=H.ln w c;rw[e]at a1;cases a1;rw[z,ht0]at a2;cases a2
    .rw[H.no w c]at e;cases e
   .by_cases c:r2=r
    .subst c;show R8.kq Kq.at n1.1
    .show ((r7 r2 h2).kq k8 c).kq Kq.at (nrt r2 h2).1
 .ext σ G2 ⟨A,vs,kvs,v1,v2,v3,v4,hA,okA,H,rfl⟩;rw[aN]at hA;lk;ext W hW;show(_,rfl,?_);let hWr:W∉rs:=λz=>by let(_,_,e,_):=(H.row W z).1;rw[e]at hW;cases hW
  let ndW:d≠W:=a0g H.at_ hW;let H2:=H;let H:=H.keep (Sm.new (o:=.dK []) hW);let gW:put G2 W (.dK []) W=bo (.dK []):=a0a;generalize put G2 W (.dK [])=G3 at H gW ⊢;lk;show a8T (.inl H.at_) ?_;let k4:∀b o,b≠d->G3 b=bo o->put G3 d (.dF kvs) b=bo o:=λb o n e=>by rw[a0d n];show e
  let g4:put G3 d (.dF kvs) d=bo (.dF kvs):=a0a;generalize put G3 d (.dF kvs)=G4 at k4 g4 ⊢;let lkv:=H.short;let lks:kvs.length=vs.length:=by let:=congrArg bn H.ks;o_head this
  show a0H (λi σ G'=>Ex3 λ(us:List Str) (kv:List (Key×Z)) (v4:Option Z)=>An7 (Kq W G4 G') (G' W=bo (.dK kv)) (us.Sublist (vs.take i)) (kv.map (·.1)=us.map (λs=>(Sum.inr s:Key))) (∀k∈us,∃l L,valZ kv (.inr k)=bo (.ref l)/\l≠W/\G' l=bo (.lst (L.map Rw.z))/\Can L/\Plain L/\L≠[]/\∀t,val L t=optW (fA A k t)) (∀k,k∉us->valZ kv (.inr k)=lR/\(k∈vs.take i->∀t,fA A k t=.non)) (σ=[bo (.ref p),bo (.ref kp),bo (.ref wp),bo (.ref d),v1,v2,v4,bo (.ref W)]))
   ([],[],_,λ_ _ e _=>e,k4 _ _ (Ne.symm ndW) gW,fE _,rfl,(λk h=>by cases h),λk _=>(rfl,λh=>by simp at h),rfl) (λ_ _ _ _ _=>True.intro) ?_ ?_
  .ext i x σ G5 hx ⟨us,kv,v5,kq,gW5,hus,hks,hln,hno,rfl⟩;rw[aR]at hx;cases hx':kvs[i]? with
   |none=>rw[hx']at hx;cases hx
   |some pk=>
   rw[hx']at hx;let hi:=(aT.mp hx').1;let(key,mkey,ek,vk):=a1U H.ks H.nd hx';let hv':vs[i]?=bo key:=by
    let h1:(kvs.map (·.1))[i]?=bo pk.1:=by rw[aR,hx'];rfl
    rw[H.ks,aR,ek]at h1;cases h2:vs[i]? with
    |none=>rw[h2]at h1;cases h1
    |some s=>rw[h2]at h1;cases h1;rfl
   let(l,e1,e2,_):=H.ln key mkey;let nld:l≠d:=λz=>by rw[z,H.at_]at e2;cases e2
   let nlW:l≠W:=λz=>by rw[z,gW]at e2;cases e2
   let gl5:=kq _ _ (k4 _ _ nld e2) nlW;let gd5:=kq _ _ g4 ndW;let hx:x=.str key:=by
    let:keyW pk.1=x:=bo.inj hx
    rw[<- this,ek];rfl
   subst hx;let plk:=b6N (λc hc=>(okA c hc).1) key;let llk:=a5N (A:=A) (k:=key);let nkey:key∉vs.take i:=λz=>by
    let(j,hj,e):=b8.mp z;rw[bh]at hj;rw[dS]at e;let(h2,e2):=aT.mp hv';show bR.mp H.nd j i (by lia) h2 (by lia) (e.trans e2.symm)
   let nus:key∉us:=λz=>nkey (hus.subset z);let lus:us.length<=40:=by let:=hus.length_le;rw[bh]at this;lia
   let lkv2:kv.length<=40:=by let:=congrArg bn hks;simp at this;lia
   show(_,rfl,?_);lk;show a2b (.inr gd5) rfl e1 ?_;lk;show(l,_,rfl,gl5,plk,by lia,λt1 r1 G6 ht1 s6 gt1 c1 p1 z1 w1=>?_);lk;show(lenK rfl,λe7 he7=>?_);lk;let s7:Sm G6 (put G6 e7 (.lst [])):=Sm.new he7;show a5l (s7 _ _ gt1) a0a (a1y p1.okR) rfl ?_;generalize put G6 e7 (.lst [])=G7 at s7 ⊢;let s57:=s6.trans s7;let kq7:Kq W G4 G7:=λb o e n=>s57 _ _ (kq _ _ e n);lk;show ifN (λc=>?_) λc=>?_
   .let rne:r1≠[]:=λz=>c (by rw[z];rfl);lk;show a2b (.inr (s57 _ _ gd5)) rfl e1 ?_;lk;show(l,_,rfl,s57 _ _ gl5,plk,by lia,λt2 r2 G8 ht2 s8 gt2 c2 p2 z2 w2=>?_);let er:r2=r1:=a1x c2 c1 λt=>by rw[w2,w1]
    subst er;let s58:=s57.trans s8;let nt2:t2≠W:=λz=>by rw[z,s57 _ _ gW5]at ht2;cases ht2
    let kq8:Kq W G4 G8:=λb o e n=>s8 _ _ (kq7 _ _ e n);lk;show a25 (s58 _ _ gW5) rfl (a0e (by lia)) ?_;let hv:=(hno key nus).1;show(us++[key],putZ kv (.inr key) (.ref t2),_,λb o e nb=>by rw[a0d nb];show kq8 _ _ e nb,a0a,by rw[take_snoc hv'];show hus.append_right _,by rw[a1T hv,aV,hks,aV];rfl,λk hk=>?_,λk hk=>?_,rfl)
    .by_cases c:k=key
     .subst c;show(t2,r2,by rw[a0r,if_pos rfl],nt2,by rw[a0d nt2];show gt2,c2,p2,rne,w2)
     .let hk2:k∈us:=by
       let h||h:=aP.mp hk
       .show h
       .show absurd (aS.mp h) c
      let(l,M,a1,a2,a3,a4):=hln k hk2;show(l,M,by rw[a0r,if_neg λz=>c (by injection z)];show a1,a2,by rw[a0d a2];show s58 _ _ a3,a4)
    .rw[aP,not_or]at hk;let c:k≠key:=λz=>hk.2 (by rw[z];simp);show(by rw[a0r,if_neg λz=>c (by injection z)];show (hno k hk.1).1,λh t=>?_);rw[take_snoc hv']at h;let h||h:=aP.mp h
     .show (hno k hk.1).2 h t
     .show absurd (aS.mp h) c
   .let rn:r1=[]:=dA.mp c;subst rn;lk;show(us,kv,_,kq7,s57 _ _ gW5,by rw[take_snoc hv'];show hus.trans (fF _ _),hks,λk hk=>?_,λk hk=>?_,rfl)
    .let(l,M,a1,a2,a3,a4):=hln k hk;show(l,M,a1,a2,s57 _ _ a3,a4)
    .show((hno k hk).1,λh t=>?_);rw[take_snoc hv']at h;let h||h:=aP.mp h
     .show (hno k hk).2 h t
     .rw[aS.mp h];show a2i (w1 t).symm
  .ext σ G5 ⟨us,kv,v5,kq,gW5,hus,hks,hln,hno,rfl⟩;rw[aN,lks,bX]at hus hno;lk;let kf:∀b o,b≠d->b≠W->G3 b=bo o->G5 b=bo o:=λb o n1 n2 e=>kq _ _ (k4 _ _ n1 e) n2;show q W A us kv G5 ?_ (λb o n e=>kf b o (a0g e hd) (λz=>?_) (H.sm _ _ n e)) (λr hr=>?_) (λc hc=>(okA c hc).1) (by lia) (gW5,hks,H.nd.sublist hus,λk hk=>let (l,L,a1,_,a3,a4):=hln k hk;(l,L,a1,a3,a4),λk hk=>((hno k hk).1,λt=>?_)) λc hc=>(okA c hc).2
   .cases e:G W with
    |none=>rfl
    |some o=>show absurd hW (by rw[H2.sm _ _ hWr e];simp)
   .rw[z]at e;show absurd hW (by rw[H2.sm _ _ hWr e];simp)
   .let(x,w,e,o):=(H.row r hr).1;show(x,w,kf _ _ (λz=>(H.row r hr).2 (z▸hd)) (λz=>hWr (z▸hr)) e,o)
   .by_cases c:k∈vs
    .show (hno k hk).2 c t
    .unfold fA;rw[a44 λz=>c ((H.al k).mpr z)]
     rfl
noncomputable def pcF:Option Int->List Rw->List Rw
 |some l,[]=>if l<T12 then [(l,lR,[.non])] else []
 |none,[]=>[]
 |last,r::L=>(match last with
  |some l=>if l<r.b then [(l,bo r.b,[.non])] else []
  |none=>[])++r::pcF r.e L
structure PcOk (u:Int->Z) (l:Int) (P:List Rw):Prop where
 can:Can P
 w:∀r∈P,l<=r.b/\stOk r.b r.e/\∃x,r.w=[x]/\∀t,r.has t=lS->u t=x
 ch:∀(i:Nat) a b,P[i]?=bo a->P[i+1]?=bo b->a.e=bo b.b
 hd:∀q,P.head?=bo q->q.b=l
def has_iff{r:Rw}{t:Int}:r.has t=lS↔r.b<=t/\∀e,r.e=bo e->t<e:=by
 unfold Rw.has;cases h:r.e with
 |none=>simp[bef]
 |some e=>simp[bef]
def a2w{r:Rw}(g:r.good){e:Int}(h:r.e=bo e):r.b<e:=by
 let g:bef r.b r.e=lS:=g;rw[h]at g;simpa[bef]using g
def b1o{r:Rw}{L:List Rw}(c:Can (r::L)){e:Int}(he:r.e=bo e):val (r::L) e≠bo r.w:=λh=>by
 let nr:¬ r.has e=lS:=λz=>by let:=(has_iff.mp z).2 e he;lia
 rw[a0j,if_neg nr]at h;let(s,hs,h1,h2):=a1m h;let(e',a1,a2,a3):=(aW.mp c.2).1 s hs;rw[he]at a1;cases a1
 let:=(has_iff.mp h1).1
 show a3 (by lia) h2.symm
def a6E{L:List Rw}(c:Can L){r:Rw}(hr:r∈L){t:Int}(h:r.has t=lS):val L t=bo r.w:=by
 induction L with
 |nil=>cases hr
 |cons s L ih=>
  rw[a0j];let rfl||hr:=aO.mp hr
  .rw[if_pos h]
  .rw[if_neg λz=>by let:=((aW.mp c.2).1 r hr).lt.has z;rw[h]at this;cases this];show ih c.tail hr
def a45{x:Z}{w:List Z}(h:optW x=bo w):w=[x]/\x≠.non:=by
 unfold optW at h
 split at h
 .cases h
 .next c=>show((bo.inj h).symm,c)
theorem a9v{u:Int->Z}:∀{L:List Rw}{l:Int},Can L->(∀r∈L,stOk r.b r.e)->0<=l->l<=T12->(∀r∈L,l<=r.b)->(∀t,l<=t->val L t=optW (u t))->PcOk u l (pcF (bo l) L)/\(L≠[]\/l<T12->pcF (bo l) L≠[])/\(pcF (bo l) L).length<=2*L.length+1
 |[],l,_,_,l0,l1,_,hv=>by
  unfold pcF
  split
  .show(((λr hr=>?_,by simp),λr hr=>?_,λi a b h1 h2=>by simp at h2,λq h=>by simp at h;rw[<- h]),λ_=>by simp,by simp)
   .rw[aS.mp hr];rfl
   .rw[aS.mp hr];show(bM _,(l0,l1,λx z=>nomatch z),_,rfl,λt ht=>?_)
    let:=hv t (has_iff.mp ht).1
    show a2i this.symm
  .next c=>show((Can.nil,(λr hr=>by cases hr),(λi a b h1 h2=>by simp at h1),λq h=>by simp at h),λh=>h.elim (λz=>absurd rfl z) λz=>absurd z c,by simp)
 |r::L,l,c,hs,l0,l1,hlo,hv=>by
  let g:=c.1 r (.head _);let sr:=hs r (.head _);let lr:=hlo r (.head _);let rw1:r.w=[u r.b]/\u r.b≠.non:=a45 (by rw[<- hv r.b lr,a6E c (.head _) (a1H g)]);let ru:∀t,r.has t=lS->u t=u r.b:=λt ht=>by
   let h1:=hv t (by let:=(has_iff.mp ht).1;lia);rw[a6E c (.head _) ht]at h1
   let:=(a45 h1.symm).1
   rw[rw1.1]at this;show (bJ.inj this).1.symm
  let rest:PcOk u r.b (r::pcF r.e L)/\(pcF r.e L).length<=2*L.length+1:=by
   cases he:r.e with
   |none=>
    let e0:L=[]:=by
     cases L with
     |nil=>rfl
     |cons s L=>let(e,a,_):=(aW.mp c.2).1 s (.head _);rw[he]at a;cases a
    subst e0;show(((λs h=>?_,by simp[pcF]),λs h=>?_,λi a b h1 h2=>by simp[pcF]at h2,λq h=>by simp at h;rw[h]),by simp[pcF])
    .simp[pcF]at h;rw[h];show g
    .simp[pcF]at h;rw[h];show(bM _,sr,_,rw1.1,ru)
   |some e=>
    let ge:=a2w g he;let hlo2:∀s∈L,e<=s.b:=λs h=>by
     let(e',a1,a2,_):=(aW.mp c.2).1 s h;rw[he]at a1;cases a1;show a2
    let((p1,p2,p3,p4),_,p6):=a9v (u:=u) (l:=e) c.tail (λs h=>hs s (.tail _ h)) (by let:=sr.1;lia) (sr.2.2 e he).2 hlo2 λt ht=>by
     let h1:=hv t (by lia);rw[a0j,if_neg λz=>by let:=(has_iff.mp z).2 e he;lia]at h1;show h1
    show(((λs h=>?_,aW.mpr (λs h=>?_,p1.2)),λs h=>?_,λi a b h1 h2=>?_,λq h=>by simp at h;rw[h]),p6)
    .let rfl||h:=aO.mp h
     .show g
     .show p1.1 s h
    .let(a1,a2,x,a3,a4):=p2 s h;show(e,he,a1,λz hw=>?_);let ue:u e=u r.b:=by
      let h1:=a4 e (by rw[z];show a1H (p1.1 s h));rw[rw1.1,a3]at hw;rw[h1,(bJ.inj hw).1]
     show b1o c he ?_;rw[hv e (by lia),ue,rw1.1];unfold optW;rw[if_neg rw1.2]
    .let rfl||h:=aO.mp h
     .show(bM _,sr,_,rw1.1,ru)
     .let(a1,a2):=p2 s h;show(by lia,a2)
    .cases i with
     |succ i=>show p3 i a b ↑h1 ↑h2
     |zero=>
      simp at h1;subst h1;rw[he,p4 b (by rw[List.head?_eq_getElem?];o_head h2)]
  let((p1,p2,p3,p4),p6):=rest;let eq1:pcF (bo l) (r::L)=(if l<r.b then [(l,bo r.b,[.non])] else [])++r::pcF r.e L:=by rw[pcF]
  rw[eq1]
  by_cases lt:l<r.b
  .rw[if_pos lt];let nn:∀t,l<=t->t<r.b->u t=.non:=λt h1 h2=>by
    let h3:=hv t h1;rw[a01 λs h=>a3b ?_]at h3
    .show a2i h3.symm
    .let rfl||h:=aO.mp h
     .show h2
     .let:=((aW.mp c.2).1 s h).lt.b g;lia
   show(((λs h=>?_,aW.mpr (λs h=>?_,p1.2)),λs h=>?_,λi a b h1 h2=>?_,λq h=>by simp at h;rw[<- h]),λ_=>by simp,by simp;lia)
   .let rfl||h:=aO.mp h
    .change bef l (bo r.b)=lS;simpa[bef]using lt
    .show p1.1 s h
   .show(r.b,rfl,(p2 s h).1,λz hw=>?_);let rfl||h:=aO.mp h
    .rw[rw1.1]at hw;show rw1.2 (bJ.inj hw).1.symm
    .let:=((aW.mp p1.2).1 s h).lt.b g;lia
   .let rfl||h:=aO.mp h
    .show(bM _,(l0,l1,λx z=>by cases z;show(lt,sr.2.1)),_,rfl,λt ht=>by let(h1,h2):=has_iff.mp ht;show nn t h1 (h2 _ rfl))
    .let(a1,a2):=p2 s h;show(by lia,a2)
   .cases i with
    |succ i=>show p3 i a b ↑h1 ↑h2
    |zero=>
     simp at h1 h2;subst h1 h2
     rfl
  .rw[if_neg lt,dv];let e0:l=r.b:=by lia
   show((p1,λs h=>by rw[e0];show p2 s h,p3,λq h=>by rw[e0];show p4 q h),λ_=>by simp,by simp;lia)
def a9w:P3:=λws G R=>∃(p:Addr)(L:List Rw),ws=[.ref p]/\G p=bo (.lst (L.map Rw.z))/\Can L/\Plain L/\(∀r∈L,stOk r.b r.e)/\L.length<=200/\∀(t:Addr)(G':Hq),G t=lR->Sm G G'->G' t=bo (.lst ((pcF (bo 0) L).map Rw.z))->R (.ref t) G'
def a9x(T:Txt K mg base a):Cal P w K mg base CX0 1 "_law_pieces" (lowP K a9w):=by
 show fnc 1 (N:=["line","pieces","last","begin","end","worth"]) T.br (T.f 19 _ rfl) ?_ (len:=λws G R h=>(by let(_,_,rfl,_):=h;rfl));walk_at "in";show(_,(a0c (by ac_rfl)
  (a0c (by ac_rfl)
  (a0c (a1g (pt:=(.tp [3,4,5])) iz.never rfl (by ac_rfl) (by ac_rfl)
  (a2T (by ac_rfl)
  (by ac_rfl)))
  (a2T (by ac_rfl)
  (by ac_rfl))))),?_)
 let(p,L',rfl,gp,can,pl,st,zl,q):=h;lk;show(lenK rfl,λt ht=>?_);let nt:p≠t:=a0g gp ht;lk;show a1i (a0b gp ht) ?_;show a0H (λi σ G'=>Ex5 λ(P:List Rw) (last:Option Int) (v1 v2 v3:Option Z)=>An6 (Kq t G G') (G' t=bo (.lst (P.map Rw.z))) (P.length<=2*i) (P++pcF last (L'.drop i)=pcF (bo 0) L') (last=lR->i=L'.length) (σ=[bo (.ref p),bo (.ref t),bo (oz last),v1,v2,v3]))
  ([],bo 0,_,_,_,Kq.new ht,a0a,by simp,rfl,(λz=>by cases z),rfl) (by ext i σ G' _ ⟨_,_,_,_,_,k,_⟩;show k _ _ gp nt) ?_ ?_
 .ext i x σ G2 hx ⟨P,last,v1,v2,v3,kq,gt,lP,eP,hl,rfl⟩;rw[aR]at hx;cases hx':L'[i]? with
  |none=>rw[hx']at hx;cases hx
  |some r=>
  rw[hx']at hx;cases hx;let hi:=(aT.mp hx').1;let hdr:L'.drop i=r::L'.drop (i+1):=by rw[cD hi,(aT.mp hx').2]
  let hlast:r.e=lR->i+1=L'.length:=λz=>by
   cases Nat.lt_or_ge (i+1) L'.length with
   |inr h=>lia
   |inl h=>
    let(e,a,_):=bR.mp can.2 i (i+1) hi h (by lia);rw[(aT.mp hx').2,z]at a;cases a
  let(x,ew,fx):=pl r (bp hx');obtain⟨l,rfl⟩:∃l,last=bo l:=by
   cases last with
   |none=>let:=hl rfl;lia
   |some l=>show(l,rfl)
  rw[hdr]at eP;let(b,e,w):=r;cases ew;show(_,rfl,?_);lk;let eP2:P++((if l<b then [(l,bo b,[.non])] else [])++(b,e,[x])::pcF e (L'.drop (i+1)))=pcF (bo 0) L':=eP;show a2X (fun σ' G'=>∃(Q:List Rw),An5 (Kq t G G') (G' t=bo (.lst (Q.map Rw.z))) (Q.length<=2*i+1) (Q++((b,e,[x])::pcF e (L'.drop (i+1)))=pcF (bo 0) L') (σ'=[bo (.ref p),bo (.ref t),bo (.int l),bo (.int b),bo (oz e),bo x])) ?_ ?_
  .lk;show ifD (λc=>?_) λc=>?_
   .rw[if_pos c]at eP2;lk;show a04 gt ?_;lk;show(lenK rfl,?_);lk;show a0u gt (by rw[aN];show a0e (by lia)) (P++[(l,bo b,[.non])],λb o e n=>by rw[a0d n];show kq _ _ e n,by rw[a0a,aV];rfl,by simp;lia,by rw[bB];show eP2,rfl)
   .rw[if_neg c,dv]at eP2;lk;show(P,kq,gt,by lia,eP2,rfl)
  .ext σ' G3 ⟨Q,kq,gt,lQ,eQ,rfl⟩;lk;show a04 gt ?_;lk;show(lenK rfl,?_);lk;show a0u gt (by rw[aN];show a0e (by lia)) ?_;lk;show(Q++[(b,e,[x])],e,_,_,_,λb o e n=>by rw[a0d n];show kq _ _ e n,by rw[a0a,aV];rfl,by simp;lia,by rw[bB];show eQ,hlast,rfl)
 .ext σ G2 ⟨P,last,v1,v2,v3,kq,gt,lP,eP,hl,rfl⟩;rw[aN]at lP;rw[aN,fz]at eP;let fin:∀(G':Hq)(Q:List Rw),Kq t G G'->G' t=bo (.lst (Q.map Rw.z))->Q=pcF (bo 0) L'->R (.ref t) G':=λG' Q k g e=>q t G' ht (λb o h=>k _ _ h (a0g h ht)) (by rw[<- e];show g);lk;show a2X (fun σ' G'=>Ex4 λv0 v1 v2 v3=>An3 (Kq t G G') (G' t=bo (.lst ((pcF (bo 0) L').map Rw.z))) (σ'=[bo (.ref p),bo (.ref t),v0,v1,v2,v3])) ?_ ?_
  .lk;cases last with
   |none=>
    lk;show(_,_,_,_,kq,by rw[<- eP];simpa[pcF]using gt,rfl)
   |some l=>
    lk;show i_I (by decide,by decide,by decide) ?_;rw[a5F]
    change zC _ _ (.int l) _ _ _
    lk;let eP:P++(if l<T12 then [(l,lR,[.non])] else [])=pcF (bo 0) L':=eP;show ifD (λc=>?_) λc=>?_
    .rw[if_pos (by unfold T12;show c)]at eP;lk;show a04 gt ?_;lk;show(lenK rfl,?_);lk;show a0u gt (by rw[aN];show a0e (by lia)) (_,_,_,_,λb o e n=>by rw[a0d n];show kq _ _ e n,by rw[a0a,<- eP,aV];rfl,rfl)
    .rw[if_neg (by unfold T12;show c),bC]at eP;lk;show(_,_,_,_,kq,by rw[<- eP];show gt,rfl)
  .ext σ' G3 ⟨v0,v1,v2,v3,kq,gt,rfl⟩;lk;show fin _ _ kq gt rfl
def Part(q:Rw)(b:Int)(e:Option Int):Prop:=q.b<=b/\stOk b e/\∀en,q.e=bo en->∃f,e=bo f/\f<=en
def b30:P3:=λws G R=>∃(r:Addr)(q:Rw)(x:Z),ws=[.ref r,q.z]/\RowAt G r/\stOk q.b q.e/\q.w=[x]/\∀b e G',RowAt G' r->Kq r G G'->Part q b e->R (.tup [.int b,oz e,x]) G'
def b31(T:Txt K mg base a):Cal P w K mg base CX0 2 "_law_part" (lowP K b30):=by
 show fnc 2 (N:=["row","piece","begin","end","worth","first","wide"]) T.br (T.f 20 _ rfl) ?_ (len:=λws G R h=>(by let(_,_,_,rfl,_):=h;rfl));walk_at "in";show(_,(by ac_rfl),?_);let(r,q,x,rfl,R0,st,ew,fin):=h;let(b,e,w):=q;cases ew;lk;show a0B R0 (by decide) (by decide) λk1 y w f0 f1 ok1=>?_;let k1q:Kq r G (put G r (RowO y w)):=Kq.at
 let R1:RowAt (put G r (RowO y w)) r:=RowAt.at ok1;generalize put G r (RowO y w)=G1 at k1q R1 ⊢;lk;show a0B R1 (by decide) (by decide) λk2 y w g0 g1 ok2=>?_;let k2q:Kq r G (put G1 r (RowO y w)):=k1q.trans Kq.at
 let R2:RowAt (put G1 r (RowO y w)) r:=RowAt.at ok2;generalize put G1 r (RowO y w)=G2 at k2q R2 ⊢;lk;let(s1,s2,s3):=st;cases e with
 |none=>
  lk;show i_I (by decide,by decide,by decide) ?_;rw[a5F];lk;let t1:0<=b:=s1;let t2:b<=1000000000000:=s2;let m:∃F:Int,(if 1000000000000<b+k1 then 1000000000000 else b+k1)=F/\b<=F/\F<=1000000000000:=(_,rfl,by split<;>lia,by split<;>lia)
  let(F,eF,F1,F2):=m
  change _/\R (.tup [.int (if 1000000000000<b+k1 then 1000000000000 else b+k1),.non,x]) G2
  rw[eF];show(lenK rfl,fin F lR G2 R2 k2q (F1,(by lia,F2,λz h=>by cases h),λz h=>by cases h))
 |some e=>
  lk;let t1:0<=b:=s1;obtain⟨t2,t3⟩:b<e/\e<=1000000000000:=s3 e rfl;let m:∃F:Int,(if e-1<b+k1 then e-1 else b+k1)=F/\b<=F/\F<e:=(_,rfl,by split<;>lia,by split<;>lia)
  let(F,eF,F1,F2):=m;let m2:∃E:Int,(if F+(1+k2)<e then F+(1+k2) else e)=E/\F<E/\E<=e:=(_,rfl,by split<;>lia,by split<;>lia)
  let(E',eE,E1,E2):=m2
  change _/\R (.tup [.int (if e-1<b+k1 then e-1 else b+k1),.int (if (if e-1<b+k1 then e-1 else b+k1)+(1+k2)<e then (if e-1<b+k1 then e-1 else b+k1)+(1+k2) else e),x]) G2
  rw[eF,eE];show(lenK rfl,fin F (bo E') G2 R2 k2q (F1,(by lia,by unfold T12;lia,λz h=>by cases h;show(E1,by unfold T12;lia)),λz h=>by cases h;show(E',rfl,E2)))
def Wd(u:FZ)(N:Nat):Prop:=∀k,∃bs:List Int,bs.length<=N/\(∀b∈bs,0<=b/\b<=T12)/\∀t,t∉bs->u k t=u k (t-1)
theorem a9y{α:Type}{R:α->α->Prop}:∀{l:List α}{a b:α},l.Pairwise R->a∈l->b∈l->a=b\/R a b\/R b a
 |[],_,_,_,h,_=>nomatch h
 |x::l,a,b,p,ha,hb=>by
  let(p1,p2):=aW.mp p;let e1||h1:=aO.mp ha<;>let e2||h2:=aO.mp hb
  .show .inl (e1.trans e2.symm)
  .show .inr (.inl (e1▸p1 b h2))
  .show .inr (.inr (e2▸p1 a h1))
  .show a9y p2 h1 h2
def a6F{v:Int->Z}{L:List Rw}{bs:List Int}(c:Can L)(hv:∀t,val L t=optW (v t))(h:∀t,t∉bs->v t=v (t-1)){r:Rw}(hr:r∈L):r.b∈bs:=Classical.byContradiction λn=>by
 let h1:val L (r.b-1)=bo r.w:=by rw[hv,<- h r.b n,<- hv,a6E c hr (a1H (c.1 r hr))]
 let(s,hs,a1,a2):=a1m h1;let(b1,b2):=has_iff.mp a1;let e||(e,c1,c2,c3)||q:=a9y c.2 hs hr
 .rw[e]at b1;lia
 .let:=b2 e c1
  show c3 (by lia) a2
 .let:=q.lt.b (c.1 r hr);lia
def b1p{v:Int->Z}{L:List Rw}{bs:List Int}(c:Can L)(hv:∀t,val L t=optW (v t))(h:∀t,t∉bs->v t=v (t-1)){r:Rw}(hr:r∈L){e:Int}(he:r.e=bo e):e∈bs:=Classical.byContradiction λn=>by
 let g:=a2w (c.1 r hr) he;let h0:r.has (e-1)=lS:=has_iff.mpr (by lia,λx q=>by rw[he]at q;cases q;lia);let h1:val L e=bo r.w:=by rw[hv,h e n,<- hv,a6E c hr h0]
 let(s,hs,a1,a2):=a1m h1;let(b1,b2):=has_iff.mp a1;let q||(e',c1,c2,_)||(e',c1,c2,c3):=a9y c.2 hs hr
 .let:=b2 e (by rw[q];show he);lia
 .let:=b2 e' c1;lia
 .rw[he]at c1;cases c1;show c3 (by lia) a2.symm
def Wd.line{u:FZ}{N:Nat}(h:Wd u N){k:Str}{L:List Rw}(c:Can L)(hv:∀t,val L t=optW (u k t)):(∀r∈L,stOk r.b r.e)/\L.length<=N:=by
 let(bs,b1,b2,b3):=h k;show(λr hr=>?_,?_)
 .let h1:=b2 _ (a6F c hv b3 hr);show(h1.1,h1.2,λe he=>(a2w (c.1 r hr) he,(b2 _ (b1p c hv b3 hr he)).2))
 .show bj ?_ b1;rw[<- aN (f:=Rw.b)];show List.Nodup.length_le_of_subset (l₂:=bs) (cq.mpr (cu.imp_of_mem ?_ c.2)) λx hx=>?_
  .ext a b ha _ q z
   let:=q.lt.b (c.1 a ha)
   lia
  .let(r,hr,rfl):=bf.mp hx;show a6F c hv b3 hr
def Wd.lb{u:FZ}{N:Nat}(h:Wd u N)(n:N<=200):LB u:=λk L c v=>bj (h.line c v).2 n
structure ChOk (wn:List Str) (v:Int->Z) (r:Rw):Prop where
 st:stOk r.b r.e
 w:∃x y,r.w=[x,y]/\WV wn x/\WV wn y/\x≠y/\∀t,r.has t=lS->v t=x
structure SomeOk (u:FZ) (kn wn:List Str) (B:List Cg) (ks:List Str) (L:Str->List Rw):Prop where
 eq:B=cgs ks L
 so:ks.Pairwise leS
 nd:ks.Nodup
 no:∀k,k∉ks->L k=[]
 sub:∀k∈ks,k∈kn
 len:ks.length<=4
 can:∀k,Can (L k)
 two:∀k,(L k).length<=2
 ch:∀k,∀r∈L k,ChOk wn (u k) r
noncomputable def nowF(u:FZ)(L:Str->List Rw):FZ:=λk t=>match val (L k) t with
 |some [_,y]=>y
 |_=>u k t
def a6G{u:FZ}{kn wn ks:List Str}{B:List Cg}{L:Str->List Rw}(h:SomeOk u kn wn B ks L)(k:Str)(t:Int):val (L k) t=dif (u k t) (nowF u L k t):=by
 unfold nowF dif;cases e:val (L k) t with
 |none=>simp
 |some w=>
  let(r,hr,a1,a2):=a1m e;let(x,y,b1,_,_,b4,b5):=(h.ch k r hr).w;rw[<- a2,b1,b5 t a1];simp[b4]
def SomeOk.cl{u:FZ}{kn wn ks:List Str}{B:List Cg}{L:Str->List Rw}(h:SomeOk u kn wn B ks L)(ok:∀s∈kn,nmOk s):CL u (nowF u L) B:=(ks,L,h.eq,h.so,h.nd,h.no,λk hk=>ok k (h.sub k hk),λk=>(h.can k,a6G h k))
def a2x{ks:List Str}{L:Str->List Rw}{n:Nat}(h:∀k,(L k).length<=n):(cgs ks L).length<=ks.length*n:=by
 unfold cgs
 induction ks with
 |nil=>simp
 |cons k ks ih=>
  rw[cG,bg,aN,be,Nat.succ_mul]
  let:=h k
  lia
def SomeOk.cb{u:FZ}{kn wn ks:List Str}{B:List Cg}{L:Str->List Rw}(h:SomeOk u kn wn B ks L):CB B:=by
 show((ks,h.len,λc hc=>?_),λk=>?_,?_)
 .rw[h.eq]at hc;let(k,hk,h2):=cy.mp hc;let(r,_,rfl):=bf.mp h2;show hk
 .rw[h.eq,a2L h.nd]
  let:=h.two k
  split
  .lia
  .simp
 .rw[h.eq]
  let:=a2x (ks:=ks) h.two
  let:=h.len
  lia
def a3d{u:FZ}{kn wn ks:List Str}{B:List Cg}{L:Str->List Rw}(h:SomeOk u kn wn B ks L)(hu:∀k t,WV wn (u k t))(k:Str)(t:Int):WV wn (nowF u L k t):=by
 unfold nowF;cases e:val (L k) t with
 |none=>show hu k t
 |some w=>
  let(r,hr,a1,a2):=a1m e;let(x,y,b1,_,b3,_):=(h.ch k r hr).w;rw[<- a2,b1];show b3
def a9z{u:FZ}{kn wn ks:List Str}{B:List Cg}{L:Str->List Rw}{N:Nat}(h:SomeOk u kn wn B ks L)(hu:Wd u N):Wd (nowF u L) (N+4):=λk=>by
 let(bs,b1,b2,b3):=hu k;show(bs++(L k).flatMap λr=>r.b::r.e.toList,?_,λb hb=>?_,λt ht=>?_)
 .rw[bg]
  let:∀l:List Rw,(l.flatMap λr=>r.b::r.e.toList).length<=2*l.length:=λl=>by
   induction l with
   |nil=>simp
   |cons r l ih=>
    rw[cG,bg,be,be]
    let:r.e.toList.length<=1:=by cases r.e<;>simp
    lia
  let:=this (L k)
  let:=h.two k
  lia
 .let hb||hb:=aP.mp hb
  .show b2 b hb
  .let(r,hr,q):=cy.mp hb;let st:=(h.ch k r hr).st;let rfl||q:=aO.mp q
   .show(st.1,st.2.1)
   .let:=st.2.2 b (by cases e:r.e with |none=>rw[e]at q;simp at q |some x=>rw[e]at q;simp at q;rw[q])
    let:=st.1
    show(by lia,by lia)
 .rw[aP,not_or]at ht;let hs:∀r∈L k,r.has t=r.has (t-1):=λr hr=>by
   let n1:t≠r.b:=λz=>ht.2 (cy.mpr (r,hr,by rw[z];show .head _));let n2:∀e,r.e=bo e->t≠e:=λe he z=>ht.2 (cy.mpr (r,hr,by rw[he,z];show .tail _ (.head _)));show cH.mpr ?_;rw[has_iff,has_iff]
   constructor
   .ext⟨a1,a2⟩;show(by lia,λe he=>by let:=a2 e he;lia)
   .ext⟨a1,a2⟩;show(by lia,λe he=>by let:=a2 e he;let:=n2 e he;lia)
  let e1:val (L k) t=val (L k) (t-1):=by
   unfold val;rw[a1D hs]
  unfold nowF;rw[e1,b3 t ht.1]
def a9A{α:Type}{xs:List α}{i j:Int}:(cutZ xs (bo i) (bo j)).Sublist xs:=by
 unfold cutZ;show (dX _ _).trans (d6 _ _)
def b2b{α:Type}{xs:List α}{i n:Nat}:(cutZ xs (bo (i:Int)) (bo ((i:Int)+(n:Int)))).length<=n:=by
 unfold cutZ;rw[HT.sIx_nat,show ((i:Int)+(n:Int))=((i+n:Nat):Int) by lia,HT.sIx_nat];rw[bh]
 lia
def a3e{wn:List Str}{x:Z}(lw:wn.length=4)(nd:wn.Nodup)(hx:WV wn x):((wn.map Z.str++[Z.non]).filter λy=>decide (y≠x)).length=4:=by
 let n5:(wn.map Z.str++[Z.non]).Nodup:=by
  rw[b9];show(cq.mpr (nd.imp λh z=>h (by injection z)),by simp,λa ha b hb z=>by
   rw[aS.mp hb]at z;let(s,_,rfl):=bf.mp ha;cases z)
 let hx:x∈wn.map Z.str++[Z.non]:=hx;let l5:(wn.map Z.str++[Z.non]).length=5:=by simp[lw]
 generalize wn.map Z.str++[Z.non]=l at n5 hx l5;let key:∀l:List Z,l.Nodup->x∈l->(l.filter λy=>decide (y≠x)).length+1=l.length:=by
  ext l
  induction l with
  |nil=>ext _ h;cases h
  |cons a l ih=>
   ext nd h;let(n1,n2):=bV.mp nd
   by_cases c:a=x
   .subst c;rw[List.filter_cons_of_neg (by simp),gZ.mpr λy hy=>↑(λz:y=a=>n1 (z▸hy)),be]
   .rw[fG ↑c,be,be]
    let:=ih n2 ((aO.mp h).resolve_left λz=>c z.symm)
    lia
 let:=key l n5 hx
 lia
structure SmI (B0 G:Hq) (r t:Addr) (B:List Cg):Prop where
 kp:∀b o,b≠r->b≠t->B0 b=bo o->G b=bo o
 row:RowAt G r
 at_:G t=bo (.lst (B.map Cg.z))
 nt:t≠r
section
variable{B0 G G':Hq}{r t:Addr}{B C:List Cg}
def SmI.draw(h:SmI B0 G r t B)(k:Kq r G G')(R:RowAt G' r):SmI B0 G' r t B:=(λb o n1 n2 e=>k _ _ (h.kp b o n1 n2 e) n1,R,k _ _ h.at_ h.nt,h.nt)
def SmI.up(h:SmI B0 G r t B)(s:Sm G G'):SmI B0 G' r t B:=(λb o n1 n2 e=>s _ _ (h.kp b o n1 n2 e),let (x,w,e,o):=h.row;(x,w,s _ _ e,o),s _ _ h.at_,h.nt)
def SmI.add{c:Cg}(h:SmI B0 G r t B):SmI B0 (put G t (.lst (B.map Cg.z++[c.z]))) r t (B++[c]):=(λb o n1 n2 e=>by rw[a0d n2];show h.kp b o n1 n2 e,h.row.kq Kq.at (Ne.symm h.nt),by rw[a0a,aV];rfl,h.nt)
def SmI.trans(h:SmI B0 G r t B)(k:SmI G G' r t C):SmI B0 G' r t C:=(λb o n1 n2 e=>k.kp b o n1 n2 (h.kp b o n1 n2 e),k.row,k.at_,k.nt)
def SmI.bas(h:SmI B0 G r t B):SmI G G r t B:=(λ_ _ _ _ e=>e,h.row,h.at_,h.nt)
end
def b32(wn:List Str)(q m:Rw):Prop:=Part q m.b m.e/\∃x y,q.w=[x]/\m.w=[x,y]/\WV wn y/\x≠y
def b1q{q:Rw}{b:Int}{e:Option Int}{w:List Z}(p:Part q b e){t:Int}(h:((b,e,w):Rw).has t=lS):q.has t=lS:=by
 let(h1,h2):=has_iff.mp h;let(p1,p2,p3):=p;show has_iff.mpr (bK p1 h1,λen he=>?_);let(f,f1,f2):=p3 en he
 let:=h2 f f1
 lia
def a9B{wn:List Str}{Q M:List Rw}(c:Can Q)(hl:M.length<=Q.length)(h:∀(j:Nat) q m,Q[j]?=bo q->M[j]?=bo m->b32 wn q m):Can M:=by
 let at':∀(j:Nat)(hj:j<M.length),b32 wn (Q[j]'(by lia)) M[j]:=λj hj=>h j _ _ (aU (by lia)) (aU hj);show(λm hm=>?_,bR.mpr λi j hi hj hij=>?_)
 .let(j,hj,rfl):=b8.mp hm;let((_,p2,_),_):=at' j hj;show p2.bef
 .let((_,p2,p3),x,y,e1,e2,_):=at' i hi;let((q1,_),x',y',e3,e4,_):=at' j hj;let(e,a1,a2,a3):=bR.mp c.2 i j (by lia) (by lia) hij;let(f,f1,f2):=p3 e a1;show(f,f1,by lia,λz hw=>?_);rw[e2,e4]at hw;show a3 (by lia) (by rw[e1,e3,(bJ.inj hw).1])
theorem a46{L:Str->List Rw}{k:Str}{M:List Rw}:∀{ks:List Str},k∉ks->cgs ks (λj=>if j=k then M else L j)=cgs ks L
 |[],_=>rfl
 |x::ks,n=>by
  rw[aO,not_or]at n
  let:=a46 (L:=L) (M:=M) n.2
  unfold cgs at this ⊢;rw[cG,cG,this];dsimp only;rw[if_neg (Ne.symm n.1)]
def b1r{ks:List Str}{L:Str->List Rw}{k:Str}{M:List Rw}(n:k∉ks):cgs (ks++[k]) (λj=>if j=k then M else L j)=cgs ks L++M.map (Cg.mk k):=by
 rw[<- a46 (L:=L) (M:=M) n];unfold cgs;rw[List.flatMap_append,List.flatMap_singleton];dsimp only;rw[if_pos rfl]
def b33:P3:=λws G R=>Ex10 λ(r d kp wp:Addr) (u:FZ) (ts:List Str) (kvs:List (Key×Z)) (kn wn:List Str) (N:Nat)=>ws=[.ref r,.ref d,.ref kp,.ref wp]/\RowAt G r/\TabN G d u ts kvs/\Wd u N/\N<=200/\G kp=bo (.lst (kn.map Z.str))/\G wp=bo (.lst (wn.map Z.str))/\kn.length=5/\kn.Nodup/\wn.length=4/\wn.Nodup/\(∀s∈kn,nmOk s)/\(∀s∈wn,nmOk s)/\(∀k t,WV wn (u k t)) /\
 ∀(t:Addr)(B:List Cg)(ks:List Str)(L:Str->List Rw)(G':Hq),G t=lR->RowAt G' r->Kq r G G'->G' t=bo (.lst (B.map Cg.z))->SomeOk u kn wn B ks L->R (.ref t) G'
def b34(T:Txt K mg base a):Cal P w K mg base CX0 3 "_law_some" (lowP K b33):=by
 show fnc 4 (N:=["row","lines","keys","worths","found","at","key","pieces","spot","piece","begin","end","then","others"]) T.br (T.f 21 _ rfl) ?_ (len:=λws G R h=>(by let(_,_,_,_,_,_,_,_,_,_,rfl,_):=h;rfl));walk_at "in";show(_,(a0c (by ac_rfl)
  (a0c (by ac_rfl)
  (a0c (a1g (pt:=(.nm 6)) iz.never rfl (a3W (a72 x_sl (q_B a8U (T.b 0) (q_k (qv 2) a0E)) (a71 (qv 5)) (a71 (by ac_rfl)))) (p_nm (nmI 6 nd))
  (a0c (by ac_rfl)
  (a0c (by ac_rfl)
  (a0L (a1g (pt:=(.nm 9)) iz.never rfl (by ac_rfl) (p_nm (nmI 9 nd))
  (a0c (by ac_rfl)
  (a0c (z_l (nmI 13 nd) ["worth","then"] [lR,bo 12] (.nm 0))
  (by ac_rfl))))))))
  (by ac_rfl)))),?_)
 let(r,d,kp,wp,u',ts,kvs,kn,wn,N,rfl,R0,H,wd,hN,gk,gw,lk,ndk,lw,ndw,okk,okw,wv,fin):=h;lk;show(lenK rfl,λt ht=>?_);let nrt:=R0.ne ht;let R1:=R0.new (o:=.lst []) ht;let q1:Kq r G (put G t (.lst [])):=Kq.new ht;let gt:put G t (.lst []) t=bo (.lst []):=a0a;generalize put G t (.lst [])=G1 at R1 q1 gt ⊢;lk;show a0B R1 (by decide) (by decide) λat0 y w f0 f1 ok1=>?_;let q2:Kq r G (put G1 r (RowO y w)):=q1.trans Kq.at
 let R2:RowAt (put G1 r (RowO y w)) r:=RowAt.at ok1;let gt:put G1 r (RowO y w) t=bo (.lst []):=by rw[a0d (Ne.symm nrt)];show gt
 generalize put G1 r (RowO y w)=G2 at R2 q2 gt ⊢;let nrk:kp≠r:=λz=>by let(_,_,e,_):=R0;rw[<- z,gk]at e;let:=congrArg (λo=>match o with |some (.lst l)=>l.length |_=>0) e;simp[lk]at this
 let nrw:wp≠r:=λz=>by let(_,_,e,_):=R0;rw[<- z,gw]at e;let:=congrArg (λo=>match o with |some (.lst l)=>l.length |_=>0) e;simp[lw]at this
 lk;show a8V (q2 _ _ gk nrk) (by lia) λs1 ms hs1 pm so=>?_;let hs1':s1≠r:=λz=>by let(_,_,e,_):=R2;rw[<- z,hs1]at e;cases e
 let s3:Sm G2 (put G2 s1 (.lst (ms.map Z.str))):=Sm.new hs1;let gs1:put G2 s1 (.lst (ms.map Z.str)) s1=bo (.lst (ms.map Z.str)):=a0a;generalize put G2 s1 (.lst (ms.map Z.str))=G3 at s3 gs1 ⊢;let I3:SmI G3 G3 r t []:=(λ_ _ _ _ e=>e,let (x,w,e,o):=R2;(x,w,s3 _ _ e,o),s3 _ _ gt,Ne.symm nrt);let q3:Kq r G G3:=λb o e n=>s3 _ _ (q2 _ _ e n);clear gt R2 q2 s3 hs1 R1 q1;lk;show a0B I3.row (by decide) (by decide) λn0 y w g0 g1 ok2=>?_;let I4:=I3.draw Kq.at (RowAt.at ok2);generalize put G3 r (RowO y w)=G4 at I4 ⊢;let nst:s1≠t:=λz=>by rw[z,I3.at_]at gs1;cases ms with |nil=>let:=pm.length_eq;simp at this;lia |cons a l=>simp at gs1
 lk;show a8i (I4.kp _ _ hs1' nst gs1) λs2 hs2=>?_;rw[a3X];let(ai,rfl):=cF f0;let(ni,rfl):=cF g0;let sub:(cutZ ms (bo (ai:Int)) (bo ((ai:Int)+(ni:Int)))).Sublist ms:=a9A;let len:(cutZ ms (bo (ai:Int)) (bo ((ai:Int)+(ni:Int)))).length<=ni:=b2b;generalize cutZ ms (bo (ai:Int)) (bo ((ai:Int)+(ni:Int)))=sl at sub len ⊢;let sso:sl.Pairwise leS:=(b3N so).sublist sub;let snd:sl.Nodup:=(pm.nodup_iff.mpr ndk).sublist sub;let ssb:∀k∈sl,k∈kn:=λk hk=>pm.mem_iff.mp (sub.subset hk);let I5:=I4.up (Sm.new (o:=.lst (sl.map Z.str)) hs2);let gs2:put G4 s2 (.lst (sl.map Z.str)) s2=bo (.lst (sl.map Z.str)):=a0a;let ns2r:s2≠r:=λz=>by let(_,_,e,_):=I4.row;rw[<- z,hs2]at e;cases e
 let ns2t:s2≠t:=λz=>by let e:=I4.at_;rw[<- z,hs2]at e;cases e
 generalize put G4 s2 (.lst (sl.map Z.str))=G5 at I5 gs2 ⊢;lk;show a1i gs2 ?_;show a0H (λi σ G'=>Ex10 λ(B:List Cg) (L:Str->List Rw) (v1 v2 v3 v4 v5 v6 v7 v8:Option Z)=>An7 (SmI G5 G' r t B) (B=cgs (sl.take i) L) (∀k,k∉sl.take i->L k=[]) (∀k,Can (L k)) (∀k,(L k).length<=2) (∀k,∀m∈L k,ChOk wn (u' k) m) (σ=[bo (.ref r),bo (.ref d),bo (.ref kp),bo (.ref wp),bo (.ref t),bo (.int ai),v1,v2,v3,v4,v5,v6,v7,v8]))
  ([],λ_=>[],_,_,_,_,_,_,_,_,I5.bas,rfl,λ_ _=>rfl,λ_=>Can.nil,λ_=>by simp,(λ_ _ h=>by cases h),rfl) (by ext i σ G' _ ⟨_,_,_,_,_,_,_,_,_,_,I,_⟩;show I.kp _ _ ns2r ns2t gs2) ?_ ?_
 .ext i x σ G6 hx ⟨B,L',v1,v2,v3,v4,v5,v6,v7,v8,I,eB,hno,hcan,htwo,hch,rfl⟩;rw[aR]at hx;cases hx':sl[i]? with
  |none=>rw[hx']at hx;cases hx
  |some key=>
  rw[hx']at hx;cases hx;let tk:=take_snoc hx';let nkey:key∉sl.take i:=λz=>by
   let(j,hj,e):=b8.mp z;rw[bh]at hj;rw[dS]at e;let(h2,e2):=aT.mp hx';show bR.mp snd j i (by lia) h2 (by lia) (e.trans e2.symm)
  let kG:∀G',(∀b o,b≠r->b≠t->G6 b=bo o->G' b=bo o)->Kq r G G':=λG' k b o e n=>k b o n (a0g e ht) (I.kp b o n (a0g e ht) (I5.kp b o n (a0g e ht) (q3 b o e n)));let kG6:=kG G6 λ_ _ _ _ e=>e;let H6:=H.kq R0 kG6;show(_,rfl,?_);lk;show a5v H6.at_ ?_;lk;show(lenK rfl,λt0 ht0=>?_);lk;let(x1,L1,e1,gx1,cL1,pL1,vL1):=H6.get (Sm.new (o:=.lst []) ht0) a0a key;show a4L (a0b H6.at_ ht0) rfl ?_;rw[e1];let I6:=(I.bas).up (Sm.new (o:=.lst []) ht0);generalize put G6 t0 (.lst [])=G7 at gx1 I6 ⊢;lk;let(st1,ln1):=wd.line cL1 vL1;show(x1,L1,rfl,gx1,cL1,pL1,st1,by lia,λpp G8 hpp s8 gpp=>?_);let(pok,pne,pln):=a9v (u:=u' key) (l:=0) cL1 st1 (bM _) (by decide) (λm hm=>(st1 m hm).1) λt _=>vL1 t;let pne:=pne (.inr (by decide));generalize pcF (bo 0) L1=P at gpp pok pne pln;let I8:=I6.up s8;let npr:pp≠r:=λz=>by let(_,_,e,_):=I6.row;rw[<- z,hpp]at e;cases e
  let npt:pp≠t:=λz=>by let e:=I6.at_;rw[<- z,hpp]at e;cases e
  lk;show a2B gpp ?_;rw[aN];lk;let lP:0<P.length:=cw.mpr pne;show a0B I8.row (by lia) (by lia) λsp y w a0 a1 ok3=>?_;let I9:=I8.draw Kq.at (RowAt.at ok3);let gp9:put G8 r (RowO y w) pp=bo (.lst (P.map Rw.z)):=by rw[a0d npr];show gpp
  generalize put G8 r (RowO y w)=G9 at I9 gp9 ⊢;lk;show a0B I9.row (by decide) (by decide) λn2 y w b0 b1 ok4=>?_;let I10:=I9.draw Kq.at (RowAt.at ok4);let gp10:put G9 r (RowO y w) pp=bo (.lst (P.map Rw.z)):=by rw[a0d npr];show gp9
  generalize put G9 r (RowO y w)=G10 at I10 gp10 ⊢;lk;show a8i gp10 λs3 hs3=>?_;rw[a3X];let(si,rfl):=cF a0;let(ni2,rfl):=cF b0;let sub2:(cutZ P (bo (si:Int)) (bo ((si:Int)+1+(ni2:Int)))).Sublist P:=a9A;let len2:(cutZ P (bo (si:Int)) (bo ((si:Int)+1+(ni2:Int)))).length<=1+ni2:=by rw[show (si:Int)+1+(ni2:Int)=(si:Int)+((1+ni2:Nat):Int) by lia];show b2b
  generalize cutZ P (bo (si:Int)) (bo ((si:Int)+1+(ni2:Int)))=Q at sub2 len2 ⊢;let cQ:Can Q:=(λm hm=>pok.can.1 m (sub2.subset hm),pok.can.2.sublist sub2);let wQ:=λm hm=>pok.w m (sub2.subset hm);let I11:=I10.up (Sm.new (o:=.lst (Q.map Rw.z)) hs3);let gs3:put G10 s3 (.lst (Q.map Rw.z)) s3=bo (.lst (Q.map Rw.z)):=a0a;let ns3r:s3≠r:=λz=>by let(_,_,e,_):=I10.row;rw[<- z,hs3]at e;cases e
  let ns3t:s3≠t:=λz=>by let e:=I10.at_;rw[<- z,hs3]at e;cases e
  generalize put G10 s3 (.lst (Q.map Rw.z))=G11 at I11 gs3 ⊢;lk;show a1i gs3 ?_;show a0H (λj σ G'=>Ex6 λ(M:List Rw) (v4 v5 v6 v7 v8:Option Z)=>An4 (SmI G11 G' r t (B++M.map (Cg.mk key))) (M.length=j) (∀(j:Nat) q m,Q[j]?=bo q->M[j]?=bo m->b32 wn q m) (σ=[bo (.ref r),bo (.ref d),bo (.ref kp),bo (.ref wp),bo (.ref t),bo (.int ai),bo (.str key),bo (.ref pp),bo (.int si),v4,v5,v6,v7,v8]))
   ([],_,_,_,_,_,↑I11.bas,rfl,(λj q m _ h=>by simp at h),rfl) (by ext j σ G' _ ⟨_,_,_,_,_,_,I,_⟩;show I.kp _ _ ns3r ns3t gs3) ?_ ?_
  .ext j x σ G12 hx ⟨M,w4,w5,w6,w7,w8,J,lM,hM,rfl⟩;rw[aR]at hx;cases hx2:Q[j]? with
   |none=>rw[hx2]at hx;cases hx
   |some q=>
   rw[hx2]at hx;cases hx;let hj:=(aT.mp hx2).1;let mq:=bp hx2;let(_,stq,x,ex,hx3):=wQ q mq;let wx:WV wn x:=by rw[<- hx3 q.b (a1H (cQ.1 q mq))];show wv key q.b
   show(_,rfl,?_);lk;show(r,q,x,rfl,J.row,stq,ex,λb e G13 R13 k13 part=>?_);let J:=J.draw k13 R13;lk;show(lenK rfl,λa1 ha1=>?_);let J:=J.up (Sm.new (o:=.lst [.non]) ha1);let ga1:put G13 a1 (.lst [.non]) a1=bo (.lst [.non]):=a0a;generalize put G13 a1 (.lst [.non])=G14 at J ga1 ⊢;let gw14:=kG G14 (λb o n1 n2 e=>J.kp b o n1 n2 (I11.kp b o n1 n2 e)) _ _ gw nrw;show a1I gw14 ga1 (a0S (by rw[aN,lw];decide)) λa2 ha2=>?_;let J:=J.up (Sm.new (o:=.lst (wn.map Z.str++[.non])) ha2);let ga2:put G14 a2 (.lst (wn.map Z.str++[.non])) a2=bo (.lst (wn.map Z.str++[.non])):=a0a;generalize put G14 a2 (.lst (wn.map Z.str++[.non]))=G15 at J ga2 ⊢;lk;show a1i ga2 ?_;ext D hD;let fl:∀y∈wn.map Z.str++[Z.non],flat 8 y=lS:=λy hy=>a0m (by decide) (WV.flat okw hy);show a5j (λy=>if y=x then lR else bo y) (λys=>a0b ga2 hD) (by rw[bg,aN,lw];decide) (λy hy ys K1 K2 h1 h2=>(_,rfl,?_)) ?_
   .lk;show a0W (fl y hy) (fl x wx) ?_;lk
    by_cases c:y=x
    .rw[decide_eq_true c];lk;show h2 (if_pos c)
    .rw[decide_eq_false c];lk;show h1 y (if_neg c)
   let e5:(wn.map Z.str++[Z.non]).filterMap (λy=>if y=x then lR else bo y)=(wn.map Z.str++[Z.non]).filter λy=>decide (y≠x):=by
    rw[<- fH]
    congr 1
    funext y
    by_cases c:y=x<;>simp[fI,c]
   rw[e5];let l4:=a3e lw ndw wx;let m4:∀y∈(wn.map Z.str++[Z.non]).filter λy=>decide (y≠x),WV wn y/\x≠y:=λy hy=>by
    let(h1,h2):=cA.mp hy;show(h1,λz=>(of_decide_eq_true h2) z.symm)
   generalize ((wn.map Z.str++[Z.non]).filter λy=>decide (y≠x))=os at l4 m4 ⊢;let J:=J.up (Sm.new (o:=.lst os) hD);let gD:put G15 D (.lst os) D=bo (.lst os):=a0a;let nDr:D≠r:=λz=>by let(_,_,e,_):=J.row;rw[<- z,gD]at e;let:=congrArg (λo=>match o with |some (.lst l)=>l.length |_=>0) e;simp[l4]at this
   generalize put G15 D (.lst os)=G16 at J gD ⊢;lk;show a04 J.at_ ?_;lk;show a0B J.row (by decide) (by decide) λk4 y w c0 c1 ok5=>?_;let J:=J.draw Kq.at (RowAt.at ok5);let gD:put G16 r (RowO y w) D=bo (.lst os):=by rw[a0d nDr];show gD
   generalize put G16 r (RowO y w)=G17 at J gD ⊢;let(now,en,mn):=a3J (xs:=os) c0 (by rw[l4];show c1);let(wn1,ne1):=m4 now mn;lk;show a0y gD en ?_;lk;show(lenK rfl,?_);lk;show a0u J.at_ ?_ (M++[(b,e,[x,now])],_,_,_,_,_,?_,by simp;lia,λj' q' m h1 h2=>?_,rfl)
   .let lB:=a2x (ks:=sl.take i) htwo;rw[<- eB]at lB;rw[aN,bg,aN]
    let:(sl.take i).length<=4:=by rw[bh];lia
    show a0e (by lia)
   .let J:=J.add (c:=(key,(b,e,[x,now])));rw[show B++(M++[((b,e,[x,now]):Rw)]).map (Cg.mk key)=(B++M.map (Cg.mk key))++[(key,(b,e,[x,now]))] by simp];show J
   .by_cases c:j'<M.length
    .rw[cJ c]at h2;show hM j' q' m h1 h2
    .let e0:j'=M.length:=by
      let:=(aT.mp h2).1
      simp at this
      lia
     subst e0;rw[cI (aQ _),eZ]at h2;cases h2;rw[lM,hx2]at h1;cases h1;show(part,x,now,ex,rfl,wn1,ne1)
  .ext σ G12 ⟨M,w4,w5,w6,w7,w8,J,lM,hM,rfl⟩;rw[aN]at lM;let cM:=a9B cQ (by lia) hM;show(B++M.map (Cg.mk key),λk=>if k=key then M else L' k,_,_,_,_,_,_,_,_,I.trans (I11.trans J),by rw[tk,b1r nkey,eB],λk hk=>?_,λk=>?_,λk=>?_,λk m hm=>?_,rfl)
   .rw[tk,aP,not_or]at hk
    change (if k=key then M else L' k)=[]
    rw[if_neg λz=>hk.2 (by rw[z];simp)];show hno k hk.1
   .change Can (if k=key then M else L' k)
    split
    .show cM
    .show hcan k
   .change (if k=key then M else L' k).length<=2
    split
    .lia
    .show htwo k
   .by_cases z:k=key
    .let hm2:m∈M:=by simpa[z]using hm
     clear hm;subst z;let(j,hj,rfl):=b8.mp hm2;let hj2:j<Q.length:=by lia
     let(p,x,y,e1,e2,e3,e4):=hM j _ _ (aU hj2) (aU hj);let(_,_,x',ex,hx3):=wQ _ (bN hj2);rw[e1]at ex;cases ex;show(p.2.1,x,y,e2,?_,e3,e4,λt ht=>hx3 t (b1q (w:=M[j].w) p ht));rw[<- hx3 _ (a1H (cQ.1 _ (bN hj2)))];show wv _ _
    .show hch k m (by simpa[z]using hm)
 .ext σ G6 ⟨B,L',v1,v2,v3,v4,v5,v6,v7,v8,I,eB,hno,hcan,htwo,hch,rfl⟩;rw[aN,bX]at eB hno;lk;show fin t B sl L' G6 ht I.row (λb o e n=>I.kp b o n (a0g e ht) (I5.kp b o n (a0g e ht) (q3 b o e n))) I.at_ (eB,sso,snd,hno,ssb,by lia,hcan,htwo,hch)
def a3f{kvs:List (Key×Z)}{k:Key}{z:Z}(h:valZ kvs k=bo z):(k,z,)∈kvs:=by
 unfold valZ at h;cases e:kvs.find? λkv=>decide (kv.1=k) with
 |none=>rw[e]at h;cases h
 |some p=>
  rw[e]at h;let h1:=dP e;let h2:p.1=k:=by let:=fh e;o_head this
  let(a,b):=p;cases h;cases h2;show h1
local macro_rules | `(tactic| walk_at "go1")=>`(tactic| with_reducible show i_iD ?_)
def b35:P3:=λws G R=>Ex4 λ(d:Addr) (u:FZ) (ts:List Str) (kvs:List (Key×Z))=>ws=[.ref d]/\TabN G d u ts kvs/\ts.length<=5/\∀(W:Addr)(kv:List (Key×Z))(G':Hq),G W=lR->(∀b o,b≠d->G b=bo o->G' b=bo o)->G' d=bo (.dF kvs)->TabN G' W u ts kv->Own1 G W kv->R (.ref W) G'
def a5O(T:Txt K mg base a):Cal P w K mg base CX0 1 "_law_copy" (lowP K b35):=by
 show fnc 1 (N:=["lines"]) T.br (T.f 25 _ rfl) ?_ (len:=λws G R h=>(by let(_,_,_,_,rfl,_):=h;rfl));walk_at "in";show(_,(a0L (a4v (q_Y (a8Y rfl) (T.b 13) (q_k (q_l ["key","lines"] [lR,bo 0] (.nm 0) (hi:=(a27 (qv 0))) (he:=λ_ _ _ _=>(a73 (q_k (qv 0) (q_k (q_Y a8f (T.b 8) (q_k (q_ix a2a (qv 1) (qv 0) (λ_ _=>rfl)) a0E)) a0E))))) a0E)))),?_);let(d,u',ts,kvs,rfl,H,lt,fin):=h;lk;show a8T (.inl H.at_) ?_;let k1:∀b o,b≠d->G b=bo o->put G d (.dF kvs) b=bo o:=λb o n e=>by rw[a0d n];show e
 let gd:put G d (.dF kvs) d=bo (.dF kvs):=a0a;let fr:∀b,put G d (.dF kvs) b=lR->G b=lR:=λb e=>by
  cases q:G b with
  |none=>rfl
  |some o=>
   by_cases c:b=d
   .subst c;rw[a0a]at e;cases e
   .rw[a0d c,q]at e;cases e
 generalize put G d (.dF kvs)=G1 at k1 gd fr ⊢;ext D hD;let nd:(ts.map (λs=>(Sum.inr s:Key))).Nodup:=cq.mpr (H.nd.imp λh z=>h (by injection z));let lk:kvs.length=ts.length:=by let:=congrArg bn H.ks;o_head this
 show a6U (λi ys G'=>∃(rows:List (Key×Z)),An7 (ys=rows.map prZ) (rows.map (·.1)=(ts.take i).map (λs=>(Sum.inr s:Key))) (∀k∈ts.take i,∃l L,((Sum.inr k:Key),Z.ref l,)∈rows/\l≠D/\G' l=bo (.lst (L.map Rw.z))/\Can L/\Plain L/\L≠[]/\∀t,val L t=optW (u' k t)) (∀p∈rows,∀l,p.2=.ref l->G1 l=lR/\G' l≠lR) ((rows.map (·.2)).Nodup) (Sm G1 G') (G' D=bo (.lst ys))) ([],rfl,rfl,(λk h=>by simp at h),(λp h=>by cases h),.nil,Sm.new hD,a0a) (λ_ _ _ _ _=>True.intro) ?_ ?_
 .ext i x ys G' hx ⟨rows,rfl,hr,hln,hnew,hnd,s,gD⟩;rw[aR]at hx;cases hx':kvs[i]? with
  |none=>rw[hx']at hx;cases hx
  |some pk=>
  rw[hx']at hx;let hi:=(aT.mp hx').1;let(key,mkey,ek,vk):=a1U H.ks H.nd hx';let hv':ts[i]?=bo key:=by
   let h1:(kvs.map (·.1))[i]?=bo pk.1:=by rw[aR,hx'];rfl
   rw[H.ks,aR,ek]at h1;cases h2:ts[i]? with
   |none=>rw[h2]at h1;cases h1
   |some s=>rw[h2]at h1;cases h1;rfl
  let hx:x=.str key:=by
   let:keyW pk.1=x:=bo.inj hx
   rw[<- this,ek];rfl
  subst hx;let(l,L,e1,gl,c1,p1,n1,w1):=H.ln key mkey;let nld:l≠d:=λz=>by rw[z,H.at_]at gl;cases gl
  let hrl:rows.length<=5:=by let:=congrArg bn hr;rw[aN,aN,bh]at this;lia
  show(_,rfl,?_);lk;show a2b (.inr (s _ _ gd)) rfl e1 ?_;lk;show a5m (s _ _ (k1 _ _ nld gl)) λl2 hl2=>?_;let nlD:l2≠D:=Ne.symm (a0g gD hl2);lk;let old:∀p∈rows,p.2≠.ref l2:=λp hp z=>(hnew p hp l2 z).2 hl2;show(lenK rfl,a0b gD hl2,by rw[aN];show a0e (by lia),rows++[(.inr key,.ref l2,)],by rw[aV];rfl,by rw[aV,hr,take_snoc hv',aV];rfl,λj hj=>?_,λp hp m e=>?_,?_,(s.trans (Sm.new hl2)).put hD,a0a)
  .rw[take_snoc hv']at hj;let hj||hj:=aP.mp hj
   .let(l',L',m1,m2,m3,m4):=hln j hj;show(l',L',cP _ m1,m2,by rw[a0d m2];show a0b m3 hl2,m4)
   .rw[aS.mp hj];show(l2,L,by simp,nlD,by rw[a0d nlD,a0a],c1,p1,n1,w1)
  .let ne:∀b (o:O),put G' l2 (.lst (L.map Rw.z)) b≠lR->put (put G' l2 (.lst (L.map Rw.z))) D o b≠lR:=λb o h=>by
    by_cases c:b=D
    .subst c;rw[a0a];simp
    .rw[a0d c];show h
   let hp||hp:=aP.mp hp
   .let(a1,a2):=hnew p hp m e;show(a1,ne _ _ ?_);rw[a0d λz=>a2 (by rw[z];show hl2)];show a2
   .rw[aS.mp hp]at e;cases e;show(s.free hl2,ne _ _ (by rw[a0a];simp))
  .rw[aV,b9];show(hnd,by simp,λx hx y hy z=>?_);let(p,hp,rfl):=bf.mp hx;let hy:y=.ref l2:=↑hy
   show old p hp (z.trans hy)
 .ext ys G2 ⟨rows,rfl,hr,hln,hnew,hnd,s,gD⟩;rw[aN,lk,bX]at hr hln;let hrl:rows.length=ts.length:=by let:=congrArg bn hr;rw[aN,aN]at this;show this
  let nd2:(rows.map (·.1)).Nodup:=by rw[hr];show nd
  lk;show a8Z gD (by lia) λW hW=>?_;rw[a42 nd2];let s2:=s.trans (Sm.new (o:=.dK rows) hW);show fin W rows _ (fr _ (s.free hW)) (λb o n e=>s2 _ _ (k1 b o n e)) (s2 _ _ gd) (a0a,hr,H.nd,λk hk=>?_,λk hk=>(?_,(H.no k hk).2)) (λk l e=>?_,λk j l e1 e2=>?_)
  .let(l,L,m1,m2,m3,m4):=hln k hk;show(l,L,a4h nd2 m1,a0b m3 hW,m4)
  .cases e:valZ rows (.inr k) with
   |none=>rfl
   |some z=>
    let:=bP (f:=(·.1)) (a3f e)
    rw[hr]at this;let(k2,h2,e2):=bf.mp this;cases e2;show absurd h2 hk
  .let(a1,a2):=hnew _ (a3f e) l rfl;show(fr _ a1,λz=>a2 (by rw[z];show hW))
  .let h1:=a3f e1;let h2:=a3f e2;let(i,hi,a1):=b8.mp h1;let(i2,hi2,a2):=b8.mp h2
   let:=(eG (h₀:=by rw[aN];show hi) (h₁:=by rw[aN];show hi2) hnd).mp (by rw[g6,g6,a1,a2])
   subst this;rw[a1]at a2;cases a2
   rfl
theorem a4j:∀{l:List Rw},Rise l->∀t,lastAt l t=wz (val l t)
 |[],_,t=>rfl
 |r::l,h,t=>by
  let ih:=a4j h.tail t;unfold lastAt at ih ⊢;rw[dg,fq,a0j]
  by_cases c:r.has t=lS
  .rw[if_pos c]
   let:l.reverse.find? (·.has t)=lR:=dO.mpr λs hs=>by
    let:=((aW.mp h.2).1 s (fJ.mp hs)).has c
    simp[this]
   rw[this];simp[c,wz]
  .rw[if_neg c]
   let:[r].find? (·.has t)=lR:=by simp[c]
   rw[this,fD];show ih
local macro_rules | `(tactic| walk_at "go1")=>`(tactic| with_reducible show i_iD ?_)
def a9C{kvs:List (Key×Z)}{ts:List Str}(h:kvs.map (·.1)=ts.map (λs=>(Sum.inr s:Key)))(key:Str)(v:Z)(hv:∀k,k∉ts->valZ kvs (.inr k)=lR):∃us:List Str,(putZ kvs (.inr key) v).map (·.1)=us.map (λs=>(Sum.inr s:Key))/\(ts.Nodup->us.Nodup)/\∀k,k∈us↔k∈ts\/k=key:=by
 by_cases c:key∈ts
 .show(ts,?_,id,λk=>(.inl,λz=>z.elim id λe=>e▸c));unfold putZ;let ha:(kvs.any λkv=>decide (kv.1=Sum.inr key))=lS:=by
   let:(Sum.inr key:Key)∈kvs.map (·.1):=by rw[h];show bP c
   let(p,hp,e):=bf.mp this;show cx.mpr (p,hp,↑e)
  rw[if_pos ha,<- h,bW];show eC λp _=>?_
  change (if p.1=Sum.inr key then (p.1,v,) else p).1=p.1
  split<;>rfl
 .show(ts++[key],by rw[a1T (hv key c),aV,h,aV];rfl,λnd=>b9.mpr (nd,by simp,λx hx y hy=>by rw[aS.mp hy];ext rfl;show c hx),λk=>by simp)
structure FD (B0 G:Hq) (W:Addr) (u:FZ) (A:List Cg) (N:Nat) (us:List Str) (kv:List (Key×Z)):Prop where
 at_:G W=bo (.dK kv)
 ks:kv.map (·.1)=us.map (λs=>(Sum.inr s:Key))
 nd:us.Nodup
 ln:∀k∈us,∃l L,valZ kv (.inr k)=bo (.ref l)/\G l=bo (.lst (L.map Rw.z))/\Can L/\Plain L/\(∀t,val L t=optW (nowF u (rowsOf A) k t))/\(rowsOf A k=[]->L.length<=N)/\((rowsOf A k).length<=1->L.length<=2*(N+1))/\B0 l=lR
 no:∀k,k∉us->valZ kv (.inr k)=lR/\(∀t,u k t=.non)/\rowsOf A k=[]
 sm:∀b o,b≠W->B0 b=bo o->G b=bo o
 fr:B0 W=lR
def FD.keep{B0 G G':Hq}{W:Addr}{u:FZ}{A:List Cg}{N:Nat}{us:List Str}{kv:List (Key×Z)}(h:FD B0 G W u A N us kv)(s:Sm G G'):FD B0 G' W u A N us kv:=
 (s _ _ h.at_,h.ks,h.nd,λk hk=>let (l,L,a,b,c):=h.ln k hk;(l,L,a,s _ _ b,c),h.no,λb o n e=>s _ _ (h.sm b o n e),h.fr)
def b1s{u:FZ}{A:List Cg}{c:Cg}{x y:Z}(ew:c.r.w=[x,y])(lt:∀r∈rowsOf A c.k,Lt r c.r)(k:Str)(t:Int):nowF u (rowsOf (A++[c])) k t=if c.k=k/\c.r.has t=lS then y else nowF u (rowsOf A) k t:=by
 unfold nowF;rw[a0C]
 by_cases e:c.k=k
 .subst e;rw[if_pos rfl,a02]
  by_cases h:c.r.has t=lS
  .rw[if_pos (rfl,h),a01 (l:=rowsOf A c.k),a0j,if_pos h,ew]
   .rfl
   .ext r hr;cases q:r.has t with
    |false=>rfl
    |true=>let:=(lt r hr).has q;rw[h]at this;cases this
  .rw[if_neg λz=>h z.2,a0j,if_neg h,a05,fD]
 .rw[if_neg e,bC,if_neg λz=>e z.1]
def rows_at{B:List Cg}{i:Nat}{c:Cg}(h:B[i]?=bo c)(ri:Rise (rowsOf B c.k)):∀r∈rowsOf (B.take i) c.k,Lt r c.r:=by
 let e:B=B.take i++c::B.drop (i+1):=by
  let(h1,h2):=aT.mp h;rw[<- h2,<- cD h1,cZ]
 let e2:rowsOf B c.k=rowsOf (B.take i) c.k++c.r::rowsOf (B.drop (i+1)) c.k:=by
  conv=>lhs;rw[e]
  unfold rowsOf;rw[fB,aV,fG (by simp),aZ]
 rw[e2]at ri;show λr hr=>(bD.mp ri.2).2.2 r hr c.r (.head _)
def b1t{B:List Cg}{i:Nat}{c:Cg}(h:B[i]?=bo c){n:Nat}(two:(rowsOf B c.k).length<=n+1):(rowsOf (B.take i) c.k).length<=n:=by
 let e:B=B.take i++c::B.drop (i+1):=by
  let(h1,h2):=aT.mp h;rw[<- h2,<- cD h1,cZ]
 let e2:rowsOf B c.k=rowsOf (B.take i) c.k++c.r::rowsOf (B.drop (i+1)) c.k:=by
  conv=>lhs;rw[e]
  unfold rowsOf;rw[fB,aV,fG (by simp),aZ]
 rw[e2,bg,be]at two
 lia
def SomeOk.rows{u:FZ}{kn wn ks:List Str}{B:List Cg}{L:Str->List Rw}(h:SomeOk u kn wn B ks L):rowsOf B=L:=by
 funext k
 rw[h.eq,a2L h.nd]
 split
 .rfl
 .next c=>rw[h.no k c]
def SomeOk.mem{u:FZ}{kn wn ks:List Str}{B:List Cg}{L:Str->List Rw}(h:SomeOk u kn wn B ks L){c:Cg}(hc:c∈B):ChOk wn (u c.k) c.r/\c.k∈ks:=by
 rw[h.eq]at hc;let(k,hk,h2):=cy.mp hc;let(r,hr,rfl):=bf.mp h2;show(h.ch k r hr,hk)
def b6O:P3:=λws G R=>Ex11 λ(d q:Addr) (u:FZ) (ts kn wn ks:List Str) (kvs:List (Key×Z)) (B:List Cg) (L:Str->List Rw) (N:Nat)=>ws=[.ref d,.ref q]/\TabN G d u ts kvs/\ts.length<=5/\Wd u N/\N<=196/\G q=bo (.lst (B.map Cg.z))/\SomeOk u kn wn B ks L/\(∀s∈kn,nmOk s)/\(∀s∈wn,nmOk s) /\
 ∀(W:Addr)(us:List Str)(kv:List (Key×Z))(G':Hq),G W=lR->(∀b o,b≠d->G b=bo o->G' b=bo o)->G' d=bo (.dF kvs)->TabN G' W (nowF u L) us kv->R (.ref W) G'
def a9D(T:Txt K mg base a):Cal P w K mg base CX0 3 "_law_put" (lowP K b6O):=by
 show fnc 2 (N:=["lines","some","found","key","begin","end","then","now"]) T.br (T.f 22 _ rfl) ?_ (len:=λws G R h=>(by let(_,_,_,_,_,_,_,_,_,_,_,rfl,_):=h;rfl));walk_at "in";show(_,(a0c (z_st (nmI 2 nd) a2A)
  (a0c (a1g (pt:=(.nm 3)) iz.never rfl (a27 (qv 0)) (p_nm (nmI 3 nd))
  (a0L (a1u (q_Y a8f (T.b 8) (q_k (q_ix a2a (qv 0) (qv 3) (λ_ _=>rfl)) a0E)) (qv 2) (qv 3) (a24 hu))))
  (a0c (a1g (pt:=(.tp [3,4,5,6,7])) iz.never rfl (by ac_rfl) (by ac_rfl)
  (a0L (a1u (by ac_rfl) (qv 2) (qv 3) (a24 hu))))
  (a0L (a4v (q_Y (a8Y rfl) (T.b 13) (q_k (q_l ["key","found"] [lR,bo 2] (.nm 0) (hi:=(a27 (qv 2))) (ht:=λ_ _ _ _=>(a79 (a3u (o_ne hu) (q_ix a2a (qv 1) (qv 0) (λ_ _=>rfl)) (by ac_rfl) (a1V _)))) (he:=λ_ _ _ _=>(a73 (q_k (qv 0) (q_k (q_ix a2a (qv 1) (qv 0) (λ_ _=>rfl)) a0E))))) a0E))))))),?_)
 let(d,q,u',ts,kn,wn,ks,kvs,B',L',N,rfl,H,lt,wd,hN,gq,so,okk,okw,fin):=h;lk;ext W hW;show(_,rfl,?_);let ndW:d≠W:=a0g H.at_ hW;let nqd:q≠d:=λz=>by rw[z,H.at_]at gq;cases gq
 lk;show a8T (.inl (a0b H.at_ hW)) ?_;obtain⟨B0,hB0⟩:∃B0,B0=put G d (.dF kvs):=(_,rfl);let b1:∀b o,b≠d->G b=bo o->B0 b=bo o:=λb o n e=>by rw[hB0,a0d n];show e
 let b2:B0 d=bo (.dF kvs):=by rw[hB0,a0a]
 let b3:∀b,B0 b=lR->G b=lR:=λb e=>by
  cases z:G b with
  |none=>rfl
  |some o=>
   by_cases c:b=d
   .subst c;rw[b2]at e;cases e
   .rw[b1 b o c z]at e;cases e
 let b4:B0 W=lR:=by rw[hB0,a0d (Ne.symm ndW)];show hW
 let s0:∀b o,b≠W->B0 b=bo o->put (put G W (.dK [])) d (.dF kvs) b=bo o:=λb o n e=>by
  by_cases c:b=d
  .subst c;rw[a0a];rw[b2]at e;show e
  .rw[a0d c,a0d n];rw[hB0,a0d c]at e;show e
 let gW0:put (put G W (.dK [])) d (.dF kvs) W=bo (.dK []):=by rw[a0d (Ne.symm ndW),a0a]
 generalize put (put G W (.dK [])) d (.dF kvs)=G1 at s0 gW0 ⊢;clear hB0;let lk:kvs.length=ts.length:=by let:=congrArg bn H.ks;o_head this
 show a0H (λi σ G'=>Ex2 λ(kv:List (Key×Z)) (v:Option Z)=>An6 (G' W=bo (.dK kv)) (kv.map (·.1)=(ts.take i).map (λs=>(Sum.inr s:Key))) (∀k∈ts.take i,∃l L,valZ kv (.inr k)=bo (.ref l)/\G' l=bo (.lst (L.map Rw.z))/\Can L/\Plain L/\(∀t,val L t=optW (u' k t))/\L.length<=N/\B0 l=lR) (∀k,k∉ts.take i->valZ kv (.inr k)=lR) (∀b o,b≠W->B0 b=bo o->G' b=bo o) (σ=[bo (.ref d),bo (.ref q),bo (.ref W),v,lR,lR,lR,lR]))
  ([],_,gW0,rfl,(λk h=>by simp at h),λ_ _=>rfl,s0,rfl) (λ_ _ _ _ _=>True.intro) ?_ ?_
 .ext i x σ G2 hx ⟨kv,v,gW,hks,hln,hno,sm,rfl⟩;rw[aR]at hx;cases hx':kvs[i]? with
  |none=>rw[hx']at hx;cases hx
  |some pk=>
  rw[hx']at hx;let hi:=(aT.mp hx').1;let(key,mkey,ek,vk):=a1U H.ks H.nd hx';let hv':ts[i]?=bo key:=by
   let h1:(kvs.map (·.1))[i]?=bo pk.1:=by rw[aR,hx'];rfl
   rw[H.ks,aR,ek]at h1;cases h2:ts[i]? with
   |none=>rw[h2]at h1;cases h1
   |some s=>rw[h2]at h1;cases h1;rfl
  let hx:x=.str key:=by
   let:keyW pk.1=x:=bo.inj hx
   rw[<- this,ek];rfl
  subst hx;let nkey:key∉ts.take i:=λz=>by
   let(j,hj,e):=b8.mp z;rw[bh]at hj;rw[dS]at e;let(h2,e2):=aT.mp hv';show bR.mp H.nd j i (by lia) h2 (by lia) (e.trans e2.symm)
  let(l,L,e1,gl,c1,p1,n1,w1):=H.ln key mkey;let nld:l≠d:=λz=>by rw[z,H.at_]at gl;cases gl
  let nlW:l≠W:=a0g gl hW;let lkv:kv.length<=5:=by let:=congrArg bn hks;rw[aN,aN,bh]at this;lia
  show(_,rfl,?_);lk;show a2b (.inr (sm _ _ ndW b2)) rfl e1 ?_;lk;show a5m (sm _ _ nlW (b1 _ _ nld gl)) λl2 hl2=>?_;let nl2:l2≠W:=λz=>by rw[z,gW]at hl2;cases hl2
  let fl2:B0 l2=lR:=by
   cases z:B0 l2 with
   |none=>rfl
   |some o=>rw[sm _ _ nl2 z]at hl2;cases hl2
  lk;show a25 (a0b gW hl2) rfl (a0e (by lia)) ?_;let hv:=hno key nkey;show(putZ kv (.inr key) (.ref l2),_,a0a,by rw[a1T hv,aV,hks,take_snoc hv',aV];rfl,λk hk=>?_,λk hk=>?_,λb o n e=>by rw[a0d n];show a0b (sm b o n e) hl2,rfl)
  .rw[take_snoc hv']at hk
   by_cases c:k=key
   .subst c;show(l2,L,by rw[a0r,if_pos rfl],by rw[a0d nl2,a0a],c1,p1,w1,(wd.line c1 w1).2,fl2)
   .let(l',L2,a1,a2,a3):=hln k ((aP.mp hk).resolve_right λz=>c (aS.mp z));show(l',L2,by rw[a0r,if_neg λz=>c (by injection z)];show a1,by rw[a0d λz=>by rw[z,gW]at a2;cases a2];show a0b a2 hl2,a3)
  .rw[take_snoc hv',aP,not_or]at hk;rw[a0r,if_neg λz=>hk.2 (by injection z with z;simp[z])];show hno k hk.1
 .ext σ G2 ⟨kv,v,gW,hks,hln,hno,sm,rfl⟩;rw[aN,lk,bX]at hks hln hno;let F0:FD B0 G2 W u' [] N ts kv:=(gW,hks,H.nd,λk hk=>let (l,L,a1,a2,a3,a4,a5,a6,a7):=hln k hk;(l,L,a1,a2,a3,a4,a5,λ_=>a6,λ_=>by lia,a7),λk hk=>(hno k hk,(H.no k hk).2,rfl),sm,b4);clear gW hks hln hno sm;let gqB:=b1 _ _ nqd gq;let nqW:q≠W:=a0g gq hW;lk;show a1i (F0.sm _ _ nqW gqB) ?_;show a0H (λi σ G'=>Ex7 λ(us:List Str) (kv:List (Key×Z)) (v1 v2 v3 v4 v5:Option Z)=>An3 (FD B0 G' W u' (B'.take i) N us kv) (us.length<=5+i) (σ=[bo (.ref d),bo (.ref q),bo (.ref W),v1,v2,v3,v4,v5]))
   (ts,kv,_,_,_,_,_,F0,by lia,rfl) (by ext i σ G' _ ⟨_,_,_,_,_,_,_,F,_⟩;show F.sm _ _ nqW gqB) ?_ ?_
  .ext i x σ G3 hx ⟨us,kv,v1,v2,v3,v4,v5,F,lus,rfl⟩;rw[aR]at hx;cases hx':B'[i]? with
   |none=>rw[hx']at hx;cases hx
   |some c=>
   rw[hx']at hx;cases hx;let hi:=(aT.mp hx').1;let lB:B'.length<=8:=by rw[so.eq];let:=a2x (ks:=ks) so.two;let:=so.len;lia
   let(ch,mk):=so.mem (bp hx');let(x,y,ew,wx,wy,nxy,hx3):=ch.w;let er:=so.rows;let lts:=rows_at hx' (by rw[er];show (so.can _).rise);let few:=b1t (n:=1) hx' (by rw[er];show so.two _);let nsn:=b1s (u:=u') (A:=B'.take i) ew lts;let tk:=take_snoc hx';let lkv:kv.length=us.length:=by let:=congrArg bn F.ks;o_head this
   let(key,b,e,w):=c;cases ew;rw[tk];show(_,rfl,?_);lk;show a5v F.at_ ?_;lk;show(lenK rfl,λt0 ht0=>?_);lk;show a4L (a0b F.at_ ht0) rfl ?_;let F4:=F.keep (Sm.new (o:=.lst []) ht0);let g0:put G3 t0 (.lst []) t0=bo (.lst []):=a0a;let nt0:∀k l,valZ kv (.inr k)=bo (.ref l)->l≠t0:=λk l h z=>by
    by_cases c:k∈us
    .let(l',_,a1,a2,_):=F.ln k c;rw[h]at a1;cases a1;rw[z,ht0]at a2;cases a2
    .rw[(F.no k c).1]at h;cases h
   generalize put G3 t0 (.lst [])=G4 at F4 g0 ⊢;obtain⟨x1,M,ex1,gx1,cM,pM,vM,zM0,zM1⟩:∃x1 M,(valZ kv (.inr key)).getD (.ref t0)=.ref x1/\G4 x1=bo (.lst (M.map Rw.z))/\Can M/\Plain M/\(∀t,val M t=optW (nowF u' (rowsOf (B'.take i)) key t))/\(rowsOf (B'.take i) key=[]->M.length<=N)/\M.length<=2*(N+1):=by
    by_cases c:key∈us
    .let(l,L,a1,a2,a3,a4,a5,a6,a7,_):=F4.ln key c;show(l,L,by rw[a1];rfl,a2,a3,a4,a5,a6,a7 few)
    .let(a1,a2,a3):=F4.no key c;show(t0,[],by rw[a1];rfl,g0,Can.nil,Plain.nil,λt=>by unfold nowF;rw[a3];change lR=optW (u' key t);rw[a2];rfl,λ_=>by simp,by simp)
   change uLst _ _ _ (λy_1 G2=>zAdd ((valZ kv (.inr key)).getD (.ref t0)) y_1 G2 _)
   rw[ex1];lk;show(lenK rfl,?_);lk;show(lenK rfl,λt1 ht1=>?_);let s5:Sm G4 (put G4 t1 (.lst [.tup [.int b,oz e,y]])):=Sm.new ht1;let g1:put G4 t1 (.lst [.tup [.int b,oz e,y]]) t1=bo (.lst [.tup [.int b,oz e,y]]):=a0a;generalize put G4 t1 (.lst [.tup [.int b,oz e,y]])=G5 at s5 g1 ⊢;lk;show a1I (s5 _ _ gx1) g1 (a0S (by rw[aN];change M.length+1<=1000;lia)) λt2 ht2=>?_;let s6:Sm G4 (put G5 t2 (.lst (M.map Rw.z++[.tup [.int b,oz e,y]]))):=s5.trans (Sm.new ht2);let g2:put G5 t2 (.lst (M.map Rw.z++[.tup [.int b,oz e,y]])) t2=bo (.lst ((M++[((b,e,[y]):Rw)]).map Rw.z)):=by rw[a0a,aV];rfl
   generalize put G5 t2 (.lst (M.map Rw.z++[.tup [.int b,oz e,y]]))=G6 at s6 g2 ⊢;lk;let pl2:Plain (M++[((b,e,[y]):Rw)]):=λr hr=>by
    let hr||hr:=aP.mp hr
    .show pM r hr
    .rw[aS.mp hr];show(y,rfl,WV.flat okw wy)
   show(t2,_,rfl,g2,pl2,by simp;lia,λt3 rows G7 ht3 s7 gt3 cR pR zR vR=>?_);let F7:=F4.keep (s6.trans s7);let nt3:t3≠W:=λz=>by let:=(F4.keep s6).at_;rw[<- z,ht3]at this;cases this
   let f3:B0 t3=lR:=by
    cases z:B0 t3 with
    |none=>rfl
    |some o=>rw[(F4.keep s6).sm _ _ nt3 z]at ht3;cases ht3
   lk;show a25 F7.at_ rfl (a0e (by lia)) ?_;let(us2,ku,nu,mu):=a9C F7.ks key (.ref t3) λk h=>(F7.no k h).1;let vkey:valZ (putZ kv (.inr key) (.ref t3)) (.inr key)=bo (.ref t3):=by rw[a0r,if_pos rfl]
   let vne:∀k,k≠key->valZ (putZ kv (.inr key) (.ref t3)) (.inr k)=valZ kv (.inr k):=λk n=>by rw[a0r,if_neg λz=>n (by injection z)]
   let rk:∀k,k≠key->rowsOf (B'.take i++[(key,(b,e,[x,y]))]) k=rowsOf (B'.take i) k:=λk n=>by rw[a0C,if_neg (Ne.symm n),bC]
   let rkk:rowsOf (B'.take i++[(key,(b,e,[x,y]))]) key=rowsOf (B'.take i) key++[(b,e,[x,y])]:=by rw[a0C,if_pos rfl]
   show(us2,_,_,_,_,_,_,(a0a,ku,nu F7.nd,λk hk=>?_,λk hk=>?_,λb o n h=>by rw[a0d n];show F7.sm b o n h,b4),?_,rfl)
   .by_cases n:k=key
    .subst n;show(t3,rows,vkey,by rw[a0d nt3];show gt3,cR,pR,λt=>?_,λz=>?_,λz=>?_,f3)
     .rw[vR,nsn,a5A,a4j cM.rise,vM,a5J]
      change optW (if ((b,e,[y]):Rw).has t=lS then y else _)=optW (if k=k/\((b,e,[x,y]):Rw).has t=lS then y else _)
      let hh:((b,e,[y]):Rw).has t=((b,e,[x,y]):Rw).has t:=rfl;rw[hh];simp
     .rw[rkk]at z;simp at z
     .rw[rkk,bg]at z;let e0:rowsOf (B'.take i) k=[]:=cC.mp (by simp at z;simp[z])
      let:=zM0 e0
      simp at zR
      lia
    .let(l,L,a1,a2,a3,a4,a5,a6,a7,a8):=F7.ln k (((mu k).mp hk).resolve_right n);show(l,L,by rw[vne k n];show a1,by rw[a0d λz=>by rw[z,F7.at_]at a2;cases a2];show a2,a3,a4,λt=>?_,by rw[rk k n];show a6,by rw[rk k n];show a7,a8);rw[a5,nsn,if_neg λz=>n z.1.symm]
   .let n:k≠key:=λz=>hk ((mu k).mpr (.inr z));let(a1,a2,a3):=F7.no k λz=>hk ((mu k).mpr (.inl z));show(by rw[vne k n];show a1,a2,by rw[rk k n];show a3)
   .let:us2.length<=us.length+1:=by
     let h1:=congrArg bn ku;let h2:(putZ kv (.inr key) (.ref t3)).length<=kv.length+1:=by unfold putZ;split<;>simp
     simp at h1
     lia
    lia
  .ext σ G3 ⟨us,kv,v1,v2,v3,v4,v5,F,lus,rfl⟩;rw[aN,bX]at F;rw[aN]at lus;let rw1:∀k t,nowF u' (rowsOf B') k t=nowF u' L' k t:=λk t=>by rw[so.rows]
   let lB:B'.length<=8:=by rw[so.eq];let:=a2x (ks:=ks) so.two;let:=so.len;lia
   let lkv:kv.length=us.length:=by let:=congrArg bn F.ks;o_head this
   let nWd:W≠d:=Ne.symm ndW;lk;show a8T (.inl F.at_) ?_;let k4:∀b o,b≠W->G3 b=bo o->put G3 W (.dF kv) b=bo o:=λb o n e=>by rw[a0d n];show e
   let gW4:put G3 W (.dF kv) W=bo (.dF kv):=a0a;generalize put G3 W (.dF kv)=G4 at k4 gW4 ⊢;ext D hD;let nWD:W≠D:=a0g gW4 hD;show a6U (λi ys G'=>Ex2 λ(rows:List (Key×Z)) (vs:List Str)=>An7 (ys=rows.map prZ) (vs.Sublist (us.take i)) (rows.map (·.1)=vs.map (λs=>(Sum.inr s:Key))) (∀k∈vs,∃l L,((Sum.inr k:Key),Z.ref l,)∈rows/\l≠D/\G' l=bo (.lst (L.map Rw.z))/\Can L/\Plain L/\L≠[]/\∀t,val L t=optW (nowF u' L' k t)) (∀k∈us.take i,k∉vs->∀t,nowF u' L' k t=.non) (Sm G4 G') (G' D=bo (.lst ys))) ([],[],rfl,fE _,rfl,(λk h=>by cases h),(λk h=>by simp at h),Sm.new hD,a0a) (λ_ _ _ _ _=>True.intro) ?_ ?_
   .ext i x ys G' hx ⟨rows,vs,rfl,hvs,hr,hln,hno,s,gD⟩;rw[aR]at hx;cases hx':kv[i]? with
    |none=>rw[hx']at hx;cases hx
    |some pk=>
    rw[hx']at hx;let hi:=(aT.mp hx').1;let(key,mkey,ek,vk):=a1U F.ks F.nd hx';let hv':us[i]?=bo key:=by
     let h1:(kv.map (·.1))[i]?=bo pk.1:=by rw[aR,hx'];rfl
     rw[F.ks,aR,ek]at h1;cases h2:us[i]? with
     |none=>rw[h2]at h1;cases h1
     |some s=>rw[h2]at h1;cases h1;rfl
    let hx:x=.str key:=by
     let:keyW pk.1=x:=bo.inj hx
     rw[<- this,ek];rfl
    subst hx;let(l,L,e1,gl,c1,p1,w1,_,_,fl):=F.ln key mkey;let nlW:l≠W:=λz=>by rw[z,F.at_]at gl;cases gl
    let gl4:=k4 _ _ nlW gl;let hrl:rows.length<=20:=by
     let h1:=congrArg bn hr;let h2:=hvs.length_le;rw[aN,aN]at h1;rw[bh]at h2
     lia
    show(_,rfl,?_);lk;show a2b (.inr (s _ _ gW4)) rfl e1 ?_;lk;show(lenK rfl,λe7 he7=>?_);let s7:Sm G' (put G' e7 (.lst [])):=Sm.new he7;lk;show a5l (s7 _ _ (s _ _ gl4)) a0a (a1y p1.okR) rfl ?_;generalize put G' e7 (.lst [])=G8 at s7 ⊢;lk
    by_cases c:L.map Rw.z=[]
    .let e0:L=[]:=dA.mp c;rw[decide_eq_true c];lk;show(rows,vs,rfl,by rw[take_snoc hv'];show hvs.trans (fF _ _),hr,λk hk=>?_,λk hk nk t=>?_,s.trans s7,s7 _ _ gD)
     .let(l',L2,m1,m2,m3,m4):=hln k hk;show(l',L2,m1,m2,s7 _ _ m3,m4)
     .rw[take_snoc hv']at hk;let hk||hk:=aP.mp hk
      .show hno k hk nk t
      .rw[aS.mp hk,<- rw1]
       let:=w1 t
       rw[e0]at this;show a2i this.symm
    .rw[decide_eq_false c];lk;show a2b (.inr (s7 _ _ (s _ _ gW4))) rfl e1 ?_;lk;let nlD:l≠D:=a0g gl4 hD;show(lenK rfl,s7 _ _ gD,by rw[aN];show a0e (by lia),rows++[(.inr key,.ref l,)],vs++[key],by rw[aV];rfl,by rw[take_snoc hv'];show hvs.append_right _,by rw[aV,hr,aV];rfl,λj hj=>?_,λk hk nk t=>?_,(s.trans s7).put hD,a0a)
     .let hj||hj:=aP.mp hj
      .let(l',L2,m1,m2,m3,m4):=hln j hj;show(l',L2,cP _ m1,m2,by rw[a0d m2];show s7 _ _ m3,m4)
      .rw[aS.mp hj];show(l,L,by simp,nlD,by rw[a0d nlD];show s7 _ _ (s _ _ gl4),c1,p1,λz=>c (by rw[z];rfl),λt=>by rw[w1,rw1])
     .rw[aP,not_or]at nk;rw[take_snoc hv']at hk;let hk||hk:=aP.mp hk
      .show hno k hk nk.1 t
      .show absurd hk nk.2
   .ext ys G5 ⟨rows,vs,rfl,hvs,hr,hln,hno,s,gD⟩;rw[aN,lkv,bX]at hvs hno;let ndv:=F.nd.sublist hvs;let hrl:rows.length<=20:=by
     let h1:=congrArg bn hr;let h2:=hvs.length_le;rw[aN,aN]at h1
     lia
    let nd2:(rows.map (·.1)).Nodup:=by rw[hr];show cq.mpr (ndv.imp λh z=>h (by injection z))
    lk;show a8Z gD (by lia) λV hV=>?_;rw[a42 nd2];let s2:=s.trans (Sm.new (o:=.dK rows) hV);let kB:∀b o,B0 b=bo o->put G5 V (.dK rows) b=bo o:=λb o e=>s2 _ _ (k4 _ _ (a0g e b4) (F.sm b o (a0g e b4) e));let fV:G V=lR:=b3 _ (by
     cases z:B0 V with
     |none=>rfl
     |some o=>let:=s _ _ (k4 _ _ (a0g z b4) (F.sm V o (a0g z b4) z));rw[hV]at this;cases this)
    show fin V vs rows _ fV (λb o n e=>kB b o (b1 b o n e)) (kB _ _ b2) (a0a,hr,ndv,λk hk=>?_,λk hk=>(?_,λt=>?_))
    .let(l,L,m1,m2,m3,m4):=hln k hk;show(l,L,a4h nd2 m1,a0b m3 hV,m4)
    .cases e:valZ rows (.inr k) with
     |none=>rfl
     |some z=>
      let:=bP (f:=(·.1)) (a3f e)
      rw[hr]at this;let(k2,h2,e2):=bf.mp this;cases e2;show absurd h2 hk
    .by_cases c:k∈us
     .show hno k c hk t
     .let(_,a2,a3):=F.no k c;rw[<- rw1];unfold nowF;rw[a3];show a2 t
def b1u{K:Fg}{C:Addr}:PySem.W.kitOne K (.ref C) (.ref C)=bo lS:=by
 unfold PySem.W.kitOne;rw[if_pos (by simp)]
def b6P{C:Addr}{i:Nat}{sp:PX3}{t:A3}{th:Addr->X3}{nx:S3->Hq->Prop}{rt:K3}{bk ct:S3->Hq->Prop}{σ:S3}{G:Hq}(h:t σ G λws G1=>sp ws G1 (λ_ G2=>nx σ G2) λC' G2=>C'=C/\∀e,th e (fun σ' G'=>nx (σ'.set i lR) G') rt (fun σ' G'=>bk (σ'.set i lR) G') (fun σ' G'=>ct (σ'.set i lR) G') (σ.set i (bo (.ref e))) G2):uTry C i sp t th nx rt bk ct σ G:=h
local macro_rules | `(tactic| walk_at "go1")=>`(tactic| with_reducible first | apply b1l | apply b3Z | apply b6P)
def a7k(a:Ad):P3:=λws G R=>Ex8 λ(d q:Addr) (B:List Cg) (ts:List Str) (kvs:List (Key×Z)) (u f g:FZ)=>ws=[.ref d,.ref q]/\TabN G d u ts kvs/\ts.length<=5/\LB u/\G q=bo (.lst (B.map Cg.z))/\CL f g B/\CB B/\FF u/\FF f/\FF g/\G a.tP=bo lamO/\(∃k t,f k t≠g k t/\u k t≠f k t)/\∀G',Sm G G'->R (.bl lS) G'
def a7l(T:Txt K mg base a):Cal P w K mg base CX0 6 "_law_refused" (lowP K (a7k a)):=by
 show fnc 2 (N:=["lines","some","right","other","e"]) T.br (T.f 24 _ rfl) ?_ (len:=λws G R h=>(by let(_,_,_,_,_,_,_,_,rfl,_):=h;rfl));walk_at "in";show(_,(a0c (by ac_rfl)
  (a0c (by ac_rfl)
  (a0c (z_t1 (i:=4) (a1a T) hr (q_k (qv 0) (q_k (qv 1) a0E)) T.x_TimesError T.xm_NoFit_TimesError nd rfl (λex oe hx1 hx2 hx3=>(a0c (z_st (nmI 2 nd) (a50 (q_B (b3i hx1 hx2 hx3 T.xk_NoFit) (T.b 6) (q_k (qv 4) (q_k (a19 (a00 rfl T.x_NoFit)) a0E))) (b0e (q_B (b3i hx1 hx2 hx3 T.xk_NoFit) (T.b 6) (q_k (qv 4) (q_k (q_ty (a1J (v:=.ty "ValueError") rfl (T.b 14) rfl rfl)) a0E))))))
  (a0L (z_st (nmI 3 nd) (q_B (b3i hx1 hx2 hx3 T.xk_NoFit) (T.b 6) (q_k (qv 4) (q_k (a73 (q_k (a19 (a00 rfl T.x_Broken)) (q_k (a19 (a00 rfl T.x_Forgotten)) (q_k (a19 (a00 rfl T.x_NoKnowing)) (q_k (a19 (a00 rfl T.x_NoLog)) (q_k (a19 (a00 rfl T.x_NoName)) (q_k (a19 (a00 rfl T.x_NoRow)) (q_k (a19 (a00 rfl T.x_NoSheet)) (q_k (a19 (a00 rfl T.x_NoStretch)) a0E))))))))) a0E))))))))
  (by ac_rfl)))),?_)
 let(d,q,B',ts,kvs,u',f',g',rfl,H,l1,lb,gq,cl,cb,fu,ff,fg,gT,bad,fin):=h;lk;show(d,q,B',ts,kvs,u',f',g',rfl,H,l1,lb,gq,cl,cb,fu,ff,fg,gT,λok=>?_,λ_ G1 s1=>(rfl,λex=>?_))
 .let(k,t,h1,h2):=bad;show absurd (ok k t h1) h2
 lk;show(_,lS,rfl,.inl (_,rfl,b1u),?_);lk;show(_,lS,rfl,.inr (.inl (_,rfl,T.kt_NoFit_ValueError)),?_);lk;show(lenK rfl,?_);show(_,lT,rfl,.inr (.inr ([a.x_Broken,a.x_Forgotten,a.x_NoKnowing,a.x_NoLog,a.x_NoName,a.x_NoRow,a.x_NoSheet,a.x_NoStretch],rfl,T.ka_NoFit_0)),?_);lk;show fin G1 s1
local macro_rules | `(tactic| walk_at "go1")=>`(tactic| with_reducible first | show i_iD ?_ | apply b1l | apply b3Z | apply a9t)
def TabN.unf{G:Hq}{W d:Addr}{u:FZ}{ts:List Str}{kv kvs:List (Key×Z)}(H:TabN G W u ts kv)(gd:G d=bo (.dF kvs)):TabN (put G d (.dK kvs)) W u ts kv:=by
 let k:∀b o,b≠d->G b=bo o->put G d (.dK kvs) b=bo o:=λb o n e=>by rw[a0d n];show e
 show(k _ _ (λz=>by let:=H.at_;rw[z,gd]at this;cases this) H.at_,H.ks,H.nd,λy hy=>?_,H.no);let(l,L,a,b,c):=H.ln y hy;show(l,L,a,k _ _ (λz=>by rw[z,gd]at b;cases b) b,c)
def TabN.sub{G G2:Hq}{d e:Addr}{f:FZ}{ts us:List Str}{kv kv2:List (Key×Z)}(H:TabN G d f ts kv)(K:TabN G2 e f us kv2):∀k,k∈ts->k∈us:=λk h=>Classical.byContradiction λc=>by
 let(l,L,_,_,a3,_,a5,a6):=H.ln k h;show a5 (a1x a3 Can.nil λt=>by rw[a6,(K.no k c).2 t];rfl)
def TabN.perm{G G2:Hq}{d e:Addr}{f:FZ}{ts us:List Str}{kv kv2:List (Key×Z)}(H:TabN G d f ts kv)(K:TabN G2 e f us kv2):ts.Perm us:=(fC H.nd K.nd).mpr λk=>(H.sub K k,K.sub H k)
def TabN.sameF{G:Hq}{d e:Addr}{f:FZ}{ts us:List Str}{kv kv2:List (Key×Z)}(H:TabN G d f ts kv)(K:TabN (put G e (.dK kv2)) e f us kv2)(ge:G e=bo (.dF kv2)):a87 (LEq G) G (.ref d) (.ref e):=by
 let el:=(H.perm K).length_eq;let l1:=congrArg bn H.ks;let l2:=congrArg bn K.ks;simp at l1 l2;show(d,e,kv,kv2,rfl,rfl,.inl H.at_,.inr ge,by lia,λi p hp=>?_);let(k,hk,e1,e2):=a1U H.ks H.nd hp;let(l,L,a1,a2,a3,a4,_,a6):=H.ln k hk;let(l',M,b1,b2,b3,b4,_,b6):=K.ln k (H.sub K k hk);rw[e2]at a1
 let:L=M:=a1x a3 b3 λt=>by rw[a6,b6]
 subst this;let ne:l'≠e:=λz=>by rw[z,a0a]at b2;cases b2
 rw[a0d ne]at b2;show(_,by rw[e1];show b1,l,l',_,bo.inj a1,rfl,a2,b2,a1y a4.okR)
def a47{L:List Rw}(h:Plain L):(L.map Rw.z).all (flat 1)=lS:=by
 rw[bL];ext x hx;let(r,hr,rfl):=bf.mp hx;let(x,e,f):=h r hr
 change ((Z.int r.b::oz r.e::r.w).all (flat 0))=lS
 rw[bG,bG,e,bG,a2K,a5C,f];rfl
def b1v(a:Ad):P3:=λws G R=>Ex11 λ(d q:Addr) (u:FZ) (ts kn wn ks:List Str) (kvs:List (Key×Z)) (B:List Cg) (L:Str->List Rw) (N:Nat)=>ws=[.ref d,.ref q]/\TabN G d u ts kvs/\ts.length<=5/\Wd u N/\N<=196/\G q=bo (.lst (B.map Cg.z))/\SomeOk u kn wn B ks L/\(∀s∈kn,nmOk s)/\(∀s∈wn,nmOk s)/\(∀k t,WV wn (u k t))/\(∀k t,nowF u L k t≠.non->k∈kn)/\kn.length=5/\G a.tP=bo lamO/\∀G',Sm G G'->R (.bl lS) G'
def b1w(T:Txt K mg base a):Cal P w K mg base CX0 6 "_law_right" (lowP K (b1v a)):=by
 show fnc 2 (N:=["lines","some","due","handed","rows","found","key"]) T.br (T.f 26 _ rfl) ?_ (len:=λws G R h=>(by let(_,_,_,_,_,_,_,_,_,_,_,rfl,_):=h;rfl));walk_at "in";show(_,(a0c (z_st (nmI 2 nd) (b0K (q_c (a9D T) hr (q_k (qv 0) (q_k (qv 1) a0E)) )))
  (a0c (z_st (nmI 3 nd) (b0K (q_c (a5O T) hr (q_k (qv 0) a0E) )))
  (a0c (by ac_rfl)
  (a0c (z_st (nmI 5 nd) (q_cX a26 up0 (a1a T) hr (q_k (qv 3) (q_k (qv 4) a0E)) ))
  (a0c (z_if (QW.qt (q_or (by ac_rfl) (q_or (a3u (o_ne hu) (q_B (a4Q rfl) (T.b 0) (q_k (qv 5) a0E)) (q_B (a4Q rfl) (T.b 0) (q_k (qv 2) a0E)) (a1V _)) (q_or (a3u (b14 hu) (qv 3) (qv 0) (a1V _)) (b0d (by ac_rfl))))))
  (by ac_rfl)
  a1Y)
  (a0c (a1g (pt:=(.nm 6)) iz.never rfl (a27 (qv 2)) (p_nm (nmI 6 nd))
  (a0c (z_if (a5Z (a7Z (q_c (a9p T) hr (q_k (q_ix a2a (qv 5) (qv 6) (λ_ _=>rfl)) (q_k (q_ix a2a (qv 2) (qv 6) (λ_ _=>rfl)) a0E)) )))
  (by ac_rfl)
  a1Y)
  (a0L (b1G (q_bm PySem.F.plainAttrs_list PySem.F.slot_list_append PySem.F.type_list_append a52 (q_ix a2a (qv 5) (qv 6) (λ_ _=>rfl)) (by ac_rfl))))))
  (a0c (a1u (by ac_rfl) (qv 5) b2C (a24 hu))
  (a0L (a4v (a50 (b0b (a88 hu) (qv 3) (qv 0) (a1V _)) (b0e (b0b (a88 hu) (q_cX a26 up0 (a1a T) hr (q_k (qv 3) (q_k (qv 4) a0E)) ) (qv 2) (a1V _))))))))))))),?_)
 let(d,q,u',ts,kn,wn,ks,kvs,B',L',N,rfl,H,lt,wd,hN,gq,so,okk,okw,wv,sk,lkn,gT,fin):=h;let ndq:q≠d:=λz=>by rw[z,H.at_]at gq;cases gq
 let ndT:a.tP≠d:=λz=>by rw[z,H.at_]at gT;cases gT
 let ff:FF u':=λk t=>WV.flat okw (wv k t);let fg:FF (nowF u' L'):=λk t=>WV.flat okw (a3d so wv k t);let cl:=so.cl okk;lk;show b0L H.at_ ?_;lk;show(d,q,u',ts,kn,wn,ks,kvs,B',L',N,rfl,H,lt,wd,hN,gq,so,okk,okw,λdu ds kvd G1 hdu k1 gd1 HD=>(gd1,?_));let ndu:du≠d:=λz=>by rw[z,H.at_]at hdu;cases hdu
 let s1:Sm G (put G1 d (.dK kvs)):=λb o e=>by
  by_cases c:b=d
  .subst c;rw[a0a,<- e];show H.at_.symm
  .rw[a0d c];show k1 b o c e
 replace HD:=HD.unf gd1
 let H2:=H.keep s1;generalize put G1 d (.dK kvs)=G2 at HD H2 s1 ⊢;lk;show b0L H2.at_ ?_;lk;show(d,u',ts,kvs,rfl,H2,lt,λh kvh G3 hh3 k3 gd3 HH own=>(gd3,?_));let s3:Sm G2 (put G3 d (.dK kvs)):=λb o e=>by
  by_cases c:b=d
  .subst c;rw[a0a,<- e];show H2.at_.symm
  .rw[a0d c];show k3 b o c e
 replace HH:=HH.unf gd3
 let H4:=H2.keep s3;let HD4:=HD.keep s3;let s04:=s1.trans s3;generalize put G3 d (.dK kvs)=G4 at HH H4 HD4 s3 s04 ⊢;lk;show a5m (s04 _ _ gq) λrw2 hrw=>?_;let s5:Sm G4 (put G4 rw2 (.lst (B'.map Cg.z))):=Sm.new hrw;let gr:put G4 rw2 (.lst (B'.map Cg.z)) rw2=bo (.lst (B'.map Cg.z)):=a0a;generalize put G4 rw2 (.lst (B'.map Cg.z))=G5 at s5 gr ⊢;let HH5:=HH.keep s5;let HD5:=HD4.keep s5;let H5:=H4.keep s5;let s05:=s04.trans s5;lk;show(h,rw2,B',ts,kvh,u',u',nowF u' L',rfl,HH5,lt,wd.lb (by lia),gr,cl,so.cb,ff,ff,fg,s05 _ _ gT,λ_ fo us kvf G6 hfo s6 HF ownF=>?_,λhb=>?_)
 .let eh:hh u' u' (nowF u' L')=nowF u' L':=by
   funext k t
   unfold hh
   split
   .next z=>show z
   .rfl
  rw[eh]at HF;let HD6:=HD5.keep s6;let HH6:=HH5.keep s6;let H6:=H5.keep s6;let s06:=s05.trans s6;let gq6:=s06 _ _ gq;let gr6:=s6 _ _ gr;let kk:∀{W:Addr}{us:List Str}{kv:List (Key×Z)},TabN G6 W (nowF u' L') us kv->∀k∈us,k∈kn:=λ{W us kv} T k hk=>by
   let(l,L,_,_,a3,_,a5,a6):=T.ln k hk;show Classical.byContradiction λz=>a5 (a1x a3 Can.nil λt=>?_);rw[a6,Classical.byContradiction λy=>z (sk k t y)]
   rfl
  let five2:∀{W:Addr}{us:List Str}{kv:List (Key×Z)},TabN G6 W (nowF u' L') us kv->us.length<=5:=λT=>by rw[<- lkn];show T.nd.length_le_of_subset (kk T)
  let lf:=five2 HF;let ld:=five2 HD6;lk;show a1c (n:="dict") (b:=lS) (by simp[tyN,HF.at_]) (by decide) ?_;lk;show a3F HF.at_ HF.ks (by lia) λsf fs hsf pf sof=>?_;let s7:Sm G6 (put G6 sf (.lst (fs.map Z.str))):=Sm.new hsf;let gsf:put G6 sf (.lst (fs.map Z.str)) sf=bo (.lst (fs.map Z.str)):=a0a;generalize put G6 sf (.lst (fs.map Z.str))=G7 at s7 gsf ⊢;lk;show a3F (s7 _ _ HD6.at_) HD6.ks (by lia) λsd dd hsd pd sod=>?_;let s8:Sm G6 (put G7 sd (.lst (dd.map Z.str))):=s7.trans (Sm.new hsd);let gsd:put G7 sd (.lst (dd.map Z.str)) sd=bo (.lst (dd.map Z.str)):=a0a;let gsf8:put G7 sd (.lst (dd.map Z.str)) sf=bo (.lst (fs.map Z.str)):=a0b gsf hsd;generalize put G7 sd (.lst (dd.map Z.str))=G8 at s8 gsd gsf8 ⊢;let efd:fs=dd:=a3c (b3N sof) (b3N sod) (pf.trans ((HF.perm HD6).trans pd.symm));subst efd;let fln:=a3H (ns:=fs) λs hs=>okk s (kk HF s (pf.mem_iff.mp hs));lk;show a5l gsf8 gsd fln fln ?_;rw[decide_eq_true rfl];lk;let HF8:=HF.keep s8;let HD8:=HD6.keep s8;let HH8:=HH6.keep s8;let H8:=H6.keep s8;show(HH8.same H8,?_);lk;let flc:=(cl.okC ff fg).fl8;show a5l (s8 _ _ gr6) (s8 _ _ gq6) flc flc ?_;rw[decide_eq_true rfl];lk;show a8T (.inl HD8.at_) ?_;let s58:=s6.trans s8;let k9:∀b o,b≠du->G8 b=bo o->put G8 du (.dF kvd) b=bo o:=λb o n e=>by rw[a0d n];show e
  let g9:put G8 du (.dF kvd) du=bo (.dF kvd):=a0a;generalize put G8 du (.dF kvd)=G9 at k9 g9 ⊢;let nfd:fo≠du:=λz=>by rw[z,HD5.at_]at hfo;cases hfo
  let lkd:kvd.length=ds.length:=by let:=congrArg bn HD.ks;o_head this
  show a0H (λi σ G'=>∃(v:Option Z),An3 (∀b o,(∀k,valZ kvf (.inr k)≠bo (.ref b))->G9 b=bo o->G' b=bo o) (∀k l,k∉ds.take i->valZ kvf (.inr k)=bo (.ref l)->G' l=G9 l) (σ=[bo (.ref d),bo (.ref q),bo (.ref du),bo (.ref h),bo (.ref rw2),bo (.ref fo),v]))
   (_,λ_ _ _ e=>e,λ_ _ _ _=>rfl,rfl) (λ_ _ _ _ _=>True.intro) ?_ ?_
  .ext i x σ G10 hx ⟨v,kp,un,rfl⟩;rw[aR]at hx;cases hx':kvd[i]? with
   |none=>rw[hx']at hx;cases hx
   |some pk=>
   rw[hx']at hx;let(key,mkey,ek,vk):=a1U HD.ks HD.nd hx';let hv':ds[i]?=bo key:=by
    let h1:(kvd.map (·.1))[i]?=bo pk.1:=by rw[aR,hx'];rfl
    rw[HD.ks,aR,ek]at h1;cases h2:ds[i]? with
    |none=>rw[h2]at h1;cases h1
    |some s=>rw[h2]at h1;cases h1;rfl
   let hx:x=.str key:=by
    let:keyW pk.1=x:=bo.inj hx
    rw[<- this,ek];rfl
   subst hx;let nkey:key∉ds.take i:=λz=>by
    let(j,hj,e):=b8.mp z;rw[bh]at hj;rw[dS]at e;let(h2,e2):=aT.mp hv';show bR.mp HD.nd j i (by lia) h2 (by lia) (e.trans e2.symm)
   let(l,L,e1,gl,c1,p1,_,w1):=HF8.ln key (HD8.sub HF8 key mkey);let(m,M,f1,gm,c2,p2,_,w2):=HD5.ln key mkey;let eLM:L=M:=a1x c1 c2 λt=>by rw[w1,w2]
   subst eLM;let old:∀b o,b≠du->G5 b=bo o->G10 b=bo o:=λb o n e=>kp b o (λk z=>by rw[(ownF.new k b z).1]at e;cases e) (k9 _ _ n (s58 _ _ e));let gdu:G10 du=bo (.dF kvd):=kp _ _ (λk z=>by let:=(ownF.new k du z).1;rw[HD5.at_]at this;cases this) g9;let gfo:G10 fo=bo (.dK kvf):=kp _ _ (λk z=>(ownF.new k fo z).2 rfl) (k9 _ _ nfd HF8.at_);let nld:l≠du:=λz=>by rw[z,HD8.at_]at gl;cases gl
   let nmd:m≠du:=λz=>by rw[z,HD5.at_]at gm;cases gm
   let gl10:G10 l=bo (.lst (L.map Rw.z)):=by rw[un key l nkey e1];show k9 _ _ nld gl
   show(_,rfl,?_);lk;show a2b (.inl gfo) rfl e1 ?_;lk;show a2b (.inr gdu) rfl f1 ?_;lk;show(_,_,rfl,.inr (l,m,_,_,rfl,rfl,by decide,gl10,old _ _ nmd gm,a47 p1,a47 p1,?_));rw[decide_eq_true rfl];lk;show a2b (.inl gfo) rfl e1 ?_;lk;show a04 gl10 ?_;lk;show(lenK rfl,?_);lk;let lL:L.length<=200:=(a9z so wd).lb (by lia) key L c1 w1;show a0u gl10 (by rw[aN];show a0e (by lia)) (_,λb o n e=>?_,λk l2 hk e=>?_,rfl)
   .rw[a0d λz=>n key (by rw[z];show e1)];show kp b o n e
   .rw[take_snoc hv',aP,not_or]at hk;let nl:l2≠l:=λz=>hk.2 (by rw[ownF.one k key l (by rw[<- z];show e) e1];simp);rw[a0d nl];show un k l2 hk.1 e
  .ext σ G10 ⟨v,kp,un,rfl⟩;let old:∀b o,b≠du->G5 b=bo o->G10 b=bo o:=λb o n e=>kp b o (λk z=>by rw[(ownF.new k b z).1]at e;cases e) (k9 _ _ n (s58 _ _ e));let gdu:G10 du=bo (.dF kvd):=kp _ _ (λk z=>by let:=(ownF.new k du z).1;rw[HD5.at_]at this;cases this) g9;let gfo:G10 fo=bo (.dK kvf):=kp _ _ (λk z=>(ownF.new k fo z).2 rfl) (k9 _ _ nfd HF8.at_);let lkf:kvf.length=us.length:=by let:=congrArg bn HF.ks;o_head this
   lk;show(lenK rfl,λtx htx=>?_);lk;show a25 (a0b gfo htx) rfl (a0e (by lia)) ?_;let kf:∀b o,b≠fo->G10 b=bo o->put (put G10 tx (.lst [])) fo (.dK (putZ kvf (.inr (Str.ofString "x")) (.ref tx))) b=bo o:=λb o n e=>by rw[a0d n];show a0b e htx
   generalize put (put G10 tx (.lst [])) fo (.dK (putZ kvf (.inr (Str.ofString "x")) (.ref tx)))=G11 at kf ⊢;let old2:∀b o,b≠du->G5 b=bo o->G11 b=bo o:=λb o n e=>kf b o (a0g e hfo) (old b o n e);let gdu2:=kf _ _ (Ne.symm nfd) gdu;let keepT:∀{W:Addr}{f:FZ}{vs:List Str}{kv:List (Key×Z)},W≠du->TabN G5 W f vs kv->TabN G11 W f vs kv:=λ{W f vs kv} n T=>(old2 _ _ n T.at_,T.ks,T.nd,λk hk=>let (l,L,a,b,c):=T.ln k hk;(l,L,a,old2 _ _ (λz=>by rw[z,HD5.at_]at b;cases b) b,c),T.no);let nhd:h≠du:=λz=>by let:=HD.at_;rw[<- z,hh3]at this;cases this
   let HH11:=keepT nhd HH5;let H11:=keepT (λz=>ndu z.symm) H5;lk;show(HH11.same H11,?_);lk;let nrd:rw2≠du:=λz=>by rw[z,HD5.at_]at gr;cases gr
   let nTd:a.tP≠du:=λz=>by rw[z,hdu]at gT;cases gT
   show(h,rw2,B',ts,kvh,u',u',nowF u' L',rfl,HH11,lt,wd.lb (by lia),old2 _ _ nrd gr,cl,so.cb,ff,ff,fg,old2 _ _ nTd (s05 _ _ gT),λ_ fo2 us2 kvf2 G12 hfo2 s12 HF2 _=>?_,λhb=>?_)
   .rw[eh]at HF2;let ge:=s12 _ _ gdu2;let HDf:TabN (put G12 du (.dK kvd)) du (nowF u' L') ds kvd:=HD5.keep λb o e=>by
     by_cases c:b=du
     .subst c;rw[a0a,<- e];show HD5.at_.symm
     .rw[a0d c];show s12 _ _ (old2 b o c e)
    lk;show(HF2.sameF HDf ge,?_);show fin G12 λb o e=>s12 _ _ (old2 b o (λz=>by rw[z,hdu]at e;cases e) (s05 _ _ e))
   .let(k,t,h1,h2):=hb;show absurd rfl h2
 .let(k,t,h1,h2):=hb;show absurd rfl h2
def Cg.z_inj{c d:Cg}(h:c.z=d.z):c=d:=by
 let(k,b,e,w):=c;let(k',b',e',w'):=d;simp only[Cg.z,Z.tup.injEq,bJ.injEq,Z.int.injEq,Z.str.injEq]at h;let(rfl,rfl,h2,rfl):=h;rw[b15 h2]
structure BadOk (wn:List Str) (v:Int->Z) (r:Rw):Prop where
 g:r.good
 w:∃x y,r.w=[x,y]/\WV wn x/\WV wn y/\x≠y/\∃t,r.has t=lS/\v t≠x
noncomputable def spo(c:Cg)(r:Rw)(o:Cg):Option Cg:=if o.z=c.z then bo (c.k,r) else if o.k≠c.k then bo o else lR
theorem a6H{c:Cg}{r:Rw}:∀{l:List Rw},l.Nodup->c.r∈l->(l.map (Cg.mk c.k)).filterMap (spo c r)=[(c.k,r)]
 |[],_,h=>by cases h
 |x::l,nd,h=>by
  let(n1,n2):=bV.mp nd;rw[aZ,bY]
  by_cases e:x=c.r
  .subst e;let e1:spo c r (c.k,c.r)=bo (c.k,r):=if_pos rfl;rw[e1];let e2:(l.map (Cg.mk c.k)).filterMap (spo c r)=[]:=by
    rw[List.filterMap_eq_nil_iff];ext o ho;let(s,hs,rfl):=bf.mp ho;unfold spo;rw[if_neg λz=>n1 (by let:=Cg.z_inj z;rw[<- this];show hs),if_neg (by simp)]
   rw[e2]
  .let e1:spo c r (c.k,x)=lR:=by
    unfold spo;rw[if_neg λz=>e (by let:=Cg.z_inj z;rw[<- this]),if_neg (by simp)]
   rw[e1];show a6H n2 ((aO.mp h).resolve_left λz=>e z.symm)
theorem a9E{c:Cg}{r:Rw}{L:Str->List Rw}(nd:(L c.k).Nodup)(hc:c.r∈L c.k):∀{ks:List Str},(cgs ks L).filterMap (spo c r)=cgs ks λk=>if k=c.k then [r] else L k
 |[]=>rfl
 |k::ks=>by
  let ih:=a9E (r:=r) nd hc (ks:=ks);unfold cgs at ih ⊢;rw[cG,cG,eO,ih]
  congr 1
  by_cases e:k=c.k
  .subst e;rw[a6H nd hc];simp
  .dsimp only;rw[if_neg e,eJ]
   let:∀l:List Rw,l.filterMap (spo c r∘Cg.mk k)=l.map (Cg.mk k):=λl=>by
    induction l with
    |nil=>rfl
    |cons x l ih=>
     rw[bY,aZ,ih]
     let:(spo c r∘Cg.mk k) x=bo (k,x):=by
      change spo c r (k,x)=_
      unfold spo;rw[if_neg λz=>e (by let:=Cg.z_inj z;rw[<- this]),if_pos e]
     rw[this]
   show this _
def a9F{l:List Rw}(c:Can l):l.Nodup:=cu.imp_of_mem (λ{a b} ha _ q z=>by
 subst z
 let:=q.lt.b (c.1 a ha)
 lia) c.2
def b6Q{u:FZ}{kn wn ks:List Str}{B:List Cg}{L:Str->List Rw}{c:Cg}{r:Rw}(so:SomeOk u kn wn B ks L)(okk:∀s∈kn,nmOk s)(okw:∀s∈wn,nmOk s)(wv:∀k t,WV wn (u k t))(hc:c∈B)(b:BadOk wn (u c.k) r) :
  ∃f g:FZ,CL f g (B.filterMap (spo c r))/\CB (B.filterMap (spo c r))/\FF f/\FF g/\∃k t,f k t≠g k t/\u k t≠f k t:=by
 let(x,y,ew,wx,wy,nxy,t0,ht0,hu):=b.w;let hcr:c.r∈L c.k:=by rw[<- so.rows];show bf.mpr (c,cA.mpr (hc,by simp),rfl)
 let eB:B.filterMap (spo c r)=cgs ks λk=>if k=c.k then [r] else L k:=by rw[so.eq];show a9E (a9F (so.can _)) hcr
 let mk:=(so.mem hc).2;let two:∀k,(if k=c.k then [r] else L k).length<=2:=λk=>by
  split
  .simp
  .show so.two k
 let fx:=WV.flat okw wx;let fy:=WV.flat okw wy;show(λk t=>if k=c.k then (if r.has t=lS then x else .non) else u k t,λk t=>if k=c.k then (if r.has t=lS then y else .non) else nowF u L k t,(ks,_,eB,so.so,so.nd,λk hk=>?_,λk hk=>okk k (so.sub k hk),λk=>?_),((ks,so.len,λo ho=>?_),λk=>?_,?_),λk t=>?_,λk t=>?_,c.k,t0,?_,?_)
 .change (if k=c.k then [r] else L k)=[]
  rw[if_neg λz:k=c.k=>hk (by rw[z];show mk)];show so.no k hk
 .by_cases e:k=c.k
  .rw[if_pos e];show((λs hs=>by rw[aS.mp hs];show b.g,by simp),λt=>?_);rw[if_pos e,if_pos e,a0j,a05]
   by_cases h:r.has t=lS
   .rw[if_pos h,if_pos h,if_pos h,ew];unfold dif;rw[if_neg nxy]
   .rw[if_neg h,if_neg h,if_neg h]
    rfl
  .rw[if_neg e];show(so.can k,λt=>?_);rw[if_neg e,if_neg e];show a6G so k t
 .rw[eB]at ho;let(k,hk,h2):=cy.mp ho;let(r,_,rfl):=bf.mp h2;show hk
 .rw[eB,a2L so.nd]
  let:=two k
  split
  .lia
  .simp
 .rw[eB]
  let:=a2x (ks:=ks) two
  let:=so.len
  lia
 .dsimp only
  split
  .split
   .show fx
   .rfl
  .show WV.flat okw (wv k t)
 .dsimp only
  split
  .split
   .show fy
   .rfl
  .show WV.flat okw (a3d so wv k t)
 .dsimp only;rw[if_pos rfl,if_pos rfl,if_pos ht0,if_pos ht0];show nxy
 .dsimp only;rw[if_pos rfl,if_pos ht0];show hu
def b1x{wn:List Str}{u:Int->Z}{l:Int}{P:List Rw}(ok:PcOk u l P){k:Nat}(h:k+2<P.length){x y:Z}(ex:(P[k]'(by lia)).w=[x])(hx:WV wn x)(hy:WV wn y)(n:x≠y):BadOk wn u ((P[k]'(by lia)).b,P[k+2].e,[x,y]):=by
 let pw:=bR.mp ok.can.2;let cn:=λj (hj:j<P.length)=>ok.can.1 P[j] (bN hj);let(e1,a1,a2,a3):=pw k (k+1) (by lia) (by lia) (by lia);let(e2,b1,b2,_):=pw (k+1) (k+2) (by lia) h (by lia);let c:=ok.ch k _ _ (aU (by lia)) (aU (by lia));let(_,_,x1,ex1,hx1):=ok.w (P[k+1]'(by lia)) (bN _);let g0:=a2w (cn k (by lia)) a1;let g1:=a2w (cn (k+1) (by lia)) b1;rw[a1]at c;let c:=bo.inj c;let hh:∀e,P[k+2].e=bo e->(P[k+1]'(by lia)).b<e:=λe he=>by let:=a2w (cn (k+2) h) he;lia
 show(?_,x,y,rfl,hx,hy,n,(P[k+1]'(by lia)).b,has_iff.mpr (by change (P[k]'(by lia)).b<=_;lia,hh),λz=>a3 c ?_)
 .change bef (P[k]'(by lia)).b P[k+2].e=lS
  cases e:P[k+2].e with
  |none=>rfl
  |some e3=>let:=hh e3 e;simp[bef];lia
 .rw[ex,ex1,<- hx1 _ (a1H (cn (k+1) (by lia))),z]
def a9G{wn:List Str}{x:Z}{ok:Hq->Prop}{j:Nat}{σ:S3}{R:K3}{D:Addr}{G1:Hq}(lw:wn.length=4)(ndw:wn.Nodup)(okw:∀s∈wn,nmOk s)(wx:WV wn x)(hσ:(σ[j]?).join=bo x)(hok:∀ys,ok (put G1 D (.lst ys)))
  (fin:∀os:List Z,os.length=4->(∀y∈os,WV wn y/\x≠y)->R (.ref D) (put G1 D (.lst os))):LCB (wn.map Z.str++[Z.non]) ok [lR,bo j] (.nm 0) (a6R (uOp (zEq not) (uVar 0) (uVar 1))) (uVar 0) σ R D G1:=by
 let fl:∀y∈wn.map Z.str++[Z.non],flat 8 y=lS:=λy hy=>a0m (by decide) (WV.flat okw hy);let ec:cap3 [lR,bo j] σ=[lR,bo x]:=by
  change [lR,(σ[j]?).join]=_
  rw[hσ]
 show a5j (λy=>if y=x then lR else bo y) hok (by rw[bg,aN,lw];decide) (λy hy ys K1 K2 h1 h2=>([bo y,bo x],by rw[ec];rfl,?_)) ?_
 .lk;show a0W (fl y hy) (fl x wx) ?_;lk
  by_cases c:y=x
  .rw[decide_eq_true c];lk;show h2 (if_pos c)
  .rw[decide_eq_false c];lk;show h1 y (if_neg c)
 let e5:(wn.map Z.str++[Z.non]).filterMap (λy=>if y=x then lR else bo y)=(wn.map Z.str++[Z.non]).filter λy=>decide (y≠x):=by
  rw[<- fH]
  congr 1
  funext y
  by_cases c:y=x<;>simp[fI,c]
 rw[e5];show fin _ (a3e lw ndw wx) λy hy=>?_;let(h1,h2):=cA.mp hy;show(h1,λz=>(of_decide_eq_true h2) z.symm)
def a9H:P3:=λws G R=>Ex13 λ(r d q wp:Addr) (u:FZ) (ts kn wn ks:List Str) (kvs:List (Key×Z)) (B:List Cg) (L:Str->List Rw) (N:Nat)=>ws=[.ref r,.ref d,.ref q,.ref wp]/\RowAt G r/\TabN G d u ts kvs/\Wd u N/\N<=196/\G q=bo (.lst (B.map Cg.z))/\q≠r/\SomeOk u kn wn B ks L/\B≠[]/\G wp=bo (.lst (wn.map Z.str))/\wn.length=4/\wn.Nodup/\(∀s∈kn,nmOk s)/\(∀s∈wn,nmOk s)/\(∀k t,WV wn (u k t)) /\
 ∀(t:Addr)(B2:List Cg)(f g:FZ)(G':Hq),G t=lR->RowAt G' r->Kq r G G'->G' t=bo (.lst (B2.map Cg.z))->CL f g B2->CB B2->FF f->FF g->(∃k t,f k t≠g k t/\u k t≠f k t)->R (.ref t) G'
def a9I(T:Txt K mg base a):Cal P w K mg base CX0 2 "_law_spoilt" (lowP K a9H):=by
 show fnc 4 (N:=["row","lines","some","worths","spoilt","key","begin","end","then","now","other","line","way","bad","pieces","amid","k","others"]) T.br (T.f 23 _ rfl) ?_ (len:=λws G R h=>(by let(_,_,_,_,_,_,_,_,_,_,_,_,_,rfl,_):=h;rfl));walk_at "in";show(_,(a0c (by ac_rfl)
  (a0c (by ac_rfl)
  (a0c (z_st (nmI 10 nd) (q_ix x_ix (q_l ["worth","then"] [lR,bo 8] (.nm 0)) (by ac_rfl) (λ_ _=>rfl)))
  (a0c (by ac_rfl)
  (a0c (by ac_rfl)
  (a0c (z_st (nmI 13 nd) (a73 (q_k (qv 5) (q_k (qv 6) (q_k (qv 7) (q_k (qv 10) (q_k (q_ix x_ix (by ac_rfl) (q_Y b1W (T.b 10) (by ac_rfl)) (λ_ _=>rfl)) a0E)))))))
  (a2T (by ac_rfl)
  (a2T (by ac_rfl)
  (a0c (by ac_rfl)
  (a0c (z_l (nmI 15 nd) ["k","pieces"] [lR,bo 14] (.nm 0))
  (a2T (z_if (by ac_rfl)
  (a0c (by ac_rfl)
  (a0c (z_l (nmI 17 nd) ["worth","pieces","k"] [lR,bo 14,bo 16] (.nm 0))
  (by ac_rfl)))
  a1Y)
  (a0L (a4v (q_l ["one","bad","spoilt","key"] [lR,bo 13,bo 4,bo 5] (.nm 0) (he:=λ_ _ _ _=>(q_ix x_ix (by ac_rfl) (q_Y b1W (T.b 10) (by ac_rfl)) (λ_ _=>rfl))))))))))))))))),?_)
 let(r,d,q,wp,u',ts,kn,wn,ks,kvs,B',L',N,rfl,R0,H,wd,hN,gq,nqr,so,bne,gw,lw,ndw,okk,okw,wv,fin):=h;let lB:B'.length<=8:=by rw[so.eq];let:=a2x (ks:=ks) so.two;let:=so.len;lia
 let lB0:0<B'.length:=cw.mpr bne;let nrw:wp≠r:=λz=>by let(_,_,e,_):=R0;rw[<- z,gw]at e;let:=congrArg (λo=>match o with |some (.lst l)=>l.length |_=>0) e;simp[lw]at this
 lk;show a2B gq ?_;rw[aN];lk;show a0B R0 (by lia) (by lia) λsi y w f0 f1 ok1=>?_;let q1:Kq r G (put G r (RowO y w)):=Kq.at
 let R1:RowAt (put G r (RowO y w)) r:=RowAt.at ok1;generalize put G r (RowO y w)=G1 at q1 R1 ⊢;let(sj,rfl):=cF f0;let hsj:sj<B'.length:=by lia
 let mc:=bN hsj;let ec:atI (B'.map Cg.z) (sj:Int)=bo (B'[sj]).z:=a0F (by rw[aR,aU hsj];rfl);generalize B'[sj]=c at mc ec;lk;show a0y (q1 _ _ gq nqr) ec ?_;let(ch,mk):=so.mem mc;let(x,y,ew,wx,wy,nxy,hx3):=ch.w;let(key,b,e,w):=c;cases ew;lk;show(lenK rfl,λa1 ha1=>?_);let s2:Sm G1 (put G1 a1 (.lst [.non])):=Sm.new ha1;let ga1:put G1 a1 (.lst [.non]) a1=bo (.lst [.non]):=a0a;generalize put G1 a1 (.lst [.non])=G2 at s2 ga1 ⊢;show a1I (s2 _ _ (q1 _ _ gw nrw)) ga1 (a0S (by rw[aN,lw];decide)) λa2 ha2=>?_;let s3:Sm G1 (put G2 a2 (.lst (wn.map Z.str++[.non]))):=s2.trans (Sm.new ha2);let ga2:put G2 a2 (.lst (wn.map Z.str++[.non])) a2=bo (.lst (wn.map Z.str++[.non])):=a0a;generalize put G2 a2 (.lst (wn.map Z.str++[.non]))=G3 at s3 ga2 ⊢;lk;show a1i ga2 ?_;ext D hD;show a9G lw ndw okw wx rfl (λys=>a0b ga2 hD) λos l4 m4=>?_;let s4:Sm G1 (put G3 D (.lst os)):=s3.trans (Sm.new hD);let gD:put G3 D (.lst os) D=bo (.lst os):=a0a;generalize put G3 D (.lst os)=G4 at s4 gD ⊢;let R4:RowAt G4 r:=let (x,w,e,o):=R1;(x,w,s4 _ _ e,o)
 let nDr:D≠r:=λz=>by let(_,_,e,_):=R4;rw[<- z,gD]at e;let:=congrArg (λo=>match o with |some (.lst l)=>l.length |_=>0) e;simp[l4]at this
 lk;show a0B R4 (by decide) (by decide) λk4 y4 w4 c0 c1 ok5=>?_;let q5:Kq r G (put G4 r (RowO y4 w4)):=λb o e n=>by rw[a0d n];show s4 _ _ (q1 _ _ e n)
 let R5:RowAt (put G4 r (RowO y4 w4)) r:=RowAt.at ok5;let gD:put G4 r (RowO y4 w4) D=bo (.lst os):=by rw[a0d nDr];show gD
 generalize put G4 r (RowO y4 w4)=G5 at q5 R5 gD ⊢;let(ot,eo,mo):=a3J (xs:=os) c0 (by rw[l4];show c1);let(wo,nxo):=m4 ot mo;lk;show a0y gD eo ?_;let H5:=H.kq R0 q5;lk;show a5v H5.at_ ?_;lk;show(lenK rfl,λt0 ht0=>?_);lk;let(x1,L1,e1,gx1,cL1,pL1,vL1):=H5.get (Sm.new (o:=.lst []) ht0) a0a key;show a4L (a0b H5.at_ ht0) rfl ?_;let q6:Kq r G (put G5 t0 (.lst [])):=λb o e n=>a0b (q5 b o e n) ht0;let R6:=R5.new (o:=.lst []) ht0;generalize put G5 t0 (.lst [])=G6 at gx1 q6 R6 ⊢
 change ∃σ',a2U (.nm 11) ((valZ kvs (.inr key)).getD (.ref t0)) _=bo σ'/\_
 rw[e1];lk;show a0B R6 (by decide) (by decide) λway y7 w7 d0 d1 ok7=>?_;let nxr:x1≠r:=λz=>by let(_,_,e,_):=R6;rw[<- z,gx1]at e;cases L1 with |nil=>simp at e |cons m L1=>simp[RowO,Rw.z]at e
 let q7:Kq r G (put G6 r (RowO y7 w7)):=q6.trans Kq.at
 let R7:RowAt (put G6 r (RowO y7 w7)) r:=RowAt.at ok7;let gx7:put G6 r (RowO y7 w7) x1=bo (.lst (L1.map Rw.z)):=by rw[a0d nxr];show gx1
 generalize put G6 r (RowO y7 w7)=G7 at q7 R7 gx7 ⊢;lk;show(lenK rfl,λa3 ha3=>?_);let s8:Sm G7 (put G7 a3 (.lst [y,x])):=Sm.new ha3;let ga3:put G7 a3 (.lst [y,x]) a3=bo (.lst [y,x]):=a0a;generalize put G7 a3 (.lst [y,x])=G8 at s8 ga3 ⊢;let q8:Kq r G G8:=λb o e n=>s8 _ _ (q7 _ _ e n);let R8:RowAt G8 r:=let (x,w,e,o):=R7;(x,w,s8 _ _ e,o)
 let gx8:=s8 _ _ gx7;let fx:flat 8 x=lS:=a0m (by decide) (WV.flat okw wx);let fy:flat 8 y=lS:=a0m (by decide) (WV.flat okw wy);let fo:flat 8 ot=lS:=a0m (by decide) (WV.flat okw wo);let hb:((b,e,[x,y]):Rw).has b=lS:=has_iff.mpr (bM _,λz h=>(ch.st.2.2 z h).1);let good:bef b e=lS:=ch.st.bef;obtain⟨y2,iy,wy2,ny2⟩:∃y2,atI [y,x] (if y=ot then 1 else 0)=bo y2/\WV wn y2/\ot≠y2:=by
  by_cases c:y=ot
  .rw[if_pos c];show(x,rfl,wx,Ne.symm nxo)
  .rw[if_neg c];show(y,rfl,wy,Ne.symm c)
 lk;show a0W fy fo ?_;lk;show a8R ?_;let ei:(if id (decide (y=ot))=lS then (1:Int) else 0)=if y=ot then 1 else 0:=by by_cases c:y=ot<;>simp[c]
 rw[ei];show a0y ga3 iy ?_;lk;show(lenK rfl,?_);let B0:BadOk wn (u' key) (b,e,[ot,y2]):=(good,ot,y2,rfl,wo,wy2,ny2,b,hb,by rw[hx3 b hb];show nxo);let lv1:∀t,lastAt L1 t=u' key t:=λt=>by rw[a4j cL1.rise,vL1,a5J]
 lk;show a2X (fun σ' G'=>Ex5 λ(m:Rw) (v1 v2 v3 v4:Option Z)=>An3 (G'=G8) (BadOk wn (u' key) m) (σ'=[bo (.ref r),bo (.ref d),bo (.ref q),bo (.ref wp),bo (Cg.z (key,(b,e,[x,y]))),bo (.str key),bo (.int b),bo (oz e),bo x,bo y,bo ot,bo (.ref x1),bo (.int way),bo (Cg.z (key,m)),v1,v2,v3,v4])) ?_ ?_
 .lk;show ifD (λc=>?_) λc=>?_
  .lk;show ifD (λc2=>?_) λc2=>?_
   .lk;show(x1,L1,b-1,rfl,gx8,pL1.one,?_);rw[lv1];lk;show a0W (a0m (by decide) (WV.flat okw (wv _ _))) fx ?_;lk;show ifN (λc3=>?_) λc3=>?_
    .lk;show(lenK rfl,?_);lk;let hb1:((b-1,e,[x,y]):Rw).has (b-1)=lS:=has_iff.mpr (bM _,λz h=>by let:=(ch.st.2.2 z h).1;let h1:b<z:=this;lia);show((b-1,e,[x,y]),_,_,_,_,rfl,(by let:=(has_iff.mp hb1).2;unfold Rw.good;cases e with |none=>rfl |some z=>simpa[bef]using this z rfl,x,y,rfl,wx,wy,nxy,b-1,hb1,c3),rfl)
    .lk;show(_,_,_,_,_,rfl,B0,rfl)
   .lk;show(_,_,_,_,_,rfl,B0,rfl)
  .lk;show(_,_,_,_,_,rfl,B0,rfl)
 .ext σ' G9 ⟨m1,v1,v2,v3,v4,rfl,B1,rfl⟩;lk;show a2X (fun σ' G'=>Ex5 λ(m:Rw) (v1 v2 v3 v4:Option Z)=>An3 (G'=G9) (BadOk wn (u' key) m) (σ'=[bo (.ref r),bo (.ref d),bo (.ref q),bo (.ref wp),bo (Cg.z (key,(b,e,[x,y]))),bo (.str key),bo (.int b),bo (oz e),bo x,bo y,bo ot,bo (.ref x1),bo (.int way),bo (Cg.z (key,m)),v1,v2,v3,v4])) ?_ ?_
  .lk;show ifD (λc=>?_) λc=>?_
   .lk;cases e with
    |none=>
     lk;show(_,_,_,_,_,rfl,B1,rfl)
    |some z=>
     lk;show i_I (by decide,by decide,by decide) ?_;rw[a5F]
     change zC _ _ (.int z) _ _ _
     lk;show ifD (λc2=>?_) λc2=>?_
     .lk;show(x1,L1,z,rfl,gx8,pL1.one,?_);rw[lv1];lk;show a0W (a0m (by decide) (WV.flat okw (wv _ _))) fx ?_;lk;show ifN (λc3=>?_) λc3=>?_
      .lk;show(lenK rfl,?_);lk;let bz:b<z:=(ch.st.2.2 z rfl).1;let hz:((b,bo (z+1),[x,y]):Rw).has z=lS:=has_iff.mpr (by change b<=z;lia,λq h=>by cases h;lia);show((b,bo (z+1),[x,y]),_,_,_,_,rfl,(by change bef b (bo (z+1))=lS;simp[bef];lia,x,y,rfl,wx,wy,nxy,z,hz,c3),rfl)
      .lk;show(_,_,_,_,_,rfl,B1,rfl)
     .lk;show(_,_,_,_,_,rfl,B1,rfl)
   .lk;show(_,_,_,_,_,rfl,B1,rfl)
  .ext σ' G10 ⟨m2,v1,v2,v3,v4,rfl,B2,rfl⟩;lk;let(st1,ln1):=wd.line cL1 vL1;show(x1,L1,rfl,gx8,cL1,pL1,st1,by lia,λpp G11 hpp s11 gpp=>?_);let(pok,_,pln):=a9v (u:=u' key) (l:=0) cL1 st1 (bM _) (by decide) (λm hm=>(st1 m hm).1) λt _=>vL1 t;generalize pcF (bo 0) L1=P at gpp pok pln;lk;show a2B gpp ?_;rw[aN];lk;show(by lia,by lia,λD2 hD2=>?_);let npD:pp≠D2:=a0g gpp hD2;let row:∀(j:Nat)(hj:j<P.length),∃x,P[j].w=[x]/\flat 8 x=lS/\WV wn x:=λj hj=>by
    let(_,_,x,ex,hx):=pok.w _ (bN hj);let wx:WV wn x:=by rw[<- hx _ (a1H (pok.can.1 _ (bN hj)))];show wv _ _
    show(x,ex,a0m (by decide) (WV.flat okw wx),wx)
   show a6U (λi ys G'=>∃(ms:List Nat),An4 (ys=ms.map (λj=>Z.int (j:Nat))) (∀j∈ms,∃h:j+2<P.length,(P[j]'(by lia)).w=P[j+2].w) (ms.length<=i) (G'=put G11 D2 (.lst ys))) ([],rfl,(λj h=>by cases h),aQ _,rfl) (λ_ _ _ _ _=>True.intro) ?_ ?_
   .ext i x ys G' hx ⟨ms,rfl,hms,lms,rfl⟩;let(hi,rfl):=a2V hx;let hi2:i+2<P.length:=by lia
    let(xa,ea,fa,_):=row i (by lia);let(xc,ec,fc,_):=row (i+2) hi2;let gp2:∀ys,put G11 D2 (.lst ys) pp=bo (.lst (P.map Rw.z)):=λys=>by rw[a0d npD];show gpp
    show(_,rfl,?_);rw[Int.zero_add];let ia:atI (P.map Rw.z) (i:Int)=bo (.tup [.int (P[i]'(by lia)).b,oz (P[i]'(by lia)).e,xa]):=a0F (by rw[aR,aU (by lia)];change bo (Rw.z _)=_;unfold Rw.z;rw[ea]);let ic:atI (P.map Rw.z) ((i:Int)+2)=bo (.tup [.int P[i+2].b,oz P[i+2].e,xc]):=by
     rw[show (i:Int)+2=((i+2:Nat):Int) by lia];show a0F (by rw[aR,aU hi2];change bo (Rw.z _)=_;unfold Rw.z;rw[ec])
    lk;show a0y (gp2 _) ia ?_;lk;show a0y (gp2 _) ic ?_;lk;show a0W fa fc ?_;lk
    by_cases c:xa=xc
    .rw[decide_eq_true c];lk;show(_,rfl,a0a,by rw[aN];show a0e (by lia),ms++[i],by simp,λj hj=>?_,by simp;lia,by rw[a1s]);let hj||hj:=aP.mp hj
     .show hms j hj
     .rw[aS.mp hj];show(hi2,by rw[ea,ec,c])
    .rw[decide_eq_false c];lk;show(ms,rfl,hms,by lia,rfl)
   ext ys G12 ⟨ms,rfl,hms,lms,rfl⟩;rw[a1A]at lms;let npr:pp≠r:=λz=>by let(_,_,e,_):=R8;rw[<- z,hpp]at e;cases e
   let nDr2:D2≠r:=λz=>by let(_,_,e,_):=R8;rw[<- z,s11.free hD2]at e;cases e
   let gp12:put G11 D2 (.lst (ms.map λj=>Z.int (j:Nat))) pp=bo (.lst (P.map Rw.z)):=by rw[a0d npD];show gpp
   let gD12:put G11 D2 (.lst (ms.map λj=>Z.int (j:Nat))) D2=bo (.lst (ms.map λj=>Z.int (j:Nat))):=a0a;let s12:Sm G10 (put G11 D2 (.lst (ms.map λj=>Z.int (j:Nat)))):=s11.trans (Sm.new hD2);generalize put G11 D2 (.lst (ms.map λj=>Z.int (j:Nat)))=G12 at gp12 gD12 s12 ⊢;let q12:Kq r G G12:=λb o e n=>s12 _ _ (q8 _ _ e n);let R12:RowAt G12 r:=let (x,w,e,o):=R8;(x,w,s12 _ _ e,o)
   lk;show a2X (fun σ' G'=>Ex5 λ(m:Rw) (v1 v2 v3 v4:Option Z)=>An4 (Kq r G G') (RowAt G' r) (BadOk wn (u' key) m) (σ'=[bo (.ref r),bo (.ref d),bo (.ref q),bo (.ref wp),bo (Cg.z (key,(b,e,[x,y]))),bo (.str key),bo (.int b),bo (oz e),bo x,bo y,bo ot,bo (.ref x1),bo (.int way),bo (Cg.z (key,m)),v1,v2,v3,v4])) ?_ ?_
   .lk;show ifD (λc=>?_) λc=>?_
    .lk;show(lenK rfl,λa4 ha4=>?_);let s13:Sm G12 (put G12 a4 (.lst [])):=Sm.new ha4;let ga4:put G12 a4 (.lst []) a4=bo (.lst []):=a0a;generalize put G12 a4 (.lst [])=G13 at s13 ga4 ⊢;let q13:Kq r G G13:=λb o e n=>s13 _ _ (q12 _ _ e n);let R13:RowAt G13 r:=let (x,w,e,o):=R12;(x,w,s13 _ _ e,o)
     let gp13:=s13 _ _ gp12;let gD13:=s13 _ _ gD12;lk;show a5l gD13 ga4 (by rw[bL];ext z hz;let(j,_,rfl):=bf.mp hz;rfl) rfl ?_
     by_cases c2:ms=[]
     .subst c2;rw[decide_eq_true (show ([]:List Nat).map (λj=>Z.int (j:Nat))=[] from rfl)];lk;show(_,_,_,_,_,q13,R13,B2,rfl)
     .rw[decide_eq_false λz=>c2 (dA.mp z)];lk;show a2B gD13 ?_;rw[aN];lk;let lm0:0<ms.length:=cw.mpr c2;show a0B R13 (by lia) (by lia) λai y13 w13 e0 e1 ok13=>?_;let q14:Kq r G (put G13 r (RowO y13 w13)):=q13.trans Kq.at
      let R14:RowAt (put G13 r (RowO y13 w13)) r:=RowAt.at ok13;let gp14:put G13 r (RowO y13 w13) pp=bo (.lst (P.map Rw.z)):=by rw[a0d npr];show gp13
      let gD14:put G13 r (RowO y13 w13) D2=bo (.lst (ms.map λj=>Z.int (j:Nat))):=by rw[a0d nDr2];show gD13
      generalize put G13 r (RowO y13 w13)=G14 at q14 R14 gp14 gD14 ⊢;let(kz,ekz,mkz):=a3J (xs:=ms.map λj=>Z.int (j:Nat)) e0 (by rw[aN];show e1);let(k,mk2,rfl):=bf.mp mkz;let(hk2,ekk):=hms k mk2;let(xa,ea,fa,wa):=row k (by lia);let(xc,ec2,_,_):=row (k+2) hk2;let ia:atI (P.map Rw.z) (k:Int)=bo (.tup [.int (P[k]'(by lia)).b,oz (P[k]'(by lia)).e,xa]):=a0F (by rw[aR,aU (by lia)];change bo (Rw.z _)=_;unfold Rw.z;rw[ea]);let ic:atI (P.map Rw.z) ((k:Int)+2)=bo (.tup [.int P[k+2].b,oz P[k+2].e,xc]):=by
       rw[show (k:Int)+2=((k+2:Nat):Int) by lia];show a0F (by rw[aR,aU hk2];change bo (Rw.z _)=_;unfold Rw.z;rw[ec2])
      show a0y gD14 ekz ?_;lk;show(lenK rfl,λa5 ha5=>?_);let s15:Sm G14 (put G14 a5 (.lst [.non])):=Sm.new ha5;let ga5:put G14 a5 (.lst [.non]) a5=bo (.lst [.non]):=a0a;generalize put G14 a5 (.lst [.non])=G15 at s15 ga5 ⊢;show a1I (s15 _ _ (q14 _ _ gw nrw)) ga5 (a0S (by rw[aN,lw];decide)) λa6 ha6=>?_;let s16:Sm G14 (put G15 a6 (.lst (wn.map Z.str++[.non]))):=s15.trans (Sm.new ha6);let ga6:put G15 a6 (.lst (wn.map Z.str++[.non])) a6=bo (.lst (wn.map Z.str++[.non])):=a0a;generalize put G15 a6 (.lst (wn.map Z.str++[.non]))=G16 at s16 ga6 ⊢;lk;show a1i ga6 ?_;ext D3 hD3;let gp16:=s16 _ _ gp14;let fl:∀y∈wn.map Z.str++[Z.non],flat 8 y=lS:=λy hy=>a0m (by decide) (WV.flat okw hy);show a5j (λy=>if y=xa then lR else bo y) (λys=>a0b ga6 hD3) (by rw[bg,aN,lw];decide) (λy hy ys K1 K2 h1 h2=>(_,rfl,?_)) ?_
      .lk;show a0y (a0b gp16 hD3) ia ?_;lk;show a0W (fl y hy) fa ?_;lk
       by_cases c:y=xa
       .rw[decide_eq_true c];lk;show h2 (if_pos c)
       .rw[decide_eq_false c];lk;show h1 y (if_neg c)
      let e5:(wn.map Z.str++[Z.non]).filterMap (λy=>if y=xa then lR else bo y)=(wn.map Z.str++[Z.non]).filter λy=>decide (y≠xa):=by
       rw[<- fH]
       congr 1
       funext y
       by_cases c:y=xa<;>simp[fI,c]
      rw[e5];let l5:=a3e lw ndw wa;let m5:∀y∈(wn.map Z.str++[Z.non]).filter λy=>decide (y≠xa),WV wn y/\xa≠y:=λy hy=>by
       let(h1,h2):=cA.mp hy;show(h1,λz=>(of_decide_eq_true h2) z.symm)
      generalize ((wn.map Z.str++[Z.non]).filter λy=>decide (y≠xa))=os3 at l5 m5 ⊢;let s17:Sm G14 (put G16 D3 (.lst os3)):=s16.trans (Sm.new hD3);let gD3:put G16 D3 (.lst os3) D3=bo (.lst os3):=a0a;generalize put G16 D3 (.lst os3)=G17 at s17 gD3 ⊢;let R17:RowAt G17 r:=let (x,w,e,o):=R14;(x,w,s17 _ _ e,o)
      let nD3:D3≠r:=λz=>by let(_,_,e,_):=R17;rw[<- z,gD3]at e;let:=congrArg (λo=>match o with |some (.lst l)=>l.length |_=>0) e;simp[l5]at this
      let gp17:=s17 _ _ gp14;lk;show a0y gp17 ia ?_;lk;show a0y gp17 ic ?_;lk;show a0y gp17 ia ?_;lk;show a0B R17 (by decide) (by decide) λk7 y17 w17 h0 h1 ok17=>?_;let(o7,eo7,mo7):=a3J (xs:=os3) h0 (by rw[l5];show h1);let(wo7,no7):=m5 o7 mo7;show a0y (by rw[a0d nD3];show gD3) eo7 ?_;lk;show(lenK rfl,?_);lk;show(_,_,_,_,_,λb o e n=>by rw[a0d n];show s17 _ _ (q14 _ _ e n),RowAt.at ok17,b1x pok hk2 ea wa wo7 no7,rfl)
    .lk;show(_,_,_,_,_,q12,R12,B2,rfl)
   .ext σ' G13 ⟨m3,v1,v2,v3,v4,q13,R13,B3,rfl⟩;lk;show a1i (q13 _ _ gq nqr) ?_;ext V hV;let fc:=(so.cl okk).okC (λk t=>WV.flat okw (wv k t)) (λk t=>WV.flat okw (a3d so wv k t));show a6U (λi ys G'=>An3 (ys=((B'.take i).filterMap (spo (key,(b,e,[x,y])) m3)).map Cg.z) (∀b o,b≠V->G13 b=bo o->G' b=bo o) (G' V=bo (.lst ys))) (rfl,λb o n e=>by rw[a0d n];show e,a0a) (by ext i ys G' _ ⟨_,k,_⟩;show k _ _ (a0g (q13 _ _ gq nqr) hV) (q13 _ _ gq nqr)) ?_ ?_
    .ext i z ys G' hz ⟨rfl,k,gV⟩;rw[aR]at hz;cases hz':B'[i]? with
     |none=>rw[hz']at hz;cases hz
     |some o=>
     rw[hz']at hz;cases hz;let hi:=(aT.mp hz').1;let mo:=bp hz';let fo1:flat 8 o.z=lS:=bL.mp fc.fl8 _ (bP mo);let fo2:flat 8 (Cg.z (key,(b,e,[x,y])))=lS:=bL.mp fc.fl8 _ (bP mc);let tk:∀w,spo (key,(b,e,[x,y])) m3 o=w->(B'.take (i+1)).filterMap (spo (key,(b,e,[x,y])) m3)=(B'.take i).filterMap (spo (key,(b,e,[x,y])) m3)++w.toList:=λw e=>by rw[a0R hz',e]
     let l8:((B'.take i).filterMap (spo (key,(b,e,[x,y])) m3)).length<=8:=bj (cO _ _) (by rw[bh];lia);generalize (B'.take i).filterMap (spo (key,(b,e,[x,y])) m3)=C at tk l8 gV;show(_,rfl,?_);lk;show a0W fo1 fo2 ?_;lk
     by_cases c:o.z=Cg.z (key,(b,e,[x,y]))
     .rw[decide_eq_true c,if_pos (show id lS=lS from rfl),if_pos rfl];lk;show(lenK rfl,λa5 ha5=>?_);lk;show a0W fo1 fo2 ?_;rw[decide_eq_true c];lk;show a8R ?_;show a0y a0a at1 ?_;show(a0b gV ha5,by rw[aN];show a0e (by lia),by rw[tk _ (if_pos c),aV];rfl,λb o n e=>by rw[a0d n];show a0b (k b o n e) ha5,a0a)
     .rw[decide_eq_false c,if_neg (show ¬ id lT=lS from λz=>nomatch z)];lk;show a06 (w:=.str o.k) at0 ?_;lk
      by_cases c2:o.k=key
      .rw[decide_eq_true c2,if_neg (by decide)];show(by rw[tk lR (by unfold spo;rw[if_neg c,if_neg (λz=>z c2)])];simp,k,gV)
      .rw[decide_eq_false c2,if_pos (by decide)];lk;show(lenK rfl,λa5 ha5=>?_);lk;show a0W fo1 fo2 ?_;rw[decide_eq_false c];lk;show a8R ?_;show a0y a0a at0 ?_;show(a0b gV ha5,by rw[aN];show a0e (by lia),by rw[tk _ (by unfold spo;rw[if_neg c,if_pos c2]),aV];rfl,λb o n e=>by rw[a0d n];show a0b (k b o n e) ha5,a0a)
    .ext ys G14 ⟨rfl,k,gV⟩;rw[aN,bX]at gV;let(f2,g2,a1,a2,a3,a4,a5):=b6Q (r:=m3) so okk okw wv mc B3;let nVr:V≠r:=λzz=>by let(_,_,e,_):=R13;rw[<- zz,hV]at e;cases e
     lk;show fin V _ f2 g2 _ ?_ (let (x,w,e,o):=R13;(x,w,k _ _ (Ne.symm nVr) e,o)) (λb o e n=>k _ _ (a0g (q13 _ _ e n) hV) (q13 b o e n)) gV a1 a2 a3 a4 a5;cases z:G V with
     |none=>rfl
     |some o=>rw[q13 _ _ z nVr]at hV;cases hV
local macro_rules | `(tactic| walk_at "go1")=>`(tactic| first | show i_I (show (0:Int)<_ by decide) ?_ | show i_I (by decide,by decide) ?_)
def b2c{α:Type}{xs:List α}{j:Nat}:cutZ xs lR (bo (j:Int))=xs.take j:=by
 unfold cutZ;rw[HT.sIx_none,HT.sIx_nat];simp
def b1y{α:Type}{xs:List α}{j:Nat}:cutZ xs (bo (j:Int)) lR=xs.drop j:=by
 unfold cutZ;rw[HT.sIx_none,HT.sIx_nat,cE (by rw[bI];lia)]
 by_cases h:j<=xs.length
 .rw[Nat.min_eq_left h]
 .rw[Nat.min_eq_right (by lia),g8 (aQ _),g8 (by lia)]
def b36{wn:List Str}{l:List Rw}{t:Int}(h:∀r∈l,∃x,r.w=[x]/\WV wn x):WV wn (lastAt l t):=by
 unfold lastAt;cases e:l.reverse.find? (·.has t) with
 |none=>show bH _ (.head _)
 |some r=>
  let(x,e1,e2):=h r (fJ.mp (dP e));simpa[e1]using e2
def b8w{A:List Cg}(h:∀c∈A,PutOk c)(l:A.length<=40):Wd (fA A) 80:=λk=>by
 show((rowsOf A k).flatMap λr=>r.b::r.e.toList,?_,λb hb=>?_,λt ht=>?_)
 .let:∀l:List Rw,(l.flatMap λr=>r.b::r.e.toList).length<=2*l.length:=λl=>by
   induction l with
   |nil=>simp
   |cons r l ih=>
    rw[cG,bg,be,be]
    let:r.e.toList.length<=1:=by cases r.e<;>simp
    lia
  let:=this (rowsOf A k)
  let:=a5N (A:=A) (k:=k)
  lia
 .let(r,hr,q):=cy.mp hb;let st:=(h _ (a2h hr)).st;let rfl||q:=aO.mp q
  .show(st.1,st.2.1)
  .let:=st.2.2 b (by change r.e=bo b;cases e:r.e with |none=>rw[e]at q;simp at q |some x=>rw[e]at q;simp at q;rw[q])
   let:=st.1
   show(by lia,by lia)
 .let hs:∀r∈(rowsOf A k).reverse,r.has t=r.has (t-1):=λr hr=>by
   let hr:=fJ.mp hr;let n1:t≠r.b:=λz=>ht (cy.mpr (r,hr,by rw[z];show .head _));let n2:∀e,r.e=bo e->t≠e:=λe he z=>ht (cy.mpr (r,hr,by rw[he,z];show .tail _ (.head _)));show cH.mpr ?_;rw[has_iff,has_iff]
   constructor
   .ext⟨a1,a2⟩;show(by lia,λe he=>by let:=a2 e he;lia)
   .ext⟨a1,a2⟩;show(by lia,λe he=>by let:=a2 e he;let:=n2 e he;lia)
  change lastAt _ _=lastAt _ _
  unfold lastAt;rw[a1D hs]
structure RI (G2 G':Hq) (RS:List Addr):Prop where
 kp:∀b o,b∉RS->G2 b=bo o->G' b=bo o
 row:∀r∈RS,RowAt G' r
def RI.draw(h:RI G2 G' RS)(hr:r∈RS)(k:Kq r G' G'')(R:RowAt G'' r):RI G2 G'' RS:=(λb o n e=>k _ _ (h.kp b o n e) λz=>n (z▸hr),λx a=>by
 by_cases c:x=r
 .simp_all
 .show (h.row x a).kq k c)
def RI.up{G2 G' G'':Hq}{RS:List Addr}(h:RI G2 G' RS)(s:Sm G' G''):RI G2 G'' RS:=(λb o n e=>s _ _ (h.kp b o n e),λx hx=>let (a,b,e,o):=h.row x hx;(a,b,s _ _ e,o))
def TabN.few5{G:Hq}{d:Addr}{u:FZ}{ts kn:List Str}{kvs:List (Key×Z)}(H:TabN G d u ts kvs)(h:∀k t,u k t≠.non->k∈kn)(l:kn.length=5):ts.length<=5:=by
 rw[<- l];show H.nd.length_le_of_subset λk hk=>?_;let(l,L,_,_,a3,_,a5,a6):=H.ln k hk;show Classical.byContradiction λz=>a5 (a1x a3 Can.nil λt=>?_);rw[a6,Classical.byContradiction λy=>z (h k t y)]
 rfl
def b6R(T:Txt K mg base a){f:Addr}{d:iG}(J:Fun K "law" "law" (top 41) f d):FnOk P w K mg base CX0 7 f d ["script"] (lowP K (a6r a.tP)):=by
 show fnd (n:=1) (N:=["script","first","head","keys","worths","rows","lines","row","some","handed","bad"]) J ?_ (rfl,rfl,rfl,by decide +kernel,rfl,by decide +kernel,by decide +kernel) λws G R h=>by let(_,_,rfl,_):=h;rfl
 walk_at "in";show(_,(a0c (by ac_rfl)
  (a0c (by ac_rfl)
  (a0c (by ac_rfl)
  (a0c (by ac_rfl)
  (a0c (z_l (nmI 5 nd) ["cell","first"] [lR,bo 1] (.nm 0))
  (a0c (by ac_rfl)
  (a0c (a1g (pt:=(.nm 7)) iz.never rfl (by ac_rfl) (p_nm (nmI 7 nd))
  (a0c (by ac_rfl)
  (a0c (by ac_rfl)
  (a2T (z_if (by ac_rfl)
  (a0c (z_st (nmI 9 nd) (b0K (q_c (a5O T) hr (q_k (qv 6) a0E) )))
  (a0c (by ac_rfl)
  (a0L (z_if (QW.qt (q_or (by ac_rfl) (b0d (a3u (b14 hu) (qv 9) (qv 6) (a1V _)))))
  (by ac_rfl)
  a1Y))))
  a1Y)
  (a0L (z_st (nmI 6 nd) (b0K (q_c (a9D T) hr (q_k (qv 6) (q_k (qv 8) a0E)) ))))))))
  (a0L (a4v (a50 (b0b (a88 hu) (q_cX a26 up0 (a1a T) hr (q_k a2A (q_k (by ac_rfl) a0E)) ) a2A (a1V _)) (b0e (by ac_rfl)))))))))))),?_)
 let(a',ns,rfl,hl,gT,q):=h;lk;show(a',ns,0,rfl,by decide,λfirst=>?_);lk;let hw:first % 2=0\/first % 2=1:=by lia
 show(_,_,rfl,hw,λhd x w' hhd ok=>?_);lk;show(hd,5,rfl,RowAt.at ok,by decide,by decide,λnm kn G1 hnm gnm hlen okk ndk hR1 hK1=>?_);let s1:Sm G G1:=λb o h=>hK1 b o (a0b h hhd) (a0g h hhd);lk;show(hd,4,rfl,hR1,by decide,by decide,λwm wn G2 hwm gwm hlen2 okw ndw hR2 hK2=>?_);let s2:Sm G G2:=λb o h=>hK2 b o (s1 b o h) (a0g h hhd);let gnm2:=hK2 _ _ gnm λz=>by rw[z,a0a]at hnm;cases hnm
 clear hK1 hK2 hR1 hR2 s1 gnm hnm hwm;lk;show b7V λc hc=>?_;generalize ee:put G2 c _=G3;let(gc,s3):=newK ee hc;let lm:(cutZ ns lR (bo 63)).length<=63:=by rw[show cutZ ns lR (bo 63)=ns.take 63 from b2c (j:=63),bh];lia
 generalize cutZ ns lR (bo 63)=M at gc lm;let gnm3:=s3 _ _ gnm2;let gwm3:=s3 _ _ gwm;let s23:=s2.trans s3
 replace gT:=s23 _ _ gT
 clear s2 gnm2 gwm hc ee s3;lk;show a1i gc ?_;ext D hD;show a6U (λi ys G'=>∃(rs:List Addr),An5 (ys=rs.map Z.ref) (rs.length=i) (G' D=bo (.lst ys)) (∀b o,b≠D->G3 b=bo o->G' b=bo o) (∀r∈rs,RowAt G' r/\r≠D/\G3 r=lR)) ([],rfl,rfl,a0a,λb o nb e=>by rw[a0d nb];show e,λr h=>(nomatch h)) ?_ ?_ ?_
 .ext i ys G' _ ⟨rs,_,_,_,k,_⟩;show k _ _ (a0g gc hD) gc
 .ext i x ys G' hx ⟨rs,rfl,hl',gD,k,hr⟩;let hi:=(aT.mp hx).1;rw[aN]at hi;rw[aR]at hx;cases hx':M[i]? with
  |none=>rw[hx']at hx;cases hx
  |some m=>
  rw[hx']at hx;cases hx;show(_,rfl,?_);lk;show(_,_,rfl,hw,λr x' w'' hr' ok'=>?_);let nD:r≠D:=λz=>by rw[z,gD]at hr';cases hr'
  let fr:G3 r=lR:=by
   cases e:G3 r with
   |none=>rfl
   |some o=>rw[k r o nD e]at hr';cases hr'
  show(a0b gD hr',by rw[aN];show a0e (by lia),rs++[r],by simp,by simp;lia,a0a,λb o nb e=>by rw[a0d nb];show a0b (k b o nb e) hr',λr2 h2=>?_);let h2||h2:=aP.mp h2
  .let(a1,a2,a3):=hr r2 h2;show((a1.new hr').kq Kq.at a2,a2,a3)
  .rw[aS.mp h2];show((RowAt.at ok').kq Kq.at nD,nD,fr)
 .ext ys G4 ⟨rs,rfl,hl',gD,k,hr⟩;rw[aN]at hl';let nD:∀b o,G3 b=bo o->b≠D:=λb o e=>a0g e hD;let up:∀b o,G3 b=bo o->G4 b=bo o:=λb o e=>k b o (nD b o e) e;let nr:∀b o,G3 b=bo o->b∉rs:=λb o e z=>by rw[(hr b z).2.2]at e;cases e
  let lk:kn.length=5:=by lia
  let lw:wn.length=4:=by lia
  lk;show a8i gD λp1 hp1=>?_;rw[show cutZ (rs.map Z.ref) lR (bo 40)=(rs.map Z.ref).take 40 from b2c (j:=40),<- fR];generalize ee5:put G4 p1 _=G5;let(gp1,s5):=newK ee5 hp1;let hr5:∀r∈rs,RowAt G5 r:=λr h=>let (x,w,e,o):=(hr r h).1;(x,w,s5 _ _ e,o)
  let np1:p1∉rs:=λz=>by let(_,_,e,_):=(hr p1 z).1;rw[e]at hp1;cases hp1
  let nD2:D∉rs:=λz=>(hr D z).2.1 rfl;let sub:∀{b},b∉rs->b∉rs.take 40:=λn z=>n (dr z);lk;show(p1,nm,wm,rs.take 40,kn,wn,rfl,gp1,s5 _ _ (up _ _ gnm3),s5 _ _ (up _ _ gwm3),by rw[bh];lia,λr h=>hr5 r (dr h),by lia,lw,okk,okw,sub np1,sub (nr _ _ gnm3),sub (nr _ _ gwm3),λd0 A' ts0 kvs0 G6 hd0 k6 r6 okA lA H0 kA=>?_);let r6:∀r∈rs,RowAt G6 r:=λr h=>by
   by_cases c:r∈rs.take 40
   .show r6 r c
   .let(x,w,e,o):=hr5 r h;show(x,w,k6 _ _ c e,o)
  let k6:∀b o,b∉rs->G5 b=bo o->G6 b=bo o:=λb o n e=>k6 b o (sub n) e;let wvA:∀k t,WV wn (fA A' k t):=λk t=>b36 λr hr=>(kA _ (a2h hr)).2;let skA:∀k t,fA A' k t≠.non->k∈kn:=λk t h=>Classical.byContradiction λz=>h (by
   unfold fA;rw[a44 λ(c,h1,h2)=>z (by rw[<- h2];show (kA c h1).1)]
   rfl)
  let wdA:=b8w okA lA;let k36:∀b o,G3 b=bo o->G6 b=bo o:=λb o e=>k6 _ _ (nr b o e) (s5 _ _ (up _ _ e));let gD6:=k6 _ _ nD2 (s5 _ _ gD);clear gp1 hp1 ee5 s5 hr5 np1 sub k6 hd0 okA kA lA k;generalize fA A'=u0 at H0 wvA skA wdA;lk;show(lenK rfl,λr7 hr7=>?_);generalize ee7:put G6 r7 _=G7;let(g7,s7):=newK ee7 hr7;lk;show(lenK rfl,λo7 ho7=>?_);generalize ee8:put G7 o7 _=G8;let(go8,s8):=newK ee8 ho7;lk;show a8i (s8 _ _ (s7 _ _ gD6)) λc9 hc9=>?_;rw[show cutZ (rs.map Z.ref) (bo 40) lR=(rs.map Z.ref).drop 40 from b1y (j:=40),<- fS];generalize ee9:put G8 c9 _=G9;let(gc9,s9):=newK ee9 hc9;lk;show a1I (s9 _ _ go8) gc9 (a0S (by rw[aN,bI,fN];lia)) λli hli=>?_;generalize ee10:put G9 li _=G10;let(gli,s10):=newK ee10 hli;let s710:=(s8.trans s9).trans s10;let s610:=s7.trans s710;let e0:[Z.ref r7]++(rs.drop 40).map Z.ref=(r7::rs.drop 40).map Z.ref:=rfl;rw[e0]at gli;let lli:(r7::rs.drop 40).length<=24:=by rw[be,bI];lia
  let sub:∀r∈r7::rs.drop 40,r∈r7::rs:=λr h=>by
   let rfl||h:=aO.mp h
   .show .head _
   .show .tail _ (d7 h)
  let I0:RI G10 G10 (r7::rs):=(λ_ _ _ e=>e,λr h=>by
   let rfl||h:=aO.mp h
   .show(4,1,s710 _ _ g7,.inr (rfl,by decide,by decide))
   .let(x,w,e,o):=r6 r h;show(x,w,s610 _ _ e,o))
  let nRS:∀b o,G3 b=bo o->b∉r7::rs:=λb o e z=>by
   let z||z:=aO.mp z
   .rw[<- z,k36 b o e]at hr7;cases hr7
   .show nr b o e z
  let nli:li∉r7::rs:=λz=>by
   let z||z:=aO.mp z
   .rw[z,s9 _ _ (s8 _ _ g7)]at hli;cases hli
   .let(_,_,e,_):=r6 _ z;rw[s9 _ _ (s8 _ _ (s7 _ _ e))]at hli;cases hli
  let G310:∀b o,G3 b=bo o->G10 b=bo o:=λb o e=>s610 _ _ (k36 b o e);let gT10:=G310 _ _ gT;let nTT:=nRS _ _ gT;let gk10:=G310 _ _ gnm3;let nk:=nRS _ _ gnm3;let gw10:=G310 _ _ gwm3;let nw:=nRS _ _ gwm3
  replace H0:=H0.keep s610
  clear G310 nRS s710 s610 s7 s8 s9 s10 ee7 ee8 ee9 ee10 hr7 ho7 hc9 hli go8 gc9 g7 gD6 r6 k36 nr up nD gD hr gT gnm3 gwm3 hD gc nD2 s23 e0;generalize r7::rs=RS at I0 nTT nk nw nli sub;generalize r7::rs.drop 40=lr at gli sub lli;lk;show a1i gli ?_;show a0H (λi σ G'=>Ex8 λ(d:Addr) (u:FZ) (ts:List Str) (kvs:List (Key×Z)) (v1 v2 v3 v4:Option Z)=>An6 (RI G10 G' RS) (TabN G' d u ts kvs) (Wd u (80+4*i)) (∀k t,WV wn (u k t)) (∀k t,u k t≠.non->k∈kn) (σ=[bo (.scr a' ns),bo (.int first),bo (.ref hd),bo (.ref nm),bo (.ref wm),bo (.ref D),bo (.ref d),v1,v2,v3,v4])) (d0,u0,ts0,kvs0,_,_,_,_,I0,H0,wdA,wvA,skA,rfl) (by ext i σ G' _ ⟨_,_,_,_,_,_,_,_,I,_⟩;show I.kp _ _ nli gli) ?_ ?_
  .ext i x σ G11 hx ⟨d,u',ts,kvs,v1,v2,v3,v4,I,H,wd,wv,sk,rfl⟩;rw[aR]at hx;cases hx':lr[i]? with
   |none=>rw[hx']at hx;cases hx
   |some r=>
   rw[hx']at hx;cases hx;let hi:=(aT.mp hx').1;let mr:=sub r (bp hx');let lt:=H.few5 sk lk;show(_,rfl,?_);lk;show(r,d,nm,wm,u',ts,kvs,kn,wn,80+4*i,rfl,I.row r mr,H,wd,by lia,I.kp _ _ nk gk10,I.kp _ _ nw gw10,lk,ndk,lw,ndw,okk,okw,wv,λt B' ks L' G12 ht R12 k12 gt so=>?_);let ntr:t≠r:=Ne.symm ((I.row r mr).ne ht)
   replace H:=H.kq (I.row r mr) k12
   replace I:=I.draw mr k12 R12
   let ff:FF u':=λk t=>WV.flat okw (wv k t);let fg:FF (nowF u' L'):=λk t=>WV.flat okw (a3d so wv k t);let cl:=so.cl okk;let sk2:∀k t,nowF u' L' k t≠.non->k∈kn:=λk t h=>Classical.byContradiction λz=>h (by
    unfold nowF;rw[so.no k λy=>z (so.sub k y)];show Classical.byContradiction λy=>z (sk k t y))
   lk;show(d,t,u',ts,kn,wn,ks,kvs,B',L',80+4*i,rfl,H,lt,wd,by lia,gt,so,okk,okw,wv,sk2,lk,I.kp _ _ nTT gT10,λG13 s13=>?_)
   replace H:=H.keep s13
   replace I:=I.up s13
   replace gt:=s13 _ _ gt
   lk;show a2X (fun σ' G'=>Ex2 λ(v3 v4:Option Z)=>An3 (Kq r G13 G') (RowAt G' r) (σ'=[bo (.scr a' ns),bo (.int first),bo (.ref hd),bo (.ref nm),bo (.ref wm),bo (.ref D),bo (.ref d),bo (.ref r),bo (.ref t),v3,v4])) ?_ ?_
   .lk;show(lenK rfl,λa4 ha4=>?_);generalize ee14:put G13 a4 _=G14;let(ga4,s14):=newK ee14 ha4;let k14:Kq r G13 G14:=λb o e _=>s14 _ _ e;let R14:RowAt G14 r:=let (x,w,e,o):=I.row r mr;(x,w,s14 _ _ e,o)
    lk;let flc:=(cl.okC ff fg).fl8;show a5l (s14 _ _ gt) ga4 flc rfl ?_
    by_cases c:B'=[]
    .rw[decide_eq_true (show B'.map Cg.z=[] by rw[c];rfl)];lk;show(_,_,k14,R14,rfl)
    .rw[decide_eq_false (show ¬ B'.map Cg.z=[] from λz=>c (dA.mp z))];lk;show a0B R14 (by decide) (by decide) λk y w f0 f1 ok1=>?_;let k15:Kq r G13 (put G14 r (RowO y w)):=k14.trans Kq.at
     let R15:RowAt (put G14 r (RowO y w)) r:=RowAt.at ok1;generalize put G14 r (RowO y w)=G15 at k15 R15;lk;show ifD (λc3=>?_) λc3=>?_
     .let H15:=H.kq (I.row r mr) k15;let gt15:=k15 _ _ gt ntr;lk;show b0L H15.at_ ?_;lk;show(d,u',ts,kvs,rfl,H15,lt,λW kvh G16 hW k16 gd16 HW own=>(gd16,?_));let s16:Sm G15 (put G16 d (.dK kvs)):=λb o e=>by
       by_cases c:b=d
       .subst c;rw[a0a,<- e];show H15.at_.symm
       .rw[a0d c];show k16 b o c e
      replace HW:=HW.unf gd16
      generalize put G16 d (.dK kvs)=G17 at s16 HW ⊢;let H17:=H15.keep s16;let R17:RowAt G17 r:=let (x,w,e,o):=R15;(x,w,s16 _ _ e,o)
      let k17:Kq r G13 G17:=λb o e n=>s16 _ _ (k15 _ _ e n);lk;show(r,d,t,wm,u',ts,kn,wn,ks,kvs,B',L',80+4*i,rfl,R17,H17,wd,by lia,s16 _ _ gt15,ntr,so,c,k17 _ _ (I.kp _ _ nw gw10) (λz=>nw (z▸mr)),lw,ndw,okk,okw,wv,λt2 B2 f2 g2 G18 ht2 R18 k18 gt2 cl2 cb2 ff2 fg2 bad=>?_);let H18:=H17.kq R17 k18;let HW18:=HW.kq R17 k18;let k19:=k17.trans k18;lk;show(W,t2,B2,ts,kvh,u',f2,g2,rfl,HW18,lt,wd.lb (by lia),gt2,cl2,cb2,ff,ff2,fg2,k19 _ _ (I.kp _ _ nTT gT10) (λz=>nTT (z▸mr)),bad,λG19 s19=>?_);lk;show((HW18.keep s19).same (H18.keep s19),?_);lk;show(_,_,λb o e n=>s19 _ _ (k19 _ _ e n),let (x,w,e,o):=R18;(x,w,s19 _ _ e,o),rfl)
     .lk;show(_,_,k15,R15,rfl)
   .ext σ' G14 ⟨v3,v4,k14,R14,rfl⟩;let H14:=H.kq (I.row r mr) k14;let I14:=I.draw mr k14 R14;let gt14:=k14 _ _ gt ntr;lk;show b0L H14.at_ ?_;lk;show(d,t,u',ts,kn,wn,ks,kvs,B',L',80+4*i,rfl,H14,lt,wd,by lia,gt14,so,okk,okw,λW us kv G15 hW k15 gd15 HW=>(gd15,?_));let s15:Sm G14 (put G15 d (.dK kvs)):=λb o e=>by
     by_cases c:b=d
     .subst c;rw[a0a,<- e];show H14.at_.symm
     .rw[a0d c];show k15 b o c e
    replace HW:=HW.unf gd15
    generalize put G15 d (.dK kvs)=G16 at s15 HW ⊢;lk;show(W,_,us,kv,_,_,_,_,I14.up s15,HW,a9z so wd,a3d so wv,sk2,rfl)
  .ext σ G11 ⟨d,u',ts,kvs,v1,v2,v3,v4,I,H,wd,wv,sk,rfl⟩;rw[aN]at wd;let gT11:=I.kp _ _ nTT gT10;let lt:=H.few5 sk lk;clear I;lk;ext e1 he1;generalize ee12:put G11 e1 _=G12;let(ge1,s12):=newK ee12 he1;lk;show(lenK rfl,λe2 he2=>?_);generalize ee13:put G12 e2 _=G13;let(ge2,s13):=newK ee13 he2;let nn:∀{G:Hq}{e:Addr},G e=bo (.dK [])->TabN G e (λ_ _=>.non) [] []:=λg=>(g,rfl,.nil,(λk h=>by cases h),λk _=>(rfl,λ_=>rfl));let f0:FF λ_ _=>.non:=λ_ _=>rfl;lk;show(e1,e2,[],[],[],λ_ _=>.non,λ_ _=>.non,λ_ _=>.non,rfl,nn (s13 _ _ ge1),by simp,λk L c v=>?_,ge2,CL.nil _,CB.nil,f0,f0,f0,s13 _ _ (s12 _ _ gT11),λ_ fo us kvf G14 hfo s14 HF _=>?_,λ(k,t,h,_)=>absurd rfl h)
   .rw[a1x c Can.nil λt=>by rw[v];rfl];simp
   let eh:hh (λ_ _=>.non) (λ_ _=>.non) (λ_ _=>.non)=λ_ _=>.non:=by
    funext k t
    unfold hh
    split<;>rfl
   rw[eh]at HF;lk;ext e3 he3;generalize ee15:put G14 e3 _=G15;let(ge3,s15):=newK ee15 he3;lk;show((HF.keep s15).same (nn (e:=e3) ge3),?_);let s1115:=((s12.trans s13).trans s14).trans s15;lk;show(lenK rfl,λe4 he4=>?_);generalize ee16:put G15 e4 _=G16;let(ge4,s16):=newK ee16 he4;let s1116:=s1115.trans s16;let en:nowF u' (λ_=>[])=u':=rfl;lk;show(d,e4,u',ts,kn,wn,[],kvs,[],λ_=>[],_,rfl,H.keep s1116,lt,wd,by lia,ge4,(rfl,.nil,.nil,λ_ _=>rfl,(λ_ h=>by cases h),by simp,λ_=>Can.nil,λ_=>by simp,(λ_ _ h=>by cases h)),okk,okw,wv,sk,lk,s1116 _ _ gT11,λG17 _=>q G17)
def all_mk{l:PySem.W.OpenLaw}{w:World}{K:Fg}{h:Heap}{mg:Str->Option Value}{fa:Addr}(X:K.In h)(G:h.Ns iu mg)(hfa:mg "law"=bo (.ref fa))
  {aa ab al ac ad ao am ap ak ae:Addr}
  {ar tP:Addr}
  (aB:PySem.W.nsIn K iu "NoFit"=bo (bo (.ref aa)))
  (aq:PySem.W.nsIn K iu "TimesError"=bo (bo (.ref ab)))
  (az:PySem.W.nsIn K iu "Broken"=bo (bo (.ref al)))
  (au:PySem.W.nsIn K iu "Forgotten"=bo (bo (.ref ac)))
  (av:PySem.W.nsIn K iu "NoKnowing"=bo (bo (.ref ad)))
  (aC:PySem.W.nsIn K iu "NoLog"=bo (bo (.ref ao)))
  (aA:PySem.W.nsIn K iu "NoName"=bo (bo (.ref am)))
  (aD:PySem.W.nsIn K iu "NoRow"=bo (bo (.ref ap)))
  (ax:PySem.W.nsIn K iu "NoSheet"=bo (bo (.ref ak)))
  (aw:PySem.W.nsIn K iu "NoStretch"=bo (bo (.ref ae)))
  (aE:PySem.W.excIn K aa veM "ValueError.__new__"=lS)
  (af:PySem.W.subIn K (.ref ab) (.type "BaseException")=bo lS)
  (ag:PySem.W.typeIn K (.ref ab)=bo (.type "type"))
  (ah:PySem.W.subIn K (.ref aa) (.ref ab)=bo lS)
  (ai:PySem.W.hasDictIn K ab=lS)
  (aF:PySem.W.hasDictIn K aa=lS)
  (aG:PySem.W.findIn K (.ref aa) "__getattribute__"=bo (bo (.builtin "BaseException.__getattribute__")))
  (aH:PySem.W.findIn K (.ref aa) "__getattr__"=bo lR)
  (aI:PySem.W.findIn K (.ref aa) "__class__"=bo (bo (.builtin "object.__class__")))
  (aJ:PySem.W.specialIn K (.builtin "object.__class__") "__get__"=bo (bo (.builtin "getset_descriptor.__get__")))
  (aK:PySem.W.takesIn K (.builtin "object.__class__")=bo lS)
  (aL:PySem.W.mroIn K aa (.type "object")=bo lS)
  (aM:PySem.W.mroIn K aa (.type "BaseException")=bo lS)
  (aj:PySem.W.kitOne K (.ref aa) (.type "ValueError")=bo lS)
  (ay:PySem.W.kitAny K (.ref aa) [.ref al,.ref ac,.ref ad,.ref ao,.ref am,.ref ap,.ref ak,.ref ae]=bo lT)
  (lf:PySem.W.nsIn K iu "pairs_by_key"=bo (bo (.ref ar)))
  (ll:a89 K ar tP=lS)
  (gP:iu≠tP)
  (F:AllF K top tF)
  (B:AllB K tB) :
  ∃(fd:iG)(c0:Addr),PySem.W.codeHdIn K c0 tP=lS/\(∀(s:Shared)(v:Value),jv s fd ([v],[]) [("script",v,)])/\∀base:Heap,K.In base->base.Ns iu mg->base.BuiltinsAt mg tP->FnOk l.prog w K mg base CX0 7 fa fd ["script"] (lowP K (a6r tP)):=by
 let br:=b8i X G;let(f,d,e,J):=F 27 _ rfl;let e:=hfa.symm.trans (br _ _ e);cases e
 letI a:Ad:=(aa,ab,al,ac,ad,ao,am,ap,ak,ae,tP)
 let hb:=λP base (bi:base.BuiltinsAt mg tP)=>b6R (P:=P) (w:=w) (base:=base) (a:=a) (br,F,B,gP,bi,(ar,lf,ll),br _ _ aB,br _ _ aq,br _ _ az,br _ _ au,br _ _ av,br _ _ aC,br _ _ aA,br _ _ aD,br _ _ ax,br _ _ aw,aE,b6c af ag ah ai,b6b aF aG aH aI aJ aK aL aM,aj,ay) J;let(fl,dl,el,Jl):=F 5 _ rfl;cases (show bo (bo (Value.ref fl))=bo (bo (Value.ref ar)) from el.symm.trans lf);let(c0,_,hc0):=a6q Jl ll;let(oc,od,kV,doc,pm,an,cdv,ct,osl,rfl,lk,hcd):=J.ex;show(_,c0,hc0,λs v=>.of_eq rfl,λbase _ _ bi=>hb l.prog base bi)
def walk{l:PySem.W.OpenLaw}{K:Params->Fg}(hn:l.most=bo 63)(hdf:d.params.defaults=[])
  (hY:∀(w:World)(h:Heap),YP w h->(K w.params).In h/\h.get? P0=bo (PySem.W.tabObj #[])) (hK0:∀w:World,(K w.params).lookup P0=lR)
  (F:∀(w:World)(mg:Str->Option Value)(fa:Addr)(h:Heap),(K w.params).In h->h.Ns iu mg->mg d.name=bo (.ref fa) ->
   ∃(fd:iG)(c0:Addr),PySem.W.codeHdIn (K w.params) c0 P0=lS/\(∀(s:Shared)(u:Value),jv s fd ([u],[]) [("script",u,)])/\∀base:Heap,(K w.params).In base->base.Ns iu mg->base.BuiltinsAt mg P0->FnOk l.prog w (K w.params) mg base CX0 7 fa fd ["script"] (lowP (K w.params) (a6r P0))) :
  PySem.W.WalkO q loose XP YP l.row.toRowW d [] (λf vs=>PySem.call f vs):=
 L2.walk_ofT hn (by decide) hdf (rfl,by decide,by decide) hY hK0 F (λ_ _ a e g b c=>a7d a e (Fz.ofT b c) b.1 (b04 g)) λ_ _ _ _ _ z=>z
end Lw
end
open PySem PySem.W PyProof.Rows
set_option maxRecDepth 100000 in
set_option maxHeartbeats 0 in
theorem PySem.Challenge.cw_twotimes_k62_changes_laid_on_holds : PySem.Challenge.rw_twotimes_k62_changes_laid_on.Holds := by
 w_on;o_law;k_head;(case hw=>w_witness2)
 k_fill
 refine Lw.walk (l:=PySem.Challenge.rw_twotimes_k62_changes_laid_on) rfl rfl (fun w h Y=>⟨PySem.W.km_in_of Y,PySem.W.km_tabs_of Y _ (.head _)⟩) (fun w=>by kernel_rfl) ?F
 case F=>
  intro w mg fa h KX G hmg;refine' Lw.all_mk KX G hmg ?aa ?ab ?ac ?ad ?ae ?af ?ag ?ah ?ai ?aj ?ak ?al ?am ?an ?ao ?ap ?aq ?ar ?au ?av ?aw ?ax ?ay ?az ?aA ?aB ?aC ?aD ?F ?aE
  all_goals try k_is
  (case ak=>k_exc)
  all_goals try k_is
  (case az=>kit_is)
  (case aA=>kit_is)
  all_goals try k_is
  (case aC=>kernel_rfl)
  (case aD=>decide)
  all_goals (repeat first |exact L2.af0 |exact L2.am0 |exact L2.ab0 |exact L2.an0 | (first |refine' L2.af1 ?_ ?_ ?_ ?_ ?_ |refine' L2.am1 ?_ ?_ ?_ ?_ ?_ ?_ |refine' L2.ab1 ?_ ?_ |refine' L2.an1 ?_ ?_)<;>try k_is)
