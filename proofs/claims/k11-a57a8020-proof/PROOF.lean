import PyProof.Rows.All
import Wide.All
import OpenK.AllK
import Wide.FinOn
import Lean
import PyProof.EqAt
import PyProof.EqKinds
import PyProof.TupleCall
import PyProof.CompFree
import PyProof.P3In
import PyProof.RaisesMany
import PyProof.StationsW
import PyProof.ExcClass3
import PyProof.ExcBaseAll.ValueError
import PyProof.RulesTry
import PyProof.RulesAs
import PyProof.NsDelKeeps
import KE.KTryMore
import PyProof.ExcArgs
import KE.RegKIsAll
import PyProof.Rows.EqDataRows
import KE.KIntText
import KE.KDictOf
import PyProof.StrBlockH
import KE.KWords
import PyProof.CallStr
import PyProof.StrLawsTight
import PyProof.StrLawsChain
import PySem.Challenge.RW_twotimes_k11_told_and_refused
set_option Elab.async false
set_option linter.all false
set_option maxRecDepth 100000
namespace PySem.W.Fast
def tw4894454920899206935 := 0
def tw3209459477551151076 := 0
def tw172266023672053093 := 0
def tw14694397215486604713 := 0
def tw4666173204686346838 := 0
def tw9263066690263069615 := 0
def tw17215243816587832728 := 0
def tw7597257068443717468 := 0
def tw4750434452879980147 := 0
def tw6082766369727972196 := 0
def tw4285596320045479041 := 0
def tw17153686359417592619 := 0
def tw15971604472625369431 := 0
def tw13692221018589381270 := 0
def tw13198981269298143182 := 0
def tw8600598192485715214 := 0
def tw16448627245931404422 := 0
def tw2442063585966496176 := 0
def tw6298361283840732151 := 0
def tw13549437074294058053 := 0
def tw9483671076290006292 := 0
def tw11790134980996380710 := 0
def tw13724547185619676811 := 0
def tw12301246551201842135 := 0
def tw13214745228622784695 := 0
def tw7962547739142584648 := 0
def tw17165157137053003841 := 0
def tw3194515322675806223 := 0
def tw3770310889831185495 := 0
def tw2590243860854500111 := 0
def tw10532280650770681352 := 0
def tw10111148243926429182 := 0
def tw12493105473531467358 := 0
def tw12308844167186733191 := 0
def tw2147316823874625423 := 0
def tw9737210266662865011 := 0
def tw11671486390176373679 := 0
def tw10757455177993787049 := 0
def tw16389180358363757608 := 0
def tw3817570661127734260 := 0
def tw8426322970799822443 := 0
def tw9480613976523557202 := 0
def tw9277090428531280651 := 0
def tw11518934316347300989 := 0
def tw2856868890039752964 := 0
def tw6559895154828202818 := 0
def tw1549472953270927649 := 0
def tw17764686619506244555 := 0
def tw2622679308715915678 := 0
def tw14522079669933868047 := 0
def tw6006305039937994227 := 0
def tw5467000618986805426 := 0
def tw11559457697478893297 := 0
def tw2891802981199902025 := 0
def tw17281565883243122941 := 0
def tw16620293718134920849 := 0
def tw3254047510213805919 := 0
def tw12642839352149190998 := 0
def tw10953048389069538660 := 0
def tw2808464216024779254 := 0
def tw140333055540628517 := 0
def tw3767475579739582961 := 0
def tw3517359665838635943 := 0
def tw16259608018437170623 := 0
def tw16313726917469292453 := 0
def tw13644620848338489414 := 0
def tw13297837448498954083 := 0
def tw16331176292435528396 := 0
def tw6125553901181449795 := 0
def tw5951946159500674161 := 0
def tw7663171584459927815 := 0
def tw1551789722222440144 := 0
def tw4869242159131035539 := 0
def tw16444396774675217894 := 0
def tw18426410274262731175 := 0
def tw899257817539448933 := 0
def tw9137184623739006059 := 0
def tw6428528986349694756 := 0
def tw12882890583577055969 := 0
def tw6877333366339032413 := 0
def tw12669337099802830622 := 0
def tw7010324696808935235 := 0
def tw3563705921654921171 := 0
def tw4878011781536320710 := 0
def tw6630934125292303190 := 0
def tw11342280586077459065 := 0
def tw16497766561498951778 := 0
def tw11280288649732977794 := 0
def tw9023196637764254808 := 0
def tw4174707057890995719 := 0
def tw9395989539998466965 := 0
def tw9162882554541440427 := 0
def tw8804447555988386119 := 0
def tw3341700237710549574 := 0
def tw11267904811531023398 := 0
def tw4606529492449774446 := 0
def tw8411212287303685557 := 0
def tw10396985974012991817 := 0
def tw17211808510433978064 := 0
def tw12696712602988764345 := 0
def tw3154767337379968944 := 0
def tw8651348290716635112 := 0
def tw13692464550963949856 := 0
def tw8285174009650503088 := 0
def tw9775135493899294298 := 0
def tw2614444115465432443 := 0
def tw11096067235896162111 := 0
def tw2300956383454387643 := 0
def tw13884140173744835647 := 0
def tw2615685431571592469 := 0
def tw8396633860991563775 := 0
def tw8139795302050045992 := 0
def tw16536305561683250235 := 0
def tw12629558468645441353 := 0
def tw7886741718186426302 := 0
def tw4185253916721228525 := 0
def tw16101021162977844567 := 0
def tw15492651686107764892 := 0
def tw239150586440662397 := 0
def tw9866714966582454027 := 0
def tw9988866745668025158 := 0
def tw10965793173664784241 := 0
def tw16384823846478821372 := 0
def tw5161970534123753999 := 0
def tw3050864244505633437 := 0
def tw15255878552573000449 := 0
def tw6643118208922400927 := 0
def tw13775180958165324312 := 0
def tw17748103840957416909 := 0
def tw12564752618912619720 := 0
def tw2011910470637171703 := 0
def tw774290656953489968 := 0
def tw460070532373167647 := 0
def tw6886914275281594182 := 0
def tw12350248183956201581 := 0
def tw714748985427191827 := 0
def tw15112461291334862761 := 0
def tw6157675119470696507 := 0
def tw15555561864881437166 := 0
def tw1713198087626214939 := 0
def tw12182334640453298350 := 0
def tw8675365293411518774 := 0
def tw1734908172890248216 := 0
def tw7584646281935041489 := 0
def tw9531646337202961986 := 0
def tw10569647807291823576 := 0
def tw10797990750742408791 := 0
def tw15481027860460711150 := 0
def tw5483948970184785880 := 0
def tw17839948400971026734 := 0
def tw1314001682495653442 := 0
def tw4038779239305824099 := 0
def tw12949756294913373604 := 0
def tw6301620022554317659 := 0
def tw2666403472538469117 := 0
def tw18189089617821112297 := 0
def tw11592577834120374756 := 0
def tw504679709964639936 := 0
def tw1018401918900454109 := 0
def tw10447085866244181124 := 0
def tw3135859123002720148 := 0
def tw4954980868332206137 := 0
def tw17005402710164519691 := 0
def tw13616275123910711447 := 0
def tw16532837882343661891 := 0
def tw14841381979060427014 := 0
def tw13604592564169008366 := 0
def tw7245358607721487332 := 0
def tw6312758241744643588 := 0
def tw16900407942094109095 := 0
def tw15392313578902654030 := 0
def tw774389309001327896 := 0
def tw3834005797456444190 := 0
def tw11449514110303725746 := 0
def tw10258341805980930547 := 0
def tw10776583888785970507 := 0
def tw2461422132811411680 := 0
def tw7377734847893845800 := 0
def tw8319057158472041552 := 0
def tw15055665770799917629 := 0
def tw6024709198435934106 := 0
def tw11865476603886468021 := 0
def tw7427265396791466973 := 0
def tw4925670739401201953 := 0
def tw11395463123540785970 := 0
def tw3290616509463672579 := 0
def tw3246619125932715630 := 0
def tw11355642179152713245 := 0
def tw833177373509552408 := 0
def tw8337916089488531900 := 0
def tw84870119458783911 := 0
def tw11221182597730670386 := 0
def tw3979749618526410240 := 0
def tw3803829128063530434 := 0
def tw13678646085282175318 := 0
def tw5306868860916058840 := 0
def tw11416601180785763254 := 0
def tw3095041717000084546 := 0
def tw18397576478002646290 := 0
def tw922721575745265919 := 0
def tw7310035309703066045 := 0
def tw3813790373463403506 := 0
def tw7861811367173190915 := 0
def tw17483978557920179815 := 0
def tw14889213384916729595 := 0
def tw6882039851869819623 := 0
def tw1147073123561946927 := 0
def tw5731438799083483098 := 0
def tw18359607528579908286 := 0
def tw9179358275454138386 := 0
def tw14396466595679929909 := 0
def tw1453363397650041885 := 0
def tw13713284140322556431 := 0
def tw8265878801567054856 := 0
def tw12848718834209352027 := 0
def tw3148546698511778714 := 0
def tw11252159133504865908 := 0
def tw16368409516402102384 := 0
def tw4853457632974125439 := 0
def tw11593865458710340751 := 0
def tw10312486345518204262 := 0
def tw3401227802592253710 := 0
def tw11694010386116193206 := 0
def tw12369143275802999204 := 0
def tw12585927745922146282 := 0
def tw11033391062575200864 := 0
def tw16099609436253010616 := 0
def tw7576436768566786134 := 0
def tw2326556185597633640 := 0
def tw984404636497042689 := 0
def tw10881497770859598783 := 0
def tw11594803402864811525 := 0
def tw4133037160526351123 := 0
def tw5724550535449311133 := 0
def tw1002415555029901258 := 0
def tw18445823711514463412 := 0
def tw16317924717585302214 := 0
def tw1069168128642241518 := 0
def tw15622506685901297311 := 0
def tw18287598829983748592 := 0
def tw9010104751841067538 := 0
def tw12153823800591322556 := 0
def tw2077956288158262534 := 0
def tw2086953128918595009 := 0
def tw13924474907044955756 := 0
def tw8700594870124011133 := 0
def tw16307085921663210637 := 0
def tw5640635092494849241 := 0
def tw7411478220681441112 := 0
def tw4162041248035826116 := 0
def tw1600352801286892184 := 0
def tw10903908966935937341 := 0
def tw4805277645836486976 := 0
def tw13667652144213663477 := 0
def tw4329455690473829004 := 0
def tw17149261614341026392 := 0
def tw13205017177159440790 := 0
def tw17621806532309146061 := 0
def tw6044298260594490078 := 0
def tw5068283900300876262 := 0
def tw9944498951550454275 := 0
def tw10204304708629009775 := 0
def tw3463065324360494682 := 0
def tw15810764825886852232 := 0
def tw1103291373735992539 := 0
def tw2600333415796291431 := 0
def tw9369563376565923881 := 0
def tw18170111337875598424 := 0
def tw5830718103732797266 := 0
def tw7160918704932427399 := 0
def tw11250373691492641193 := 0
def tw7923028526991215077 := 0
def tw3259318012496341380 := 0
def tw1927182372154168970 := 0
def tw11574285518112090372 := 0
def tw14376940664559214356 := 0
def tw17613326799322608428 := 0
def tw9308074818778294518 := 0
def tw11050393056460339037 := 0
def tw7208653441750447519 := 0
def tw11629886962547882117 := 0
def tw18043938662298945872 := 0
def tw4169261702759396645 := 0
def tw9730283389809259677 := 0
def tw2858098635531916998 := 0
def tw15172736960410163530 := 0
def tw18068878737572408587 := 0
def tw5554008496596417100 := 0
def tw7344150583085993593 := 0
def tw5456177519464342317 := 0
def tw10231752386353966747 := 0
def tw15703113586160600661 := 0
def tw902876348248037062 := 0
def tw4311565961276308897 := 0
def tw9833461726543118738 := 0
def tw12410877851266266777 := 0
def tw14683344085710881871 := 0
def tw5206814913588566891 := 0
def tw8323178556431228282 := 0
def tw1180083873473754663 := 0
def tw13351114667410080372 := 0
def tw3333577388609989943 := 0
def tw17040026581097991709 := 0
def tw421189248728721887 := 0
def tw17037269850870034811 := 0
def tw1464954271045428153 := 0
def tw3343548142804450470 := 0
def tw17569528909138598927 := 0
def tw17749808056162256769 := 0
def tw5297913245944544080 := 0
def tw14150099756347540396 := 0
def tw15209837435359817461 := 0
def tw1893264008977850480 := 0
def tw1311415584298008666 := 0
def tw874300305185725746 := 0
def tw529184849368161034 := 0
def tw77636990857779165 := 0
def tw16705289063385859622 := 0
def tw4053889928902406209 := 0
def tw6927982753806097142 := 0
def tw8930620626769822203 := 0
def tw9289716898446202638 := 0
def tw13374049107775828890 := 0
def tw6718092964182103798 := 0
def tw18010782277427036467 := 0
def tw4734314858103042304 := 0
def tw996676094235021528 := 0
def tw4247802218402889825 := 0
def tw2479899409823994539 := 0
def tw14068737640978371000 := 0
def tw1669882183666580575 := 0
def tw3614214780409139828 := 0
def tw6733394546232030114 := 0
def tw13825274173100346190 := 0
def tw9804156213761202226 := 0
def tw14813080122332115149 := 0
def tw8933567313742507407 := 0
def tw9465412423010352699 := 0
def tw2217277372719987270 := 0
def tw11716630779377910875 := 0
def tw13792764860014195526 := 0
def tw17894128472077336761 := 0
def tw793772779378712460 := 0
def tw6222303770686711671 := 0
def tw4654333193575805694 := 0
def tw8486754400810846829 := 0
def tw16388328913660151118 := 0
def tw7340277877704965673 := 0
def tw1737708598719513503 := 0
def tw2704800386636854121 := 0
def tw6606958071099662703 := 0
def tw1892609018632385018 := 0
def tw16888129375700256142 := 0
def tw14665412827394937830 := 0
def tw2097012400779895478 := 0
def tw2441442390721699558 := 0
def tw5190656340020167577 := 0
def tw7409771326643422744 := 0
def tw1522815999783361702 := 0
def tw12096421950889397943 := 0
def tw1678491540618525062 := 0
def tw10805060711085340029 := 0
def tw378861306790711920 := 0
def tw17409500508485586758 := 0
def tw10343649368405492542 := 0
def tw1416234709808223268 := 0
def tw10623473131708237376 := 0
def tw428868050976331848 := 0
def tw11218586521426512353 := 0
def tw18383079355940308067 := 0
def tw15566424911512222215 := 0
def tw7233067469570206099 := 0
def tw492153426661834927 := 0
def tw11830182856007645004 := 0
def tw17974364007674648232 := 0
def tw5556388361608476911 := 0
def tw13402611346225549857 := 0
def tw7929406891233993052 := 0
def tw9523032621272182467 := 0
def tw11425382066394087796 := 0
def tw997347108275405847 := 0
def tw17821051373486065653 := 0
def tw8360934641035160403 := 0
def tw7208060333545114359 := 0
def tw5200513784873764308 := 0
def tw16761912131776504539 := 0
def tw10148469869477223639 := 0
def tw8380926628857496416 := 0
def tw10558053583637134377 := 0
def tw5305926698899125795 := 0
def tw2200720079890275154 := 0
def tw10456379021244902700 := 0
end PySem.W.Fast
namespace L2
open PySem PySem.Spec PyProof.Rows
abbrev Key := Sum Int Str
def keyIs : Key → Value → Bool
  | .inl k, v => Value.isInt k v
  | .inr x, v => Value.isStrOf x v
def keyH (w : World) : Key → Int
  | .inl k => hashInt k
  | .inr x => hashStr w x
theorem keyIs_shape : ∀ {k : Key} {v : Value}, keyIs k v = true → (∃ i t, k = Sum.inl i ∧ v = Value.int i t) ∨ (∃ x t, k = Sum.inr x ∧ v = Value.str x t)
  | .inl i, v, h => by
    obtain ⟨t, e⟩ := Value.isInt_shape (k := i) (v := v) h
    exact .inl ⟨i, t, rfl, e⟩
  | .inr x, v, h => by
    obtain ⟨t, e⟩ := Value.isStrOf_shape (x := x) (v := v) h
    exact .inr ⟨x, t, rfl, e⟩
theorem keyIs_int (i : Int) (t : Tok) : keyIs (.inl i) (.int i t) = true := by simp [keyIs, Value.isInt]
theorem keyIs_str (x : Str) (t : Tok) : keyIs (.inr x) (.str x t) = true := by simp [keyIs, Value.isStrOf]
theorem key_ll (a b : Int) : decide ((Sum.inl a : Key) = Sum.inl b) = (a == b) := by
  by_cases e : a = b
  · subst e; simp
  · have h : ¬ (Sum.inl a : Key) = Sum.inl b := fun q => e (Sum.inl.inj q)
    rw [decide_eq_false h]
    exact (beq_eq_false_iff_ne.mpr e).symm
theorem key_rr (a b : Str) : decide ((Sum.inr a : Key) = Sum.inr b) = decide (a = b) := by
  by_cases e : a = b
  · subst e; simp
  · have h : ¬ (Sum.inr a : Key) = Sum.inr b := fun q => e (Sum.inr.inj q)
    rw [decide_eq_false h, decide_eq_false e]
theorem key_lr (a : Int) (b : Str) : decide ((Sum.inl a : Key) = Sum.inr b) = false := decide_eq_false (fun q => nomatch q)
theorem key_rl (a : Str) (b : Int) : decide ((Sum.inr a : Key) = Sum.inl b) = false := decide_eq_false (fun q => nomatch q)
def mixKind (prog : Program) (w : World) : PySem.KeyKind prog w Key where
  is := keyIs
  hash := keyH w
  inj := fun v a b ha hb => by
    rcases keyIs_shape ha with ⟨i, t, rfl, rfl⟩ | ⟨x, t, rfl, rfl⟩
    · rcases keyIs_shape hb with ⟨j, u, rfl, e⟩ | ⟨y, u, rfl, e⟩
      · injection e with e1 _; rw [e1]
      · exact nomatch e
    · rcases keyIs_shape hb with ⟨j, u, rfl, e⟩ | ⟨y, u, rfl, e⟩
      · exact nomatch e
      · injection e with e1 _; rw [e1]
  byValue := fun k v h => by
    rcases keyIs_shape h with ⟨i, t, rfl, rfl⟩ | ⟨x, t, rfl, rfl⟩ <;> rfl
  pyHash := fun hv h => by
    rcases keyIs_shape hv with ⟨i, t, rfl, rfl⟩ | ⟨x, t, rfl, rfl⟩
    · exact wpAny_pyHash_int h
    · exact wpAny_pyHash_str h
  eqBool := fun hu hv h => by
    rcases keyIs_shape hu with ⟨i, t, rfl, rfl⟩ | ⟨x, t, rfl, rfl⟩
    · rcases keyIs_shape hv with ⟨j, u, rfl, rfl⟩ | ⟨y, u, rfl, rfl⟩
      · rw [key_ll] at h; exact wpAny_eqBool_int h
      · rw [key_lr] at h; exact SeqAt.EqAt.int_str i t y u _ _ _ _ h
    · rcases keyIs_shape hv with ⟨j, u, rfl, rfl⟩ | ⟨y, u, rfl, rfl⟩
      · rw [key_rl] at h; exact SeqAt.EqAt.str_int x t j u _ _ _ _ h
      · rw [key_rr] at h; exact wpAny_eqBool_str h
  «strs» := fun k x t v h => by
    rcases keyIs_shape h with ⟨i, u, rfl, e⟩ | ⟨y, u, rfl, e⟩
    · exact nomatch e
    · injection e with e1 _
      subst e1
      cases v <;> rfl
theorem mixKind_int (prog : Program) (w : World) (i : Int) (t : Tok) : (mixKind prog w).is (.inl i) (.int i t) = true := keyIs_int i t
theorem mixKind_str (prog : Program) (w : World) (x : Str) (t : Tok) : (mixKind prog w).is (.inr x) (.str x t) = true := keyIs_str x t
end L2
namespace L2
open PySem PySem.Spec PyProof.Rows
inductive V where
  | non | bl (b : Bool) | int (i : Int) | str (x : Str) | byt (b : Array UInt8) | flt (b : UInt64) | ref (a : Addr) | ty (n : String)
  deriving DecidableEq
def RelV : V → Value → Prop
  | .non, u => u = Value.none
  | .bl b, u => u = Value.bool b
  | .int i, u => ∃ t, u = Value.int i t
  | .str x, u => ∃ t, u = Value.str x t
  | .byt b, u => ∃ t, u = Value.bytes b t
  | .flt b, u => ∃ t, u = Value.float b t
  | .ref a, u => u = Value.ref a
  | .ty n, u => u = Value.type n
abbrev Vals : List V → List Value → Prop := Paired RelV
theorem Vals.length {xs : List V} {us : List Value} (r : Vals xs us) : xs.length = us.length := Paired.length r
theorem Vals.get : ∀ {xs : List V} {us : List Value} {i : Nat} {x : V}, Vals xs us → xs[i]? = some x → ∃ u, us[i]? = some u ∧ RelV x u
  | _, _, _, _, .nil, e => by simp at e
  | _, _, 0, _, .cons r _, e => by simp at e; subst e; exact ⟨_, rfl, r⟩
  | _, _, i + 1, x, .cons _ t, e => by
    obtain ⟨u, h1, h2⟩ := Vals.get (i := i) (x := x) t (by simpa using e)
    exact ⟨u, by simpa using h1, h2⟩
theorem Vals.set {x : V} {u : Value} (r : RelV x u) : ∀ {xs : List V} {us : List Value} (i : Nat), Vals xs us → Vals (xs.set i x) (us.set i u)
  | _, _, _, .nil => .nil
  | _, _, 0, .cons _ t => .cons r t
  | _, _, i + 1, .cons q t => .cons q (Vals.set r i t)
theorem Vals.append : ∀ {xs ys : List V} {us ws : List Value}, Vals xs us → Vals ys ws → Vals (xs ++ ys) (us ++ ws)
  | _, _, _, _, .nil, s => s
  | _, _, _, _, .cons r t, s => .cons r (Vals.append t s)
theorem Vals.take : ∀ {xs : List V} {us : List Value} (n : Nat), Vals xs us → Vals (xs.take n) (us.take n)
  | _, _, 0, _ => .nil
  | _, _, _ + 1, .nil => .nil
  | _, _, n + 1, .cons r t => .cons r (Vals.take n t)
theorem Vals.drop : ∀ {xs : List V} {us : List Value} (n : Nat), Vals xs us → Vals (xs.drop n) (us.drop n)
  | _, _, 0, r => r
  | _, _, _ + 1, .nil => .nil
  | _, _, n + 1, .cons _ t => Vals.drop n t
theorem Vals.none_of : ∀ {xs : List V} {us : List Value} {i : Nat}, Vals xs us → xs[i]? = none → us[i]? = none := fun {xs us i} r e => by
  have h1 := r.length
  have h2 : xs.length ≤ i := List.getElem?_eq_none_iff.mp e
  exact List.getElem?_eq_none_iff.mpr (by omega)
def RelO : Option V → Option Value → Prop
  | some v, some u => RelV v u
  | none, none => True
  | _, _ => False
def KV {κ : Type} : List (κ × V) → List (κ × Value) → Prop := Paired fun (p : κ × V) (q : κ × Value) => p.1 = q.1 ∧ RelV p.2 q.2
def kV : Key → V
  | .inl i => .int i
  | .inr x => .str x
inductive HO where
  /-- a list -/
  | lst (xs : List V)
  /-- a tuple (never changes) -/
  | tup (xs : List V)
  /-- a dict whose keys are ints and texts; one whose keys are tuples of ints and texts (the empty one is both) -/
  | dK (kvs : List (Key × V)) | dT (kvs : List (List Key × V))
  /-- a set of ints: its members, its size -/
  | set (S : Int → Bool) (n : Nat)
  /-- an instance of the class at C, its dict at dx, its attributes -/
  | ins (C dx : Addr) (fs : List (Str × V))
  /-- the dict of the instance at x -/
  | own (x : Addr)
  /-- the dict of an exception -/
  | xd (fs : List (Str × V))
  /-- a bound method, f of x -/
  | met (f x : Addr)
  /-- a range object lo, lo + 1, .. below hi -/
  | rng (lo hi : Int)
  /-- a thing that is known to the object (the script; a dict while a loop walks it): read, never written while it is so -/
  | frz (o : Obj) (u : HO)
  /-- a code object's table -/
  | tbl (ps : Array Value)
  /-- any other thing, by what is true of its one object (a def of one's own: SetO a S n := HO.ext fun h => ..) -/
  | ext (φ : Heap → Prop)
abbrev Hp := Addr → Option HO
def upd (H : Hp) (a : Addr) (o : HO) : Hp := fun b => if b = a then some o else H b
theorem upd_same {H : Hp} {a : Addr} {o : HO} : upd H a o a = some o := by unfold upd; rw [if_pos rfl]
theorem upd_ne {H : Hp} {a b : Addr} {o : HO} (h : b ≠ a) : upd H a o b = H b := by unfold upd; rw [if_neg h]
theorem ne_of_none {H : Hp} {a b : Addr} {o : HO} (h : H a = some o) (h' : H b = none) : a ≠ b := by
  intro e; subst e; rw [h] at h'; cases h'
section
variable (P : Program) (w : World)
def ObjOk (H : Hp) (h : Heap) (a : Addr) : HO → Prop
  | .lst xs => xs.length ≤ sizeLine ∧ ∃ (its : List Value) (n : Nat), Vals xs its ∧ h.get? a = some { cls := .type "list", data := .seq its.toArray n }
  | .tup xs => xs.length ≤ sizeLine ∧ ∃ its : List Value, Vals xs its ∧ IsTup h a its.toArray
  | .dK kvs => kvs.length ≤ sizeLine ∧ (a == sysModules) = false ∧ ∃ vs, KV kvs vs ∧ h.DictOf (mixKind P w) a vs
  | .dT kvs => kvs.length ≤ sizeLine ∧ (a == sysModules) = false ∧ ∃ xs : List (List Key × Addr × Value),
      Paired (fun (p : List Key × V) (q : List Key × Addr × Value) => p.1 = q.1 ∧ H q.2.1 = some (.tup (p.1.map kV)) ∧ RelV p.2 q.2.2) kvs xs ∧
      ∃ o es ep, h.get? a = some o ∧ o.ExactDict ∧ o.data = .dict es ep ∧ es.toList = xs.map (entryOfKey (tupleKind (mixKind P w))) ∧ (xs.map (·.1)).Nodup
  | .set S n => h.SetOf (intKind P w) a S n
  | .ins C dx fs => H dx = some (.own a) ∧ fs.length ≤ 1000 ∧ dx ≠ a ∧ h.get? a = some (PySem.W.instObj C dx) ∧
      ∃ mA, h.Ns1 dx mA ∧ (∀ f, RelO (fs.lookup f) (mA f)) ∧ PySem.Within mA (fs.map (·.1))
  | .own _ => ∃ o, h.get? a = some o
  | .xd fs => ∃ mA, h.Ns1 a mA ∧ ∀ f, RelO (fs.lookup f) (mA f)
  | .rng lo hi => ∃ t u v, h.get? a = some { cls := .type "range", data := .fields #[.int lo t, .int hi u, .int 1 v] }
  | .frz o u => h.get? a = some o ∧ ObjOk H h a u
  | .tbl ps => h.get? a = some { cls := .none, data := .fields ps }
  | .met f x => h.get? a = some (PySem.W.methodObj (.ref f) (.ref x))
  | .ext φ => φ h ∧ (∃ o, h.get? a = some o) ∧ ∀ h1 h2 : Heap, φ h1 → (∀ o, h1.get? a = some o → h2.get? a = some o) → φ h2
def HOk (H : Hp) (h : Heap) : Prop := ∀ a o, H a = some o → ObjOk P w H h a o
end
section
variable {P : Program} {w : World} {H H' : Hp} {h h' : Heap} {a : Addr} {o : HO}
theorem ObjOk.lt (x : ObjOk P w H h a o) : a < h.objs.size := by
  cases o with
  | lst xs => obtain ⟨_, _, _, _, e⟩ := x; exact Heap.lt_size e
  | tup xs => obtain ⟨_, _, _, p⟩ := x; exact p.lt
  | dK kvs => obtain ⟨_, _, _, _, o, _, _, e, _⟩ := x; exact Heap.lt_size e
  | dT kvs => obtain ⟨_, _, _, _, o, _, _, e, _⟩ := x; exact Heap.lt_size e
  | set S n => obtain ⟨o, _, _, _, e, _⟩ := x; exact Heap.lt_size e
  | ins C dx fs => obtain ⟨_, _, _, e, _⟩ := x; exact Heap.lt_size e
  | own y => obtain ⟨_, e⟩ := x; exact Heap.lt_size e
  | xd fs => obtain ⟨_, ⟨_, _, _, e, _⟩, _⟩ := x; exact Heap.lt_size e
  | rng lo hi => obtain ⟨_, _, _, e⟩ := x; exact Heap.lt_size e
  | frz ob u => obtain ⟨e, _⟩ := x; exact Heap.lt_size e
  | tbl ps => exact Heap.lt_size (show h.get? a = some _ from x)
  | met f y => exact Heap.lt_size (show h.get? a = some _ from x)
  | ext φ => obtain ⟨_, ⟨_, e⟩, _⟩ := x; exact Heap.lt_size e
theorem Paired.mapP {α β : Type} {F G : α → β → Prop} : ∀ {l₁ : List α} {l₂ : List β}, Paired F l₁ l₂ → (∀ a b, F a b → G a b) → Paired G l₁ l₂
  | _, _, .nil, _ => .nil
  | _, _, .cons r t, f => .cons (f _ _ r) (Paired.mapP t f)
theorem ObjOk.stay (x : ObjOk P w H h a o) (k : ∀ b u, (b = a ∨ H b = some (.own a)) → h.get? b = some u → h'.get? b = some u)
    (ho : ∀ b, H b = some (.own a) → H' b = some (.own a)) (ht : ∀ b xs, H b = some (.tup xs) → H' b = some (.tup xs)) : ObjOk P w H' h' a o := by
  induction o with
  | lst xs => obtain ⟨z, its, n, r, e⟩ := x; exact ⟨z, its, n, r, k _ _ (.inl rfl) e⟩
  | tup xs => obtain ⟨z, its, r, ob, e, c⟩ := x; exact ⟨z, its, r, ob, k _ _ (.inl rfl) e, c⟩
  | dK kvs => obtain ⟨z, y, vs, r, ob, es, ep, e, c⟩ := x; exact ⟨z, y, vs, r, ob, es, ep, k _ _ (.inl rfl) e, c⟩
  | dT kvs =>
    obtain ⟨z, y, xs, r, ob, es, ep, e, c⟩ := x
    exact ⟨z, y, xs, Paired.mapP r fun p q z => ⟨z.1, ht _ _ z.2.1, z.2.2⟩, ob, es, ep, k _ _ (.inl rfl) e, c⟩
  | set S n => obtain ⟨ob, es, ep, t, e, c⟩ := x; exact ⟨ob, es, ep, t, k _ _ (.inl rfl) e, c⟩
  | ins C dx fs =>
    obtain ⟨d, z, ne, e, mA, ⟨od, es, ep, e2, c⟩, r⟩ := x
    exact ⟨ho _ d, z, ne, k _ _ (.inl rfl) e, mA, ⟨od, es, ep, k _ _ (.inr d) e2, c⟩, r⟩
  | own y => obtain ⟨ob, e⟩ := x; exact ⟨ob, k _ _ (.inl rfl) e⟩
  | xd fs => obtain ⟨mA, ⟨od, es, ep, e, c⟩, r⟩ := x; exact ⟨mA, ⟨od, es, ep, k _ _ (.inl rfl) e, c⟩, r⟩
  | rng lo hi => obtain ⟨t, u, v, e⟩ := x; exact ⟨t, u, v, k _ _ (.inl rfl) e⟩
  | frz ob u ih => obtain ⟨e, q⟩ := x; exact ⟨k _ _ (.inl rfl) e, ih q⟩
  | tbl ps =>
    have e : h.get? a = some { cls := .none, data := .fields ps } := x
    show h'.get? a = some { cls := .none, data := .fields ps }
    exact k a _ (.inl rfl) e
  | met f y =>
    have e : h.get? a = some (PySem.W.methodObj (.ref f) (.ref y)) := x
    show h'.get? a = some (PySem.W.methodObj (.ref f) (.ref y))
    exact k a _ (.inl rfl) e
  | ext φ => obtain ⟨p, ⟨o, e⟩, st⟩ := x; exact ⟨st _ _ p fun o q => k _ _ (.inl rfl) q, ⟨o, k _ _ (.inl rfl) e⟩, st⟩
theorem HOk.lt (x : HOk P w H h) (e : H a = some o) : a < h.objs.size := (x a o e).lt
theorem HOk.fresh (x : HOk P w H h) (e : h.objs.size ≤ a) : H a = none := by
  cases q : H a with
  | none => rfl
  | some u => exact absurd (Nat.lt_of_lt_of_le (x.lt q) e) (Nat.lt_irrefl _)
theorem HOk.kept (x : HOk P w H h) (k : ∀ b u, h.get? b = some u → h'.get? b = some u) : HOk P w H h' := fun a o e =>
  (x a o e).stay (fun b u _ q => k b u q) (fun _ q => q) fun _ _ q => q
theorem HOk.laid (x : HOk P w H h) (k : ∀ b u, h.get? b = some u → h'.get? b = some u) (hp : h.objs.size ≤ a) (new : ObjOk P w (upd H a o) h' a o) : HOk P w (upd H a o) h' := fun b u e => by
  have hn := x.fresh hp
  by_cases hb : b = a
  · subst hb; rw [upd_same] at e; cases e; exact new
  · rw [upd_ne hb] at e
    exact (x b u e).stay (fun c v _ q => k c v q) (fun c q => by rw [upd_ne (ne_of_none q hn)]; exact q) fun c xs q => by rw [upd_ne (ne_of_none q hn)]; exact q
end
def Rd (H : Hp) (a : Addr) (u : HO) : Prop := H a = some u ∨ ∃ o, H a = some (.frz o u)
theorem Rd.of {H : Hp} {a : Addr} {u : HO} (h : H a = some u) : Rd H a u := .inl h
theorem Rd.ok {P : Program} {w : World} {H : Hp} {h : Heap} {a : Addr} {u : HO} (r : Rd H a u) (x : HOk P w H h) : ObjOk P w H h a u := by
  rcases r with r | ⟨o, r⟩
  · exact x a u r
  · obtain ⟨_, q⟩ := x a _ r
    exact q
def Mut : Option HO → Prop
  | some (.lst _) => True
  | some (.dK _) => True
  | some (.dT _) => True
  | some (.set _ _) => True
  | some (.ins _ _ _) => True
  | some (.ext _) => True
  | _ => False
section
variable {P : Program} {w : World} {H : Hp} {h h' : Heap} {x e : Addr} {o' : HO}
theorem HOk.write (ok : HOk P w H h) (mu : Mut (H x)) (he : e = x ∨ H e = some (.own x)) (k : ∀ b u, b ≠ e → h.get? b = some u → h'.get? b = some u) (heo : ∃ u, h'.get? e = some u)
    (new : ObjOk P w (upd H x o') h' x o') : HOk P w (upd H x o') h' := fun b u q => by
  have nown : ∀ c y, H c = some (.own y) → c ≠ x := fun c y r z => by subst z; rw [r] at mu; exact mu
  have ntup : ∀ c xs, H c = some (.tup xs) → c ≠ x := fun c xs r z => by subst z; rw [r] at mu; exact mu
  by_cases hb : b = x
  · subst hb; rw [upd_same] at q; cases q; exact new
  · rw [upd_ne hb] at q
    by_cases hbe : b = e
    · have q' : H b = some (.own x) := by
        rcases he with z | z
        · exact absurd (hbe.trans z) hb
        · rw [hbe]; exact z
      rw [q] at q'; cases q'
      obtain ⟨v, hv⟩ := heo
      exact ⟨v, by rw [hbe]; exact hv⟩
    · refine (ok b u q).stay (fun c v hc r => k c v ?_ r) (fun c r => by rw [upd_ne (nown c b r)]; exact r) fun c xs r => by rw [upd_ne (ntup c xs r)]; exact r
      rcases hc with rfl | hc
      · exact hbe
      · rintro rfl
        rcases he with z | z
        · exact nown c b hc z
        · rw [hc] at z; cases z; exact hb rfl
end
structure Un (fs ex : List Addr) (H H' : Hp) (h h' : Heap) : Prop where
  keep : ∀ b o, h.get? b = some o → H b = none → b ∉ fs → b ∉ ex → h'.get? b = some o
  slot : ∀ b o, h.get? b = some o → H b = none → b ∈ fs → b ∉ ex → ∃ sl, h'.get? b = some { o with slots := sl }
  free : ∀ b o, h.get? b = some o → H b = none → b ∉ ex → H' b = none
  there : ∀ b o, h.get? b = some o → b ∉ ex → ∃ o', h'.get? b = some o'
  tups : ∀ b xs, H b = some (.tup xs) → H' b = some (.tup xs)
  frzs : ∀ b o u, H b = some (.frz o u) → H' b = some (.frz o u)
  tbls : ∀ b ps, H b = some (.tbl ps) → ∃ more, H' b = some (.tbl (ps ++ more))
section
variable {fs fs' ex ex' : List Addr} {H H1 H2 : Hp} {h h1 h2 h' : Heap} {a x e : Addr} {o : HO}
theorem Un.any (u : Un fs ex H H1 h h1) {b : Addr} {ob : Obj} (q : h.get? b = some ob) (n : H b = none) (hx : b ∉ ex) : ∃ sl, h1.get? b = some { ob with slots := sl } := by
  by_cases hb : b ∈ fs
  · exact u.slot b ob q n hb hx
  · exact ⟨ob.slots, u.keep b ob q n hb hx⟩
theorem Un.trans (a : Un fs ex H H1 h h1) (b : Un fs ex H1 H2 h1 h2) : Un fs ex H H2 h h2 where
  keep := fun c ob q n hc hx => b.keep c ob (a.keep c ob q n hc hx) (a.free c ob q n hx) hc hx
  slot := fun c ob q n hc hx => by
    obtain ⟨sl, e1⟩ := a.slot c ob q n hc hx
    obtain ⟨sl', e2⟩ := b.slot c _ e1 (a.free c ob q n hx) hc hx
    exact ⟨sl', e2⟩
  free := fun c ob q n hx => by
    obtain ⟨o', e1⟩ := a.there c ob q hx
    exact b.free c o' e1 (a.free c ob q n hx) hx
  there := fun c ob q hx => by
    obtain ⟨o', e1⟩ := a.there c ob q hx
    exact b.there c o' e1 hx
  tups := fun c xs q => b.tups c xs (a.tups c xs q)
  frzs := fun c ob xs q => b.frzs c ob xs (a.frzs c ob xs q)
  tbls := fun c ps q => by
    obtain ⟨m1, e1⟩ := a.tbls c ps q
    obtain ⟨m2, e2⟩ := b.tbls c _ e1
    exact ⟨m1 ++ m2, by rw [e2, Array.append_assoc]⟩
theorem Un.kept (k : ∀ b u, h.get? b = some u → h'.get? b = some u) : Un fs ex H H h h' :=
  ⟨fun b ob q _ _ _ => k b ob q, fun b ob q _ _ _ => ⟨ob.slots, k b ob q⟩, fun _ _ _ n _ => n, fun b ob q _ => ⟨ob, k b ob q⟩, fun _ _ q => q, fun _ _ _ q => q, fun _ ps q => ⟨#[], by rw [q]; simp⟩⟩
theorem Un.refl : Un fs ex H H h h := Un.kept fun _ _ q => q
theorem Un.laid (k : ∀ b u, h.get? b = some u → h'.get? b = some u) (hp : h.objs.size ≤ a) (hn : H a = none) : Un fs ex H (upd H a o) h h' where
  keep := fun b u q _ _ _ => k b u q
  slot := fun b u q _ _ _ => ⟨u.slots, k b u q⟩
  free := fun b u q n _ => by rw [upd_ne (Nat.ne_of_lt (Nat.lt_of_lt_of_le (Heap.lt_size q) hp))]; exact n
  there := fun b u q _ => ⟨u, k b u q⟩
  tups := fun b xs q => by rw [upd_ne (ne_of_none q hn)]; exact q
  frzs := fun b u xs q => by rw [upd_ne (ne_of_none q hn)]; exact q
  tbls := fun b ps q => ⟨#[], by rw [upd_ne (ne_of_none q hn), q]; simp⟩
theorem Un.write (mu : Mut (H x)) (he : e = x ∨ H e = some (.own x)) (k : ∀ b u, b ≠ e → h.get? b = some u → h'.get? b = some u) (heo : ∃ u, h'.get? e = some u) : Un fs ex H (upd H x o) h h' := by
  have hx : ∀ b, H b = none → b ≠ x := fun b n z => by subst z; rw [n] at mu; exact mu
  have hb : ∀ b, H b = none → b ≠ e := fun b n z => by
    subst z
    rcases he with r | r
    · exact hx b n r
    · rw [n] at r; cases r
  have hm : ∀ b u, H b = some u → ¬ Mut (some u) → b ≠ x := fun b u q nm z => by subst z; rw [q] at mu; exact nm mu
  refine ⟨fun b u q n _ _ => k b u (hb b n) q, fun b u q n _ _ => ⟨u.slots, k b u (hb b n) q⟩, fun b u q n _ => by rw [upd_ne (hx b n)]; exact n, fun b u q _ => ?_,
    fun b xs q => by rw [upd_ne (hm b _ q fun z => z)]; exact q, fun b u xs q => by rw [upd_ne (hm b _ q fun z => z)]; exact q, fun b ps q => ⟨#[], by rw [upd_ne (hm b _ q fun z => z), q]; simp⟩⟩
  by_cases hbe : b = e
  · subst hbe; exact heo
  · exact ⟨u, k b u hbe q⟩
theorem Un.mono (u : Un fs ex H H1 h h1) (hs : ∀ b ∈ fs, b ∈ fs') (hx : ∀ b ∈ ex, b ∈ ex') : Un fs' ex' H H1 h h1 :=
  ⟨fun b ob q n hb he => u.keep b ob q n (fun z => hb (hs b z)) fun z => he (hx b z), fun _ _ q n _ he => u.any q n fun z => he (hx _ z), fun b ob q n he => u.free b ob q n fun z => he (hx b z), fun b ob q he => u.there b ob q fun z => he (hx b z), u.tups, u.frzs, u.tbls⟩
end
def trk (h : Heap) (H : Hp) : List Addr := (List.range h.objs.size).filter fun a => (H a).isSome
def hidT (h : Heap) (H : Hp) : Heap := PySem.W.hideAll h (trk h H)
theorem hidT_size (h : Heap) (H : Hp) : (hidT h H).objs.size = h.objs.size := PySem.W.hideAll_size _ _
theorem hidT_get {h : Heap} {H : Hp} {b : Addr} {o : Obj} (e : h.get? b = some o) (n : H b = none) : (hidT h H).get? b = some o :=
  PySem.W.hideAll_get _ e fun hm => by
    have q : (H b).isSome = true := (List.mem_filter.mp hm).2
    rw [n] at q; simp at q
theorem of_hidT {h : Heap} {H : Hp} {b : Addr} {o : Obj} (e : (hidT h H).get? b = some o) : h.get? b = some o ∧ H b = none := by
  have e' : h.get? b = some o := PySem.W.of_hideAll (trk h H) e
  refine ⟨e', ?_⟩
  cases q : H b with
  | none => rfl
  | some x =>
    have hm : b ∈ trk h H := List.mem_filter.mpr ⟨List.mem_range.mpr (Heap.lt_size e'), by simp [q]⟩
    have z : (hidT h H).get? b = none := PySem.W.hideAll_none (trk h H) hm
    rw [z] at e; cases e
def allNews (g h : Heap) (L : Addr) : List (Addr × Obj) := (List.range h.objs.size).filterMap fun a => if a = L ∨ (g.get? a).isSome = true then none else (h.get? a).map fun o => (a, o)
def rest (g h : Heap) (L d : Addr) : List (Addr × Obj) := (allNews g h L).filter fun p => decide (p.1 ≠ d)
end L2
namespace L2
open PySem PySem.Spec PyProof.Rows
structure Mod (K : PySem.W.Frag) (mg : Str → Option Value) (base : Heap) : Prop where
  kin : K.In base
  glob : base.Ns mainGlobals mg
  blt : ∃ mb, base.Ns builtinsNs mb ∧ ∀ x : Str, x ≠ "__name__" → mb x = bootBuiltins x
  nolimit : base.NoLimit
structure Cx where
  prog : Program
  w : World
  K : PySem.W.Frag
  mg : Str → Option Value
  base : Heap
  A : Around
  N : List Str
  s₀ : Shared
  H₀ : Hp
  env : Env
  outer : List Env
  stack : List Env
  ex : List Addr
  fn : Str → Bool
  calm : Bool
  pn : List (Addr × Obj)
  xe : Value → Shared → Prop
def frs (l : List Env) : List Addr := l.filterMap (·.frame)
abbrev Cx.fs (X : Cx) : List Addr := frs X.outer
def Vis (sc : Scope) (x : Str) : Prop := sc.names.lookup x = some .local ∨ sc.names.lookup x = some .cell ∨ sc.names.lookup x = some .free
def Loc (sc : Scope) (x : Str) : Prop := sc.names.lookup x = some .local ∨ sc.names.lookup x = some .cell
def Look (env : Env) (h : Heap) (m : Str → Option Value) (x : Str) (u : Value) : Prop :=
  (env.kindOf x = some .local ∧ m x = some u) ∨ ((env.kindOf x = some .cell ∨ env.kindOf x = some .free) ∧ ∃ c, env.cells.lookup x = some c ∧ h.IsCell c (some u))
structure Cx.Ok (X : Cx) : Prop where
  mod : Mod X.K X.mg X.base
  kind : X.env.scope.kind = .function
  glob : X.env.globals = mainGlobals
  blt : X.env.builtins = builtinsNs
  above : X.s₀.heap.objs.size ≤ X.env.locals
  inj : ∀ x y c, X.env.cells.lookup x = some c → X.env.cells.lookup y = some c → x = y
  has : ∀ x, (X.env.kindOf x = some .cell ∨ X.env.kindOf x = some .free) → ∃ c, X.env.cells.lookup x = some c
  cab : ∀ x c, X.fn x = true → X.env.cells.lookup x = some c → X.s₀.heap.objs.size ≤ c
  hd : X.calm = true → X.A.handled = none
  frames : X.A.frames = some X.stack
  stk : X.stack = X.outer ∨ (X.stack = X.env :: X.outer ∧ X.env.frame = some X.env.locals)
  exf : ∀ b ∈ X.ex, b ≠ X.env.locals ∧ ∀ x c, X.env.cells.lookup x = some c → c ≠ b
  bs : ∀ b o, X.base.get? b = some o → X.s₀.heap.get? b = some o ∧ X.H₀ b = none
  bsz : X.base.objs.size ≤ X.s₀.heap.objs.size
  noex : ∀ b o, X.base.get? b = some o → b ∉ X.ex
  exfs : ∀ b ∈ X.ex, b ∉ X.fs
  funs : X.s₀.heap.FunFrames X.base X.outer
  frf : ∀ b ∈ X.fs, X.H₀ b = none
structure Inv (X : Cx) (pins : List (Addr × Obj)) (σ : List (Option V)) (H : Hp) (s : Shared) : Prop where
  ok : X.Ok
  os : s.os = X.s₀.os
  bare : AllBare s.gens
  base : Un X.fs X.ex X.H₀ H X.s₀.heap s.heap
  loc : ∃ m, s.heap.Ns X.env.locals m ∧ ∀ (i : Nat) (x : Str) (v : V), X.N[i]? = some x → σ[i]? = some (some v) → Vis X.env.scope x → ∃ u, RelV v u ∧ Look X.env s.heap m x u
  cell : ∀ x c, X.env.cells.lookup x = some c → ∃ v, s.heap.IsCell c v
  free : H X.env.locals = none
  freeC : ∀ x c, X.env.cells.lookup x = some c → H c = none
  pin : ∀ p ∈ X.pn ++ pins, s.heap.get? p.1 = some p.2 ∧ H p.1 = none ∧ p.1 ≠ X.env.locals ∧ p.1 ∉ X.fs ∧ ∀ v, p.2.data ≠ .cell v
  hok : HOk X.prog X.w H s.heap
  len : σ.length = X.N.length
section
variable {X : Cx} {pins : List (Addr × Obj)} {σ : List (Option V)} {H H' : Hp} {s : Shared} {h' : Heap}
theorem Cx.Ok.nofr (ok : X.Ok) {b : Addr} {o : Obj} (e : X.base.get? b = some o) : b ∉ X.fs := fun hb => by
  have := (ok.funs.mem hb).1
  rw [e] at this; cases this
theorem Inv.bs (I : Inv X pins σ H s) : ∀ b o, X.base.get? b = some o → s.heap.get? b = some o ∧ H b = none := fun b o e =>
  ⟨I.base.keep b o (I.ok.bs b o e).1 (I.ok.bs b o e).2 (I.ok.nofr e) (I.ok.noex b o e), I.base.free b o (I.ok.bs b o e).1 (I.ok.bs b o e).2 (I.ok.noex b o e)⟩
theorem Inv.bk (I : Inv X pins σ H s) : ∀ b o, X.base.get? b = some o → s.heap.get? b = some o := fun b o e => (I.bs b o e).1
theorem Inv.mod (I : Inv X pins σ H s) : Mod X.K X.mg X.base := I.ok.mod
theorem Inv.kIn (I : Inv X pins σ H s) : X.K.In s.heap := I.ok.mod.kin.keeps I.bk
theorem Inv.nolimit (I : Inv X pins σ H s) : s.heap.NoLimit := I.ok.mod.nolimit.keeps I.bk
theorem Inv.fr (I : Inv X pins σ H s) : ∃ m, Fr X.base X.env.locals s.heap m :=
  let ⟨m, hn, _⟩ := I.loc
  ⟨m, hn, I.bk, Nat.le_trans I.ok.bsz I.ok.above⟩
theorem Inv.lt (I : Inv X pins σ H s) : X.env.locals < s.heap.objs.size := let ⟨_, hn, _⟩ := I.loc; hn.lt
theorem Inv.sz (I : Inv X pins σ H s) : X.s₀.heap.objs.size ≤ s.heap.objs.size := Nat.le_trans I.ok.above (Nat.le_of_lt I.lt)
theorem Inv.nofs (I : Inv X pins σ H s) {a : Addr} (h : s.heap.objs.size ≤ a) : a ∉ X.fs := fun hb => by
  obtain ⟨_, o, ho, _⟩ := I.ok.funs.mem hb
  exact absurd (Nat.lt_of_lt_of_le (Heap.lt_size ho) (Nat.le_trans I.sz h)) (Nat.lt_irrefl _)
theorem Inv.cne (I : Inv X pins σ H s) : ∀ x c, X.env.cells.lookup x = some c → c ≠ X.env.locals := fun x c e z => by
  obtain ⟨v, o, ho, hd⟩ := I.cell x c e
  obtain ⟨m, ⟨o', es, ep, ho', hd', _⟩, _⟩ := I.loc
  rw [z, ho'] at ho; cases ho; rw [hd'] at hd; cases hd
theorem Inv.funs (I : Inv X pins σ H s) : s.heap.FunFrames X.base X.outer := by
  have all : ∀ (l : List Env), (∀ b ∈ frs l, b ∈ X.fs) → X.s₀.heap.FunFrames X.base l → s.heap.FunFrames X.base l := by
    intro l
    induction l with
    | nil => intro _ _; trivial
    | cons env r ih =>
      intro hs hl
      obtain ⟨hk, ⟨L, o, hf, hn, ho, hd⟩, hr⟩ := hl
      have hL : L ∈ X.fs := hs L (by unfold frs; rw [List.filterMap_cons, hf]; exact List.mem_cons_self)
      obtain ⟨sl, e⟩ := I.base.slot L o ho (I.ok.frf L hL) hL fun z => I.ok.exfs L z hL
      exact ⟨hk, ⟨L, _, hf, hn, e, hd⟩, ih (fun b hb => hs b (by unfold frs; rw [List.filterMap_cons, hf]; exact List.mem_cons_of_mem _ hb)) hr⟩
  exact all X.outer (fun _ hb => hb) I.ok.funs
theorem Inv.stack (I : Inv X pins σ H s) : s.heap.FunFrames X.base X.stack := by
  rcases I.ok.stk with e | ⟨e, hf⟩
  · rw [e]; exact I.funs
  · rw [e]
    obtain ⟨m, hn, _⟩ := I.loc
    refine .cons (by rw [I.ok.kind]; decide) hf hn ?_ I.funs
    exact Heap.get?_none_of_le (Nat.le_trans I.ok.bsz I.ok.above)
theorem Inv.stkSub (I : Inv X pins σ H s) : ∀ b ∈ frs X.stack, b ∈ X.env.locals :: X.fs := fun b hb => by
  rcases I.ok.stk with e | ⟨e, hf⟩
  · rw [e] at hb; exact List.mem_cons_of_mem _ hb
  · rw [e] at hb
    unfold frs at hb
    rw [List.filterMap_cons, hf] at hb
    exact hb
theorem Inv.stkFree (I : Inv X pins σ H s) : ∀ b ∈ frs X.stack, H b = none := fun b hb => by
  rcases List.mem_cons.mp (I.stkSub b hb) with e | hb
  · rw [e]; exact I.free
  · obtain ⟨_, o, ho, _⟩ := I.ok.funs.mem hb
    exact I.base.free b o ho (I.ok.frf b hb) fun z => I.ok.exfs b z hb
theorem Inv.step {g' : Array GenState} {t' : Nat} {d' : Drawn} {ch : List Addr} (I : Inv X pins σ H s)
    (hch : ∀ b ∈ ch, (b ∈ X.ex ∨ X.s₀.heap.objs.size ≤ b) ∧ b ≠ X.env.locals ∧ (∀ x c, X.env.cells.lookup x = some c → c ≠ b) ∧ ∀ p ∈ X.pn ++ pins, p.1 ≠ b)
    (keep : ∀ b o, b ≠ X.env.locals → b ∉ X.fs → b ∉ ch → s.heap.get? b = some o → H b = none → h'.get? b = some o)
    (slot : ∀ b o, b ≠ X.env.locals → b ∈ X.fs → b ∉ ch → s.heap.get? b = some o → H b = none → ∃ sl, h'.get? b = some { o with slots := sl }) (free : ∀ b o, b ∉ ch → s.heap.get? b = some o → H b = none → H' b = none)
    (there : ∀ b o, b ∉ ch → s.heap.get? b = some o → ∃ o', h'.get? b = some o')
    (tups : ∀ b xs, H b = some (.tup xs) → H' b = some (.tup xs)) (frzs : ∀ b o u, H b = some (.frz o u) → H' b = some (.frz o u)) (tbls : ∀ b ps, H b = some (.tbl ps) → ∃ more, H' b = some (.tbl (ps ++ more)))
    (ns : ∀ m, s.heap.Ns X.env.locals m → h'.Ns X.env.locals m) (hok : HOk X.prog X.w H' h') (hg : AllBare g') :
    Inv X pins σ H' { s with heap := h', gens := g', drawn := d', toks := t' } := by
  have neL : ∀ b o, X.s₀.heap.get? b = some o → b ≠ X.env.locals := fun b o e => Nat.ne_of_lt (Nat.lt_of_lt_of_le (Heap.lt_size e) I.ok.above)
  have neC : ∀ b o, X.s₀.heap.get? b = some o → b ∉ X.ex → b ∉ ch := fun b o e hx hb => by
    rcases (hch b hb).1 with z | z
    · exact hx z
    · exact absurd (Nat.lt_of_lt_of_le (Heap.lt_size e) z) (Nat.lt_irrefl _)
  have cellK : ∀ x c, X.env.cells.lookup x = some c → ∀ v, s.heap.IsCell c v → h'.IsCell c v := fun x c e v ⟨o, ho, hd⟩ => by
    have nch : c ∉ ch := fun z => (hch c z).2.2.1 x c e rfl
    by_cases hc : c ∈ X.fs
    · obtain ⟨sl, q⟩ := slot c o (I.cne x c e) hc nch ho (I.freeC x c e)
      exact ⟨_, q, hd⟩
    · exact ⟨o, keep c o (I.cne x c e) hc nch ho (I.freeC x c e), hd⟩
  refine ⟨I.ok, I.os, hg, ⟨fun b o e n hb hx => ?_, fun b o e n hb hx => ?_, fun b o e n hx => ?_, fun b o e hx => ?_, fun b xs e => tups b xs (I.base.tups b xs e), fun b o xs e => frzs b o xs (I.base.frzs b o xs e), fun b ps e => ?_⟩, ?_, fun x c e => ?_, ?_, fun x c e => ?_, fun p hp => ?_, hok, I.len⟩
  · exact keep b o (neL b o e) hb (neC b o e hx) (I.base.keep b o e n hb hx) (I.base.free b o e n hx)
  · obtain ⟨sl, e1⟩ := I.base.slot b o e n hb hx
    obtain ⟨sl', e2⟩ := slot b _ (neL b o e) hb (neC b o e hx) e1 (I.base.free b o e n hx)
    exact ⟨sl', e2⟩
  · obtain ⟨o', e1⟩ := I.base.there b o e hx
    exact free b o' (neC b o e hx) e1 (I.base.free b o e n hx)
  · obtain ⟨o', e1⟩ := I.base.there b o e hx
    exact there b o' (neC b o e hx) e1
  · obtain ⟨m1, e1⟩ := I.base.tbls b ps e
    obtain ⟨m2, e2⟩ := tbls b _ e1
    exact ⟨m1 ++ m2, by rw [e2, Array.append_assoc]⟩
  · obtain ⟨m, hn, hl⟩ := I.loc
    refine ⟨m, ns m hn, fun i x v e1 e2 e3 => ?_⟩
    obtain ⟨u, r, l⟩ := hl i x v e1 e2 e3
    refine ⟨u, r, ?_⟩
    rcases l with l | ⟨k, c, e, z⟩
    · exact .inl l
    · exact .inr ⟨k, c, e, cellK x c e _ z⟩
  · obtain ⟨v, z⟩ := I.cell x c e
    exact ⟨v, cellK x c e v z⟩
  · obtain ⟨m, ⟨o, _, _, ho, _⟩, _⟩ := I.loc
    exact free _ o (fun z => (hch _ z).2.1 rfl) ho I.free
  · obtain ⟨v, o, ho, hd⟩ := I.cell x c e
    exact free c o (fun z => (hch c z).2.2.1 x c e rfl) ho (I.freeC x c e)
  · obtain ⟨e, n, ne, nf, d⟩ := I.pin p hp
    have nch : p.1 ∉ ch := fun z => (hch p.1 z).2.2.2 p hp rfl
    exact ⟨keep p.1 p.2 ne nf nch e n, free p.1 p.2 nch e n, ne, nf, d⟩
theorem Inv.un {t' : Nat} (I : Inv X pins σ H s) (u : Un X.fs [] H H' s.heap h') (hok : HOk X.prog X.w H' h') : Inv X pins σ H' { s with heap := h', toks := t' } := by
  obtain ⟨m, ⟨o, es, ep, ho, r⟩, _⟩ := id I.loc
  obtain ⟨sl, hL⟩ := u.any ho I.free (by simp)
  exact I.step (g' := s.gens) (d' := s.drawn) (ch := []) (fun _ z => nomatch z) (fun b o _ hb _ e n => u.keep b o e n hb (by simp)) (fun b o _ hb _ e n => u.slot b o e n hb (by simp)) (fun b o _ e n => u.free b o e n (by simp)) (fun b o _ e => u.there b o e (by simp)) u.tups u.frzs u.tbls (fun m' hm => by
    obtain ⟨o', es', ep', ho', r'⟩ := hm
    rw [ho] at ho'; cases ho'
    exact ⟨_, es', ep', hL, r'⟩) hok I.bare
theorem Inv.call {g' : Array GenState} {t' : Nat} {d' : Drawn} {ch : List Addr} (I : Inv X pins σ H s) (u : Un (frs X.stack) ch H H' s.heap h') (hok : HOk X.prog X.w H' h') (hg : AllBare g')
    (hch : ∀ b ∈ ch, (b ∈ X.ex ∨ X.s₀.heap.objs.size ≤ b) ∧ b ≠ X.env.locals ∧ (∀ x c, X.env.cells.lookup x = some c → c ≠ b) ∧ ∀ p ∈ X.pn ++ pins, p.1 ≠ b) :
    Inv X pins σ H' { s with heap := h', gens := g', drawn := d', toks := t' } := by
  obtain ⟨m, ⟨o, es, ep, ho, r⟩, _⟩ := id I.loc
  obtain ⟨sl, hL⟩ := u.any ho I.free fun z => (hch _ z).2.1 rfl
  exact I.step (ch := ch) hch (fun b o hL hb hc e n => u.keep b o e n (fun z => (List.mem_cons.mp (I.stkSub b z)).elim hL hb) hc) (fun b o _ _ hc e n => u.any e n hc) (fun b o hc e n => u.free b o e n hc) (fun b o hc e => u.there b o e hc) u.tups u.frzs u.tbls (fun m' hm => by
    obtain ⟨o', es', ep', ho', r'⟩ := hm
    rw [ho] at ho'; cases ho'
    exact ⟨_, es', ep', hL, r'⟩) hok hg
theorem Inv.turned {t' : Nat} {it : Addr} (I : Inv X pins σ H s) (k : ∀ b o, b ≠ it → s.heap.get? b = some o → h'.get? b = some o) (hn : H it = none) (hL : it ≠ X.env.locals)
    (h1 : it ∈ X.ex ∨ X.s₀.heap.objs.size ≤ it) (h2 : ∀ x c, X.env.cells.lookup x = some c → c ≠ it) (h3 : ∀ p ∈ X.pn ++ pins, p.1 ≠ it) : Inv X pins σ H { s with heap := h', toks := t' } := by
  have nit : ∀ b u, H b = some u → b ≠ it := fun b u e z => by rw [z, hn] at e; cases e
  refine I.step (g' := s.gens) (d' := s.drawn) (ch := [it]) (fun b hb => ?_) (fun b o _ _ hc e _ => k b o (fun z => hc (by simp [z])) e) (fun b o _ _ hc e _ => ⟨o.slots, k b o (fun z => hc (by simp [z])) e⟩) (fun _ _ _ _ n => n)
    (fun b o hc e => ⟨o, k b o (fun z => hc (by simp [z])) e⟩) (fun _ _ e => e) (fun _ _ _ e => e) (fun b ps e => ⟨#[], by rw [e]; simp⟩) (fun m hm => ?_) (fun b u e => ?_) I.bare
  · have e : b = it := by simpa using hb
    subst e
    exact ⟨h1, hL, h2, h3⟩
  · obtain ⟨o, es, ep, ho, r⟩ := hm
    exact ⟨o, es, ep, k _ o (Ne.symm hL) ho, r⟩
  · refine (I.hok b u e).stay (fun c v hc q => k c v ?_ q) (fun _ q => q) fun _ _ q => q
    rcases hc with z | z
    · rw [z]; exact nit b u e
    · exact nit c _ z
theorem Inv.tok (I : Inv X pins σ H s) (t : Nat) : Inv X pins σ H { s with toks := t } := I.un (h' := s.heap) (t' := t) Un.refl I.hok
theorem Inv.kept {t' : Nat} (I : Inv X pins σ H s) (k : ∀ b u, s.heap.get? b = some u → h'.get? b = some u) : Inv X pins σ H { s with heap := h', toks := t' } := I.un (Un.kept k) (I.hok.kept k)
theorem Inv.laid {a : Addr} {o : HO} {t' : Nat} (I : Inv X pins σ H s) (k : ∀ b u, s.heap.get? b = some u → h'.get? b = some u) (hp : s.heap.objs.size ≤ a) (new : ObjOk X.prog X.w (upd H a o) h' a o) :
    Inv X pins σ (upd H a o) { s with heap := h', toks := t' } := I.un (Un.laid k hp (I.hok.fresh hp)) (I.hok.laid k hp new)
theorem Inv.write {x e : Addr} {o : HO} {t' : Nat} (I : Inv X pins σ H s) (mu : Mut (H x)) (he : e = x ∨ H e = some (.own x)) (k : ∀ b u, b ≠ e → s.heap.get? b = some u → h'.get? b = some u) (heo : ∃ u, h'.get? e = some u)
    (new : ObjOk X.prog X.w (upd H x o) h' x o) : Inv X pins σ (upd H x o) { s with heap := h', toks := t' } := I.un (Un.write mu he k heo) (I.hok.write mu he k heo new)
theorem Inv.weak {σ' : List (Option V)} (I : Inv X pins σ H s) (hl : σ'.length = σ.length) (w : ∀ (i : Nat) v, σ'[i]? = some (some v) → σ[i]? = some (some v)) : Inv X pins σ' H s :=
  ⟨I.ok, I.os, I.bare, I.base, let ⟨m, hn, hl'⟩ := I.loc; ⟨m, hn, fun i x v e1 e2 e3 => hl' i x v e1 (w i v e2) e3⟩, I.cell, I.free, I.freeC, I.pin, I.hok, hl.trans I.len⟩
theorem Inv.pins_of {pins' : List (Addr × Obj)} (I : Inv X pins σ H s) (h : ∀ p ∈ pins', s.heap.get? p.1 = some p.2 ∧ H p.1 = none ∧ p.1 ≠ X.env.locals ∧ p.1 ∉ X.fs ∧ ∀ v, p.2.data ≠ .cell v) : Inv X pins' σ H s :=
  ⟨I.ok, I.os, I.bare, I.base, I.loc, I.cell, I.free, I.freeC, fun p hp => (List.mem_append.mp hp).elim (fun z => I.pin p (List.mem_append_left _ z)) (h p), I.hok, I.len⟩
theorem nodup_ix {N : List Str} (hN : N.Nodup) {i j : Nat} {x : Str} (a : N[i]? = some x) (b : N[j]? = some x) : i = j := by
  obtain ⟨h1, e1⟩ := List.getElem?_eq_some_iff.mp a
  obtain ⟨h2, e2⟩ := List.getElem?_eq_some_iff.mp b
  exact (List.getElem_inj hN).mp (e1.trans e2.symm)
theorem store_ok2 {M : Model} {A : Around} {E : Value → Shared → Prop} {i : Nat} {x : Str} {v : V} {u : Value} {Q : Unit → Shared → Prop} (I : Inv X pins σ H s) (hN : X.N.Nodup) (hi : X.N[i]? = some x) (hx : Loc X.env.scope x) (r : RelV v u)
    (h : ∀ s', Inv X pins (σ.set i (some v)) H s' → (∃ a, Heap.SameBut a s.heap s'.heap ∧ (a = X.env.locals ∨ X.env.cells.lookup x = some a)) → Q () s') (hf : X.fn x = true ∨ X.env.scope.names.lookup x = some .local := by first | exact .inl rfl | exact .inr rfl | assumption) : wpAny M A (storeName X.env x u) Q E s := by
  obtain ⟨m, hn, hl⟩ := id I.loc
  have hcls : (X.env.scope.kind == .class || (X.env.scope.kind == .module && X.env.locals != X.env.globals)) = false := by rw [I.ok.kind]; rfl
  have hiσ : i < σ.length := by rw [I.len]; exact (List.getElem?_eq_some_iff.mp hi).1
  have cne := I.cne
  have tracked : ∀ {a : Addr} {h' : Heap}, (∃ o, s.heap.get? a = some o ∧ H a = none) → Heap.SameBut a s.heap h' → HOk X.prog X.w H h' := fun {a h'} ha hs b ob e => by
    obtain ⟨_, _, hfree⟩ := ha
    refine (I.hok b ob e).stay (fun c w' hc q => (hs.2 c ?_).trans q) (fun _ q => q) fun _ _ q => q
    rintro rfl
    rcases hc with rfl | hc
    · rw [hfree] at e; cases e
    · rw [hfree] at hc; cases hc
  rcases hx with hk | hk
  · refine wpAny_storeName_local hk hn (fun h' hn' hs => ?_) hcls
    obtain ⟨oL, _, _, hoL, _⟩ := id hn
    refine h _ ⟨I.ok, I.os, I.bare, ⟨fun b o e n hb hx => ?_, fun b o e n hb hx => ?_, I.base.free, fun b o e hx => ?_, I.base.tups, I.base.frzs, I.base.tbls⟩, ⟨_, hn', fun j y v' e1 e2 e3 => ?_⟩, fun y c e => ?_, I.free, I.freeC, fun p hp => ?_, tracked ⟨oL, hoL, I.free⟩ hs, by simpa using I.len⟩ ⟨_, hs, .inl rfl⟩
    · exact (hs.2 b (Nat.ne_of_lt (Nat.lt_of_lt_of_le (Heap.lt_size e) I.ok.above))).trans (I.base.keep b o e n hb hx)
    · obtain ⟨sl, e1⟩ := I.base.slot b o e n hb hx
      exact ⟨sl, (hs.2 b (Nat.ne_of_lt (Nat.lt_of_lt_of_le (Heap.lt_size e) I.ok.above))).trans e1⟩
    · obtain ⟨o', e1⟩ := I.base.there b o e hx
      exact ⟨o', (hs.2 b (Nat.ne_of_lt (Nat.lt_of_lt_of_le (Heap.lt_size e) I.ok.above))).trans e1⟩
    · by_cases hj : j = i
      · subst hj
        rw [hi] at e1; cases e1
        rw [List.getElem?_set_self hiσ] at e2
        cases e2
        exact ⟨u, r, .inl ⟨hk, by simp⟩⟩
      · rw [List.getElem?_set_ne (Ne.symm hj)] at e2
        obtain ⟨u', r', q⟩ := hl j y v' e1 e2 e3
        refine ⟨u', r', ?_⟩
        rcases q with ⟨k, e⟩ | ⟨k, c, e, z⟩
        · refine .inl ⟨k, ?_⟩
          have : y ≠ x := fun e => hj (nodup_ix hN e1 (e ▸ hi))
          simp [this, e]
        · exact .inr ⟨k, c, e, z.sameBut hs (cne y c e)⟩
    · obtain ⟨w', z⟩ := I.cell y c e
      exact ⟨w', z.sameBut hs (cne y c e)⟩
    · obtain ⟨e, n, ne, nf, d⟩ := I.pin p hp
      exact ⟨(hs.2 p.1 ne).trans e, n, ne, nf, d⟩
  · have hfn : X.fn x = true := by
      rcases hf with z | z
      · exact z
      · rw [z] at hk; cases hk
    obtain ⟨c, hc⟩ := I.ok.has x (.inl hk)
    obtain ⟨w', z⟩ := I.cell x c hc
    refine wpAny_storeName_cell I.ok.kind hk hc z (fun h' hc' hs => ?_)
    obtain ⟨oc, hoc, hocd⟩ := id z
    refine h { s with heap := h' } ⟨I.ok, I.os, I.bare, ⟨fun b o e n hb hx => ?_, fun b o e n hb hx => ?_, I.base.free, fun b o e hx => ?_, I.base.tups, I.base.frzs, I.base.tbls⟩, ⟨m, hn.sameBut hs (Ne.symm (cne x c hc)), fun j y v' e1 e2 e3 => ?_⟩, fun y c' e => ?_, I.free, I.freeC, fun p hp => ?_, tracked ⟨oc, hoc, I.freeC x c hc⟩ hs, by simpa using I.len⟩ ⟨c, hs, .inr hc⟩
    · exact (hs.2 b (Nat.ne_of_lt (Nat.lt_of_lt_of_le (Heap.lt_size e) (I.ok.cab x c hfn hc)))).trans (I.base.keep b o e n hb hx)
    · obtain ⟨sl, e1⟩ := I.base.slot b o e n hb hx
      exact ⟨sl, (hs.2 b (Nat.ne_of_lt (Nat.lt_of_lt_of_le (Heap.lt_size e) (I.ok.cab x c hfn hc)))).trans e1⟩
    · obtain ⟨o', e1⟩ := I.base.there b o e hx
      exact ⟨o', (hs.2 b (Nat.ne_of_lt (Nat.lt_of_lt_of_le (Heap.lt_size e) (I.ok.cab x c hfn hc)))).trans e1⟩
    · by_cases hj : j = i
      · subst hj
        rw [hi] at e1; cases e1
        rw [List.getElem?_set_self hiσ] at e2
        cases e2
        exact ⟨u, r, .inr ⟨.inl hk, c, hc, hc'⟩⟩
      · rw [List.getElem?_set_ne (Ne.symm hj)] at e2
        obtain ⟨u', r', q⟩ := hl j y v' e1 e2 e3
        refine ⟨u', r', ?_⟩
        rcases q with q | ⟨k, c', e, z'⟩
        · exact .inl q
        · refine .inr ⟨k, c', e, z'.sameBut hs ?_⟩
          rintro rfl
          exact hj (nodup_ix hN e1 (I.ok.inj _ _ _ e hc ▸ hi))
    · by_cases hcc : c' = c
      · subst hcc; exact ⟨_, hc'⟩
      · obtain ⟨w2, z2⟩ := I.cell y c' e
        exact ⟨w2, z2.sameBut hs hcc⟩
    · obtain ⟨e, n, ne, nf, d⟩ := I.pin p hp
      refine ⟨(hs.2 p.1 ?_).trans e, n, ne, nf, d⟩
      intro q
      rw [q, hoc] at e
      have q' : oc = p.2 := Option.some.inj e
      exact d w' (by rw [← q']; exact hocd)
theorem store_ok {M : Model} {A : Around} {E : Value → Shared → Prop} {i : Nat} {x : Str} {v : V} {u : Value} {Q : Unit → Shared → Prop} (I : Inv X pins σ H s) (hN : X.N.Nodup) (hi : X.N[i]? = some x) (hx : Loc X.env.scope x) (r : RelV v u)
    (h : ∀ s', Inv X pins (σ.set i (some v)) H s' → Q () s') (hf : X.fn x = true ∨ X.env.scope.names.lookup x = some .local := by first | exact .inl rfl | exact .inr rfl | assumption) : wpAny M A (storeName X.env x u) Q E s :=
  store_ok2 I hN hi hx r (fun s' I' _ => h s' I') hf
theorem Inv.call' {s' : Shared} {ch : List Addr} (I : Inv X pins σ H s) (ho : s'.os = s.os) (u : Un (frs X.stack) ch H H' s.heap s'.heap) (hok : HOk X.prog X.w H' s'.heap) (hg : AllBare s'.gens)
    (hch : ∀ b ∈ ch, (b ∈ X.ex ∨ X.s₀.heap.objs.size ≤ b) ∧ b ≠ X.env.locals ∧ (∀ x c, X.env.cells.lookup x = some c → c ≠ b) ∧ ∀ p ∈ X.pn ++ pins, p.1 ≠ b) : Inv X pins σ H' s' := by
  obtain ⟨h', g', d', t', o'⟩ := s'
  have e : o' = s.os := ho
  subst e
  exact I.call (g' := g') (t' := t') (d' := d') u hok hg hch
end
abbrev XK := Value → Option Addr → Hp → Prop
abbrev St := List (Option V)
abbrev VK := V → Hp → Prop
abbrev TE := St → Hp → VK → Prop
abbrev TT := St → Hp → (Bool → Hp → Prop) → Prop
abbrev TA := St → Hp → (List V → Hp → Prop) → Prop
structure Ends where
  nx : St → Hp → Prop
  rt : VK
  bk : St → Hp → Prop := fun _ _ => False
  ct : St → Hp → Prop := fun _ _ => False
abbrev TS := Ends → St → Hp → Prop
def EP (X : Cx) (pins : List (Addr × Obj)) (σ : St) (Q : VK) (u : Value) (s' : Shared) : Prop := ∃ v H', Inv X pins σ H' s' ∧ RelV v u ∧ Q v H'
def TP (X : Cx) (pins : List (Addr × Obj)) (σ : St) (Q : Bool → Hp → Prop) (b : Bool) (s' : Shared) : Prop := ∃ H', Inv X pins σ H' s' ∧ Q b H'
def AP (X : Cx) (pins : List (Addr × Obj)) (σ : St) (Q : List V → Hp → Prop) (us : List Value) (s' : Shared) : Prop := ∃ vs H', Inv X pins σ H' s' ∧ Vals vs us ∧ Q vs H'
def SP (X : Cx) (pins : List (Addr × Obj)) (D : Ends) (f : Flow) (s' : Shared) : Prop :=
  match f with
  | .next => ∃ σ' H', Inv X pins σ' H' s' ∧ D.nx σ' H'
  | .brk => ∃ σ' H', Inv X pins σ' H' s' ∧ D.bk σ' H'
  | .cont => ∃ σ' H', Inv X pins σ' H' s' ∧ D.ct σ' H'
  | .ret u => ∃ v σ' H', Inv X pins σ' H' s' ∧ RelV v u ∧ D.rt v H'
def PE (X : Cx) (e : Expr) (t : TE) : Prop :=
  ∀ (pins : List (Addr × Obj)) (s : Shared) (σ : St) (H : Hp) (Q : VK), Inv X pins σ H s → t σ H Q → wpAny (model X.prog X.w) X.A (eval e X.env) (EP X pins σ Q) X.xe s
def PT (X : Cx) (e : Expr) (t : TT) : Prop :=
  ∀ (pins : List (Addr × Obj)) (s : Shared) (σ : St) (H : Hp) (Q : Bool → Hp → Prop), Inv X pins σ H s → t σ H Q → wpAny (model X.prog X.w) X.A (isTrue e X.env (eval e X.env)) (TP X pins σ Q) X.xe s
def PW (X : Cx) (e : Expr) (t : TT) : Prop :=
  ∀ (whole : Sem Value) (pins : List (Addr × Obj)) (s : Shared) (σ : St) (H : Hp) (Q : Bool → Hp → Prop), Inv X pins σ H s → t σ H Q → wpAny (model X.prog X.w) X.A (isTrue e X.env whole) (TP X pins σ Q) X.xe s
theorem PW.pt {X : Cx} {e : Expr} {t : TT} (h : PW X e t) : PT X e t := h _
def PA (X : Cx) (es : List Expr) (t : TA) : Prop :=
  ∀ (pos : Pos) (pins : List (Addr × Obj)) (s : Shared) (σ : St) (H : Hp) (Q : List V → Hp → Prop), Inv X pins σ H s → t σ H Q → wpAny (model X.prog X.w) X.A (spliced (backTo pos (starEach es X.env))) (AP X pins σ Q) X.xe s
def PS (X : Cx) (st : Stmt) (t : TS) : Prop :=
  ∀ (pins : List (Addr × Obj)) (s : Shared) (σ : St) (H : Hp) (D : Ends), Inv X pins σ H s → t D σ H → wpAny (model X.prog X.w) X.A (exec st X.env) (SP X pins D) X.xe s
def PSs (X : Cx) (st : List Stmt) (t : TS) : Prop :=
  ∀ (pins : List (Addr × Obj)) (s : Shared) (σ : St) (H : Hp) (D : Ends), Inv X pins σ H s → t D σ H → wpAny (model X.prog X.w) X.A (execs st X.env) (SP X pins D) X.xe s
theorem thn {α : Type} {t : Sem α} {Q Q' : α → Shared → Prop} {M : Model} {A : Around} {E : Value → Shared → Prop} {s : Shared} (h : wpAny M A t Q E s) (hQ : ∀ a s, Q a s → Q' a s) : wpAny M A t Q' E s := wpAny_mono h hQ fun _ _ x => x
end L2
namespace L2
open PySem PySem.Spec PyProof.Rows
section
variable {X : Cx}
def tVar (i : Nat) : TE := fun σ H Q => ∃ v, σ[i]? = some (some v) ∧ Q v H
def tC (v : V) : TE := fun _ H Q => Q v H
theorem pe_var {i : Nat} {x : Str} {pos : Pos} (hN : X.N[i]? = some x) (hv : Vis X.env.scope x) (hd : (x == ("__debug__" : Str)) = false := by decide) (hcd : (x == ("__classdict__" : Str)) = false := by decide) : PE X (.Name x pos) (tVar i) := by
  intro pins s σ H Q I h
  obtain ⟨v, e, h⟩ := h
  obtain ⟨m, hn, hl⟩ := I.loc
  obtain ⟨u, r, l⟩ := hl i x v hN e hv
  have fin : EP X pins σ Q u s := ⟨v, H, I, r, h⟩
  rcases l with ⟨hk, hm⟩ | ⟨hk, c, hc, hcell⟩
  · exact wpAny_Name (wpAny_loadName_local I.ok.kind hk hn hm fin) hd
  · rcases hk with hk | hk
    · exact wpAny_Name (wpAny_loadName_cell I.ok.kind hk hc hcell fin) hd
    · exact wpAny_Name (wpAny_loadName_free I.ok.kind hk hc hcell fin hcd) hd
theorem pe_int {i j pos} : PE X (.Constant (.int i) j pos) (tC (.int i)) := fun _ _ _ H _ I h => wpAny_Constant_int ⟨.int i, H, I.tok _, ⟨_, rfl⟩, h⟩
theorem pe_bl {b j pos} : PE X (.Constant (.bool b) j pos) (tC (.bl b)) := fun _ _ _ H _ I h => Constant_bool ⟨.bl b, H, I, rfl, h⟩
theorem pe_non {j pos} : PE X (.Constant .none j pos) (tC .non) := fun _ _ _ H _ I h => Constant_none ⟨.non, H, I, rfl, h⟩
theorem pe_str {x j pos} : PE X (.Constant (.str x) j pos) (tC (.str x)) := fun _ _ _ H _ I h => Calls.Constant_str ⟨.str x, H, I.tok _, ⟨_, rfl⟩, h⟩
def Gl (X : Cx) (x : Str) : Prop := X.env.kindOf x = some .globalImplicit
theorem ld_glob {E : Value → Shared → Prop} {pins : List (Addr × Obj)} {s : Shared} {σ : St} {H : Hp} {x : Str} {u : Value} {pos : Pos} {Q : Value → Shared → Prop} (I : Inv X pins σ H s) (hg : Gl X x) (hm : X.mg x = some u) (h : Q u s)
    (hd : (x == ("__debug__" : Str)) = false := by decide) : wpAny (model X.prog X.w) X.A (eval (.Name x pos) X.env) Q E s :=
  Calls.Name_function_global I.ok.kind hg (Calls.loadGlobal_global (by rw [I.ok.glob]; exact I.mod.glob.keeps I.bk) hm h) hd
theorem ld_blt {E : Value → Shared → Prop} {pins : List (Addr × Obj)} {s : Shared} {σ : St} {H : Hp} {x : Str} {u : Value} {pos : Pos} {Q : Value → Shared → Prop} (I : Inv X pins σ H s) (hg : Gl X x) (hm : X.mg x = none) (hv : bootBuiltins x = some u) (h : Q u s)
    (hn : x ≠ "__name__" := by decide) (hd : (x == ("__debug__" : Str)) = false := by decide) : wpAny (model X.prog X.w) X.A (eval (.Name x pos) X.env) Q E s := by
  obtain ⟨mb, h1, h2⟩ := I.mod.blt
  exact Calls.Name_function_global I.ok.kind hg (Calls.loadGlobal_builtin (by rw [I.ok.glob]; exact I.mod.glob.keeps I.bk) hm (by rw [I.ok.blt]; exact h1.keeps I.bk) ((h2 x hn).trans hv) h) hd
theorem pe_glob {x : Str} {v : V} {u : Value} {pos : Pos} (hg : Gl X x) (hm : X.mg x = some u) (r : RelV v u) (hd : (x == ("__debug__" : Str)) = false := by decide) : PE X (.Name x pos) (tC v) :=
  fun _ _ _ H _ I h => ld_glob I hg hm ⟨v, H, I, r, h⟩ hd
theorem pe_bltn {x : Str} {v : V} {u : Value} {pos : Pos} (hg : Gl X x) (hm : X.mg x = none) (hv : bootBuiltins x = some u) (r : RelV v u) (hn : x ≠ "__name__" := by decide) (hd : (x == ("__debug__" : Str)) = false := by decide) : PE X (.Name x pos) (tC v) :=
  fun _ _ _ H _ I h => ld_blt I hg hm hv ⟨v, H, I, r, h⟩ hn hd
variable {a b : Expr} {ta tb : TE} {pos : Pos}
def PC (X : Cx) (op : CmpOp) (a b : Expr) (t : TE) : Prop :=
  ∀ (pins : List (Addr × Obj)) (s : Shared) (σ : St) (H : Hp) (Q : VK), Inv X pins σ H s → t σ H Q →
    wpAny (model X.prog X.w) X.A (eval a X.env) (fun v s₁ => wpAny (model X.prog X.w) X.A (eval b X.env) (fun u s₂ => wpAny (model X.prog X.w) X.A (compareOp op v u) (EP X pins σ Q) X.xe s₂) X.xe s₁) X.xe s
def tB (t : TE) : TT := fun σ H Q => t σ H fun x H1 => ∃ c, x = .bl c ∧ Q c H1
theorem pt_val {e : Expr} {t : TE} (h : PE X e t) (he : ∀ whole, isTrue e X.env whole = (do let v ← whole; standAt e.pos; holding [v] (truthy v)) := by intro _; rfl) : PT X e (tB t) := by
  intro pins s σ H Q I hw
  refine isTrue_plain (thn (h pins s σ H _ I hw) fun v s1 ⟨x, H1, I1, r1, q1⟩ => ?_) (he _)
  obtain ⟨d, rfl, q⟩ := q1
  cases r1
  exact wpAny_truthy_bool ⟨H1, I1, q⟩
variable {tA tB' : TT} {rest : List Expr}
def tAnd (t u : TT) : TT := fun σ H Q => t σ H fun c H1 => if c = true then u σ H1 Q else Q false H1
def tOr (t u : TT) : TT := fun σ H Q => t σ H fun c H1 => if c = true then Q true H1 else u σ H1 Q
def tNot (t : TT) : TT := fun σ H Q => t σ H fun c H1 => Q (!c) H1
theorem pw_and1 (ha : PT X a tA) : PW X (.BoolOp .And [a] pos) tA := by
  intro wh pins s σ H Q I h
  refine isTrue_and (thn (ha pins s σ H Q I h) fun c s1 e => ?_)
  cases c with
  | true => exact isTrue_and_nil e
  | false => exact e
theorem pw_or1 (ha : PT X a tA) : PW X (.BoolOp .Or [a] pos) tA := by
  intro wh pins s σ H Q I h
  refine isTrue_or (thn (ha pins s σ H Q I h) fun c s1 e => ?_)
  cases c with
  | false => exact isTrue_or_nil e
  | true => exact e
theorem pw_and (ha : PT X a tA) (hb : PW X (.BoolOp .And (b :: rest) pos) tB') : PW X (.BoolOp .And (a :: b :: rest) pos) (tAnd tA tB') := by
  intro wh pins s σ H Q I h
  refine isTrue_and (thn (ha pins s σ H _ I h) fun c s1 ⟨H1, I1, q1⟩ => ?_)
  cases c with
  | true => exact hb wh pins s1 σ H1 Q I1 q1
  | false => exact ⟨H1, I1, q1⟩
theorem pw_or (ha : PT X a tA) (hb : PW X (.BoolOp .Or (b :: rest) pos) tB') : PW X (.BoolOp .Or (a :: b :: rest) pos) (tOr tA tB') := by
  intro wh pins s σ H Q I h
  refine isTrue_or (thn (ha pins s σ H _ I h) fun c s1 ⟨H1, I1, q1⟩ => ?_)
  cases c with
  | true => exact ⟨H1, I1, q1⟩
  | false => exact hb wh pins s1 σ H1 Q I1 q1
theorem pt_not (ha : PT X a tA) : PT X (.UnaryOp .Not a pos) (tNot tA) := by
  intro pins s σ H Q I h
  exact isTrue_not (ha pins s σ H (fun c H1 => Q (!c) H1) I h)
def tAndV (ta tb : TE) : TE := fun σ H Q => ta σ H fun x H1 => ∃ c, x = .bl c ∧ if c = true then tb σ H1 Q else Q (.bl false) H1
def tNotV (ta : TE) : TE := fun σ H Q => ta σ H fun x H1 => ∃ c, x = .bl c ∧ Q (.bl (!c)) H1
theorem pe_one {op} {t : TE} (h : PE X a t) : PE X (.BoolOp op [a] pos) t := fun pins s σ H Q I hw => BoolOp_one (h pins s σ H Q I hw)
theorem pe_and (ha : PE X a ta) (hb : PE X (.BoolOp .And (b :: rest) pos) tb) : PE X (.BoolOp .And (a :: b :: rest) pos) (tAndV ta tb) := by
  intro pins s σ H Q I h
  refine BoolOp_and (thn (ha pins s σ H _ I h) fun v s1 ⟨x, H1, I1, r1, q1⟩ => ?_)
  obtain ⟨c, rfl, q1⟩ := q1
  cases r1
  refine wpAny_truthy_bool ?_
  cases c with
  | true => exact hb pins s1 σ H1 Q I1 q1
  | false => exact ⟨.bl false, H1, I1, rfl, q1⟩
theorem pe_not (ha : PE X a ta) : PE X (.UnaryOp .Not a pos) (tNotV ta) := by
  intro pins s σ H Q I h
  refine UnaryOp_ (thn (ha pins s σ H _ I h) fun v s1 ⟨x, H1, I1, r1, q1⟩ => ?_)
  obtain ⟨c, rfl, q1⟩ := q1
  cases r1
  exact not_of (wpAny_truthy_bool ⟨.bl (!c), H1, I1, rfl, q1⟩)
def tIf (t : TT) (ta tb : TE) : TE := fun σ H Q => t σ H fun c H1 => if c = true then ta σ H1 Q else tb σ H1 Q
theorem pe_ifExp {c : Expr} (hc : PT X c tA) (ha : PE X a ta) (hb : PE X b tb) : PE X (.IfExp c a b pos) (tIf tA ta tb) := by
  intro pins s σ H Q I h
  refine wpAny_IfExp (thn (hc pins s σ H _ I h) fun d s1 ⟨H1, I1, q1⟩ => ?_)
  cases d with
  | true => exact ha pins s1 σ H1 Q I1 q1
  | false => exact hb pins s1 σ H1 Q I1 q1
end
end L2
namespace L2
open PySem PySem.Spec PyProof.Rows
def SqL (K : PySem.W.Frag) (H : Hp) (a : Addr) (xs : List V) : Prop :=
  Rd H a (.lst xs) ∨
    ∃ (o : Obj) (its : Array Value) (n : Nat), K.lookup a = some o ∧ o.cls = .type "list" ∧ o.dict = none ∧ o.data = .seq its n ∧ its.size ≤ sizeLine ∧ Vals xs its.toList
def SqT (K : PySem.W.Frag) (H : Hp) (a : Addr) (xs : List V) : Prop :=
  Rd H a (.tup xs) ∨
    ∃ (o : Obj) (its : Array Value) (n : Nat), K.lookup a = some o ∧ o.cls = .type "tuple" ∧ o.data = .seq its n ∧ its.size ≤ sizeLine ∧ Vals xs its.toList
def absV : Value → Option V
  | .none => some .non
  | .bool b => some (.bl b)
  | .int i _ => some (.int i)
  | .str x _ => some (.str x)
  | .bytes b _ => some (.byt b)
  | .float b _ => some (.flt b)
  | .ref a => some (.ref a)
  | .type n => some (.ty n)
  | _ => none
theorem RelV.abs {x : V} {u : Value} (r : RelV x u) : absV u = some x := by
  cases x with
  | non => cases r; rfl
  | bl _ => cases r; rfl
  | int _ => obtain ⟨t, rfl⟩ := r; rfl
  | str _ => obtain ⟨t, rfl⟩ := r; rfl
  | byt _ => obtain ⟨t, rfl⟩ := r; rfl
  | flt _ => obtain ⟨t, rfl⟩ := r; rfl
  | ref _ => cases r; rfl
  | ty _ => cases r; rfl
theorem RelV.inj {x y : V} {u : Value} (r : RelV x u) (q : RelV y u) : x = y := Option.some.inj (r.abs.symm.trans q.abs)
theorem Vals.inj : ∀ {xs ys : List V} {us : List Value}, Vals xs us → Vals ys us → xs = ys
  | _, _, _, .nil, .nil => rfl
  | _, _, _, .cons r t, .cons r' t' => by rw [r.inj r', Vals.inj t t']
section
variable {X : Cx} {pins : List (Addr × Obj)} {σ : St} {H : Hp} {s : Shared} {a : Addr} {xs ys : List V}
theorem SqL.of {K : PySem.W.Frag} (h : H a = some (.lst xs)) : SqL K H a xs := .inl (.inl h)
theorem SqT.of {K : PySem.W.Frag} (h : H a = some (.tup xs)) : SqT K H a xs := .inl (.inl h)
theorem Inv.list (I : Inv X pins σ H s) (h : SqL X.K H a xs) : ∃ its : List Value, Vals xs its ∧ PlainL s.heap a its.toArray ∧ xs.length ≤ sizeLine := by
  rcases h with h | ⟨o, its, n, hk, hc, hd, hs, hz, r⟩
  · obtain ⟨z, its, n, r, e⟩ := h.ok I.hok
    exact ⟨its, r, ⟨_, n, e, rfl, rfl, rfl⟩, z⟩
  · refine ⟨its.toList, r, ⟨o, n, I.kIn a o hk, hc, hd, by simpa using hs⟩, ?_⟩
    have e := r.length
    simp only [Array.length_toList] at e
    omega
theorem Inv.tuple (I : Inv X pins σ H s) (h : SqT X.K H a xs) : ∃ its : List Value, Vals xs its ∧ IsTup s.heap a its.toArray ∧ xs.length ≤ sizeLine := by
  rcases h with h | ⟨o, its, n, hk, hc, hs, hz, r⟩
  · obtain ⟨z, its, r, p⟩ := h.ok I.hok
    exact ⟨its, r, p, z⟩
  · refine ⟨its.toList, r, ⟨o, I.kIn a o hk, hc, n, by simpa using hs⟩, ?_⟩
    have e := r.length
    simp only [Array.length_toList] at e
    omega
theorem Inv.list_inj (I : Inv X pins σ H s) (h : SqL X.K H a xs) (h' : SqL X.K H a ys) : xs = ys := by
  obtain ⟨its, r, ⟨o, n, e, _, _, d⟩, _⟩ := I.list h
  obtain ⟨its', r', ⟨o', n', e', _, _, d'⟩, _⟩ := I.list h'
  rw [e] at e'; cases e'
  rw [d] at d'
  injection d' with d1 _
  have : its = its' := by simpa using congrArg Array.toList d1
  subst this
  exact r.inj r'
theorem Inv.tuple_inj (I : Inv X pins σ H s) (h : SqT X.K H a xs) (h' : SqT X.K H a ys) : xs = ys := by
  obtain ⟨its, r, ⟨o, e, _, n, d⟩, _⟩ := I.tuple h
  obtain ⟨its', r', ⟨o', e', _, n', d'⟩, _⟩ := I.tuple h'
  rw [e] at e'; cases e'
  rw [d] at d'
  injection d' with d1 _
  have : its = its' := by simpa using congrArg Array.toList d1
  subst this
  exact r.inj r'
end
abbrev Cx.wish (X : Cx) (E : Value → Shared → Prop) : Cx := { X with xe := E }
abbrev Cx.nox (X : Cx) : Cx := X.wish fun _ _ => False
theorem Cx.Ok.wish {X : Cx} (ok : X.Ok) (E : Value → Shared → Prop) : (X.wish E).Ok :=
  ⟨ok.mod, ok.kind, ok.glob, ok.blt, ok.above, ok.inj, ok.has, ok.cab, ok.hd, ok.frames, ok.stk, ok.exf, ok.bs, ok.bsz, ok.noex, ok.exfs, ok.funs, ok.frf⟩
theorem Cx.Ok.unwish {X : Cx} {E : Value → Shared → Prop} (ok : (X.wish E).Ok) : X.Ok :=
  ⟨ok.mod, ok.kind, ok.glob, ok.blt, ok.above, ok.inj, ok.has, ok.cab, ok.hd, ok.frames, ok.stk, ok.exf, ok.bs, ok.bsz, ok.noex, ok.exfs, ok.funs, ok.frf⟩
section
variable {X : Cx} {pins : List (Addr × Obj)} {σ : St} {H : Hp} {s : Shared} {E : Value → Shared → Prop}
theorem Inv.wish (I : Inv X pins σ H s) (E : Value → Shared → Prop) : Inv (X.wish E) pins σ H s := ⟨I.ok.wish E, I.os, I.bare, I.base, I.loc, I.cell, I.free, I.freeC, I.pin, I.hok, I.len⟩
theorem Inv.unwish (I : Inv (X.wish E) pins σ H s) : Inv X pins σ H s := ⟨I.ok.unwish, I.os, I.bare, I.base, I.loc, I.cell, I.free, I.freeC, I.pin, I.hok, I.len⟩
theorem SP.unwish {D : Ends} {f : Flow} {s' : Shared} (h : SP (X.wish E) pins D f s') : SP X pins D f s' := by
  cases f with
  | next => obtain ⟨σ', H', I, q⟩ := h; exact ⟨σ', H', I.unwish, q⟩
  | brk => obtain ⟨σ', H', I, q⟩ := h; exact ⟨σ', H', I.unwish, q⟩
  | cont => obtain ⟨σ', H', I, q⟩ := h; exact ⟨σ', H', I.unwish, q⟩
  | ret u => obtain ⟨v, σ', H', I, r, q⟩ := h; exact ⟨v, σ', H', I.unwish, r, q⟩
theorem PE.nox {e : Expr} {t : TE} (h : PE X.nox e t) : PE X e t := fun pins s σ H Q I hw =>
  wpAny_mono (h pins s σ H Q (I.wish _) hw) (fun _ _ ⟨v, H', I', r, q⟩ => ⟨v, H', I'.unwish, r, q⟩) fun _ _ z => False.elim z
theorem PT.nox {e : Expr} {t : TT} (h : PT X.nox e t) : PT X e t := fun pins s σ H Q I hw =>
  wpAny_mono (h pins s σ H Q (I.wish _) hw) (fun _ _ ⟨H', I', q⟩ => ⟨H', I'.unwish, q⟩) fun _ _ z => False.elim z
theorem PSs.nox {st : List Stmt} {t : TS} (h : PSs X.nox st t) : PSs X st t := fun pins s σ H D I hw =>
  wpAny_mono (h pins s σ H D (I.wish _) hw) (fun _ _ q => q.unwish) fun _ _ z => False.elim z
end
section
variable {X : Cx} {st : Stmt} {rest : List Stmt} {t u : TS} {e : Expr} {te : TE} {pos : Pos}
def tNext : TS := fun D σ H => D.nx σ H
def tSeq (t u : TS) : TS := fun D σ H => t { D with nx := u D } σ H
theorem pss_nil : PSs X [] tNext := fun _ _ σ H _ I h => wpAny_execs_nil ⟨σ, H, I, h⟩
theorem pss_cons (h1 : PS X st t) (h2 : PSs X rest u) : PSs X (st :: rest) (tSeq t u) := by
  intro pins s σ H D I h
  refine wpAny_execs_cons (thn (h1 pins s σ H { D with nx := u D } I h) fun f s1 q => ?_)
  cases f with
  | next =>
    obtain ⟨σ', H', I', q⟩ := q
    exact h2 pins s1 σ' H' D I' q
  | ret v => exact q
  | brk => exact q
  | cont => exact q
theorem pss_one (h1 : PS X st t) : PSs X [st] t := by
  intro pins s σ H D I h
  refine wpAny_execs_cons (thn (h1 pins s σ H D I h) fun f s1 q => ?_)
  cases f with
  | next => exact wpAny_execs_nil q
  | ret v => exact q
  | brk => exact q
  | cont => exact q
theorem Inv.quiet {pins : List (Addr × Obj)} {σ : St} {H : Hp} {s : Shared} (I : Inv X pins σ H s) : interactive X.env = false := by simp [interactive, I.ok.kind]
def tDrop (te : TE) : TS := fun D σ H => te σ H fun _ H1 => D.nx σ H1
theorem ps_expr (he : PE X e te) (hs : swapsWith e none pos.line X.env = pure false := by rfl) : PS X (.Expr e pos) (tDrop te) := by
  intro pins s σ H D I h
  exact wpAny_Expr_any (thn (he pins s σ H _ I h) fun v s1 ⟨x, H1, I1, r1, q1⟩ => ⟨σ, H1, I1, q1⟩) I.quiet hs
def tRet (te : TE) : TS := fun D σ H => te σ H D.rt
theorem ps_ret (he : PE X e te) : PS X (.Return (some e) pos) (tRet te) := by
  intro pins s σ H D I h
  exact wpAny_Return_some (thn (he pins s σ H _ I h) fun v s1 ⟨x, H1, I1, r1, q1⟩ => ⟨x, σ, H1, I1, r1, q1⟩)
def tIfS (c : TT) (t u : TS) : TS := fun D σ H => c σ H fun b H1 => if b = true then t D σ H1 else u D σ H1
theorem ps_if {c : Expr} {a b : List Stmt} {tc : TT} (hc : PT X c tc) (ha : PSs X a t) (hb : PSs X b u) : PS X (.If c a b pos) (tIfS tc t u) := by
  intro pins s σ H D I h
  refine wpAny_If (thn (hc pins s σ H _ I h) fun d s1 ⟨H1, I1, q1⟩ => ?_)
  cases d with
  | true => exact ha pins s1 σ H1 D I1 q1
  | false => exact hb pins s1 σ H1 D I1 q1
end
abbrev TG := V → St → Hp → (St → Hp → Prop) → Prop
abbrev TGs := List V → St → Hp → (St → Hp → Prop) → Prop
def PG (X : Cx) (target : Expr) (t : TG) : Prop :=
  ∀ (pins : List (Addr × Obj)) (s : Shared) (σ : St) (H : Hp) (v : V) (u : Value) (Q : St → Hp → Prop), Inv X pins σ H s → RelV v u → t v σ H Q →
    wpAny (model X.prog X.w) X.A (assign target X.env u) (fun _ s' => ∃ σ' H', Inv X pins σ' H' s' ∧ Q σ' H') X.xe s
def PGs (X : Cx) (ts : List Expr) (t : TGs) : Prop :=
  ∀ (pins : List (Addr × Obj)) (s : Shared) (σ : St) (H : Hp) (vs : List V) (us : List Value) (Q : St → Hp → Prop), Inv X pins σ H s → Vals vs us → t vs σ H Q →
    wpAny (model X.prog X.w) X.A (assignInOrder ((assignEach ts X.env).map (·.2)) us) (fun _ s' => ∃ σ' H', Inv X pins σ' H' s' ∧ Q σ' H') X.xe s
abbrev TSet := V → V → V → Hp → (Hp → Prop) → Prop
def PSet (X : Cx) (t : TSet) : Prop :=
  ∀ (pins : List (Addr × Obj)) (s : Shared) (σ : St) (H : Hp) (o i v : V) (ov iv u : Value) (Q : Hp → Prop), Inv X pins σ H s → RelV o ov → RelV i iv → RelV v u → t o i v H Q →
    wpAny (model X.prog X.w) X.A (setItem ov iv u) (fun _ s' => ∃ H', Inv X pins σ H' s' ∧ Q H') X.xe s
section
variable {X : Cx} {pos : Pos}
def gName (i : Nat) : TG := fun v σ H Q => Q (σ.set i (some v)) H
theorem pg_name {i : Nat} {x : Str} (hN : X.N.Nodup) (hi : X.N[i]? = some x) (hx : Loc X.env.scope x) (hf : X.fn x = true ∨ X.env.scope.names.lookup x = some .local := by first | exact .inl rfl | exact .inr rfl | assumption) : PG X (.Name x pos) (gName i) := by
  intro pins s σ H v u Q I r h
  exact wpAny_assign_Name (store_ok I hN hi hx r (fun s' I' => ⟨_, H, I', h⟩) hf)
def gNil : TGs := fun vs σ H Q => vs = [] ∧ Q σ H
def gCons (t : TG) (u : TGs) : TGs := fun vs σ H Q => ∃ v r, vs = v :: r ∧ t v σ H fun σ' H' => u r σ' H' Q
theorem pgs_nil : PGs X [] gNil := by
  intro pins s σ H vs us Q I r h
  obtain ⟨e, h⟩ := h
  subst e
  cases r
  exact assignInOrder_nil ⟨σ, H, I, h⟩
theorem pgs_cons {e : Expr} {es : List Expr} {t : TG} {u : TGs} (h1 : PG X e t) (h2 : PGs X es u)
    (hs : (assignEach (e :: es) X.env).map (·.2) = assign e X.env :: (assignEach es X.env).map (·.2) := by rfl) : PGs X (e :: es) (gCons t u) := by
  intro pins s σ H vs us Q I r h
  obtain ⟨v, vr, e1, h⟩ := h
  subst e1
  cases r with
  | cons r rr =>
    rw [hs]
    refine assignInOrder_cons (thn (h1 pins s σ H _ _ _ I r h) fun _ s1 ⟨σ1, H1, I1, q1⟩ => ?_)
    exact h2 pins s1 σ1 H1 _ _ Q I1 rr q1
def gTup (K : PySem.W.Frag) (n : Nat) (t : TGs) : TG := fun v σ H Q => ∃ a xs, v = .ref a ∧ SqT K H a xs ∧ xs.length = n ∧ t xs σ H Q
theorem pg_tup {es : List Expr} {k : Nat} {t : TGs} {n : Nat} (hc : X.calm = true) (h : PGs X es t)
    (hn : (assignEach es X.env).length = n := by rfl) (hst : (assignEach es X.env).findIdx? (·.1) = none := by rfl) : PG X (.Tuple es k pos) (gTup X.K n t) := by
  intro pins s σ H v u Q I r hw
  obtain ⟨a, xs, e1, hq, hl, hw⟩ := hw
  subst e1
  cases r
  obtain ⟨its, rv, ht, hz⟩ := I.tuple hq
  refine assign_Tuple_tuple (I.ok.hd hc) ht (by simp [hn, ← hl, rv.length]) hst fun h' hx => ?_
  have I1 : Inv X pins σ H { s with heap := h' } := I.kept (t' := s.toks) fun b o e => hx b o (Nat.ne_of_lt (Heap.lt_size e)) e
  exact h pins _ σ H xs _ Q I1 (by simpa using rv) hw
def gSub (to ti : TE) (t : TSet) : TG := fun v σ H Q => to σ H fun o H1 => ti σ H1 fun i H2 => t o i v H2 fun H3 => Q σ H3
theorem pg_sub {o i : Expr} {to ti : TE} {t : TSet} (ho : PE X o to) (hi : PE X i ti) (hs : PSet X t)
    (ha : ∀ v, assign (.Subscript o i pos) X.env v = (do
      let ov ← holding [v] (eval o X.env)
      let iv ← holding [v, ov] (eval i X.env)
      standAt pos
      holding [v, ov, iv] (setItem ov iv v)
      release [v, ov, iv] []) := by intro _; rfl) : PG X (.Subscript o i pos) (gSub to ti t) := by
  intro pins s σ H v u Q I r h
  rw [ha]
  refine wpAny_bind (wpAny_holding (thn (ho pins s σ H _ I h) fun ov s1 ⟨x, H1, I1, r1, q1⟩ => ?_))
  refine wpAny_bind (wpAny_holding (thn (hi pins s1 σ H1 _ I1 q1) fun iv s2 ⟨y, H2, I2, r2, q2⟩ => ?_))
  refine wpAny_bind (wpAny_standAt (wpAny_bind (wpAny_holding (thn (hs pins s2 σ H2 x y v ov iv u _ I2 r1 r2 r q2) fun _ s3 ⟨H3, I3, q3⟩ => ?_))))
  exact wpAny_release ⟨σ, H3, I3, q3⟩
def tAsg (te : TE) (g : TG) : TS := fun D σ H => te σ H fun x H1 => g x σ H1 D.nx
theorem ps_asg {tg e : Expr} {te : TE} {g : TG} (he : PE X e te) (hg : PG X tg g) (hs : swapsWithSole [tg] e pos.line X.env = pure false := by rfl) (hw : swappedStores [tg] e X.env = pure none := by rfl)
    (h1 : (assignEach [tg] X.env).map (·.2) = [assign tg X.env] := by rfl) : PS X (.Assign [tg] e pos) (tAsg te g) := by
  intro pins s σ H D I h
  refine wpAny_Assign_stores (thn (he pins s σ H _ I h) fun v s1 ⟨x, H1, I1, r1, q1⟩ => ?_) hs hw
  rw [h1]
  exact thn (hg pins s1 σ H1 x v _ I1 r1 q1) fun _ s2 q => q
theorem ps_set {i : Nat} {x : Str} {e : Expr} {te : TE} {pos' : Pos} (hN : X.N.Nodup) (hi : X.N[i]? = some x) (hx : Loc X.env.scope x) (he : PE X e te) (hs : swapsWith e (some (.Name x pos')) pos.line X.env = pure false := by rfl) (hf : X.fn x = true ∨ X.env.scope.names.lookup x = some .local := by first | exact .inl rfl | exact .inr rfl | assumption) :
    PS X (.Assign [.Name x pos'] e pos) (tAsg te (gName i)) := by
  intro pins s σ H D I h
  refine wpAny_Assign_Name (thn (he pins s σ H _ I h) fun v s1 ⟨y, H1, I1, r1, q1⟩ => ?_) hs
  exact store_ok I1 hN hi hx r1 (fun s2 I2 => ⟨_, H1, I2, q1⟩) hf
end
section
variable {X : Cx} {pos : Pos}
end
structure It where
  go : Nat → Hp → Prop
  yld : Nat → Hp → V → Hp → Prop
  stop : Nat → Hp → Prop
def FpOk (X : Cx) (pins : List (Addr × Obj)) (H : Hp) (b : Addr) : Prop :=
  H b = none ∧ b ≠ X.env.locals ∧ b ∉ X.fs ∧ (b ∈ X.ex ∨ X.s₀.heap.objs.size ≤ b) ∧ (∀ x c, X.env.cells.lookup x = some c → c ≠ b) ∧ ∀ p ∈ X.pn ++ pins, p.1 ≠ b
theorem Inv.fpOk {X : Cx} {pins : List (Addr × Obj)} {σ : St} {H H' : Hp} {s : Shared} {b : Addr} (I : Inv X pins σ H s) (hb : s.heap.objs.size ≤ b) (hn : H' b = none) : FpOk X pins H' b := by
  refine ⟨hn, Nat.ne_of_gt (Nat.lt_of_lt_of_le I.lt hb), I.nofs hb, .inr (Nat.le_trans I.sz hb), fun x c e z => ?_, fun p hp z => ?_⟩
  · obtain ⟨v, q⟩ := I.cell x c e
    exact absurd (Nat.lt_of_lt_of_le q.lt (by rw [z]; exact hb)) (Nat.lt_irrefl _)
  · exact absurd (Nat.lt_of_lt_of_le (Heap.lt_size (I.pin p hp).1) (by rw [z]; exact hb)) (Nat.lt_irrefl _)
structure Turn (P : Program) (w : World) (K : PySem.W.Frag) (tg : Expr) (J : It) (fp : List Addr) (it : Addr) (tn : Nat → Heap → Prop) : Prop where
  mem : it ∈ fp
  obj : ∀ i h, tn i h → ∀ b ∈ fp, ∃ o, h.get? b = some o ∧ ∀ v, o.data ≠ .cell v
  keep : ∀ i h h', tn i h → (∀ b ∈ fp, ∀ o, h.get? b = some o → h'.get? b = some o) → tn i h'
  item : ∀ (X : Cx), X.prog = P → X.w = w → X.K = K → X.calm = true → ∀ (i : Nat) (pins : List (Addr × Obj)) (s : Shared) (σ : St) (H : Hp) (E : Value → Shared → Prop), Inv X pins σ H s → (∀ b ∈ fp, FpOk X pins H b) → tn i s.heap → J.go i H →
    wpAny (model P w) X.A (pyNext (.ref it)) (fun r s1 => ∃ u, r = some u ∧
      wpAny (model P w) X.A (letOwnedTupleGo tg (.ref it) u) (fun _ s2 => ∃ x H', Inv X pins σ H' s2 ∧ RelV x u ∧ J.yld i H x H' ∧ tn (i + 1) s2.heap ∧ ∀ b ∈ fp, H' b = none) E s1) E s
  done : ∀ (X : Cx), X.prog = P → X.w = w → X.K = K → X.calm = true → ∀ (i : Nat) (pins : List (Addr × Obj)) (s : Shared) (σ : St) (H : Hp) (E : Value → Shared → Prop), Inv X pins σ H s → (∀ b ∈ fp, FpOk X pins H b) → tn i s.heap → J.stop i H →
    wpAny (model P w) X.A (pyNext (.ref it)) (fun r s1 => r = none ∧ Inv X pins σ H s1) E s
  self : ∀ (A : Around) (i : Nat) (s : Shared) (Q : Value → Shared → Prop) (E : Value → Shared → Prop), tn i s.heap → Q (.ref it) s → wpAny (model P w) A (pyIter (.ref it)) Q E s
abbrev TI := St → Hp → (It → Hp → Prop) → Prop
def PIE (X : Cx) (pins : List (Addr × Obj)) (σ : St) (tg : Expr) (R : It → Hp → Prop) (itv : Value) (s2 : Shared) : Prop :=
  ∃ (it : Addr) (fp : List Addr) (tn : Nat → Heap → Prop) (J : It) (H' : Hp), itv = .ref it ∧ Inv X pins σ H' s2 ∧ Turn X.prog X.w X.K tg J fp it tn ∧ tn 0 s2.heap ∧ (∀ b ∈ fp, FpOk X pins H' b) ∧ R J H'
def PI (X : Cx) (tg iter : Expr) (wi : TI) : Prop :=
  ∀ (pins : List (Addr × Obj)) (s : Shared) (σ : St) (H : Hp) (R : It → Hp → Prop), Inv X pins σ H s → wi σ H R →
    wpAny (model X.prog X.w) X.A (eval iter X.env) (fun v s1 => wpAny (model X.prog X.w) X.A (pyIter v) (PIE X pins σ tg R) X.xe s1) X.xe s
theorem go_of {M : Model} {A : Around} {E : Value → Shared → Prop} {s : Shared} {tg : Expr} {it : Addr} {u : Value} {o : Obj} {n : String} {vs : Array Value} {Q : Unit → Shared → Prop} (ho : s.heap.get? it = some o) (hc : o.cls = .type n) (hd : o.data = .fields vs)
    (hn : ["enumerate", "zip", "dict_itemiterator", "dict_reverseitemiterator", "odict_iterator", "itertools.zip_longest", "itertools.pairwise"].contains n = false) (hQ : Q () s) : wpAny M A (letOwnedTupleGo tg (.ref it) u) Q E s := by
  unfold letOwnedTupleGo
  cases tg <;> first
    | exact wpAny_pure hQ
    | (cases u <;> first
        | exact wpAny_pure hQ
        | (refine wpAny_bind (wpAny_load ho ?_)
           rw [hc, hd]
           show wpAny M A (if (["enumerate", "zip", "dict_itemiterator", "dict_reverseitemiterator", "odict_iterator", "itertools.zip_longest", "itertools.pairwise"].contains n && vs[0]? == some (rawInt _)) = true then _ else _) Q E s
           rw [if_neg (by intro h; rw [hn, Bool.false_and] at h; cases h)]
           exact wpAny_pure hQ))
def Itl (K : PySem.W.Frag) (a : Addr) : It :=
  ⟨fun i H => ∃ xs x, SqL K H a xs ∧ xs[i]? = some x, fun i H x H' => H' = H ∧ ∀ xs, SqL K H a xs → xs[i]? = some x, fun i H => ∃ xs, SqL K H a xs ∧ xs.length ≤ i⟩
def Itt (K : PySem.W.Frag) (a : Addr) : It :=
  ⟨fun i H => ∃ xs x, SqT K H a xs ∧ xs[i]? = some x, fun i H x H' => H' = H ∧ ∀ xs, SqT K H a xs → xs[i]? = some x, fun i H => ∃ xs, SqT K H a xs ∧ xs.length ≤ i⟩
def Itr (lo : Int) (n : Nat) : It := ⟨fun i _ => i < n, fun i H x H' => H' = H ∧ x = .int (lo + i), fun i _ => n ≤ i⟩
theorem turn_list {P : Program} {w : World} {K : PySem.W.Frag} {tg : Expr} (a it : Addr) : Turn P w K tg (Itl K a) [it] it (fun i h => h.IsListIter it a i) where
  mem := by simp
  obj := fun i h st b hb => by
    have e : b = it := by simpa using hb
    subst e
    obtain ⟨o, e, c, d⟩ := st
    exact ⟨o, e, fun v z => by rw [d] at z; cases z⟩
  keep := fun i h h' st k => st.at fun o e => k it (by simp) o e
  item := by
    intro X hP hw hK hc i pins s σ H E I hf st hg
    subst hP hw hK
    obtain ⟨xs, x, hq, hx⟩ := hg
    obtain ⟨its, rv, p, hz⟩ := I.list hq
    obtain ⟨u, hu, ru⟩ := rv.get hx
    obtain ⟨f0, f1, f2, f3, f4, f5⟩ := hf it (by simp)
    refine wpAny_pyNext_list_item st p.isList (x := u) (by simpa using hu) fun h' st' sb => ?_
    have I1 : Inv X pins σ H { s with heap := h' } := I.turned (t' := s.toks) (fun b o hb e => (sb.2 b hb).trans e) f0 f1 f3 f4 f5
    obtain ⟨o, e, c, d⟩ := id st'
    exact ⟨u, rfl, go_of (s := { s with heap := h' }) e c d (by decide) ⟨x, H, I1, ru, ⟨rfl, fun ys hy => by rw [I.list_inj hy hq]; exact hx⟩, st', fun b hb => (hf b hb).1⟩⟩
  done := by
    intro X hP hw hK hc i pins s σ H E I hf st hg
    subst hP hw hK
    obtain ⟨xs, hq, hx⟩ := hg
    obtain ⟨its, rv, p, hz⟩ := I.list hq
    obtain ⟨f0, f1, f2, f3, f4, f5⟩ := hf it (by simp)
    have hl := rv.length
    exact wpAny_pyNext_list_end (I.ok.hd hc) st p.isList (by simp; omega) fun h' eb => ⟨rfl, I.turned (t' := s.toks) (fun b o hb e => eb b o hb e) f0 f1 f3 f4 f5⟩
  self := fun _ _ _ _ _ st h => wpAny_pyIter_listiter st h
theorem turn_tuple {P : Program} {w : World} {K : PySem.W.Frag} {tg : Expr} (a it : Addr) : Turn P w K tg (Itt K a) [it] it (fun i h => h.IsTupleIter it a i) where
  mem := by simp
  obj := fun i h st b hb => by
    have e : b = it := by simpa using hb
    subst e
    obtain ⟨o, e, c, d⟩ := st
    exact ⟨o, e, fun v z => by rw [d] at z; cases z⟩
  keep := fun i h h' st k => st.at fun o e => k it (by simp) o e
  item := by
    intro X hP hw hK hc i pins s σ H E I hf st hg
    subst hP hw hK
    obtain ⟨xs, x, hq, hx⟩ := hg
    obtain ⟨its, rv, p, hz⟩ := I.tuple hq
    obtain ⟨u, hu, ru⟩ := rv.get hx
    obtain ⟨f0, f1, f2, f3, f4, f5⟩ := hf it (by simp)
    refine wpAny_pyNext_tuple_item st (show s.heap.IsTuple a its.toArray from p) (x := u) (by simpa using hu) fun h' st' sb => ?_
    have I1 : Inv X pins σ H { s with heap := h' } := I.turned (t' := s.toks) (fun b o hb e => (sb.2 b hb).trans e) f0 f1 f3 f4 f5
    obtain ⟨o, e, c, d⟩ := id st'
    exact ⟨u, rfl, go_of (s := { s with heap := h' }) e c d (by decide) ⟨x, H, I1, ru, ⟨rfl, fun ys hy => by rw [I.tuple_inj hy hq]; exact hx⟩, st', fun b hb => (hf b hb).1⟩⟩
  done := by
    intro X hP hw hK hc i pins s σ H E I hf st hg
    subst hP hw hK
    obtain ⟨xs, hq, hx⟩ := hg
    obtain ⟨its, rv, p, hz⟩ := I.tuple hq
    obtain ⟨f0, f1, f2, f3, f4, f5⟩ := hf it (by simp)
    have hl := rv.length
    exact wpAny_pyNext_tuple_end (I.ok.hd hc) st (show s.heap.IsTuple a its.toArray from p) (by simp; omega) fun h' eb => ⟨rfl, I.turned (t' := s.toks) (fun b o hb e => eb b o hb e) f0 f1 f3 f4 f5⟩
  self := fun _ _ _ _ _ st h => wpAny_pyIter_tupleiter st h
theorem turn_range {P : Program} {w : World} {K : PySem.W.Frag} {tg : Expr} (it : Addr) (lo : Int) (n : Nat) : Turn P w K tg (Itr lo n) [it] it (fun i h => IsRangeIter h it (lo + (i : Nat) * 1) ((n : Int) - (i : Nat)) 1) where
  mem := by simp
  obj := fun i h st b hb => by
    have e : b = it := by simpa using hb
    subst e
    exact ⟨_, st, fun v z => by
      have z' : Data.fields _ = Data.cell v := z
      cases z'⟩
  keep := fun i h h' st k => k it (by simp) _ st
  item := by
    intro X hP hw hK hc i pins s σ H E I hf st hg
    subst hP hw hK
    obtain ⟨f0, f1, f2, f3, f4, f5⟩ := hf it (by simp)
    have W := Walks.range (prog := X.prog) (w := X.w) (I.ok.hd hc) it lo 1 n
    refine W.item i s _ _ hg st fun v h' tk hv st' kk => ?_
    obtain ⟨t, rfl⟩ := hv
    have I1 : Inv X pins σ H { s with heap := h', toks := tk } := I.turned (fun b o hb e => kk b o (by simpa using hb) e) f0 f1 f3 f4 f5
    refine ⟨_, rfl, go_of (s := { s with heap := h', toks := tk }) (n := "range_iterator") st' rfl rfl (by decide) ⟨.int (lo + i), H, I1, ⟨t, ?_⟩, ⟨rfl, rfl⟩, st', fun b hb => (hf b hb).1⟩⟩
    rw [Int.mul_one]
  done := by
    intro X hP hw hK hc i pins s σ H E I hf st hg
    subst hP hw hK
    obtain ⟨f0, f1, f2, f3, f4, f5⟩ := hf it (by simp)
    exact wpAny_pyNext_range_end (I.ok.hd hc) st (by have : n ≤ i := hg; omega) fun h' eb => ⟨rfl, I.turned (t' := s.toks) (fun b o hb e => eb b o hb e) f0 f1 f3 f4 f5⟩
  self := fun _ _ _ _ _ st h => wpAny_pyIter_rangeiter st h
end L2
namespace L2
open PySem PySem.Spec PyProof.Rows
section
variable {X : Cx} {tg : Expr}
def iList (K : PySem.W.Frag) (tl : TE) : TI := fun σ H R => tl σ H fun x H1 => ∃ a, x = .ref a ∧ (∃ xs, SqL K H1 a xs) ∧ R (Itl K a) H1
def iTup (K : PySem.W.Frag) (tl : TE) : TI := fun σ H R => tl σ H fun x H1 => ∃ a, x = .ref a ∧ (∃ xs, SqT K H1 a xs) ∧ R (Itt K a) H1
theorem pi_list {l : Expr} {tl : TE} (hl : PE X l tl) : PI X tg l (iList X.K tl) := by
  intro pins s σ H R I h
  refine thn (hl pins s σ H _ I h) fun v s1 ⟨x, H1, I1, r1, q1⟩ => ?_
  obtain ⟨a, e, ⟨xs, hq⟩, q⟩ := q1
  subst e
  cases r1
  obtain ⟨its, rv, p, hz⟩ := I1.list hq
  refine wpAny_pyIter_list p.isList ?_
  refine ⟨s1.heap.objs.size, [s1.heap.objs.size], _, _, H1, rfl, I1.kept (t' := s1.toks) fun b o e => Heap.get?_push_of_some _ e, turn_list a _, ⟨_, Heap.get?_push_size _ rfl, rfl, rfl⟩, fun b hb => ?_, q⟩
  have e : b = s1.heap.objs.size := by simpa using hb
  subst e
  exact I1.fpOk (Nat.le_refl _) (I1.hok.fresh (Nat.le_refl _))
theorem pi_tup {l : Expr} {tl : TE} (hl : PE X l tl) : PI X tg l (iTup X.K tl) := by
  intro pins s σ H R I h
  refine thn (hl pins s σ H _ I h) fun v s1 ⟨x, H1, I1, r1, q1⟩ => ?_
  obtain ⟨a, e, ⟨xs, hq⟩, q⟩ := q1
  subst e
  cases r1
  obtain ⟨its, rv, p, hz⟩ := I1.tuple hq
  refine wpAny_pyIter_tuple (show s1.heap.IsTuple a its.toArray from p) ?_
  refine ⟨s1.heap.objs.size, [s1.heap.objs.size], _, _, H1, rfl, I1.kept (t' := s1.toks) fun b o e => Heap.get?_push_of_some _ e, turn_tuple a _, ⟨_, Heap.get?_push_size _ rfl, rfl, rfl⟩, fun b hb => ?_, q⟩
  have e : b = s1.heap.objs.size := by simpa using hb
  subst e
  exact I1.fpOk (Nat.le_refl _) (I1.hok.fresh (Nat.le_refl _))
theorem range_it {pins : List (Addr × Obj)} {σ : St} {H : Hp} {s : Shared} {R : It → Hp → Prop} {E : Value → Shared → Prop} {lo hi : Int} {t u v : Tok} {tk : Nat} (I : Inv X pins σ H s) (h1 : -(2 ^ 62) ≤ lo) (h2 : lo < 2 ^ 62) (h3 : -(2 ^ 62) ≤ hi) (h4 : hi < 2 ^ 62)
    (q : R (Itr lo (hi - lo).toNat) H) : wpAny (model X.prog X.w) X.A (pyIter (.ref s.heap.objs.size)) (PIE X pins σ tg R) E { s with heap := s.heap.push { cls := .type "range", data := .fields #[.int lo t, .int hi u, .int 1 v] }, toks := tk } := by
  refine wpAny_pyIter_range (IsRange.new ..) (small_one h1 h2 h3 h4) ?_
  have I1 : Inv X pins σ H { s with heap := s.heap.push { cls := .type "range", data := .fields #[.int lo t, .int hi u, .int 1 v] }, toks := tk } := I.kept fun b o e => Heap.get?_push_of_some _ e
  refine ⟨(s.heap.push { cls := .type "range", data := .fields #[.int lo t, .int hi u, .int 1 v] }).objs.size, [(s.heap.push { cls := .type "range", data := .fields #[.int lo t, .int hi u, .int 1 v] }).objs.size], _, _, H, rfl,
    I1.kept (t' := tk) fun b o e => Heap.get?_push_of_some _ e, turn_range _ lo (hi - lo).toNat, ?_, fun b hb => ?_, q⟩
  · have e1 : lo + ((0 : Nat) : Int) * 1 = lo := by simp
    have e2 : (((hi - lo).toNat : Nat) : Int) - ((0 : Nat) : Int) = Builtin.Range.rangeSize lo hi 1 := by rw [rangeSize_one]; split <;> omega
    show IsRangeIter _ _ (lo + ((0 : Nat) : Int) * 1) ((((hi - lo).toNat : Nat) : Int) - ((0 : Nat) : Int)) 1
    rw [e1, e2]
    exact Heap.get?_push_size _ rfl
  · have e : b = (s.heap.push { cls := .type "range", data := .fields #[.int lo t, .int hi u, .int 1 v] }).objs.size := by simpa using hb
    subst e
    exact I1.fpOk (Nat.le_refl _) (I1.hok.fresh (Nat.le_refl _))
def iRng1 (ta : TA) : TI := fun σ H R => ta σ H fun vs H1 => ∃ j : Int, vs = [.int j] ∧ -(2 ^ 62) ≤ j ∧ j < 2 ^ 62 ∧ R (Itr 0 j.toNat) H1
theorem pi_range1 {a : Expr} {ta : TA} {p pos : Pos} (hg : Gl X "range") (hm : X.mg "range" = none) (ha : PA X [a] ta) (hs : starEach [a] X.env = [(false, eval a X.env)] := by rfl) : PI X tg (.Call (.Name "range" p) [a] [] pos) (iRng1 ta) := by
  intro pins s σ H R I h
  refine Call_ (ld_blt I hg hm boot_range (PyProof.Rows.callWith_type1 (thn (ha pos pins s σ H _ I h) fun us s1 ⟨vs, H1, I1, r1, q1⟩ => ?_) hs rfl))
  obtain ⟨j, e, q1, q2, q⟩ := q1
  subst e
  cases r1 with
  | cons r rr =>
    cases rr
    obtain ⟨t, rfl⟩ := r
    exact call_range_1 (range_it I1 (by omega) (by omega) q1 q2 (by simpa using q))
def tFor (wi : TI) (g : TG) (tb : TS) : TS := fun D σ H => wi σ H fun J H1 => ∃ W : Nat → Nat → St → Hp → Prop, (∃ m, W 0 m σ H1) ∧ ∀ i m σ H, W i m σ H →
  (J.stop i H ∧ D.nx σ H) ∨ (J.go i H ∧ ∃ N : St → Hp → Prop, (∀ σ' H', N σ' H' → ∃ m', m' < m ∧ W (i + 1) m' σ' H') ∧ ∀ x H', J.yld i H x H' → g x σ H' fun σ2 H2 => tb { D with nx := N, ct := N, bk := D.nx } σ2 H2)
def pinsAt (fp : List Addr) (h : Heap) : List (Addr × Obj) := fp.filterMap fun b => (h.get? b).map fun o => (b, o)
theorem mem_pinsAt {fp : List Addr} {h : Heap} {b : Addr} {o : Obj} (hb : b ∈ fp) (e : h.get? b = some o) : (b, o) ∈ pinsAt fp h := List.mem_filterMap.mpr ⟨b, hb, by rw [e]; rfl⟩
theorem of_pinsAt {fp : List Addr} {h : Heap} {p : Addr × Obj} (hp : p ∈ pinsAt fp h) : p.1 ∈ fp ∧ h.get? p.1 = some p.2 := by
  obtain ⟨b, hb, e⟩ := List.mem_filterMap.mp hp
  cases q : h.get? b with
  | none => rw [q] at e; cases e
  | some o =>
    rw [q] at e
    have e' : (b, o) = p := Option.some.inj e
    subst e'
    exact ⟨hb, q⟩
theorem Inv.pinned {pins : List (Addr × Obj)} {σ : St} {H : Hp} {s : Shared} {fp : List Addr} (I : Inv X pins σ H s) (hf : ∀ b ∈ fp, FpOk X pins H b) (ho : ∀ b ∈ fp, ∃ o, s.heap.get? b = some o ∧ ∀ v, o.data ≠ .cell v) : Inv X (pins ++ pinsAt fp s.heap) σ H s :=
  I.pins_of fun p hp => (List.mem_append.mp hp).elim (fun z => I.pin p (List.mem_append_right _ z)) fun z => by
    obtain ⟨hb, e⟩ := of_pinsAt z
    obtain ⟨f0, f1, f2, _⟩ := hf p.1 hb
    obtain ⟨o, e', d⟩ := ho p.1 hb
    rw [e] at e'; cases e'
    exact ⟨e, f0, f1, f2, d⟩
theorem Inv.unpinned {pins pl : List (Addr × Obj)} {σ : St} {H : Hp} {s : Shared} (I : Inv X (pins ++ pl) σ H s) : Inv X pins σ H s := I.pins_of fun p hp => I.pin p (List.mem_append_right _ (List.mem_append_left _ hp))
theorem ps_for {iter : Expr} {body : List Stmt} {wi : TI} {g : TG} {tb : TS} {pos : Pos} (hp : PassesOwn (model X.prog X.w) X.A X.env X.xe) (hc : X.calm = true) (hi : PI X tg iter wi) (hg : PG X tg g) (hb : PSs X body tb)
    (hs : ∀ x, foldedSetIterable iter X.env x = pure x := by intro _; rfl) : PS X (.For tg iter body [] pos) (tFor wi g tb) := by
  intro pins s σ H D I h
  refine wpAny_For (thn (hi pins s σ H _ I h) fun v s1 h1 => thn h1 fun itv s2 h2 => ?_) hs
  obtain ⟨it, fp, tn, J, H2, e, I2, T, st2, f2, W, ⟨m0, w0⟩, turn⟩ := h2
  subst e
  have stat : ∀ {H' : Hp}, (∀ b ∈ fp, H' b = none) → ∀ b ∈ fp, FpOk X pins H' b := fun hn b hb => ⟨hn b hb, (f2 b hb).2⟩
  refine codeAny_forLoop_any (fun n s' => ∃ i σ' H', Inv X pins σ' H' s' ∧ tn i s'.heap ∧ (∀ b ∈ fp, H' b = none) ∧ W i n σ' H') ?_ m0 ⟨0, σ, H2, I2, st2, fun b hb => (f2 b hb).1, w0⟩
  rintro n s3 ⟨i, σ3, H3, I3, st3, fr3, w3⟩
  rcases turn i n σ3 H3 w3 with ⟨stop, qn⟩ | ⟨go, N, hN, step⟩
  · refine wpAny_passesOwn hp (thn (T.done X rfl rfl rfl hc i pins s3 σ3 H3 X.xe I3 (stat fr3) st3 stop) fun r s4 ⟨hr, I4⟩ => ?_)
    subst hr
    exact wpAny_execs_nil ⟨σ3, H3, I4, qn⟩
  · refine wpAny_passesOwn hp (thn (T.item X rfl rfl rfl hc i pins s3 σ3 H3 X.xe I3 (stat fr3) st3 go) fun r s4 ⟨u, hr, h4⟩ => ?_)
    subst hr
    refine wpAny_passesOwn hp (thn h4 fun _ s5 ⟨x, H5, I5, r5, y5, st5, fr5⟩ => ?_)
    have I5' := I5.pinned (stat fr5) (T.obj _ _ st5)
    refine wpAny_passesOwn hp (thn (hg _ s5 σ3 H5 x u _ I5' r5 (step x H5 y5)) fun _ s6 ⟨σ6, H6, I6, q6⟩ => ?_)
    refine wpAny_passesOwn hp (thn (hb _ s6 σ6 H6 _ I6 q6) fun f s7 q7 => ?_)
    have again : ∀ {σ7 : St} {H7 : Hp}, Inv X (pins ++ pinsAt fp s5.heap) σ7 H7 s7 → N σ7 H7 → ∃ m, m < n ∧ ∃ i σ' H', Inv X pins σ' H' s7 ∧ tn i s7.heap ∧ (∀ b ∈ fp, H' b = none) ∧ W i m σ' H' := fun {σ7 H7} I7 n7 => by
      obtain ⟨m', hm, w7⟩ := hN σ7 H7 n7
      refine ⟨m', hm, i + 1, σ7, H7, I7.unpinned, T.keep _ _ _ st5 fun b hb o e => (I7.pin (b, o) (List.mem_append_right _ (List.mem_append_right _ (mem_pinsAt hb e)))).1, fun b hb => ?_, w7⟩
      obtain ⟨o, e, d⟩ := T.obj _ _ st5 b hb
      exact (I7.pin (b, o) (List.mem_append_right _ (List.mem_append_right _ (mem_pinsAt hb e)))).2.1
    cases f with
    | next => obtain ⟨σ7, H7, I7, n7⟩ := q7; exact again I7 n7
    | cont => obtain ⟨σ7, H7, I7, n7⟩ := q7; exact again I7 n7
    | brk => obtain ⟨σ7, H7, I7, q7⟩ := q7; exact ⟨σ7, H7, I7.unpinned, q7⟩
    | ret v => obtain ⟨x7, σ7, H7, I7, r7, q7⟩ := q7; exact ⟨x7, σ7, H7, I7.unpinned, r7, q7⟩
end
end L2
namespace L2
open PySem PySem.Spec PyProof.Rows
abbrev R2 := V → V → Hp → VK → Prop
def OpR (X : Cx) (f : Value → Value → Sem Value) (r : R2) : Prop :=
  ∀ (pins : List (Addr × Obj)) (s : Shared) (σ : St) (H : Hp) (x y : V) (v u : Value) (Q : VK), Inv X pins σ H s → RelV x v → RelV y u → r x y H Q →
    wpAny (model X.prog X.w) X.A (f v u) (EP X pins σ Q) X.xe s
def UnR (X : Cx) (f : Value → Sem Value) (r : V → Hp → VK → Prop) : Prop :=
  ∀ (pins : List (Addr × Obj)) (s : Shared) (σ : St) (H : Hp) (x : V) (v : Value) (Q : VK), Inv X pins σ H s → RelV x v → r x H Q →
    wpAny (model X.prog X.w) X.A (f v) (EP X pins σ Q) X.xe s
def CallR (X : Cx) (f : Value) (r : List V → Hp → VK → Prop) : Prop :=
  ∀ (pins : List (Addr × Obj)) (s : Shared) (σ : St) (H : Hp) (xs : List V) (us : List Value) (Q : VK), Inv X pins σ H s → Vals xs us → r xs H Q →
    wpAny (model X.prog X.w) X.A (call f us) (EP X pins σ Q) X.xe s
def TruR (X : Cx) (r : V → Hp → (Bool → Hp → Prop) → Prop) : Prop :=
  ∀ (pins : List (Addr × Obj)) (s : Shared) (σ : St) (H : Hp) (x : V) (v : Value) (Q : Bool → Hp → Prop), Inv X pins σ H s → RelV x v → r x H Q →
    wpAny (model X.prog X.w) X.A (truthy v) (TP X pins σ Q) X.xe s
def tOp (r : R2) (ta tb : TE) : TE := fun σ H Q => ta σ H fun x H1 => tb σ H1 fun y H2 => r x y H2 Q
def tUn (r : V → Hp → VK → Prop) (ta : TE) : TE := fun σ H Q => ta σ H fun x H1 => r x H1 Q
def rI (C : Int → Int → Prop) (g : Int → Int → V) : R2 := fun x y H Q => ∃ i j, x = .int i ∧ y = .int j ∧ C i j ∧ Q (g i j) H
def rI0 (g : Int → Int → V) : R2 := fun x y H Q => ∃ i j, x = .int i ∧ y = .int j ∧ Q (g i j) H
def rU (g : Int → V) : V → Hp → VK → Prop := fun x H Q => ∃ i, x = .int i ∧ Q (g i) H
section
variable {X : Cx} {a b c : Expr} {ta tb tc : TE} {pos : Pos}
theorem binT (ha : PE X a ta) (hb : PE X b tb) {pins : List (Addr × Obj)} {s : Shared} {σ : St} {H : Hp} {R : V → V → Hp → Prop} (I : Inv X pins σ H s)
    (h : ta σ H fun x H1 => tb σ H1 fun y H2 => R x y H2) {Q : Value → Shared → Prop} {f : Value → Value → Sem Value}
    (hf : ∀ v u s2 x y H2, Inv X pins σ H2 s2 → RelV x v → RelV y u → R x y H2 → wpAny (model X.prog X.w) X.A (f v u) Q X.xe s2) :
    wpAny (model X.prog X.w) X.A (eval a X.env) (fun v s₁ => wpAny (model X.prog X.w) X.A (eval b X.env) (fun u s₂ => wpAny (model X.prog X.w) X.A (f v u) Q X.xe s₂) X.xe s₁) X.xe s := by
  refine thn (ha pins s σ H _ I h) fun v s1 ⟨x, H1, I1, r1, q1⟩ => ?_
  refine thn (hb pins s1 σ H1 _ I1 q1) fun u s2 ⟨y, H2, I2, r2, q2⟩ => ?_
  exact hf v u s2 x y H2 I2 r1 r2 q2
theorem pe_op {op : Operator} {r : R2} (ho : OpR X (binaryOp op) r) (ha : PE X a ta) (hb : PE X b tb) : PE X (.BinOp a op b pos) (tOp r ta tb) := by
  intro pins s σ H Q I h
  exact wpAny_BinOp (binT ha hb I h fun v u s2 x y H2 I2 rx ry q => ho pins s2 σ H2 x y v u Q I2 rx ry q)
theorem pe_un {op : UnaryOp} {r : V → Hp → VK → Prop} (ho : UnR X (unaryOp op) r) (ha : PE X a ta) : PE X (.UnaryOp op a pos) (tUn r ta) := by
  intro pins s σ H Q I h
  exact UnaryOp_ (thn (ha pins s σ H _ I h) fun v s1 ⟨x, H1, I1, r1, q1⟩ => ho pins s1 σ H1 x v Q I1 r1 q1)
theorem opI {f : Value → Value → Sem Value} {C : Int → Int → Prop} {g : Int → Int → Int}
    (rule : ∀ (i j : Int) (t u : Tok) (s : Shared) (Q : Value → Shared → Prop) (E : Value → Shared → Prop), C i j → Q (.int (g i j) s.toks) { s with toks := s.toks + 1 } → wpAny (model X.prog X.w) X.A (f (.int i t) (.int j u)) Q E s) :
    OpR X f (rI C fun i j => .int (g i j)) := by
  intro pins s σ H x y v u Q I rx ry h
  obtain ⟨i, j, rfl, rfl, hc, q⟩ := h
  obtain ⟨t, rfl⟩ := rx
  obtain ⟨t', rfl⟩ := ry
  exact rule i j t t' s _ _ hc ⟨.int (g i j), H, I.tok _, ⟨_, rfl⟩, q⟩
theorem opI0 {f : Value → Value → Sem Value} {g : Int → Int → Int}
    (rule : ∀ (i j : Int) (t u : Tok) (s : Shared) (Q : Value → Shared → Prop) (E : Value → Shared → Prop), Q (.int (g i j) s.toks) { s with toks := s.toks + 1 } → wpAny (model X.prog X.w) X.A (f (.int i t) (.int j u)) Q E s) :
    OpR X f (rI0 fun i j => .int (g i j)) := by
  intro pins s σ H x y v u Q I rx ry h
  obtain ⟨i, j, rfl, rfl, q⟩ := h
  obtain ⟨t, rfl⟩ := rx
  obtain ⟨t', rfl⟩ := ry
  exact rule i j t t' s _ _ ⟨.int (g i j), H, I.tok _, ⟨_, rfl⟩, q⟩
theorem opB0 {f : Value → Value → Sem Value} {g : Int → Int → Bool}
    (rule : ∀ (i j : Int) (t u : Tok) (s : Shared) (Q : Value → Shared → Prop) (E : Value → Shared → Prop), Q (.bool (g i j)) s → wpAny (model X.prog X.w) X.A (f (.int i t) (.int j u)) Q E s) :
    OpR X f (rI0 fun i j => .bl (g i j)) := by
  intro pins s σ H x y v u Q I rx ry h
  obtain ⟨i, j, rfl, rfl, q⟩ := h
  obtain ⟨t, rfl⟩ := rx
  obtain ⟨t', rfl⟩ := ry
  exact rule i j t t' s _ _ ⟨.bl (g i j), H, I, rfl, q⟩
def CPow (i j : Int) : Prop := 0 ≤ j ∧ j ≤ 1000000 ∧ i.natAbs < 2 ^ 64
def CMul (i j : Int) : Prop := (-(2 ^ 64) < i ∧ i < 2 ^ 64) ∨ (-(2 ^ 64) < j ∧ j < 2 ^ 64)
theorem CMul.ok {i j : Int} (h : CMul i j) : IntMulOk i j := by
  rcases h with ⟨h1, h2⟩ | ⟨h1, h2⟩
  · exact .of_left (intBits_le_64 h1 h2)
  · exact .of_right (intBits_le_64 h1 h2)
theorem op_add : OpR X (binaryOp .Add) (rI0 fun i j => .int (i + j)) := opI0 fun _ _ _ _ _ _ _ q => add_int q
theorem op_sub : OpR X (binaryOp .Sub) (rI0 fun i j => .int (i - j)) := opI0 fun _ _ _ _ _ _ _ q => sub_int q
theorem op_mul : OpR X (binaryOp .Mult) (rI CMul fun i j => .int (i * j)) := opI fun _ _ _ _ _ _ _ hc q => mul_int q hc.ok
theorem op_mod : OpR X (binaryOp .Mod) (rI (fun _ j => 0 < j) fun i j => .int (i % j)) := opI fun i j _ _ _ _ _ hc q => by
  have h1 : (0 : Int) < j := hc
  exact mod_int' (by omega) (by rw [Int.fmod_eq_emod_of_nonneg i (by omega)]; exact q)
theorem op_pow : OpR X (binaryOp .Pow) (rI CPow fun i j => .int (i ^ j.toNat)) := opI fun _ _ _ _ _ _ _ hc q => pow_int_small hc.1 hc.2.1 hc.2.2 q
theorem iop_add : OpR X (inplaceOp .Add) (rI0 fun i j => .int (i + j)) := opI0 fun _ _ _ _ _ _ _ q => iadd_int q
theorem unI {f : Value → Sem Value} {g : Int → Int}
    (rule : ∀ (i : Int) (t : Tok) (s : Shared) (Q : Value → Shared → Prop) (E : Value → Shared → Prop), Q (.int (g i) s.toks) { s with toks := s.toks + 1 } → wpAny (model X.prog X.w) X.A (f (.int i t)) Q E s) :
    UnR X f (rU fun i => .int (g i)) := by
  intro pins s σ H x v Q I rx h
  obtain ⟨i, rfl, q⟩ := h
  obtain ⟨t, rfl⟩ := rx
  exact rule i t s _ _ ⟨.int (g i), H, I.tok _, ⟨_, rfl⟩, q⟩
theorem un_neg : UnR X (unaryOp .USub) (rU fun i => .int (-i)) := unI fun _ _ _ _ _ q => neg_int q
end
def scal : V → V → Bool
  | .non, .non => true | .non, .int _ => true | .int _, .non => true | .non, .bl _ => true | .bl _, .non => true | .non, .str _ => true | .str _, .non => true
  | .int _, .int _ => true | .bl _, .bl _ => true | .str _, .str _ => true | .byt _, .byt _ => true
  | .int _, .str _ => true | .str _, .int _ => true | .bl _, .str _ => true | .str _, .bl _ => true
  | _, _ => false
def rEq : R2 := fun x y H Q => scal x y = true ∧ Q (.bl (decide (x = y))) H
def rNe : R2 := fun x y H Q => scal x y = true ∧ Q (.bl (!decide (x = y))) H
theorem dec_int {i j : Int} : decide (V.int i = V.int j) = (i == j) := by
  rw [Bool.eq_iff_iff]
  simp
theorem dec_bl {i j : Bool} : decide (V.bl i = V.bl j) = (i == j) := by
  rw [Bool.eq_iff_iff]
  simp
theorem dec_str {i j : Str} : decide (V.str i = V.str j) = (i == j) := by
  rw [Bool.eq_iff_iff]
  simp
theorem dec_byt {i j : Array UInt8} : decide (V.byt i = V.byt j) = (i.toList == j.toList) := by
  rw [Bool.eq_iff_iff]
  cases i
  cases j
  simp
section
variable {X : Cx} {a b c : Expr} {ta tb tc : TE} {pos : Pos}
theorem fin_bl {pins : List (Addr × Obj)} {σ : St} {H : Hp} {s : Shared} {Q : VK} {k k' : Bool} (I : Inv X pins σ H s) (q : Q (.bl k) H) (e : k = k') : EP X pins σ Q (.bool k') s := by
  subst e
  exact ⟨.bl k, H, I, rfl, q⟩
theorem op_eq : OpR X (compareOp .Eq) rEq := by
  intro pins s σ H x y v u Q I rx ry h
  obtain ⟨hs, q⟩ := h
  cases x with
  | non =>
    cases rx
    cases y with
    | non => cases ry; exact PySem.EqNone.eq_none_none (fin_bl I q (by simp))
    | bl j => cases ry; exact PySem.EqNone.eq_none_bool (fin_bl I q (by simp))
    | int j => obtain ⟨t', rfl⟩ := ry; exact PySem.EqNone.eq_none_int (fin_bl I q (by simp))
    | str j => obtain ⟨t', rfl⟩ := ry; exact PySem.EqNone.eq_none_str (fin_bl I q (by simp))
    | _ => exact absurd (show false = true from hs) Bool.false_ne_true
  | bl i =>
    cases rx
    cases y with
    | non => cases ry; exact PySem.EqNone.eq_bool_none (fin_bl I q (by simp))
    | bl j => cases ry; exact eq_bool (fin_bl I q dec_bl)
    | str j => obtain ⟨t', rfl⟩ := ry; exact PySem.EqMixed.eq_bool_str (fin_bl I q (by simp))
    | _ => exact absurd (show false = true from hs) Bool.false_ne_true
  | int i =>
    obtain ⟨t, rfl⟩ := rx
    cases y with
    | non => cases ry; exact PySem.EqNone.eq_int_none (fin_bl I q (by simp))
    | int j => obtain ⟨t', rfl⟩ := ry; exact eq_int (fin_bl I q dec_int)
    | str j => obtain ⟨t', rfl⟩ := ry; exact PySem.EqMixed.eq_int_str (fin_bl I q (by simp))
    | _ => exact absurd (show false = true from hs) Bool.false_ne_true
  | str i =>
    obtain ⟨t, rfl⟩ := rx
    cases y with
    | non => cases ry; exact PySem.EqNone.eq_str_none (fin_bl I q (by simp))
    | bl j => cases ry; exact PySem.EqMixed.eq_str_bool (fin_bl I q (by simp))
    | int j => obtain ⟨t', rfl⟩ := ry; exact PySem.EqMixed.eq_str_int (fin_bl I q (by simp))
    | str j => obtain ⟨t', rfl⟩ := ry; exact eq_str (fin_bl I q dec_str)
    | _ => exact absurd (show false = true from hs) Bool.false_ne_true
  | byt i =>
    obtain ⟨t, rfl⟩ := rx
    cases y with
    | byt j => obtain ⟨t', rfl⟩ := ry; exact PySem.W.eq_bytes (fin_bl I q dec_byt)
    | _ => exact absurd (show false = true from hs) Bool.false_ne_true
  | _ => cases y <;> exact absurd (show false = true from hs) Bool.false_ne_true
theorem op_ne : OpR X (compareOp .NotEq) rNe := by
  intro pins s σ H x y v u Q I rx ry h
  obtain ⟨hs, q⟩ := h
  cases x with
  | non =>
    cases rx
    cases y with
    | non => cases ry; exact PySem.EqNone.ne_none_none (fin_bl I q (by simp))
    | bl j => cases ry; exact PySem.EqNone.ne_none_bool (fin_bl I q (by simp))
    | int j => obtain ⟨t', rfl⟩ := ry; exact PySem.EqNone.ne_none_int (fin_bl I q (by simp))
    | str j => obtain ⟨t', rfl⟩ := ry; exact PySem.EqNone.ne_none_str (fin_bl I q (by simp))
    | _ => exact absurd (show false = true from hs) Bool.false_ne_true
  | bl i =>
    cases rx
    cases y with
    | non => cases ry; exact PySem.EqNone.ne_bool_none (fin_bl I q (by simp))
    | bl j => cases ry; exact ne_bool (fin_bl I q (congrArg not dec_bl))
    | str j => obtain ⟨t', rfl⟩ := ry; exact PySem.EqMixed.ne_bool_str (fin_bl I q (by simp))
    | _ => exact absurd (show false = true from hs) Bool.false_ne_true
  | int i =>
    obtain ⟨t, rfl⟩ := rx
    cases y with
    | non => cases ry; exact PySem.EqNone.ne_int_none (fin_bl I q (by simp))
    | int j => obtain ⟨t', rfl⟩ := ry; exact ne_int (fin_bl I q (congrArg not dec_int))
    | str j => obtain ⟨t', rfl⟩ := ry; exact PySem.EqMixed.ne_int_str (fin_bl I q (by simp))
    | _ => exact absurd (show false = true from hs) Bool.false_ne_true
  | str i =>
    obtain ⟨t, rfl⟩ := rx
    cases y with
    | non => cases ry; exact PySem.EqNone.ne_str_none (fin_bl I q (by simp))
    | bl j => cases ry; exact PySem.EqMixed.ne_str_bool (fin_bl I q (by simp))
    | int j => obtain ⟨t', rfl⟩ := ry; exact PySem.EqMixed.ne_str_int (fin_bl I q (by simp))
    | str j => obtain ⟨t', rfl⟩ := ry; exact ne_str (fin_bl I q (congrArg not dec_str))
    | _ => exact absurd (show false = true from hs) Bool.false_ne_true
  | byt i =>
    obtain ⟨t, rfl⟩ := rx
    cases y with
    | byt j => obtain ⟨t', rfl⟩ := ry; exact PySem.W.ne_bytes (fin_bl I q (congrArg not dec_byt))
    | _ => exact absurd (show false = true from hs) Bool.false_ne_true
  | _ => cases y <;> exact absurd (show false = true from hs) Bool.false_ne_true
theorem op_lt : OpR X (compareOp .Lt) (rI0 fun i j => .bl (decide (i < j))) := opB0 fun _ _ _ _ _ _ _ q => lt_int q
theorem op_le : OpR X (compareOp .LtE) (rI0 fun i j => .bl (decide (i ≤ j))) := opB0 fun _ _ _ _ _ _ _ q => le_int q
theorem op_gt : OpR X (compareOp .Gt) (rI0 fun i j => .bl (decide (j < i))) := opB0 fun _ _ _ _ _ _ _ q => gt_int q
theorem op_lt_str : OpR X (compareOp .Lt) (fun x y H Q => ∃ i j, x = .str i ∧ y = .str j ∧ Q (.bl (decide (i.cps.toList < j.cps.toList))) H) := by
  intro pins s σ H x y v u Q I rx ry h
  obtain ⟨i, j, rfl, rfl, q⟩ := h
  obtain ⟨t, rfl⟩ := rx
  obtain ⟨t', rfl⟩ := ry
  exact lt_str (fin_bl I q rfl)
theorem op_isN : OpR X (compareOp .Is) (fun x y H Q => y = .non ∧ Q (.bl (decide (x = .non))) H) := by
  intro pins s σ H x y v u Q I rx ry h
  obtain ⟨rfl, q⟩ := h
  cases ry
  refine is_none_gen (fin_bl I q ?_)
  cases x <;> first
    | (cases rx; rfl)
    | (obtain ⟨t, rfl⟩ := rx; rfl)
theorem op_notN : OpR X (compareOp .IsNot) (fun x y H Q => y = .non ∧ Q (.bl (!decide (x = .non))) H) := by
  intro pins s σ H x y v u Q I rx ry h
  obtain ⟨rfl, q⟩ := h
  cases ry
  refine isnot_none_gen (fin_bl I q ?_)
  cases x <;> first
    | (cases rx; rfl)
    | (obtain ⟨t, rfl⟩ := rx; rfl)
theorem OpR.or {f : Value → Value → Sem Value} {r r' : R2} (h : OpR X f r) (h' : OpR X f r') : OpR X f (fun x y H Q => r x y H Q ∨ r' x y H Q) := by
  intro pins s σ H x y v u Q I rx ry q
  rcases q with q | q
  · exact h pins s σ H x y v u Q I rx ry q
  · exact h' pins s σ H x y v u Q I rx ry q
theorem nomark (b : Expr) {op : CmpOp} (h : op ≠ .In := by decide) (h2 : op ≠ .NotIn := by decide) : behindInMarks op b = false := by
  have e1 : (op == CmpOp.In) = false := by cases op <;> first | rfl | exact absurd rfl h
  have e2 : (op == CmpOp.NotIn) = false := by cases op <;> first | rfl | exact absurd rfl h2
  cases b <;> simp [behindInMarks, e1, e2]
theorem pe_cmpR {op : CmpOp} {r : R2} (ho : OpR X (compareOp op) r) (ha : PE X a ta) (hb : PE X b tb) (hm : behindInMarks op b = false) : PE X (.Compare a [op] [b] pos) (tOp r ta tb) := by
  intro pins s σ H Q I h
  exact wpAny_Compare1 (binT ha hb I h fun v u s2 x y H2 I2 rx ry q => ho pins s2 σ H2 x y v u Q I2 rx ry q) hm
def tTest (t : TE) : TT := fun σ H Q => t σ H fun x H' => ∃ k, x = .bl k ∧ Q k H'
theorem pt_cmpR {op : CmpOp} {r : R2} (ho : OpR X (compareOp op) r) (ha : PE X a ta) (hb : PE X b tb) (hm : behindInMarks op b = false) : PT X (.Compare a [op] [b] pos) (tTest (tOp r ta tb)) := by
  intro pins s σ H Q I h
  refine wpAny_isTrue_Compare1 (thn (ha pins s σ H _ I h) fun v s1 ⟨x, H1, I1, r1, q1⟩ => thn (hb pins s1 σ H1 _ I1 q1) fun u s2 ⟨y, H2, I2, r2, q2⟩ =>
    thn (ho pins s2 σ H2 x y v u _ I2 r1 r2 q2) fun c s3 ⟨z, H3, I3, r3, k, e, q3⟩ => ?_) hm
  subst e
  cases r3
  exact wpAny_truthy_bool ⟨H3, I3, q3⟩
def tChain (r r' : R2) (ta tb tc : TE) : TE := fun σ H Q => ta σ H fun x H1 => tb σ H1 fun y H2 => r x y H2 fun z H3 => ∃ k, z = .bl k ∧
  (if k = true then tc σ H3 fun w' H4 => r' y w' H4 Q else Q (.bl false) H3)
theorem pe_chain {op op' : CmpOp} {r r' : R2} (ho : OpR X (compareOp op) r) (ho' : OpR X (compareOp op') r') (ha : PE X a ta) (hb : PE X b tb) (hc : PE X c tc)
    (hm : lastMarks [op, op'] [b, c] = false := by with_unfolding_all rfl) : PE X (.Compare a [op, op'] [b, c] pos) (tChain r r' ta tb tc) := by
  intro pins s σ H Q I h
  refine Compare_chain (thn (ha pins s σ H _ I h) fun v s1 ⟨x, H1, I1, r1, q1⟩ => chain_link (thn (hb pins s1 σ H1 _ I1 q1) fun u s2 ⟨y, H2, I2, r2, q2⟩ =>
    thn (ho pins s2 σ H2 x y v u _ I2 r1 r2 q2) fun d s3 ⟨z, H3, I3, r3, k, e, q3⟩ => ?_)) hm
  subst e
  cases r3
  refine wpAny_truthy_bool ?_
  cases k with
  | false => exact ite_ff ⟨.bl false, H3, I3, rfl, q3⟩
  | true => exact ite_tt (chain_last (thn (hc pins s3 σ H3 _ I3 q3) fun w' s4 ⟨z', H4, I4, r4, q4⟩ => ho' pins s4 σ H4 y z' u w' Q I4 r2 r4 q4))
def TruV (K : PySem.W.Frag) (x : V) (H : Hp) (k : Bool) : Prop :=
  match x with
  | .non => k = false
  | .bl b => k = b
  | .int i => k = (i != 0)
  | .str y => y.length ≤ sizeLine ∧ k = ((y.length : Int) != 0)
  | .byt y => y.size ≤ sizeLine ∧ k = ((y.size : Int) != 0)
  | .ref p => (∃ xs, SqL K H p xs ∧ k = !xs.isEmpty) ∨ (∃ xs, SqT K H p xs ∧ k = !xs.isEmpty) ∨ ∃ kvs, H p = some (.dK kvs) ∧ k = !kvs.isEmpty
  | _ => False
theorem isEmpty_kv {κ : Type} {kvs : List (κ × V)} {vs : List (κ × Value)} (r : KV kvs vs) : (!vs.isEmpty) = !kvs.isEmpty := by
  cases r <;> rfl
theorem isEmpty_of {xs : List V} {its : List Value} (r : Vals xs its) : (!its.toArray.isEmpty) = !xs.isEmpty := by
  cases r <;> simp
theorem line63 : (sizeLine : Nat) < 2 ^ 63 := by rw [sizeLine_eq]; decide
theorem tru_ok : TruR X (fun x H Q => ∃ k, TruV X.K x H k ∧ Q k H) := by
  intro pins s σ H x v Q I rx h
  obtain ⟨k, e, q⟩ := h
  have hl := line63
  have hs : sizeLine = 16777216 := sizeLine_eq
  cases x with
  | non =>
    cases rx
    have e' : k = false := e
    subst e'
    exact truthy_none ⟨H, I, q⟩
  | bl b =>
    cases rx
    have e' : k = b := e
    subst e'
    exact wpAny_truthy_bool ⟨H, I, q⟩
  | int i =>
    obtain ⟨t, rfl⟩ := rx
    have e' : k = (i != 0) := e
    subst e'
    exact PySem.P.truthy_int ⟨H, I, q⟩
  | str y =>
    obtain ⟨t, rfl⟩ := rx
    obtain ⟨hy, e'⟩ : y.length ≤ sizeLine ∧ k = ((y.length : Int) != 0) := e
    subst e'
    exact PySem.P.truthy_str (by omega) ⟨H, I.tok _, q⟩
  | byt y =>
    obtain ⟨t, rfl⟩ := rx
    obtain ⟨hy, e'⟩ : y.size ≤ sizeLine ∧ k = ((y.size : Int) != 0) := e
    subst e'
    exact PySem.W.truthy_bytes (by omega) ⟨H, I.tok _, q⟩
  | ref p =>
    cases rx
    have e' : (∃ xs, SqL X.K H p xs ∧ k = !xs.isEmpty) ∨ (∃ xs, SqT X.K H p xs ∧ k = !xs.isEmpty) ∨ ∃ kvs, H p = some (.dK kvs) ∧ k = !kvs.isEmpty := e
    rcases e' with ⟨xs, hx, e'⟩ | ⟨xs, hx, e'⟩ | ⟨kvs, hx, e'⟩
    · subst e'
      obtain ⟨its, r, pl, hz⟩ := I.list hx
      have hlen := r.length
      exact wpAny_truthy_list pl.isList (by simp only [List.size_toArray]; omega) ⟨H, I.tok _, by rw [isEmpty_of r]; exact q⟩
    · subst e'
      obtain ⟨its, r, pl, hz⟩ := I.tuple hx
      have hlen := r.length
      exact truthy_tuple pl (by simp only [List.size_toArray]; omega) ⟨H, I.tok _, by rw [isEmpty_of r]; exact q⟩
    · subst e'
      obtain ⟨hz, hS, vs, r, m⟩ : kvs.length ≤ sizeLine ∧ (p == sysModules) = false ∧ ∃ vs, KV kvs vs ∧ s.heap.DictOf (mixKind X.prog X.w) p vs := I.hok p _ hx
      have hlen : kvs.length = vs.length := Paired.length r
      exact wpAny_truthy_dict hS m (by omega) ⟨H, I.tok _, by rw [isEmpty_kv r]; exact q⟩
  | _ => exact (show False from e).elim
theorem pt_truth (ha : PE X a ta) (he : ∀ whole, isTrue a X.env whole = (do let v ← whole; standAt a.pos; holding [v] (truthy v))) :
    PT X a (fun σ H Q => ta σ H fun x H' => ∃ k, TruV X.K x H' k ∧ Q k H') := by
  intro pins s σ H Q I h
  exact isTrue_plain (thn (ha pins s σ H _ I h) fun v s1 ⟨x, H1, I1, r1, q1⟩ => tru_ok pins s1 σ H1 x v Q I1 r1 q1) (he _)
theorem op_add_str : OpR X (binaryOp .Add) (fun x y H Q => ∃ i j, x = .str i ∧ y = .str j ∧ i.length + j.length ≤ sizeLine ∧ Q (.str (i ++ j)) H) := by
  intro pins s σ H x y v u Q I rx ry h
  obtain ⟨i, j, rfl, rfl, hz, q⟩ := h
  obtain ⟨t, rfl⟩ := rx
  obtain ⟨t', rfl⟩ := ry
  exact add_str (fun t' tk => ⟨.str (i ++ j), H, I.tok _, ⟨_, rfl⟩, q⟩) hz
theorem vals1 {x : V} {us : List Value} (r : Vals [x] us) : ∃ u, us = [u] ∧ RelV x u := by
  cases r with
  | cons r1 r2 => cases r2; exact ⟨_, rfl, r1⟩
theorem vals2 {x y : V} {us : List Value} (r : Vals [x, y] us) : ∃ u w', us = [u, w'] ∧ RelV x u ∧ RelV y w' := by
  cases r with
  | cons r1 r2 =>
    cases r2 with
    | cons r3 r4 => cases r4; exact ⟨_, _, rfl, r1, r3⟩
theorem call_max2 (hc : X.calm = true) : CallR X (.builtin "max") (fun xs H Q => ∃ i j, xs = [.int i, .int j] ∧ Q (.int (if j > i then j else i)) H) := by
  intro pins s σ H xs us Q I r h
  obtain ⟨i, j, rfl, q⟩ := h
  obtain ⟨u, w', rfl, ⟨t, rfl⟩, ⟨t', rfl⟩⟩ := vals2 r
  refine max_two_ints (I.ok.hd hc) fun h' tk k => ⟨_, H, I.kept k, ?_, q⟩
  by_cases hj : j > i
  · rw [if_pos hj, if_pos hj]; exact ⟨_, rfl⟩
  · rw [if_neg hj, if_neg hj]; exact ⟨_, rfl⟩
theorem call_min2 (hc : X.calm = true) : CallR X (.builtin "min") (fun xs H Q => ∃ i j, xs = [.int i, .int j] ∧ Q (.int (if j < i then j else i)) H) := by
  intro pins s σ H xs us Q I r h
  obtain ⟨i, j, rfl, q⟩ := h
  obtain ⟨u, w', rfl, ⟨t, rfl⟩, ⟨t', rfl⟩⟩ := vals2 r
  refine min_two_ints (I.ok.hd hc) fun h' tk k => ⟨_, H, I.kept k, ?_, q⟩
  by_cases hj : j < i
  · rw [if_pos hj, if_pos hj]; exact ⟨_, rfl⟩
  · rw [if_neg hj, if_neg hj]; exact ⟨_, rfl⟩
def LenV (K : PySem.W.Frag) (x : V) (H : Hp) (n : Nat) : Prop :=
  match x with
  | .str y => y.length ≤ sizeLine ∧ n = y.length
  | .byt y => y.size ≤ sizeLine ∧ n = y.size
  | .ref p => (∃ xs, SqL K H p xs ∧ n = xs.length) ∨ ∃ xs, SqT K H p xs ∧ n = xs.length
  | _ => False
theorem call_len : CallR X (.builtin "len") (fun xs H Q => ∃ x n, xs = [x] ∧ LenV X.K x H n ∧ Q (.int n) H) := by
  intro pins s σ H xs us Q I r h
  obtain ⟨x, n, rfl, e, q⟩ := h
  obtain ⟨u, rfl, rx⟩ := vals1 r
  have hl := line63
  have hs : sizeLine = 16777216 := sizeLine_eq
  cases x with
  | str y =>
    obtain ⟨t, rfl⟩ := rx
    obtain ⟨hy, e'⟩ : y.length ≤ sizeLine ∧ n = y.length := e
    subst e'
    exact len_str (by omega) ⟨.int _, H, I.tok _, ⟨_, rfl⟩, q⟩
  | byt y =>
    obtain ⟨t, rfl⟩ := rx
    obtain ⟨hy, e'⟩ : y.size ≤ sizeLine ∧ n = y.size := e
    subst e'
    exact PySem.W.len_bytes (by omega) ⟨.int _, H, I.tok _, ⟨_, rfl⟩, q⟩
  | ref p =>
    cases rx
    have e' : (∃ xs, SqL X.K H p xs ∧ n = xs.length) ∨ ∃ xs, SqT X.K H p xs ∧ n = xs.length := e
    rcases e' with ⟨xs, hx, e'⟩ | ⟨xs, hx, e'⟩
    · subst e'
      obtain ⟨its, r', pl, hz⟩ := I.list hx
      have hlen := r'.length
      exact Calls.call_len_list pl.isList (by simp only [List.size_toArray]; omega) ⟨.int xs.length, H, I.tok _, ⟨_, by simp only [List.size_toArray]; rw [hlen]⟩, q⟩
    · subst e'
      obtain ⟨its, r', pl, hz⟩ := I.tuple hx
      have hlen := r'.length
      exact len_tuple pl (by simp only [List.size_toArray]; omega) ⟨.int xs.length, H, I.tok _, ⟨_, by simp only [List.size_toArray]; rw [hlen]⟩, q⟩
  | _ => exact (show False from e).elim
end
end L2
namespace L2
open PySem PySem.Spec PyProof.Rows
structure ObjM (h : Heap) (x dx C : Addr) (mA : Str → Option Value) : Prop where
  obj : h.get? x = some (PySem.W.instObj C dx)
  ns : h.Ns1 dx mA
  ne : dx ≠ x
theorem lookIn_ns {h : Heap} {dx : Addr} {mA : Str → Option Value} (n : h.Ns1 dx mA) : ∃ od, h.get? dx = some od ∧ ∀ name, PySem.W.lookIn name od = some (mA name) := by
  obtain ⟨o, es, ep, ho, hd, hk, _, hm⟩ := n
  refine ⟨o, ho, fun name => ?_⟩
  have e := hm name
  unfold nsFind findBy at e
  rw [← Array.find?_toList] at e
  unfold PySem.W.lookIn
  rw [hd]
  dsimp only
  split
  · rename_i y q
    rw [q] at e
    exact congrArg some e
  · rename_i q
    rw [q] at e
    have a : es.toList.any (·.refKey) = false := by
      rw [List.any_eq_false]
      intro y hy
      obtain ⟨z, t, hkey⟩ := hk y (Array.mem_toList_iff.mp hy)
      simp [DictEntry.refKey, hkey]
    have a' : ¬ es.toList.any (·.refKey) = true := by rw [a]; exact Bool.false_ne_true
    rw [if_neg a']
    exact congrArg some e
theorem ObjM.look {h : Heap} {x dx C : Addr} {mA : Str → Option Value} (I : ObjM h x dx C mA) : ∃ od, PySem.W.InstAt h x (PySem.W.instObj C dx) C (some od) ∧ ∀ name, PySem.W.lookIn name od = some (mA name) :=
  let ⟨od, ho, hl⟩ := lookIn_ns I.ns
  ⟨od, ⟨I.obj, rfl, rfl, ho⟩, hl⟩
section
variable {prog : Program} {w : World} {A : Around} {E : Value → Shared → Prop} {s : Shared} {K : PySem.W.Frag} {x dx C f : Addr} {mA : Str → Option Value} {name : Str} {v : Value}
theorem get_map {expr : Bool} {Q : Value → Shared → Prop} (X : K.In s.heap) (I : ObjM s.heap x dx C mA) (hg : PySem.W.plainGet K C name = true) (hh : PySem.W.hasDictIn K C = true)
    (ha : PySem.W.findIn K (.ref C) name = some none) (hv : mA name = some v) (hv' : PySem.W.handedIn v = true) (h : Q v { s with toks := s.toks + 1 }) :
    wpAny (model prog w) A (getAttr (.ref x) name expr) Q E s := by
  obtain ⟨od, J, hl⟩ := I.look
  exact PySem.W.get_value X J (PySem.W.plainGet_of hg).1 (PySem.W.findObj_own hh ha rfl (by rw [hl, hv])) hv' h
theorem get_meth {pl : Sem Bool} {Q : Value × List Value → Shared → Prop} (X : K.In s.heap) (I : ObjM s.heap x dx C mA) (hg : PySem.W.plainGet K C name = true)
    (hf : PySem.W.findIn K (.ref C) name = some (some (.ref f))) (ht : PySem.W.isFn K (.ref f) = true) (hv : mA name = none) (h : Q (.ref f, [.ref x]) s) :
    wpAny (model prog w) A (getMethod (.ref x) name pl) Q E s := by
  obtain ⟨od, J, hl⟩ := I.look
  exact PySem.W.method_fn X J (PySem.W.plainGet_of hg).1 (PySem.W.plainGet_of hg).2 hf (beq_iff_eq.mp ht) (by show (PySem.W.lookIn name od).map (·.isSome) = some false; rw [hl, hv]; rfl) h
theorem set_map {ns : List Str} {Q : Unit → Shared → Prop} (X : K.In s.heap) (I : ObjM s.heap x dx C mA)
    (hs : PySem.W.findIn K (.ref C) "__setattr__" = some (some (.builtin "object.__setattr__"))) (hp : PySem.W.plainOver K C = true) (ht : PySem.W.takerIn K C name = some none) (hh : PySem.W.hasDictIn K C = true)
    (hw : PySem.Within mA ns) (hsz : ns.length ≤ sizeLine)
    (h : ∀ h', ObjM h' x dx C (fun y => if y = name then some v else mA y) → Heap.SameBut dx s.heap h' → Q () { s with heap := h', toks := s.toks + 2 }) :
    wpAny (model prog w) A (setAttr (.ref x) name v) Q E s := by
  obtain ⟨od, J, hl⟩ := I.look
  refine PySem.W.set_plain X J hs (PySem.W.osa_open (s := { s with toks := s.toks + 1 }) (r := none) X J hp ht fun b => ?_)
  obtain ⟨cd, hc, hd'⟩ := PySem.W.any_some hh
  have hx : s.heap.get? x = some ⟨.ref C, some dx, .plain, #[]⟩ := I.obj
  refine wpAny_bind (wpAny_pure (wpAny_bind (wpAny_bind (wpAny_loadPart hx (wpAny_bind (PySem.W.Looks.here (s := { s with toks := s.toks + 1 }) (PySem.W.looks_clsIn X hc) ?_))))))
  rw [hd']
  refine wpAny_pure (a := some dx) (wpAny_bind (wpAny_pure (wpAny_bind ?_)))
  refine wpAny_nsSet1 (s := { s with toks := s.toks + 1 }) I.ns fun h' hn2 hs2 => ?_
  obtain ⟨oD, esD, epD, hoD, hdD, hcD⟩ := hn2.count (PySem.Within.cons name v hw)
  refine wpAny_bind (wpAny_lookBehind hoD (by rw [hdD]; exact pastItsLine_dict (Nat.le_trans hcD (by rw [List.length_cons]; omega))) ?_)
  exact wpAny_pure (h _ ⟨(hs2.2 _ (Ne.symm I.ne)).trans I.obj, hn2, I.ne⟩ hs2)
theorem make_map {R : Result → Shared → Prop} {vs : List Value} {kw : List (Str × Value)} (X : K.In s.heap) (hm : PySem.W.makesIn K C = true)
    (hi : PySem.W.findIn K (.ref C) "__init__" = some (some (.ref f))) (hf : PySem.W.typeIn K (.ref f) = some (.type "function"))
    (h : codeAny (model prog w) (A.under (.builtin "type.__call__" ⟨.ref C :: vs, kw⟩)) (.call (.ref f) ⟨.ref (s.heap.objs.size + 1) :: vs, kw⟩) (PySem.W.InitBack (s.heap.objs.size + 1) R)
      { s with heap := (s.heap.push PySem.W.emptyDict).push (PySem.W.instObj C s.heap.objs.size) }) :
    codeAny (model prog w) A (.call (.ref C) ⟨vs, kw⟩) R s := by
  obtain ⟨hh, g, d, t, os⟩ := s
  exact PySem.W.make_core (PySem.W.makes_of X hm) (PySem.W.looks_findIn X hi) (fun self => PySem.W.bind_fn X self hf) (.inl rfl) h
end
def putF (f : Str) (v : V) : List (Str × V) → List (Str × V)
  | [] => [(f, v)]
  | (g, x) :: r => if g = f then (g, v) :: r else (g, x) :: putF f v r
theorem lookup_putF (f g : Str) (v : V) : ∀ fs : List (Str × V), (putF f v fs).lookup g = if g = f then some v else fs.lookup g
  | [] => by
    show List.lookup g [(f, v)] = _
    by_cases h : g = f
    · have hb : (g == f) = true := beq_iff_eq.mpr h
      simp only [List.lookup, hb, if_pos h]
    · have hb : (g == f) = false := beq_eq_false_iff_ne.mpr h
      simp only [List.lookup, hb, if_neg h]
  | (k, x) :: r => by
    have ih := lookup_putF f g v r
    rw [show putF f v ((k, x) :: r) = (if k = f then (k, v) :: r else (k, x) :: putF f v r) from rfl]
    by_cases hk : k = f
    · rw [if_pos hk]
      by_cases h : g = k
      · have hb : (g == k) = true := beq_iff_eq.mpr h
        simp only [List.lookup, hb, if_pos (h.trans hk)]
      · have hb : (g == k) = false := beq_eq_false_iff_ne.mpr h
        simp only [List.lookup, hb, if_neg (fun e : g = f => h (e.trans hk.symm))]
    · rw [if_neg hk]
      by_cases h : g = k
      · have hb : (g == k) = true := beq_iff_eq.mpr h
        simp only [List.lookup, hb, if_neg (fun e : g = f => hk (h.symm.trans e))]
      · have hb : (g == k) = false := beq_eq_false_iff_ne.mpr h
        simp only [List.lookup, hb]
        exact ih
theorem keys_putF (f : Str) (v : V) : ∀ fs : List (Str × V), f ∈ (putF f v fs).map (·.1) ∧ ∀ g, g ∈ fs.map (·.1) → g ∈ (putF f v fs).map (·.1)
  | [] => ⟨by simp [putF], fun g h => by simp at h⟩
  | (k, x) :: r => by
    obtain ⟨i1, i2⟩ := keys_putF f v r
    rw [show putF f v ((k, x) :: r) = (if k = f then (k, v) :: r else (k, x) :: putF f v r) from rfl]
    by_cases hk : k = f
    · rw [if_pos hk]
      subst hk
      exact ⟨by simp, fun g h => by simpa using h⟩
    · rw [if_neg hk]
      refine ⟨?_, fun g h => ?_⟩
      · rw [List.map_cons]
        exact List.mem_cons_of_mem _ i1
      · rw [List.map_cons] at h ⊢
        rcases List.mem_cons.mp h with e | e
        · exact List.mem_cons.mpr (.inl e)
        · exact List.mem_cons_of_mem _ (i2 g e)
theorem length_putF (f : Str) (v : V) : ∀ fs : List (Str × V), (putF f v fs).length ≤ fs.length + 1
  | [] => by simp [putF]
  | (k, x) :: r => by
    have ih := length_putF f v r
    rw [show putF f v ((k, x) :: r) = (if k = f then (k, v) :: r else (k, x) :: putF f v r) from rfl]
    by_cases hk : k = f
    · rw [if_pos hk, List.length_cons, List.length_cons]; omega
    · rw [if_neg hk, List.length_cons, List.length_cons]; omega
theorem RelO.some_of {v : V} {o : Option Value} (r : RelO (some v) o) : ∃ u, o = some u ∧ RelV v u := by
  cases o with
  | none => exact (show False from r).elim
  | some u => exact ⟨u, rfl, r⟩
theorem RelO.none_of {o : Option Value} (r : RelO none o) : o = none := by
  cases o with
  | none => rfl
  | some u => exact (show False from r).elim
theorem handed_of {v : V} {u : Value} (r : RelV v u) : PySem.W.handedIn u = true := by
  cases v with
  | non => cases (show u = Value.none from r); rfl
  | bl b => cases (show u = Value.bool b from r); rfl
  | int i => obtain ⟨t, e⟩ := (show ∃ t, u = Value.int i t from r); cases e; rfl
  | str x => obtain ⟨t, e⟩ := (show ∃ t, u = Value.str x t from r); cases e; rfl
  | byt b => obtain ⟨t, e⟩ := (show ∃ t, u = Value.bytes b t from r); cases e; rfl
  | flt b => obtain ⟨t, e⟩ := (show ∃ t, u = Value.float b t from r); cases e; rfl
  | ref a => cases (show u = Value.ref a from r); rfl
  | ty n => cases (show u = Value.type n from r); rfl
section
variable {P : Program} {w : World} {H H' : Hp} {h h' : Heap} {a C dx : Addr} {fs fs' : List (Str × V)}
theorem ins_get (hok : HOk P w H h) (e : H a = some (.ins C dx fs)) : ∃ mA, ObjM h a dx C mA ∧ (∀ f, RelO (fs.lookup f) (mA f)) ∧ PySem.Within mA (fs.map (·.1)) ∧ fs.length ≤ 1000 ∧ H dx = some (.own a) := by
  obtain ⟨d, z, ne, ob, mA, n, r, q⟩ := (show ObjOk P w H h a (.ins C dx fs) from hok a _ e)
  exact ⟨mA, ⟨ob, n, ne⟩, r, q, z, d⟩
end
structure Cls (K : PySem.W.Frag) (C : Addr) : Prop where
  pg : PySem.W.plainGet K C Str.empty = true
  hd : PySem.W.hasDictIn K C = true
  po : PySem.W.plainOver K C = true
  sa : PySem.W.findIn K (.ref C) "__setattr__" = some (some (.builtin "object.__setattr__"))
theorem Cls.get {K : PySem.W.Frag} {C : Addr} (c : Cls K C) (f : Str) : PySem.W.plainGet K C f = true := c.pg
def NoAttr (K : PySem.W.Frag) (C : Addr) (f : Str) : Prop := PySem.W.findIn K (.ref C) f = some none
theorem NoAttr.taker {K : PySem.W.Frag} {C : Addr} {f : Str} (n : NoAttr K C f) : PySem.W.takerIn K C f = some none := by
  unfold PySem.W.takerIn
  rw [show PySem.W.findIn K (.ref C) f = some none from n]
  rfl
structure Con (K : PySem.W.Frag) (C : Addr) (f : Str) (v : V) (u : Value) : Prop where
  at_ : PySem.W.findIn K (.ref C) f = some (some u)
  rel : RelV v u
  get : PySem.W.specialIn K u "__get__" = some none
  cp : PySem.W.copiedNames.contains f = false
structure Meth (K : PySem.W.Frag) (C : Addr) (m : Str) (f : Addr) : Prop where
  at_ : PySem.W.findIn K (.ref C) m = some (some (.ref f))
  fn : PySem.W.isFn K (.ref f) = true
  kp : PySem.W.keepIn K (.ref f) = true
section
variable {X : Cx} {pins : List (Addr × Obj)} {σ : St} {H : Hp} {s : Shared} {a C dx : Addr} {fs : List (Str × V)} {f : Str} {v : V} {A : Around} {E : Value → Shared → Prop}
theorem getattr_ok {b : Bool} {Q : Value → Shared → Prop} (I : Inv X pins σ H s) (e : H a = some (.ins C dx fs)) (c : Cls X.K C) (n : NoAttr X.K C f) (l : fs.lookup f = some v)
    (h : ∀ u s', Inv X pins σ H s' → RelV v u → Q u s') : wpAny (model X.prog X.w) A (getAttr (.ref a) f b) Q E s := by
  obtain ⟨mA, O, r, _, _, _⟩ := ins_get I.hok e
  obtain ⟨u, hu, ru⟩ := RelO.some_of (v := v) (o := mA f) (by rw [← l]; exact r f)
  exact get_map I.kIn O (c.get f) c.hd n hu (handed_of ru) (h u _ (I.tok _) ru)
theorem getmeth_ok {m : Str} {g : Addr} {pl : Sem Bool} {Q : Value × List Value → Shared → Prop} (I : Inv X pins σ H s) (e : H a = some (.ins C dx fs)) (c : Cls X.K C) (k : Meth X.K C m g) (l : fs.lookup m = none)
    (h : Q (.ref g, [.ref a]) s) : wpAny (model X.prog X.w) A (getMethod (.ref a) m pl) Q E s := by
  obtain ⟨mA, O, r, _, _, _⟩ := ins_get I.hok e
  have hn : mA m = none := RelO.none_of (by rw [← l]; exact r m)
  exact get_meth I.kIn O (c.get m) k.at_ k.fn hn h
theorem setattr_ok {y : V} {u : Value} {Q : Unit → Shared → Prop} (I : Inv X pins σ H s) (e : H a = some (.ins C dx fs)) (c : Cls X.K C) (n : NoAttr X.K C f) (hl : fs.length < 1000) (ry : RelV y u)
    (h : ∀ s', Inv X pins σ (upd H a (.ins C dx (putF f y fs))) s' → Q () s') : wpAny (model X.prog X.w) A (setAttr (.ref a) f u) Q E s := by
  obtain ⟨mA, O, r, wi, _, ho⟩ := ins_get I.hok e
  have hz : (fs.map (·.1)).length ≤ sizeLine := by rw [List.length_map, sizeLine_eq]; omega
  refine set_map I.kIn O c.sa c.po n.taker c.hd wi hz fun h' O' sb => h _ ?_
  have hd : ∃ o, h'.get? dx = some o := let ⟨o, _, _, e', _⟩ := O'.ns; ⟨o, e'⟩
  refine I.write (x := a) (e := dx) (by rw [e]; exact True.intro) (.inr ho) (fun b q hb z => (sb.2 b hb).trans z) hd ?_
  refine ⟨by rw [upd_ne O.ne]; exact ho, ?_, O.ne, O'.obj, _, O'.ns, fun g => ?_, fun g hg => ?_⟩
  · have := length_putF f y fs; omega
  · show RelO ((putF f y fs).lookup g) (if g = f then some u else mA g)
    rw [lookup_putF]
    by_cases q : g = f
    · rw [if_pos q, if_pos q]; exact ry
    · rw [if_neg q, if_neg q]; exact r g
  · by_cases q : g = f
    · rw [q]; exact (keys_putF f y fs).1
    · refine (keys_putF f y fs).2 g (wi g fun z => hg ?_)
      show (if g = f then some u else mA g) = none
      rw [if_neg q]; exact z
theorem Inv.made (I : Inv X pins σ H s) : Inv X pins σ (upd (upd H s.heap.objs.size (.own (s.heap.objs.size + 1))) (s.heap.objs.size + 1) (.ins C s.heap.objs.size []))
    { s with heap := (s.heap.push PySem.W.emptyDict).push (PySem.W.instObj C s.heap.objs.size) } := by
  have e1 : (s.heap.push PySem.W.emptyDict).get? s.heap.objs.size = some PySem.W.emptyDict := Heap.get?_push_size s.heap rfl
  have e2 : ((s.heap.push PySem.W.emptyDict).push (PySem.W.instObj C s.heap.objs.size)).get? (s.heap.objs.size + 1) = some (PySem.W.instObj C s.heap.objs.size) := by
    have := Heap.get?_push_size (s.heap.push PySem.W.emptyDict) (o := PySem.W.instObj C s.heap.objs.size) rfl
    rwa [Heap.size_push] at this
  have e3 : (s.heap.push PySem.W.emptyDict).Ns s.heap.objs.size (fun _ => none) := ⟨PySem.W.emptyDict, #[], _, e1, rfl, (fun e he => absurd he (by simp)), fun _ => rfl⟩
  have I1 := I.laid (a := s.heap.objs.size) (o := .own (s.heap.objs.size + 1)) (h' := s.heap.push PySem.W.emptyDict) (t' := s.toks) (fun b u q => Heap.get?_push_of_some _ q) (Nat.le_refl _) ⟨_, e1⟩
  refine I1.laid (a := s.heap.objs.size + 1) (o := .ins C s.heap.objs.size []) (t' := s.toks) (fun b u q => Heap.get?_push_of_some _ q) (Nat.le_of_eq (Heap.size_push _ _)) ?_
  have ne : s.heap.objs.size ≠ s.heap.objs.size + 1 := Nat.ne_of_lt (Nat.lt_succ_self _)
  refine ⟨by rw [upd_ne ne, upd_same], Nat.zero_le _, ne, e2, fun _ => none, (Heap.Ns1.of_empty e3).at fun o q => Heap.get?_push_of_some _ q, fun _ => True.intro, fun y hy => absurd rfl hy⟩
theorem attr_of {prog : Program} {w : World} {env : Env} {e : Expr} {f : Str} {pos : Pos} {s : Shared} {Q : Value → Shared → Prop} (hb : attributeBase e f env (eval e env) = eval e env)
    (h : wpAny (model prog w) A (eval e env) (fun o s₁ => wpAny (model prog w) A (getAttr o f true) Q E s₁) E s) : wpAny (model prog w) A (eval (.Attribute e f pos) env) Q E s :=
  Attribute_any_ h (by rw [arm_eval_Attribute, hb])
end
def tFld (K : PySem.W.Frag) (ta : TE) (f : Str) : TE := fun σ H Q => ta σ H fun x H1 => ∃ a C dx fs v, x = .ref a ∧ H1 a = some (.ins C dx fs) ∧ Cls K C ∧ NoAttr K C f ∧ fs.lookup f = some v ∧ Q v H1
def sFld (K : PySem.W.Frag) (ta tv : TE) (f : Str) : TS := fun D σ H => tv σ H fun y H1 => ta σ H1 fun x H2 => ∃ a C dx fs, x = .ref a ∧ H2 a = some (.ins C dx fs) ∧ Cls K C ∧ NoAttr K C f ∧ fs.length < 1000 ∧
  D.nx σ (upd H2 a (.ins C dx (putF f y fs)))
def InOp (X : Cx) (op : Operator) (rd : V → V → Hp → VK → Prop) : Prop :=
  ∀ (pins : List (Addr × Obj)) (s : Shared) (σ : St) (H : Hp) (x y : V) (u v : Value) (Q : VK), Inv X pins σ H s → RelV x u → RelV y v → rd x y H Q → wpAny (model X.prog X.w) X.A (inplaceOp op u v) (EP X pins σ Q) X.xe s
def sFldAug (K : PySem.W.Frag) (ta tv : TE) (rd : V → V → Hp → VK → Prop) (f : Str) : TS := fun D σ H => ta σ H fun x H1 => ∃ a C dx fs v, x = .ref a ∧ H1 a = some (.ins C dx fs) ∧ Cls K C ∧ NoAttr K C f ∧ fs.lookup f = some v ∧
  tv σ H1 fun y H2 => rd v y H2 fun z H3 => ∃ dx' fs', H3 a = some (.ins C dx' fs') ∧ fs'.length < 1000 ∧ D.nx σ (upd H3 a (.ins C dx' (putF f z fs')))
section
variable {X : Cx} {o e value : Expr} {f : Str} {pos pos' tpos : Pos} {ta tv : TE}
theorem pe_fld (he : PE X e ta) (hb : attributeBase e f X.env (eval e X.env) = eval e X.env) : PE X (.Attribute e f pos) (tFld X.K ta f) := by
  intro pins s σ H Q I h
  refine attr_of hb (thn (he pins s σ H _ I h) fun u s1 ⟨x, H1, I1, rx, a, C, dx, fs, v, ex, ea, c, n, l, q⟩ => ?_)
  subst ex
  obtain rfl : u = Value.ref a := rx
  exact getattr_ok I1 ea c n l fun u' s2 I2 ru => ⟨v, H1, I2, ru, q⟩
theorem ps_fld (ha : PE X o ta) (hv : PE X value tv) (hs : swapsWith value (some (.Attribute o f pos')) pos.line X.env = pure false) : PS X (.Assign [.Attribute o f pos'] value pos) (sFld X.K ta tv f) := by
  intro pins s σ H D I h
  refine plainObj_wpAny_Assign_Attribute (thn (hv pins s σ H _ I h) fun u s1 ⟨y, H1, I1, ry, q⟩ => thn (ha pins s1 σ H1 _ I1 q) fun ov s2 ⟨x, H2, I2, rx, a, C, dx, fs, ex, ea, c, n, l, q2⟩ => ?_) hs
  subst ex
  obtain rfl : ov = Value.ref a := rx
  exact setattr_ok I2 ea c n l ry fun s3 I3 => ⟨σ, _, I3, q2⟩
theorem ps_fldaug {op : Operator} {rd : V → V → Hp → VK → Prop} (ha : PE X o ta) (hv : PE X value tv) (hop : InOp X op rd) : PS X (.AugAssign (.Attribute o f tpos) op value pos) (sFldAug X.K ta tv rd f) := by
  intro pins s σ H D I h
  refine wpAny_AugAssign_AttributeAny (thn (ha pins s σ H _ I h) fun ov s1 ⟨x, H1, I1, rx, a, C, dx, fs, v, ex, ea, c, n, l, q⟩ => ?_)
  subst ex
  obtain rfl : ov = Value.ref a := rx
  refine getattr_ok I1 ea c n l fun u s2 I2 ru => thn (hv pins s2 σ H1 _ I2 q) fun w3 s3 ⟨y, H2, I3, ry, q3⟩ => thn (hop pins s3 σ H2 v y u w3 _ I3 ru ry q3) fun w4 s4 ⟨z, H3, I4, rz, dx', fs', ea', l', q4⟩ => ?_
  exact setattr_ok I4 ea' c n l' rz fun s5 I5 => ⟨σ, _, I5, q4⟩
end
section
variable {X : Cx} {pins : List (Addr × Obj)} {σ : St} {H : Hp} {s : Shared} {A : Around} {E : Value → Shared → Prop} {Q : Value → Shared → Prop} {c : Value} {b : Bool}
inductive TyOf (K : PySem.W.Frag) (H : Hp) : V → Value → Prop where
  | non : TyOf K H .non (.type "NoneType")
  | bl (x : Bool) : TyOf K H (.bl x) (.type "bool")
  | int (i : Int) : TyOf K H (.int i) (.type "int")
  | str (x : Str) : TyOf K H (.str x) (.type "str")
  | flt (x : UInt64) : TyOf K H (.flt x) (.type "float")
  | lst {a : Addr} {xs : List V} (e : H a = some (.lst xs)) : TyOf K H (.ref a) (.type "list")
  | frz {a : Addr} {o : Obj} {xs : List V} (e : H a = some (.frz o (.lst xs))) : TyOf K H (.ref a) (.type "list")
  | tup {a : Addr} {xs : List V} (e : H a = some (.tup xs)) : TyOf K H (.ref a) (.type "tuple")
  | dK {a : Addr} {kvs : List (Key × V)} (e : H a = some (.dK kvs)) : TyOf K H (.ref a) (.type "dict")
  | dT {a : Addr} {kvs : List (List Key × V)} (e : H a = some (.dT kvs)) : TyOf K H (.ref a) (.type "dict")
  | ins {a C dx : Addr} {fs : List (Str × V)} (e : H a = some (.ins C dx fs)) (cl : Cls K C) (ha : PySem.W.findIn K (.ref C) "__class__" = some (some (.builtin "object.__class__")))
      (hn : PySem.W.specialIn K (.builtin "object.__class__") "__get__" = some (some (.builtin "getset_descriptor.__get__"))) (htk : PySem.W.takesIn K (.builtin "object.__class__") = some true)
      (hm : PySem.W.mroIn K C (.type "object") = some true) : TyOf K H (.ref a) (.ref C)
theorem isinst_ok {x : V} {u t : Value} (I : Inv X pins σ H s) (rx : RelV x u) (ty : TyOf X.K H x t) (e : PySem.W.kitOne X.K t c = some b) (h : ∀ tk, Q (.bool b) { s with toks := tk }) :
    wpAny (model X.prog X.w) A (call (.builtin "isinstance") [u, c]) Q E s := by
  cases ty with
  | non => cases (show u = Value.none from rx); exact PySem.W.kia_one PySem.W.kitx_none I.kIn True.intro e (fun z => nomatch z) h
  | bl y => cases (show u = Value.bool y from rx); exact PySem.W.kia_one PySem.W.kitx_bool I.kIn True.intro e (fun z => nomatch z) h
  | int i => obtain ⟨t, q⟩ := (show ∃ t, u = Value.int i t from rx); cases q; exact PySem.W.kia_one PySem.W.kitx_int I.kIn True.intro e (fun z => nomatch z) h
  | str y => obtain ⟨t, q⟩ := (show ∃ t, u = Value.str y t from rx); cases q; exact PySem.W.kia_one PySem.W.kitx_str I.kIn True.intro e (fun z => nomatch z) h
  | flt y => obtain ⟨t, q⟩ := (show ∃ t, u = Value.float y t from rx); cases q; exact PySem.W.kia_one PySem.W.kitx_float I.kIn True.intro e (fun z => nomatch z) h
  | @lst a xs ea =>
    cases (show u = Value.ref a from rx)
    obtain ⟨_, _, n, _, h1⟩ := (show ObjOk X.prog X.w H s.heap a (.lst xs) from I.hok a _ ea)
    exact PySem.W.kia_one PySem.W.kitx_list I.kIn ⟨_, h1, rfl⟩ e (fun z => nomatch z) h
  | @frz a ob xs ea =>
    cases (show u = Value.ref a from rx)
    obtain ⟨_, _, _, n, _, h1⟩ := (show ObjOk X.prog X.w H s.heap a (.frz ob (.lst xs)) from I.hok a _ ea)
    exact PySem.W.kia_one PySem.W.kitx_list I.kIn ⟨_, h1, rfl⟩ e (fun z => nomatch z) h
  | @tup a xs ea =>
    cases (show u = Value.ref a from rx)
    obtain ⟨_, _, _, p⟩ := (show ObjOk X.prog X.w H s.heap a (.tup xs) from I.hok a _ ea)
    obtain ⟨o, h1, h2, _⟩ := p
    exact PySem.W.kia_one PySem.W.kitx_tuple I.kIn ⟨o, h1, h2⟩ e (fun z => nomatch z) h
  | @dK a kvs ea =>
    cases (show u = Value.ref a from rx)
    obtain ⟨_, _, vs, _, p⟩ := (show ObjOk X.prog X.w H s.heap a (.dK kvs) from I.hok a _ ea)
    obtain ⟨o, es, ep, h1, h2, _⟩ := p
    exact PySem.W.kia_one PySem.W.kitx_dict I.kIn ⟨o, h1, h2.1⟩ e (fun z => nomatch z) h
  | @dT a kvs ea =>
    cases (show u = Value.ref a from rx)
    obtain ⟨_, _, xs, _, o, es, ep, h1, h2, _⟩ := (show ObjOk X.prog X.w H s.heap a (.dT kvs) from I.hok a _ ea)
    exact PySem.W.kia_one PySem.W.kitx_dict I.kIn ⟨o, h1, h2.1⟩ e (fun z => nomatch z) h
  | @ins a C dx fs ea cl ha hn htk hm =>
    cases (show u = Value.ref a from rx)
    obtain ⟨mA, O, _⟩ := ins_get I.hok ea
    obtain ⟨od, J, _⟩ := O.look
    exact PySem.W.kia_one (PySem.W.kitx_own (cl.get _) cl.hd ha hn htk hm) I.kIn J e (fun z => nomatch z) h
end
end L2
namespace L2
open PySem PySem.Spec PyProof.Rows
structure Room (k : Nat) (A : Around) : Prop where
  hd : A.handled = none
  dp : A.depth + 3 * k + 5 < recursionLimit
  un : A.units + 16 * k + 200 < cLine
theorem Room.mono {j k : Nat} {A : Around} (r : Room k A) (h : j ≤ k) : Room j A := ⟨r.hd, by have := r.dp; omega, by have := r.un; omega⟩
theorem Room.deeper {k : Nat} {A : Around} (r : Room (k + 1) A) (env : Env) : Room k (A.deeper env) :=
  ⟨r.hd, by have := r.dp; show A.depth + 1 + 3 * k + 5 < _; omega, by have := r.un; show A.units + 3 + 16 * k + 200 < _; omega⟩
theorem Room.in1 {k : Nat} {A : Around} (r : Room (k + 1) A) : Room k A.in1 :=
  ⟨r.hd, by have := r.dp; show A.depth + 3 * k + 5 < _; omega, by have := r.un; show A.units + 1 + 16 * k + 200 < _; omega⟩
theorem make_depth {A : Around} {C : Addr} {us : List Value} {kw : List (Str × Value)} : (A.under (.builtin "type.__call__" ⟨.ref C :: us, kw⟩)).depth = A.depth + 1 := by
  first | rfl | simp [Around.under, Code.weight, Code.isCreation, Code.isGuard, Code.isCaller, Code.frames, Code.isFrame, guardIds]
theorem make_units {A : Around} {C : Addr} {us : List Value} {kw : List (Str × Value)} : (A.under (.builtin "type.__call__" ⟨.ref C :: us, kw⟩)).units = A.units + 1 := by
  first | rfl | simp [Around.under, Code.cUnits, Code.frames, Code.isFrame]
theorem Room.make {k : Nat} {A : Around} (r : Room (k + 1) A) (C : Addr) (us : List Value) (kw : List (Str × Value)) : Room k (A.under (.builtin "type.__call__" ⟨.ref C :: us, kw⟩)) :=
  ⟨r.hd, by have := r.dp; rw [make_depth]; omega, by have := r.un; rw [make_units]; omega⟩
theorem Room.depth {k : Nat} {A : Around} (r : Room k A) : A.depth < recursionLimit := by have := r.dp; omega
theorem Room.units {k : Nat} {A : Around} (r : Room k A) : A.units + 64 < cLine := by have := r.un; omega
def tNil : TA := fun _ H Q => Q [] H
def tCons (ta : TE) (tr : TA) : TA := fun σ H Q => ta σ H fun x H1 => tr σ H1 fun xs H2 => Q (x :: xs) H2
section
variable {X : Cx} {e : Expr} {es : List Expr} {te : TE} {t : TA} {pos : Pos}
theorem pa_nil : PA X [] tNil := fun _ _ _ _ H Q I h => Calls.spliced_nil ⟨[], H, I, .nil, h⟩
theorem pa_cons (ha : PE X e te) (hr : PA X es t) (hs : starEach (e :: es) X.env = (false, eval e X.env) :: starEach es X.env := by rfl) : PA X (e :: es) (tCons te t) := by
  intro pos pins s σ H Q I h
  rw [hs]
  show wpAny _ _ (spliced ((false, eval e X.env) :: backTo pos (starEach es X.env))) _ _ s
  refine Calls.spliced_cons (thn (ha pins s σ H _ I h) fun u s1 ⟨x, H1, I1, r1, q1⟩ => ?_)
  exact thn (hr pos pins s1 σ H1 _ I1 q1) fun us s2 ⟨xs, H2, I2, r2, q2⟩ => ⟨x :: xs, H2, I2, .cons r1 r2, q2⟩
def tTup (t : TA) : TE := fun σ H Q => t σ H fun xs H1 => xs.length ≤ sizeLine ∧ ∀ p, H1 p = none → Q (.ref p) (upd H1 p (.tup xs))
def tLst (t : TA) : TE := fun σ H Q => t σ H fun xs H1 => xs.length ≤ sizeLine ∧ ∀ p, H1 p = none → Q (.ref p) (upd H1 p (.lst xs))
theorem pe_tup {x1} (h : PA X es t) : PE X (.Tuple es x1 pos) (tTup t) := by
  intro pins s σ H Q I hq
  refine wpAny_Tuple_spliced (thn (h pos pins s σ H _ I hq) fun us s1 ⟨xs, H1, I1, r, z, q⟩ => ⟨by rw [← r.length]; exact z, ?_⟩)
  have hf : H1 s1.heap.objs.size = none := I1.hok.fresh (Nat.le_refl _)
  refine ⟨.ref s1.heap.objs.size, upd H1 s1.heap.objs.size (.tup xs), I1.laid (t' := s1.toks) (fun b u e => Heap.get?_push_of_some _ e) (Nat.le_refl _) ?_, rfl, q _ hf⟩
  exact ⟨z, us, r, ⟨_, Heap.get?_push_size _ rfl, rfl, _, rfl⟩⟩
theorem pe_lst (h : PA X es t) : PE X (.List es pos) (tLst t) := by
  intro pins s σ H Q I hq
  refine wpAny_List_spliced (thn (h pos pins s σ H _ I hq) fun us s1 ⟨xs, H1, I1, r, z, q⟩ => ⟨by rw [← r.length]; exact z, ?_⟩)
  have hf : H1 s1.heap.objs.size = none := I1.hok.fresh (Nat.le_refl _)
  refine ⟨.ref s1.heap.objs.size, upd H1 s1.heap.objs.size (.lst xs), I1.laid (t' := s1.toks) (fun b u e => Heap.get?_push_of_some _ e) (Nat.le_refl _) ?_, rfl, q _ hf⟩
  exact ⟨z, us, 0, r, Heap.get?_push_size _ rfl⟩
end
abbrev Sp := List V → Hp → VK → XK → Prop
abbrev CXT := List Env → Hp → Shared → XK → Value → Shared → Prop
structure Env0 (P : Program) (w : World) (K : PySem.W.Frag) (mg : Str → Option Value) (base : Heap) (A : Around) (outer : List Env) (s : Shared) (H : Hp) : Prop where
  frames : A.frames = some outer
  mod : Mod K mg base
  bs : ∀ b o, base.get? b = some o → s.heap.get? b = some o ∧ H b = none
  bsz : base.objs.size ≤ s.heap.objs.size
  funs : s.heap.FunFrames base outer
  frf : ∀ b ∈ frs outer, H b = none
  hok : HOk P w H s.heap
  bare : AllBare s.gens
def CE (outer : List Env) (P : Program) (w : World) (H : Hp) (s : Shared) (Q : VK) (u : Value) (s' : Shared) : Prop :=
  ∃ v H', s'.os = s.os ∧ AllBare s'.gens ∧ Un (frs outer) [] H H' s.heap s'.heap ∧ HOk P w H' s'.heap ∧ RelV v u ∧ Q v H'
def CR (CX : CXT) (outer : List Env) (P : Program) (w : World) (H : Hp) (s : Shared) (Q : VK) (E : XK) (r : Result) (s' : Shared) : Prop :=
  match r with
  | .ok (.ret u) => CE outer P w H s Q u s'
  | .ok _ => False
  | .error e => CX outer H s E e s'
structure FnOk (P : Program) (w : World) (K : PySem.W.Frag) (mg : Str → Option Value) (base : Heap) (CX : CXT) (k : Nat) (f : Addr) (fd : FuncData) (ps : List Str) (sp : Sp) : Prop where
  len : ∀ vs H Q E, sp vs H Q E → vs.length = ps.length
  run : ∀ (A : Around) (outer : List Env) (s : Shared) (H : Hp) (args : Args) (us : List Value) (vs : List V) (Q : VK) (E : XK), Room k A → Env0 P w K mg base A outer s H → BindsTo s fd args (ps.zip us) → Vals vs us → sp vs H Q E →
    codeAny (model P w) A (.call (.ref f) args) (CR CX outer P w H s Q E) s
theorem FnOk.mono {P : Program} {w : World} {K : PySem.W.Frag} {mg : Str → Option Value} {base : Heap} {CX : CXT} {j k : Nat} {f : Addr} {fd : FuncData} {ps : List Str} {sp : Sp} (F : FnOk P w K mg base CX j f fd ps sp) (h : j ≤ k) :
    FnOk P w K mg base CX k f fd ps sp := ⟨F.len, fun A outer s H args us vs Q E hr => F.run A outer s H args us vs Q E (hr.mono h)⟩
theorem FnOk.imp {P : Program} {w : World} {K : PySem.W.Frag} {mg : Str → Option Value} {base : Heap} {CX : CXT} {k : Nat} {f : Addr} {fd : FuncData} {ps : List Str} {sp sp' : Sp} (F : FnOk P w K mg base CX k f fd ps sp)
    (h : ∀ vs H Q E, sp' vs H Q E → sp vs H Q E) : FnOk P w K mg base CX k f fd ps sp' :=
  ⟨fun vs H Q E q => F.len vs H Q E (h _ _ _ _ q), fun A outer s H args us vs Q E hr he hb hv hs => F.run A outer s H args us vs Q E hr he hb hv (h _ _ _ _ hs)⟩
theorem Env0.make {P : Program} {w : World} {K : PySem.W.Frag} {mg : Str → Option Value} {base : Heap} {A : Around} {outer : List Env} {s : Shared} {H : Hp} (e : Env0 P w K mg base A outer s H) (C : Addr) (us : List Value) (kw : List (Str × Value)) :
    Env0 P w K mg base (A.under (.builtin "type.__call__" ⟨.ref C :: us, kw⟩)) outer s H := ⟨by first | exact e.frames | (simpa [Around.under, Code.envs, Code.isFrame, pushEnvs] using e.frames), e.mod, e.bs, e.bsz, e.funs, e.frf, e.hok, e.bare⟩
theorem Env0.in1 {P : Program} {w : World} {K : PySem.W.Frag} {mg : Str → Option Value} {base : Heap} {A : Around} {outer : List Env} {s : Shared} {H : Hp} (e : Env0 P w K mg base A outer s H) :
    Env0 P w K mg base A.in1 outer s H := ⟨e.frames, e.mod, e.bs, e.bsz, e.funs, e.frf, e.hok, e.bare⟩
section
variable {X : Cx} {pins : List (Addr × Obj)} {σ : St} {H : Hp} {s s' : Shared}
theorem Inv.env0 (I : Inv X pins σ H s) : Env0 X.prog X.w X.K X.mg X.base X.A X.stack s H :=
  ⟨I.ok.frames, I.ok.mod, I.bs, Nat.le_trans I.ok.bsz I.sz, I.stack, I.stkFree, I.hok, I.bare⟩
theorem Inv.after {Q : VK} {u : Value} (I : Inv X pins σ H s) (h : CE X.stack X.prog X.w H s Q u s') : EP X pins σ Q u s' := by
  obtain ⟨v, H', os, bare, un, hok, r, q⟩ := h
  obtain ⟨hh, g, d, t, os'⟩ := s'
  obtain rfl : os' = s.os := os
  exact ⟨v, H', I.call (h' := hh) (g' := g) (d' := d) (t' := t) (ch := []) un hok bare (fun b z => absurd z (by simp)), r, q⟩
end
def tCall (sp : Sp) (dvs : List V) (E : XK) (t : TA) : TE := fun σ H Q => t σ H fun vs H1 => sp (vs ++ dvs) H1 Q E
def tMeth (C : Addr) (m : Str) (sp : Sp) (dvs : List V) (E : XK) (ta : TE) (t : TA) : TE := fun σ H Q => ta σ H fun x H1 => ∃ a dx fs, x = .ref a ∧ H1 a = some (.ins C dx fs) ∧ fs.lookup m = none ∧
  t σ H1 fun vs H2 => sp (x :: (vs ++ dvs)) H2 Q E
def tMake (C : Addr) (sp : Sp) (dvs : List V) (E : XK) (t : TA) : TE := fun σ H Q => t σ H fun vs H1 => ∀ x dx, H1 x = none → H1 dx = none → dx ≠ x →
  sp (.ref x :: (vs ++ dvs)) (upd (upd H1 dx (.own x)) x (.ins C dx [])) (fun v H2 => v = .non ∧ Q (.ref x) H2) E
def Binds (K : PySem.W.Frag) (fd : FuncData) (ps : List Str) (ds : List Value) : Prop :=
  ∀ (s : Shared) (us : List Value), K.In s.heap → (us ++ ds).length = ps.length → BindsTo s fd ⟨us, []⟩ (ps.zip (us ++ ds))
theorem Binds.all {K : PySem.W.Frag} {fd : FuncData} {ps : List Str} (h : ∀ us : List Value, us.length = ps.length → bindArgs fd ⟨us, []⟩ = pure (ps.zip us)) : Binds K fd ps [] := fun s us _ hl => by
  rw [List.append_nil] at hl ⊢
  exact .of_eq (h us hl)
def Passes (CX : CXT) (X : Cx) (E : XK) : Prop := ∀ (pins : List (Addr × Obj)) (σ : St) (H : Hp) (s : Shared) (e : Value) (s' : Shared), Inv X pins σ H s → CX X.stack H s E e s' → X.xe e s'
section
variable {X : Cx} {CX : CXT} {k : Nat} {f C : Addr} {fd : FuncData} {ps : List Str} {sp : Sp} {dvs : List V} {ds : List Value} {E : XK} {x m : Str} {p pos apos : Pos} {e o : Expr} {es : List Expr} {ta : TE} {t : TA}
theorem run_fn {pins : List (Addr × Obj)} {σ : St} {H : Hp} {s : Shared} {Q : VK} {us : List Value} {vs : List V} (F : FnOk X.prog X.w X.K X.mg X.base CX k f fd ps sp) (hr : Room k X.A) (hb : Binds X.K fd ps ds) (hd : Vals dvs ds) (hx : Passes CX X E)
    (I : Inv X pins σ H s) (r : Vals vs us) (h : sp (vs ++ dvs) H Q E) : wpAny (model X.prog X.w) X.A (call (.ref f) us) (EP X pins σ Q) X.xe s := by
  have r2 : Vals (vs ++ dvs) (us ++ ds) := r.append hd
  have hl : (us ++ ds).length = ps.length := by rw [← r2.length]; exact F.len _ _ _ _ h
  refine wpAny_call (codeAny_mono (F.run X.A X.stack s H ⟨us, []⟩ (us ++ ds) (vs ++ dvs) Q E hr I.env0 (hb s us I.kIn hl) r2 h) fun r s' hq => ?_)
  cases r with
  | error e => exact hx pins σ H s e s' I hq
  | ok fl =>
    cases fl with
    | ret u => exact I.after hq
    | next => exact False.elim hq
    | brk => exact False.elim hq
    | cont => exact False.elim hq
theorem pe_call (F : FnOk X.prog X.w X.K X.mg X.base CX k f fd ps sp) (hr : Room k X.A) (hg : Gl X x) (hm : X.mg x = some (.ref f)) (hk : PySem.W.keepIn X.K (.ref f) = true) (hb : Binds X.K fd ps ds) (hd : Vals dvs ds) (hx : Passes CX X E)
    (ha : PA X (e :: es) t) (hdb : (x == ("__debug__" : Str)) = false := by decide) (he : starEach (e :: es) X.env = (false, eval e X.env) :: starEach es X.env := by rfl) (hpl : (backTo pos (starEach es X.env)).any (·.1) = false := by rfl) :
    PE X (.Call (.Name x p) (e :: es) [] pos) (tCall sp dvs E t) := by
  intro pins s σ H Q I h
  refine wpAny_Call_Name_kw (ld_glob I hg hm ?_ hdb)
  refine PySem.W.callWith_K (h₀ := X.base) I.ok.mod.kin hk (thn (ha pos pins s σ H _ I h) fun us s1 ⟨vs, H1, I1, r, q⟩ => ⟨I1.kIn, ?_⟩) he hpl
  exact run_fn F hr hb hd hx I1 r q
theorem pe_meth {pl : Sem Bool} (he : PE X o ta) (c : Cls X.K C) (hm : Meth X.K C m f) (F : FnOk X.prog X.w X.K X.mg X.base CX k f fd ps sp) (hr : Room k X.A) (hb : Binds X.K fd ps ds) (hd : Vals dvs ds) (hx : Passes CX X E) (ha : PA X (e :: es) t)
    (hst : starEach (e :: es) X.env = (false, eval e X.env) :: starEach es X.env := by rfl) (hpl : (backTo pos (starEach es X.env)).any (·.1) = false := by rfl)
    (ht : eval (.Call (.Attribute o m apos) (e :: es) [] pos) X.env = (do
      let ov ← eval o X.env
      standAt apos.atName
      let (f, first) ← holding [ov] (getMethod ov m pl)
      callWith pos f first (backTo pos (starEach (e :: es) X.env)) (backToKw pos (keywordEach [] X.env))) := by rfl) :
    PE X (.Call (.Attribute o m apos) (e :: es) [] pos) (tMeth C m sp dvs E ta t) := by
  intro pins s σ H Q I h
  refine PySem.W.methodCall_KW (pl := pl) (thn (he pins s σ H _ I h) fun u s1 ⟨x, H1, I1, rx, a, dx, fs, ex, ea, l, q⟩ => ?_) ht
  subst ex
  obtain rfl : u = Value.ref a := rx
  refine getmeth_ok I1 ea c hm l ?_
  refine PySem.W.callWith_K (first := [.ref a]) (h₀ := X.base) I.ok.mod.kin hm.kp (thn (ha pos pins s1 σ H1 _ I1 q) fun us s2 ⟨vs, H2, I2, r, q2⟩ => ⟨I2.kIn, ?_⟩) hst hpl
  exact run_fn (us := .ref a :: us) (vs := .ref a :: vs) F hr hb hd hx I2 (.cons rfl r) q2
theorem pe_meth0 {pl : Sem Bool} (he : PE X o ta) (c : Cls X.K C) (hm : Meth X.K C m f) (F : FnOk X.prog X.w X.K X.mg X.base CX k f fd ps sp) (hr : Room k X.A) (hb : Binds X.K fd ps ds) (hd : Vals dvs ds) (hx : Passes CX X E)
    (ht : eval (.Call (.Attribute o m apos) [] [] pos) X.env = (do
      let ov ← eval o X.env
      standAt apos.atName
      let (f, first) ← holding [ov] (getMethod ov m pl)
      callWith pos f first (backTo pos (starEach [] X.env)) (backToKw pos (keywordEach [] X.env))) := by rfl) :
    PE X (.Call (.Attribute o m apos) [] [] pos) (tMeth C m sp dvs E ta tNil) := by
  intro pins s σ H Q I h
  refine PySem.W.methodCall_KW (pl := pl) (thn (he pins s σ H _ I h) fun u s1 ⟨x, H1, I1, rx, a, dx, fs, ex, ea, l, q⟩ => ?_) ht
  subst ex
  obtain rfl : u = Value.ref a := rx
  refine getmeth_ok I1 ea c hm l ?_
  exact PySem.W.callWith_K0 (first := [.ref a]) I1.kIn hm.kp (run_fn (us := [.ref a]) (vs := [.ref a]) F hr hb hd hx I1 (.cons rfl .nil) q)
structure Mk (K : PySem.W.Frag) (C f : Addr) : Prop where
  makes : PySem.W.makesIn K C = true
  init : PySem.W.findIn K (.ref C) "__init__" = some (some (.ref f))
  fn : PySem.W.isFn K (.ref f) = true
  kp : PySem.W.keepIn K (.ref C) = true
theorem run_make {pins : List (Addr × Obj)} {σ : St} {H : Hp} {s : Shared} {Q : VK} {us : List Value} {vs : List V} (M : Mk X.K C f) (F : FnOk X.prog X.w X.K X.mg X.base CX k f fd ps sp) (hr : Room (k + 1) X.A) (hb : Binds X.K fd ps ds) (hd : Vals dvs ds)
    (hx : Passes CX X E) (I : Inv X pins σ H s) (r : Vals vs us)
    (h : ∀ x dx, H x = none → H dx = none → dx ≠ x → sp (.ref x :: (vs ++ dvs)) (upd (upd H dx (.own x)) x (.ins C dx [])) (fun v H2 => v = .non ∧ Q (.ref x) H2) E) :
    wpAny (model X.prog X.w) X.A (call (.ref C) us) (EP X pins σ Q) X.xe s := by
  have hq := h (s.heap.objs.size + 1) s.heap.objs.size (I.hok.fresh (Nat.le_succ _)) (I.hok.fresh (Nat.le_refl _)) (Nat.ne_of_lt (Nat.lt_succ_self _))
  have I2 := Inv.made (C := C) I
  have r2 : Vals (V.ref (s.heap.objs.size + 1) :: (vs ++ dvs)) (Value.ref (s.heap.objs.size + 1) :: (us ++ ds)) := .cons rfl (r.append hd)
  have hl : (Value.ref (s.heap.objs.size + 1) :: us ++ ds).length = ps.length := by
    have e := r2.length
    rw [F.len _ _ _ _ hq] at e
    exact e.symm
  refine wpAny_call (make_map (f := f) I.kIn M.makes M.init (beq_iff_eq.mp M.fn) (codeAny_mono (F.run _ X.stack _ _ ⟨Value.ref (s.heap.objs.size + 1) :: us, []⟩ (Value.ref (s.heap.objs.size + 1) :: (us ++ ds)) _ _ E (hr.make C us [])
    (I2.env0.make C us []) (hb _ (Value.ref (s.heap.objs.size + 1) :: us) I2.kIn hl) r2 hq) fun r s' hq' => ?_))
  cases r with
  | error e => exact hx pins σ _ _ e s' I2 hq'
  | ok fl =>
    cases fl with
    | ret u =>
      obtain ⟨v, H', I3, rv, ev, q3⟩ := I2.after hq'
      subst ev
      exact ⟨rv, ⟨V.ref (s.heap.objs.size + 1), H', I3, rfl, q3⟩⟩
    | next => exact False.elim hq'
    | brk => exact False.elim hq'
    | cont => exact False.elim hq'
theorem pe_make0 (M : Mk X.K C f) (F : FnOk X.prog X.w X.K X.mg X.base CX k f fd ps sp) (hr : Room (k + 1) X.A) (hg : Gl X x) (hm : X.mg x = some (.ref C)) (hb : Binds X.K fd ps ds) (hd : Vals dvs ds) (hx : Passes CX X E)
    (hdb : (x == ("__debug__" : Str)) = false := by decide) : PE X (.Call (.Name x p) [] [] pos) (tMake C sp dvs E tNil) := by
  intro pins s σ H Q I h
  refine wpAny_Call_Name_kw (ld_glob I hg hm ?_ hdb)
  exact PySem.W.callWith_K0 I.kIn M.kp (run_make (us := []) M F hr hb hd hx I .nil h)
end
section
variable {X : Cx} {CX : CXT} {k : Nat} {f C : Addr} {fd : FuncData} {ps ks : List Str} {sp : Sp} {E : XK} {x m : Str} {p pos apos kpos : Pos} {e o : Expr} {es : List Expr} {kws : List Keyword} {te ta : TE} {t tk : TA} {nm : Option Str}
structure KBinds (K : PySem.W.Frag) (fd : FuncData) (ps ks : List Str) (g : List Value → List Value → List Value) (gV : List V → List V → List V) : Prop where
  to : ∀ (s : Shared) (us ws : List Value), K.In s.heap → (g us ws).length = ps.length → BindsTo s fd ⟨us, ks.zip ws⟩ (ps.zip (g us ws))
  rel : ∀ {vs : List V} {us : List Value} {zs : List V} {ws : List Value}, Vals vs us → Vals zs ws → Vals (gV vs zs) (g us ws)
variable {g : List Value → List Value → List Value} {gV : List V → List V → List V}
end
structure FnScope (N P : List Str) (sc : Scope) : Prop where
  kind : sc.kind = .function
  co : sc.isCoroutine = false
  gen : sc.isGenerator = false
  nd : N.Nodup
  pre : N.take P.length = P
  par : ∀ x ∈ P, sc.names.lookup x = some .local ∨ sc.names.lookup x = some .cell
  nofree : ∀ y ∈ sc.names, y.2 ≠ .free
theorem bindL_out {kindOf : Str → Option NameKind} {x : Str} : ∀ {binds : List (Str × Value)} {m : Str → Option Value}, (∀ v, (x, v) ∉ binds) → bindL kindOf binds m x = m x
  | [], _, _ => rfl
  | (n, v) :: r, m, h => by
    unfold bindL
    rw [bindL_out fun w hw => h w (List.mem_cons_of_mem _ hw)]
    split
    · have : x ≠ n := by rintro rfl; exact h v List.mem_cons_self
      simp [this]
    · rfl
theorem bindC_out {kindOf : Str → Option NameKind} {x : Str} : ∀ {binds : List (Str × Value)} {m : Str → Option Value}, (∀ v, (x, v) ∉ binds) → bindC kindOf binds m x = m x
  | [], _, _ => rfl
  | (n, v) :: r, m, h => by
    unfold bindC
    rw [bindC_out fun w hw => h w (List.mem_cons_of_mem _ hw)]
    split
    · rfl
    · have : x ≠ n := by rintro rfl; exact h v List.mem_cons_self
      simp [this]
theorem bindL_get {kindOf : Str → Option NameKind} {x : Str} {v : Value} : ∀ {P : List Str} {vs : List Value} {i : Nat} {m : Str → Option Value}, P.Nodup → P[i]? = some x → vs[i]? = some v → kindOf x = some .local →
    bindL kindOf (P.zip vs) m x = some v
  | [], _, _, _, _, h, _, _ => by simp at h
  | _ :: _, [], _, _, _, _, h, _ => by simp at h
  | p :: P, w :: vs, 0, m, nd, h1, h2, hk => by
    simp at h1 h2; subst h1; subst h2
    show bindL kindOf ((p, w) :: P.zip vs) m p = _
    unfold bindL
    rw [bindL_out fun v hv => (List.nodup_cons.mp nd).1 (List.of_mem_zip hv).1, if_pos hk]
    simp
  | p :: P, w :: vs, i + 1, m, nd, h1, h2, hk => by
    show bindL kindOf ((p, w) :: P.zip vs) m x = _
    unfold bindL
    exact bindL_get (i := i) (List.nodup_cons.mp nd).2 (by simpa using h1) (by simpa using h2) hk
theorem bindC_get {kindOf : Str → Option NameKind} {x : Str} {v : Value} : ∀ {P : List Str} {vs : List Value} {i : Nat} {m : Str → Option Value}, P.Nodup → P[i]? = some x → vs[i]? = some v → kindOf x ≠ some .local →
    bindC kindOf (P.zip vs) m x = some v
  | [], _, _, _, _, h, _, _ => by simp at h
  | _ :: _, [], _, _, _, _, h, _ => by simp at h
  | p :: P, w :: vs, 0, m, nd, h1, h2, hk => by
    simp at h1 h2; subst h1; subst h2
    show bindC kindOf ((p, w) :: P.zip vs) m p = _
    unfold bindC
    rw [bindC_out fun v hv => (List.nodup_cons.mp nd).1 (List.of_mem_zip hv).1, if_neg hk]
    simp
  | p :: P, w :: vs, i + 1, m, nd, h1, h2, hk => by
    show bindC kindOf ((p, w) :: P.zip vs) m x = _
    unfold bindC
    exact bindC_get (i := i) (List.nodup_cons.mp nd).2 (by simpa using h1) (by simpa using h2) hk
def start (N : List Str) (vs : List V) : St := vs.map some ++ List.replicate (N.length - vs.length) none
def cxOf (CX : CXT) (P : Program) (w : World) (K : PySem.W.Frag) (mg : Str → Option Value) (base : Heap) (N : List Str) (qual : Str) (scope : Scope) (f : Addr) (cd : Value) (A : Around) (outer : List Env) (s : Shared) (H : Hp) (E : XK) : Cx where
  prog := P
  w := w
  K := K
  mg := mg
  base := base
  A := A.deeper (envOfC qual scope s.heap.objs.size f cd)
  N := N
  s₀ := s
  H₀ := H
  env := envOfC qual scope s.heap.objs.size f cd
  outer := outer
  stack := envOfC qual scope s.heap.objs.size f cd :: outer
  ex := []
  calm := true
  fn := fun _ => true
  pn := []
  xe := fun e s' => wpAny (model P w) (A.deeper (envOfC qual scope s.heap.objs.size f cd)) (leaving (envOfC qual scope s.heap.objs.size f cd) e) (fun _ s'' => CX outer H s E e s'') (fun e' s'' => CX outer H s E e' s'') s'
theorem cell_has {sc : Scope} {n : Nat} {x : Str} (h : sc.names.lookup x = some .cell) : ∃ c, (cellsFrom n sc.names []).lookup x = some c := by
  have q := PySem.W.cellsFrom_some sc.names n [] (.inl h)
  exact Option.isSome_iff_exists.mp q
theorem inv_start {CX : CXT} {P : Program} {w : World} {K : PySem.W.Frag} {mg : Str → Option Value} {base : Heap} {N ps : List Str} {qual : Str} {scope : Scope} {f : Addr} {cd : Value} {A : Around} {outer : List Env} {s s1 : Shared} {H : Hp} {E : XK} {us : List Value} {vs : List V}
    (S : FnScope N ps scope) (hd : A.handled = none) (e0 : Env0 P w K mg base A outer s H) (hl : vs.length = ps.length) (r : Vals vs us)
    (x : InCallC s s.heap.objs.size (bindL (envOfC qual scope s.heap.objs.size f cd).kindOf (ps.zip us) fun _ => none) (cellsFrom (s.heap.objs.size + 1) scope.names []) (bindC (envOfC qual scope s.heap.objs.size f cd).kindOf (ps.zip us) fun _ => none) s1) :
    Inv (cxOf CX P w K mg base N qual scope f cd A outer s H E) [] (start N vs) H s1 := by
  have hpl : ps.length ≤ N.length := by have := congrArg List.length S.pre; rw [List.length_take] at this; omega
  obtain ⟨h1, tk, rfl, hk⟩ := x.done
  have noA : ∀ b : Addr, b ∉ (cxOf CX P w K mg base N qual scope f cd A outer s H E).ex := fun b z => absurd (show b ∈ ([] : List Addr) from z) (by simp)
  refine ⟨⟨e0.mod, S.kind, rfl, rfl, Nat.le_refl _, fun y z c h1 h2 => ?_, fun y hy => ?_, fun y c _ h => ?_, fun _ => hd, Around.frames_deeper e0.frames, .inr ⟨rfl, rfl⟩, fun b z => absurd z (noA b), e0.bs, e0.bsz, fun b _ _ => noA b, fun b z => absurd z (noA b), e0.funs, e0.frf⟩,
    rfl, e0.bare, Un.kept hk, ⟨_, x.toInCall.ns, fun i y v h1 h2 h3 => ?_⟩, fun y c h => ⟨_, x.cell y c h⟩, e0.hok.fresh (Nat.le_refl _), fun y c h => ?_, fun p hp => absurd (show p ∈ ([] : List (Addr × Obj)) from hp) (by simp), e0.hok.kept hk, ?_⟩
  · exact name_of_addr x.apart (PySem.mem_of_lookup h1) (PySem.mem_of_lookup h2)
  · have hy : scope.names.lookup y = some .cell ∨ scope.names.lookup y = some .free := hy
    rcases hy with hy | hy
    · exact cell_has hy
    · exact absurd rfl (S.nofree _ (PySem.mem_of_lookup hy))
  · exact Nat.le_of_lt (x.above y c (PySem.mem_of_lookup h))
  · have hi : i < vs.length := by
      unfold start at h2
      by_cases hi : i < vs.length
      · exact hi
      · rw [List.getElem?_append_right (by simpa using hi)] at h2
        rw [List.getElem?_replicate] at h2
        split at h2 <;> cases h2
    have ha : vs[i]? = some v := by
      unfold start at h2
      rw [List.getElem?_append_left (by simpa using hi), List.getElem?_map] at h2
      cases e : vs[i]? with
      | none => rw [e] at h2; cases h2
      | some a => rw [e] at h2; cases h2; rfl
    obtain ⟨u, hu, rv⟩ := r.get ha
    have hp : ps[i]? = some y := by
      rw [← S.pre, List.getElem?_take_of_lt (by omega)]; exact h1
    have ndP : ps.Nodup := by rw [← S.pre]; exact S.nd.sublist (List.take_sublist _ _)
    refine ⟨u, rv, ?_⟩
    rcases S.par y (List.mem_of_getElem? hp) with k | k
    · exact .inl ⟨k, bindL_get ndP hp hu k⟩
    · obtain ⟨c, e⟩ := cell_has (n := s.heap.objs.size + 1) k
      refine .inr ⟨.inl k, c, e, ?_⟩
      have q := x.cell y c e
      rw [bindC_get ndP hp hu (by show scope.names.lookup y ≠ _; rw [k]; decide)] at q
      exact q
  · exact e0.hok.fresh (Nat.le_of_lt (x.above y c (PySem.mem_of_lookup h)))
  · unfold start
    show _ = N.length
    rw [List.length_append, List.length_map, List.length_replicate]
    omega
theorem fn_of {CX : CXT} {P : Program} {w : World} {K : PySem.W.Frag} {mg : Str → Option Value} {base : Heap} {k : Nat} {f : Addr} {name qual : Str} {params : Arguments} {body : List Stmt} {scope : Scope} {dV kV doc pm cdv ct oc : Value} {an od : Option Addr}
    {osl : Array (Option Value)} {N ps : List Str} {sp : Sp} (lk : K.lookup f = some ⟨oc, od, .func (PySem.W.fnOf name qual params body scope dV kV doc pm an cdv ct), osl⟩) (hcd : PySem.W.codeIn K cdv qual = true) (S : FnScope N ps scope)
    (len : ∀ vs H Q E, sp vs H Q E → vs.length = ps.length)
    (hbody : ∀ (A : Around) (outer : List Env) (s : Shared) (H : Hp) (vs : List V) (Q : VK) (E : XK), Room k (A.deeper (envOfC qual scope s.heap.objs.size f cdv)) → sp vs H Q E →
      ∃ t, PSs (cxOf CX P w K mg base N qual scope f cdv A outer s H E) body t ∧ t { nx := fun _ H' => Q .non H', rt := Q } (start N vs) H) :
    FnOk P w K mg base CX (k + 1) f (PySem.W.fnOf name qual params body scope dV kV doc pm an cdv ct) ps sp := by
  refine ⟨len, fun A outer s H args us vs Q E hr e0 hb r hsp => ?_⟩
  have hl := len _ _ _ _ hsp
  have KX : K.In s.heap := e0.mod.kin.keeps fun b o e => (e0.bs b o e).1
  have lim : s.heap.NoLimit := e0.mod.nolimit.keeps fun b o e => (e0.bs b o e).1
  have hkind : ∀ y ∈ ps.zip us, scope.names.lookup y.1 = some .local ∨ (scope.names.lookup y.1 = some .cell ∧ ((cellsFrom (s.heap.objs.size + 1) scope.names []).lookup y.1).isSome = true) := fun ⟨n, v⟩ hy => by
    rcases S.par n (List.of_mem_zip hy).1 with q | q
    · exact .inl q
    · exact .inr ⟨q, PySem.W.cellsFrom_some _ _ _ (.inl q)⟩
  refine codeAny_call_function hr.depth (KX _ _ lk) rfl S.co S.gen rfl (PySem.W.codeRec_of KX hcd) (hb _ _ _ _ ?_)
  refine wpAny_newFunctionEnv_cells S.kind hkind fun env he s1 x => ?_
  subst he
  refine ⟨lim.keeps x.toInCall.keep, codeAny_func ?_⟩
  obtain ⟨t, ht, hq⟩ := hbody A outer s H vs Q E (hr.deeper _) hsp
  have I : Inv (cxOf CX P w K mg base N qual scope f cdv A outer s H E) [] (start N vs) H s1 := inv_start S hr.hd e0 hl r x
  refine wpAny_mono (ht [] s1 (start N vs) H _ I hq) (fun fl s' hs => ?_) fun e s' hs => hs
  have fin : ∀ {σ' : St} {H' : Hp} {v : V} {u : Value}, Inv (cxOf CX P w K mg base N qual scope f cdv A outer s H E) [] σ' H' s' → RelV v u → Q v H' → CE outer P w H s Q u s' :=
    fun {σ' H' v u} J rv q => ⟨v, H', J.os, J.bare, J.base, J.hok, rv, q⟩
  cases fl with
  | ret u =>
    obtain ⟨v, σ', H', J, rv, q⟩ := hs
    exact fin J rv q
  | next =>
    obtain ⟨σ', H', J, q⟩ := hs
    exact fin (v := V.non) (u := Value.none) J rfl q
  | brk =>
    obtain ⟨_, _, _, q⟩ := hs
    exact False.elim q
  | cont =>
    obtain ⟨_, _, _, q⟩ := hs
    exact False.elim q
end L2
namespace L2
open PySem PySem.Spec PyProof.Rows
section
variable {X : Cx} {x : Str} {p pos : Pos} {e : Expr} {es : List Expr} {t : TA} {id T : String} {r : List V → Hp → VK → Prop}
def tCB (r : List V → Hp → VK → Prop) (t : TA) : TE := fun σ H Q => t σ H fun vs H1 => r vs H1 Q
theorem pe_callB (hc : CallR X (.builtin id) r) (hg : Gl X x) (hm : X.mg x = none) (hv : bootBuiltins x = some (.builtin id)) (ha : PA X (e :: es) t) (hn : x ≠ "__name__" := by decide) (hdb : (x == ("__debug__" : Str)) = false := by decide)
    (he : starEach (e :: es) X.env = (false, eval e X.env) :: starEach es X.env := by rfl) (hpl : (backTo pos (starEach es X.env)).any (·.1) = false := by rfl) : PE X (.Call (.Name x p) (e :: es) [] pos) (tCB r t) := by
  intro pins s σ H Q I h
  refine wpAny_Call_Name_kw (ld_blt I hg hm hv ?_ hn hdb)
  exact PyProof.Rows.callWith_builtin1 (thn (ha pos pins s σ H _ I h) fun us s1 ⟨vs, H1, I1, r1, q1⟩ => hc pins s1 σ H1 vs us Q I1 r1 q1) he hpl
theorem pe_callTy (hc : CallR X (.type T) r) (hg : Gl X x) (hm : X.mg x = none) (hv : bootBuiltins x = some (.type T)) (ha : PA X (e :: es) t) (hn : x ≠ "__name__" := by decide) (hdb : (x == ("__debug__" : Str)) = false := by decide)
    (he : starEach (e :: es) X.env = (false, eval e X.env) :: starEach es X.env := by rfl) (hpl : (backTo pos (starEach es X.env)).any (·.1) = false := by rfl) : PE X (.Call (.Name x p) (e :: es) [] pos) (tCB r t) := by
  intro pins s σ H Q I h
  refine wpAny_Call_Name_kw (ld_blt I hg hm hv ?_ hn hdb)
  exact PyProof.Rows.callWith_type1 (thn (ha pos pins s σ H _ I h) fun us s1 ⟨vs, H1, I1, r1, q1⟩ => hc pins s1 σ H1 vs us Q I1 r1 q1) he hpl
end
end L2
namespace HT
open PySem PyProof.Rows
section
open PySem.SeqAt
open PySem.AutoSeq1 (wpAny_loadPart')
open PySem.MeetsSeq PySem.MeetsSeq2 PySem.MeetsSeq3
end
section
variable {prog : Program} {w : World} {A : Around} {E : Value → Shared → Prop} {s : Shared}
theorem cat_tup {t b : Addr} {vs ws : List Value} {Q : Value → Shared → Prop} (ht : IsTup s.heap t vs.toArray) (hb : IsTup s.heap b ws.toArray) (hv : vs ≠ [])
    (h1 : ws = [] → Q (.ref t) s) (h2 : ws ≠ [] → Q (.ref s.heap.objs.size) { s with heap := s.heap.push { cls := .type "tuple", data := .seq (vs ++ ws).toArray } })
    (hsz : vs.length + ws.length ≤ sizeLine) : wpAny (model prog w) A (binaryOp .Add (.ref t) (.ref b)) Q E s := by
  obtain ⟨⟨cls, dd, data, sl⟩, ho, hc, n, hd⟩ := id ht
  obtain ⟨⟨cls2, dd2, data2, sl2⟩, ho2, hc2, n2, hd2⟩ := id hb
  simp only at hc hd hc2 hd2
  subst hc hd hc2 hd2
  have e : vs.toArray ++ ws.toArray = (vs ++ ws).toArray := by simp
  by_cases hw : ws = []
  · exact concat_meets ⟨_, ho, rfl⟩ ⟨_, ho2, rfl⟩ noFill_tuple_add seq_tuple_add PySem.F.slot_tuple_add PySem.F.entry_tuple_add (PySem.F.args_tuple_add_2 _ _)
      (tuple_addW1 t b vs.toArray ws.toArray n n2 dd dd2 sl sl2 (by simpa using hv) (by simp [hw])) ⟨ho, ho2, h1 hw⟩
  · refine concat_meets ⟨_, ho, rfl⟩ ⟨_, ho2, rfl⟩ noFill_tuple_add seq_tuple_add PySem.F.slot_tuple_add PySem.F.entry_tuple_add (PySem.F.args_tuple_add_2 _ _)
      (tuple_addW2 t b vs.toArray ws.toArray n n2 dd dd2 sl sl2 (by simpa using hv) (by simpa using hw) (by rw [List.size_toArray, List.size_toArray]; exact hsz)) ⟨ho, ho2, ?_⟩
    rw [e]
    exact h2 hw
def sIx (n d : Nat) : Option Int → Nat
  | none => d
  | some v => if v < 0 then (v + (n : Int)).toNat else min v.toNat n
theorem sIx_none (n d : Nat) : sIx n d none = d := rfl
theorem sIx_nat (n d k : Nat) : sIx n d (some (k : Int)) = min k n := by
  show (if (k : Int) < 0 then ((k : Int) + (n : Int)).toNat else min (k : Int).toNat n) = min k n
  rw [if_neg (by omega), Int.toNat_natCast]
theorem sIx_le (n d : Nat) (hd : d ≤ n) (o : Option Int) : sIx n d o ≤ n := by
  cases o with
  | none => exact hd
  | some v =>
    show (if v < 0 then (v + (n : Int)).toNat else min v.toNat n) ≤ n
    by_cases hv : v < 0
    · rw [if_pos hv]; omega
    · rw [if_neg hv]; exact Nat.min_le_right _ _
theorem clip_eq (v : Int) (n d : Nat) : (if v < 0 then max (v + (n : Int)) 0 else min v (n : Int)) = ((sIx n d (some v) : Nat) : Int) := by
  show (if v < 0 then max (v + (n : Int)) 0 else min v (n : Int)) = (((if v < 0 then (v + (n : Int)).toNat else min v.toNat n) : Nat) : Int)
  by_cases hv : v < 0
  · simp only [if_pos hv]; omega
  · simp only [if_neg hv]; omega
theorem adjust_gen (lo hi : Option Int) (n : Nat) : Builtin.Slice.sliceAdjust lo hi 1 (n : Int) = (((sIx n 0 lo : Nat) : Int), ((sIx n n hi : Nat) : Int)) := by
  have h1 : ¬ ((1 : Int) < 0) := by omega
  unfold Builtin.Slice.sliceAdjust
  simp only [h1, if_false]
  refine Prod.ext ?_ ?_
  · cases lo with
    | none => rfl
    | some v => exact clip_eq v n 0
  · cases hi with
    | none => rfl
    | some v => exact clip_eq v n n
theorem places_gen (i j : Nat) : Builtin.Slice.slicePlaces (i : Int) (j : Int) 1 = j - i := by
  unfold Builtin.Slice.slicePlaces
  have h1 : (1 : Int) > 0 := by omega
  simp only [h1, if_true, Int.ediv_one]
  split <;> omega
theorem slicePart_ {v : Value} {o : Option Int} {Q : Option Int → Shared → Prop} (p : IsPart v o) (h : Q o s) : wpAny (model prog w) A (Builtin.Slice.slicePartIndex v) Q E s := by
  cases p with
  | none => exact slicePart_none h
  | int i t => exact slicePart_int h
theorem sliceApplied_gen {sl : Addr} {vl vu : Value} {lo hi : Option Int} {n : Nat} {Q : Int × Int × Nat → Shared → Prop} (hs : s.heap.IsSliceOf sl vl vu .none) (pl : IsPart vl lo) (pu : IsPart vu hi)
    (h : Q (((sIx n 0 lo : Nat) : Int), 1, sIx n n hi - sIx n 0 lo) s) : wpAny (model prog w) A (Builtin.Slice.sliceApplied (.ref sl) (pure (n : Int))) Q E s := by
  obtain ⟨os, hos, hcs, hds⟩ := id hs
  unfold Builtin.Slice.sliceApplied Builtin.Slice.sliceFields
  refine wpAny_bind (wpAny_bind (wpAny_field hos hds (x := vl) rfl (wpAny_bind (wpAny_field hos hds (x := vu) rfl (wpAny_bind (wpAny_field hos hds (x := .none) rfl (wpAny_pure ?_)))))))
  refine wpAny_bind (slicePart_none ?_)
  show wpAny _ _ (if ((1 : Int) == 0) = true then _ else _) _ _ s
  rw [if_neg (by decide)]
  refine wpAny_bind (slicePart_ pl (wpAny_bind (slicePart_ pu (wpAny_bind (wpAny_pure ?_)))))
  show wpAny _ _ (match Builtin.Slice.sliceAdjust lo hi 1 (n : Int) with | (lo, hi) => pure (lo, (1 : Int), Builtin.Slice.slicePlaces lo hi 1)) _ _ s
  rw [adjust_gen lo hi n]
  show wpAny _ _ (pure (((sIx n 0 lo : Nat) : Int), (1 : Int), Builtin.Slice.slicePlaces ((sIx n 0 lo : Nat) : Int) ((sIx n n hi : Nat) : Int) 1)) _ _ s
  rw [places_gen]
  exact wpAny_pure h
theorem pick_gen (xs : Array Value) (i k : Nat) : ((List.range k).filterMap fun (m : Nat) => xs[((i : Int) + (m : Int) * 1).toNat]?).toArray = ((xs.toList.drop i).take k).toArray := by
  have e : (fun (m : Nat) => xs[((i : Int) + (m : Int) * 1).toNat]?) = fun m => xs[i + m]? := by
    funext m
    have : ((i : Int) + (m : Int) * 1).toNat = i + m := by omega
    rw [this]
  rw [e]
  have := pick_run xs i k
  rw [List.filterMap_map] at this
  have e2 : ((fun x => xs[x]?) ∘ fun x => i + x) = fun m => xs[i + m]? := rfl
  rw [e2] at this
  rw [this]
theorem getItem_tuple_cut {t sl : Addr} {items : Array Value} {vl vu : Value} {lo hi : Option Int} {Q : Value → Shared → Prop} (ht : IsTup s.heap t items) (hs : s.heap.IsSliceOf sl vl vu .none) (pl : IsPart vl lo) (pu : IsPart vu hi)
    (hw : ¬ (sIx items.size 0 lo = 0 ∧ sIx items.size items.size hi = items.size))
    (h : Q (.ref s.heap.objs.size) { s with heap := s.heap.push { cls := .type "tuple", data := .seq ((items.toList.drop (sIx items.size 0 lo)).take (sIx items.size items.size hi - sIx items.size 0 lo)).toArray } })
    (hsz : items.size ≤ sizeLine) : wpAny (model prog w) A (getItem (.ref t) (.ref sl)) Q E s := by
  have htake : sizeOk (.seq ((items.toList.drop (sIx items.size 0 lo)).take (sIx items.size items.size hi - sIx items.size 0 lo)).toArray) := by
    show ((items.toList.drop (sIx items.size 0 lo)).take (sIx items.size items.size hi - sIx items.size 0 lo)).toArray.size ≤ sizeLine
    rw [List.size_toArray, List.length_take, List.length_drop, Array.length_toList]
    omega
  have hj : sIx items.size items.size hi ≤ items.size := sIx_le _ _ (Nat.le_refl _) hi
  obtain ⟨os, hos, hcs, hds⟩ := id hs
  have hTs : s.TypeIs (.ref sl) "slice" := ⟨os, hos, hcs⟩
  unfold getItem
  try with_reducible refine wpAny_holding ?_
  first | refine wpAny_bind (wpAny_pure ?_) | skip
  refine wpAny_bind (wpAny_sequenceKey ht.typeIs (by decide) ?_)
  refine wpAny_bind (wpAny_callSpecial?_slot (name := Str.ofString "__getitem__") ht.typeIs PyProof.Rows.slot_tuple_getitem
    (wpAny_call_entry PyProof.Rows.slot_tuple_getitem ht.typeIs entry_tuple_getitem ?_ (args_tuple_getitem _ _)))
  show wpAny _ _ (Builtin.Tuple.tupleItemsOf (.ref t) >>= _) _ _ s
  refine wpAny_bind (tupleItemsOf_ ht ?_)
  refine wpAny_bind (wpAny_typeOf hTs ?_)
  rw [if_pos (by decide)]
  refine wpAny_bind (sliceApplied_gen hs pl pu ?_)
  have hno : ¬ ((((sIx items.size 0 lo : Nat) : Int) == 0 && (1 : Int) == 1 && (sIx items.size items.size hi - sIx items.size 0 lo) == items.size) = true) := by
    intro q
    rw [Bool.and_eq_true, Bool.and_eq_true] at q
    have q1 : ((sIx items.size 0 lo : Nat) : Int) = 0 := eq_of_beq q.1.1
    have q2 : sIx items.size items.size hi - sIx items.size 0 lo = items.size := eq_of_beq q.2
    exact hw ⟨by omega, by omega⟩
  show wpAny _ _ (if (((sIx items.size 0 lo : Nat) : Int) == 0 && (1 : Int) == 1 && (sIx items.size items.size hi - sIx items.size 0 lo) == items.size) = true then _ else _) _ _ s
  rw [if_neg hno, pick_gen]
  first
    | exact wpAny_bind (m := Builtin.Tuple.tupleExact _) (wpAny_newObj_type (wpAny_pure ⟨_, rfl, wpAny_pure h⟩) htake)
    | exact wpAny_bind (m := Builtin.Tuple.tupleExact _) (wpAny_newObj_type (wpAny_bind (wpAny_pure (wpAny_pure ⟨_, rfl, wpAny_pure h⟩))) htake)
    | exact wpAny_bind (wpAny_bind (m := Builtin.Tuple.tupleExact _) (wpAny_newObj_type (wpAny_pure (wpAny_pure ⟨_, rfl, wpAny_pure h⟩)) htake))
    | exact wpAny_bind (wpAny_bind (m := Builtin.Tuple.tupleExact _) (wpAny_newObj_type (wpAny_pure ⟨_, rfl, wpAny_pure h⟩) htake))
end
end HT
namespace L2
open PySem PySem.Spec PyProof.Rows
abbrev TO := St → Hp → (Option Int → Hp → Prop) → Prop
def PO (X : Cx) (e : Option Expr) (t : TO) : Prop :=
  ∀ (pins : List (Addr × Obj)) (s : Shared) (σ : St) (H : Hp) (Q : Option Int → Hp → Prop), Inv X pins σ H s → t σ H Q →
    wpAny (model X.prog X.w) X.A (evalPart e X.env) (fun u s' => ∃ o H', Inv X pins σ H' s' ∧ IsPart u o ∧ Q o H') X.xe s
def tNoPart : TO := fun _ H Q => Q none H
def tPart (t : TE) : TO := fun σ H Q => t σ H fun x H1 => ∃ i, x = .int i ∧ Q (some i) H1
section
variable {X : Cx} {e : Expr} {te : TE} {lo hi : Option Expr} {tl th : TO} {pos p2 : Pos}
theorem po_none : PO X none tNoPart := by
  intro pins s σ H Q I h
  rw [evalPart_none]
  exact wpAny_pure ⟨none, H, I, .none, h⟩
theorem po_some (h : PE X e te) : PO X (some e) (tPart te) := by
  intro pins s σ H Q I hw
  rw [evalPart_some]
  refine thn (h pins s σ H _ I hw) fun u s1 ⟨x, H1, I1, r1, q1⟩ => ?_
  obtain ⟨i, rfl, q⟩ := q1
  obtain ⟨t, rfl⟩ := r1
  exact ⟨some i, H1, I1, .int i t, q⟩
def SlR (X : Cx) (r : V → Option Int → Option Int → Hp → VK → Prop) : Prop :=
  ∀ (pins : List (Addr × Obj)) (s : Shared) (σ : St) (H : Hp) (x : V) (v vl vu : Value) (lo hi : Option Int) (sl : Addr) (Q : VK), Inv X pins σ H s → RelV x v → s.heap.IsSliceOf sl vl vu .none → IsPart vl lo → IsPart vu hi → r x lo hi H Q →
    ∃ T id, typeLookup (.type T) "__getitem__" = pure (some (.builtin id)) ∧ s.TypeIs v T ∧ wpAny (model X.prog X.w) X.A (getItem v (.ref sl)) (EP X pins σ Q) X.xe s
theorem SlR.or {r r' : V → Option Int → Option Int → Hp → VK → Prop} (h : SlR X r) (h' : SlR X r') : SlR X (fun x lo hi H Q => r x lo hi H Q ∨ r' x lo hi H Q) := by
  intro pins s σ H x v vl vu lo hi sl Q I rx hs pl pu q
  rcases q with q | q
  · exact h pins s σ H x v vl vu lo hi sl Q I rx hs pl pu q
  · exact h' pins s σ H x v vl vu lo hi sl Q I rx hs pl pu q
def tSl (r : V → Option Int → Option Int → Hp → VK → Prop) (te : TE) (tl th : TO) : TE := fun σ H Q => te σ H fun x H1 => tl σ H1 fun l H2 => th σ H2 fun u H3 => r x l u H3 Q
theorem pe_slice {r : V → Option Int → Option Int → Hp → VK → Prop} (hr : SlR X r) (he : PE X e te) (hl : PO X lo tl) (hu : PO X hi th) : PE X (.Subscript e (.Slice lo hi none p2) pos) (tSl r te tl th) := by
  intro pins s σ H Q I h
  refine Subscript_ (thn (he pins s σ H _ I h) fun v s1 ⟨x, H1, I1, r1, q1⟩ => ?_)
  refine wpAny_Slice (thn (hl pins s1 σ H1 _ I1 q1) fun vl s2 ⟨l, H2, I2, pl, q2⟩ => thn (hu pins s2 σ H2 _ I2 q2) fun vu s3 ⟨u, H3, I3, pu, q3⟩ => ?_)
  rw [evalPart_none]
  refine wpAny_pure ?_
  have I4 : Inv X pins σ H3 { s3 with heap := s3.heap.push { cls := .type "slice", data := .fields #[vl, vu, .none] } } := I3.kept (t' := s3.toks) fun b ob q => Heap.get?_push_of_some _ q
  obtain ⟨T, id, hT, ht, hg⟩ := hr pins { s3 with heap := s3.heap.push { cls := .type "slice", data := .fields #[vl, vu, .none] } } σ H3 x v vl vu l u s3.heap.objs.size Q I4 r1 (Heap.IsSliceOf.new ..) pl pu q3
  show wpAny (model X.prog X.w) X.A (subscriptTail e (.Slice lo hi none p2) v (.ref s3.heap.objs.size)) (EP X pins σ Q) X.xe { s3 with heap := s3.heap.push { cls := .type "slice", data := .fields #[vl, vu, .none] } }
  exact tail_any (ops := [.ref s3.heap.objs.size, v]) ht hT hg (by with_unfolding_all rfl)
def cutV (xs : List V) (lo hi : Option Int) : List V := (xs.drop (HT.sIx xs.length 0 lo)).take (HT.sIx xs.length xs.length hi - HT.sIx xs.length 0 lo)
theorem cutV_length (xs : List V) (lo hi : Option Int) : (cutV xs lo hi).length ≤ xs.length := by
  unfold cutV
  rw [List.length_take, List.length_drop]
  omega
def rSlT (K : PySem.W.Frag) : V → Option Int → Option Int → Hp → VK → Prop := fun x lo hi H Q => ∃ a xs, x = .ref a ∧ SqT K H a xs ∧
  ¬ (HT.sIx xs.length 0 lo = 0 ∧ HT.sIx xs.length xs.length hi = xs.length) ∧ ∀ p, H p = none → Q (.ref p) (upd H p (.tup (cutV xs lo hi)))
theorem sl_tup : SlR X (rSlT X.K) := by
  intro pins s σ H x v vl vu lo hi sl Q I rx hs pl pu h
  obtain ⟨a, xs, rfl, hx, hw, q⟩ := h
  cases rx
  obtain ⟨its, r, ht, hz⟩ := I.tuple hx
  have hlen : its.toArray.size = xs.length := by rw [List.size_toArray]; exact r.length.symm
  refine ⟨"tuple", _, PyProof.Rows.slot_tuple_getitem.lookup, ht.typeIs, ?_⟩
  refine HT.getItem_tuple_cut ht hs pl pu (by rw [hlen]; exact hw) ?_ (by rw [hlen]; exact hz)
  rw [hlen]
  refine ⟨.ref s.heap.objs.size, _, I.laid (t' := s.toks) (o := .tup (cutV xs lo hi)) (fun b ob q => Heap.get?_push_of_some _ q) (Nat.le_refl _) ?_, rfl, q _ (I.hok.fresh (Nat.le_refl _))⟩
  exact ⟨Nat.le_trans (cutV_length xs lo hi) hz, _, (r.drop (HT.sIx xs.length 0 lo)).take (HT.sIx xs.length xs.length hi - HT.sIx xs.length 0 lo), IsTup.new _ _⟩
def rCatT (K : PySem.W.Frag) : R2 := fun x y H Q => ∃ a b xs ys, x = .ref a ∧ y = .ref b ∧ SqT K H a xs ∧ SqT K H b ys ∧ xs ≠ [] ∧ xs.length + ys.length ≤ sizeLine ∧
  (ys = [] → Q (.ref a) H) ∧ (ys ≠ [] → ∀ p, H p = none → Q (.ref p) (upd H p (.tup (xs ++ ys))))
theorem Vals.nil_iff {xs : List V} {us : List Value} (r : Vals xs us) : us = [] ↔ xs = [] := by
  cases r with
  | nil => simp
  | cons _ _ => simp
theorem op_catT : OpR X (binaryOp .Add) (rCatT X.K) := by
  intro pins s σ H x y v u Q I rx ry h
  obtain ⟨a, b, xs, ys, rfl, rfl, ha, hb, hx, hz, q1, q2⟩ := h
  cases rx
  cases ry
  obtain ⟨its, r1, p1, _⟩ := I.tuple ha
  obtain ⟨its2, r2, p2, _⟩ := I.tuple hb
  refine HT.cat_tup p1 p2 (fun z => hx (r1.nil_iff.mp z)) (fun z => ⟨.ref a, H, I, rfl, q1 (r2.nil_iff.mp z)⟩) (fun z => ?_) (by rw [← r1.length, ← r2.length]; exact hz)
  refine ⟨.ref s.heap.objs.size, _, I.laid (t' := s.toks) (o := .tup (xs ++ ys)) (fun b ob q => Heap.get?_push_of_some _ q) (Nat.le_refl _) ?_, rfl, q2 (fun w => z (r2.nil_iff.mpr w)) _ (I.hok.fresh (Nat.le_refl _))⟩
  exact ⟨by rw [List.length_append]; exact hz, _, r1.append r2, IsTup.new _ _⟩
end
end L2
namespace L2
open PySem PySem.Spec PyProof.Rows
def ixN (n : Nat) (i : Int) : Option Nat := if 0 ≤ i then (if i < n then some i.toNat else none) else if -(n : Int) ≤ i then some (i + n).toNat else none
def atI {α : Type} (xs : List α) (i : Int) : Option α := (ixN xs.length i).bind fun j => xs[j]?
theorem ixN_seq {n : Nat} {i : Int} {j : Nat} (h : ixN n i = some j) : seqIndex? i n = some j ∧ j < n ∧ -(n : Int) ≤ i ∧ i < n := by
  unfold ixN at h
  by_cases h0 : 0 ≤ i
  · rw [if_pos h0] at h
    by_cases h1 : i < n
    · rw [if_pos h1] at h
      have e : i.toNat = j := Option.some.inj h
      exact ⟨by rw [seqIndex_of h0 h1, e], by omega, by omega, h1⟩
    · rw [if_neg h1] at h; cases h
  · rw [if_neg h0] at h
    by_cases h1 : -(n : Int) ≤ i
    · rw [if_pos h1] at h
      have e : (i + n).toNat = j := Option.some.inj h
      exact ⟨by rw [seqIndex_neg (by omega) h1, e], by omega, h1, by omega⟩
    · rw [if_neg h1] at h; cases h
theorem atI_get {α : Type} {xs : List α} {i : Int} {v : α} (h : atI xs i = some v) : ∃ j, seqIndex? i xs.length = some j ∧ xs[j]? = some v ∧ j < xs.length ∧ -(xs.length : Int) ≤ i ∧ i < xs.length := by
  unfold atI at h
  cases e : ixN xs.length i with
  | none => rw [e] at h; cases h
  | some j =>
    rw [e] at h
    obtain ⟨h1, h2, h3, h4⟩ := ixN_seq e
    exact ⟨j, h1, h, h2, h3, h4⟩
theorem atI_nat {α : Type} {xs : List α} {j : Nat} {v : α} (h : xs[j]? = some v) : atI xs (j : Int) = some v := by
  have hj : j < xs.length := (List.getElem?_eq_some_iff.mp h).1
  have e : ixN xs.length (j : Int) = some j := by
    unfold ixN
    rw [if_pos (by omega), if_pos (by omega)]; simp
  unfold atI; rw [e]; exact h
def PlainIx (b : Expr) : Prop := ∀ o i, subscripted b false o i = operate [o, i] (getItem o i)
def IxR (X : Cx) (r : R2) : Prop :=
  ∀ (value slice : Expr) (pins : List (Addr × Obj)) (s : Shared) (σ : St) (H : Hp) (x y : V) (v u : Value) (Q : VK), Inv X pins σ H s → RelV x v → RelV y u → r x y H Q →
    subscripted slice false v u = operate [v, u] (getItem v u) → wpAny (model X.prog X.w) X.A (subscriptTail value slice v u) (EP X pins σ Q) X.xe s
def MtR (X : Cx) (id : String) (r : V → List V → Hp → VK → Prop) : Prop :=
  ∀ (pins : List (Addr × Obj)) (s : Shared) (σ : St) (H : Hp) (x : V) (xs : List V) (v : Value) (us : List Value) (Q : VK), Inv X pins σ H s → RelV x v → Vals xs us → r x xs H Q →
    wpAny (model X.prog X.w) X.A (call (.builtin id) (v :: us)) (EP X pins σ Q) X.xe s
section
variable {X : Cx} {a b : Expr} {ta tb : TE} {pos : Pos}
theorem IxR.or {r r' : R2} (h : IxR X r) (h' : IxR X r') : IxR X (fun x y H Q => r x y H Q ∨ r' x y H Q) := by
  intro value slice pins s σ H x y v u Q I rx ry q hs
  rcases q with q | q
  · exact h value slice pins s σ H x y v u Q I rx ry q hs
  · exact h' value slice pins s σ H x y v u Q I rx ry q hs
theorem MtR.or {id : String} {r r' : V → List V → Hp → VK → Prop} (h : MtR X id r) (h' : MtR X id r') : MtR X id (fun x xs H Q => r x xs H Q ∨ r' x xs H Q) := by
  intro pins s σ H x xs v us Q I rx rs q
  rcases q with q | q
  · exact h pins s σ H x xs v us Q I rx rs q
  · exact h' pins s σ H x xs v us Q I rx rs q
theorem pe_ix {r : R2} (hr : IxR X r) (ha : PE X a ta) (hb : PE X b tb) (hs : PlainIx b) : PE X (.Subscript a b pos) (tOp r ta tb) := by
  intro pins s σ H Q I h
  exact Subscript_ (binT ha hb I h fun v u s2 x y H2 I2 rx ry q => hr a b pins s2 σ H2 x y v u Q I2 rx ry q (hs _ _))
def rIxL (K : PySem.W.Frag) : R2 := fun x y H Q => ∃ p xs i v, x = .ref p ∧ y = .int i ∧ SqL K H p xs ∧ atI xs i = some v ∧ Q v H
def rIxT (K : PySem.W.Frag) : R2 := fun x y H Q => ∃ p xs i v, x = .ref p ∧ y = .int i ∧ SqT K H p xs ∧ atI xs i = some v ∧ Q v H
def rIxS : R2 := fun x y H Q => ∃ z i c, x = .str z ∧ y = .int i ∧ z.length ≤ sizeLine ∧ atI z.cps.toList i = some c ∧ Q (.str ⟨#[c]⟩) H
theorem ix_list : IxR X (rIxL X.K) := by
  intro value slice pins s σ H x y v u Q I rx ry h hs
  obtain ⟨p, xs, i, z, rfl, rfl, hq, he, q⟩ := h
  cases rx
  obtain ⟨t, rfl⟩ := ry
  obtain ⟨its, r, pl, hz⟩ := I.list hq
  obtain ⟨j, h1, h2, h3, h4, h5⟩ := atI_get he
  obtain ⟨w, ew, rw'⟩ := r.get h2
  have hl := r.length
  have hn := line63
  have fin : EP X pins σ Q w s := ⟨z, H, I, rw', q⟩
  by_cases h0 : 0 ≤ i
  · have hj : i.toNat = j := by
      rw [seqIndex_of h0 h5] at h1
      exact Option.some.inj h1
    exact item_listR pl.isList h0 (by omega) (by rw [hj]; simpa using ew) fin hs
  · have hj : (i + (its.toArray.size : Int)).toNat = j := by
      rw [seqIndex_neg (by omega) h4] at h1
      rw [List.size_toArray, ← hl]
      exact Option.some.inj h1
    exact subscriptTail_builtinR (x := w) pl.isList.typeIs slot_list_getitem.lookup
      (wpAny_getItem_list_neg (Q := fun r s' => r = w ∧ EP X pins σ Q r s') pl.isList (by omega) (by rw [List.size_toArray] <;> omega) (by omega) (by rw [hj]; simpa using ew) ⟨rfl, fin⟩) hs
theorem ix_tup : IxR X (rIxT X.K) := by
  intro value slice pins s σ H x y v u Q I rx ry h hs
  obtain ⟨p, xs, i, z, rfl, rfl, hq, he, q⟩ := h
  cases rx
  obtain ⟨t, rfl⟩ := ry
  obtain ⟨its, r, pl, hz⟩ := I.tuple hq
  obtain ⟨j, h1, h2, h3, h4, h5⟩ := atI_get he
  obtain ⟨w, ew, rw'⟩ := r.get h2
  have hl := r.length
  have hn := line63
  have fin : EP X pins σ Q w s := ⟨z, H, I, rw', q⟩
  exact subscriptTail_builtinR (x := w) pl.typeIs slot_tuple_getitem.lookup
    (getItem_tuple (j := j) (Q := fun r s' => r = w ∧ EP X pins σ Q r s') pl (by omega) (by omega) (by rw [List.size_toArray, ← hl]; exact h1) (by simpa using ew) ⟨rfl, fin⟩) hs
theorem ix_str : IxR X rIxS := by
  intro value slice pins s σ H x y v u Q I rx ry h hs
  obtain ⟨z, i, c, rfl, rfl, hz, he, q⟩ := h
  obtain ⟨t, rfl⟩ := rx
  obtain ⟨t', rfl⟩ := ry
  obtain ⟨j, h1, h2, h3, h4, h5⟩ := atI_get he
  have hl : z.cps.toList.length = z.length := by simp [Str.length]
  rw [hl] at h1 h4 h5
  have hn := line63
  exact tail_any (typeIs_str s z t) slot_str_getitem.lookup (getItem_str (c := c) (by
    have e1 : decide (i < -(2 ^ 63 : Int)) = false := decide_eq_false (by omega)
    have e2 : decide (i ≥ 2 ^ 63) = false := decide_eq_false (by omega)
    rw [e1, e2, Bool.or_false]) (by rw [h1]; simpa using h2) ⟨.str ⟨#[c]⟩, H, I.tok _, ⟨_, rfl⟩, q⟩) hs
def rIx (K : PySem.W.Frag) : R2 := fun x y H Q => rIxL K x y H Q ∨ rIxT K x y H Q ∨ rIxS x y H Q
theorem ix_seq : IxR X (rIx X.K) := ix_list.or (ix_tup.or ix_str)
theorem mapSeq_set (its : List Value) (n j : Nat) (u : Value) : Obj.mapSeq (·.setIfInBounds j u) { cls := .type "list", data := .seq its.toArray n } = { cls := .type "list", data := .seq (its.set j u).toArray n } := by
  simp [Obj.mapSeq]
theorem Inv.lst {pins : List (Addr × Obj)} {σ : St} {H : Hp} {s : Shared} {p : Addr} {xs : List V} (I : Inv X pins σ H s) (h : H p = some (.lst xs)) :
    ∃ (its : List Value) (n : Nat), Vals xs its ∧ s.heap.get? p = some { cls := .type "list", data := .seq its.toArray n } ∧ xs.length ≤ sizeLine := by
  obtain ⟨z, its, n, r, e⟩ := I.hok p _ h
  exact ⟨its, n, r, e, z⟩
theorem Inv.lstUpd {pins : List (Addr × Obj)} {σ : St} {H : Hp} {s : Shared} {p : Addr} {xs ys : List V} {its its' : List Value} {n n' : Nat} {f : Obj → Obj} (I : Inv X pins σ H s) (h : H p = some (.lst xs))
    (ho : s.heap.get? p = some { cls := .type "list", data := .seq its.toArray n }) (hf : f { cls := .type "list", data := .seq its.toArray n } = { cls := .type "list", data := .seq its'.toArray n' }) (r : Vals ys its') (hz : ys.length ≤ sizeLine) (t : Nat) :
    Inv X pins σ (upd H p (.lst ys)) { s with heap := s.heap.update p f, toks := t } := by
  have e : (s.heap.update p f).get? p = some { cls := .type "list", data := .seq its'.toArray n' } := by
    rw [Heap.get?_update_self f ho (by rw [hf] <;> rfl), hf]
  refine I.write (x := p) (e := p) (by rw [h]; trivial) (.inl rfl) (fun b u hb q => (Heap.get?_update_other _ _ (Ne.symm hb)).trans q) ⟨_, e⟩ ?_
  exact ⟨hz, its', n', r, e⟩
def rSetL : V → V → V → Hp → (Hp → Prop) → Prop := fun o i v H Q => ∃ p xs k j, o = .ref p ∧ i = .int k ∧ H p = some (.lst xs) ∧ ixN xs.length k = some j ∧ Q (upd H p (.lst (xs.set j v)))
theorem set_list : PSet X rSetL := by
  intro pins s σ H o i v ov iv u Q I ro ri rv h
  obtain ⟨p, xs, k, j, rfl, rfl, hp, hj, q⟩ := h
  cases ro
  obtain ⟨t, rfl⟩ := ri
  obtain ⟨its, n, r, ho, hz⟩ := I.lst hp
  obtain ⟨h1, h2, h3, h4⟩ := ixN_seq hj
  have hl := r.length
  have hn := line63
  have I' : Inv X pins σ (upd H p (.lst (xs.set j v))) { s with heap := s.heap.update p (Obj.mapSeq (·.setIfInBounds j u)) } :=
    I.lstUpd hp ho (mapSeq_set its n j u) (r.set rv j) (by rw [List.length_set]; exact hz) s.toks
  by_cases h0 : 0 ≤ k
  · have hk : k.toNat = j := by
      rw [seqIndex_of h0 h4] at h1
      exact Option.some.inj h1
    exact PySem.W.ki_setAt ho h0 (by omega) (by rw [List.size_toArray, ← hl]; exact h4) (by rw [hk]; exact ⟨_, I', q⟩)
  · have hk : (k + (its.toArray.size : Int)).toNat = j := by
      rw [seqIndex_neg (by omega) h3] at h1
      rw [List.size_toArray, ← hl]
      exact Option.some.inj h1
    exact PySem.W.ki_setBack ho (by omega) (by rw [List.size_toArray, ← hl]; exact h3) (by omega) (by rw [hk]; exact ⟨_, I', q⟩)
theorem slice_bounds (lo hi : Option Int) (n : Nat) : (sliceBounds lo hi none n).1 = ((HT.sIx n 0 lo : Nat) : Int) ∧ (sliceBounds lo hi none n).2.1 = ((HT.sIx n n hi : Nat) : Int) ∧ (sliceBounds lo hi none n).2.2 = 1 := by
  refine ⟨?_, ?_, rfl⟩
  · cases lo with
    | none => simp [sliceBounds, HT.sIx]
    | some i =>
      simp only [sliceBounds, HT.sIx, Option.getD_none, show (1 : Int) > 0 by decide, if_true]
      by_cases h : i < 0
      · simp only [h, if_true] <;> omega
      · simp only [h, if_false] <;> omega
  · cases hi with
    | none => simp [sliceBounds, HT.sIx]
    | some i =>
      simp only [sliceBounds, HT.sIx, Option.getD_none, show (1 : Int) > 0 by decide, if_true]
      by_cases h : i < 0
      · simp only [h, if_true] <;> omega
      · simp only [h, if_false] <;> omega
theorem slicePick_cut (its : List Value) (lo hi : Option Int) : slicePick its.toArray lo hi none = ((its.drop (HT.sIx its.length 0 lo)).take (HT.sIx its.length its.length hi - HT.sIx its.length 0 lo)).toArray := by
  obtain ⟨h1, h2, h3⟩ := slice_bounds lo hi its.toArray.size
  unfold slicePick
  rw [h1, h2, h3]
  simp only [sliceRange_one, pick_run, List.size_toArray] <;> rfl
def rSlL (K : PySem.W.Frag) : V → Option Int → Option Int → Hp → VK → Prop := fun x lo hi H Q => ∃ a xs, x = .ref a ∧ SqL K H a xs ∧ ∀ p, H p = none → Q (.ref p) (upd H p (.lst (cutV xs lo hi)))
theorem sl_list : SlR X (rSlL X.K) := by
  intro pins s σ H x v vl vu lo hi sl Q I rx hs pl pu h
  obtain ⟨a, xs, rfl, hx, q⟩ := h
  cases rx
  obtain ⟨its, r, ht, hz⟩ := I.list hx
  have hlen := r.length
  refine ⟨"list", _, slot_list_getitem.lookup, ht.isList.typeIs, ?_⟩
  refine wpAny_getItem_list_slice ht.isList hs pl pu .none (by simp) ?_ (by rw [List.size_toArray] <;> omega)
  rw [slicePick_cut, ← hlen]
  refine ⟨.ref s.heap.objs.size, _, I.laid (t' := s.toks) (o := .lst (cutV xs lo hi)) (fun b ob q => Heap.get?_push_of_some _ q) (Nat.le_refl _) ?_, rfl, q _ (I.hok.fresh (Nat.le_refl _))⟩
  exact ⟨Nat.le_trans (cutV_length xs lo hi) hz, _, 0, (r.drop (HT.sIx xs.length 0 lo)).take (HT.sIx xs.length xs.length hi - HT.sIx xs.length 0 lo), Heap.get?_push_size _ rfl⟩
theorem CallR.or {f : Value} {r r' : List V → Hp → VK → Prop} (h : CallR X f r) (h' : CallR X f r') : CallR X f (fun xs H Q => r xs H Q ∨ r' xs H Q) := by
  intro pins s σ H xs us Q I rs q
  rcases q with q | q
  · exact h pins s σ H xs us Q I rs q
  · exact h' pins s σ H xs us Q I rs q
theorem call_list_of : CallR X (.type "list") (fun xs H Q => ∃ p ys, xs = [.ref p] ∧ (SqL X.K H p ys ∨ SqT X.K H p ys) ∧ ∀ l, H l = none → Q (.ref l) (upd H l (.lst ys))) := by
  intro pins s σ H xs us Q I r h
  obtain ⟨p, ys, rfl, hq, q⟩ := h
  obtain ⟨u, rfl, rx⟩ := vals1 r
  cases rx
  have fin : ∀ (its : List Value), Vals ys its → ys.length ≤ sizeLine → ∀ (h' : Heap) (c' : Nat), (∀ b o', s.heap.get? b = some o' → h'.get? b = some o') →
      h'.get? s.heap.objs.size = some { cls := .type "list", dict := none, data := .seq its.toArray c', slots := #[] } → EP X pins σ Q (.ref s.heap.objs.size) { s with heap := h' } := fun its r' hz h' c' kp e =>
    ⟨.ref s.heap.objs.size, _, I.laid (t' := s.toks) kp (Nat.le_refl _) (show ObjOk X.prog X.w _ h' _ (.lst ys) from ⟨hz, its, c', r', e⟩), rfl, q _ (I.hok.fresh (Nat.le_refl _))⟩
  rcases hq with hq | hq
  · obtain ⟨its, r', pl, hz⟩ := I.list hq
    have hlen := r'.length
    obtain ⟨o, ho, hc, n, hd⟩ := pl.isList
    exact call_list_seq p (.inl rfl) ho hc hd (fun h' c' kp e => fin its r' hz h' c' kp e) (by simp only [List.size_toArray] <;> omega)
  · obtain ⟨its, r', pl, hz⟩ := I.tuple hq
    have hlen := r'.length
    obtain ⟨o, ho, hc, n, hd⟩ := pl
    exact call_list_seq p (.inr rfl) ho hc hd (fun h' c' kp e => fin its r' hz h' c' kp e) (by simp only [List.size_toArray] <;> omega)
theorem call_tuple_of : CallR X (.type "tuple") (fun xs H Q => ∃ p ys, xs = [.ref p] ∧ ((SqL X.K H p ys ∧ ∀ l, H l = none → Q (.ref l) (upd H l (.tup ys))) ∨ (SqT X.K H p ys ∧ Q (.ref p) H))) := by
  intro pins s σ H xs us Q I r h
  obtain ⟨p, ys, rfl, h⟩ := h
  obtain ⟨u, rfl, rx⟩ := vals1 r
  cases rx
  rcases h with ⟨hq, q⟩ | ⟨hq, q⟩
  · obtain ⟨its, r', pl, hz⟩ := I.list hq
    have hlen := r'.length
    refine call_tuple_list pl.isList (fun h' kp => ?_) (by simp only [List.size_toArray] <;> omega)
    have I1 : Inv X pins σ H { s with heap := h' } := I.kept (t' := s.toks) kp
    have I2 : Inv X pins σ (upd H h'.objs.size (.tup ys)) { s with heap := h'.push { cls := .type "tuple", data := .seq its.toArray } } :=
      I1.laid (t' := s.toks) (fun b o e => Heap.get?_push_of_some _ e) (Nat.le_refl _) (show ObjOk X.prog X.w _ _ _ (.tup ys) from ⟨hz, its, r', IsTup.new _ _⟩)
    exact ⟨.ref h'.objs.size, _, I2, rfl, q _ (I1.hok.fresh (Nat.le_refl _))⟩
  · obtain ⟨its, r', pl, hz⟩ := I.tuple hq
    exact call_tuple_same pl ⟨.ref p, H, I, rfl, q⟩
def tyV (K : PySem.W.Frag) (T : String) (x : V) (H : Hp) : Prop := match x with
  | .str _ => T = "str"
  | .int _ => T = "int"
  | .ref p => (T = "list" ∧ ∃ xs, SqL K H p xs) ∨ (T = "tuple" ∧ ∃ o, K.lookup p = some o ∧ o.cls = .type "tuple" ∧ o.dict = none) ∨
      (T = "dict" ∧ ((∃ kvs, H p = some (.dK kvs)) ∨ ∃ kvs, H p = some (.dT kvs))) ∨ (T = "set" ∧ ∃ S n, H p = some (.set S n))
  | _ => False
theorem tyV_is {pins : List (Addr × Obj)} {σ : St} {H : Hp} {s : Shared} {T : String} {x : V} {v : Value} (I : Inv X pins σ H s) (r : RelV x v) (ty : tyV X.K T x H) :
    s.TypeIs v T ∧ ∀ a, v = .ref a → ∃ ob, s.heap.get? a = some ob ∧ ob.dict = none := by
  cases x with
  | str z =>
    obtain ⟨t, rfl⟩ := r
    cases (show T = "str" from ty)
    exact ⟨typeIs_str s z t, fun _ e => nomatch e⟩
  | int i =>
    obtain ⟨t, rfl⟩ := r
    cases (show T = "int" from ty)
    exact ⟨typeIs_int s i t, fun _ e => nomatch e⟩
  | ref p =>
    cases r
    rcases ty with ⟨rfl, xs, hq⟩ | ⟨rfl, o, hk, hc, hd⟩ | ⟨rfl, hk⟩ | ⟨rfl, S, n, hk⟩
    · obtain ⟨its, _, pl, _⟩ := I.list hq
      refine ⟨pl.isList.typeIs, fun a e => ?_⟩
      cases e
      obtain ⟨o, n, e, c, hd, _⟩ := pl
      exact ⟨o, e, hd⟩
    · refine ⟨⟨o, I.kIn p o hk, hc⟩, fun a e => ?_⟩
      cases e
      exact ⟨o, I.kIn _ o hk, hd⟩
    · have z : ∃ o, s.heap.get? p = some o ∧ o.ExactDict := by
        rcases hk with ⟨kvs, hk⟩ | ⟨kvs, hk⟩
        · obtain ⟨_, _, _, _, o, _, _, e, ex, _⟩ := I.hok p _ hk
          exact ⟨o, e, ex⟩
        · obtain ⟨_, _, _, _, o, _, _, e, ex, _⟩ := I.hok p _ hk
          exact ⟨o, e, ex⟩
      obtain ⟨o, e, ex⟩ := z
      refine ⟨⟨o, e, ex.1⟩, fun a e2 => ?_⟩
      cases e2
      exact ⟨o, e, ex.2.1⟩
    · obtain ⟨o, _, _, _, e, ex, _⟩ := I.hok p _ hk
      refine ⟨⟨o, e, ex.1⟩, fun a e2 => ?_⟩
      cases e2
      exact ⟨o, e, ex.2.1⟩
  | _ => exact False.elim ty
def tBM (K : PySem.W.Frag) (T : String) (r : V → List V → Hp → VK → Prop) (to : TE) (t : TA) : TE := fun σ H Q => to σ H fun x H1 => tyV K T x H1 ∧ t σ H1 fun xs H2 => r x xs H2 Q
variable {o e : Expr} {es : List Expr} {to : TE} {t : TA} {name : Str} {apos cpos : Pos} {T id : String} {r : V → List V → Hp → VK → Prop}
theorem pe_bm (pa : PlainAttrs T) (slot : Slot T name id) (hty : typeOf (.builtin id) = pure (.type "method_descriptor")) (hm : MtR X id r) (ho : PE X o to) (ha : PA X (e :: es) t)
    (hbase : attributeBase o name X.env (eval o X.env) = eval o X.env := by rfl)
    (hfew : ((backTo cpos (starEach (e :: es) X.env)).all (fun x => !x.1) && (backToKw cpos (keywordEach [] X.env)).all (fun x => x.1.isSome)
      && decide ((e :: es).length + ([] : List Keyword).length + (if ([] : List Keyword).isEmpty then 0 else 1) < 30)) = true := by rfl)
    (hline : (apos.endLine == cpos.line) = true := by rfl) (hs : starEach (e :: es) X.env = (false, eval e X.env) :: starEach es X.env := by rfl) (hplain : (backTo cpos (starEach es X.env)).any (·.1) = false := by rfl) :
    PE X (.Call (.Attribute o name apos) (e :: es) [] cpos) (tBM X.K T r to t) := by
  intro pins s σ H Q I h
  refine wpAny_Call_method_late hbase hfew hline rfl (thn (ho pins s σ H _ I h) fun v s1 ⟨x, H1, I1, r1, ty, q1⟩ => ?_)
  obtain ⟨h1, h2⟩ := tyV_is I1 r1 ty
  refine ⟨T, id, pa, slot, hty, h1, h2, ?_⟩
  have hA := ha cpos pins s1 σ H1 _ I1 q1
  rw [hs] at hA ⊢
  refine Calls.callWith_builtin (by show (false || (backTo cpos (starEach es X.env)).any (·.1)) = false; rw [hplain] <;> rfl) (Calls.evalArgs_plain ?_)
  exact thn hA fun us s2 ⟨vs, H2, I2, r2, q2⟩ => hm pins s2 σ H2 x vs v us Q I2 r1 r2 q2
end
end L2
namespace L2
open PySem PySem.Spec PyProof.Rows
def MtM (X : Cx) (id : String) (r : V → List V → Hp → VK → Prop) : Prop :=
  ∀ (pins : List (Addr × Obj)) (s : Shared) (σ : St) (H : Hp) (x : V) (xs : List V) (v : Value) (us : List Value) (Q : VK), Inv X pins σ H s → RelV x v → Vals xs us → r x xs H Q →
    wpAny (model X.prog X.w) X.A (call (.builtin id) (v :: us)) (EP X pins σ Q) X.xe s
theorem Vals.one : ∀ {x : V} {us : List Value}, Vals [x] us → ∃ u, us = [u] ∧ RelV x u
  | _, _, .cons r .nil => ⟨_, rfl, r⟩
theorem Vals.two : ∀ {x y : V} {us : List Value}, Vals [x, y] us → ∃ u v, us = [u, v] ∧ RelV x u ∧ RelV y v := by
  intro x y us h
  cases h with
  | cons r h => cases h with
    | cons q h => cases h; exact ⟨_, _, rfl, r, q⟩
theorem Vals.zero : ∀ {us : List Value}, Vals [] us → us = []
  | _, .nil => rfl
theorem Vals.dropLast {xs : List V} {us : List Value} (h : Vals xs us) : Vals xs.dropLast us.dropLast := by
  induction h with
  | nil => exact .nil
  | cons r t ih =>
    cases t with
    | nil => exact .nil
    | cons q t' => exact .cons r ih
theorem Vals.reverse {xs : List V} {us : List Value} (h : Vals xs us) : Vals xs.reverse us.reverse := by
  induction h with
  | nil => exact .nil
  | cons r t ih => rw [List.reverse_cons, List.reverse_cons]; exact Vals.append ih (.cons r .nil)
theorem Vals.rep {xs : List V} {us : List Value} (h : Vals xs us) : ∀ k : Nat, Vals (List.replicate k xs).flatten (List.replicate k us).flatten
  | 0 => .nil
  | k + 1 => by
    rw [List.replicate_succ, List.replicate_succ, List.flatten_cons, List.flatten_cons]
    exact Vals.append h (Vals.rep h k)
theorem foldl_rep (its : List Value) : ∀ (k : Nat) (acc : List Value),
    List.foldl (fun x1 x2 => x1 ++ x2) acc.toArray (List.replicate k its.toArray) = (acc ++ (List.replicate k its).flatten).toArray
  | 0, acc => by simp
  | k + 1, acc => by
    have e : acc.toArray ++ its.toArray = (acc ++ its).toArray := by simp
    have e2 : (acc ++ its) ++ (List.replicate k its).flatten = acc ++ (List.replicate (k + 1) its).flatten := by
      rw [List.replicate_succ, List.flatten_cons, List.append_assoc]
    rw [← e2, ← foldl_rep its k (acc ++ its), ← e, List.replicate_succ, List.foldl_cons]
section
variable {X : Cx} {pins : List (Addr × Obj)} {σ : St} {H : Hp} {s : Shared} {l b : Addr} {xs ys zs : List V}
theorem Inv.lset {its its' : List Value} {n : Nat} {f : Array Value → Array Value} {t' : Nat} (I : Inv X pins σ H s) (hH : H l = some (.lst xs))
    (e : s.heap.get? l = some { cls := .type "list", data := .seq its.toArray n }) (hf : f its.toArray = its'.toArray) (hv : Vals ys its') (hz : ys.length ≤ sizeLine) :
    Inv X pins σ (upd H l (.lst ys)) { s with heap := s.heap.update l (Obj.mapSeq f), toks := t' } := by
  have q := PySem.IsL.update e f
  rw [hf] at q
  refine I.write (x := l) (e := l) (by rw [hH]; exact trivial) (.inl rfl) (fun b' u hb hu => (Heap.get?_update_other s.heap (Obj.mapSeq f) (Ne.symm hb)).trans hu) ⟨_, q⟩ ?_
  exact ⟨hz, its', _, hv, q⟩
theorem Inv.lnew {its : List Value} {t' : Nat} (I : Inv X pins σ H s) (hv : Vals ys its) (hz : ys.length ≤ sizeLine) :
    Inv X pins σ (upd H s.heap.objs.size (.lst ys)) { s with heap := s.heap.push { cls := .type "list", data := .seq its.toArray }, toks := t' } :=
  I.laid (fun _ _ q => Heap.get?_push_of_some _ q) (Nat.le_refl _) ⟨hz, its, 0, hv, Heap.get?_push_size _ rfl⟩
theorem Inv.fresh (I : Inv X pins σ H s) : H s.heap.objs.size = none := I.hok.fresh (Nat.le_refl _)
theorem Inv.lstM (I : Inv X pins σ H s) (hH : H l = some (.lst xs)) : xs.length ≤ sizeLine ∧ ∃ (its : List Value) (n : Nat), Vals xs its ∧ xs.length = its.length ∧ s.heap.get? l = some { cls := .type "list", data := .seq its.toArray n } := by
  obtain ⟨z, its, n, r, e⟩ := I.hok l _ hH
  exact ⟨z, its, n, r, r.length, e⟩
theorem notLongL {n : Nat} (h : n ≤ sizeLine) : Builtin.List.listTooLong n = false := by
  unfold Builtin.List.listTooLong
  exact decide_eq_false (by omega)
end
section
variable {X : Cx}
def rAppend : V → List V → Hp → VK → Prop := fun x vs H Q => ∃ l xs y, x = .ref l ∧ vs = [y] ∧ H l = some (.lst xs) ∧ xs.length < sizeLine ∧ Q .non (upd H l (.lst (xs ++ [y])))
theorem mt_append : MtM X "list.append" rAppend := by
  intro pins s σ H x vs v us Q I rx rv h
  obtain ⟨l, xs, y, rfl, rfl, hH, hz, q⟩ := h
  cases rx
  obtain ⟨u, rfl, ru⟩ := rv.one
  obtain ⟨z, its, n, r, hl, e⟩ := I.lstM hH
  refine call_meets F.slot_list_append ⟨_, e, rfl⟩ F.entry_list_append (F.args_list_append_2 _ _) (PySem.list_append l its.toArray n u (by rw [List.size_toArray]; omega)) ⟨e, ?_⟩
  refine ⟨.non, _, I.lset (its' := its ++ [u]) hH e (by simp) (r.append (.cons ru .nil)) ?_, rfl, q⟩
  rw [List.length_append, List.length_singleton]
  omega
def rExtend : V → List V → Hp → VK → Prop := fun x vs H Q => ∃ l b xs zs, x = .ref l ∧ vs = [.ref b] ∧ H l = some (.lst xs) ∧ H b = some (.lst zs) ∧ xs.length + zs.length ≤ sizeLine ∧ Q .non (upd H l (.lst (xs ++ zs)))
theorem mt_extend : MtM X "list.extend" rExtend := by
  intro pins s σ H x vs v us Q I rx rv h
  obtain ⟨l, b, xs, zs, rfl, rfl, hH, hB, hz, q⟩ := h
  cases rx
  obtain ⟨u, rfl, ru⟩ := rv.one
  cases ru
  obtain ⟨z, its, n, r, hl, e⟩ := I.lstM hH
  obtain ⟨z2, its2, n2, r2, hl2, e2⟩ := I.lstM hB
  have hsz : its.toArray.size + its2.toArray.size ≤ sizeLine := by rw [List.size_toArray, List.size_toArray]; omega
  have hlong : ¬ (!its.toArray.isEmpty && Builtin.List.listTooLong (its.toArray.size + its2.toArray.size)) = true := by
    rw [notLongL hsz, Bool.and_false]
    exact Bool.false_ne_true
  refine call_meets F.slot_list_extend ⟨_, e, rfl⟩ F.entry_list_extend (F.args_list_extend_2 _ _)
    (AutoSeq1.list_extend_list_list_0 l its.toArray n b its2.toArray n2 hlong (by rw [List.size_toArray]; omega) (by omega)) ⟨e, e2, ?_⟩
  refine ⟨.non, _, I.lset (its' := its ++ its2) hH e (by simp) (r.append r2) ?_, rfl, q⟩
  rw [List.length_append]
  omega
def rCat : R2 := fun x y H Q => ∃ l b xs zs, x = .ref l ∧ y = .ref b ∧ H l = some (.lst xs) ∧ H b = some (.lst zs) ∧ xs.length + zs.length ≤ sizeLine ∧ ∀ p, H p = none → Q (.ref p) (upd H p (.lst (xs ++ zs)))
theorem op_cat : OpR X (binaryOp .Add) rCat := by
  intro pins s σ H x y v u Q I rx ry h
  obtain ⟨l, b, xs, zs, rfl, rfl, hH, hB, hz, q⟩ := h
  cases rx
  cases ry
  obtain ⟨z, its, n, r, hl, e⟩ := I.lstM hH
  obtain ⟨z2, its2, n2, r2, hl2, e2⟩ := I.lstM hB
  refine PySem.P.add_list e e2 ?_ (by rw [List.size_toArray, List.size_toArray]; omega)
  have ea : its.toArray ++ its2.toArray = (its ++ its2).toArray := by simp
  rw [ea]
  exact ⟨.ref _, _, I.lnew (t' := s.toks) (r.append r2) (by rw [List.length_append]; omega), rfl, q _ I.fresh⟩
def rRep : R2 := fun x y H Q => ∃ l k xs, x = .ref l ∧ y = .int k ∧ H l = some (.lst xs) ∧ -(2 ^ 63) ≤ k ∧ k < 2 ^ 63 ∧ xs.length * k.toNat ≤ sizeLine ∧
  ∀ p, H p = none → Q (.ref p) (upd H p (.lst (List.replicate k.toNat xs).flatten))
theorem len_rep {α : Type} (xs : List α) (k : Nat) : (List.replicate k xs).flatten.length = k * xs.length := by
  induction k with
  | zero => simp
  | succ k ih => rw [List.replicate_succ, List.flatten_cons, List.length_append, ih, Nat.succ_mul, Nat.add_comm]
theorem op_rep : OpR X (binaryOp .Mult) rRep := by
  intro pins s σ H x y v u Q I rx ry h
  obtain ⟨l, k, xs, rfl, rfl, hH, h1, h2, hz, q⟩ := h
  cases rx
  obtain ⟨t, rfl⟩ := ry
  obtain ⟨z, its, n, r, hl, e⟩ := I.lstM hH
  have hlen : its.toArray.size * k.toNat ≤ sizeLine := by rw [List.size_toArray, ← hl]; exact hz
  have hcap : ¬ its.toArray.size * k.toNat > (2 ^ 63 - 1) / 8 := by
    have : (sizeLine : Nat) ≤ (2 ^ 63 - 1) / 8 := by decide
    omega
  have hfit : ¬ (!Builtin.List.listFitsIndex k) = true := by
    rw [fitsIndex_both h1 h2]
    exact Bool.false_ne_true
  have hlong : ¬ Builtin.List.listTooLong (its.toArray.size * k.toNat) = true := by
    rw [notLongL hlen]
    exact Bool.false_ne_true
  have hnew : List.foldl (fun x1 x2 => x1 ++ x2) #[] (List.replicate (if its.toArray.isEmpty = true then 0 else k.toNat) its.toArray) = (List.replicate k.toNat its).flatten.toArray := by
    have f0 : ∀ m : Nat, List.foldl (fun x1 x2 => x1 ++ x2) #[] (List.replicate m its.toArray) = (List.replicate m its).flatten.toArray := fun m => by
      have := foldl_rep its m []
      rw [List.nil_append] at this
      exact this
    rw [f0]
    cases its with
    | nil => simp
    | cons a r' => rw [if_neg (by simp)]
  refine wpAny_binaryOp_repeat_ref (T := "list") (U := "int") (by decide) ⟨_, e, rfl⟩ (fun s' => typeIs_int s' k t) noFill_list_mul F.fills_int_mul F.slot_int_rmul repeat_list F.slot_int_index.lookup
    (call_meets F.slot_int_rmul (typeIs_int s k t) F.entry_int_rmul (F.args_int_rmul_2 _ _) (int___rmul___int_list k t l its.toArray n)
      ⟨e, rfl, ⟨_, e, rfl⟩, call_meets F.slot_list_mul ⟨_, e, rfl⟩ F.entry_list_mul (F.args_list_mul_2 _ _) (AutoListH.list___mul___list_int_3 l its.toArray n k t hfit hcap hlong) ⟨e, ?_⟩⟩)
  rw [hnew]
  exact ⟨.ref _, _, I.lnew (t' := s.toks) (r.rep k.toNat) (by rw [len_rep, Nat.mul_comm]; exact hz), rfl, q _ I.fresh⟩
end
section
variable {prog : Program} {w : World} {A : Around} {E : Value → Shared → Prop} {s : Shared}
end
section
variable {X : Cx}
end
end L2
namespace Att
open PySem PySem.W PySem.Calls PyProof.Rows
theorem ints_of_wellAll {P : Params} {h : Heap} : ∀ (ns : List Int) (vs : List Value), WellAll P h vs (ns.map WData.int) → IntsAre vs ns := by
  intro ns
  induction ns with
  | nil =>
    intro vs w
    rw [List.map_nil] at w
    cases w
    exact .nil
  | cons n ns ih =>
    intro vs w
    rw [List.map_cons] at w
    cases w with
    | cons a b =>
      cases a
      exact .cons _ _ (ih _ b)
theorem script_of {l : OpenLaw} {n : Nat} (hn : l.most = some n) {P : Params} {h : Heap} {args : List WData} {vals : List Value}
    (hpre : l.row.toRowW.claim.pre args = true) (hwl : WellAll P h vals args) :
    ∃ a vs ns, vals = [Value.ref a] ∧ args = [WData.list (ns.map WData.int)] ∧ h.get? a = some { cls := .type "list", data := .seq vs.toArray } ∧ IntsAre vs ns ∧ ns.length ≤ n := by
  have hsh : WShape.hasAll [] args [.list .int] = true := (pre_splitW hpre).1
  have hc : l.pre.holds [] { args := args } = true := (pre_splitW hpre).2
  obtain ⟨d, r, rfl, h1, h2⟩ := hasAllW_cons hsh
  obtain rfl := hasAllW_nil h2
  obtain ⟨xs, rfl, h3⟩ := hasW_list h1
  obtain ⟨ns, rfl⟩ := items_int h3
  have hlen : ns.length ≤ n := by
    unfold OpenLaw.pre at hc
    have h4 : (WTm.not (.lt (.lit (.int (n : Int))) (.len (.arg 0)))).holds [] { args := [.list (ns.map .int)] } = true := by
      have h4 := (holds_andW hc).1
      rw [hn] at h4
      exact h4
    have h5 := condW_of h4 (w_not (w_lt w_lit (w_len_list (w_arg rfl))))
    rw [List.length_map] at h5
    refine Nat.le_of_not_lt fun q => ?_
    have q' : (n : Int) < ((ns.length : Nat) : Int) := by omega
    first
      | (rw [decide_eq_true q'] at h5; exact absurd h5 (by decide))
      | (simp at h5; omega)
  cases hwl with
  | cons w1 w2 =>
    cases w2
    cases w1 with
    | list ho hall => exact ⟨_, _, ns, rfl, rfl, ho, ints_of_wellAll ns _ hall, hlen⟩
theorem post_true (l : OpenLaw) (args : List WData) : l.row.toRowW.claim.post args (.bool true) args = true :=
  postW_of (r := l.row.toRowW) (X := (true == true))
    (show WShape.has [] (.bool true) .bool = true by first | rfl | decide | simp [WShape.has, WShape.arms, WShape.armsAll])
    (show (WTm.eq .res (.lit (.bool true))).value [] { args := args, res := some (.bool true), after := args } = some (.bool (true == true)) from w_eq_bool (w_res rfl) w_lit) rfl
theorem attach_call {l : OpenLaw} {n : Nat} {q : Program} {loose : List Str} {XP : (Str → Option Value) → Heap → Prop} {YP : World → Heap → Prop} {d : DefRec}
    (hn : l.most = some n) (hdf : d.params.defaults = [])
    (call : ∀ (w : World) (s₀ s₁ : Shared) (mg mb : Str → Option Value) (fa : Addr) (o : Obj) (pm cd doc : Value) (a : Addr) (vs : List Value) (ns : List Int),
      Ground q loose [] XP w s₀ mg mb s₁.heap → YP w s₁.heap →
      s₁.heap.get? fa = some o → o.data = .func (docDef d.name d.params d.body d.scope pm cd doc) → s₁.heap.CodeRec cd d.name → mg d.name = some (.ref fa) →
      s₁.heap.get? a = some { cls := .type "list", data := .seq vs.toArray } → IntsAre vs ns → ns.length ≤ n → s₁.gens = #[] →
      codeAny (model l.prog w) callerA (.call (.ref fa) ⟨[.ref a], []⟩) (fun r s' => r = .ok (.ret (.bool true)) ∧ OldK s₁.heap s'.heap ∧ s'.os = s₁.os ∧ AllBare s'.gens) s₁) :
    WalkO q loose XP YP l.row.toRowW d [] (fun f vs => PySem.call f vs) := by
  intro w s₀ s₁ mg mb G Y fa o pm cd doc dV kV ho hd hcd hD hmg hg args vals as hpre hlay hrd hwl hlo
  obtain rfl : dV = .none := Dflts.none hD hdf
  obtain rfl : kV = .none := Dflts.noKw hD
  obtain ⟨a, vs, ns, rfl, rfl, hobj, hints, hlen⟩ := script_of hn hpre hwl
  refine enter_call (codeAny_mono (call w s₀ s₁ mg mb fa o pm cd doc a vs ns G Y ho (fd_plain hd) hcd hmg hobj hints hlen hg) fun r s' hq => ?_)
  obtain ⟨rfl, h2, h3, h4⟩ := hq
  exact ⟨.inl ⟨.bool true, .bool true, [], rfl, fun _ => rfl, .bool true, post_true l _, fun _ => ⟨List.Pairwise.nil, fun _ hm => (nomatch hm)⟩⟩, h2, h3, h4⟩
section
variable {prog : Program} {w : World} {A : Around} {E : Value → Shared → Prop} {s : Shared} {K : Frag}
end
end Att
namespace L2
open PySem PySem.Spec PyProof.Rows
theorem vals_ints : ∀ {vs : List Value} {ns : List Int}, IntsAre vs ns → Vals (ns.map V.int) vs
  | _, _, .nil => .nil
  | _, _, .cons n t h => .cons ⟨t, rfl⟩ (vals_ints h)
def Only (H : Hp) : Prop := ∀ b, H b = none ∨ ∃ o xs, H b = some (.frz o (.lst xs))
theorem law_call {P : Program} {w : World} {K : PySem.W.Frag} {mg mb : Str → Option Value} {CX : CXT} {k : Nat} {fa a : Addr} {fd : FuncData} {x : Str} {sp : Sp} {s₁ : Shared} {vs : List Value} {ns : List Int}
    (KX : K.In s₁.heap) (hns : s₁.heap.Ns mainGlobals mg) (hb : s₁.heap.Ns builtinsNs mb) (hbb : ∀ x : Str, x ≠ "__name__" → mb x = bootBuiltins x) (hlim : s₁.heap.NoLimit) (hg : s₁.gens = #[])
    (ha : s₁.heap.get? a = some { cls := .type "list", data := .seq vs.toArray }) (hi : IntsAre vs ns) (hl : ns.length ≤ sizeLine) (hr : Room k callerA)
    (F : ∀ base : Heap, K.In base → base.Ns mainGlobals mg → FnOk P w K mg base CX k fa fd [x] sp) (hbind : ∀ (s : Shared) (u : Value), BindsTo s fd ⟨[u], []⟩ [(x, u)])
    (hsp : ∀ H : Hp, Only H → SqL K H a (ns.map V.int) → sp [.ref a] H (fun v _ => v = .bl true) fun _ _ _ => False)
    (hCX : ∀ H e s', CX [] H s₁ (fun _ _ _ => False) e s' → False) :
    codeAny (model P w) callerA (.call (.ref fa) ⟨[.ref a], []⟩) (fun r s' => r = .ok (.ret (.bool true)) ∧ OldK s₁.heap s'.heap ∧ s'.os = s₁.os ∧ AllBare s'.gens) s₁ := by
  have rv := vals_ints hi
  have lenV := hi.length
  have core : ∀ H : Hp, Only H → SqL K H a (ns.map V.int) → HOk P w H s₁.heap → (∀ b, H b ≠ none → b = a) → (H a ≠ none → K.lookup a = none) →
      codeAny (model P w) callerA (.call (.ref fa) ⟨[.ref a], []⟩) (fun r s' => r = .ok (.ret (.bool true)) ∧ OldK s₁.heap s'.heap ∧ s'.os = s₁.os ∧ AllBare s'.gens) s₁ := by
    intro H hO hS hok hA hK
    have base_of : ∀ {b : Addr} {o : Obj}, s₁.heap.get? b = some o → H b = none → (hidT s₁.heap H).get? b = some o := fun e n => hidT_get e n
    have noA : ∀ {b : Addr} {o : Obj} {es : Array DictEntry} {ep : Nat}, s₁.heap.get? b = some o → o.data = .dict es ep → H b = none := fun {b o es ep} e d => by
      cases q : H b with
      | none => rfl
      | some u =>
        have e' : b = a := hA b (by rw [q]; simp)
        subst e'
        rw [ha] at e; cases e
        have d' : Data.seq vs.toArray _ = Data.dict es ep := d
        cases d'
    have nsK : ∀ {b : Addr} {m : Str → Option Value}, s₁.heap.Ns b m → (hidT s₁.heap H).Ns b m := fun {b m} ⟨o, es, ep, e, d, r⟩ => ⟨o, es, ep, base_of e (noA e d), d, r⟩
    have hKb : K.In (hidT s₁.heap H) := fun b o e => base_of (KX b o e) (by
      cases q : H b with
      | none => rfl
      | some u =>
        have e' : b = a := hA b (by rw [q]; simp)
        subst e'
        rw [hK (by rw [q]; simp)] at e; cases e)
    have hM : Mod K mg (hidT s₁.heap H) := ⟨hKb, nsK hns, ⟨mb, nsK hb, hbb⟩, let ⟨mc, h1, h2⟩ := hlim; ⟨mc, nsK h1, h2⟩⟩
    have e0 : Env0 P w K mg (hidT s₁.heap H) callerA [] s₁ H := ⟨rfl, hM, fun b o e => of_hidT e, Nat.le_of_eq (hidT_size _ _), trivial, fun b hb => absurd (show b ∈ ([] : List Addr) from hb) (by simp), hok, .of_eq hg⟩
    refine codeAny_mono ((F _ hKb (nsK hns)).run callerA [] s₁ H ⟨[.ref a], []⟩ [.ref a] [.ref a] _ _ hr e0 (hbind s₁ (.ref a)) (.cons rfl .nil) (hsp H hO hS)) fun r s' h => ?_
    cases r with
    | error e => exact (hCX H e s' h).elim
    | ok fl =>
      cases fl with
      | next => exact False.elim h
      | brk => exact False.elim h
      | cont => exact False.elim h
      | ret u =>
        obtain ⟨v, H', os, bare, un, hok', r', q⟩ := h
        have q' : v = .bl true := q
        subst q'
        obtain rfl : u = Value.bool true := r'
        refine ⟨rfl, OldK.of_keep fun b o e => ?_, os, bare⟩
        cases q : H b with
        | none => exact un.keep b o e q (by intro z; exact absurd (show b ∈ ([] : List Addr) from z) (by simp)) (by simp)
        | some u =>
          rcases hO b with z | ⟨ob, xs, z⟩
          · rw [q] at z; cases z
          · have z2 := un.frzs b ob _ z
            obtain ⟨e1, _⟩ := hok b _ z
            obtain ⟨e2, _⟩ := hok' b _ z2
            rw [e] at e1; cases e1
            exact e2
  cases hk : K.lookup a with
  | some o =>
    have e := KX a o hk
    rw [ha] at e
    cases e
    refine core (fun _ => none) (fun _ => .inl rfl) (.inr ⟨_, vs.toArray, _, hk, rfl, rfl, rfl, by rw [List.size_toArray, lenV]; exact hl, by simpa using rv⟩) (fun b u z => by have z' : (none : Option HO) = some u := z; cases z') (fun b z => absurd rfl z) fun z => absurd rfl z
  | none =>
    refine core (fun b => if b = a then some (.frz { cls := .type "list", data := .seq vs.toArray } (.lst (ns.map V.int))) else none) (fun b => ?_) (.inl (.inr ⟨{ cls := .type "list", data := .seq vs.toArray }, if_pos rfl⟩)) (fun b u z => ?_) (fun b z => ?_) fun _ => hk
    · by_cases hb : b = a
      · exact .inr ⟨_, _, if_pos hb⟩
      · exact .inl (if_neg hb)
    · by_cases hb : b = a
      · have z' := (if_pos hb).symm.trans z
        cases z'
        subst hb
        exact ⟨ha, by rw [List.length_map]; exact hl, vs, _, rv, ha⟩
      · have z' := (if_neg hb).symm.trans z
        cases z'
    · by_cases hb : b = a
      · exact hb
      · exact absurd (if_neg hb) z
end L2
namespace L2
open PySem PySem.Spec PyProof.Rows
theorem walk_of {l : PySem.W.OpenLaw} {n k : Nat} {q : Program} {loose : List Str} {XP : (Str → Option Value) → Heap → Prop} {YP : World → Heap → Prop} {d : DefRec} {K : Params → PySem.W.Frag} {CX : World → CXT} {sp : World → Sp} {x : Str}
    (hn : l.most = some n) (hn2 : n ≤ sizeLine) (hdf : d.params.defaults = []) (hr : Room k callerA)
    (hY : ∀ (w : World) (h : Heap), YP w h → (K w.params).In h)
    (F : ∀ (w : World) (mg : Str → Option Value) (fa : Addr) (h : Heap), (K w.params).In h → h.Ns mainGlobals mg → mg d.name = some (.ref fa) →
      ∃ fd : FuncData, (∀ (s : Shared) (u : Value), BindsTo s fd ⟨[u], []⟩ [(x, u)]) ∧
        ∀ base : Heap, (K w.params).In base → base.Ns mainGlobals mg → FnOk l.prog w (K w.params) mg base (CX w) k fa fd [x] (sp w))
    (hsp : ∀ (w : World) (H : Hp) (a : Addr) (ns : List Int), ns.length ≤ n → Only H → SqL (K w.params) H a (ns.map V.int) → sp w [.ref a] H (fun v _ => v = .bl true) fun _ _ _ => False)
    (hCX : ∀ (w : World) (H : Hp) (s : Shared) (e : Value) (s' : Shared), CX w [] H s (fun _ _ _ => False) e s' → False) :
    PySem.W.WalkO q loose XP YP l.row.toRowW d [] (fun f vs => PySem.call f vs) := by
  refine Att.attach_call hn hdf fun w s₀ s₁ mg mb fa o pm cd doc a vs ns G Y ho hd hcd hmg hobj hints hlen hg => ?_
  have KX := hY w _ Y
  obtain ⟨fd, hb, hF⟩ := F w mg fa _ KX G.T.g hmg
  exact law_call KX G.T.g G.T.b G.T.builtins G.T.nolimit hg hobj hints (Nat.le_trans hlen hn2) hr hF hb (fun H hO hS => hsp w H a ns hlen hO hS) fun H e s' => hCX w H s₁ e s'
end L2
namespace L2
open PySem PySem.Spec PyProof.Rows
def inClass (s : Stmt) (j : Nat) : Stmt := match s with
  | .ClassDef _ _ _ body _ _ _ _ _ _ _ => body.getD j (.Pass ⟨0, 0, 0, 0⟩)
  | _ => .Pass ⟨0, 0, 0, 0⟩
def defArgs (s : Stmt) : Arguments := match s with
  | .FunctionDef _ a _ _ _ _ _ _ _ _ => a
  | _ => { posonlyargs := [], args := [], vararg := none, kwonlyargs := [], kw_defaults := [], kwarg := none, defaults := [] }
def defBody (s : Stmt) : List Stmt := match s with
  | .FunctionDef _ _ b _ _ _ _ _ _ _ => b
  | _ => []
def defScope (s : Stmt) : Scope := match s with
  | .FunctionDef _ _ _ _ _ _ sc _ _ _ => sc
  | _ => { kind := .function, names := [], isGenerator := false, isCoroutine := false }
abbrev CX0 : CXT := fun _ _ _ _ _ _ => False
abbrev E0 : XK := fun _ _ _ => False
theorem pass0 {X : Cx} : Passes CX0 X E0 := fun _ _ _ _ _ _ _ h => h.elim
structure Fun (K : PySem.W.Frag) (x qual : Str) (st : Stmt) (f : Addr) (fd : FuncData) : Prop where
  ex : ∃ (oc : Value) (od : Option Addr) (kV doc pm : Value) (an : Option Addr) (cdv ct : Value) (osl : Array (Option Value)),
    fd = PySem.W.fnOf x qual (defArgs st) (defBody st) (defScope st) .none kV doc pm an cdv ct ∧ K.lookup f = some ⟨oc, od, .func fd, osl⟩ ∧ PySem.W.codeIn K cdv qual = true
  kp : PySem.W.keepIn K (.ref f) = true
section
variable {P : Program} {w : World} {K : PySem.W.Frag} {mg : Str → Option Value} {base : Heap}
theorem Fun.ok {x qual : Str} {st : Stmt} {f : Addr} {fd : FuncData} {N ps : List Str} {k : Nat} {sp : Sp} (F : Fun K x qual st f fd) (S : FnScope N ps (defScope st)) (len : ∀ vs H Q E, sp vs H Q E → vs.length = ps.length)
    (hbody : ∀ (cdv : Value) (A : Around) (outer : List Env) (s : Shared) (H : Hp) (vs : List V) (Q : VK) (E : XK), Room k (A.deeper (envOfC qual (defScope st) s.heap.objs.size f cdv)) → sp vs H Q E →
      ∃ t, PSs (cxOf CX0 P w K mg base N qual (defScope st) f cdv A outer s H E).nox (defBody st) t ∧ t { nx := fun _ H' => Q .non H', rt := Q } (start N vs) H) : FnOk P w K mg base CX0 (k + 1) f fd ps sp := by
  obtain ⟨oc, od, kV, doc, pm, an, cdv, ct, osl, rfl, lk, hcd⟩ := F.ex
  refine fn_of lk hcd S len fun A outer s H vs Q E hr hsp => ?_
  obtain ⟨t, h, q⟩ := hbody cdv A outer s H vs Q E hr hsp
  exact ⟨t, h.nox, q⟩
theorem Fun.binds {x qual : Str} {st : Stmt} {f : Addr} {fd : FuncData} {ps : List Str} (F : Fun K x qual st f fd)
    (h : ∀ (kV doc pm : Value) (an : Option Addr) (cdv ct : Value) (us : List Value), us.length = ps.length → bindArgs (PySem.W.fnOf x qual (defArgs st) (defBody st) (defScope st) .none kV doc pm an cdv ct) ⟨us, []⟩ = pure (ps.zip us)) : Binds K fd ps [] := by
  obtain ⟨oc, od, kV, doc, pm, an, cdv, ct, osl, rfl, lk, hcd⟩ := F.ex
  exact .all (h kV doc pm an cdv ct)
theorem fun_mk {x qual : Str} {st : Stmt} {f : Addr} {oc : Value} {od an : Option Addr} {osl : Array (Option Value)} {kV doc pm cdv ct : Value} (l : K.lookup f = some ⟨oc, od, .func (PySem.W.fnOf x qual (defArgs st) (defBody st) (defScope st) .none kV doc pm an cdv ct), osl⟩)
    (c : PySem.W.codeIn K cdv qual = true) (k : PySem.W.keepIn K (.ref f) = true) : Fun K x qual st f (PySem.W.fnOf x qual (defArgs st) (defBody st) (defScope st) .none kV doc pm an cdv ct) := ⟨⟨oc, od, kV, doc, pm, an, cdv, ct, osl, rfl, l, c⟩, k⟩
end
theorem small1000 {n : Nat} (h : n ≤ 1000) : n < sizeLine := Nat.lt_of_le_of_lt h (by decide)
section
variable {X : Cx}
theorem pv (i : Nat) {x : Str} {pos : Pos} (hN : X.N[i]? = some x := by rfl) (hv : Vis X.env.scope x := by first | exact Or.inl rfl | exact Or.inr (Or.inl rfl) | exact Or.inr (Or.inr rfl)) (hd : (x == ("__debug__" : Str)) = false := by decide)
    (hcd : (x == ("__classdict__" : Str)) = false := by decide) : PE X (.Name x pos) (tVar i) := pe_var hN hv hd hcd
end
def Same (H H' : Hp) : Prop := ∀ b o, H b = some o → H' b = some o
theorem Same.refl (H : Hp) : Same H H := fun _ _ h => h
theorem Same.trans {H H1 H2 : Hp} (a : Same H H1) (b : Same H1 H2) : Same H H2 := fun c o h => b c o (a c o h)
theorem Same.free {H H' : Hp} (e : Same H H') {l : Addr} (h : H' l = Option.none) : H l = Option.none := by
  cases q : H l with
  | none => rfl
  | some o =>
    rw [e l o q] at h
    cases h
theorem Same.seq {K : PySem.W.Frag} {H H' : Hp} {a : Addr} {xs : List V} (e : Same H H') (h : SqL K H a xs) : SqL K H' a xs := by
  rcases h with (h | ⟨o, h⟩) | h
  · exact .inl (.inl (e _ _ h))
  · exact .inl (.inr ⟨o, e _ _ h⟩)
  · exact .inr h
end L2
namespace L2
open PySem PySem.Spec PyProof.Rows
section
variable {κ : Type} [DecidableEq κ]
def valV (kvs : List (κ × V)) (k : κ) : Option V := (kvs.find? fun kv => decide (kv.1 = k)).map (·.2)
def putK (kvs : List (κ × V)) (k : κ) (v : V) : List (κ × V) :=
  if (kvs.any fun kv => decide (kv.1 = k)) = true then kvs.map (fun kv => if kv.1 = k then (kv.1, v) else kv) else kvs ++ [(k, v)]
def dropK (kvs : List (κ × V)) (k : κ) : List (κ × V) := kvs.filter fun kv => decide (kv.1 ≠ k)
theorem valV_pos {p : κ × V} {r : List (κ × V)} {k : κ} (e : p.1 = k) : valV (p :: r) k = some p.2 := by simp [valV, List.find?_cons, e]
theorem valV_neg {p : κ × V} {r : List (κ × V)} {k : κ} (e : ¬ p.1 = k) : valV (p :: r) k = valV r k := by simp [valV, List.find?_cons, e]
theorem valV_any (k : κ) : ∀ kvs : List (κ × V), (kvs.any fun kv => decide (kv.1 = k)) = (valV kvs k).isSome
  | [] => rfl
  | p :: r => by
    rw [List.any_cons]
    by_cases e : p.1 = k
    · simp only [valV_pos e, decide_eq_true e, Bool.true_or, Option.isSome_some]
    · rw [valV_neg e, decide_eq_false e, Bool.false_or]; exact valV_any k r
theorem length_putK (kvs : List (κ × V)) (k : κ) (v : V) : (putK kvs k v).length ≤ kvs.length + 1 := by
  unfold putK
  split
  · rw [List.length_map]; omega
  · rw [List.length_append, List.length_cons, List.length_nil]; omega
theorem RelO.isSome_eq {o : Option V} {u : Option Value} (r : RelO o u) : o.isSome = u.isSome := by
  cases o with
  | none => cases u with
    | none => rfl
    | some _ => exact (show False from r).elim
  | some _ => cases u with
    | none => exact (show False from r).elim
    | some _ => rfl
theorem RelO.getD {o : Option V} {u : Option Value} {d : V} {d' : Value} (r : RelO o u) (rd : RelV d d') : RelV (o.getD d) (u.getD d') := by
  cases o with
  | none => cases u with
    | none => exact rd
    | some _ => exact (show False from r).elim
  | some _ => cases u with
    | none => exact (show False from r).elim
    | some _ => exact r
theorem KV.val {kvs : List (κ × V)} {vs : List (κ × Value)} (r : KV kvs vs) (k : κ) : RelO (valV kvs k) (valueAt vs k) := by
  unfold KV at r
  induction r with
  | nil => exact True.intro
  | @cons p q ps qs h t ih =>
    obtain ⟨h1, h2⟩ := h
    by_cases e : p.1 = k
    · have e' : q.1 = k := h1.symm.trans e
      have b : valueAt (q :: qs) k = some q.2 := by simp [valueAt, List.find?_cons, e']
      rw [valV_pos e, b]; exact h2
    · have e' : ¬ q.1 = k := fun z => e (h1.trans z)
      have b : valueAt (q :: qs) k = valueAt qs k := by simp [valueAt, List.find?_cons, e']
      rw [valV_neg e, b]; exact ih
theorem KV.any {kvs : List (κ × V)} {vs : List (κ × Value)} (r : KV kvs vs) (k : κ) : (kvs.any fun kv => decide (kv.1 = k)) = vs.any fun kv => decide (kv.1 = k) := by
  unfold KV at r
  induction r with
  | nil => rfl
  | cons h t ih => rw [List.any_cons, List.any_cons, ih, h.1]
theorem KV.repl {kvs : List (κ × V)} {vs : List (κ × Value)} (r : KV kvs vs) (k : κ) {y : V} {u : Value} (ry : RelV y u) :
    KV (kvs.map fun kv => if kv.1 = k then (kv.1, y) else kv) (vs.map fun kv => if kv.1 = k then (kv.1, u) else kv) := by
  unfold KV at r ⊢
  induction r with
  | nil => exact .nil
  | @cons p q ps qs h t ih =>
    rw [List.map_cons, List.map_cons]
    refine .cons ?_ ih
    obtain ⟨h1, h2⟩ := h
    by_cases e : p.1 = k
    · rw [if_pos e, if_pos (h1.symm.trans e)]; exact ⟨h1, ry⟩
    · rw [if_neg e, if_neg (fun z => e (h1.trans z))]; exact ⟨h1, h2⟩
theorem KV.put {kvs : List (κ × V)} {vs : List (κ × Value)} (r : KV kvs vs) (k : κ) {y : V} {u : Value} (ry : RelV y u) : KV (putK kvs k y) (stored vs k u) := by
  unfold putK stored
  rw [r.any k]
  by_cases e : (vs.any fun kv => decide (kv.1 = k)) = true
  · rw [if_pos e, if_pos e]; exact r.repl k ry
  · rw [if_neg e, if_neg e]; exact Paired.snoc r ⟨rfl, ry⟩
theorem KV.drop {kvs : List (κ × V)} {vs : List (κ × Value)} (r : KV kvs vs) (k : κ) : KV (dropK kvs k) (without vs k) := by
  unfold KV at r ⊢
  unfold dropK without
  induction r with
  | nil => exact .nil
  | @cons p q ps qs h t ih =>
    obtain ⟨h1, h2⟩ := h
    rw [List.filter_cons, List.filter_cons]
    by_cases e : p.1 = k
    · have a : ¬ decide (p.1 ≠ k) = true := by simp [e]
      have b : ¬ decide (q.1 ≠ k) = true := by simp [h1.symm.trans e]
      rw [if_neg a, if_neg b]; exact ih
    · have e' : ¬ q.1 = k := fun z => e (h1.trans z)
      have a : decide (p.1 ≠ k) = true := by simp [e]
      have b : decide (q.1 ≠ k) = true := by simp [e']
      rw [if_pos a, if_pos b]; exact .cons ⟨h1, h2⟩ ih
theorem KV.keys {kvs : List (κ × V)} {vs : List (κ × Value)} (r : KV kvs vs) : kvs.map (·.1) = vs.map (·.1) := by
  unfold KV at r
  induction r with
  | nil => rfl
  | cons h t ih => rw [List.map_cons, List.map_cons, ih, h.1]
theorem KV.length {kvs : List (κ × V)} {vs : List (κ × Value)} (r : KV kvs vs) : kvs.length = vs.length := Paired.length r
end
theorem kV_is {P : Program} {w : World} {k : Key} {u : Value} (r : RelV (kV k) u) : (mixKind P w).is k u = true := by
  cases k with
  | inl i => obtain ⟨t, e⟩ := (show ∃ t, u = Value.int i t from r); subst e; exact mixKind_int P w i t
  | inr x => obtain ⟨t, e⟩ := (show ∃ t, u = Value.str x t from r); subst e; exact mixKind_str P w x t
theorem items_are {P : Program} {w : World} : ∀ {ks : List Key} {us : List Value}, Vals (ks.map kV) us → ItemsAre (mixKind P w) ks us
  | [], _, r => by rw [List.map_nil] at r; cases r; exact .nil
  | k :: ks, _, r => by
    rw [List.map_cons] at r
    cases r with
    | cons h t => exact .cons (kV_is h) (items_are t)
abbrev KT (H : Hp) : List (List Key × V) → List (List Key × Addr × Value) → Prop := Paired fun p q => p.1 = q.1 ∧ H q.2.1 = some (.tup (p.1.map kV)) ∧ RelV p.2 q.2.2
theorem KT.val {H : Hp} {kvs : List (List Key × V)} {xs : List (List Key × Addr × Value)} (r : KT H kvs xs) (k : List Key) : RelO (valV kvs k) ((atKey xs k).map (·.2)) := by
  induction r with
  | nil => exact True.intro
  | @cons p q ps qs h t ih =>
    obtain ⟨h1, _, h2⟩ := h
    by_cases e : p.1 = k
    · have e' : q.1 = k := h1.symm.trans e
      have b : atKey (q :: qs) k = some q.2 := by simp [atKey, List.find?_cons, e']
      rw [valV_pos e, b]; exact h2
    · have e' : ¬ q.1 = k := fun z => e (h1.trans z)
      have b : atKey (q :: qs) k = atKey qs k := by simp [atKey, List.find?_cons, e']
      rw [valV_neg e, b]; exact ih
theorem KT.repl {H : Hp} {kvs : List (List Key × V)} {xs : List (List Key × Addr × Value)} (r : KT H kvs xs) (k : List Key) {y : V} {u : Value} (ry : RelV y u) :
    KT H (kvs.map fun kv => if kv.1 = k then (kv.1, y) else kv) (xs.map (putAt k u)) := by
  induction r with
  | nil => exact .nil
  | @cons p q ps qs h t ih =>
    rw [List.map_cons, List.map_cons]
    refine .cons ?_ ih
    obtain ⟨h1, h2, h3⟩ := h
    unfold putAt
    by_cases e : p.1 = k
    · rw [if_pos e, if_pos (h1.symm.trans e)]; exact ⟨h1, h2, ry⟩
    · rw [if_neg e, if_neg (fun z => e (h1.trans z))]; exact ⟨h1, h2, h3⟩
theorem KT.put {H : Hp} {kvs : List (List Key × V)} {xs : List (List Key × Addr × Value)} (r : KT H kvs xs) (k : List Key) {b : Addr} {y : V} {u : Value} (hb : H b = some (.tup (k.map kV))) (ry : RelV y u) :
    KT H (putK kvs k y) (storedH xs k b u) := by
  have e : (kvs.any fun kv => decide (kv.1 = k)) = (atKey xs k).isSome := by
    rw [valV_any, (r.val k).isSome_eq, Option.isSome_map]
  unfold putK storedH
  rw [e]
  by_cases q : (atKey xs k).isSome = true
  · rw [if_pos q, if_pos q]; exact r.repl k ry
  · rw [if_neg q, if_neg q]; exact Paired.snoc r ⟨rfl, hb, ry⟩
theorem KT.keeps {H H' : Hp} {kvs : List (List Key × V)} {xs : List (List Key × Addr × Value)} (r : KT H kvs xs) (ht : ∀ b ys, H b = some (.tup ys) → H' b = some (.tup ys)) : KT H' kvs xs :=
  Paired.mapP r fun _ _ z => ⟨z.1, ht _ _ z.2.1, z.2.2⟩
section
variable {P : Program} {w : World} {H : Hp} {h : Heap} {a : Addr}
theorem rd_of {u : HO} (ok : HOk P w H h) (e : Rd H a u) : ObjOk P w H h a u := e.ok ok
theorem dk_rd {kvs : List (Key × V)} (ok : HOk P w H h) (e : Rd H a (.dK kvs)) : kvs.length ≤ sizeLine ∧ (a == sysModules) = false ∧ ∃ vs, KV kvs vs ∧ h.DictOf (mixKind P w) a vs :=
  show ObjOk P w H h a (.dK kvs) from rd_of ok e
theorem dk_of {kvs : List (Key × V)} (ok : HOk P w H h) (e : H a = some (.dK kvs)) : kvs.length ≤ sizeLine ∧ (a == sysModules) = false ∧ ∃ vs, KV kvs vs ∧ h.DictOf (mixKind P w) a vs := dk_rd ok (.inl e)
theorem key_of {ks : List Key} (ok : HOk P w H h) (e : H a = some (.tup (ks.map kV))) : (tupleKind (mixKind P w)).is h ks a := by
  obtain ⟨_, its, r, o, h1, h2, n, h3⟩ := (show ObjOk P w H h a (.tup (ks.map kV)) from ok a _ e)
  exact ⟨o, its.toArray, n, h1, h2, h3, by simpa using items_are r⟩
theorem dt_rd {kvs : List (List Key × V)} (ok : HOk P w H h) (e : Rd H a (.dT kvs)) : kvs.length ≤ sizeLine ∧ (a == sysModules) = false ∧
    ∃ xs, KT H kvs xs ∧ h.DictOfH (tupleKind (mixKind P w)) a xs := by
  obtain ⟨z, y, xs, r, o, es, ep, h1, h2, h3, h4, h5⟩ := (show ObjOk P w H h a (.dT kvs) from rd_of ok e)
  refine ⟨z, y, xs, r, o, es, ep, h1, h2, h3, h4, fun x hx => ?_, h5⟩
  have all : ∀ {l : List (List Key × V)} {m : List (List Key × Addr × Value)}, KT H l m → ∀ x ∈ m, (tupleKind (mixKind P w)).is h x.1 x.2.1 := by
    intro l m q
    induction q with
    | nil => intro x hx; exact nomatch hx
    | @cons p q ps qs hq t ih =>
      intro x hx
      rcases List.mem_cons.mp hx with e | hx
      · subst e
        exact key_of ok (by rw [← hq.1]; exact hq.2.1)
      · exact ih x hx
  exact all r x hx
end
def DGet (H : Hp) (a : Addr) (y : V) (r : Option V) : Prop :=
  (∃ kvs k, Rd H a (.dK kvs) ∧ y = kV k ∧ r = valV kvs k) ∨ ∃ kvs k b, Rd H a (.dT kvs) ∧ y = .ref b ∧ H b = some (.tup (k.map kV)) ∧ r = valV kvs k
def DPut (H : Hp) (a : Addr) (y v : V) (H' : Hp) : Prop :=
  (∃ kvs k, H a = some (.dK kvs) ∧ y = kV k ∧ kvs.length < sizeLine ∧ H' = upd H a (.dK (putK kvs k v))) ∨
  ∃ kvs k b, H a = some (.dT kvs) ∧ y = .ref b ∧ H b = some (.tup (k.map kV)) ∧ kvs.length < sizeLine ∧ H' = upd H a (.dT (putK kvs k v))
theorem DGet.k {H : Hp} {a : Addr} {kvs : List (Key × V)} {k : Key} (e : H a = some (.dK kvs)) : DGet H a (kV k) (valV kvs k) := .inl ⟨kvs, k, .inl e, rfl, rfl⟩
theorem DGet.t {H : Hp} {a b : Addr} {kvs : List (List Key × V)} {k : List Key} (e : H a = some (.dT kvs)) (eb : H b = some (.tup (k.map kV))) : DGet H a (.ref b) (valV kvs k) := .inr ⟨kvs, k, b, .inl e, rfl, eb, rfl⟩
theorem DPut.k {H : Hp} {a : Addr} {kvs : List (Key × V)} {k : Key} {v : V} (e : H a = some (.dK kvs)) (hl : kvs.length < sizeLine) : DPut H a (kV k) v (upd H a (.dK (putK kvs k v))) := .inl ⟨kvs, k, e, rfl, hl, rfl⟩
theorem DPut.t {H : Hp} {a b : Addr} {kvs : List (List Key × V)} {k : List Key} {v : V} (e : H a = some (.dT kvs)) (eb : H b = some (.tup (k.map kV))) (hl : kvs.length < sizeLine) :
    DPut H a (.ref b) v (upd H a (.dT (putK kvs k v))) := .inr ⟨kvs, k, b, e, rfl, eb, hl, rfl⟩
section
variable {X : Cx} {pins : List (Addr × Obj)} {σ : St} {H : Hp} {s : Shared} {a : Addr} {y v : V} {u r : Value} {o : Option V} {A : Around} {E : Value → Shared → Prop}
theorem Inv.big (I : Inv X pins σ H s) : sysModules < s.heap.objs.size := by
  have h : mainGlobals < s.heap.objs.size := (I.mod.glob.keeps I.bk).lt
  exact Nat.lt_trans (by decide) h
theorem d_write {h' : Heap} {t' : Nat} {ob : HO} (I : Inv X pins σ H s) (mu : Mut (H a)) (hs : Heap.SameBut a s.heap h') (he : ∃ q, h'.get? a = some q) (new : ObjOk X.prog X.w (upd H a ob) h' a ob) :
    Inv X pins σ (upd H a ob) { s with heap := h', toks := t' } :=
  I.write (x := a) (e := a) mu (.inl rfl) (fun b q hb z => (hs.2 b hb).trans z) he new
theorem dk_new {P : Program} {w : World} {H' : Hp} {h' : Heap} {kvs : List (Key × V)} {vs : List (Key × Value)} (z : kvs.length ≤ sizeLine) (hd : (a == sysModules) = false) (rel : KV kvs vs) (dd : h'.DictOf (mixKind P w) a vs) :
    ObjOk P w H' h' a (.dK kvs) := ⟨z, hd, vs, rel, dd⟩
end
section
variable {X : Cx} {pins : List (Addr × Obj)} {σ : St} {H : Hp} {s : Shared} {a : Addr} {kvs : List (Key × V)} {k : Key} {u : Value} {A : Around} {E : Value → Shared → Prop}
end
section
variable {X : Cx} {o i e value : Expr} {pos pos' tpos : Pos} {td ty tv : TE}
end
theorem dk_empty {P : Program} {w : World} {H : Hp} (h : Heap) (hb : sysModules < h.objs.size) : ObjOk P w H (h.push { cls := .type "dict", data := .dict #[] }) h.objs.size (.dK []) :=
  ⟨Nat.zero_le _, beq_eq_false_iff_ne.mpr (Ne.symm (Nat.ne_of_lt hb)), [], .nil, Heap.DictOf.new h⟩
def tDNewK : TE := fun _ H Q => ∀ p, H p = none → Q (.ref p) (upd H p (.dK []))
section
variable {X : Cx} {pos : Pos}
theorem pe_dnewK : PE X (.Dict [] [] pos) tDNewK := fun pins s σ H Q I h =>
  wpAny_Dict_empty ⟨.ref s.heap.objs.size, _, I.laid (a := s.heap.objs.size) (o := .dK []) (t' := s.toks) (fun _ _ q => Heap.get?_push_of_some _ q) (Nat.le_refl _) (dk_empty s.heap I.big), rfl, h _ (I.hok.fresh (Nat.le_refl _))⟩
end
structure M1 (X : Cx) (o : Expr) (m : Str) (apos : Pos) (e : Expr) (cpos : Pos) : Prop where
  base : attributeBase o m X.env (eval o X.env) = eval o X.env
  few : ((backTo cpos (starEach [e] X.env)).all (fun x => !x.1) && (backToKw cpos (keywordEach [] X.env)).all (fun x => x.1.isSome)
    && decide (([e] : List Expr).length + ([] : List Keyword).length + (if ([] : List Keyword).isEmpty then 0 else 1) < 30)) = true
  line : (apos.endLine == cpos.line) = true
  trees : backTo cpos (starEach [e] X.env) = [(false, eval e X.env)]
structure M2 (X : Cx) (o : Expr) (m : Str) (apos : Pos) (e f : Expr) (cpos : Pos) : Prop where
  base : attributeBase o m X.env (eval o X.env) = eval o X.env
  few : ((backTo cpos (starEach [e, f] X.env)).all (fun x => !x.1) && (backToKw cpos (keywordEach [] X.env)).all (fun x => x.1.isSome)
    && decide (([e, f] : List Expr).length + ([] : List Keyword).length + (if ([] : List Keyword).isEmpty then 0 else 1) < 30)) = true
  line : (apos.endLine == cpos.line) = true
  trees : backTo cpos (starEach [e, f] X.env) = [(false, eval e X.env), (false, eval f X.env)]
section
variable {X : Cx} {pins : List (Addr × Obj)} {σ : St} {H : Hp} {s : Shared} {a : Addr} {y d : V} {u r : Value} {o : Option V} {A : Around} {E : Value → Shared → Prop}
theorem d_get2 {Q : Value → Shared → Prop} (hu : A.units + 1 < cLine) (I : Inv X pins σ H s) (g : DGet H a y o) (ry : RelV y u) (rd : RelV d r) (h : ∀ w' s', Inv X pins σ H s' → RelV (o.getD d) w' → Q w' s') :
    wpAny (model X.prog X.w) A (call (.builtin "dict.get") [.ref a, u, r]) Q E s := by
  rcases g with ⟨kvs, k, e, ey, l⟩ | ⟨kvs, k, b, e, ey, eb, l⟩
  · subst ey
    obtain ⟨z, hd, vs, rel, dd⟩ := dk_rd I.hok e
    refine call_meetsIn PySem.F.slot_dict_get dd.typeIs PySem.F.entry_dict_get (PySem.F.args_dict_get_3 _ _ _) (meets_dict_get_default (mixKind X.prog X.w) a (kV_is ry) hd r) ⟨_, dd.mapOf, h _ _ (I.tok _) ?_⟩
    rw [l]
    exact (rel.val k).getD rd
  · subst ey
    cases (show u = Value.ref b from ry)
    obtain ⟨z, hd, xs, rel, dd⟩ := dt_rd I.hok e
    refine call_meetsIn PySem.F.slot_dict_get dd.typeIs PySem.F.entry_dict_get (PySem.F.args_dict_get_3 _ _ _) (meetsH_dict_get_default (tupleKind (mixKind X.prog X.w)) a b hd r) ⟨tupleKind_room_in1 hu, k, xs, key_of I.hok eb, dd, h _ _ (I.tok _) ?_⟩
    rw [l]
    exact (rel.val k).getD rd
end
section
variable {X : Cx} {o e f : Expr} {apos cpos : Pos} {td ty tx : TE}
end
section
variable {X : Cx} {pins : List (Addr × Obj)} {σ : St} {H : Hp} {s : Shared} {a : Addr} {kvs : List (Key × V)} {A : Around} {E : Value → Shared → Prop}
end
section
variable {X : Cx} {pins : List (Addr × Obj)} {σ : St} {H : Hp} {s : Shared} {a : Addr} {y : V} {u : Value} {A : Around} {E : Value → Shared → Prop}
end
end L2
namespace PySem
def closeL (env : Env) : List (Str × NameKind) → List (Str × Addr) → List (Str × Addr)
  | [], cs => cs
  | (n, k) :: r, cs => if (k == .free) = true then closeL env r ((n, (env.cells.lookup n).getD 0) :: cs) else closeL env r cs
theorem closureFor_eq {scope : Scope} {env : Env} (h : ∀ x ∈ scope.names, x.2 = .free → ∃ c, env.cells.lookup x.1 = some c) : closureFor scope env = pure (closeL env scope.names []) := by
  simp only [closureFor]
  suffices H : ∀ (l : List (Str × NameKind)) (cs : List (Str × Addr)), (∀ x ∈ l, x.2 = .free → ∃ c, env.cells.lookup x.1 = some c) →
      (forIn l cs (fun (x : Str × NameKind) (r : List (Str × Addr)) => if (x.snd == NameKind.free) = true then do let a ← cellOf env x.fst; pure (ForInStep.yield ((x.fst, a) :: r)) else pure (ForInStep.yield r)) : Sem (List (Str × Addr))) = pure (closeL env l cs) by
    rw [H scope.names [] h]; rfl
  intro l
  induction l with
  | nil => intro cs _; rfl
  | cons x l ih =>
    intro cs hx
    obtain ⟨n, k⟩ := x
    have ih' := fun cs => ih cs fun y hy => hx y (List.mem_cons_of_mem _ hy)
    rw [List.forIn_cons]
    by_cases hk : k = .free
    · subst hk
      obtain ⟨c, hc⟩ := hx (n, .free) List.mem_cons_self rfl
      have hcell : cellOf env n = pure c := by unfold cellOf; rw [hc]
      dsimp only
      rw [if_pos (show (NameKind.free == NameKind.free) = true from rfl), hcell]
      have e : closeL env ((n, NameKind.free) :: l) cs = closeL env l ((n, c) :: cs) := by
        show (if (NameKind.free == NameKind.free) = true then _ else _) = _
        rw [if_pos (show (NameKind.free == NameKind.free) = true from rfl)]; show closeL env l ((n, (List.lookup n env.cells).getD 0) :: cs) = _; rw [show List.lookup n env.cells = some c from hc]; rfl
      rw [e, ← ih' ((n, c) :: cs)]
      rfl
    · have hb : (k == NameKind.free) = false := by simpa using hk
      have e : closeL env ((n, k) :: l) cs = closeL env l cs := by
        show (if (k == NameKind.free) = true then _ else _) = _
        rw [hb]; rfl
      rw [e, ← ih' cs]
      dsimp only
      rw [hb, if_neg Bool.false_ne_true]
      rfl
theorem closeL_lookup {env : Env} {x : Str} : ∀ (l : List (Str × NameKind)) (cs : List (Str × Addr)), (∀ y ∈ l, y.2 = .free → ∃ c, env.cells.lookup y.1 = some c) → (∀ y c, cs.lookup y = some c → env.cells.lookup y = some c) →
    ∀ c, (closeL env l cs).lookup x = some c → env.cells.lookup x = some c
  | [], cs, _, hc, c, h => hc x c h
  | (n, k) :: r, cs, hx, hc, c, h => by
    have hr := fun y hy => hx y (List.mem_cons_of_mem _ hy)
    unfold closeL at h
    split at h
    · rename_i hk
      have hk' : k = .free := by simpa using hk
      obtain ⟨d, hd⟩ := hx (n, k) List.mem_cons_self hk'
      refine closeL_lookup r _ hr (fun y c' h' => ?_) c h
      rw [List.lookup_cons] at h'
      cases e : y == n with
      | true =>
        rw [e] at h'
        have e' : y = n := by simpa using e
        subst e'
        have hd' : env.cells.lookup y = some d := hd
        rw [hd'] at h' ⊢
        exact h'
      | false => rw [e] at h'; exact hc y c' h'
    · exact closeL_lookup r cs hr hc c h
theorem closeL_keep {env : Env} {x : Str} : ∀ (l : List (Str × NameKind)) (cs : List (Str × Addr)) (c : Addr), cs.lookup x = some c → ∃ c', (closeL env l cs).lookup x = some c'
  | [], cs, c, h => ⟨c, h⟩
  | (n, k) :: r, cs, c, h => by
    unfold closeL
    split
    · cases e : x == n with
      | true => exact closeL_keep r _ _ (by rw [List.lookup_cons, e])
      | false => exact closeL_keep r _ c (by rw [List.lookup_cons, e]; exact h)
    · exact closeL_keep r cs c h
theorem closeL_has {env : Env} {x : Str} : ∀ (l : List (Str × NameKind)) (cs : List (Str × Addr)), (x, NameKind.free) ∈ l → ∃ c, (closeL env l cs).lookup x = some c
  | [], cs, h => by cases h
  | (n, k) :: r, cs, h => by
    unfold closeL
    rcases List.mem_cons.mp h with e | e
    · cases e
      rw [if_pos (show (NameKind.free == NameKind.free) = true from rfl)]
      exact closeL_keep r _ ((env.cells.lookup x).getD 0) (by rw [List.lookup_cons]; simp)
    · split
      · exact closeL_has r _ e
      · exact closeL_has r _ e
end PySem
namespace PySem
theorem relabel_lookup {env : Env} {x : Str} : ∀ (names : List (Str × NameKind)),
    (names.map fun (n, k) => if (k == NameKind.free && env.scope.kind == .function && env.kindOf n == some .cell) then (n, NameKind.cell) else (n, k)).lookup x =
      (names.lookup x).map fun k => if (k == NameKind.free && env.scope.kind == .function && env.kindOf x == some .cell) = true then NameKind.cell else k
  | [] => rfl
  | (n, k) :: r => by
    have ih := relabel_lookup (env := env) (x := x) r
    show List.lookup x ((if (k == NameKind.free && env.scope.kind == .function && env.kindOf n == some .cell) = true then (n, NameKind.cell) else (n, k)) :: _) = _
    cases hx : x == n with
    | true =>
      have e : x = n := by simpa using hx
      subst e
      by_cases hc : (k == NameKind.free && env.scope.kind == .function && env.kindOf x == some .cell) = true
      · rw [if_pos hc]; simp only [List.lookup_cons, hx, Option.map_some, if_pos hc]
      · rw [if_neg hc]; simp only [List.lookup_cons, hx, Option.map_some, if_neg hc]
    | false =>
      by_cases hc : (k == NameKind.free && env.scope.kind == .function && env.kindOf n == some .cell) = true
      · rw [if_pos hc]; simp only [List.lookup_cons, hx]; exact ih
      · rw [if_neg hc]; simp only [List.lookup_cons, hx]; exact ih
theorem codeAny_compLoop_go {prog : Program} {w : World} {A : Around} {R : Result → Shared → Prop} {s : Shared} {elt target iter : Expr} {ifs : List Expr} {scope : Scope} {pos : Pos} {it acc : Value} {env : Env} (I : Nat → Shared → Prop)
    (turn : ∀ n s, I n s → wpAny (model prog w) A (pyNext it) (fun r s₁ => match r with
      | none => R (.ok .next) s₁
      | some v => wpAny (model prog w) A (letOwnedTupleGo target it v) (fun _ s₁ => wpAny (model prog w) A (assign target env v) (fun _ s₂ =>
          wpAny (model prog w) A (forIn ifs true fun c r => if r = true then do let ok ← isTrue c env (eval c env); pure (ForInStep.yield ok) else pure (ForInStep.yield r)) (fun ok s₃ =>
            if ok = true then wpAny (model prog w) A (eval elt env) (fun x s₄ =>
              wpAny (model prog w) A (call (.builtin "list.append") [acc, x]) (fun _ s₅ => ∃ m, m < n ∧ I m s₅) (notedBy (model prog w) A env fun e s' => R (.error e) s') s₄) (notedBy (model prog w) A env fun e s' => R (.error e) s') s₃
            else ∃ m, m < n ∧ I m s₃) (notedBy (model prog w) A env fun e s' => R (.error e) s') s₂) (notedBy (model prog w) A env fun e s' => R (.error e) s') s₁) (fun _ _ => False) s₁) (fun _ _ => False) s)
    (n : Nat) (h : I n s) :
    codeAny (model prog w) A (.compLoop (.ListComp elt [⟨target, iter, ifs, 0⟩] scope pos) 0 it acc env) R s := by
  have up : ∀ {α : Type} {t : Sem α} {Q : α → Shared → Prop} {E : Value → Shared → Prop} {s : Shared}, wpAny (model prog w) A t Q (fun _ _ => False) s → wpAny (model prog w) A t Q E s := fun h => wpAny_mono h (fun _ _ q => q) fun _ _ f => f.elim
  refine codeAny_loop rfl I (fun n s hI => ?_) n h
  show wpAny _ A ((compTurn (.ListComp elt [⟨target, iter, ifs, 0⟩] scope pos) 0 it acc env).onRaise (fun x => do noteFrame x env; theTreesLotGoes x)) _ _ s
  refine wpAny_noted ?_
  rw [compTurn_list]
  refine wpAny_bind (wpAny_standAt (wpAny_bind (wpAny_mono (turn n s hI) (fun r s₁ h₁ => ?_) fun _ _ f => f.elim)))
  cases r with
  | none => exact wpAny_pure h₁
  | some v =>
    refine wpAny_bind (wpAny_mono h₁ (fun _ s₁ h₁ => ?_) fun _ _ f => f.elim)
    refine wpAny_bind (wpAny_mono h₁ (fun _ s₂ h₂ => wpAny_bind (wpAny_mono h₂ (fun ok s₃ h₃ => ?_) fun _ _ f => f)) fun _ _ f => f)
    cases ok with
    | false => exact wpAny_pure ⟨rfl, h₃⟩
    | true =>
      exact wpAny_bind (wpAny_bind (wpAny_mono h₃ (fun x s₄ h₄ => wpAny_bind (wpAny_mono h₄ (fun _ s₅ h₅ => wpAny_pure (wpAny_pure ⟨rfl, h₅⟩)) fun _ _ f => f)) fun _ _ f => f))
end PySem
namespace L2
open PySem PySem.Spec PyProof.Rows
def capSt (cap : List (Option Nat)) (σ : St) : St := cap.map fun o => o.bind fun j => (σ[j]?).join
def keepsSt : St → St → Prop
  | [], [] => True
  | none :: a, _ :: b => keepsSt a b
  | some x :: a, y :: b => y = some x ∧ keepsSt a b
  | _, _ => False
theorem keepsSt_ok : ∀ {a b : St}, keepsSt a b → a.length = b.length ∧ ∀ (i : Nat) v, a[i]? = some (some v) → b[i]? = some (some v)
  | [], [], _ => ⟨rfl, fun i v h => by simp at h⟩
  | none :: a, y :: b, h => by
    have ih := keepsSt_ok (a := a) (b := b) h
    refine ⟨by simp [ih.1], fun i v e => ?_⟩
    cases i with
    | zero => simp at e
    | succ i => simpa using ih.2 i v (by simpa using e)
  | some x :: a, y :: b, h => by
    obtain ⟨e0, h⟩ := (show y = some x ∧ keepsSt a b from h)
    have ih := keepsSt_ok (a := a) (b := b) h
    refine ⟨by simp [ih.1], fun i v e => ?_⟩
    cases i with
    | zero => rw [e0]; simpa using e
    | succ i => simpa using ih.2 i v (by simpa using e)
  | [], _ :: _, h => False.elim h
  | none :: _, [], h => False.elim h
  | some _ :: _, [], h => False.elim h
theorem keepsSt_refl : ∀ a : St, keepsSt a a
  | [] => True.intro
  | none :: a => keepsSt_refl a
  | some _ :: a => ⟨rfl, keepsSt_refl a⟩
def capB (N : List Str) (so sc : Scope) (N' : List Str) (cap : List (Option Nat)) : Bool :=
  decide (sc.kind = .function) && decide N'.Nodup && decide (cap.length = N'.length) && (sc.names.all fun y => decide (y.2 ≠ .cell)) &&
  (sc.names.all fun y => decide (y.2 = .local → sc.names.lookup y.1 = some .local)) &&
  (sc.names.all fun y => decide (y.2 = .free → so.names.lookup y.1 = some .cell ∨ so.names.lookup y.1 = some .free)) &&
  ((N'.zip cap).all fun y => match y.2 with | none => true | some j => decide (N[j]? = some y.1) && decide (sc.names.lookup y.1 = some .free))
structure CapOk (N : List Str) (so sc : Scope) (N' : List Str) (cap : List (Option Nat)) : Prop where
  kind : sc.kind = .function
  nd : N'.Nodup
  len : cap.length = N'.length
  nocell : ∀ y ∈ sc.names, y.2 ≠ .cell
  nms : ∀ y ∈ sc.names, y.2 = .local → sc.names.lookup y.1 = some .local
  fre : ∀ y ∈ sc.names, y.2 = .free → so.names.lookup y.1 = some .cell ∨ so.names.lookup y.1 = some .free
  cap : ∀ (i : Nat) x j, N'[i]? = some x → cap[i]? = some (some j) → N[j]? = some x ∧ sc.names.lookup x = some .free
theorem capB_ok {N : List Str} {so sc : Scope} {N' : List Str} {cap : List (Option Nat)} (h : capB N so sc N' cap = true) : CapOk N so sc N' cap := by
  unfold capB at h
  simp only [Bool.and_eq_true, decide_eq_true_eq, List.all_eq_true] at h
  obtain ⟨⟨⟨⟨⟨⟨h1, h2⟩, h3⟩, h4⟩, h5⟩, h6⟩, h7⟩ := h
  refine ⟨h1, h2, h3, h4, h5, h6, fun i x j e1 e2 => ?_⟩
  have e3 : (N'.zip cap)[i]? = some (x, some j) := by rw [List.getElem?_zip_eq_some]; exact ⟨e1, e2⟩
  have q := h7 (x, some j) (List.mem_of_getElem? e3)
  simpa using q
end L2
namespace L2
open PySem PySem.Spec PyProof.Rows
structure Lk (fr : List Addr) (ex : Addr → Prop) (h h' : Heap) : Prop where
  keep : ∀ b o, h.get? b = some o → b ∉ fr → ¬ ex b → h'.get? b = some o
  slot : ∀ b o, h.get? b = some o → ¬ ex b → ∃ sl, h'.get? b = some { o with slots := sl }
  size : h.objs.size ≤ h'.objs.size
theorem Lk.refl {fr : List Addr} {ex : Addr → Prop} {h : Heap} : Lk fr ex h h := ⟨fun _ _ q _ _ => q, fun _ o q _ => ⟨o.slots, q⟩, Nat.le_refl _⟩
theorem Lk.trans {fr : List Addr} {ex ex2 : Addr → Prop} {h h1 h2 : Heap} (a : Lk fr ex h h1) (b : Lk fr ex2 h1 h2) (i : ∀ x, ex2 x → ex x ∨ h.objs.size ≤ x) : Lk fr ex h h2 := by
  have n : ∀ {x o}, h.get? x = some o → ¬ ex x → ¬ ex2 x := fun {x o} q n z => by
    rcases i x z with z | z
    · exact n z
    · exact absurd (Heap.lt_size q) (Nat.not_lt.mpr z)
  refine ⟨fun x o q f z => b.keep x o (a.keep x o q f z) f (n q z), fun x o q z => ?_, Nat.le_trans a.size b.size⟩
  obtain ⟨sl, e⟩ := a.slot x o q z
  obtain ⟨sl2, e2⟩ := b.slot x _ e (n q z)
  exact ⟨sl2, e2⟩
theorem Lk.funs {fr : List Addr} {ex : Addr → Prop} {h h' base : Heap} (k : Lk fr ex h h') : ∀ {l : List Env}, (∀ b ∈ frs l, ¬ ex b) → h.FunFrames base l → h'.FunFrames base l
  | [], _, _ => True.intro
  | env :: rest, hx, ⟨hk, ⟨L, o, hf, hn, ho, hd⟩, hr⟩ => by
    have hL : L ∈ frs (env :: rest) := by show L ∈ (env :: rest).filterMap (·.frame); rw [List.filterMap_cons, hf]; exact .head _
    obtain ⟨sl, e⟩ := k.slot L o ho (hx L hL)
    exact ⟨hk, ⟨L, _, hf, hn, e, hd⟩, k.funs (fun b hb => hx b (by show b ∈ (env :: rest).filterMap (·.frame); rw [List.filterMap_cons, hf]; exact .tail _ hb)) hr⟩
def FlyT (e : Addr) (cls : Value) (T : Addr) (fl : Value) (h : Heap) : Prop := ∃ oe vs oT ts, h.get? e = some oe ∧ (oe.cls = cls ∧ oe.dict = none) ∧ oe.data = .fields vs ∧ vs[1]? = some (.ref T) ∧ T ≠ e ∧ h.get? T = some oT ∧ oT.data = .fields ts ∧ ts[3]? = some fl
section
variable {M : Model} {A : Around} {E : Value → Shared → Prop} {s : Shared} {base : Heap} {env : Env} {outer : List Env} {L e T : Addr} {cls fl : Value} {Q : Unit → Shared → Prop}
theorem dict_mapFields (f : Array Value → Array Value) (o : Obj) : (o.mapFields f).dict = o.dict := by
  unfold Obj.mapFields
  split <;> rfl
theorem nf_new {oe : Obj} {vs : Array Value} {head : Value} {hn : Bool} (hfr : A.frames = some (env :: outer)) (hl : s.heap.FunFrames base (env :: outer)) (hf : env.frame = some L) (he : s.heap.get? e = some oe) (hn0 : oe.dict = none) (hd : oe.data = .fields vs) (hz : 1 < vs.size)
    (q : ∀ h' T', Lk (frs (env :: outer)) (· = e) s.heap h' → FlyT e oe.cls T' (rawInt L) h' → s.heap.objs.size ≤ T' → Q () { s with heap := h' }) :
    wpAny M A (do let a ← frameOf env; let pl ← entryPlaceOf L hn; let b ← EntryCells.newEntry head a .none (rawInt L) .none pl; setField (.ref e) 1 b) Q E s := by
  have nf : e ∉ frs (env :: outer) := fun hm => by
    obtain ⟨_, ob, hob, no⟩ := hl.mem hm
    rw [he] at hob
    cases hob
    exact no vs hd
  refine wpAny_bind (wpAny_frameOf_fun hfr hl hf fun h1 k1 => wpAny_bind (wpAny_entryPlaceOf fun pl hpl => ?_))
  unfold EntryCells.newEntry
  unfold newFields
  refine wpAny_bind ?_
  refine wpAny_newObj_type ?_ (hpl.sizeOk5 _ _ _ _ _)
  generalize ht : ([head, Value.ref L, .none, rawInt L, .none] ++ (if pl.isEmpty then List.replicate 6 Value.none else pl)).toArray = ts
  have z3 : ts[3]? = some (rawInt L) := by rw [← ht]; simp
  have e1 : h1.get? e = some oe := (k1.2.1 e nf).trans he
  have lt := Heap.lt_size e1
  have nT : h1.objs.size ≠ e := Nat.ne_of_gt lt
  have e2 := Heap.get?_push_of_some (h := h1) { cls := .type "traceback", dict := none, data := .fields ts } e1
  have d3 := Obj.data_mapFields hd (·.setIfInBounds 1 (Value.ref h1.objs.size))
  have e3 := Heap.get?_update_self (Obj.mapFields (·.setIfInBounds 1 (Value.ref h1.objs.size))) e2 (Obj.isFreed_of_fields d3)
  have t3 := (Heap.get?_update_other (h1.push { cls := .type "traceback", dict := none, data := .fields ts }) (Obj.mapFields (·.setIfInBounds 1 (Value.ref h1.objs.size))) (Ne.symm nT)).trans (Heap.get?_push_size h1 rfl)
  refine wpAny_setField e2 hd hz (q _ h1.objs.size ?_ ⟨_, _, _, _, e3, ⟨Obj.cls_mapFields _ _, (dict_mapFields _ _).trans hn0⟩, d3, by simp [hz], nT, t3, rfl, z3⟩ (Nat.le_of_eq k1.1.symm))
  have kp : ∀ b o, b ≠ e → h1.get? b = some o → ((h1.push { cls := .type "traceback", dict := none, data := .fields ts }).update e (Obj.mapFields (·.setIfInBounds 1 (Value.ref h1.objs.size)))).get? b = some o := fun b o ne hb => by
    rw [Heap.get?_update_other _ _ (Ne.symm ne)]
    exact Heap.get?_push_of_some (h := h1) _ hb
  refine ⟨fun b o hb hx ne => kp b o ne ((k1.2.1 b hx).trans hb), fun b o hb ne => ?_, ?_⟩
  · obtain ⟨sl, q1⟩ := k1.2.2 b o hb
    exact ⟨sl, kp b _ ne q1⟩
  · rw [Heap.size_update, ← k1.1]
    exact Nat.le_of_lt (by rw [size_push']; exact Nat.lt_succ_self _)
theorem mark_ok {x : Value} (hT : FlyT e cls T fl s.heap) (q : ∀ h', (∀ fr, Lk fr (· = T) s.heap h') → FlyT e cls T x h' → Q () { s with heap := h' }) : wpAny M A (setField (.ref T) 3 x) Q E s := by
  obtain ⟨oe, vs, oT, ts, he, hc, hd, h1, nT, hT, dT, h3⟩ := hT
  have z3 := (Array.getElem?_eq_some_iff.mp h3).1
  refine wpAny_setField hT dT z3 (q _ (fun fr => ?_) ?_)
  all_goals have ot : ∀ b, b ≠ T → (s.heap.update T (Obj.mapFields (·.setIfInBounds 3 x))).get? b = s.heap.get? b := fun b hb => Heap.get?_update_other _ _ (Ne.symm hb)
  all_goals have tt := Heap.get?_update_self (Obj.mapFields (·.setIfInBounds 3 x)) hT (Obj.isFreed_of_fields (Obj.data_mapFields dT _))
  · exact ⟨fun b o hb _ n0 => (ot b n0).trans hb, fun b o hb n0 => ⟨o.slots, (ot b n0).trans hb⟩, by rw [Heap.size_update]; exact Nat.le_refl _⟩
  · exact ⟨oe, vs, _, _, (ot e (Ne.symm nT)).trans he, hc, hd, h1, nT, tt, Obj.data_mapFields dT _, by simp [z3]⟩
theorem FlyT.field {Q : Value → Shared → Prop} (h : FlyT e cls T fl s.heap) (q : Q (.ref T) s) : wpAny M A (field (.ref e) 1) Q E s := by
  obtain ⟨_, _, _, _, he, _, hd, h1, _⟩ := h
  exact wpAny_field he hd h1 q
theorem FlyT.mark {Q : Value → Shared → Prop} (h : FlyT e cls T fl s.heap) (q : Q fl s) : wpAny M A (PySem.field (.ref T) 3) Q E s := by
  obtain ⟨_, _, _, _, _, _, _, _, _, hT, dT, h3⟩ := h
  exact wpAny_field hT dT h3 q
theorem sf_ok {fo : Option Addr} (hT : FlyT e cls T fl s.heap) (q : ∀ h', (∀ fr, Lk fr (· = T) s.heap h') → FlyT e cls T (fo.elim .none fun f => rawInt f) h' → Q () { s with heap := h' }) : wpAny M A (setFlight (.ref e) fo) Q E s := by
  unfold setFlight
  refine wpAny_bind (hT.field ?_)
  rw [if_pos (show (Value.ref T != .none) = true by simp)]
  exact mark_ok hT q
theorem nf_first {oe : Obj} {vs : Array Value} (hfr : A.frames = some (env :: outer)) (hl : s.heap.FunFrames base (env :: outer)) (hf : env.frame = some L) (he : s.heap.get? e = some oe) (hn0 : oe.dict = none) (hd : oe.data = .fields vs) (h1 : vs[1]? = some .none)
    (q : ∀ h' T', Lk (frs (env :: outer)) (· = e) s.heap h' → FlyT e oe.cls T' (rawInt L) h' → s.heap.objs.size ≤ T' → Q () { s with heap := h' }) : wpAny M A (noteFrame (.ref e) env) Q E s := by
  unfold noteFrame
  simp only [hf]
  refine wpAny_bind ?_
  refine wpAny_field he hd h1 ?_
  rw [if_neg (by decide)]
  exact nf_new hfr hl hf he hn0 hd (Array.getElem?_eq_some_iff.mp h1).1 q
theorem nf_any (hfr : A.frames = some (env :: outer)) (hl : s.heap.FunFrames base (env :: outer)) (hf : env.frame = some L) (hT : FlyT e cls T fl s.heap)
    (q : ∀ h' T', Lk (frs (env :: outer)) (fun b => b = e ∨ b = T) s.heap h' → FlyT e cls T' (rawInt L) h' → T' = T ∨ s.heap.objs.size ≤ T' → Q () { s with heap := h' }) : wpAny M A (noteFrame (.ref e) env) Q E s := by
  unfold noteFrame
  simp only [hf]
  refine wpAny_bind (hT.field ?_)
  rw [if_pos (show (Value.ref T != .none) = true by simp)]
  refine wpAny_bind (hT.mark ?_)
  by_cases c : (fl == rawInt L) = true
  · rw [if_pos c]
    rw [show fl = rawInt L by simpa using c] at hT
    exact wpAny_pure (q s.heap T .refl hT (.inl rfl))
  · rw [if_neg c]
    refine wpAny_bind (mark_ok hT fun h1 k1 f1 => ?_)
    have hl1 : h1.FunFrames base (env :: outer) := (k1 []).funs (fun b hb z => by
      obtain ⟨_, ob, hob, no⟩ := hl.mem hb
      obtain ⟨_, _, _, ts, _, _, _, _, _, hT', dT, _⟩ := hT
      rw [z, hT'] at hob
      cases hob
      exact no ts dT) hl
    obtain ⟨oe, vs, oT, ts, he, hc, hd, h1', nT, hT', dT, h3⟩ := f1
    refine nf_new (s := { s with heap := h1 }) hfr hl1 hf he hc.2 hd (Array.getElem?_eq_some_iff.mp h1').1 fun h' T' k f z => q h' T' ?_ (hc.1 ▸ f) (.inr (Nat.le_trans (k1 []).size z))
    have k1' : Lk (frs (env :: outer)) (fun b => b = e ∨ b = T) s.heap h1 := ⟨fun b o q f n => (k1 _).keep b o q f fun z => n (.inr z), fun b o q n => (k1 []).slot b o q fun z => n (.inr z), (k1 []).size⟩
    exact k1'.trans k fun x z => .inl (.inl z)
theorem lv_first {oe : Obj} {vs : Array Value} (hfr : A.frames = some (env :: outer)) (hl : s.heap.FunFrames base (env :: outer)) (hf : env.frame = some L) (he : s.heap.get? e = some oe) (hn0 : oe.dict = none) (hd : oe.data = .fields vs) (h1 : vs[1]? = some .none)
    (q : ∀ h' T', Lk (frs (env :: outer)) (· = e) s.heap h' → FlyT e oe.cls T' .none h' → s.heap.objs.size ≤ T' → Q () { s with heap := h' }) : wpAny M A (leaving env (.ref e)) Q E s :=
  wpAny_bind (nf_first hfr hl hf he hn0 hd h1 fun _ T' k f z => sf_ok f fun h2 k2 f2 => q h2 T' (k.trans (k2 _) fun x w => .inr (by rw [w]; exact z)) f2 z)
theorem lv_any (hfr : A.frames = some (env :: outer)) (hl : s.heap.FunFrames base (env :: outer)) (hf : env.frame = some L) (hT : FlyT e cls T fl s.heap)
    (q : ∀ h' T', Lk (frs (env :: outer)) (fun b => b = e ∨ b = T) s.heap h' → FlyT e cls T' .none h' → T' = T ∨ s.heap.objs.size ≤ T' → Q () { s with heap := h' }) : wpAny M A (leaving env (.ref e)) Q E s :=
  wpAny_bind (nf_any hfr hl hf hT fun _ T' k f z => sf_ok f fun h2 k2 f2 => q h2 T' (k.trans (k2 _) fun x w => by
    rw [w]
    rcases z with z | z
    · exact .inl (.inr z)
    · exact .inr z) f2 z)
end
end L2
namespace L2
open PySem PySem.Spec PyProof.Rows
theorem Un.lk {fs fr ex0 : List Addr} {ex : Addr → Prop} {H0 H : Hp} {h0 h h' : Heap} (u : Un fs ex0 H0 H h0 h) (v : Lk fr ex h h') (hf : ∀ b ∈ fr, b ∈ fs ∨ h0.get? b = none) (hx : ∀ b, ex b → b ∈ ex0 ∨ h0.get? b = none) : Un fs ex0 H0 H h0 h' := by
  have nx : ∀ {b o}, h0.get? b = some o → b ∉ ex0 → ¬ ex b := fun {b o} q n z => by
    rcases hx b z with z | z
    · exact n z
    · rw [q] at z; cases z
  refine ⟨fun b o q n hb n0 => ?_, fun b o q n hb n0 => ?_, u.free, fun b o q n0 => ?_, u.tups, u.frzs, u.tbls⟩
  · refine v.keep b o (u.keep b o q n hb n0) (fun z => ?_) (nx q n0)
    rcases hf b z with z | z
    · exact hb z
    · rw [q] at z; cases z
  · obtain ⟨sl, e1⟩ := u.slot b o q n hb n0
    obtain ⟨sl2, e2⟩ := v.slot b _ e1 (nx q n0)
    exact ⟨sl2, e2⟩
  · obtain ⟨o', e1⟩ := u.there b o q n0
    obtain ⟨sl2, e2⟩ := v.slot b _ e1 (nx q n0)
    exact ⟨_, e2⟩
theorem Un.gone {fs ex : List Addr} {H0 H : Hp} {h0 h : Heap} (u : Un fs ex H0 H h0 h) {b : Addr} (n : h.get? b = none) : b ∈ ex ∨ h0.get? b = none := by
  cases q : h0.get? b with
  | none => exact .inr rfl
  | some o =>
    by_cases c : b ∈ ex
    · exact .inl c
    · obtain ⟨o', e⟩ := u.there b o q c; rw [n] at e; cases e
theorem Un.gone0 {fs : List Addr} {H0 H : Hp} {h0 h : Heap} (u : Un fs [] H0 H h0 h) {b : Addr} (n : h.get? b = none) : h0.get? b = none := (u.gone n).resolve_left (by simp)
theorem ObjOk.is {P : Program} {w : World} {H : Hp} {h : Heap} {a : Addr} {o : HO} (x : ObjOk P w H h a o) : ∃ ob, h.get? a = some ob := by
  cases o with
  | lst xs => obtain ⟨_, _, _, _, e⟩ := x; exact ⟨_, e⟩
  | tup xs => obtain ⟨_, _, _, ob, e, _⟩ := x; exact ⟨_, e⟩
  | dK kvs => obtain ⟨_, _, _, _, o, _, _, e, _⟩ := x; exact ⟨_, e⟩
  | dT kvs => obtain ⟨_, _, _, _, o, _, _, e, _⟩ := x; exact ⟨_, e⟩
  | set S n => obtain ⟨o, _, _, _, e, _⟩ := x; exact ⟨_, e⟩
  | ins C dx fs => obtain ⟨_, _, _, e, _⟩ := x; exact ⟨_, e⟩
  | own y => obtain ⟨_, e⟩ := x; exact ⟨_, e⟩
  | xd fs => obtain ⟨_, ⟨_, _, _, e, _⟩, _⟩ := x; exact ⟨_, e⟩
  | rng lo hi => obtain ⟨_, _, _, e⟩ := x; exact ⟨_, e⟩
  | frz ob u => obtain ⟨e, _⟩ := x; exact ⟨_, e⟩
  | tbl ps => exact ⟨_, show h.get? a = some _ from x⟩
  | met f y => exact ⟨_, show h.get? a = some _ from x⟩
  | ext φ => obtain ⟨_, ⟨_, e⟩, _⟩ := x; exact ⟨_, e⟩
theorem HOk.gone {P : Program} {w : World} {H : Hp} {h : Heap} {a : Addr} (x : HOk P w H h) (n : h.get? a = none) : H a = none := by
  cases q : H a with
  | none => rfl
  | some u => obtain ⟨ob, e⟩ := (x a u q).is; rw [n] at e; cases e
theorem HOk.lk {P : Program} {w : World} {fr : List Addr} {ex : Addr → Prop} {H : Hp} {h h' : Heap} (x : HOk P w H h) (l : Lk fr ex h h') (hf : ∀ b ∈ fr, H b = none) (he : ∀ b, ex b → H b = none) : HOk P w H h' := fun a o q =>
  (x a o q).stay (fun b u hb r => by
    have tr : H b ≠ none := by
      rcases hb with rfl | hb
      · rw [q]; simp
      · rw [hb]; simp
    exact l.keep b u r (fun z => tr (hf b z)) fun z => tr (he b z)) (fun _ q => q) fun _ _ q => q
structure Fly (N : Addr → Prop) (H : Hp) (fl : Value) (e : Addr) (cls : Value) (h : Heap) : Prop where
  at_ : ∃ T, FlyT e cls T fl h ∧ N T ∧ H T = none
  old : N e
  free : H e = none
def CXx (P : Program) (w : World) : CXT := fun outer H s E ev s' => ∃ e C H', ev = .ref e ∧ s'.os = s.os ∧ AllBare s'.gens ∧ Un (frs outer) [] H H' s.heap s'.heap ∧ HOk P w H' s'.heap ∧ Fly (fun b => s.heap.get? b = none) H' .none e (.ref C) s'.heap ∧ E (.ref C) none H'
structure TKs (H H' : Hp) : Prop where
  tup : ∀ b xs, H b = some (.tup xs) → H' b = some (.tup xs)
  frz : ∀ b o u, H b = some (.frz o u) → H' b = some (.frz o u)
def since (H : Hp) (E : XK) : XK := fun c d H' => TKs H H' → E c d H'
structure Outs (X : Cx) (E : XK) : Prop where
  xe : ∀ ev s', wpAny (model X.prog X.w) X.A (leaving X.env ev) (fun _ s'' => CXx X.prog X.w X.outer X.H₀ X.s₀ E ev s'') (fun e' s'' => CXx X.prog X.w X.outer X.H₀ X.s₀ E e' s'') s' → X.xe ev s'
  stk : X.stack = X.env :: X.outer
  frm : X.env.frame = some X.env.locals
  ex : X.ex = []
theorem Outs.of {P : Program} {w : World} {K : PySem.W.Frag} {mg : Str → Option Value} {base : Heap} {N : List Str} {qual : Str} {scope : Scope} {f : Addr} {cd : Value} {A : Around} {outer : List Env} {s : Shared} {H : Hp} {E : XK} : Outs (cxOf (CXx P w) P w K mg base N qual scope f cd A outer s H E) E := ⟨fun _ _ h => h, rfl, rfl, rfl⟩
section
variable {X : Cx} {E : XK} {pins : List (Addr × Obj)} {σ : St} {H : Hp} {s : Shared}
theorem Outs.frames (O : Outs X E) (I : Inv X pins σ H s) : X.A.frames = some (X.env :: X.outer) := by rw [← O.stk]; exact I.ok.frames
theorem Outs.sub (O : Outs X E) (I : Inv X pins σ H s) : ∀ b ∈ frs (X.env :: X.outer), b ∈ X.fs ∨ X.s₀.heap.get? b = none := fun b hb => by
  rw [← O.stk] at hb
  rcases List.mem_cons.mp (I.stkSub b hb) with z | z
  · rw [z]; exact .inr (Heap.get?_none_of_le I.ok.above)
  · exact .inl z
theorem Outs.funs (O : Outs X E) (I : Inv X pins σ H s) : s.heap.FunFrames X.base (X.env :: X.outer) := by rw [← O.stk]; exact I.stack
theorem Outs.free (O : Outs X E) (I : Inv X pins σ H s) : ∀ b ∈ frs (X.env :: X.outer), H b = none := by rw [← O.stk]; exact I.stkFree
theorem Outs.base (O : Outs X E) (I : Inv X pins σ H s) : Un X.fs [] X.H₀ H X.s₀.heap s.heap := by have := I.base; rw [O.ex] at this; exact this
theorem Outs.fin (O : Outs X E) (I : Inv X pins σ H s) {e C T : Addr} {ex : Addr → Prop} {h' : Heap} (k : Lk (frs (X.env :: X.outer)) ex s.heap h') (f : FlyT e (.ref C) T .none h') (hx : ∀ b, ex b → X.s₀.heap.get? b = none ∧ H b = none) (he : ex e) (hT : ex T ∨ s.heap.objs.size ≤ T) (q : since X.H₀ E (.ref C) none H) :
    CXx X.prog X.w X.outer X.H₀ X.s₀ E (.ref e) { s with heap := h' } :=
  ⟨e, C, H, rfl, I.os, I.bare, (O.base I).lk k (O.sub I) (fun b hb => .inr (hx b hb).1), I.hok.lk k (O.free I) fun b hb => (hx b hb).2, ⟨⟨T, f, by
    rcases hT with z | z
    · exact hx T z
    · exact ⟨Heap.get?_none_of_le (Nat.le_trans I.sz z), I.hok.fresh z⟩⟩, (hx e he).1, (hx e he).2⟩, q ⟨I.base.tups, I.base.frzs⟩⟩
theorem xe_first (O : Outs X E) (I : Inv X pins σ H s) {h' : Heap} {e C : Addr} {vs : List Value} (hm : Heap.MadeExcOf s.heap h' e (.ref C) vs) (q : since X.H₀ E (.ref C) none H) : X.xe (.ref e) { s with heap := h' } := by
  obtain ⟨t, he, nt, _⟩ := hm.there
  have I2 : Inv X pins σ H { s with heap := h' } := I.kept (t' := s.toks) hm.keeps
  refine O.xe _ _ (lv_first (base := X.base) (O.frames I) (O.funs I2) O.frm he rfl rfl (by simp) fun h2 T l f z => ?_)
  exact O.fin I2 (ex := (· = e)) l f (fun b hb => by rw [hb]; exact ⟨(O.base I).gone0 hm.new, I.hok.gone hm.new⟩) rfl (.inr z) q
theorem passes_x (O : Outs X E) : Passes (CXx X.prog X.w) X (since X.H₀ E) := by
  intro pins σ H s ev s' I ⟨e, C, H', e1, os, bare, un, hok, ⟨⟨T, f, q9, q10⟩, old, fe⟩, q⟩
  subst e1
  have I2 : Inv X pins σ H' s' := I.call' (ch := []) os un hok bare fun _ z => nomatch z
  refine O.xe _ _ (lv_any (base := X.base) (O.frames I) (O.funs I2) O.frm f fun h2 T' l f' z => ?_)
  refine O.fin I2 (ex := fun b => b = e ∨ b = T) l f' (fun b hb => ?_) (.inl rfl) (by
    rcases z with z | z
    · exact .inl (.inr z)
    · exact .inr z) q
  rcases hb with rfl | rfl
  · exact ⟨(O.base I).gone0 old, fe⟩
  · exact ⟨(O.base I).gone0 q9, q10⟩
end
end L2
namespace L2
open PySem PySem.Spec PyProof.Rows
def ExC (X : Cx) (E : XK) (C : Addr) (s : Shared) (H : Hp) (fp : List Addr) (ev : Value) (s' : Shared) : Prop :=
  ∃ e Cl H', ev = .ref e ∧ s'.os = s.os ∧ AllBare s'.gens ∧ Un (frs X.stack) fp H H' s.heap s'.heap ∧ HOk X.prog X.w H' s'.heap ∧ Fly (fun b => b ∈ fp ∨ s.heap.get? b = none) H' .none e (.ref Cl) s'.heap ∧ (∃ m, s'.heap.Ns C m) ∧ H' C = none ∧ C ≠ e ∧ E (.ref Cl) none H'
def CompOut (X : Cx) (EW : XK) (sc : Scope) : Prop := ∀ (pins : List (Addr × Obj)) (σ : St) (H : Hp) (s : Shared) (C : Addr) (fp : List Addr) (use : Option (Value → Sem Unit)) (Fin : Value → Shared → Prop) (acc : Value), Inv X pins σ H s → (∀ b ∈ fp, FpOk X pins H b) → C = s.heap.objs.size →
  ∀ ev s', ExC X EW C s H fp ev s' → notedBy (model X.prog X.w) X.A (compEnvC sc (closeL X.env sc.names []) C X.env) (fun e s'' => compPost (model X.prog X.w) X.A X.xe use Fin acc C (.error e) s'') ev s'
theorem compOut0 {X : Cx} {sc : Scope} : CompOut X (fun _ _ _ => False) sc := by
  rintro pins σ H s C fp use Fin acc _ _ _ ev s' ⟨_, _, _, _, _, _, _, _, _, _, _, _, q⟩
  exact q.elim
end L2
namespace L2
open PySem PySem.Spec PyProof.Rows
def cxC (X : Cx) (EW : XK) (N' : List Str) (sc : Scope) (C : Addr) (s : Shared) (H : Hp) (fp : List Addr) : Cx :=
  { X with N := N', s₀ := s, H₀ := H, env := compEnvC sc (closeL X.env sc.names []) C X.env, outer := X.stack, stack := X.stack, ex := fp, fn := fun _ => false, pn := [], xe := ExC X EW C s H fp }
def PIfs (X : Cx) (ifs : List Expr) (t : TT) : Prop :=
  ∀ (pins : List (Addr × Obj)) (s : Shared) (σ : St) (H : Hp) (Q : Bool → Hp → Prop), Inv X pins σ H s → t σ H Q →
    wpAny (model X.prog X.w) X.A (forIn ifs true fun c r => if r = true then do let ok ← isTrue c X.env (eval c X.env); pure (ForInStep.yield ok) else pure (ForInStep.yield r)) (TP X pins σ Q) X.xe s
def tTT : TT := fun _ H Q => Q true H
theorem pifs_nil {X : Cx} : PIfs X [] tTT := fun _ _ _ H _ I h => wpAny_tests_nil ⟨H, I, h⟩
theorem pifs_one {X : Cx} {c : Expr} {t : TT} (h : PT X c t) : PIfs X [c] t := fun pins s σ H Q I q => wpAny_tests_one (h pins s σ H Q I q)
def LcB (J : It) (cap : List (Option Nat)) (g : TG) (tt : TT) (te : TE) (σ : St) (Q : VK) (D : Addr) (H1 : Hp) : Prop :=
  ∃ W : Nat → Nat → List V → Hp → Prop, (∃ m, W 0 m [] (upd H1 D (.lst []))) ∧ ∀ i m ys H2, W i m ys H2 →
    (J.stop i H2 ∧ Q (.ref D) H2) ∨
    (J.go i H2 ∧ ∃ N : List V → Hp → Prop, (∀ ys' H', N ys' H' → ∃ m', m' < m ∧ W (i + 1) m' ys' H') ∧ ∀ x H', J.yld i H2 x H' →
      g x (capSt cap σ) H' fun σ2 H3 => keepsSt (capSt cap σ) σ2 ∧ tt σ2 H3 fun b H4 => if b = true then te σ2 H4 fun y H5 => ∃ zs, H5 D = some (.lst zs) ∧ zs.length < sizeLine ∧ N (zs ++ [y]) (upd H5 D (.lst (zs ++ [y]))) else N ys H4)
def tLC (wi : TI) (cap : List (Option Nat)) (g : TG) (tt : TT) (te : TE) : TE := fun σ H Q => wi σ H fun J H1 => ∀ D, H1 D = none → LcB J cap g tt te σ Q D H1
structure CFree (X : Cx) (pins : List (Addr × Obj)) (H : Hp) (C : Addr) : Prop where
  free : H C = none
  loc : C ≠ X.env.locals
  old : X.s₀.heap.objs.size ≤ C
  cell : ∀ x c, X.env.cells.lookup x = some c → c ≠ C
  pin : ∀ p ∈ X.pn ++ pins, p.1 ≠ C
section
variable {X : Cx} {pins : List (Addr × Obj)} {σ : St} {H : Hp} {s : Shared} {N' : List Str} {sc : Scope} {cap : List (Option Nat)} {C : Addr} {fp : List Addr} {EW : XK}
theorem lc_free (I : Inv X pins σ H s) (ck : CapOk X.N X.env.scope sc N' cap) : ∀ x ∈ sc.names, x.2 = .free → ∃ c, X.env.cells.lookup x.1 = some c := fun x hx hf =>
  I.ok.has x.1 (ck.fre x hx hf)
theorem lc_look {x : Str} (I : Inv X pins σ H s) (ck : CapOk X.N X.env.scope sc N' cap) {c : Addr} (h : (closeL X.env sc.names []).lookup x = some c) : X.env.cells.lookup x = some c :=
  closeL_lookup sc.names [] (lc_free I ck) (fun y c h => by simp at h) c h
theorem lc_kind (env : Env) (x : Str) : (compEnvC sc (closeL X.env sc.names []) C env).kindOf x = (sc.names.lookup x).map fun k => if (k == NameKind.free && env.scope.kind == .function && env.kindOf x == some .cell) = true then NameKind.cell else k :=
  relabel_lookup sc.names
theorem lookup_mem_snd {l : List (Str × NameKind)} {x : Str} {k : NameKind} (h : l.lookup x = some k) : (x, k) ∈ l := PySem.mem_of_lookup h
theorem lc_ok (I : Inv X pins σ H s) (ck : CapOk X.N X.env.scope sc N' cap) (hf : ∀ b ∈ fp, FpOk X pins H b) (hlt : ∀ b ∈ fp, b < s.heap.objs.size) (hC : C = s.heap.objs.size) : (cxC X EW N' sc C s H fp).Ok := by
  have cl : ∀ {x : Str} {c : Addr}, (closeL X.env sc.names []).lookup x = some c → X.env.cells.lookup x = some c := fun h => lc_look I ck h
  have cne : ∀ {x : Str} {c : Addr}, X.env.cells.lookup x = some c → c < s.heap.objs.size := fun e => by
    obtain ⟨v, q⟩ := I.cell _ _ e
    exact q.lt
  refine ⟨I.ok.mod, ck.kind, I.ok.glob, I.ok.blt, by rw [hC]; exact Nat.le_refl _, fun x y c h1 h2 => I.ok.inj x y c (cl h1) (cl h2), fun x hx => ?_, fun x c h _ => (by cases h), I.ok.hd, I.ok.frames, .inl rfl, fun b hb => ⟨?_, fun x c h => ?_⟩, I.bs, Nat.le_trans I.ok.bsz I.sz, fun b o e hb => ?_, fun b hb hz => ?_, I.stack, I.stkFree⟩
  · have hx' : (sc.names.lookup x).map (fun k => if (k == NameKind.free && X.env.scope.kind == .function && X.env.kindOf x == some .cell) = true then NameKind.cell else k) = some .cell ∨
        (sc.names.lookup x).map (fun k => if (k == NameKind.free && X.env.scope.kind == .function && X.env.kindOf x == some .cell) = true then NameKind.cell else k) = some .free := by
      rw [← lc_kind (X := X) (C := C) X.env x]
      exact hx
    cases e : sc.names.lookup x with
    | none => rw [e] at hx'; rcases hx' with z | z <;> cases z
    | some k =>
      have hm := lookup_mem_snd e
      have hk : k = .free := by
        rw [e] at hx'
        by_cases hk : k = .free
        · exact hk
        · have hb : (k == NameKind.free) = false := by simpa using hk
          simp only [Option.map_some, hb, Bool.false_and, Bool.false_eq_true, if_false, Option.some.injEq] at hx'
          rcases hx' with z | z
          · exact absurd z (ck.nocell _ hm)
          · exact absurd z hk
      subst hk
      exact closeL_has sc.names [] hm
  · show b ≠ C
    rw [hC]
    exact Nat.ne_of_lt (hlt b hb)
  · exact (hf b hb).2.2.2.2.1 x c (cl h)
  · obtain ⟨_, _, _, z, _⟩ := hf b hb
    rcases z with z | z
    · exact I.ok.noex b o e z
    · exact absurd (Nat.lt_of_lt_of_le (Heap.lt_size e) (Nat.le_trans I.ok.bsz z)) (Nat.lt_irrefl _)
  · rcases List.mem_cons.mp (I.stkSub b hz) with z | z
    · exact (hf b hb).2.1 z
    · exact (hf b hb).2.2.1 z
theorem lc_inv {h₁ : Heap} {m : Str → Option Value} {t' : Nat} (I : Inv X pins σ H s) (ck : CapOk X.N X.env.scope sc N' cap) (hf : ∀ b ∈ fp, FpOk X pins H b) (hlt : ∀ b ∈ fp, b < s.heap.objs.size) (hC : C = s.heap.objs.size)
    (hn : h₁.Ns C m) (hk : ∀ b o, s.heap.get? b = some o → h₁.get? b = some o) : Inv (cxC X EW N' sc C s H fp) [] (capSt cap σ) H { s with heap := h₁, toks := t' } := by
  refine ⟨lc_ok I ck hf hlt hC, rfl, I.bare, Un.kept hk, ⟨m, hn, fun i x v e1 e2 e3 => ?_⟩, fun x c h => ?_, ?_, fun x c h => I.freeC x c (lc_look I ck h), fun p hp => absurd (show p ∈ ([] : List (Addr × Obj)) from hp) (by simp), I.hok.kept hk, ?_⟩
  · have e1' : N'[i]? = some x := e1
    unfold capSt at e2
    rw [List.getElem?_map] at e2
    cases ec : cap[i]? with
    | none => rw [ec] at e2; cases e2
    | some o =>
      rw [ec] at e2
      cases o with
      | none => simp at e2
      | some j =>
        have e2' : (σ[j]?).join = some v := by simpa using e2
        have e2'' : σ[j]? = some (some v) := by
          cases q : σ[j]? with
          | none => rw [q] at e2'; cases e2'
          | some w => rw [q] at e2'; rw [show w = some v from e2']
        obtain ⟨a1, a2⟩ := ck.cap i x j e1' ec
        have hfr := ck.fre (x, .free) (lookup_mem_snd a2) rfl
        obtain ⟨m0, _, hl⟩ := I.loc
        obtain ⟨u, ru, lk⟩ := hl j x v a1 e2'' (.inr hfr)
        refine ⟨u, ru, .inr ⟨?_, ?_⟩⟩
        · show (compEnvC sc (closeL X.env sc.names []) C X.env).kindOf x = some .cell ∨ (compEnvC sc (closeL X.env sc.names []) C X.env).kindOf x = some .free
          rw [lc_kind, a2]
          simp only [Option.map_some, beq_self_eq_true, Bool.true_and]
          by_cases hc : (X.env.scope.kind == ScopeKind.function && X.env.kindOf x == some NameKind.cell) = true
          · rw [if_pos hc]; exact .inl rfl
          · rw [if_neg hc]; exact .inr rfl
        · obtain ⟨c', hc'⟩ := closeL_has (env := X.env) sc.names [] (lookup_mem_snd a2)
          have hX := lc_look I ck hc'
          rcases lk with ⟨k, _⟩ | ⟨_, c, ec', z⟩
          · have k' : X.env.scope.names.lookup x = some .local := k
            have hfr' : X.env.scope.names.lookup x = some .cell ∨ X.env.scope.names.lookup x = some .free := hfr
            rw [k'] at hfr'
            rcases hfr' with q | q <;> cases q
          · rw [hX] at ec'
            cases ec'
            obtain ⟨oc, ho, hd⟩ := z
            exact ⟨c', hc', oc, hk _ _ ho, hd⟩
  · obtain ⟨v, oc, ho, hd⟩ := I.cell x c (lc_look I ck h)
    exact ⟨v, oc, hk _ _ ho, hd⟩
  · show H C = none
    rw [hC]
    exact I.hok.fresh (Nat.le_refl _)
  · show (capSt cap σ).length = N'.length
    unfold capSt
    rw [List.length_map]
    exact ck.len
theorem lc_back {s' : Shared} {σ' : St} {H' : Hp} {pins' : List (Addr × Obj)} (I : Inv X pins σ H s) (hf : ∀ b ∈ fp, FpOk X pins H b) (J : Inv (cxC X EW N' sc C s H fp) pins' σ' H' s') : Inv X pins σ H' s' :=
  I.call' (ch := fp) J.os J.base J.hok J.bare fun b hb => ⟨(hf b hb).2.2.2.1, (hf b hb).2.1, (hf b hb).2.2.2.2.1, (hf b hb).2.2.2.2.2⟩
theorem lc_cfree {s' : Shared} {σ' : St} {H' : Hp} {pins' : List (Addr × Obj)} (I : Inv X pins σ H s) (hC : C = s.heap.objs.size) (J : Inv (cxC X EW N' sc C s H fp) pins' σ' H' s') : CFree X pins H' C := by
  refine ⟨J.free, by rw [hC]; exact Nat.ne_of_gt I.lt, by rw [hC]; exact I.sz, fun x c e z => ?_, fun p hp z => ?_⟩
  · obtain ⟨v, q⟩ := I.cell x c e
    exact absurd q.lt (by rw [z, hC]; exact Nat.lt_irrefl _)
  · exact absurd (Heap.lt_size (I.pin p hp).1) (by rw [z, hC]; exact Nat.lt_irrefl _)
theorem CFree.after {h' : Heap} {t' : Nat} (F : CFree X pins H C) (I : Inv X pins σ H s) (k : ∀ b o, b ≠ C → s.heap.get? b = some o → h'.get? b = some o) : Inv X pins σ H { s with heap := h', toks := t' } :=
  I.turned k F.free F.loc (.inr F.old) F.cell F.pin
end
section
variable {X : Cx} {elt tg iter : Expr} {ifs : List Expr} {sc : Scope} {pos : Pos} {wi : TI} {g : TG} {tt : TT} {te : TE} {N' : List Str} {cap : List (Option Nat)} {EW : XK}
theorem lc_core (hc : X.calm = true) (hE : CompOut X EW sc) (ck : CapOk X.N X.env.scope sc N' cap) (hi : PI X tg iter wi)
    (hg : ∀ C s H fp, PG (cxC X EW N' sc C s H fp) tg g) (ht : ∀ C s H fp, PIfs (cxC X EW N' sc C s H fp) ifs tt) (he : ∀ C s H fp, PE (cxC X EW N' sc C s H fp) elt te)
    (hs : ∀ x, foldedSetIterable iter X.env x = pure x) {use : Option (Value → Sem Unit)} {Fin : Value → Shared → Prop} {pos' : Pos}
    {pins : List (Addr × Obj)} {s : Shared} {σ : St} {H : Hp} {Q : VK} (I : Inv X pins σ H s) (h : tLC wi cap g tt te σ H Q)
    (fin : ∀ D s' C m H', Inv X pins σ H' s' → Q (.ref D) H' → s'.heap.Ns C m → CFree X pins H' C → compPost (model X.prog X.w) X.A X.xe use Fin (.ref D) C (.ok .next) s') :
    wpAny (model X.prog X.w) X.A (comprehension (.ListComp elt [⟨tg, iter, ifs, 0⟩] sc pos) sc X.env pos' (newList []) false (eval iter X.env) use) Fin X.xe s := by
  refine wpAny_comprehension_free (use := use) rfl hs (closureFor_eq (lc_free I ck)) ck.kind ck.nms ?_
  refine thn (hi pins s σ H _ I h) fun v s1 h1 => thn h1 fun itv s2 h2 => ?_
  obtain ⟨it, fp, tn, J, H2, e, I2, T, st2, f2, h2⟩ := h2
  subst e
  have hD : H2 s2.heap.objs.size = none := I2.hok.fresh (Nat.le_refl _)
  obtain ⟨W, ⟨m0, w0⟩, turn⟩ := h2 s2.heap.objs.size hD
  refine wpAny_newObj_type ?_
  have I3 : Inv X pins σ (upd H2 s2.heap.objs.size (.lst [])) { s2 with heap := s2.heap.push { cls := .type "list", data := .seq ([] : List Value).toArray } } := I2.lnew (its := []) (ys := []) (t' := s2.toks) .nil (Nat.zero_le _)
  generalize hs3 : ({ s2 with heap := s2.heap.push { cls := .type "list", data := .seq ([] : List Value).toArray } } : Shared) = s3 at I3
  generalize hH3 : upd H2 s2.heap.objs.size (.lst []) = H3 at I3 w0
  have hlt2 : ∀ b ∈ fp, b < s2.heap.objs.size := fun b hb => by
    obtain ⟨o, e, _⟩ := T.obj _ _ st2 b hb
    exact Heap.lt_size e
  have sz3 : s3.heap.objs.size = s2.heap.objs.size + 1 := by rw [← hs3]; exact Heap.size_push _ _
  have hlt3 : ∀ b ∈ fp, b < s3.heap.objs.size := fun b hb => by rw [sz3]; exact Nat.lt_succ_of_lt (hlt2 b hb)
  have f3 : ∀ b ∈ fp, FpOk X pins H3 b := fun b hb => by
    refine ⟨?_, (f2 b hb).2⟩
    rw [← hH3, upd_ne (Nat.ne_of_lt (hlt2 b hb))]
    exact (f2 b hb).1
  have st3 : tn 0 s3.heap := T.keep _ _ _ st2 fun b _ o e => by rw [← hs3]; exact Heap.get?_push_of_some _ e
  refine wpAny_newFunctionEnv ck.nocell (by intro y hy; simp at hy) (fun h₁ hns₁ hsb₁ => ?_) ck.kind
  have hk : ∀ b o, s3.heap.get? b = some o → h₁.get? b = some o := fun b o e => hsb₁.extBut b o (Nat.ne_of_lt (Heap.lt_size e)) (Heap.get?_push_of_some _ e)
  have I4 := lc_inv (EW := EW) (C := s3.heap.objs.size) (t' := s3.toks + ([] : List (Str × Value)).length) I3 ck f3 hlt3 rfl hns₁ hk
  generalize hs4 : ({ s3 with heap := h₁, toks := s3.toks + ([] : List (Str × Value)).length } : Shared) = s4 at I4 ⊢
  have st4 : tn 0 s4.heap := T.keep _ _ _ st3 fun b _ o e => by rw [← hs4]; exact hk b o e
  have stat : ∀ {H' : Hp} {pins' : List (Addr × Obj)}, (∀ p ∈ pins', p.1 ∉ fp) → (∀ b ∈ fp, H' b = none) → ∀ b ∈ fp, FpOk (cxC X EW N' sc s3.heap.objs.size s3 H3 fp) pins' H' b := fun {H' pins'} hp hn b hb =>
    ⟨hn b hb, Nat.ne_of_lt (hlt3 b hb), fun z => by
      rcases List.mem_cons.mp (I3.stkSub b z) with z | z
      · exact (f3 b hb).2.1 z
      · exact (f3 b hb).2.2.1 z, .inl hb, fun x c e => (f3 b hb).2.2.2.2.1 x c (lc_look I3 ck e), fun p hp' z => hp p hp' (by rw [z]; exact hb)⟩
  have hx := hE pins σ H3 s3 s3.heap.objs.size fp use Fin (.ref s2.heap.objs.size) I3 f3 rfl
  have loop : codeAny (model X.prog X.w) X.A (.compLoop (.ListComp elt [⟨tg, iter, ifs, 0⟩] sc pos) 0 (.ref it) (.ref s2.heap.objs.size) (compEnvC sc (closeL X.env sc.names []) s3.heap.objs.size X.env))
      (compPost (model X.prog X.w) X.A X.xe use Fin (.ref s2.heap.objs.size) s3.heap.objs.size) s4 := by
    refine codeAny_compLoop_go (fun n s' => ∃ i ys σ' H', Inv (cxC X EW N' sc s3.heap.objs.size s3 H3 fp) [] σ' H' s' ∧ keepsSt (capSt cap σ) σ' ∧ tn i s'.heap ∧ (∀ b ∈ fp, H' b = none) ∧ W i n ys H') ?_ m0
      ⟨0, [], capSt cap σ, H3, I4, keepsSt_refl _, st4, fun b hb => (f3 b hb).1, w0⟩
    rintro n s5 ⟨i, ys, σ5, H5, I5, k5, st5, fr5, w5⟩
    have kk := keepsSt_ok k5
    have I5 := I5.weak (σ' := capSt cap σ) kk.1 kk.2
    rcases turn i n ys H5 w5 with ⟨stop, q⟩ | ⟨go, N, hN, step⟩
    · refine thn (T.done (cxC X EW N' sc s3.heap.objs.size s3 H3 fp) rfl rfl rfl hc i [] s5 _ H5 _ I5 (stat (fun p hp => by cases hp) fr5) st5 stop) fun r s6 ⟨hr, I6⟩ => ?_
      subst hr
      obtain ⟨m6, n6, _⟩ := I6.loc
      exact fin _ s6 _ m6 H5 (lc_back I3 f3 I6) q n6 (lc_cfree I3 rfl I6)
    · refine thn (T.item (cxC X EW N' sc s3.heap.objs.size s3 H3 fp) rfl rfl rfl hc i [] s5 _ H5 _ I5 (stat (fun p hp => by cases hp) fr5) st5 go) fun r s6 ⟨u, hr, h6⟩ => ?_
      subst hr
      refine thn h6 fun _ s7 ⟨x, H7, I7, r7, y7, st7, fr7⟩ => ?_
      have I7' := I7.pinned (stat (fun p hp => by cases hp) fr7) (T.obj _ _ st7)
      have again : ∀ {σ9 : St} {H9 : Hp} {s9 : Shared} {ys' : List V}, Inv (cxC X EW N' sc s3.heap.objs.size s3 H3 fp) ([] ++ pinsAt fp s7.heap) σ9 H9 s9 → keepsSt (capSt cap σ) σ9 → N ys' H9 →
          ∃ m, m < n ∧ ∃ i ys σ' H', Inv (cxC X EW N' sc s3.heap.objs.size s3 H3 fp) [] σ' H' s9 ∧ keepsSt (capSt cap σ) σ' ∧ tn i s9.heap ∧ (∀ b ∈ fp, H' b = none) ∧ W i m ys H' := fun {σ9 H9 s9 ys'} I9 k9 n9 => by
        obtain ⟨m', hm, w9⟩ := hN ys' H9 n9
        refine ⟨m', hm, i + 1, ys', σ9, H9, I9.unpinned, k9, T.keep _ _ _ st7 fun b hb o e => (I9.pin (b, o) (List.mem_append_right _ (List.mem_append_right _ (mem_pinsAt hb e)))).1, fun b hb => ?_, w9⟩
        obtain ⟨o, e, d⟩ := T.obj _ _ st7 b hb
        exact (I9.pin (b, o) (List.mem_append_right _ (List.mem_append_right _ (mem_pinsAt hb e)))).2.1
      refine wpAny_mono (hg _ _ _ _ _ s7 _ H7 x u _ I7' r7 (step x H7 y7)) (fun _ s8 ⟨σ8, H8, I8, k8, q8⟩ => ?_) hx
      refine wpAny_mono (ht _ _ _ _ _ s8 σ8 H8 _ I8 q8) (fun b s9 ⟨H9, I9, q9⟩ => ?_) hx
      cases b with
      | false =>
        rw [if_neg Bool.false_ne_true] at q9 ⊢
        exact again I9 k8 q9
      | true =>
        rw [if_pos rfl] at q9 ⊢
        refine wpAny_mono (he _ _ _ _ _ s9 σ8 H9 _ I9 q9) (fun y s10 ⟨vy, H10, I10, r10, zs, hacc, hsz, q10⟩ => ?_) hx
        refine wpAny_mono (mt_append (X := cxC X EW N' sc s3.heap.objs.size s3 H3 fp) _ s10 σ8 H10 (.ref s2.heap.objs.size) [vy] (.ref s2.heap.objs.size) [y] (fun _ H' => N (zs ++ [vy]) H') I10 rfl (.cons r10 .nil) ⟨_, zs, vy, rfl, rfl, hacc, hsz, q10⟩) (fun _ s11 ⟨_, H11, I11, _, q11⟩ => ?_) hx
        exact again I11 k8 q11
  exact codeAny_compStart_list loop (T.self _ 0 _ _ _ st4 loop)
theorem pe_lc {N₀ : List Str} {so : Scope} (hc : X.calm = true) (hE : CompOut X EW sc) (hNN : X.N = N₀) (hso : X.env.scope = so) (ck : capB N₀ so sc N' cap = true) (hi : PI X tg iter wi)
    (hg : ∀ C s H fp, PG (cxC X EW N' sc C s H fp) tg g) (ht : ∀ C s H fp, PIfs (cxC X EW N' sc C s H fp) ifs tt) (he : ∀ C s H fp, PE (cxC X EW N' sc C s H fp) elt te)
    (hs : ∀ x, foldedSetIterable iter X.env x = pure x := by intro _; rfl) : PE X (.ListComp elt [⟨tg, iter, ifs, 0⟩] sc pos) (tLC wi cap g tt te) := by
  intro pins s σ H Q I h
  rw [eval_ListComp]
  subst hNN hso
  refine lc_core hc hE (capB_ok ck) hi hg ht he hs (use := none) I h fun D s' C m H' I' q hn F => ?_
  exact ⟨m, hn, fun h' hs' => ⟨.ref D, H', F.after (t' := s'.toks) I' (fun b o hb e => hs'.extBut b o hb e), rfl, q⟩⟩
theorem ps_setLC {N₀ : List Str} {so : Scope} {i : Nat} {x : Str} {pos' spos : Pos} (hN : X.N.Nodup) (hx : X.N[i]? = some x) (hl : X.env.scope.names.lookup x = some .local) (hc : X.calm = true) (hE : CompOut X EW sc) (hNN : X.N = N₀) (hso : X.env.scope = so) (ck : capB N₀ so sc N' cap = true) (hi : PI X tg iter wi)
    (hg : ∀ C s H fp, PG (cxC X EW N' sc C s H fp) tg g) (ht : ∀ C s H fp, PIfs (cxC X EW N' sc C s H fp) ifs tt) (he : ∀ C s H fp, PE (cxC X EW N' sc C s H fp) elt te)
    (hsw : swapsWith (.ListComp elt [⟨tg, iter, ifs, 0⟩] sc pos) (some (.Name x pos')) spos.line X.env = pure true := by rfl)
    (hs : ∀ x, foldedSetIterable iter X.env x = pure x := by intro _; rfl) : PS X (.Assign [.Name x pos'] (.ListComp elt [⟨tg, iter, ifs, 0⟩] sc pos) spos) (tAsg (tLC wi cap g tt te) (gName i)) := by
  subst hNN hso
  intro pins s σ H D I h
  rw [exec_Assign_Name_used _ _ _ _ hsw]
  refine wpAny_bind (wpAny_standAt (wpAny_bind ?_))
  show wpAny _ X.A (do let _ ← comprehension (.ListComp elt [⟨tg, iter, ifs, 0⟩] sc pos) sc X.env _ (newList []) false (eval iter X.env) (some (assign (.Name x pos') X.env))) _ _ s
  refine wpAny_bind (wpAny_mono (lc_core hc hE (capB_ok ck) hi hg ht he hs (use := some (assign (.Name x pos') X.env)) (Fin := fun _ s' => SP X pins D .next s') I h fun d s' C m H' I' q hn F => ?_) (fun _ s' hq => wpAny_pure (wpAny_pure hq)) fun _ _ e => e)
  show wpAny _ _ (assign (.Name x pos') X.env (.ref d)) _ _ s'
  refine wpAny_assign_Name (store_ok2 I' hN hx (.inl hl) (v := .ref d) rfl (fun s'' I'' hd => ?_) (.inr hl))
  obtain ⟨a, hsb, ha⟩ := hd
  have hCa : C ≠ a := by
    rcases ha with z | z
    · rw [z]; exact F.loc
    · exact Ne.symm (F.cell _ _ z)
  exact ⟨m, hn.sameBut hsb hCa, fun h' hs' => ⟨_, H', F.after (t' := s''.toks) I'' (fun b o hb e => hs'.extBut b o hb e), q⟩⟩
end
end L2
namespace L2
open PySem PySem.Spec PyProof.Rows
section
variable {X : Cx} {st : Stmt} {rest : List Stmt} {t u : TS} {e : Expr} {te : TE} {tt : TT}
end
end L2
namespace L2
open PySem PySem.Spec PyProof.Rows
mutual
def DV (H : Hp) : PyData → V → Prop
  | .none, x => x = .non
  | .bool b, x => x = .bl b
  | .int i, x => x = .int i
  | .str s, x => x = .str s
  | .list ds, x => ∃ a vs, x = .ref a ∧ H a = some (.lst vs) ∧ DVs H ds vs
  | .tuple ds, x => ∃ a vs, x = .ref a ∧ H a = some (.tup vs) ∧ DVs H ds vs
  | .dict _, _ => False
def DVs (H : Hp) : List PyData → List V → Prop
  | [], vs => vs = []
  | d :: ds, vs => ∃ v r, vs = v :: r ∧ DV H d v ∧ DVs H ds r
end
mutual
theorem DV.reads {P : Program} {w : World} {H : Hp} {h : Heap} (ok : HOk P w H h) : ∀ {d : PyData} {x : V} {u : Value}, DV H d x → RelV x u → ∃ as, Reads h u d as
  | .none, x, u, q, r => by
    unfold DV at q; subst q
    cases (show u = Value.none from r); exact ⟨_, .none⟩
  | .bool b, x, u, q, r => by
    unfold DV at q; subst q
    cases (show u = Value.bool b from r); exact ⟨_, .bool b⟩
  | .int i, x, u, q, r => by
    unfold DV at q; subst q
    obtain ⟨t, e⟩ := (show ∃ t, u = Value.int i t from r); subst e; exact ⟨_, .int i t⟩
  | .str s, x, u, q, r => by
    unfold DV at q; subst q
    obtain ⟨t, e⟩ := (show ∃ t, u = Value.str s t from r); subst e; exact ⟨_, .str s t⟩
  | .list ds, x, u, q, r => by
    unfold DV at q
    obtain ⟨a, vs, e, ha, q⟩ := q
    subst e
    cases (show u = Value.ref a from r)
    obtain ⟨_, its, n, rv, e⟩ := ok a _ ha
    obtain ⟨as, rd⟩ := DVs.reads ok q rv
    exact ⟨_, .list e rfl rfl (by simpa using rd)⟩
  | .tuple ds, x, u, q, r => by
    unfold DV at q
    obtain ⟨a, vs, e, ha, q⟩ := q
    subst e
    cases (show u = Value.ref a from r)
    obtain ⟨_, its, rv, o, e, c, n, d⟩ := ok a _ ha
    obtain ⟨as, rd⟩ := DVs.reads ok q rv
    exact ⟨_, .tuple e c d (by simpa using rd)⟩
  | .dict _, x, u, q, r => by unfold DV at q; exact q.elim
theorem DVs.reads {P : Program} {w : World} {H : Hp} {h : Heap} (ok : HOk P w H h) : ∀ {ds : List PyData} {vs : List V} {us : List Value}, DVs H ds vs → Vals vs us → ∃ as, ReadsAll h us ds as
  | [], vs, us, q, r => by
    unfold DVs at q; subst q
    cases r
    exact ⟨_, .nil⟩
  | d :: ds, vs, us, q, r => by
    unfold DVs at q
    obtain ⟨v, rr, e, q1, q2⟩ := q
    subst e
    cases r with
    | cons r1 r2 =>
      obtain ⟨as, h1⟩ := DV.reads ok q1 r1
      obtain ⟨bs, h2⟩ := DVs.reads ok q2 r2
      exact ⟨_, .cons h1 h2⟩
end
def rEqD : R2 := fun x y H Q => ∃ d e, DV H d x ∧ DV H e y ∧ SeqAt.shaped d = true ∧ SeqAt.shaped e = true ∧ Q (.bl (PyData.eqv d e)) H
def rNeD : R2 := fun x y H Q => ∃ d e, DV H d x ∧ DV H e y ∧ SeqAt.shaped d = true ∧ SeqAt.shaped e = true ∧ Q (.bl (!PyData.eqv d e)) H
section
variable {X : Cx}
theorem op_eqD (hu : X.A.units + 66 < cLine) : OpR X (compareOp .Eq) rEqD := by
  intro pins s σ H x y v u Q I rx ry h
  obtain ⟨d, e, h1, h2, h3, h4, q⟩ := h
  obtain ⟨as, r1⟩ := h1.reads I.hok rx
  obtain ⟨bs, r2⟩ := h2.reads I.hok ry
  exact eq_dataH r1 r2 h3 h4 (by omega) ⟨.bl _, H, I, rfl, q⟩
theorem op_neD (hu : X.A.units + 66 < cLine) : OpR X (compareOp .NotEq) rNeD := by
  intro pins s σ H x y v u Q I rx ry h
  obtain ⟨d, e, h1, h2, h3, h4, q⟩ := h
  obtain ⟨as, r1⟩ := h1.reads I.hok rx
  obtain ⟨bs, r2⟩ := h2.reads I.hok ry
  exact ne_dataH r1 r2 h3 h4 (by omega) ⟨.bl _, H, I, rfl, q⟩
def CDivL (_ j : Int) : Prop := 0 < j ∧ j < 2 ^ 64
theorem op_fdivL : OpR X (binaryOp .FloorDiv) (rI CDivL fun i j => .int (i / j)) := opI fun i j _ _ _ _ _ hc q => by
  have h1 : (0 : Int) < j := hc.1
  have h2 : j < 2 ^ 64 := hc.2
  refine floordiv_int (by omega) ?_ (.inl (PyProof.noPylong_of_log2 ?_))
  · rw [Int.fdiv_eq_ediv_of_nonneg i (by omega)]; exact q
  · have h3 : j.natAbs < 2 ^ 64 := by omega
    have h4 : j.natAbs.log2 < 64 := (Nat.log2_lt (by omega)).mpr h3
    omega
def rIsT (K : PySem.W.Frag) : List V → Hp → VK → Prop := fun xs H Q => ∃ x T t b, xs = [x, .ty T] ∧ TyOf K H x t ∧ PySem.W.kitOne K t (.type T) = some b ∧ Q (.bl b) H
theorem call_isT : CallR X (.builtin "isinstance") (rIsT X.K) := by
  intro pins s σ H xs us Q I r h
  obtain ⟨x, T, t, b, rfl, ty, e, q⟩ := h
  obtain ⟨u, w', rfl, r1, r2⟩ := vals2 r
  cases (show w' = Value.type T from r2)
  exact isinst_ok I r1 ty e fun tk => ⟨.bl b, H, I.tok tk, rfl, q⟩
end
end L2
namespace L2
open PySem PySem.Spec PyProof.Rows
abbrev veM : List Value := [.type "ValueError", .type "Exception", .type "BaseException", .type "object"]
theorem exc_in {K : PySem.W.Frag} {C : Addr} (q : PySem.W.excIn K C veM "ValueError.__new__" = true) : ∃ bm N nm qn bs hd sn sub ab col dd k0 k1 k2 k3 k5, K.lookup C = some (excClassObj nm qn C N bs bm hd sn sub ab col dd k0 k1 k2 k3 k5 "ValueError.__new__") ∧
    PySem.W.nsOkIn K N = true ∧ PySem.W.nsIn K N "__init__" = some none ∧ PySem.W.tailIn K veM bm = true := by
  unfold PySem.W.excIn at q
  split at q
  · rename_i dd cd sl ho
    split at q
    · rename_i C2 bm k0 k1 k2 k3 nw k5 hm hs
      simp only [Bool.and_eq_true, Bool.not_eq_true', beq_iff_eq] at q
      obtain ⟨⟨⟨⟨⟨z1, z2⟩, z3⟩, z4⟩, z5⟩, z6⟩ := q
      subst z1 z2
      obtain ⟨nm, bs, mr, ns, qn, hd, sn, sub, ab, col, dl⟩ := cd
      dsimp only at hm z3 z5 z6
      subst hm z3
      have es : sl = #[k0, k1, k2, k3, some (.builtin "ValueError.__new__"), k5] := by
        cases sl with
        | mk l => dsimp only at hs; rw [hs]
      subst es
      exact ⟨bm, ns, nm, qn, bs, hd, sn, sub, ab, col, dd, k0, k1, k2, k3, k5, ho, z5, z6, z4⟩
    · cases q
  · cases q
section
variable {X : Cx} {E : XK}
theorem ps_raise {x : Str} {np cpos pos : Pos} {e0 : Expr} {te : TE} {C : Addr} (O : Outs X E) (hc : X.calm = true) (hg : Gl X x) (hm : X.mg x = some (.ref C)) (hq : PySem.W.excIn X.K C veM "ValueError.__new__" = true) (he : PE X e0 te)
    (hs : starEach [e0] X.env = (false, eval e0 X.env) :: starEach [] X.env := by rfl) (hp : (backTo cpos (starEach [] X.env)).any (·.1) = false := by rfl) (hd : (x == ("__debug__" : Str)) = false := by decide) :
    PS X (.Raise (some (.Call (.Name x np) [e0] [] cpos)) none pos) (fun _ σ H => te σ H fun _ H1 => since X.H₀ E (.ref C) none H1) := by
  intro pins s σ H D I h
  obtain ⟨bm, N, nm, qn, bs, hd', sn, sub, ab, col, dd, k0, k1, k2, k3, k5, hC, z5, z6, z4⟩ := exc_in hq
  have B := I.mod.kin
  have hN : X.base.Ns N (X.base.nsMap N) := .of_isNs (PySem.W.isNs_of_in B z5)
  have hi := PySem.W.nsMap_none_of_in B z5 z6
  have T : OwnTail X.base veM bm := PySem.W.tail_of_in B z4
  refine wpAny_Raise_call_subT (C := C) (nm := nm) (q := qn) (N := N) (bs := bs) (bm := bm) (hdct := hd') (sn := sn) (sub := sub) (ab := ab) (col := col) (dd := dd) (k0 := k0) (k1 := k1) (k2 := k2) (k3 := k3) (k5 := k5) PySem.F.excBase_ValueError (mN := X.base.nsMap N) (T.hasType (by decide)) (I.ok.hd hc)
    (by rw [hs]; show (false || (backTo cpos (starEach [] X.env)).any (·.1)) = false; rw [hp]; rfl) hi (ld_glob I hg hm ⟨rfl, ?_⟩ hd)
  rw [hs]
  refine Calls.evalArgs_plain (Calls.spliced_cons (thn (he pins s σ H _ I h) fun v s2 ⟨y, H2, I2, _, q2⟩ => Calls.spliced_nil ⟨rfl, Nat.le_of_lt (small1000 (Nat.le_of_ble_eq_true rfl)), I2.bk _ _ (B _ _ hC), hN.keeps I2.bk, T.keeps I2.bk, fun h' e hm => xe_first O I2 hm q2⟩))
end
end L2
namespace L2
open PySem PySem.Spec PyProof.Rows
section
variable {X : Cx} {E : XK}
end
end L2
namespace L2
open PySem PySem.Spec PySem.Calls PyProof.Rows PySem.W
structure ExK (K : Frag) (D : Addr) : Prop where
  cls : (clsIn K D).isSome = true
  ga : findIn K (.ref D) "__getattribute__" = some (some (.builtin "BaseException.__getattribute__"))
  hk : findIn K (.ref D) "__getattr__" = some none
  ha : findIn K (.ref D) "__class__" = some (some (.builtin "object.__class__"))
  hn : specialIn K (.builtin "object.__class__") "__get__" = some (some (.builtin "getset_descriptor.__get__"))
  tk : takesIn K (.builtin "object.__class__") = some true
  hm : mroIn K D (.type "object") = some true
  hb : mroIn K D (.type "BaseException") = some true
section
variable {prog : Program} {w : World} {A : Around} {E : Value → Shared → Prop} {s : Shared} {K : Frag} {x D : Addr} {ox : Obj}
theorem ExK.find (k : ExK K D) : findObj K D none "__class__" = some (.bind (.builtin "getset_descriptor.__get__") (.builtin "object.__class__")) := by
  obtain ⟨cd, hc⟩ := Option.isSome_iff_exists.mp k.cls
  unfold findObj
  rw [hc, Option.bind_some, k.ha, Option.bind_some]
  simp [k.hn, k.tk]
theorem exc_ga_check {v : Value} {Q : Unit → Shared → Prop} (k : ExK K D) (X : K.In s.heap) (I : InstAt s.heap x ox D none) (h : Q () s) : wpAny (model prog w) A (checkBuiltinCall "BaseException.__getattribute__" ⟨[.ref x, v], []⟩) Q E s := by
  obtain ⟨hh, g, d, t, os⟩ := s
  have hk : builtinKind "BaseException.__getattribute__" = some .slot := by decide +kernel
  have hsplit : splitId "BaseException.__getattribute__" = some ("BaseException", "__getattribute__") := by decide +kernel
  have L0 := I.type (M := model prog w)
  have L1 := looks_mroIn (M := model prog w) X k.hb
  have ha := PySem.F.args_bexc_ga (.ref x) v
  simp only [checkBuiltinCall, hk, hsplit]
  unfold isInstance
  repeat lk
  exact h
theorem exc_ga {tk : Tok} {Q : Fin → Shared → Prop} (k : ExK K D) (X : K.In s.heap) (I : InstAt s.heap x ox D none) (h : Q (.done (.ret (.ref D))) s) :
    wpAny (model prog w) A (Builtin.«object.__getattribute__» ⟨[.ref x, .str "__class__" tk], []⟩) Q E s := by
  obtain ⟨hh, g, d, t, os⟩ := s
  have L0 := I.type (M := model prog w)
  have L1 := looks_find (M := model prog w) X I k.find
  unfold Builtin.«object.__getattribute__»
  repeat (first | with_reducible refine wpAny_call ?_ | lk)
  exact class_get (s := ⟨hh, g, d, t, os⟩) X I k.hm (wpAny_pure h)
theorem exc_class {Q : Option Value → Shared → Prop} (k : ExK K D) (X : K.In s.heap) (I : InstAt s.heap x ox D none) (h : Q (some (.ref D)) { s with toks := s.toks + 1 }) : wpAny (model prog w) A (getAttr? (.ref x) "__class__") Q E s := by
  obtain ⟨hh, g, d, t, os⟩ := s
  have L0 := I.type (M := model prog w)
  have L1 := looks_findIn (M := model prog w) X k.ga
  have L2 := looks_findIn (M := model prog w) X k.hk
  unfold getAttr? getAttrBy? getAttrBy
  refine wpAny_bind (wpAny_mkText (wpAny_bind (wpAny_attempt (wpAny_holding (wpAny_bind (L0.at (wpAny_bind (L1.at ?_))))))))
  dsimp only
  rw [if_neg (by rw [show (Value.builtin "BaseException.__getattribute__" == Value.builtin "object.__getattribute__") = false by decide +kernel, Bool.and_false]; exact Bool.false_ne_true)]
  unfold getAttrByItsOwn hookBefore
  rw [if_pos (show onTheHeap (Value.ref D) = true from rfl)]
  refine wpAny_bind (L2.at ?_)
  refine wpAny_bind (wpAny_attempt (wpAny_holding ?_))
  unfold callGetattribute boundAndCalled
  rw [if_neg (by simp)]
  have f3 := PySem.F.excAttr_ValueError.ga.bind (.ref x)
  rw [f3]
  refine wpAny_bind (wpAny_pure (wpAny_call (codeAny_call_builtin PySem.F.excAttr_ValueError.ga.plain PySem.F.entry_bexc_ga (exc_ga_check k X I (exc_ga k X I ?_)))))
  exact handed_on rfl (wpAny_pure h)
theorem kitx_exc (k : ExK K D) : KitX K (.ref x) (.ref D) (fun h => InstAt h x ox D none) where
  ty := fun _ _ _ I => I.type
  it := fun _ _ X _ => by
    obtain ⟨cd, hc⟩ := Option.isSome_iff_exists.mp k.cls
    unfold clsIn at hc
    split at hc
    · rename_i ho
      intro A' Q' E' s' k q
      unfold isType loadHead
      exact wpAny_bind (wpAny_loadPart (k _ _ (X _ _ ho)) (wpAny_pure q))
    · cases hc
  ne := fun h tp dd its n sl X htp => by
    obtain ⟨cd, hc⟩ := Option.isSome_iff_exists.mp k.cls
    refine Bool.eq_false_iff.mpr fun q => ?_
    have e : D = tp := Value.ref.inj (beq_iff_eq.mp q)
    subst e
    unfold clsIn at hc
    split at hc
    · rename_i ho
      have z := (X _ _ ho).symm.trans htp
      cases z
    · cases hc
  ca := fun X I q => exc_class k X I q
end
end L2
namespace L2
open PySem PySem.Spec PyProof.Rows
section
variable {X : Cx} {pins : List (Addr × Obj)} {σ σ' : St} {H : Hp} {s : Shared}
theorem Inv.lk {ex : Addr → Prop} {h' : Heap} {t' : Nat} (I : Inv X pins σ H s) (k : Lk (frs X.stack) ex s.heap h') (hx : ∀ b, ex b → X.s₀.heap.get? b = none ∧ H b = none ∧ (∀ x c, X.env.cells.lookup x = some c → c ≠ b) ∧ ∀ p ∈ X.pn ++ pins, p.1 ≠ b)
    (hl : ∃ m, h'.Ns X.env.locals m ∧ ∀ (i : Nat) (x : Str) (v : V), X.N[i]? = some x → σ'[i]? = some (some v) → Vis X.env.scope x → ∃ u, RelV v u ∧ Look X.env h' m x u) (hn : σ'.length = σ.length) : Inv X pins σ' H { s with heap := h', toks := t' } := by
  refine ⟨I.ok, I.os, I.bare, I.base.lk k (fun b hb => ?_) (fun b hb => .inr (hx b hb).1), hl, fun x c e => ?_, I.free, I.freeC, fun p hp => ?_, I.hok.lk k I.stkFree fun b hb => (hx b hb).2.1, hn.trans I.len⟩
  · rcases List.mem_cons.mp (I.stkSub b hb) with z | z
    · rw [z]; exact .inr (Heap.get?_none_of_le I.ok.above)
    · exact .inl z
  · obtain ⟨v, o, ho, hd⟩ := I.cell x c e
    obtain ⟨sl, e1⟩ := k.slot c o ho fun z => (hx c z).2.2.1 x c e rfl
    exact ⟨v, _, e1, hd⟩
  · obtain ⟨e1, e2, e3, e4, e5⟩ := I.pin p hp
    refine ⟨k.keep _ _ e1 (fun z => ?_) (fun z => (hx _ z).2.2.2 p hp rfl), e2, e3, e4, e5⟩
    rcases List.mem_cons.mp (I.stkSub _ z) with z | z
    · exact e3 z
    · exact e4 z
theorem Inv.lk0 {ex : Addr → Prop} {h' : Heap} (I : Inv X pins σ H s) (k : Lk (frs X.stack) ex s.heap h') (hx : ∀ b, ex b → X.s₀.heap.get? b = none ∧ H b = none ∧ b ≠ X.env.locals ∧ (∀ x c, X.env.cells.lookup x = some c → c ≠ b) ∧ ∀ p ∈ X.pn ++ pins, p.1 ≠ b) : Inv X pins σ H { s with heap := h' } := by
  refine I.lk (t' := s.toks) k (fun b hb => ⟨(hx b hb).1, (hx b hb).2.1, (hx b hb).2.2.2⟩) ?_ rfl
  obtain ⟨m, ⟨o, es, ep, q1, q2, q3, q4⟩, hl⟩ := I.loc
  obtain ⟨sl, e1⟩ := k.slot _ o q1 fun z => (hx _ z).2.2.1 rfl
  refine ⟨m, ⟨_, es, ep, e1, q2, q3, q4⟩, fun i x v h1 h2 h3 => ?_⟩
  obtain ⟨u, ru, lk⟩ := hl i x v h1 h2 h3
  refine ⟨u, ru, ?_⟩
  rcases lk with z | ⟨z1, c, z2, oc, z3, z4⟩
  · exact .inl z
  · obtain ⟨sl, e2⟩ := k.slot c oc z3 fun z => (hx c z).2.2.2.1 x c z2 rfl
    exact .inr ⟨z1, c, z2, _, e2, z4⟩
abbrev Cx.hnd (X : Cx) (e : Addr) (oe : Obj) : Cx := { X with A := X.A.mark (some (.ref e)), calm := false, pn := (e, oe) :: X.pn, xe := fun _ _ => False }
theorem Inv.hnd {e : Addr} {oe : Obj} (I : Inv X pins σ H s) (h1 : s.heap.get? e = some oe) (h2 : H e = none) (h3 : e ≠ X.env.locals) (h4 : e ∉ X.fs) (h5 : ∀ v, oe.data ≠ .cell v) : Inv (X.hnd e oe) pins σ H s :=
  ⟨⟨I.ok.mod, I.ok.kind, I.ok.glob, I.ok.blt, I.ok.above, I.ok.inj, I.ok.has, I.ok.cab, (fun z => nomatch z), I.ok.frames, I.ok.stk, I.ok.exf, I.ok.bs, I.ok.bsz, I.ok.noex, I.ok.exfs, I.ok.funs, I.ok.frf⟩, I.os, I.bare, I.base, I.loc, I.cell, I.free, I.freeC, (fun p hp => by
    rcases List.mem_cons.mp (show p ∈ (e, oe) :: (X.pn ++ pins) from hp) with rfl | hp
    · exact ⟨h1, h2, h3, h4, h5⟩
    · exact I.pin p hp), I.hok, I.len⟩
theorem Inv.unhnd {e : Addr} {oe : Obj} (ok : X.Ok) (I : Inv (X.hnd e oe) pins σ H s) : Inv X pins σ H s := ⟨ok, I.os, I.bare, I.base, I.loc, I.cell, I.free, I.freeC, fun p hp => I.pin p (List.mem_cons_of_mem _ hp), I.hok, I.len⟩
theorem name_goes {M : Model} {A : Around} {E : Value → Shared → Prop} {i : Nat} {n : Str} {pos : Pos} {Q : Unit → Shared → Prop} (I : Inv X pins σ H s) (hN : X.N.Nodup) (hi : X.N[i]? = some n) (hl : X.env.scope.names.lookup n = some .local) (q : ∀ s', Inv X pins (σ.set i none) H s' → Q () s') :
    wpAny M A (do bindName X.env n .none; unbindBehindTheSuite X.env n pos) Q E s := by
  obtain ⟨m, hn, lk⟩ := I.loc
  have hcls : (X.env.scope.kind == .class || (X.env.scope.kind == .module && X.env.locals != X.env.globals)) = false := by rw [I.ok.kind]; rfl
  refine wpAny_nameGoes_keeps hl hn hcls fun h' v hn' hs => q _ ?_
  refine I.lk (ex := (· = X.env.locals)) (t' := s.toks + 1) ⟨fun b o q _ n => (hs.2 b n).trans q, fun b o q n => ⟨o.slots, (hs.2 b n).trans q⟩, Nat.le_of_eq hs.1.symm⟩ (fun b hb => ?_) ⟨_, hn', fun j x v' h1 h2 h3 => ?_⟩ (List.length_set ..)
  · rw [hb]
    exact ⟨Heap.get?_none_of_le I.ok.above, I.free, I.cne, fun p hp => (I.pin p hp).2.2.1⟩
  · by_cases hj : j = i
    · subst hj
      rw [List.getElem?_set_self (by rw [I.len]; exact (List.getElem?_eq_some_iff.mp hi).1)] at h2
      cases h2
    · rw [List.getElem?_set_ne (Ne.symm hj)] at h2
      obtain ⟨u, ru, z⟩ := lk j x v' h1 h2 h3
      refine ⟨u, ru, ?_⟩
      rcases z with ⟨z1, z2⟩ | ⟨z1, c, z2, oc, z3, z4⟩
      · refine .inl ⟨z1, ?_⟩
        show (if x = n then v else m x) = some u
        rw [if_neg fun e => hj (by
          subst e
          obtain ⟨b1, c1⟩ := List.getElem?_eq_some_iff.mp h1
          obtain ⟨b2, c2⟩ := List.getElem?_eq_some_iff.mp hi
          exact (List.getElem_inj hN).mp (c1.trans c2.symm))]
        exact z2
      · exact .inr ⟨z1, c, z2, oc, (hs.2 c (I.cne x c z2)).trans z3, z4⟩
def PX (X : Cx) (e : Expr) (t : XK → TE) : Prop := ∀ (pins : List (Addr × Obj)) (s : Shared) (σ : St) (H : Hp) (Q : VK) (E : XK), Inv X pins σ H s → t E σ H Q →
  wpAny (model X.prog X.w) X.A (eval e X.env) (EP X pins σ Q) (fun ev s' => ∃ H1 s1, Inv X pins σ H1 s1 ∧ CXx X.prog X.w X.stack H1 s1 E ev s') s
end
section
variable {X : Cx} {k : Nat} {f C D : Addr} {fd : FuncData} {ps : List Str} {sp : Sp} {x n : Str} {p pos np hpos tpos : Pos} {e ce : Expr} {es : List Expr} {t : TA}
theorem px_meth {o : Expr} {ta : TE} {m : Str} {apos : Pos} {pl : Sem Bool} (he : PE X.nox o ta) (c : Cls X.K C) (hm : Meth X.K C m f) (F : FnOk X.prog X.w X.K X.mg X.base (CXx X.prog X.w) k f fd ps sp) (hr : Room k X.A) (hb : Binds X.K fd ps []) (ha : PA X.nox (e :: es) t)
    (hst : starEach (e :: es) X.env = (false, eval e X.env) :: starEach es X.env := by rfl) (hpl : (backTo pos (starEach es X.env)).any (·.1) = false := by rfl)
    (ht : eval (.Call (.Attribute o m apos) (e :: es) [] pos) X.env = (do
      let ov ← eval o X.env
      standAt apos.atName
      let (f, first) ← holding [ov] (getMethod ov m pl)
      callWith pos f first (backTo pos (starEach (e :: es) X.env)) (backToKw pos (keywordEach [] X.env))) := by rfl) :
    PX X (.Call (.Attribute o m apos) (e :: es) [] pos) (fun E => tMeth C m sp [] E ta t) := by
  intro pins s σ H Q E I h
  refine PySem.W.methodCall_KW (pl := pl) (wpAny_mono (he pins s σ H _ (I.wish _) h) (fun u s1 ⟨x, H1, I1, rx, a, dx, fs, ex, ea, l, q⟩ => ?_) fun _ _ z => False.elim z) ht
  subst ex
  obtain rfl : u = Value.ref a := rx
  have I1 := I1.unwish
  refine getmeth_ok I1 ea c hm l ?_
  refine PySem.W.callWith_K (first := [.ref a]) (h₀ := X.base) I.ok.mod.kin hm.kp (wpAny_mono (ha pos pins s1 σ H1 _ (I1.wish _) q) (fun us s2 ⟨vs, H2, I2, r, q2⟩ => ⟨I2.kIn, ?_⟩) fun _ _ z => False.elim z) hst hpl
  have I2 := I2.unwish
  have q2 : sp (.ref a :: (vs ++ [])) H2 Q E := q2
  rw [List.append_nil] at q2
  have r2 : Vals (.ref a :: vs) (.ref a :: us) := .cons rfl r
  have hl : (Value.ref a :: us).length = ps.length := by rw [← r2.length]; exact F.len _ _ _ _ q2
  refine wpAny_call (codeAny_mono (F.run X.A X.stack s2 H2 ⟨.ref a :: us, []⟩ (.ref a :: us) (.ref a :: vs) Q E hr I2.env0 (by simpa using hb s2 (.ref a :: us) I2.kIn (by simpa using hl)) r2 q2) fun r s' hq => ?_)
  cases r with
  | error e => exact ⟨H2, s2, I2, hq⟩
  | ok fl =>
    cases fl with
    | ret u => exact I2.after hq
    | next => exact False.elim hq
    | brk => exact False.elim hq
    | cont => exact False.elim hq
def tTry (PC : Addr → Prop) (i : Nat) (tc : XK → TE) (th : Addr → Addr → TS) : TS := fun D σ H => ∃ E : XK, tc E σ H (fun _ H1 => D.nx σ H1) ∧ ∀ c H', E c none H' → ∃ C, c = .ref C ∧ PC C ∧ ∀ e, H' e = none →
  th C e { nx := fun σ' H'' => D.nx (σ'.set i none) H'', rt := D.rt, bk := fun σ' H'' => D.bk (σ'.set i none) H'', ct := fun σ' H'' => D.ct (σ'.set i none) H'' } (σ.set i (some (.ref e))) H'
theorem ps_try {b₀ : Stmt} {suite : List Stmt} {i : Nat} {tc : XK → TE} {PC : Addr → Prop} {th : Addr → Addr → TS} (hst : X.stack = X.env :: X.outer) (hex : X.ex = []) (hfm : X.env.frame = some X.env.locals) (hb : PX X ce tc) (hg : Gl X x) (hm : X.mg x = some (.ref D)) (hD : ∀ C, PC C → PySem.W.exmOne X.K (.ref C) (.ref D) = some true)
    (hN : X.N.Nodup) (hi : X.N[i]? = some n) (hl : X.env.scope.names.lookup n = some .local) (hh : ∀ C e oe, PC C → oe.cls = .ref C → oe.dict = none → PySem.W.notCls oe = true → PSs (X.hnd e oe) (b₀ :: suite) (th C e))
    (hs : swapsWith ce none pos.line X.env = pure false := by rfl) (hd : (x == ("__debug__" : Str)) = false := by decide) :
    PS X (.Try [.Expr ce pos] [.ExceptHandler (some (.Name x np)) (some n) (b₀ :: suite) hpos] [] [] tpos) (tTry PC i tc th) := by
  intro pins s σ H D' I ⟨E, hc, hE⟩
  refine wpAny_Try_except (wpAny_execs_cons (wpAny_Expr_any (wpAny_mono (hb pins s σ H _ E I hc) (fun v s1 ⟨y, H1, I1, r1, q1⟩ => wpAny_execs_nil (wpAny_execs_nil ⟨σ, H1, I1, q1⟩)) fun ev s' q => ?_) I.quiet hs))
  obtain ⟨H1, s1, I1, e, C, H', rfl, os, bare, un, hok, ⟨⟨T, f, nT, fT⟩, ne, fe⟩, q⟩ := q
  obtain ⟨C0, hC, hPC, hth⟩ := hE _ _ q
  cases hC
  have I2 : Inv X pins σ H' s' := I1.call' (ch := []) os un hok bare fun _ z => nomatch z
  have fr : X.A.frames = some (X.env :: X.outer) := by rw [← hst]; exact I.ok.frames
  have fl : s'.heap.FunFrames X.base (X.env :: X.outer) := by rw [← hst]; exact I2.stack
  have young : ∀ b, s1.heap.get? b = none → H' b = none → X.s₀.heap.get? b = none ∧ H' b = none ∧ b ≠ X.env.locals ∧ (∀ x c, X.env.cells.lookup x = some c → c ≠ b) ∧ ∀ p ∈ X.pn ++ pins, p.1 ≠ b := fun b h1 h2 => by
    refine ⟨?_, h2, fun z => ?_, fun x c hx z => ?_, fun p hp z => ?_⟩
    · cases q0 : X.s₀.heap.get? b with
      | none => rfl
      | some o =>
        obtain ⟨o', e'⟩ := I1.base.there b o q0 (by rw [hex]; exact List.not_mem_nil)
        rw [h1] at e'; cases e'
    · obtain ⟨m, ⟨o, _, _, e', _⟩, _⟩ := I1.loc
      rw [z, e'] at h1; cases h1
    · obtain ⟨v, o, e', _⟩ := I1.cell x c hx
      rw [z, h1] at e'; cases e'
    · have e' := (I1.pin p hp).1
      rw [z, h1] at e'; cases e'
  refine nf_any (base := X.base) fr fl hfm f fun h1 T1 k1 f1 z1 => sf_ok (s := { s' with heap := h1 }) f1 fun h2 k2 f2 => ?_
  have yT : ∀ b, b = e ∨ b = T → X.s₀.heap.get? b = none ∧ H' b = none ∧ b ≠ X.env.locals ∧ (∀ x c, X.env.cells.lookup x = some c → c ≠ b) ∧ ∀ p ∈ X.pn ++ pins, p.1 ≠ b := fun b hb => by
    rcases hb with rfl | rfl
    · exact young _ ne fe
    · exact young _ nT fT
  have tk : ∀ b, b = T1 → (b = e ∨ b = T) ∨ s'.heap.objs.size ≤ b := fun b hb => by
    rw [hb]
    rcases z1 with z | z
    · exact .inl (.inr z)
    · exact .inr z
  have k12 := k1.trans (k2 _) tk
  have I3 : Inv X pins σ H' { s' with heap := h2 } := I2.lk0 (by rw [hst]; exact k12) yT
  have mk : ∀ {h : Heap}, FlyT e (.ref C) T1 .none h → Inv X pins σ H' { s' with heap := h } → ∃ oe, oe.cls = .ref C ∧ oe.dict = none ∧ PySem.W.notCls oe = true ∧ Inv (X.hnd e oe) pins σ H' { s' with heap := h } := fun {h} f I => by
    obtain ⟨oe, vs, _, _, g1, g2, g3, _⟩ := f
    refine ⟨oe, g2.1, g2.2, by unfold PySem.W.notCls; rw [g3], I.hnd g1 fe (young e ne fe).2.2.1 (fun z => ?_) (fun v => by rw [g3]; exact fun z => nomatch z)⟩
    obtain ⟨_, ob, hob, no⟩ := I.funs.mem z
    have hob' : h.get? e = some ob := hob
    rw [g1] at hob'
    cases hob'
    exact no vs g3
  obtain ⟨oe, c1, c2, c3, J3⟩ := mk f2 I3
  refine wpAny_handleBy_cons (codeAny_handlers_test (ld_glob (X := X.hnd e oe) J3 hg hm ?_ hd)) (by intro q; cases q)
  have LT : PySem.W.Looks (model X.prog X.w) h2 (typeOf (.ref e)) (.ref C) := by
    have he := (J3.pin (e, oe) (.head _)).1
    exact c1 ▸ (PySem.W.Looks.ld he).andThen .now
  refine (PySem.W.exm_one I3.kIn LT (hD C hPC)).at ?_
  refine codeAny_handlers_suite_as ?_
  refine sf_ok (s := { s' with heap := h2 }) f2 fun h3 k3 f3 => ?_
  have I4 : Inv X pins σ H' { s' with heap := h3 } := I2.lk0 (by rw [hst]; exact k12.trans (k3 _) tk) yT
  obtain ⟨oe, c1, c2, c3, J4⟩ := mk f3 I4
  refine store_ok (X := X.hnd e oe) J4 hN hi (.inl hl) (v := .ref e) rfl (fun s5 J5 => ?_) (.inr hl)
  refine wpAny_mono (hh C e oe hPC c1 c2 c3 pins s5 _ H' _ J5 (hth e fe)) (fun fl s6 q6 => ?_) fun _ _ z => False.elim z
  cases fl with
  | next =>
    obtain ⟨σ6, H6, J6, q⟩ := q6
    exact name_goes (J6.unhnd I.ok) hN hi hl fun s7 I7 => ⟨_, H6, I7, q⟩
  | brk =>
    obtain ⟨σ6, H6, J6, q⟩ := q6
    exact name_goes (J6.unhnd I.ok) hN hi hl fun s7 I7 => ⟨_, H6, I7, q⟩
  | cont =>
    obtain ⟨σ6, H6, J6, q⟩ := q6
    exact name_goes (J6.unhnd I.ok) hN hi hl fun s7 I7 => ⟨_, H6, I7, q⟩
  | ret u =>
    obtain ⟨v, σ6, H6, J6, r6, q⟩ := q6
    exact name_goes (J6.unhnd I.ok) hN hi hl fun s7 I7 => ⟨v, _, H6, I7, r6, q⟩
end
end L2
namespace L3
open PySem PySem.Spec PyProof.Rows L2
inductive Z where
  | non | bl (b : Bool) | int (i : Int) | str (x : Str) | ref (a : Addr) | ty (n : String) | scr (a : Addr) (ns : List Int)
  | tup (ws : List Z)
mutual
def eqZ : Z → Z → Bool
  | .non, .non => true
  | .bl a, .bl b => a == b
  | .int a, .int b => decide (a = b)
  | .str a, .str b => decide (a = b)
  | .ref a, .ref b => decide (a = b)
  | .ty a, .ty b => decide (a = b)
  | .scr a ns, .scr b ms => decide (a = b) && decide (ns = ms)
  | .tup a, .tup b => eqZs a b
  | _, _ => false
def eqZs : List Z → List Z → Bool
  | [], [] => true
  | a :: as, b :: bs => eqZ a b && eqZs as bs
  | _, _ => false
end
mutual
theorem eqZ_iff : ∀ x y : Z, eqZ x y = true ↔ x = y
  | .tup a, y => by
    cases y with
    | tup b => simp only [eqZ, Z.tup.injEq]; exact eqZs_iff a b
    | _ => simp [eqZ]
  | .non, y => by cases y <;> simp [eqZ]
  | .bl _, y => by cases y <;> simp [eqZ]
  | .int _, y => by cases y <;> simp [eqZ]
  | .str _, y => by cases y <;> simp [eqZ]
  | .ref _, y => by cases y <;> simp [eqZ]
  | .ty _, y => by cases y <;> simp [eqZ]
  | .scr _ _, y => by cases y <;> simp [eqZ]
theorem eqZs_iff : ∀ x y : List Z, eqZs x y = true ↔ x = y
  | [], y => by cases y <;> simp [eqZs]
  | a :: as, y => by
    cases y with
    | nil => simp [eqZs]
    | cons b bs => simp only [eqZs, Bool.and_eq_true, List.cons.injEq, eqZ_iff a b, eqZs_iff as bs]
end
instance : DecidableEq Z := fun x y => decidable_of_iff _ (eqZ_iff x y)
section
variable {K : PySem.W.Frag} {H H' H1 H2 : Hp} {a p : Addr} {xs : List V}
def Fz (K : PySem.W.Frag) (H : Hp) (a : Addr) (xs : List V) : Prop :=
  (∃ o, H a = some (.frz o (.lst xs))) ∨ ∃ (o : Obj) (its : Array Value) (n : Nat), K.lookup a = some o ∧ o.cls = .type "list" ∧ o.dict = none ∧ o.data = .seq its n ∧ its.size ≤ sizeLine ∧ Vals xs its.toList
theorem Fz.sq (h : Fz K H a xs) : SqL K H a xs := by
  rcases h with ⟨o, h⟩ | h
  · exact .inl (.inr ⟨o, h⟩)
  · exact .inr h
theorem Fz.of (hO : Only H) (h : SqL K H a xs) : Fz K H a xs := by
  rcases h with (h | h) | h
  · rcases hO a with z | ⟨o, ys, z⟩
    · rw [h] at z; cases z
    · rw [h] at z; cases z
  · exact .inl h
  · exact .inr h
structure TK (K : PySem.W.Frag) (H H' : Hp) : Prop where
  tup : ∀ a xs, H a = some (.tup xs) → H' a = some (.tup xs)
  frz : ∀ a xs, Fz K H a xs → Fz K H' a xs
theorem TK.refl (K : PySem.W.Frag) (H : Hp) : TK K H H := ⟨fun _ _ h => h, fun _ _ h => h⟩
theorem TK.trans (a : TK K H H1) (b : TK K H1 H2) : TK K H H2 := ⟨fun c xs h => b.tup c xs (a.tup c xs h), fun c xs h => b.frz c xs (a.frz c xs h)⟩
theorem TK.upd {o : HO} (h : ∀ xs, H p ≠ some (.tup xs)) (h2 : ∀ o u, H p ≠ some (.frz o u)) : TK K H (L2.upd H p o) := by
  refine ⟨fun c xs e => ?_, fun c xs e => ?_⟩
  · rw [upd_ne (by rintro rfl; exact h _ e)]; exact e
  · rcases e with ⟨o', e⟩ | e
    · exact .inl ⟨o', by rw [upd_ne (by rintro rfl; exact h2 _ _ e)]; exact e⟩
    · exact .inr e
theorem TK.new {o : HO} (h : H p = none) : TK K H (L2.upd H p o) := .upd (fun xs e => by rw [h] at e; cases e) (fun o u e => by rw [h] at e; cases e)
theorem TK.lst {o : HO} (h : H p = some (.lst xs)) : TK K H (L2.upd H p o) := .upd (fun xs e => by rw [h] at e; cases e) (fun o u e => by rw [h] at e; cases e)
theorem TK.dK {o : HO} {kvs : List (Key × V)} (h : H p = some (.dK kvs)) : TK K H (L2.upd H p o) := .upd (fun xs e => by rw [h] at e; cases e) (fun o u e => by rw [h] at e; cases e)
theorem TK.ins {o : HO} {C dx : Addr} {fs : List (Str × V)} (h : H p = some (.ins C dx fs)) : TK K H (L2.upd H p o) := .upd (fun xs e => by rw [h] at e; cases e) (fun o u e => by rw [h] at e; cases e)
end
mutual
def Rep (K : PySem.W.Frag) (H : Hp) : Z → V → Prop
  | .non, v => v = .non
  | .bl b, v => v = .bl b
  | .int i, v => v = .int i
  | .str x, v => v = .str x
  | .ref a, v => v = .ref a
  | .ty n, v => v = .ty n
  | .scr a ns, v => v = .ref a ∧ Fz K H a (ns.map V.int)
  | .tup ws, v => ∃ a vs, v = .ref a ∧ H a = some (.tup vs) ∧ Reps K H ws vs
def Reps (K : PySem.W.Frag) (H : Hp) : List Z → List V → Prop
  | [], vs => vs = []
  | w :: ws, vs => ∃ v r, vs = v :: r ∧ Rep K H w v ∧ Reps K H ws r
end
section
variable {K : PySem.W.Frag} {H H' : Hp}
theorem rep_non {v : V} : Rep K H .non v = (v = .non) := by unfold Rep; rfl
theorem rep_bl {b : Bool} {v : V} : Rep K H (.bl b) v = (v = .bl b) := by unfold Rep; rfl
theorem rep_int {i : Int} {v : V} : Rep K H (.int i) v = (v = .int i) := by unfold Rep; rfl
theorem rep_str {x : Str} {v : V} : Rep K H (.str x) v = (v = .str x) := by unfold Rep; rfl
theorem rep_ref {a : Addr} {v : V} : Rep K H (.ref a) v = (v = .ref a) := by unfold Rep; rfl
theorem rep_ty {n : String} {v : V} : Rep K H (.ty n) v = (v = .ty n) := by unfold Rep; rfl
theorem rep_scr {a : Addr} {ns : List Int} {v : V} : Rep K H (.scr a ns) v = (v = .ref a ∧ Fz K H a (ns.map V.int)) := by unfold Rep; rfl
theorem rep_tup {ws : List Z} {v : V} : Rep K H (.tup ws) v = (∃ a vs, v = .ref a ∧ H a = some (.tup vs) ∧ Reps K H ws vs) := by conv => lhs; unfold Rep
theorem reps_nil {vs : List V} : Reps K H [] vs = (vs = []) := by unfold Reps; rfl
theorem reps_cons {w : Z} {ws : List Z} {vs : List V} : Reps K H (w :: ws) vs = (∃ v r, vs = v :: r ∧ Rep K H w v ∧ Reps K H ws r) := by conv => lhs; unfold Reps
mutual
theorem Rep.mono (t : TK K H H') : ∀ (w : Z) (v : V), Rep K H w v → Rep K H' w v
  | .tup ws, v, h => by
    rw [rep_tup] at h ⊢
    obtain ⟨a, vs, e, h, r⟩ := h
    exact ⟨a, vs, e, t.tup _ _ h, Reps.mono t ws vs r⟩
  | .scr a ns, v, h => by
    rw [rep_scr] at h ⊢
    exact ⟨h.1, t.frz _ _ h.2⟩
  | .non, v, h => by rw [rep_non] at h ⊢; exact h
  | .bl _, v, h => by rw [rep_bl] at h ⊢; exact h
  | .int _, v, h => by rw [rep_int] at h ⊢; exact h
  | .str _, v, h => by rw [rep_str] at h ⊢; exact h
  | .ref _, v, h => by rw [rep_ref] at h ⊢; exact h
  | .ty _, v, h => by rw [rep_ty] at h ⊢; exact h
theorem Reps.mono (t : TK K H H') : ∀ (ws : List Z) (vs : List V), Reps K H ws vs → Reps K H' ws vs
  | [], vs, h => by rw [reps_nil] at h ⊢; exact h
  | w :: ws, vs, h => by
    rw [reps_cons] at h ⊢
    obtain ⟨v, r, e, h1, h2⟩ := h
    exact ⟨v, r, e, Rep.mono t w v h1, Reps.mono t ws r h2⟩
end
theorem Reps.cons {w : Z} {v : V} {ws : List Z} {vs : List V} (a : Rep K H w v) (b : Reps K H ws vs) : Reps K H (w :: ws) (v :: vs) := by rw [reps_cons]; exact ⟨v, vs, rfl, a, b⟩
theorem Reps.nil : Reps K H [] [] := by rw [reps_nil]
theorem Reps.length : ∀ {ws : List Z} {vs : List V}, Reps K H ws vs → ws.length = vs.length
  | [], vs, h => by rw [reps_nil] at h; rw [h]; rfl
  | w :: ws, vs, h => by
    rw [reps_cons] at h
    obtain ⟨v, r, e, _, h2⟩ := h
    rw [e, List.length_cons, List.length_cons, Reps.length h2]
theorem Reps.get : ∀ {ws : List Z} {vs : List V} {i : Nat} {w : Z}, Reps K H ws vs → ws[i]? = some w → ∃ v, vs[i]? = some v ∧ Rep K H w v
  | [], _, _, _, _, e => by simp at e
  | w :: ws, vs, i, x, h, e => by
    rw [reps_cons] at h
    obtain ⟨v, r, rfl, h1, h2⟩ := h
    cases i with
    | zero => simp at e; subst e; exact ⟨v, rfl, h1⟩
    | succ i => simpa using Reps.get (i := i) h2 (by simpa using e)
theorem Reps.tog {ws : List Z} {vs : List V} {i : Nat} {v : V} (h : Reps K H ws vs) (e : vs[i]? = some v) : ∃ w, ws[i]? = some w ∧ Rep K H w v := by
  have hl := h.length
  have hi : i < ws.length := by
    have := (List.getElem?_eq_some_iff.mp e).1
    omega
  obtain ⟨v', e', r⟩ := h.get (List.getElem?_eq_getElem hi)
  rw [e] at e'
  cases e'
  exact ⟨_, List.getElem?_eq_getElem hi, r⟩
theorem Reps.append : ∀ {ws ws' : List Z} {vs vs' : List V}, Reps K H ws vs → Reps K H ws' vs' → Reps K H (ws ++ ws') (vs ++ vs')
  | [], _, vs, _, h, h' => by rw [reps_nil] at h; subst h; exact h'
  | w :: ws, _, vs, _, h, h' => by
    rw [reps_cons] at h
    obtain ⟨v, r, rfl, h1, h2⟩ := h
    exact .cons h1 (Reps.append h2 h')
theorem Reps.drop : ∀ {ws : List Z} {vs : List V} (n : Nat), Reps K H ws vs → Reps K H (ws.drop n) (vs.drop n)
  | [], vs, n, h => by rw [reps_nil] at h; subst h; simpa using Reps.nil
  | w :: ws, vs, 0, h => h
  | w :: ws, vs, n + 1, h => by
    rw [reps_cons] at h
    obtain ⟨v, r, rfl, h1, h2⟩ := h
    exact Reps.drop n h2
theorem Reps.take : ∀ {ws : List Z} {vs : List V} (n : Nat), Reps K H ws vs → Reps K H (ws.take n) (vs.take n)
  | [], vs, n, h => by rw [reps_nil] at h; subst h; simpa using Reps.nil
  | w :: ws, vs, 0, h => by simpa using Reps.nil
  | w :: ws, vs, n + 1, h => by
    rw [reps_cons] at h
    obtain ⟨v, r, rfl, h1, h2⟩ := h
    exact .cons h1 (Reps.take n h2)
theorem Reps.set {w : Z} {v : V} (r : Rep K H w v) : ∀ {ws : List Z} {vs : List V} (i : Nat), Reps K H ws vs → Reps K H (ws.set i w) (vs.set i v)
  | [], vs, i, h => by rw [reps_nil] at h; subst h; simpa using Reps.nil
  | x :: ws, vs, i, h => by
    rw [reps_cons] at h
    obtain ⟨y, s, rfl, h1, h2⟩ := h
    cases i with
    | zero => exact .cons r h2
    | succ i => exact .cons h1 (Reps.set r i h2)
theorem Reps.reverse : ∀ {ws : List Z} {vs : List V}, Reps K H ws vs → Reps K H ws.reverse vs.reverse
  | [], vs, h => by rw [reps_nil] at h; subst h; exact Reps.nil
  | x :: ws, vs, h => by
    rw [reps_cons] at h
    obtain ⟨y, s, rfl, h1, h2⟩ := h
    rw [List.reverse_cons, List.reverse_cons]
    exact (Reps.reverse h2).append (.cons h1 .nil)
theorem ints_reps : ∀ (ns : List Int), Reps K H (ns.map Z.int) (ns.map V.int)
  | [] => Reps.nil
  | n :: ns => .cons (by rw [rep_int]) (ints_reps ns)
theorem Reps.one {w : Z} {vs : List V} (h : Reps K H [w] vs) : ∃ v, vs = [v] ∧ Rep K H w v := by
  rw [reps_cons] at h
  obtain ⟨v, r, rfl, h1, h2⟩ := h
  rw [reps_nil] at h2
  exact ⟨v, by rw [h2], h1⟩
theorem Reps.two {w w' : Z} {vs : List V} (h : Reps K H [w, w'] vs) : ∃ v v', vs = [v, v'] ∧ Rep K H w v ∧ Rep K H w' v' := by
  rw [reps_cons] at h
  obtain ⟨v, r, rfl, h1, h2⟩ := h
  obtain ⟨v', rfl, h3⟩ := h2.one
  exact ⟨v, v', rfl, h1, h3⟩
end
inductive O where
  | lst (ws : List Z)
  | dK (kvs : List (Key × Z))
  | ins (C dx : Addr) (fs : List (Str × Z))
abbrev Hq := Addr → Option O
def put (G : Hq) (a : Addr) (o : O) : Hq := fun b => if b = a then some o else G b
theorem put_same {G : Hq} {a : Addr} {o : O} : put G a o a = some o := by unfold put; rw [if_pos rfl]
theorem put_ne {G : Hq} {a b : Addr} {o : O} (h : b ≠ a) : put G a o b = G b := by unfold put; rw [if_neg h]
theorem put_put {G : Hq} {a : Addr} {o u : O} : put (put G a o) a u = put G a u := by
  funext b; unfold put; split <;> rfl
theorem gne_none {G : Hq} {a b : Addr} {o : O} (h : G a = some o) (h' : G b = none) : a ≠ b := by
  intro e; subst e; rw [h] at h'; cases h'
theorem put_old {G : Hq} {a b : Addr} {o u : O} (h : G b = some u) (n : G a = none) : put G a o b = some u := by rw [put_ne (gne_none h n)]; exact h
def ROb (K : PySem.W.Frag) (H : Hp) (a : Addr) : O → Prop
  | .lst ws => ∃ vs, H a = some (.lst vs) ∧ Reps K H ws vs
  | .dK kvs => ∃ us, H a = some (.dK us) ∧ us.map (·.1) = kvs.map (·.1) ∧ Reps K H (kvs.map (·.2)) (us.map (·.2))
  | .ins C dx fs => ∃ gs, H a = some (.ins C dx gs) ∧ gs.map (·.1) = fs.map (·.1) ∧ Reps K H (fs.map (·.2)) (gs.map (·.2))
def RH (K : PySem.W.Frag) (G : Hq) (H : Hp) : Prop := ∀ a o, G a = some o → ROb K H a o
section
variable {K : PySem.W.Frag} {H H' : Hp} {G : Hq} {a p : Addr} {o : O} {u : HO}
theorem ROb.some (h : ROb K H a o) : ∃ u, H a = some u := by
  cases o with
  | lst ws => obtain ⟨vs, e, _⟩ := h; exact ⟨_, e⟩
  | dK kvs => obtain ⟨vs, e, _⟩ := h; exact ⟨_, e⟩
  | ins C dx fs => obtain ⟨vs, e, _⟩ := h; exact ⟨_, e⟩
theorem ROb.stay (t : TK K H H') (e : H' a = H a) (h : ROb K H a o) : ROb K H' a o := by
  cases o with
  | lst ws => obtain ⟨vs, q, r⟩ := h; exact ⟨vs, e.trans q, r.mono t⟩
  | dK kvs => obtain ⟨vs, q, n, r⟩ := h; exact ⟨vs, e.trans q, n, r.mono t⟩
  | ins C dx fs => obtain ⟨vs, q, n, r⟩ := h; exact ⟨vs, e.trans q, n, r.mono t⟩
theorem RH.out (h : RH K G H) (e : H a = none) : G a = none := by
  cases q : G a with
  | none => rfl
  | some o => obtain ⟨u, z⟩ := (h a o q).some; rw [e] at z; cases z
theorem RH.hid (h : RH K G H) (e : H p = none) : RH K G (upd H p u) := fun b o q =>
  (h b o q).stay (.new e) (upd_ne (by rintro rfl; obtain ⟨u, z⟩ := (h _ o q).some; rw [e] at z; cases z))
theorem RH.set (h : RH K G H) (t : TK K H (upd H p u)) (n : ROb K (upd H p u) p o) : RH K (put G p o) (upd H p u) := fun b o' q => by
  by_cases hb : b = p
  · subst hb; rw [put_same] at q; cases q; exact n
  · rw [put_ne hb] at q
    exact (h b o' q).stay t (upd_ne hb)
end
abbrev S3 := List (Option Z)
abbrev K3 := Z → Hq → Prop
abbrev C3 := S3 → Hq → Prop
abbrev E3 := S3 → Hq → K3 → Prop
abbrev T3 := S3 → Hq → (Bool → Hq → Prop) → Prop
abbrev A3 := S3 → Hq → (List Z → Hq → Prop) → Prop
abbrev X3 := C3 → K3 → C3 → C3 → S3 → Hq → Prop
def ROp (K : PySem.W.Frag) (H : Hp) (ow : Option Z) (ov : Option V) : Prop := ∀ w, ow = some w → ∃ v, ov = some v ∧ Rep K H w v
def RSt (K : PySem.W.Frag) (H : Hp) : S3 → L2.St → Prop := Paired (ROp K H)
section
variable {K : PySem.W.Frag} {H H' : Hp}
theorem RSt.mono (t : TK K H H') : ∀ {σ : S3} {τ : L2.St}, RSt K H σ τ → RSt K H' σ τ
  | _, _, .nil => .nil
  | _, _, .cons r s => .cons (fun w e => let ⟨v, q, h⟩ := r w e; ⟨v, q, h.mono t⟩) (RSt.mono t s)
theorem RSt.get : ∀ {σ : S3} {τ : L2.St} {i : Nat} {w : Z}, RSt K H σ τ → σ[i]? = some (some w) → ∃ v, τ[i]? = some (some v) ∧ Rep K H w v
  | _, _, _, _, .nil, e => by simp at e
  | _, _, 0, w, .cons r _, e => by
    obtain ⟨v, q, h⟩ := r w (by simpa using e)
    exact ⟨v, by rw [q]; rfl, h⟩
  | _, _, i + 1, w, .cons _ s, e => by
    obtain ⟨v, q, h⟩ := RSt.get (i := i) s (by simpa using e)
    exact ⟨v, by simpa using q, h⟩
theorem RSt.set {w : Z} {v : V} (r : Rep K H w v) : ∀ {σ : S3} {τ : L2.St} (i : Nat), RSt K H σ τ → RSt K H (σ.set i (some w)) (τ.set i (some v))
  | _, _, _, .nil => .nil
  | _, _, 0, .cons _ s => .cons (fun _ e => by cases e; exact ⟨v, rfl, r⟩) s
  | _, _, i + 1, .cons q s => .cons q (RSt.set r i s)
theorem RSt.length {σ : S3} {τ : L2.St} (h : RSt K H σ τ) : σ.length = τ.length := Paired.length h
theorem RSt.nones : ∀ n : Nat, RSt K H (List.replicate n none) (List.replicate n none)
  | 0 => .nil
  | n + 1 => .cons (fun _ e => nomatch e) (RSt.nones n)
theorem RSt.app : ∀ {σ σ' : S3} {τ τ' : L2.St}, RSt K H σ τ → RSt K H σ' τ' → RSt K H (σ ++ σ') (τ ++ τ')
  | _, _, _, _, .nil, h => h
  | _, _, _, _, .cons r s, h => .cons r (RSt.app s h)
theorem RSt.ofVals : ∀ {ws : List Z} {vs : List V}, Reps K H ws vs → RSt K H (ws.map some) (vs.map some)
  | [], vs, h => by rw [reps_nil] at h; subst h; exact .nil
  | w :: ws, vs, h => by
    rw [reps_cons] at h
    obtain ⟨v, r, rfl, h1, h2⟩ := h
    exact .cons (fun _ e => by cases e; exact ⟨v, rfl, h1⟩) (RSt.ofVals h2)
end
def start3 (N : List Str) (ws : List Z) : S3 := ws.map some ++ List.replicate (N.length - ws.length) none
theorem RSt.start {K : PySem.W.Frag} {H : Hp} {N : List Str} {ws : List Z} {vs : List V} (h : Reps K H ws vs) : RSt K H (start3 N ws) (L2.start N vs) := by
  unfold start3 L2.start
  rw [h.length]
  exact (RSt.ofVals h).app (RSt.nones _)
def UpV (K : PySem.W.Frag) (H : Hp) (R : K3) (Q : VK) : Prop := ∀ w G v H', R w G → Rep K H' w v → RH K G H' → TK K H H' → Q v H'
def UpB (K : PySem.W.Frag) (H : Hp) (R : Bool → Hq → Prop) (Q : Bool → Hp → Prop) : Prop := ∀ b G H', R b G → RH K G H' → TK K H H' → Q b H'
def UpA (K : PySem.W.Frag) (H : Hp) (R : List Z → Hq → Prop) (Q : List V → Hp → Prop) : Prop := ∀ ws G vs H', R ws G → Reps K H' ws vs → RH K G H' → TK K H H' → Q vs H'
def UpS (K : PySem.W.Frag) (H : Hp) (R : C3) (Q : L2.St → Hp → Prop) : Prop := ∀ σ G τ H', R σ G → RSt K H' σ τ → RH K G H' → TK K H H' → Q τ H'
section
variable {K : PySem.W.Frag} {H H' : Hp}
theorem UpV.mono {R : K3} {Q : VK} (h : UpV K H R Q) (t : TK K H H') : UpV K H' R Q := fun w G v H2 q r g t2 => h w G v H2 q r g (t.trans t2)
theorem UpB.mono {R : Bool → Hq → Prop} {Q : Bool → Hp → Prop} (h : UpB K H R Q) (t : TK K H H') : UpB K H' R Q := fun w G H2 q g t2 => h w G H2 q g (t.trans t2)
theorem UpA.mono {R : List Z → Hq → Prop} {Q : List V → Hp → Prop} (h : UpA K H R Q) (t : TK K H H') : UpA K H' R Q := fun w G v H2 q r g t2 => h w G v H2 q r g (t.trans t2)
theorem UpS.mono {R : C3} {Q : L2.St → Hp → Prop} (h : UpS K H R Q) (t : TK K H H') : UpS K H' R Q := fun w G v H2 q r g t2 => h w G v H2 q r g (t.trans t2)
end
def low (K : PySem.W.Frag) (t : E3) : TE := fun τ H Q => ∃ σ G R, RSt K H σ τ ∧ RH K G H ∧ t σ G R ∧ UpV K H R Q
theorem low.un {K : PySem.W.Frag} {t : E3} {τ : L2.St} {H : Hp} {Q : VK} {C : Prop} (z : low K t τ H Q) (f : ∀ σ G R, (RSt K H σ τ) → (RH K G H) → (t σ G R) → (UpV K H R Q) → C) : C := by obtain ⟨σ, G, R, q0, q1, q2, q3⟩ := z; exact f _ _ _ q0 q1 q2 q3
def lowT (K : PySem.W.Frag) (t : T3) : TT := fun τ H Q => ∃ σ G R, RSt K H σ τ ∧ RH K G H ∧ t σ G R ∧ UpB K H R Q
theorem lowT.un {K : PySem.W.Frag} {t : T3} {τ : L2.St} {H : Hp} {Q : Bool → Hp → Prop} {C : Prop} (z : lowT K t τ H Q) (f : ∀ σ G R, (RSt K H σ τ) → (RH K G H) → (t σ G R) → (UpB K H R Q) → C) : C := by obtain ⟨σ, G, R, q0, q1, q2, q3⟩ := z; exact f _ _ _ q0 q1 q2 q3
def lowA (K : PySem.W.Frag) (t : A3) : TA := fun τ H Q => ∃ σ G R, RSt K H σ τ ∧ RH K G H ∧ t σ G R ∧ UpA K H R Q
theorem lowA.un {K : PySem.W.Frag} {t : A3} {τ : L2.St} {H : Hp} {Q : List V → Hp → Prop} {C : Prop} (z : lowA K t τ H Q) (f : ∀ σ G R, (RSt K H σ τ) → (RH K G H) → (t σ G R) → (UpA K H R Q) → C) : C := by obtain ⟨σ, G, R, q0, q1, q2, q3⟩ := z; exact f _ _ _ q0 q1 q2 q3
def lowS (K : PySem.W.Frag) (t : X3) : TS := fun D τ H => ∃ σ G nx rt bk ct, RSt K H σ τ ∧ RH K G H ∧ t nx rt bk ct σ G ∧ UpS K H nx D.nx ∧ UpV K H rt D.rt ∧ UpS K H bk D.bk ∧ UpS K H ct D.ct
theorem lowS.un {K : PySem.W.Frag} {t : X3} {D : Ends} {τ : L2.St} {H : Hp} {C : Prop} (z : lowS K t D τ H) (f : ∀ σ G nx rt bk ct, (RSt K H σ τ) → (RH K G H) → (t nx rt bk ct σ G) → (UpS K H nx D.nx) → (UpV K H rt D.rt) → (UpS K H bk D.bk) → (UpS K H ct D.ct) → C) : C := by obtain ⟨σ, G, nx, rt, bk, ct, q0, q1, q2, q3, q4, q5, q6⟩ := z; exact f _ _ _ _ _ _ q0 q1 q2 q3 q4 q5 q6
structure QE (X : Cx) (e : Expr) (t : E3) : Prop where
  p : PE X e (low X.K t)
structure QT (X : Cx) (e : Expr) (t : T3) : Prop where
  p : PT X e (lowT X.K t)
structure QW (X : Cx) (e : Expr) (t : T3) : Prop where
  p : PW X e (lowT X.K t)
structure QA (X : Cx) (es : List Expr) (t : A3) : Prop where
  p : PA X es (lowA X.K t)
structure QS (X : Cx) (st : Stmt) (t : X3) : Prop where
  p : PS X st (lowS X.K t)
structure QSs (X : Cx) (st : List Stmt) (t : X3) : Prop where
  p : PSs X st (lowS X.K t)
theorem QW.qt {X : Cx} {e : Expr} {t : T3} (h : QW X e t) : QT X e t := ⟨PW.pt h.p⟩
section
variable {X : Cx} {e : Expr} {es : List Expr} {st : Stmt} {sts : List Stmt}
theorem peImp {t t' : TE} (h : PE X e t') (i : ∀ σ H Q, t σ H Q → t' σ H Q) : PE X e t := fun pins s σ H Q I q => h pins s σ H Q I (i σ H Q q)
theorem ptImp {t t' : TT} (h : PT X e t') (i : ∀ σ H Q, t σ H Q → t' σ H Q) : PT X e t := fun pins s σ H Q I q => h pins s σ H Q I (i σ H Q q)
theorem pwImp {t t' : TT} (h : PW X e t') (i : ∀ σ H Q, t σ H Q → t' σ H Q) : PW X e t := fun w pins s σ H Q I q => h w pins s σ H Q I (i σ H Q q)
theorem paImp {t t' : TA} (h : PA X es t') (i : ∀ σ H Q, t σ H Q → t' σ H Q) : PA X es t := fun pos pins s σ H Q I q => h pos pins s σ H Q I (i σ H Q q)
theorem psImp {t t' : TS} (h : PS X st t') (i : ∀ D σ H, t D σ H → t' D σ H) : PS X st t := fun pins s σ H D I q => h pins s σ H D I (i D σ H q)
theorem pssImp {t t' : TS} (h : PSs X sts t') (i : ∀ D σ H, t D σ H → t' D σ H) : PSs X sts t := fun pins s σ H D I q => h pins s σ H D I (i D σ H q)
end
end L3
namespace L3
open PySem PySem.Spec PyProof.Rows L2
abbrev R3 := Z → Z → Hq → K3 → Prop
def low2 (K : PySem.W.Frag) (r : R3) : R2 := fun x y H Q => ∃ a b G R, Rep K H a x ∧ Rep K H b y ∧ RH K G H ∧ r a b G R ∧ UpV K H R Q
theorem low2.un {K : PySem.W.Frag} {r : R3} {x y : V} {H : Hp} {Q : VK} {C : Prop} (z : low2 K r x y H Q) (f : ∀ a b G R, (Rep K H a x) → (Rep K H b y) → (RH K G H) → (r a b G R) → (UpV K H R Q) → C) : C := by obtain ⟨a, b, G, R, q0, q1, q2, q3, q4⟩ := z; exact f _ _ _ _ q0 q1 q2 q3 q4
def low1 (K : PySem.W.Frag) (r : Z → Hq → K3 → Prop) : V → Hp → VK → Prop := fun x H Q => ∃ a G R, Rep K H a x ∧ RH K G H ∧ r a G R ∧ UpV K H R Q
theorem low1.un {K : PySem.W.Frag} {r : Z → Hq → K3 → Prop} {x : V} {H : Hp} {Q : VK} {C : Prop} (z : low1 K r x H Q) (f : ∀ a G R, (Rep K H a x) → (RH K G H) → (r a G R) → (UpV K H R Q) → C) : C := by obtain ⟨a, G, R, q0, q1, q2, q3⟩ := z; exact f _ _ _ q0 q1 q2 q3
def lowC (K : PySem.W.Frag) (r : List Z → Hq → K3 → Prop) : List V → Hp → VK → Prop := fun xs H Q => ∃ ws G R, Reps K H ws xs ∧ RH K G H ∧ r ws G R ∧ UpV K H R Q
theorem lowC.un {K : PySem.W.Frag} {r : List Z → Hq → K3 → Prop} {xs : List V} {H : Hp} {Q : VK} {C : Prop} (z : lowC K r xs H Q) (f : ∀ ws G R, (Reps K H ws xs) → (RH K G H) → (r ws G R) → (UpV K H R Q) → C) : C := by obtain ⟨ws, G, R, q0, q1, q2, q3⟩ := z; exact f _ _ _ q0 q1 q2 q3
def lowM (K : PySem.W.Frag) (r : Z → List Z → Hq → K3 → Prop) : V → List V → Hp → VK → Prop := fun x xs H Q => ∃ w ws G R, Rep K H w x ∧ Reps K H ws xs ∧ RH K G H ∧ r w ws G R ∧ UpV K H R Q
theorem lowM.un {K : PySem.W.Frag} {r : Z → List Z → Hq → K3 → Prop} {x : V} {xs : List V} {H : Hp} {Q : VK} {C : Prop} (z : lowM K r x xs H Q) (f : ∀ w ws G R, (Rep K H w x) → (Reps K H ws xs) → (RH K G H) → (r w ws G R) → (UpV K H R Q) → C) : C := by obtain ⟨w, ws, G, R, q0, q1, q2, q3, q4⟩ := z; exact f _ _ _ _ q0 q1 q2 q3 q4
def OpQ (X : Cx) (f : Value → Value → Sem Value) (r : R3) : Prop := OpR X f (low2 X.K r)
def UnQ (X : Cx) (f : Value → Sem Value) (r : Z → Hq → K3 → Prop) : Prop := UnR X f (low1 X.K r)
def CallQ (X : Cx) (f : Value) (r : List Z → Hq → K3 → Prop) : Prop := CallR X f (lowC X.K r)
def IxQ (X : Cx) (r : R3) : Prop := IxR X (low2 X.K r)
def MtQ (X : Cx) (id : String) (r : Z → List Z → Hq → K3 → Prop) : Prop := MtR X id (lowM X.K r)
theorem opImp {X : Cx} {f : Value → Value → Sem Value} {r r' : R2} (h : OpR X f r') (i : ∀ x y H Q, r x y H Q → r' x y H Q) : OpR X f r := fun pins s σ H x y v u Q I rx ry q => h pins s σ H x y v u Q I rx ry (i x y H Q q)
theorem unImp {X : Cx} {f : Value → Sem Value} {r r' : V → Hp → VK → Prop} (h : UnR X f r') (i : ∀ x H Q, r x H Q → r' x H Q) : UnR X f r := fun pins s σ H x v Q I rx q => h pins s σ H x v Q I rx (i x H Q q)
theorem callImp {X : Cx} {f : Value} {r r' : List V → Hp → VK → Prop} (h : CallR X f r') (i : ∀ xs H Q, r xs H Q → r' xs H Q) : CallR X f r := fun pins s σ H xs us Q I rx q => h pins s σ H xs us Q I rx (i xs H Q q)
theorem ixImp {X : Cx} {r r' : R2} (h : IxR X r') (i : ∀ x y H Q, r x y H Q → r' x y H Q) : IxR X r := fun a b pins s σ H x y v u Q I rx ry q => h a b pins s σ H x y v u Q I rx ry (i x y H Q q)
theorem mtImp {X : Cx} {id : String} {r r' : V → List V → Hp → VK → Prop} (h : MtR X id r') (i : ∀ x xs H Q, r x xs H Q → r' x xs H Q) : MtR X id r := fun pins s σ H x xs v us Q I rx rs q => h pins s σ H x xs v us Q I rx rs (i x xs H Q q)
def uVar (i : Nat) : E3 := fun σ G R => ∃ w, σ[i]? = some (some w) ∧ R w G
def uC (w : Z) : E3 := fun _ G R => R w G
section
variable {X : Cx} {e a b c : Expr} {pos : Pos} {ta tb tc : E3}
theorem q_var {i : Nat} (h : PE X e (tVar i)) : QE X e (uVar i) := ⟨peImp h fun τ H Q ⟨σ, G, R, hs, hg, ⟨w, e, q⟩, up⟩ => by
  obtain ⟨v, e', r⟩ := hs.get e
  exact ⟨v, e', up w G v H q r hg (.refl _ _)⟩⟩
theorem q_con {v : V} {w : Z} (h : PE X e (tC v)) (hr : ∀ H, Rep X.K H w v) : QE X e (uC w) := ⟨peImp h fun τ H Q hx => hx.un fun σ G R hs hg q up => up w G v H q (hr H) hg (.refl _ _)⟩
theorem q_int {i j pos} : QE X (.Constant (.int i) j pos) (uC (.int i)) := q_con pe_int fun _ => by rw [rep_int]
theorem q_bl {b j pos} : QE X (.Constant (.bool b) j pos) (uC (.bl b)) := q_con pe_bl fun _ => by rw [rep_bl]
theorem q_non {j pos} : QE X (.Constant .none j pos) (uC .non) := q_con pe_non fun _ => by rw [rep_non]
theorem q_str {x j pos} : QE X (.Constant (.str x) j pos) (uC (.str x)) := q_con pe_str fun _ => by rw [rep_str]
theorem q_gint {i : Int} (h : PE X e (tC (.int i))) : QE X e (uC (.int i)) := q_con h fun _ => by rw [rep_int]
theorem q_ty {n : String} (h : PE X e (tC (.ty n))) : QE X e (uC (.ty n)) := q_con h fun _ => by rw [rep_ty]
def uOp (r : R3) (ta tb : E3) : E3 := fun σ G R => ta σ G fun x G1 => tb σ G1 fun y G2 => r x y G2 R
def uUn (r : Z → Hq → K3 → Prop) (ta : E3) : E3 := fun σ G R => ta σ G fun x G1 => r x G1 R
theorem low_op {K : PySem.W.Frag} {r : R3} {τ : L2.St} {H : Hp} {Q : VK} (h : low K (uOp r ta tb) τ H Q) : tOp (low2 K r) (low K ta) (low K tb) τ H Q := by
  obtain ⟨σ, G, R, hs, hg, h, up⟩ := h
  refine ⟨σ, G, _, hs, hg, h, fun w G1 v H1 h1 rv hg1 t1 => ?_⟩
  refine ⟨σ, G1, _, hs.mono t1, hg1, h1, fun w' G2 v' H2 h2 rv' hg2 t2 => ?_⟩
  exact ⟨w, w', G2, R, rv.mono t2, rv', hg2, h2, up.mono (t1.trans t2)⟩
theorem low_un {K : PySem.W.Frag} {r : Z → Hq → K3 → Prop} {τ : L2.St} {H : Hp} {Q : VK} (h : low K (uUn r ta) τ H Q) : tUn (low1 K r) (low K ta) τ H Q := by
  obtain ⟨σ, G, R, hs, hg, h, up⟩ := h
  exact ⟨σ, G, _, hs, hg, h, fun w G1 v H1 h1 rv hg1 t1 => ⟨w, G1, R, rv, hg1, h1, up.mono t1⟩⟩
theorem q_op {op : Operator} {r : R3} (ho : OpQ X (binaryOp op) r) (ha : QE X a ta) (hb : QE X b tb) : QE X (.BinOp a op b pos) (uOp r ta tb) := ⟨peImp (pe_op ho ha.p hb.p) fun _ _ _ => low_op⟩
theorem q_un {op : UnaryOp} {r : Z → Hq → K3 → Prop} (ho : UnQ X (unaryOp op) r) (ha : QE X a ta) : QE X (.UnaryOp op a pos) (uUn r ta) := ⟨peImp (pe_un ho ha.p) fun _ _ _ => low_un⟩
theorem q_cmp {op : CmpOp} {r : R3} (ho : OpQ X (compareOp op) r) (ha : QE X a ta) (hb : QE X b tb) (hm : behindInMarks op b = false) : QE X (.Compare a [op] [b] pos) (uOp r ta tb) := ⟨peImp (pe_cmpR ho ha.p hb.p hm) fun _ _ _ => low_op⟩
def uTest (t : E3) : T3 := fun σ G R => t σ G fun x G1 => ∃ k, x = .bl k ∧ R k G1
theorem low_test {K : PySem.W.Frag} {τ : L2.St} {H : Hp} {Q : Bool → Hp → Prop} (h : lowT K (uTest ta) τ H Q) : low K ta τ H fun x H' => ∃ k, x = .bl k ∧ Q k H' := by
  obtain ⟨σ, G, R, hs, hg, h, up⟩ := h
  refine ⟨σ, G, _, hs, hg, h, fun w G1 v H1 ⟨k, e, h1⟩ rv hg1 t1 => ?_⟩
  subst e
  rw [rep_bl] at rv
  exact ⟨k, rv, up _ _ _ h1 hg1 t1⟩
theorem q_cmpT {op : CmpOp} {r : R3} (ho : OpQ X (compareOp op) r) (ha : QE X a ta) (hb : QE X b tb) (hm : behindInMarks op b = false) : QT X (.Compare a [op] [b] pos) (uTest (uOp r ta tb)) := ⟨ptImp (pt_cmpR ho ha.p hb.p hm) fun _ _ _ h => low_op (low_test h)⟩
def uChain (r r' : R3) (ta tb tc : E3) : E3 := fun σ G R => ta σ G fun x G1 => tb σ G1 fun y G2 => r x y G2 fun z G3 => ∃ k, z = .bl k ∧ (if k = true then tc σ G3 fun w G4 => r' y w G4 R else R (.bl false) G3)
theorem low_chain {K : PySem.W.Frag} {r r' : R3} {τ : L2.St} {H : Hp} {Q : VK} (h : low K (uChain r r' ta tb tc) τ H Q) : tChain (low2 K r) (low2 K r') (low K ta) (low K tb) (low K tc) τ H Q := by
  obtain ⟨σ, G, R, hs, hg, h, up⟩ := h
  refine ⟨σ, G, _, hs, hg, h, fun w G1 v H1 h1 rv hg1 t1 => ?_⟩
  refine ⟨σ, G1, _, hs.mono t1, hg1, h1, fun w' G2 v' H2 h2 rv' hg2 t2 => ?_⟩
  refine ⟨w, w', G2, _, rv.mono t2, rv', hg2, h2, fun z G3 vz H3 ⟨k, ek, h3⟩ rz hg3 t3 => ?_⟩
  subst ek
  rw [rep_bl] at rz
  refine ⟨k, rz, ?_⟩
  cases k with
  | false => exact up _ _ _ _ (by simpa using h3) (by rw [rep_bl]) hg3 ((t1.trans t2).trans t3)
  | true =>
    rw [if_pos rfl] at h3 ⊢
    refine ⟨σ, G3, _, hs.mono ((t1.trans t2).trans t3), hg3, h3, fun w4 G4 v4 H4 h4 r4 hg4 t4 => ?_⟩
    exact ⟨w', w4, G4, R, rv'.mono (t3.trans t4), r4, hg4, h4, up.mono (((t1.trans t2).trans t3).trans t4)⟩
theorem q_chain {op op' : CmpOp} {r r' : R3} (ho : OpQ X (compareOp op) r) (ho' : OpQ X (compareOp op') r') (ha : QE X a ta) (hb : QE X b tb) (hc : QE X c tc)
    (hm : lastMarks [op, op'] [b, c] = false := by with_unfolding_all rfl) : QE X (.Compare a [op, op'] [b, c] pos) (uChain r r' ta tb tc) := ⟨peImp (pe_chain ho ho' ha.p hb.p hc.p hm) fun _ _ _ => low_chain⟩
def uAnd (t u : T3) : T3 := fun σ G R => t σ G fun c G1 => if c = true then u σ G1 R else R false G1
def uOr (t u : T3) : T3 := fun σ G R => t σ G fun c G1 => if c = true then R true G1 else u σ G1 R
def uNot (t : T3) : T3 := fun σ G R => t σ G fun c G1 => R (!c) G1
variable {t u : T3} {rest : List Expr}
theorem q_and1 (ha : QT X a t) : QW X (.BoolOp .And [a] pos) t := ⟨pw_and1 ha.p⟩
theorem q_or1 (ha : QT X a t) : QW X (.BoolOp .Or [a] pos) t := ⟨pw_or1 ha.p⟩
theorem q_and (ha : QT X a t) (hb : QW X (.BoolOp .And (b :: rest) pos) u) : QW X (.BoolOp .And (a :: b :: rest) pos) (uAnd t u) := ⟨pwImp (pw_and ha.p hb.p) fun τ H Q hx => hx.un fun σ G R hs hg h up => by
  refine ⟨σ, G, _, hs, hg, h, fun k G1 H1 h1 hg1 t1 => ?_⟩
  cases k with
  | false => exact up _ _ _ (by simpa using h1) hg1 t1
  | true => rw [if_pos rfl] at h1 ⊢; exact ⟨σ, G1, R, hs.mono t1, hg1, h1, up.mono t1⟩⟩
theorem q_or (ha : QT X a t) (hb : QW X (.BoolOp .Or (b :: rest) pos) u) : QW X (.BoolOp .Or (a :: b :: rest) pos) (uOr t u) := ⟨pwImp (pw_or ha.p hb.p) fun τ H Q hx => hx.un fun σ G R hs hg h up => by
  refine ⟨σ, G, _, hs, hg, h, fun k G1 H1 h1 hg1 t1 => ?_⟩
  cases k with
  | true => exact up _ _ _ (by simpa using h1) hg1 t1
  | false => rw [if_neg (by decide)] at h1 ⊢; exact ⟨σ, G1, R, hs.mono t1, hg1, h1, up.mono t1⟩⟩
theorem q_notT (ha : QT X a t) : QT X (.UnaryOp .Not a pos) (uNot t) := ⟨ptImp (pt_not ha.p) fun τ H Q hx => hx.un fun σ G R hs hg h up =>
  ⟨σ, G, _, hs, hg, h, fun k G1 H1 h1 hg1 t1 => up _ _ _ h1 hg1 t1⟩⟩
def uAndV (ta tb : E3) : E3 := fun σ G R => ta σ G fun x G1 => ∃ c, x = .bl c ∧ if c = true then tb σ G1 R else R (.bl false) G1
def uOrV (ta tb : E3) : E3 := fun σ G R => ta σ G fun x G1 => ∃ c, x = .bl c ∧ if c = true then R (.bl true) G1 else tb σ G1 R
def uNotV (ta : E3) : E3 := fun σ G R => ta σ G fun x G1 => ∃ c, x = .bl c ∧ R (.bl (!c)) G1
theorem q_one {op} (h : QE X a ta) : QE X (.BoolOp op [a] pos) ta := ⟨pe_one h.p⟩
theorem q_andV (ha : QE X a ta) (hb : QE X (.BoolOp .And (b :: rest) pos) tb) : QE X (.BoolOp .And (a :: b :: rest) pos) (uAndV ta tb) := ⟨peImp (pe_and ha.p hb.p) fun τ H Q hx => hx.un fun σ G R hs hg h up => by
  refine ⟨σ, G, _, hs, hg, h, fun x G1 v H1 ⟨k, ek, h1⟩ rv hg1 t1 => ?_⟩
  subst ek
  rw [rep_bl] at rv
  refine ⟨k, rv, ?_⟩
  cases k with
  | false => exact up _ _ _ _ (by simpa using h1) (by rw [rep_bl]) hg1 t1
  | true => rw [if_pos rfl] at h1 ⊢; exact ⟨σ, G1, R, hs.mono t1, hg1, h1, up.mono t1⟩⟩
theorem q_not (ha : QE X a ta) : QE X (.UnaryOp .Not a pos) (uNotV ta) := ⟨peImp (pe_not ha.p) fun τ H Q hx => hx.un fun σ G R hs hg h up => by
  refine ⟨σ, G, _, hs, hg, h, fun x G1 v H1 ⟨k, ek, h1⟩ rv hg1 t1 => ?_⟩
  subst ek
  rw [rep_bl] at rv
  exact ⟨k, rv, up _ _ _ _ h1 (by rw [rep_bl]) hg1 t1⟩⟩
def uIf (t : T3) (ta tb : E3) : E3 := fun σ G R => t σ G fun c G1 => if c = true then ta σ G1 R else tb σ G1 R
theorem q_if (hc : QT X c t) (ha : QE X a ta) (hb : QE X b tb) : QE X (.IfExp c a b pos) (uIf t ta tb) := ⟨peImp (pe_ifExp hc.p ha.p hb.p) fun τ H Q hx => hx.un fun σ G R hs hg h up => by
  refine ⟨σ, G, _, hs, hg, h, fun k G1 H1 h1 hg1 t1 => ?_⟩
  cases k with
  | true => rw [if_pos rfl] at h1 ⊢; exact ⟨σ, G1, R, hs.mono t1, hg1, h1, up.mono t1⟩
  | false => rw [if_neg (by decide)] at h1 ⊢; exact ⟨σ, G1, R, hs.mono t1, hg1, h1, up.mono t1⟩⟩
def tru : Z → Hq → (Bool → Hq → Prop) → Prop
  | .non, G, R => R false G
  | .bl b, G, R => R b G
  | .int i, G, R => R (i != 0) G
  | .str y, G, R => y.length ≤ sizeLine ∧ R ((y.length : Int) != 0) G
  | .tup ws, G, R => R (!ws.isEmpty) G
  | .scr _ ns, G, R => R (!ns.isEmpty) G
  | .ref p, G, R => (∃ ws, G p = some (.lst ws) ∧ R (!ws.isEmpty) G) ∨ ∃ kvs, G p = some (.dK kvs) ∧ R (!kvs.isEmpty) G
  | .ty _, _, _ => False
def uTru (ta : E3) : T3 := fun σ G R => ta σ G fun x G1 => tru x G1 R
theorem isEmpty_len {α β : Type} {a : List α} {b : List β} (h : a.length = b.length) : a.isEmpty = b.isEmpty := by
  cases a <;> cases b <;> simp_all
theorem tru_low {K : PySem.W.Frag} {w : Z} {v : V} {G : Hq} {H : Hp} {R : Bool → Hq → Prop} {Q : Bool → Hp → Prop} (h : tru w G R) (r : Rep K H w v) (hg : RH K G H) (up : UpB K H R Q) : ∃ k, TruV K v H k ∧ Q k H := by
  cases w with
  | non => rw [rep_non] at r; subst r; exact ⟨_, rfl, up _ _ _ h hg (.refl _ _)⟩
  | bl b => rw [rep_bl] at r; subst r; exact ⟨_, rfl, up _ _ _ h hg (.refl _ _)⟩
  | int i => rw [rep_int] at r; subst r; exact ⟨_, rfl, up _ _ _ h hg (.refl _ _)⟩
  | str y => rw [rep_str] at r; subst r; exact ⟨_, ⟨h.1, rfl⟩, up _ _ _ h.2 hg (.refl _ _)⟩
  | ty n => exact False.elim h
  | scr a ns => rw [rep_scr] at r; obtain ⟨rfl, f⟩ := r; exact ⟨!ns.isEmpty, .inl ⟨_, f.sq, by rw [isEmpty_len (List.length_map ..).symm]⟩, up _ _ _ h hg (.refl _ _)⟩
  | tup ws =>
    rw [rep_tup] at r
    obtain ⟨a, vs, rfl, e, rs⟩ := r
    exact ⟨!ws.isEmpty, .inr (.inl ⟨vs, SqT.of e, by rw [isEmpty_len rs.length]⟩), up _ _ _ h hg (.refl _ _)⟩
  | ref p =>
    rw [rep_ref] at r
    subst r
    rcases h with ⟨ws, e, h⟩ | ⟨kvs, e, h⟩
    · obtain ⟨vs, e', rs⟩ := hg p _ e
      exact ⟨_, .inl ⟨vs, SqL.of e', by rw [← isEmpty_len rs.length]⟩, up _ _ _ h hg (.refl _ _)⟩
    · obtain ⟨us, e', hn, rs⟩ := hg p _ e
      exact ⟨_, .inr (.inr ⟨us, e', by rw [isEmpty_len (show kvs.length = us.length by rw [← List.length_map (f := (·.2)) (as := kvs), rs.length, List.length_map])]⟩), up _ _ _ h hg (.refl _ _)⟩
theorem q_tru (ha : QE X a ta) (he : ∀ whole, isTrue a X.env whole = (do let v ← whole; standAt a.pos; holding [v] (truthy v))) : QT X a (uTru ta) := ⟨ptImp (pt_truth ha.p he) fun τ H Q hx => hx.un fun σ G R hs hg h up =>
  ⟨σ, G, _, hs, hg, h, fun w G1 v H1 h1 rv hg1 t1 => tru_low h1 rv hg1 (up.mono t1)⟩⟩
theorem q_val (ha : QE X a ta) (he : ∀ whole, isTrue a X.env whole = (do let v ← whole; standAt a.pos; holding [v] (truthy v)) := by intro _; rfl) : QT X a (uTest ta) := ⟨ptImp (pt_val ha.p he) fun _ _ _ h => low_test h⟩
end
section
variable {env : Env} {es : List Expr} {pos : Pos}
theorem se_Constant {c k p} : starEach (.Constant c k p :: es) env = (false, eval (.Constant c k p) env) :: starEach es env := rfl
theorem se_Name {x p} : starEach (.Name x p :: es) env = (false, eval (.Name x p) env) :: starEach es env := rfl
theorem se_BinOp {a o b p} : starEach (.BinOp a o b p :: es) env = (false, eval (.BinOp a o b p) env) :: starEach es env := rfl
theorem se_UnaryOp {o a p} : starEach (.UnaryOp o a p :: es) env = (false, eval (.UnaryOp o a p) env) :: starEach es env := rfl
theorem se_Compare {a o b p} : starEach (.Compare a o b p :: es) env = (false, eval (.Compare a o b p) env) :: starEach es env := rfl
theorem se_List {a p} : starEach (.List a p :: es) env = (false, eval (.List a p) env) :: starEach es env := rfl
theorem se_Tuple {a k p} : starEach (.Tuple a k p :: es) env = (false, eval (.Tuple a k p) env) :: starEach es env := rfl
theorem se_Subscript {a b p} : starEach (.Subscript a b p :: es) env = (false, eval (.Subscript a b p) env) :: starEach es env := rfl
theorem se_Attribute {a b p} : starEach (.Attribute a b p :: es) env = (false, eval (.Attribute a b p) env) :: starEach es env := rfl
theorem se_Call {a b c p} : starEach (.Call a b c p :: es) env = (false, eval (.Call a b c p) env) :: starEach es env := rfl
theorem se_ListComp {a b c p} : starEach (.ListComp a b c p :: es) env = (false, eval (.ListComp a b c p) env) :: starEach es env := rfl
theorem hp_nil : (backTo pos (starEach [] env)).any (·.1) = false := rfl
theorem hp_cons {e : Expr} (h : starEach (e :: es) env = (false, eval e env) :: starEach es env) (r : (backTo pos (starEach es env)).any (·.1) = false) : (backTo pos (starEach (e :: es) env)).any (·.1) = false := by
  rw [h]
  show (false || (backTo pos (starEach es env)).any (·.1)) = false
  rw [r]; rfl
end
section
variable {X : Cx} {e a b : Expr} {es : List Expr} {pos p2 : Pos} {te ta tb : E3} {t : A3}
theorem q_ix {r : R3} (hr : IxQ X r) (ha : QE X a ta) (hb : QE X b tb) (hs : PlainIx b) : QE X (.Subscript a b pos) (uOp r ta tb) := ⟨peImp (pe_ix hr ha.p hb.p hs) fun _ _ _ => low_op⟩
abbrev O3 := S3 → Hq → (Option Int → Hq → Prop) → Prop
def uNoPart : O3 := fun _ G R => R none G
def uPart (t : E3) : O3 := fun σ G R => t σ G fun x G1 => ∃ i, x = .int i ∧ R (some i) G1
def lowO (K : PySem.W.Frag) (t : O3) : TO := fun τ H Q => ∃ σ G R, RSt K H σ τ ∧ RH K G H ∧ t σ G R ∧ ∀ o G' H', R o G' → RH K G' H' → TK K H H' → Q o H'
theorem lowO.un {K : PySem.W.Frag} {t : O3} {τ : L2.St} {H : Hp} {Q : Option Int → Hp → Prop} {C : Prop} (z : lowO K t τ H Q) (f : ∀ σ G R, (RSt K H σ τ) → (RH K G H) → (t σ G R) → (∀ o G' H', R o G' → RH K G' H' → TK K H H' → Q o H') → C) : C := by obtain ⟨σ, G, R, q0, q1, q2, q3⟩ := z; exact f _ _ _ q0 q1 q2 q3
def QO (X : Cx) (e : Option Expr) (t : O3) : Prop := PO X e (lowO X.K t)
theorem q_nopart : QO X none uNoPart := fun pins s τ H Q I ⟨σ, G, R, hs, hg, h, up⟩ => po_none pins s τ H Q I (up _ _ _ h hg (.refl _ _))
theorem q_part (h : QE X e te) : QO X (some e) (uPart te) := fun pins s τ H Q I ⟨σ, G, R, hs, hg, q, up⟩ => po_some h.p pins s τ H Q I ⟨σ, G, _, hs, hg, q, fun w G1 v H1 ⟨i, ei, h1⟩ rv hg1 t1 => by
  subst ei
  rw [rep_int] at rv
  exact ⟨i, rv, up _ _ _ h1 hg1 t1⟩⟩
abbrev L3r := Z → Option Int → Option Int → Hq → K3 → Prop
def lowL (K : PySem.W.Frag) (r : L3r) : V → Option Int → Option Int → Hp → VK → Prop := fun x lo hi H Q => ∃ w G R, Rep K H w x ∧ RH K G H ∧ r w lo hi G R ∧ UpV K H R Q
theorem lowL.un {K : PySem.W.Frag} {r : L3r} {x : V} {lo hi : Option Int} {H : Hp} {Q : VK} {C : Prop} (z : lowL K r x lo hi H Q) (f : ∀ w G R, (Rep K H w x) → (RH K G H) → (r w lo hi G R) → (UpV K H R Q) → C) : C := by obtain ⟨w, G, R, q0, q1, q2, q3⟩ := z; exact f _ _ _ q0 q1 q2 q3
def SlQ (X : Cx) (r : L3r) : Prop := SlR X (lowL X.K r)
theorem slImp {r r' : V → Option Int → Option Int → Hp → VK → Prop} (h : SlR X r') (i : ∀ x lo hi H Q, r x lo hi H Q → r' x lo hi H Q) : SlR X r := fun pins s σ H x v vl vu lo hi sl Q I rx hs pl pu q => h pins s σ H x v vl vu lo hi sl Q I rx hs pl pu (i _ _ _ _ _ q)
def uSl (r : L3r) (te : E3) (tl th : O3) : E3 := fun σ G R => te σ G fun x G1 => tl σ G1 fun l G2 => th σ G2 fun u G3 => r x l u G3 R
theorem q_slice {r : L3r} {lo hi : Option Expr} {tl th : O3} (hr : SlQ X r) (he : QE X e te) (hl : QO X lo tl) (hu : QO X hi th) : QE X (.Subscript e (.Slice lo hi none p2) pos) (uSl r te tl th) := ⟨peImp (pe_slice hr he.p hl hu) fun τ H Q hx => hx.un fun σ G R hs hg h up =>
  ⟨σ, G, _, hs, hg, h, fun w G1 v H1 h1 rv hg1 t1 => ⟨σ, G1, _, hs.mono t1, hg1, h1, fun l G2 H2 h2 hg2 t2 => ⟨σ, G2, _, hs.mono (t1.trans t2), hg2, h2, fun u G3 H3 h3 hg3 t3 =>
    ⟨w, G3, R, rv.mono (t2.trans t3), hg3, h3, up.mono ((t1.trans t2).trans t3)⟩⟩⟩⟩⟩
def uNil : A3 := fun _ G R => R [] G
def uCons (ta : E3) (tr : A3) : A3 := fun σ G R => ta σ G fun x G1 => tr σ G1 fun xs G2 => R (x :: xs) G2
theorem q_nil : QA X [] uNil := ⟨paImp pa_nil fun τ H Q hx => hx.un fun σ G R hs hg h up => up _ _ _ _ h .nil hg (.refl _ _)⟩
theorem q_cons (ha : QE X e te) (hr : QA X es t) (hs : starEach (e :: es) X.env = (false, eval e X.env) :: starEach es X.env := by rfl) : QA X (e :: es) (uCons te t) := ⟨paImp (pa_cons ha.p hr.p hs) fun τ H Q hx => hx.un fun σ G R hs hg h up =>
  ⟨σ, G, _, hs, hg, h, fun w G1 v H1 h1 rv hg1 t1 => ⟨σ, G1, _, hs.mono t1, hg1, h1, fun ws G2 vs H2 h2 rs hg2 t2 => up _ _ _ _ h2 (.cons (rv.mono t2) rs) hg2 (t1.trans t2)⟩⟩⟩
def uTup (t : A3) : E3 := fun σ G R => t σ G fun xs G1 => xs.length ≤ sizeLine ∧ R (.tup xs) G1
def uLst (t : A3) : E3 := fun σ G R => t σ G fun xs G1 => xs.length ≤ sizeLine ∧ ∀ p, G1 p = none → R (.ref p) (put G1 p (.lst xs))
theorem q_tup {x1} (h : QA X es t) : QE X (.Tuple es x1 pos) (uTup t) := ⟨peImp (pe_tup h.p) fun τ H Q hx => hx.un fun σ G R hs hg h up =>
  ⟨σ, G, _, hs, hg, h, fun ws G1 vs H1 ⟨hz, h1⟩ rv hg1 t1 => ⟨by rw [← rv.length]; exact hz, fun p hp => up _ _ _ _ h1 (by rw [rep_tup]; exact ⟨p, vs, rfl, upd_same, rv.mono (.new hp)⟩) (hg1.hid hp) (t1.trans (.new hp))⟩⟩⟩
theorem rob_lst {K : PySem.W.Frag} {H : Hp} {p : Addr} {ws : List Z} {vs : List V} (r : Reps K H ws vs) (t : TK K H (upd H p (.lst vs))) : ROb K (upd H p (.lst vs)) p (.lst ws) := ⟨vs, upd_same, r.mono t⟩
theorem q_lst (h : QA X es t) : QE X (.List es pos) (uLst t) := ⟨peImp (pe_lst h.p) fun τ H Q hx => hx.un fun σ G R hs hg h up =>
  ⟨σ, G, _, hs, hg, h, fun ws G1 vs H1 ⟨hz, h1⟩ rv hg1 t1 => ⟨by rw [← rv.length]; exact hz, fun p hp => up _ _ _ _ (h1 p (hg1.out hp)) (by rw [rep_ref]) (hg1.set (.new hp) (rob_lst rv (.new hp))) (t1.trans (.new hp))⟩⟩⟩
def uCB (r : List Z → Hq → K3 → Prop) (t : A3) : E3 := fun σ G R => t σ G fun ws G1 => r ws G1 R
theorem low_cb {K : PySem.W.Frag} {r : List Z → Hq → K3 → Prop} {τ : L2.St} {H : Hp} {Q : VK} (h : low K (uCB r t) τ H Q) : tCB (lowC K r) (lowA K t) τ H Q := by
  obtain ⟨σ, G, R, hs, hg, h, up⟩ := h
  exact ⟨σ, G, _, hs, hg, h, fun ws G1 vs H1 h1 rs hg1 t1 => ⟨ws, G1, R, rs, hg1, h1, up.mono t1⟩⟩
variable {x : Str} {p : Pos} {id T : String} {r : List Z → Hq → K3 → Prop}
theorem q_callB (hc : CallQ X (.builtin id) r) (hg : Gl X x) (hm : X.mg x = none) (hv : bootBuiltins x = some (.builtin id)) (ha : QA X (e :: es) t) (hn : x ≠ "__name__" := by decide) (hdb : (x == ("__debug__" : Str)) = false := by decide)
    (he : starEach (e :: es) X.env = (false, eval e X.env) :: starEach es X.env := by rfl) (hpl : (backTo pos (starEach es X.env)).any (·.1) = false := by rfl) : QE X (.Call (.Name x p) (e :: es) [] pos) (uCB r t) := ⟨peImp (pe_callB hc hg hm hv ha.p hn hdb he hpl) fun _ _ _ => low_cb⟩
theorem q_callTy (hc : CallQ X (.type T) r) (hg : Gl X x) (hm : X.mg x = none) (hv : bootBuiltins x = some (.type T)) (ha : QA X (e :: es) t) (hn : x ≠ "__name__" := by decide) (hdb : (x == ("__debug__" : Str)) = false := by decide)
    (he : starEach (e :: es) X.env = (false, eval e X.env) :: starEach es X.env := by rfl) (hpl : (backTo pos (starEach es X.env)).any (·.1) = false := by rfl) : QE X (.Call (.Name x p) (e :: es) [] pos) (uCB r t) := ⟨peImp (pe_callTy hc hg hm hv ha.p hn hdb he hpl) fun _ _ _ => low_cb⟩
def tyZ (T : String) (x : Z) (G : Hq) : Prop := match x with
  | .str _ => T = "str"
  | .int _ => T = "int"
  | .ref p => (T = "list" ∧ ∃ ws, G p = some (.lst ws)) ∨ (T = "dict" ∧ ∃ kvs, G p = some (.dK kvs))
  | .scr _ _ => T = "list"
  | _ => False
theorem tyZ_low {K : PySem.W.Frag} {G : Hq} {H : Hp} {w : Z} {v : V} (h : tyZ T w G) (r : Rep K H w v) (hg : RH K G H) : tyV K T v H := by
  cases w with
  | str y => rw [rep_str] at r; subst r; exact h
  | int y => rw [rep_int] at r; subst r; exact h
  | ref q =>
    rw [rep_ref] at r
    subst r
    rcases h with ⟨e, ws, g⟩ | ⟨e, kvs, g⟩
    · obtain ⟨vs, e', _⟩ := hg q _ g; exact .inl ⟨e, vs, SqL.of e'⟩
    · obtain ⟨vs, e', _⟩ := hg q _ g; exact .inr (.inr (.inl ⟨e, .inl ⟨vs, e'⟩⟩))
  | scr q ns => rw [rep_scr] at r; obtain ⟨rfl, f⟩ := r; exact .inl ⟨h, _, f.sq⟩
  | _ => exact False.elim h
def uBM0 (T : String) (r : Z → List Z → Hq → K3 → Prop) (to : E3) : E3 := fun σ G R => to σ G fun x G1 => tyZ T x G1 ∧ r x [] G1 R
def uBM (T : String) (r : Z → List Z → Hq → K3 → Prop) (to : E3) (t : A3) : E3 := fun σ G R => to σ G fun x G1 => tyZ T x G1 ∧ t σ G1 fun xs G2 => r x xs G2 R
variable {o : Expr} {to : E3} {name : Str} {apos cpos : Pos} {rm : Z → List Z → Hq → K3 → Prop}
theorem q_bm (pa : PlainAttrs T) (slot : Slot T name id) (hty : typeOf (.builtin id) = pure (.type "method_descriptor")) (hm : MtQ X id rm) (ho : QE X o to) (ha : QA X (e :: es) t)
    (hbase : attributeBase o name X.env (eval o X.env) = eval o X.env := by rfl)
    (hfew : ((backTo cpos (starEach (e :: es) X.env)).all (fun x => !x.1) && (backToKw cpos (keywordEach [] X.env)).all (fun x => x.1.isSome)
      && decide ((e :: es).length + ([] : List Keyword).length + (if ([] : List Keyword).isEmpty then 0 else 1) < 30)) = true := by rfl)
    (hline : (apos.endLine == cpos.line) = true := by rfl) (hs : starEach (e :: es) X.env = (false, eval e X.env) :: starEach es X.env := by rfl) (hplain : (backTo cpos (starEach es X.env)).any (·.1) = false := by rfl) :
    QE X (.Call (.Attribute o name apos) (e :: es) [] cpos) (uBM T rm to t) := ⟨peImp (pe_bm pa slot hty hm ho.p ha.p hbase hfew hline hs hplain) fun τ H Q hx => hx.un fun σ G R hs hg h up =>
    ⟨σ, G, _, hs, hg, h, fun w G1 v H1 ⟨ty, h1⟩ rv hg1 t1 => ⟨tyZ_low ty rv hg1, σ, G1, _, hs.mono t1, hg1, h1, fun ws G2 vs H2 h2 rs hg2 t2 => ⟨w, ws, G2, R, rv.mono t2, rs, hg2, h2, up.mono (t1.trans t2)⟩⟩⟩⟩
abbrev P3 := List Z → Hq → K3 → Prop
def lowP (K : PySem.W.Frag) (sp : P3) : Sp := fun vs H Q _ => lowC K sp vs H Q
def uCall (sp : P3) (t : A3) : E3 := fun σ G R => t σ G fun ws G1 => sp ws G1 R
variable {k : Nat} {f : Addr} {fd : FuncData} {ps : List Str} {sp : P3}
theorem q_call (F : FnOk X.prog X.w X.K X.mg X.base CX0 k f fd ps (lowP X.K sp)) (hr : Room k X.A) (hg : Gl X x) (hm : X.mg x = some (.ref f)) (hk : PySem.W.keepIn X.K (.ref f) = true) (hb : Binds X.K fd ps []) (ha : QA X (e :: es) t)
    (hdb : (x == ("__debug__" : Str)) = false := by decide) (he : starEach (e :: es) X.env = (false, eval e X.env) :: starEach es X.env := by rfl) (hpl : (backTo pos (starEach es X.env)).any (·.1) = false := by rfl) :
    QE X (.Call (.Name x p) (e :: es) [] pos) (uCall sp t) := ⟨peImp (pe_call F hr hg hm hk hb .nil pass0 ha.p hdb he hpl) fun τ H Q hx => hx.un fun σ G R hs hg h up => ⟨σ, G, _, hs, hg, h, fun ws G1 vs H1 h1 rs hg1 t1 => ⟨ws, G1, R, by rw [List.append_nil]; exact rs, hg1, h1, up.mono t1⟩⟩⟩
end
end L3
namespace L3
open PySem PySem.Spec PyProof.Rows L2
section
variable {X : Cx} {e c tg : Expr} {st : Stmt} {rest sa sb : List Stmt} {pos : Pos} {te : E3} {t u : X3} {tc : T3}
def uNext : X3 := fun nx _ _ _ σ G => nx σ G
def uSeq (t u : X3) : X3 := fun nx rt bk ct σ G => t (u nx rt bk ct) rt bk ct σ G
theorem z_nil : QSs X [] uNext := ⟨pssImp pss_nil fun D τ H hx => hx.un fun σ G nx rt bk ct hs hg h u1 u2 u3 u4 => u1 _ _ _ _ h hs hg (.refl _ _)⟩
theorem z_cons (h1 : QS X st t) (h2 : QSs X rest u) : QSs X (st :: rest) (uSeq t u) := ⟨pssImp (pss_cons h1.p h2.p) fun D τ H hx => hx.un fun σ G nx rt bk ct hs hg h u1 u2 u3 u4 =>
  ⟨σ, G, _, rt, bk, ct, hs, hg, h, fun σ' G' τ' H' h' hs' hg' t' => ⟨σ', G', nx, rt, bk, ct, hs', hg', h', u1.mono t', u2.mono t', u3.mono t', u4.mono t'⟩, u2, u3, u4⟩⟩
theorem z_one (h1 : QS X st t) : QSs X [st] t := ⟨pss_one h1.p⟩
def uCut (t u : X3) : X3 := fun nx rt bk ct σ G => ∃ M : C3, t M rt bk ct σ G ∧ ∀ σ' G', M σ' G' → u nx rt bk ct σ' G'
theorem z_cut (h1 : QS X st t) (h2 : QSs X rest u) : QSs X (st :: rest) (uCut t u) := ⟨pssImp (pss_cons h1.p h2.p) fun D τ H hx => hx.un fun σ G nx rt bk ct hs hg h0 u1 u2 u3 u4 => by
  obtain ⟨M, h, hM⟩ := h0
  exact ⟨σ, G, M, rt, bk, ct, hs, hg, h, fun σ' G' τ' H' h' hs' hg' t' => ⟨σ', G', nx, rt, bk, ct, hs', hg', hM _ _ h', u1.mono t', u2.mono t', u3.mono t', u4.mono t'⟩, u2, u3, u4⟩⟩
def uBreak : X3 := fun _ _ bk _ σ G => bk σ G
def uCont : X3 := fun _ _ _ ct σ G => ct σ G
def uNever : X3 := fun _ _ _ _ _ _ => False
theorem z_never : QS X st uNever := ⟨fun _ _ _ _ _ _ ⟨_, _, _, _, _, _, _, _, h, _⟩ => h.elim⟩
def uDrop (te : E3) : X3 := fun nx _ _ _ σ G => te σ G fun _ G1 => nx σ G1
theorem z_expr (he : QE X e te) (hs : swapsWith e none pos.line X.env = pure false := by rfl) : QS X (.Expr e pos) (uDrop te) := ⟨psImp (ps_expr he.p hs) fun D τ H hx => hx.un fun σ G nx rt bk ct hs hg h u1 u2 u3 u4 =>
  ⟨σ, G, _, hs, hg, h, fun w G1 v H1 h1 rv hg1 t1 => u1 _ _ _ _ h1 (hs.mono t1) hg1 t1⟩⟩
def uRet (te : E3) : X3 := fun _ rt _ _ σ G => te σ G rt
theorem z_ret (he : QE X e te) : QS X (.Return (some e) pos) (uRet te) := ⟨psImp (ps_ret he.p) fun D τ H hx => hx.un fun σ G nx rt bk ct hs hg h u1 u2 u3 u4 => ⟨σ, G, _, hs, hg, h, u2⟩⟩
def uRetN : X3 := fun _ rt _ _ _ G => rt .non G
def uIfS (c : T3) (t u : X3) : X3 := fun nx rt bk ct σ G => c σ G fun b G1 => if b = true then t nx rt bk ct σ G1 else u nx rt bk ct σ G1
theorem z_if (hc : QT X c tc) (ha : QSs X sa t) (hb : QSs X sb u) : QS X (.If c sa sb pos) (uIfS tc t u) := ⟨psImp (ps_if hc.p ha.p hb.p) fun D τ H hx => hx.un fun σ G nx rt bk ct hs hg h u1 u2 u3 u4 => by
  refine ⟨σ, G, _, hs, hg, h, fun b G1 H1 h1 hg1 t1 => ?_⟩
  cases b with
  | true => rw [if_pos rfl] at h1 ⊢; exact ⟨σ, G1, nx, rt, bk, ct, hs.mono t1, hg1, h1, u1.mono t1, u2.mono t1, u3.mono t1, u4.mono t1⟩
  | false => rw [if_neg (by decide)] at h1 ⊢; exact ⟨σ, G1, nx, rt, bk, ct, hs.mono t1, hg1, h1, u1.mono t1, u2.mono t1, u3.mono t1, u4.mono t1⟩⟩
inductive Pt where
  | nm (i : Nat)
  | tp (is : List Nat)
def gsOf : List Nat → TGs
  | [] => gNil
  | i :: is => gCons (gName i) (gsOf is)
def gP (K : PySem.W.Frag) : Pt → TG
  | .nm i => gName i
  | .tp is => gTup K is.length (gsOf is)
def sets : List Nat → List Z → S3 → S3
  | i :: is, w :: ws, σ => sets is ws (σ.set i (some w))
  | _, _, σ => σ
def bindZ : Pt → Z → S3 → Option S3
  | .nm i, w, σ => some (σ.set i (some w))
  | .tp is, .tup ws, σ => if ws.length = is.length then some (sets is ws σ) else none
  | _, _, _ => none
def Pt.slots : Pt → List Nat
  | .nm i => [i]
  | .tp is => is
def setsV : List Nat → List V → L2.St → L2.St
  | i :: is, w :: ws, σ => setsV is ws (σ.set i (some w))
  | _, _, σ => σ
theorem gsOf_ok {H : Hp} {Q : L2.St → Hp → Prop} : ∀ {is : List Nat} {vs : List V} {τ : L2.St}, vs.length = is.length → Q (setsV is vs τ) H → gsOf is vs τ H Q
  | [], [], _, _, q => ⟨rfl, q⟩
  | i :: is, v :: vs, τ, h, q => ⟨v, vs, rfl, gsOf_ok (is := is) (vs := vs) (by simpa using h) q⟩
  | [], _ :: _, _, h, _ => by simp at h
  | _ :: _, [], _, h, _ => by simp at h
theorem setsV_rep {K : PySem.W.Frag} {H : Hp} : ∀ {is : List Nat} {ws : List Z} {vs : List V} {σ : S3} {τ : L2.St}, Reps K H ws vs → RSt K H σ τ → RSt K H (sets is ws σ) (setsV is vs τ)
  | [], ws, vs, σ, τ, _, h => by unfold sets setsV; exact h
  | i :: is, [], vs, σ, τ, r, h => by rw [reps_nil] at r; subst r; exact h
  | i :: is, w :: ws, vs, σ, τ, r, h => by
    rw [reps_cons] at r
    obtain ⟨v, vs', rfl, r1, r2⟩ := r
    exact setsV_rep (is := is) r2 (h.set r1 i)
theorem setsV_keep : ∀ {is : List Nat} {vs : List V} {τ : L2.St} {j : Nat}, j ∉ is → (setsV is vs τ)[j]? = τ[j]?
  | [], _, _, _, _ => by unfold setsV; rfl
  | i :: is, [], _, _, _ => by unfold setsV; rfl
  | i :: is, v :: vs, τ, j, h => by
    have h1 : j ≠ i := fun z => h (by rw [z]; exact List.mem_cons_self ..)
    have h2 : j ∉ is := fun z => h (List.mem_cons_of_mem _ z)
    show (setsV is vs (τ.set i (some v)))[j]? = τ[j]?
    rw [setsV_keep h2, List.getElem?_set_ne (Ne.symm h1)]
theorem setsV_length : ∀ {is : List Nat} {vs : List V} {τ : L2.St}, (setsV is vs τ).length = τ.length
  | [], _, _ => by unfold setsV; rfl
  | i :: is, [], _ => by unfold setsV; rfl
  | i :: is, v :: vs, τ => by
    show (setsV is vs (τ.set i (some v))).length = τ.length
    rw [setsV_length, List.length_set]
theorem gP_ok {K : PySem.W.Frag} {H : Hp} {pt : Pt} {w : Z} {v : V} {σ σ' : S3} {τ : L2.St} {Q : L2.St → Hp → Prop} (r : Rep K H w v) (hs : RSt K H σ τ) (hb : bindZ pt w σ = some σ')
    (q : ∀ τ', RSt K H σ' τ' → τ'.length = τ.length → (∀ j, j ∉ pt.slots → τ'[j]? = τ[j]?) → Q τ' H) : gP K pt v τ H Q := by
  cases pt with
  | nm i =>
    cases hb
    exact q _ (hs.set r i) (by rw [List.length_set]) fun j hj => by rw [List.getElem?_set_ne]; intro z; exact hj (by rw [z]; exact List.mem_cons_self ..)
  | tp is =>
    cases w with
    | tup ws =>
      rw [rep_tup] at r
      obtain ⟨a, vs, rfl, e, rs⟩ := r
      have hb' : (if ws.length = is.length then some (sets is ws σ) else none) = some σ' := hb
      by_cases hl : ws.length = is.length
      · rw [if_pos hl] at hb'
        cases hb'
        exact ⟨a, vs, rfl, SqT.of e, by rw [← rs.length]; exact hl, gsOf_ok (by rw [← rs.length]; exact hl) (q _ (setsV_rep rs hs) setsV_length fun j hj => setsV_keep hj)⟩
      · rw [if_neg hl] at hb'
        cases hb'
    | _ => cases hb
def QP (X : Cx) (tg : Expr) (pt : Pt) : Prop := PG X tg (gP X.K pt)
def uAsg (te : E3) (pt : Pt) : X3 := fun nx _ _ _ σ G => te σ G fun x G1 => ∃ σ', bindZ pt x σ = some σ' ∧ nx σ' G1
theorem low_asg {D : Ends} {pt : Pt} {K : PySem.W.Frag} {τ : L2.St} {H : Hp} (h : lowS K (uAsg te pt) D τ H) : tAsg (low K te) (gP K pt) D τ H := by
  obtain ⟨σ, G, nx, rt, bk, ct, hs, hg, h, u1, u2, u3, u4⟩ := h
  exact ⟨σ, G, _, hs, hg, h, fun w G1 v H1 ⟨σ', hb, h1⟩ rv hg1 t1 => gP_ok rv (hs.mono t1) hb fun τ' hs' _ _ => u1 _ _ _ _ h1 hs' hg1 t1⟩
theorem z_set {i : Nat} {x : Str} {pos' : Pos} (hN : X.N.Nodup) (hi : X.N[i]? = some x) (hx : Loc X.env.scope x) (he : QE X e te) (hs : swapsWith e (some (.Name x pos')) pos.line X.env = pure false := by rfl) (hf : X.fn x = true ∨ X.env.scope.names.lookup x = some .local := by first | exact .inl rfl | exact .inr rfl | assumption) :
    QS X (.Assign [.Name x pos'] e pos) (uAsg te (.nm i)) := ⟨psImp (ps_set hN hi hx he.p hs hf) fun _ _ _ => low_asg (pt := .nm i)⟩
theorem z_asgP {pt : Pt} (he : QE X e te) (hg : QP X tg pt) (hs : swapsWithSole [tg] e pos.line X.env = pure false := by rfl) (hw : swappedStores [tg] e X.env = pure none := by rfl)
    (h1 : (assignEach [tg] X.env).map (·.2) = [assign tg X.env] := by rfl) : QS X (.Assign [tg] e pos) (uAsg te pt) := ⟨psImp (ps_asg he.p hg hs hw h1) fun _ _ _ => low_asg⟩
abbrev Z3 := Z → Z → Z → Hq → (Hq → Prop) → Prop
def lowZ (K : PySem.W.Frag) (r : Z3) : TSet := fun o i v H Q => ∃ a b w G R, Rep K H a o ∧ Rep K H b i ∧ Rep K H w v ∧ RH K G H ∧ r a b w G R ∧ ∀ G' H', R G' → RH K G' H' → TK K H H' → Q H'
theorem lowZ.un {K : PySem.W.Frag} {r : Z3} {o i v : V} {H : Hp} {Q : Hp → Prop} {C : Prop} (z : lowZ K r o i v H Q) (f : ∀ a b w G R, (Rep K H a o) → (Rep K H b i) → (Rep K H w v) → (RH K G H) → (r a b w G R) → (∀ G' H', R G' → RH K G' H' → TK K H H' → Q H') → C) : C := by obtain ⟨a, b, w, G, R, q0, q1, q2, q3, q4, q5⟩ := z; exact f _ _ _ _ _ q0 q1 q2 q3 q4 q5
def SetQ (X : Cx) (r : Z3) : Prop := PSet X (lowZ X.K r)
theorem setImp {r r' : TSet} (h : PSet X r') (i : ∀ o j v H Q, r o j v H Q → r' o j v H Q) : PSet X r := fun pins s σ H o j v ov iv u Q I ro ri rv q => h pins s σ H o j v ov iv u Q I ro ri rv (i _ _ _ _ _ q)
def uPut (te to ti : E3) (r : Z3) : X3 := fun nx _ _ _ σ G => te σ G fun w G1 => to σ G1 fun o G2 => ti σ G2 fun i G3 => r o i w G3 fun G4 => nx σ G4
theorem z_put {to ti : E3} {r : Z3} (h : PS X st (tAsg (low X.K te) (gSub (low X.K to) (low X.K ti) (lowZ X.K r)))) : QS X st (uPut te to ti r) := ⟨psImp h fun D τ H hx => hx.un fun σ G nx rt bk ct hs hg h u1 u2 u3 u4 =>
  ⟨σ, G, _, hs, hg, h, fun w G1 v H1 h1 rv hg1 t1 => ⟨σ, G1, _, hs.mono t1, hg1, h1, fun w2 G2 v2 H2 h2 rv2 hg2 t2 => ⟨σ, G2, _, hs.mono (t1.trans t2), hg2, h2, fun w3 G3 v3 H3 h3 rv3 hg3 t3 =>
    ⟨w2, w3, w, G3, _, rv2.mono t3, rv3, rv.mono (t2.trans t3), hg3, h3, fun G4 H4 h4 hg4 t4 => u1 _ _ _ _ h4 (hs.mono (((t1.trans t2).trans t3).trans t4)) hg4 (((t1.trans t2).trans t3).trans t4)⟩⟩⟩⟩⟩
theorem z_putA {o i : Expr} {to ti : E3} {r : Z3} {p' : Pos} (he : QE X e te) (ho : QE X o to) (hi : QE X i ti) (hr : SetQ X r) (hs : swapsWithSole [.Subscript o i p'] e pos.line X.env = pure false := by rfl) (hw : swappedStores [.Subscript o i p'] e X.env = pure none := by rfl)
    (h1 : (assignEach [.Subscript o i p'] X.env).map (·.2) = [assign (.Subscript o i p') X.env] := by rfl) (ha : ∀ v, assign (.Subscript o i p') X.env v = (do
      let ov ← holding [v] (eval o X.env)
      let iv ← holding [v, ov] (eval i X.env)
      standAt p'
      holding [v, ov, iv] (setItem ov iv v)
      release [v, ov, iv] []) := by intro _; rfl) : QS X (.Assign [.Subscript o i p'] e pos) (uPut te to ti r) := z_put (ps_asg he.p (pg_sub ho.p hi.p hr ha) hs hw h1)
def uAug (i : Nat) (te : E3) (r : R3) : X3 := fun nx _ _ _ σ G => ∃ x, σ[i]? = some (some x) ∧ te σ G fun y G1 => r x y G1 fun z G2 => nx (σ.set i (some z)) G2
end
abbrev I3 := S3 → Hq → (List Z → (Hq → Prop) → Hq → Prop) → Prop
def LowIt (K : PySem.W.Frag) (ws : List Z) (ok : Hq → Prop) (J : It) (H0 : Hp) : Prop := ∀ i G H, RH K G H → TK K H0 H → ok G → i ≤ ws.length →
  (i = ws.length → J.stop i H) ∧ ∀ w, ws[i]? = some w → J.go i H ∧ ∀ x H', J.yld i H x H' → Rep K H' w x ∧ RH K G H' ∧ TK K H H'
def lowI (K : PySem.W.Frag) (wi : I3) : TI := fun τ H R2 => ∃ σ G R, RSt K H σ τ ∧ RH K G H ∧ wi σ G R ∧ ∀ ws ok G' J H', R ws ok G' → LowIt K ws ok J H' → RH K G' H' → TK K H H' → R2 J H'
theorem lowI.un {K : PySem.W.Frag} {wi : I3} {τ : L2.St} {H : Hp} {R2 : It → Hp → Prop} {C : Prop} (z : lowI K wi τ H R2) (f : ∀ σ G R, (RSt K H σ τ) → (RH K G H) → (wi σ G R) → (∀ ws ok G' J H', R ws ok G' → LowIt K ws ok J H' → RH K G' H' → TK K H H' → R2 J H') → C) : C := by obtain ⟨σ, G, R, q0, q1, q2, q3⟩ := z; exact f _ _ _ q0 q1 q2 q3
def QI (X : Cx) (tg iter : Expr) (wi : I3) : Prop := PI X tg iter (lowI X.K wi)
theorem piImp {X : Cx} {tg iter : Expr} {wi wi' : TI} (h : PI X tg iter wi') (i : ∀ σ H R, wi σ H R → wi' σ H R) : PI X tg iter wi := fun pins s σ H R I q => h pins s σ H R I (i σ H R q)
def FORB (ws : List Z) (ok : Hq → Prop) (pt : Pt) (tb : X3) (nx : C3) (rt : K3) (σ : S3) (G1 : Hq) : Prop := ∃ I : Nat → S3 → Hq → Prop, I 0 σ G1 ∧ (∀ i σ G, i ≤ ws.length → I i σ G → ok G) ∧
  (∀ i x σ G, ws[i]? = some x → I i σ G → ∃ σ', bindZ pt x σ = some σ' ∧ tb (I (i + 1)) rt nx (I (i + 1)) σ' G) ∧ ∀ σ G, I ws.length σ G → nx σ G
def uFor (wi : I3) (pt : Pt) (tb : X3) : X3 := fun nx rt _ _ σ G => wi σ G fun ws ok G1 => FORB ws ok pt tb nx rt σ G1
theorem for_by {ws : List Z} {ok : Hq → Prop} {pt : Pt} {tb : X3} {nx : C3} {rt : K3} {σ : S3} {G : Hq} (I : Nat → S3 → Hq → Prop) (h0 : I 0 σ G) (hok : ∀ i σ G, i ≤ ws.length → I i σ G → ok G)
    (step : ∀ i x σ G, ws[i]? = some x → I i σ G → ∃ σ', bindZ pt x σ = some σ' ∧ tb (I (i + 1)) rt nx (I (i + 1)) σ' G) (fin : ∀ σ G, I ws.length σ G → nx σ G) : FORB ws ok pt tb nx rt σ G := ⟨I, h0, hok, step, fin⟩
theorem z_for {X : Cx} {tg iter : Expr} {sb : List Stmt} {t : X3} {wi : I3} {pt : Pt} {pos : Pos} (hp : PassesOwn (model X.prog X.w) X.A X.env X.xe) (hc : X.calm = true) (hi : QI X tg iter wi) (hg : QP X tg pt) (hb : QSs X sb t)
    (hs : ∀ x, foldedSetIterable iter X.env x = pure x := by intro _; rfl) : QS X (.For tg iter sb [] pos) (uFor wi pt t) := ⟨psImp (ps_for hp hc hi hg hb.p hs) fun D τ H hx => hx.un fun σ G nx rt bk ct hs hg h u1 u2 u3 u4 => by
  refine ⟨σ, G, _, hs, hg, h, ?_⟩
  rintro ws ok G1 J H1 ⟨I, i0, hok, step, fin⟩ hJ hg1 t1
  refine ⟨fun i m τ' H' => m = ws.length - i ∧ i ≤ ws.length ∧ ∃ σ' G', RSt X.K H' σ' τ' ∧ RH X.K G' H' ∧ TK X.K H1 H' ∧ I i σ' G', ⟨ws.length, by simp, Nat.zero_le _, σ, G1, hs.mono t1, hg1, .refl _ _, i0⟩, ?_⟩
  rintro i m τ2 H2 ⟨rfl, hle, σ2, G2, hs2, hg2, t2, i2⟩
  have hJ2 := hJ i G2 H2 hg2 t2 (hok i σ2 G2 hle i2) hle
  by_cases hlt : i < ws.length
  · obtain ⟨go, yl⟩ := hJ2.2 _ (List.getElem?_eq_getElem hlt)
    refine .inr ⟨go, fun τ' H' => i + 1 ≤ ws.length ∧ ∃ σ' G', RSt X.K H' σ' τ' ∧ RH X.K G' H' ∧ TK X.K H1 H' ∧ I (i + 1) σ' G', fun σ' H' q => ⟨ws.length - (i + 1), by omega, rfl, q.1, q.2⟩, fun x H3 y3 => ?_⟩
    obtain ⟨rx, hg3, t3⟩ := yl x H3 y3
    obtain ⟨σ', hb', h3⟩ := step i _ σ2 G2 (List.getElem?_eq_getElem hlt) i2
    refine gP_ok rx (hs2.mono t3) hb' fun τ' hs' _ _ => ⟨σ', G2, _, rt, nx, _, hs', hg3, h3, ?_, u2.mono ((t1.trans t2).trans t3), u1.mono ((t1.trans t2).trans t3), ?_⟩
    · exact fun σ4 G4 τ4 H4 h4 hs4 hg4 t4 => ⟨hlt, σ4, G4, hs4, hg4, (t2.trans t3).trans t4, h4⟩
    · exact fun σ4 G4 τ4 H4 h4 hs4 hg4 t4 => ⟨hlt, σ4, G4, hs4, hg4, (t2.trans t3).trans t4, h4⟩
  · have e : i = ws.length := by omega
    subst e
    exact .inl ⟨hJ2.1 rfl, u1 _ _ _ _ (fin σ2 G2 i2) hs2 hg2 (t1.trans t2)⟩⟩
section
variable {X : Cx} {tg l : Expr} {tl : E3}
def wkL (x : Z) (G : Hq) (R : List Z → (Hq → Prop) → Hq → Prop) : Prop := match x with
  | .ref a => ∃ ws, G a = some (.lst ws) ∧ R ws (fun G => G a = some (.lst ws)) G
  | .scr _ ns => R (ns.map Z.int) (fun _ => True) G
  | _ => False
def iL (tl : E3) : I3 := fun σ G R => tl σ G fun x G1 => wkL x G1 R
theorem lowIt_list {K : PySem.W.Frag} {a : Addr} {ws : List Z} {H : Hp} : LowIt K ws (fun G => G a = some (.lst ws)) (Itl K a) H := fun i G H hg t ok hi => by
  obtain ⟨vs, e, rs⟩ := hg a _ ok
  refine ⟨fun h => ⟨vs, SqL.of e, by rw [← rs.length, h]; exact Nat.le_refl _⟩, fun w hw => ?_⟩
  obtain ⟨v, ev, rv⟩ := rs.get hw
  refine ⟨⟨vs, v, SqL.of e, ev⟩, ?_⟩
  rintro x H' ⟨rfl, y⟩
  have := y vs (SqL.of e)
  rw [ev] at this
  cases this
  exact ⟨rv, hg, .refl _ _⟩
theorem lowIt_scr {K : PySem.W.Frag} {a : Addr} {ns : List Int} {H0 : Hp} (f : Fz K H0 a (ns.map V.int)) : LowIt K (ns.map Z.int) (fun _ => True) (Itl K a) H0 := fun i G H hg t ok hi => by
  have fs := (t.frz _ _ f).sq
  have rs : Reps K H (ns.map Z.int) (ns.map V.int) := ints_reps ns
  refine ⟨fun h => ⟨_, fs, by rw [← rs.length, h]; exact Nat.le_refl _⟩, fun w hw => ?_⟩
  obtain ⟨v, ev, rv⟩ := rs.get hw
  refine ⟨⟨_, v, fs, ev⟩, ?_⟩
  rintro x H' ⟨rfl, y⟩
  have := y _ fs
  rw [ev] at this
  cases this
  exact ⟨rv, hg, .refl _ _⟩
theorem it_list (hl : QE X l tl) : QI X tg l (iL tl) := piImp (pi_list hl.p) fun τ H R2 hx => hx.un fun σ G R hs hg h up => by
  refine ⟨σ, G, _, hs, hg, h, fun w G1 v H1 h1 rv hg1 t1 => ?_⟩
  cases w with
  | ref a =>
    rw [rep_ref] at rv
    obtain ⟨ws, e, h1⟩ := h1
    obtain ⟨vs, e', _⟩ := hg1 a _ e
    exact ⟨a, rv, ⟨vs, SqL.of e'⟩, up _ _ _ _ _ h1 lowIt_list hg1 t1⟩
  | scr a ns =>
    rw [rep_scr] at rv
    exact ⟨a, rv.1, ⟨_, rv.2.sq⟩, up _ _ _ _ _ h1 (lowIt_scr rv.2) hg1 t1⟩
  | _ => exact False.elim h1
def wkT (x : Z) (G : Hq) (R : List Z → (Hq → Prop) → Hq → Prop) : Prop := match x with
  | .tup ws => R ws (fun _ => True) G
  | _ => False
def iT (tl : E3) : I3 := fun σ G R => tl σ G fun x G1 => wkT x G1 R
theorem lowIt_tup {K : PySem.W.Frag} {a : Addr} {ws : List Z} {vs : List V} {H0 : Hp} (e : H0 a = some (.tup vs)) (rs : Reps K H0 ws vs) : LowIt K ws (fun _ => True) (Itt K a) H0 := fun i G H hg t ok hi => by
  have e := t.tup _ _ e
  have rs := rs.mono t
  refine ⟨fun h => ⟨vs, SqT.of e, by rw [← rs.length, h]; exact Nat.le_refl _⟩, fun w hw => ?_⟩
  obtain ⟨v, ev, rv⟩ := rs.get hw
  refine ⟨⟨vs, v, SqT.of e, ev⟩, ?_⟩
  rintro x H' ⟨rfl, y⟩
  have := y vs (SqT.of e)
  rw [ev] at this
  cases this
  exact ⟨rv, hg, .refl _ _⟩
theorem it_tup (hl : QE X l tl) : QI X tg l (iT tl) := piImp (pi_tup hl.p) fun τ H R2 hx => hx.un fun σ G R hs hg h up => by
  refine ⟨σ, G, _, hs, hg, h, fun w G1 v H1 h1 rv hg1 t1 => ?_⟩
  cases w with
  | tup ws =>
    rw [rep_tup] at rv
    obtain ⟨a, vs, rfl, e, rs⟩ := rv
    exact ⟨a, rfl, ⟨vs, SqT.of e⟩, up _ _ _ _ _ h1 (lowIt_tup e rs) hg1 t1⟩
  | _ => exact False.elim h1
def rng (lo : Int) : Nat → List Z
  | 0 => []
  | n + 1 => .int lo :: rng (lo + 1) n
theorem rng_length : ∀ (lo : Int) (n : Nat), (rng lo n).length = n
  | _, 0 => rfl
  | lo, n + 1 => by rw [rng, List.length_cons, rng_length]
theorem rng_get : ∀ {lo : Int} {n i : Nat} {w : Z}, (rng lo n)[i]? = some w → i < n ∧ w = .int (lo + i)
  | _, 0, _, _, h => by simp [rng] at h
  | lo, n + 1, 0, w, h => by simp [rng] at h; exact ⟨by omega, by rw [← h]; simp⟩
  | lo, n + 1, i + 1, w, h => by
    have := rng_get (lo := lo + 1) (n := n) (i := i) (w := w) (by simpa [rng] using h)
    refine ⟨by omega, ?_⟩
    rw [this.2]
    congr 1
    omega
theorem lowIt_rng {K : PySem.W.Frag} {lo : Int} {n : Nat} {H0 : Hp} : LowIt K (rng lo n) (fun _ => True) (Itr lo n) H0 := fun i G H hg t ok hi => by
  rw [rng_length]
  refine ⟨fun h => by rw [h]; exact Nat.le_refl _, fun w hw => ?_⟩
  obtain ⟨h1, h2⟩ := rng_get hw
  refine ⟨h1, ?_⟩
  rintro x H' ⟨rfl, rfl⟩
  exact ⟨by rw [h2, rep_int], hg, .refl _ _⟩
variable {t : A3}
def iR1 (t : A3) : I3 := fun σ G R => t σ G fun ws G1 => ∃ j : Int, ws = [.int j] ∧ -(2 ^ 62) ≤ j ∧ j < 2 ^ 62 ∧ R (rng 0 j.toNat) (fun _ => True) G1
def iR2 (t : A3) : I3 := fun σ G R => t σ G fun ws G1 => ∃ i j : Int, ws = [.int i, .int j] ∧ (-(2 ^ 62) ≤ i ∧ i < 2 ^ 62 ∧ -(2 ^ 62) ≤ j ∧ j < 2 ^ 62) ∧ R (rng i (j - i).toNat) (fun _ => True) G1
theorem it_range1 {wi : Expr} (h : PI X tg wi (iRng1 (lowA X.K t))) : QI X tg wi (iR1 t) := piImp h fun τ H R2 hx => hx.un fun σ G R hs hg h up => by
  refine ⟨σ, G, _, hs, hg, h, fun ws G1 vs H1 ⟨j, e, a, b, h1⟩ rv hg1 t1 => ?_⟩
  subst e
  obtain ⟨v, rfl, r⟩ := rv.one
  rw [rep_int] at r
  subst r
  exact ⟨j, rfl, a, b, up _ _ _ _ _ h1 lowIt_rng hg1 t1⟩
end
section
variable {X : Cx} {tg a b : Expr} {p pos : Pos} {t : A3}
theorem it_rangeA1 (hg : Gl X "range") (hm : X.mg "range" = none) (ha : QA X [a] t) (hs : starEach [a] X.env = [(false, eval a X.env)] := by rfl) : QI X tg (.Call (.Name "range" p) [a] [] pos) (iR1 t) := it_range1 (pi_range1 hg hm ha.p hs)
end
def cap3 (cap : List (Option Nat)) (σ : S3) : S3 := cap.map fun o => o.bind fun j => (σ[j]?).join
theorem cap_rep {K : PySem.W.Frag} {H : Hp} {σ : S3} {τ : L2.St} (h : RSt K H σ τ) : ∀ cap : List (Option Nat), RSt K H (cap3 cap σ) (capSt cap τ)
  | [] => .nil
  | none :: cap => .cons (fun _ e => nomatch e) (cap_rep h cap)
  | some j :: cap => .cons (fun w e => by
      have e' : (σ[j]?).join = some w := e
      have e2 : σ[j]? = some (some w) := by
        cases q : σ[j]? with
        | none => rw [q] at e'; cases e'
        | some o => rw [q] at e'; cases o with
          | none => cases e'
          | some z => cases e'; rfl
      obtain ⟨v, ev, r⟩ := h.get e2
      exact ⟨v, by show (τ[j]?).join = some v; rw [ev]; rfl, r⟩) (cap_rep h cap)
theorem keepsSt_of : ∀ {a b : L2.St}, b.length = a.length → (∀ (i : Nat) v, a[i]? = some (some v) → b[i]? = some (some v)) → keepsSt a b
  | [], [], _, _ => True.intro
  | none :: a, _ :: b, h, k => keepsSt_of (a := a) (b := b) (by simpa using h) fun i v e => by simpa using k (i + 1) v (by simpa using e)
  | some x :: a, y :: b, h, k => ⟨by simpa using k 0 x rfl, keepsSt_of (a := a) (b := b) (by simpa using h) fun i v e => by simpa using k (i + 1) v (by simpa using e)⟩
  | [], _ :: _, h, _ => by simp at h
  | _ :: _, [], h, _ => by simp at h
def LCB (ws : List Z) (ok : Hq → Prop) (cap : List (Option Nat)) (pt : Pt) (tt : T3) (te : E3) (σ : S3) (R : K3) (D : Addr) (G1 : Hq) : Prop := ∃ I : Nat → List Z → Hq → Prop, I 0 [] (put G1 D (.lst [])) ∧ (∀ i ys G, i ≤ ws.length → I i ys G → ok G) ∧
  (∀ i x ys G, ws[i]? = some x → I i ys G → ∃ σ', bindZ pt x (cap3 cap σ) = some σ' ∧ tt σ' G fun b G4 => if b = true then te σ' G4 fun y G5 => G5 D = some (.lst ys) ∧ ys.length < sizeLine ∧ I (i + 1) (ys ++ [y]) (put G5 D (.lst (ys ++ [y]))) else I (i + 1) ys G4) ∧
  ∀ ys G, I ws.length ys G → R (.ref D) G
def uLC (wi : I3) (cap : List (Option Nat)) (pt : Pt) (tt : T3) (te : E3) : E3 := fun σ G R => wi σ G fun ws ok G1 => ∀ D, G1 D = none → LCB ws ok cap pt tt te σ R D G1
theorem lc_by {ws : List Z} {ok : Hq → Prop} {cap : List (Option Nat)} {pt : Pt} {tt : T3} {te : E3} {σ : S3} {R : K3} {D : Addr} {G1 : Hq} (I : Nat → List Z → Hq → Prop) (h0 : I 0 [] (put G1 D (.lst []))) (hok : ∀ i ys G, i ≤ ws.length → I i ys G → ok G)
    (step : ∀ i x ys G, ws[i]? = some x → I i ys G → ∃ σ', bindZ pt x (cap3 cap σ) = some σ' ∧ tt σ' G fun b G4 => if b = true then te σ' G4 fun y G5 => G5 D = some (.lst ys) ∧ ys.length < sizeLine ∧ I (i + 1) (ys ++ [y]) (put G5 D (.lst (ys ++ [y]))) else I (i + 1) ys G4)
    (fin : ∀ ys G, I ws.length ys G → R (.ref D) G) : LCB ws ok cap pt tt te σ R D G1 := ⟨I, h0, hok, step, fin⟩
theorem take_succ_fm {α β : Type} {f : α → Option β} {ws : List α} {i : Nat} {x : α} (h : ws[i]? = some x) : (ws.take (i + 1)).filterMap f = (ws.take i).filterMap f ++ (f x).toList := by
  rw [List.take_add_one, List.filterMap_append, h]
  cases e : f x <;> simp [e]
theorem lc_pure {ws : List Z} {ok : Hq → Prop} {cap : List (Option Nat)} {pt : Pt} {tt : T3} {te : E3} {σ : S3} {R : K3} {D : Addr} {G1 : Hq} (f : Z → Option Z) (hok : ∀ ys, ok (put G1 D (.lst ys))) (hz : ws.length ≤ 1000)
    (turn : ∀ x, x ∈ ws → ∀ (ys : List Z) (K1 : K3) (K2 : Hq → Prop), (∀ y, f x = some y → K1 y (put G1 D (.lst ys))) → (f x = none → K2 (put G1 D (.lst ys))) → ∃ σ', bindZ pt x (cap3 cap σ) = some σ' ∧ tt σ' (put G1 D (.lst ys)) fun b G4 => if b = true then te σ' G4 K1 else K2 G4)
    (fin : R (.ref D) (put G1 D (.lst (ws.filterMap f)))) : LCB ws ok cap pt tt te σ R D G1 := by
  refine ⟨fun i ys G => ys = (ws.take i).filterMap f ∧ G = put G1 D (.lst ys), ⟨by simp, rfl⟩, ?_, ?_, ?_⟩
  · rintro i ys G _ ⟨_, rfl⟩; exact hok ys
  · rintro i x ys G hx ⟨e, rfl⟩
    refine turn x (List.mem_of_getElem? hx) ys _ _ (fun y hy => ⟨put_same, ?_, ?_, ?_⟩) fun hn => ⟨?_, rfl⟩
    · rw [e]
      exact Nat.lt_of_le_of_lt (Nat.le_trans (List.length_filterMap_le _ _) (by rw [List.length_take]; omega)) (small1000 (Nat.le_refl 1000))
    · rw [take_succ_fm hx, hy, e]; rfl
    · rw [put_put]
    · rw [take_succ_fm hx, hn, e]; simp
  · rintro ys G ⟨e, rfl⟩
    rw [List.take_length] at e
    rw [e]; exact fin
def QIfs (X : Cx) (ifs : List Expr) (t : T3) : Prop := PIfs X ifs (lowT X.K t)
def uTT : T3 := fun _ G R => R true G
theorem ifs_nil {X : Cx} : QIfs X [] uTT := fun pins s τ H Q I ⟨σ, G, R, hs, hg, h, up⟩ => pifs_nil pins s τ H Q I (up _ _ _ h hg (.refl _ _))
theorem ifs_one {X : Cx} {c : Expr} {t : T3} (h : QT X c t) : QIfs X [c] t := pifs_one h.p
theorem slot_ok {cap : List (Option Nat)} {pt : Pt} (hc : (pt.slots.all fun j => decide (cap[j]? = some none)) = true) {τ : L2.St} {i : Nat} {v : V} (h : (capSt cap τ)[i]? = some (some v)) : i ∉ pt.slots := fun hm => by
  have q := of_decide_eq_true ((List.all_eq_true.mp hc) i hm)
  unfold capSt at h
  rw [List.getElem?_map, q] at h
  cases h
theorem low_lc {K : PySem.W.Frag} {wi : I3} {cap : List (Option Nat)} {pt : Pt} {tt : T3} {te : E3} (hc : (pt.slots.all fun j => decide (cap[j]? = some none)) = true) {τ : L2.St} {H : Hp} {Q : VK} (h : low K (uLC wi cap pt tt te) τ H Q) :
    tLC (lowI K wi) cap (gP K pt) (lowT K tt) (low K te) τ H Q := by
  obtain ⟨σ, G, R, hs, hg, h, up⟩ := h
  refine ⟨σ, G, _, hs, hg, h, fun ws ok G1 J H1 h1 hJ hg1 t1 D hD => ?_⟩
  obtain ⟨I, i0, hok, step, fin⟩ := h1 D (hg1.out hD)
  refine ⟨fun i m _ H' => m = ws.length - i ∧ i ≤ ws.length ∧ ∃ ys G', RH K G' H' ∧ TK K H1 H' ∧ I i ys G', ⟨ws.length, by simp, Nat.zero_le _, [], _, hg1.set (o := .lst []) (.new hD) ⟨[], upd_same, .nil⟩, .new hD, i0⟩, ?_⟩
  rintro i m vs H2 ⟨rfl, hle, ys, G2, hg2, t2, i2⟩
  have hJ2 := hJ i G2 H2 hg2 t2 (hok i ys G2 hle i2) hle
  by_cases hlt : i < ws.length
  · obtain ⟨go, yl⟩ := hJ2.2 _ (List.getElem?_eq_getElem hlt)
    refine .inr ⟨go, fun _ H' => i + 1 ≤ ws.length ∧ ∃ ys G', RH K G' H' ∧ TK K H1 H' ∧ I (i + 1) ys G', fun vs' H' q => ⟨ws.length - (i + 1), by omega, rfl, q.1, q.2⟩, fun x H3 y3 => ?_⟩
    obtain ⟨rx, hg3, t3⟩ := yl x H3 y3
    obtain ⟨σ', hb', h3⟩ := step i _ ys G2 (List.getElem?_eq_getElem hlt) i2
    refine gP_ok rx (cap_rep (hs.mono ((t1.trans t2).trans t3)) cap) hb' fun τ' hs' hl' hk' => ⟨keepsSt_of hl' fun j v ej => by rw [hk' j (slot_ok hc ej)]; exact ej, ?_⟩
    refine ⟨σ', G2, _, hs', hg3, h3, fun b G4 H4 h4 hg4 t4 => ?_⟩
    cases b with
    | false =>
      rw [if_neg (by decide)] at h4 ⊢
      exact ⟨hlt, ys, G4, hg4, (t2.trans t3).trans t4, h4⟩
    | true =>
      rw [if_pos rfl] at h4 ⊢
      refine ⟨σ', G4, _, hs'.mono t4, hg4, h4, fun y G5 v5 H5 ⟨hD5, hsz, h5⟩ r5 hg5 t5 => ?_⟩
      obtain ⟨vs5, e5, rs5⟩ := hg5 D _ hD5
      refine ⟨vs5, e5, by rw [← rs5.length]; exact hsz, hlt, _, _, hg5.set (.lst e5) (rob_lst (rs5.append (.cons r5 .nil)) (.lst e5)), ?_, h5⟩
      exact (((t2.trans t3).trans t4).trans t5).trans (.lst e5)
  · have e : i = ws.length := by omega
    subst e
    exact .inl ⟨hJ2.1 rfl, up _ _ _ _ (fin ys G2 i2) (by rw [rep_ref]) hg2 (t1.trans t2)⟩
section
variable {X : Cx} {N' : List Str} {sc : Scope} {cap : List (Option Nat)} {tg iter elt : Expr} {ifs : List Expr} {wi : I3} {pt : Pt} {tt : T3} {te : E3} {pos : Pos}
theorem q_lc {N₀ : List Str} {so : Scope} (hc : X.calm = true) (hNN : X.N = N₀) (hso : X.env.scope = so) (ck : capB N₀ so sc N' cap = true) (hp : (pt.slots.all fun j => decide (cap[j]? = some none)) = true) (hi : QI X tg iter wi)
    (hg : ∀ C s H fp, QP (cxC X E0 N' sc C s H fp) tg pt) (ht : ∀ C s H fp, QIfs (cxC X E0 N' sc C s H fp) ifs tt) (he : ∀ C s H fp, QE (cxC X E0 N' sc C s H fp) elt te)
    (hs : ∀ x, foldedSetIterable iter X.env x = pure x := by intro _; rfl) : QE X (.ListComp elt [⟨tg, iter, ifs, 0⟩] sc pos) (uLC wi cap pt tt te) := ⟨peImp (pe_lc (g := gP X.K pt) (tt := lowT X.K tt) (te := low X.K te) hc compOut0 hNN hso ck hi hg ht (fun C s H fp => (he C s H fp).p) hs) fun _ _ _ => low_lc hp⟩
theorem z_setLC {N₀ : List Str} {so : Scope} {i : Nat} {x : Str} {pos' spos : Pos} (hN : X.N.Nodup) (hx : X.N[i]? = some x) (hl : X.env.scope.names.lookup x = some .local) (hc : X.calm = true) (hNN : X.N = N₀) (hso : X.env.scope = so) (ck : capB N₀ so sc N' cap = true)
    (hp : (pt.slots.all fun j => decide (cap[j]? = some none)) = true) (hi : QI X tg iter wi)
    (hg : ∀ C s H fp, QP (cxC X E0 N' sc C s H fp) tg pt) (ht : ∀ C s H fp, QIfs (cxC X E0 N' sc C s H fp) ifs tt) (he : ∀ C s H fp, QE (cxC X E0 N' sc C s H fp) elt te)
    (hsw : swapsWith (.ListComp elt [⟨tg, iter, ifs, 0⟩] sc pos) (some (.Name x pos')) spos.line X.env = pure true := by rfl)
    (hs : ∀ x, foldedSetIterable iter X.env x = pure x := by intro _; rfl) : QS X (.Assign [.Name x pos'] (.ListComp elt [⟨tg, iter, ifs, 0⟩] sc pos) spos) (uAsg (uLC wi cap pt tt te) (.nm i)) := ⟨psImp (ps_setLC (g := gP X.K pt) (tt := lowT X.K tt) (te := low X.K te) hN hx hl hc compOut0 hNN hso ck hi hg ht (fun C s H fp => (he C s H fp).p) hsw hs) fun D τ H h => low_lc hp (low_asg (pt := .nm i) h)⟩
end
section
variable {P : Program} {w : World} {K : PySem.W.Frag} {mg : Str → Option Value} {base : Heap}
theorem fn3 {x qual : Str} {st : Stmt} {f : Addr} {fd : FuncData} {N ps : List Str} {k : Nat} {sp : P3} (F : Fun K x qual st f fd) (S : FnScope N ps (defScope st)) (len : ∀ ws G R, sp ws G R → ws.length = ps.length)
    (hbody : ∀ (cdv : Value) (A : Around) (outer : List Env) (s : Shared) (H : Hp) (E : XK) (ws : List Z) (G : Hq) (R : K3), Room k (A.deeper (envOfC qual (defScope st) s.heap.objs.size f cdv)) → sp ws G R →
      ∃ t, QSs (cxOf CX0 P w K mg base N qual (defScope st) f cdv A outer s H E).nox (defBody st) t ∧ t (fun _ G' => R .non G') R (fun _ _ => False) (fun _ _ => False) (start3 N ws) G) : FnOk P w K mg base CX0 (k + 1) f fd ps (lowP K sp) := by
  refine F.ok S (fun vs H Q E ⟨ws, G, R, rs, hg, h, up⟩ => by rw [← rs.length]; exact len _ _ _ h) ?_
  rintro cdv A outer s H vs Q E hr ⟨ws, G, R, rs, hg, h, up⟩
  obtain ⟨t, ht, hq⟩ := hbody cdv A outer s H E ws G R hr h
  exact ⟨_, ht.p, start3 N ws, G, _, R, _, _, .start rs, hg, hq, fun σ' G' τ' H' h' hs' hg' t' => up _ _ _ _ h' (by rw [rep_non]) hg' t', up, fun _ _ _ _ h _ _ _ => h.elim, fun _ _ _ _ h _ _ _ => h.elim⟩
end
end L3
namespace L3
open PySem PySem.Spec PyProof.Rows L2
section
variable {X : Cx}
def zAdd : R3 := fun x y G R => match x, y with
  | .int i, .int j => R (.int (i + j)) G
  | .str a, .str b => a.length + b.length ≤ sizeLine ∧ R (.str (a ++ b)) G
  | .tup xs, .tup ys => xs ≠ [] ∧ xs.length + ys.length ≤ sizeLine ∧ R (.tup (xs ++ ys)) G
  | .ref p, .ref q => ∃ xs ys, G p = some (.lst xs) ∧ G q = some (.lst ys) ∧ xs.length + ys.length ≤ sizeLine ∧ ∀ t, G t = none → R (.ref t) (put G t (.lst (xs ++ ys)))
  | _, _ => False
theorem o_add : OpQ X (binaryOp .Add) zAdd := opImp (op_add.or (op_add_str.or (op_catT.or op_cat))) fun x y H Q hx => hx.un fun a b G R ra rb hg h up => by
  cases a with
  | int i =>
    cases b with
    | int j => rw [rep_int] at ra rb; exact .inl ⟨_, _, ra, rb, up _ _ _ _ h (by rw [rep_int]) hg (.refl _ _)⟩
    | _ => exact False.elim h
  | str i =>
    cases b with
    | str j => rw [rep_str] at ra rb; exact .inr (.inl ⟨_, _, ra, rb, h.1, up _ _ _ _ h.2 (by rw [rep_str]) hg (.refl _ _)⟩)
    | _ => exact False.elim h
  | tup us =>
    cases b with
    | tup ws =>
      rw [rep_tup] at ra rb
      obtain ⟨p, xs, rfl, e1, r1⟩ := ra
      obtain ⟨q, ys, rfl, e2, r2⟩ := rb
      obtain ⟨h0, hz, h⟩ := h
      refine .inr (.inr (.inl ⟨p, q, xs, ys, rfl, rfl, SqT.of e1, SqT.of e2, fun z => ?_, by rw [← r1.length, ← r2.length]; exact hz, fun z => ?_, fun z t ht => ?_⟩))
      · subst z
        exact h0 (List.length_eq_zero_iff.mp r1.length)
      · subst z
        have e : ws = [] := List.length_eq_zero_iff.mp r2.length
        subst e
        rw [List.append_nil] at h
        exact up _ _ _ _ h (by rw [rep_tup]; exact ⟨p, xs, rfl, e1, r1⟩) hg (.refl _ _)
      · exact up _ _ _ _ h (by rw [rep_tup]; exact ⟨t, xs ++ ys, rfl, upd_same, Reps.mono (.new ht) _ _ (r1.append r2)⟩) (hg.hid ht) (.new ht)
    | _ => exact False.elim h
  | ref p =>
    cases b with
    | ref q =>
      rw [rep_ref] at ra rb
      subst ra rb
      obtain ⟨xs, ys, e1, e2, hz, h⟩ := h
      obtain ⟨vs, e1', r1⟩ := hg _ _ e1
      obtain ⟨us, e2', r2⟩ := hg _ _ e2
      exact .inr (.inr (.inr ⟨_, _, vs, us, rfl, rfl, e1', e2', by rw [← r1.length, ← r2.length]; exact hz, fun t ht => up _ _ _ _ (h t (hg.out ht)) (by rw [rep_ref]) (hg.set (.new ht) (rob_lst (r1.append r2) (.new ht))) (.new ht)⟩))
    | _ => exact False.elim h
  | _ => exact False.elim h
def zI (C : Int → Int → Prop) (g : Int → Int → Z) : R3 := fun x y G R => match x, y with
  | .int i, .int j => C i j ∧ R (g i j) G
  | _, _ => False
def zI0 (g : Int → Int → Z) : R3 := fun x y G R => match x, y with
  | .int i, .int j => R (g i j) G
  | _, _ => False
theorem oI {f : Value → Value → Sem Value} {C : Int → Int → Prop} {g : Int → Int → Int} (h : OpR X f (rI C fun i j => .int (g i j))) : OpQ X f (zI C fun i j => .int (g i j)) := opImp h fun x y H Q hx => hx.un fun a b G R ra rb hg h up => by
  cases a <;> cases b <;> first
    | exact False.elim h
    | (rw [rep_int] at ra rb; exact ⟨_, _, ra, rb, h.1, up _ _ _ _ h.2 (by rw [rep_int]) hg (.refl _ _)⟩)
theorem oI0 {f : Value → Value → Sem Value} {g : Int → Int → Int} (h : OpR X f (rI0 fun i j => .int (g i j))) : OpQ X f (zI0 fun i j => .int (g i j)) := opImp h fun x y H Q hx => hx.un fun a b G R ra rb hg h up => by
  cases a <;> cases b <;> first
    | exact False.elim h
    | (rw [rep_int] at ra rb; exact ⟨_, _, ra, rb, up _ _ _ _ h (by rw [rep_int]) hg (.refl _ _)⟩)
theorem o_sub : OpQ X (binaryOp .Sub) (zI0 fun i j => .int (i - j)) := oI0 op_sub
theorem o_mul : OpQ X (binaryOp .Mult) (zI CMul fun i j => .int (i * j)) := oI op_mul
theorem o_fdiv : OpQ X (binaryOp .FloorDiv) (zI CDivL fun i j => .int (i / j)) := oI op_fdivL
theorem o_mod : OpQ X (binaryOp .Mod) (zI (fun _ j => 0 < j) fun i j => .int (i % j)) := oI op_mod
theorem o_pow : OpQ X (binaryOp .Pow) (zI CPow fun i j => .int (i ^ j.toNat)) := oI op_pow
theorem o_iadd : OpQ X (inplaceOp .Add) (zI0 fun i j => .int (i + j)) := oI0 iop_add
def zNeg : Z → Hq → K3 → Prop := fun x G R => match x with
  | .int i => R (.int (-i)) G
  | _ => False
theorem o_neg : UnQ X (unaryOp .USub) zNeg := unImp un_neg fun x H Q hx => hx.un fun a G R ra hg h up => by
  cases a <;> first
    | exact False.elim h
    | (rw [rep_int] at ra; exact ⟨_, ra, up _ _ _ _ h (by rw [rep_int]) hg (.refl _ _)⟩)
theorem op_le_str : OpR X (compareOp .LtE) (fun x y H Q => ∃ i j, x = .str i ∧ y = .str j ∧ Q (.bl (!decide (j.cps.toList < i.cps.toList))) H) := by
  intro pins s σ H x y v u Q I rx ry h
  obtain ⟨i, j, rfl, rfl, q⟩ := h
  obtain ⟨t, rfl⟩ := rx
  obtain ⟨t', rfl⟩ := ry
  exact PySem.P.le_str (fin_bl I q rfl)
theorem op_gt_str : OpR X (compareOp .Gt) (fun x y H Q => ∃ i j, x = .str i ∧ y = .str j ∧ Q (.bl (decide (j.cps.toList < i.cps.toList))) H) := by
  intro pins s σ H x y v u Q I rx ry h
  obtain ⟨i, j, rfl, rfl, q⟩ := h
  obtain ⟨t, rfl⟩ := rx
  obtain ⟨t', rfl⟩ := ry
  exact PySem.P.gt_str (fin_bl I q rfl)
def zC (f : Int → Int → Bool) (g : Str → Str → Bool) : R3 := fun x y G R => match x, y with
  | .int i, .int j => R (.bl (f i j)) G
  | .str i, .str j => R (.bl (g i j)) G
  | _, _ => False
theorem oC {op : CmpOp} {f : Int → Int → Bool} {g : Str → Str → Bool} (h : OpR X (compareOp op) (rI0 fun i j => .bl (f i j))) (h' : OpR X (compareOp op) (fun x y H Q => ∃ i j, x = .str i ∧ y = .str j ∧ Q (.bl (g i j)) H)) :
    OpQ X (compareOp op) (zC f g) := opImp (h.or h') fun x y H Q hx => hx.un fun a b G R ra rb hg h up => by
  cases a <;> cases b <;> first
    | exact False.elim h
    | (rw [rep_int] at ra rb; exact .inl ⟨_, _, ra, rb, up _ _ _ _ h (by rw [rep_bl]) hg (.refl _ _)⟩)
    | (rw [rep_str] at ra rb; exact .inr ⟨_, _, ra, rb, up _ _ _ _ h (by rw [rep_bl]) hg (.refl _ _)⟩)
abbrev ltS (x y : Str) : Bool := decide (x.cps.toList < y.cps.toList)
theorem o_lt : OpQ X (compareOp .Lt) (zC (fun i j => decide (i < j)) fun x y => ltS x y) := oC op_lt op_lt_str
theorem o_le : OpQ X (compareOp .LtE) (zC (fun i j => decide (i ≤ j)) fun x y => !ltS y x) := oC op_le op_le_str
theorem o_gt : OpQ X (compareOp .Gt) (zC (fun i j => decide (j < i)) fun x y => ltS y x) := oC op_gt op_gt_str
def zIs (neg : Bool) : R3 := fun x y G R => match y with
  | .non => R (.bl (if neg then !decide (x = .non) else decide (x = .non))) G
  | .bl b => match x with
    | .bl a => neg = false ∧ R (.bl (a == b)) G
    | _ => False
  | _ => False
theorem rep_is_non {K : PySem.W.Frag} {H : Hp} {w : Z} {v : V} (r : Rep K H w v) : decide (v = .non) = decide (w = .non) := by
  cases w with
  | non => rw [rep_non] at r; subst r; rfl
  | bl _ => rw [rep_bl] at r; subst r; simp
  | int _ => rw [rep_int] at r; subst r; simp
  | str _ => rw [rep_str] at r; subst r; simp
  | ref _ => rw [rep_ref] at r; subst r; simp
  | ty _ => rw [rep_ty] at r; subst r; simp
  | scr _ _ => rw [rep_scr] at r; obtain ⟨rfl, _⟩ := r; simp
  | tup _ => rw [rep_tup] at r; obtain ⟨_, _, rfl, _⟩ := r; simp
end
mutual
def dZ : Z → PyData
  | .bl b => .bool b
  | .int i => .int i
  | .str x => .str x
  | .tup ws => .tuple (dZs ws)
  | _ => .none
def dZs : List Z → List PyData
  | [] => []
  | w :: ws => dZ w :: dZs ws
end
def flat : Nat → Z → Bool
  | _, .non => true
  | _, .int _ => true
  | _, .str x => PyData.strOk x
  | n + 1, .tup ws => ws.all (flat n)
  | _, _ => false
theorem dZ_lay : ∀ (n : Nat) (d : Z), flat n d = true → (dZ d).canLay0 = true ∧ (dZ d).depth ≤ n := by
  have all : ∀ (n : Nat), (∀ d, flat n d = true → (dZ d).canLay0 = true ∧ (dZ d).depth ≤ n) → ∀ ds : List Z, (∀ d ∈ ds, flat n d = true) → PyData.canLayAll0 (dZs ds) = true ∧ PyData.depthAll (dZs ds) ≤ n := by
    intro n ih ds
    induction ds with
    | nil => intro _; simp [dZs, PyData.canLayAll0, PyData.depthAll]
    | cons d ds hi =>
      intro h
      have h1 := ih d (h d (.head _))
      have h2 := hi fun e he => h e (.tail _ he)
      simp only [dZs, PyData.canLayAll0, PyData.depthAll, h1.1, h2.1, Bool.and_self, true_and]
      have a1 := h1.2
      have a2 := h2.2
      omega
  intro n
  induction n with
  | zero =>
    intro d h
    cases d <;> simp_all [flat, dZ, PyData.canLay0, PyData.depth]
  | succ n ih =>
    intro d h
    cases d with
    | non => simp [dZ, PyData.canLay0, PyData.depth]
    | int i => simp [dZ, PyData.canLay0, PyData.depth]
    | str x => simp [flat] at h; simp [dZ, PyData.canLay0, PyData.depth, h]
    | tup ds =>
      have q := all n ih ds (by simpa [flat] using h)
      have q2 := q.2
      simp only [dZ, PyData.canLay0, PyData.depth, q.1, true_and]
      omega
    | _ => simp [flat] at h
theorem dZs_lay (n : Nat) (ds : List Z) (h : ds.all (flat n) = true) : PyData.canLayAll0 (dZs ds) = true ∧ PyData.depthAll (dZs ds) ≤ n := by
  have q := dZ_lay (n + 1) (.tup ds) (by simpa [flat] using h)
  simp only [dZ, PyData.canLay0, PyData.depth] at q
  exact ⟨q.1, by omega⟩
theorem dZ_eqv : ∀ (n : Nat) (d e : Z) (k : Nat), flat n d = true → flat k e = true → (PyData.eqv (dZ d) (dZ e) = true ↔ d = e) := by
  have all : ∀ (n : Nat), (∀ d e k, flat n d = true → flat k e = true → (PyData.eqv (dZ d) (dZ e) = true ↔ d = e)) → ∀ (k : Nat) (ds es : List Z), (∀ d ∈ ds, flat n d = true) → (∀ d ∈ es, flat k d = true) →
      (PyData.eqvAll (dZs ds) (dZs es) = true ↔ ds = es) := by
    intro n ih k ds
    induction ds with
    | nil => intro es _ _; cases es <;> simp [dZs, PyData.eqvAll]
    | cons d ds hi =>
      intro es h1 h2
      cases es with
      | nil => simp [dZs, PyData.eqvAll]
      | cons e es =>
        have q1 := ih d e k (h1 d (.head _)) (h2 e (.head _))
        have q2 := hi es (fun x hx => h1 x (.tail _ hx)) fun x hx => h2 x (.tail _ hx)
        simp only [dZs, PyData.eqvAll, Bool.and_eq_true, q1, q2, List.cons.injEq]
  intro n
  induction n with
  | zero =>
    intro d e k h1 h2
    cases d <;> cases e <;> simp_all [flat, dZ, PyData.eqv]
  | succ n ih =>
    intro d e k h1 h2
    cases d with
    | tup ds =>
      cases e with
      | tup es =>
        cases k with
        | zero => simp [flat] at h2
        | succ k =>
          simp only [dZ, PyData.eqv, Z.tup.injEq]
          exact all n ih k ds es (by simpa [flat] using h1) (by simpa [flat] using h2)
      | _ => simp_all [flat, dZ, PyData.eqv]
    | _ => cases e <;> simp_all [flat, dZ, PyData.eqv]
theorem dZs_eqv (n k : Nat) (ds es : List Z) (h : ds.all (flat n) = true) (h' : es.all (flat k) = true) : PyData.eqvAll (dZs ds) (dZs es) = true ↔ ds = es := by
  have q := dZ_eqv (n + 1) (.tup ds) (.tup es) (k + 1) (by simpa [flat] using h) (by simpa [flat] using h')
  simpa only [dZ, PyData.eqv, Z.tup.injEq] using q
section
variable {K : PySem.W.Frag} {H : Hp}
theorem dv_of : ∀ (n : Nat) (w : Z) (v : V), flat n w = true → Rep K H w v → DV H (dZ w) v := by
  have all : ∀ (n : Nat), (∀ w v, flat n w = true → Rep K H w v → DV H (dZ w) v) → ∀ (ws : List Z) (vs : List V), (∀ d ∈ ws, flat n d = true) → Reps K H ws vs → DVs H (dZs ws) vs := by
    intro n ih ws
    induction ws with
    | nil => intro vs _ r; rw [reps_nil] at r; simp only [dZs]; unfold DVs; exact r
    | cons w ws hi =>
      intro vs h r
      rw [reps_cons] at r
      obtain ⟨v, r', e, r1, r2⟩ := r
      simp only [dZs]
      unfold DVs
      exact ⟨v, r', e, ih w v (h w (.head _)) r1, hi r' (fun d hd => h d (.tail _ hd)) r2⟩
  intro n
  induction n with
  | zero =>
    intro w v h r
    cases w with
    | non => rw [rep_non] at r; simp only [dZ]; unfold DV; exact r
    | int i => rw [rep_int] at r; simp only [dZ]; unfold DV; exact r
    | str x => rw [rep_str] at r; simp only [dZ]; unfold DV; exact r
    | _ => simp [flat] at h
  | succ n ih =>
    intro w v h r
    cases w with
    | non => rw [rep_non] at r; simp only [dZ]; unfold DV; exact r
    | int i => rw [rep_int] at r; simp only [dZ]; unfold DV; exact r
    | str x => rw [rep_str] at r; simp only [dZ]; unfold DV; exact r
    | tup ws =>
      rw [rep_tup] at r
      obtain ⟨a, vs, e, ea, rs⟩ := r
      simp only [dZ]
      unfold DV
      exact ⟨a, vs, e, ea, all n ih ws vs (by simpa [flat] using h) rs⟩
    | _ => simp [flat] at h
theorem dvs_of (n : Nat) : ∀ (ws : List Z) (vs : List V), ws.all (flat n) = true → Reps K H ws vs → DVs H (dZs ws) vs
  | [], vs, _, r => by rw [reps_nil] at r; simp only [dZs]; unfold DVs; exact r
  | w :: ws, vs, h, r => by
    rw [reps_cons] at r
    obtain ⟨v, r', e, r1, r2⟩ := r
    rw [List.all_cons, Bool.and_eq_true] at h
    simp only [dZs]
    unfold DVs
    exact ⟨v, r', e, dv_of n w v h.1 r1, dvs_of n ws r' h.2 r2⟩
end
theorem shaped_flat {n : Nat} {w : Z} (h : flat n w = true) (hn : n ≤ 64) : SeqAt.shaped (dZ w) = true := by
  have q := dZ_lay n w h
  unfold SeqAt.shaped
  rw [q.1, Bool.true_and]
  exact decide_eq_true (by omega)
theorem shaped_list {n : Nat} {ws : List Z} (h : ws.all (flat n) = true) (hn : n ≤ 63) : SeqAt.shaped (.list (dZs ws)) = true := by
  have q := dZs_lay n ws h
  unfold SeqAt.shaped
  simp only [PyData.canLay0, PyData.depth, q.1, Bool.true_and]
  exact decide_eq_true (by omega)
theorem beq_dec {a : Bool} {p : Prop} [Decidable p] (h : a = true ↔ p) : a = decide p := by
  cases a with
  | true => exact (decide_eq_true (h.mp rfl)).symm
  | false => exact (decide_eq_false fun q => by cases h.mpr q).symm
theorem decide_congr {p q : Prop} [Decidable p] [Decidable q] (h : p = q) : decide p = decide q := by
  by_cases k : q
  · rw [decide_eq_true k, decide_eq_true (h ▸ k)]
  · rw [decide_eq_false k, decide_eq_false (h ▸ k)]
def zEq (f : Bool → Bool) : R3 := fun x y G R => match x, y with
  | .bl a, .bl b => R (.bl (f (a == b))) G
  | .int a, .int b => R (.bl (f (decide (a = b)))) G
  | .str a, .str b => R (.bl (f (decide (a = b)))) G
  | .ref p, .ref q => ∃ xs ys, G p = some (.lst xs) ∧ G q = some (.lst ys) ∧ xs.all (flat 8) = true ∧ ys.all (flat 8) = true ∧ R (.bl (f (decide (xs = ys)))) G
  | x, y => flat 8 x = true ∧ flat 8 y = true ∧ R (.bl (f (decide (x = y)))) G
section
variable {X : Cx}
theorem low_eq {f : Bool → Bool} {K : PySem.W.Frag} {x y : V} {H : Hp} {Q : VK} (h : low2 K (zEq f) x y H Q) :
    (scal x y = true ∧ Q (.bl (f (decide (x = y)))) H) ∨ ∃ d e, DV H d x ∧ DV H e y ∧ SeqAt.shaped d = true ∧ SeqAt.shaped e = true ∧ Q (.bl (f (PyData.eqv d e))) H := by
  obtain ⟨a, b, G, R, ra, rb, hg, h, up⟩ := h
  have flt : flat 8 a = true ∧ flat 8 b = true ∧ R (.bl (f (decide (a = b)))) G → ∃ d e, DV H d x ∧ DV H e y ∧ SeqAt.shaped d = true ∧ SeqAt.shaped e = true ∧ Q (.bl (f (PyData.eqv d e))) H := fun ⟨h1, h2, h3⟩ => by
    refine ⟨dZ a, dZ b, dv_of 8 _ _ h1 ra, dv_of 8 _ _ h2 rb, shaped_flat h1 (by decide), shaped_flat h2 (by decide), ?_⟩
    rw [beq_dec (dZ_eqv 8 a b 8 h1 h2)]
    exact up _ _ _ _ h3 (by rw [rep_bl]) hg (.refl _ _)
  cases a <;> cases b <;> first
    | exact .inr (flt h)
    | (rw [rep_bl] at ra rb; subst ra rb; exact .inl ⟨rfl, by rw [dec_bl]; exact up _ _ _ _ h (by rw [rep_bl]) hg (.refl _ _)⟩)
    | (rw [rep_int] at ra rb; subst ra rb; exact .inl ⟨rfl, by rw [decide_congr (V.int.injEq _ _)]; exact up _ _ _ _ h (by rw [rep_bl]) hg (.refl _ _)⟩)
    | (rw [rep_str] at ra rb; subst ra rb; exact .inl ⟨rfl, by rw [decide_congr (V.str.injEq _ _)]; exact up _ _ _ _ h (by rw [rep_bl]) hg (.refl _ _)⟩)
    | (rw [rep_ref] at ra rb
       subst ra rb
       obtain ⟨xs, ys, e1, e2, f1, f2, h⟩ := h
       obtain ⟨vs, e1', r1⟩ := hg _ _ e1
       obtain ⟨us, e2', r2⟩ := hg _ _ e2
       refine .inr ⟨.list (dZs xs), .list (dZs ys), ?_, ?_, shaped_list f1 (by decide), shaped_list f2 (by decide), ?_⟩
       · unfold DV; exact ⟨_, vs, rfl, e1', dvs_of 8 _ _ f1 r1⟩
       · unfold DV; exact ⟨_, us, rfl, e2', dvs_of 8 _ _ f2 r2⟩
       · simp only [PyData.eqv]
         rw [beq_dec (dZs_eqv 8 8 xs ys f1 f2)]
         exact up _ _ _ _ h (by rw [rep_bl]) hg (.refl _ _))
theorem o_eq (hu : X.A.units + 66 < cLine) : OpQ X (compareOp .Eq) (zEq id) := opImp (op_eq.or (op_eqD hu)) fun x y H Q h => low_eq h
theorem o_ne (hu : X.A.units + 66 < cLine) : OpQ X (compareOp .NotEq) (zEq not) := opImp (op_ne.or (op_neD hu)) fun x y H Q h => low_eq h
def zIn (f : Bool → Bool) : R3 := fun x y G R => match x, y with
  | .str a, .str b => R (.bl (f (!(Builtin.Str.occurrences b a 0 b.length 1).isEmpty))) G
  | x, .ref q => ∃ ws, G q = some (.lst ws) ∧ flat 8 x = true ∧ ws.all (flat 8) = true ∧ R (.bl (f (decide (x ∈ ws)))) G
  | x, .tup ws => flat 8 x = true ∧ ws.all (flat 8) = true ∧ R (.bl (f (decide (x ∈ ws)))) G
  | _, _ => False
end
end L3
namespace L2
open PySem PySem.Spec PyProof.Rows
def Its (x : Str) : It := ⟨fun i _ => i < x.cps.size, fun i H v H' => H' = H ∧ ∃ c, x.cps[i]? = some c ∧ v = .str ⟨#[c]⟩, fun i _ => i = x.cps.size⟩
theorem turn_str {P : Program} {w : World} {K : PySem.W.Frag} {tg : Expr} {it : Addr} {ty : String} {x : Str} {t : Tok}
    (hty : ["enumerate", "zip", "dict_itemiterator", "dict_reverseitemiterator", "odict_iterator", "itertools.zip_longest", "itertools.pairwise"].contains ty = false)
    (W : ∀ A' : Around, A'.handled = none → Walks P w A' it [it] [it] x.cps.size (SignAt x) (fun i h => h.IsStrIter it ty x t i))
    (hself : ∀ (A : Around) (i : Nat) (s : Shared) (Q : Value → Shared → Prop) (E : Value → Shared → Prop), s.heap.IsStrIter it ty x t i → Q (.ref it) s → wpAny (model P w) A (pyIter (.ref it)) Q E s) :
    Turn P w K tg (Its x) [it] it (fun i h => h.IsStrIter it ty x t i) where
  mem := by simp
  obj := fun i h st b hb => by
    have e : b = it := by simpa using hb
    subst e
    obtain ⟨o, e, c, d⟩ := st
    exact ⟨o, e, fun v z => by rw [d] at z; cases z⟩
  keep := fun i h h' st k => let ⟨o, e, r⟩ := st; ⟨o, k it (by simp) o e, r⟩
  item := by
    intro X hP hw hK hc i pins s σ H E I hf st hg
    subst hP hw hK
    obtain ⟨f0, f1, f2, f3, f4, f5⟩ := hf it (by simp)
    refine (W X.A (I.ok.hd hc)).item i s _ _ hg st fun v h' tk ⟨c, u, hx, e⟩ st' k => ?_
    subst e
    have I1 : Inv X pins σ H { s with heap := h', toks := tk } := I.turned (t' := tk) (fun b o hb e => k b o (by simpa using hb) e) f0 f1 f3 f4 f5
    obtain ⟨o, e, cl, d⟩ := id st'
    exact ⟨_, rfl, go_of (s := { s with heap := h', toks := tk }) e cl d hty ⟨.str ⟨#[c]⟩, H, I1, ⟨_, rfl⟩, ⟨rfl, c, hx, rfl⟩, st', fun b hb => (hf b hb).1⟩⟩
  done := by
    intro X hP hw hK hc i pins s σ H E I hf st hg
    subst hP hw hK
    obtain ⟨f0, f1, f2, f3, f4, f5⟩ := hf it (by simp)
    have hg' : i = x.cps.size := hg
    subst hg'
    exact (W X.A (I.ok.hd hc)).done s _ _ st fun h' tk k => ⟨rfl, I.turned (t' := tk) (fun b o hb e => k b o (by simpa using hb) e) f0 f1 f3 f4 f5⟩
  self := hself
def iStr (tl : TE) : TI := fun σ H R => tl σ H fun v H1 => ∃ x, v = .str x ∧ R (Its x) H1
theorem pi_str {X : Cx} {tg l : Expr} {tl : TE} (hl : PE X l tl) : PI X tg l (iStr tl) := by
  intro pins s σ H R I h
  refine thn (hl pins s σ H _ I h) fun v s1 ⟨x, H1, I1, r1, q1⟩ => ?_
  obtain ⟨y, e, q⟩ := q1
  subst e
  obtain ⟨t, rfl⟩ := r1
  have fp : ∀ (o : Obj), ∀ b ∈ [s1.heap.objs.size], FpOk X pins H1 b := fun o b hb => by
    have e : b = s1.heap.objs.size := by simpa using hb
    subst e
    exact I1.fpOk (Nat.le_refl _) (I1.hok.fresh (Nat.le_refl _))
  cases ha : y.cps.all (· < 128)
  · refine wpAny_pyIter_wide ha ?_
    exact ⟨s1.heap.objs.size, [s1.heap.objs.size], _, _, H1, rfl, I1.kept (t' := s1.toks) (fun b o e => Heap.get?_push_of_some _ e), turn_str (by decide) (fun A' hA => Walks.strWide hA _ y t) (fun _ _ _ _ _ st h => wpAny_pyIter_striter_wide st h),
      ⟨_, Heap.get?_push_size _ rfl, rfl, rfl⟩, fp default, q⟩
  · refine wpAny_pyIter_ascii ha ?_
    exact ⟨s1.heap.objs.size, [s1.heap.objs.size], _, _, H1, rfl, I1.kept (t' := s1.toks) (fun b o e => Heap.get?_push_of_some _ e), turn_str (by decide) (fun A' hA => Walks.strAscii hA _ y t) (fun _ _ _ _ _ st h => wpAny_pyIter_striter_ascii st h),
      ⟨_, Heap.get?_push_size _ rfl, rfl, rfl⟩, fp default, q⟩
theorem Vals.tog : ∀ {xs : List V} {us : List Value} {i : Nat} {u : Value}, Vals xs us → us[i]? = some u → ∃ x, xs[i]? = some x ∧ RelV x u
  | _, _, _, _, .nil, e => by simp at e
  | _, _, 0, _, .cons r _, e => by simp at e; subst e; exact ⟨_, rfl, r⟩
  | _, _, i + 1, u, .cons _ t, e => by
    obtain ⟨x, h1, h2⟩ := Vals.tog (i := i) (u := u) t (by simpa using e)
    exact ⟨x, by simpa using h1, h2⟩
theorem strsAre_of : ∀ {ys : List Str} {us : List Value}, Vals (ys.map V.str) us → StrsAre us ys
  | [], us, r => by rw [List.map_nil] at r; cases r; exact .nil
  | y :: ys, us, r => by
    rw [List.map_cons] at r
    cases r with
    | cons r1 r2 =>
      obtain ⟨t, e⟩ := r1
      subst e
      exact .cons y t (strsAre_of r2)
theorem all_range (bs : List Bool) : (List.range bs.length).all (fun i => bs.getD i false) = bs.all id := by
  rw [Bool.eq_iff_iff]
  simp only [List.all_eq_true, List.mem_range, id]
  constructor
  · intro h b hb
    obtain ⟨i, hi, e⟩ := List.getElem_of_mem hb
    have := h i hi
    rw [List.getD_eq_getElem?_getD, List.getElem?_eq_getElem hi] at this
    rw [← e]; exact this
  · intro h i hi
    rw [List.getD_eq_getElem?_getD, List.getElem?_eq_getElem hi]
    exact h _ (List.getElem_mem hi)
section
variable {X : Cx}
theorem call_allB (hc : X.calm = true) : CallR X (.builtin "all") (fun xs H Q => ∃ (p : Addr) (bs : List Bool), xs = [.ref p] ∧ SqL X.K H p (bs.map V.bl) ∧ Q (.bl (bs.all id)) H) := by
  intro pins s σ H xs us Q I r h
  obtain ⟨p, bs, rfl, hq, q⟩ := h
  obtain ⟨u, rfl, r1⟩ := vals1 r
  cases r1
  obtain ⟨its, rv, pl, _⟩ := I.list hq
  have hp : p < s.heap.objs.size := by obtain ⟨o, _, e, _⟩ := pl; exact Heap.lt_size e
  refine call_all_walk (wpAny_pyIter_list pl.isList ?_)
  have hh : X.A.in1.handled = none := I.ok.hd hc
  have il : (s.heap.push { cls := .type "list_iterator", data := .fields #[.ref p, rawInt 0] }).IsList p its.toArray := by
    obtain ⟨o, e, c⟩ := pl.isList
    exact ⟨o, Heap.get?_push_of_some _ e, c⟩
  refine ⟨_, _, _, _, _, _, fun i => bs.getD i false, rfl, Walks.list hh s.heap.objs.size p (Nat.ne_of_lt hp) its.toArray, ⟨⟨_, Heap.get?_push_size _ rfl, rfl, rfl⟩, il⟩, ?_, ?_⟩
  · intro i v s' Q' E' hv hQ
    obtain ⟨x, hx, rx⟩ := Vals.tog rv (by simpa using hv)
    rw [List.getElem?_map] at hx
    cases hb : bs[i]? with
    | none => rw [hb] at hx; cases hx
    | some b =>
      rw [hb] at hx
      cases hx
      cases rx
      refine wpAny_truthy_bool ?_
      have : bs.getD i false = b := by rw [List.getD_eq_getElem?_getD, hb]; rfl
      dsimp only at hQ
      rw [this] at hQ
      exact hQ
  · intro h' tk k
    have e : (List.range its.toArray.size).all (fun i => bs.getD i false) = bs.all id := by
      have hl : its.toArray.size = bs.length := by rw [List.size_toArray, ← rv.length, List.length_map]
      rw [hl]
      exact all_range bs
    rw [e]
    exact ⟨.bl _, H, I.kept (t' := tk) (fun b o eb => k b o (by simpa using Nat.ne_of_lt (Heap.lt_size eb)) (Heap.get?_push_of_some _ eb)), rfl, q⟩
theorem op_isB : OpR X (compareOp .Is) (fun x y H Q => ∃ a b, x = .bl a ∧ y = .bl b ∧ Q (.bl (a == b)) H) := by
  intro pins s σ H x y v u Q I rx ry h
  obtain ⟨a, b, rfl, rfl, q⟩ := h
  cases rx
  cases ry
  exact wpAny_is_plain rfl (fin_bl I q (by cases a <;> cases b <;> rfl))
theorem mt_join : MtR X "str.join" (fun x vs H Q => ∃ (z : Str) (p : Addr) (ys : List Str), x = .str z ∧ vs = [.ref p] ∧ SqL X.K H p (ys.map V.str) ∧ (ys.map (·.length)).sum + ys.length * z.length ≤ 16777216 ∧ Q (.str (Txt.join z ys)) H) := by
  intro pins s σ H x xs v us Q I rx rs h
  obtain ⟨z, p, ys, rfl, rfl, hq, hz, q⟩ := h
  obtain ⟨t, rfl⟩ := rx
  obtain ⟨u, rfl, r1⟩ := vals1 rs
  cases r1
  obtain ⟨its, rv, pl, _⟩ := I.list hq
  exact join_list pl.isList (by simpa using strsAre_of rv) hz fun t' k => ⟨.str _, H, I.tok k, ⟨_, rfl⟩, q⟩
def rSlS : V → Option Int → Option Int → Hp → VK → Prop := fun x lo hi H Q => ∃ z, x = .str z ∧ z.length ≤ sizeLine ∧ Q (.str (Txt.slice z lo hi)) H
theorem sl_str : SlR X rSlS := by
  intro pins s σ H x v vl vu lo hi sl Q I rx hs pl pu h
  obtain ⟨z, rfl, hz, q⟩ := h
  obtain ⟨t, rfl⟩ := rx
  obtain ⟨o, e, c, d⟩ := hs
  have fin : ∀ lo hi, Q (.str (Txt.slice z lo hi)) H → (Txt.slice z lo hi).length ≤ sizeLine ∧ ∀ t' k, EP X pins σ Q (.str (Txt.slice z lo hi) t') { s with toks := k } := fun lo hi q =>
    ⟨Nat.le_trans (Txt.slice_le z _ _) hz, fun t' k => ⟨.str _, H, I.tok k, ⟨_, rfl⟩, q⟩⟩
  cases pl with
  | none =>
    cases pu with
    | none => exact ⟨"str", _, F.slot_str_getitem.lookup, typeIs_str _ _ _, wpAny_getItem_str_slice (l := none) (u := none) (st := none) ⟨o, e, c, d⟩ rfl (post_val_or_str (fin _ _ q))⟩
    | int j u => exact ⟨"str", _, F.slot_str_getitem.lookup, typeIs_str _ _ _, wpAny_getItem_str_slice (l := none) (u := some (j, u)) (st := none) ⟨o, e, c, d⟩ rfl (post_val_or_str (fin _ _ q))⟩
  | int i v =>
    cases pu with
    | none => exact ⟨"str", _, F.slot_str_getitem.lookup, typeIs_str _ _ _, wpAny_getItem_str_slice (l := some (i, v)) (u := none) (st := none) ⟨o, e, c, d⟩ rfl (post_val_or_str (fin _ _ q))⟩
    | int j u => exact ⟨"str", _, F.slot_str_getitem.lookup, typeIs_str _ _ _, wpAny_getItem_str_slice (l := some (i, v)) (u := some (j, u)) (st := none) ⟨o, e, c, d⟩ rfl (post_val_or_str (fin _ _ q))⟩
end
end L2
namespace L3
open PySem PySem.Spec PyProof.Rows L2
section
variable {X : Cx}
theorem o_is : OpQ X (compareOp .Is) (zIs false) := opImp (op_isN.or op_isB) fun x y H Q hx => hx.un fun a b G R ra rb hg h up => by
  cases b with
  | non => rw [rep_non] at rb; exact .inl ⟨rb, by rw [rep_is_non ra]; exact up _ _ _ _ h (by rw [rep_bl]; rfl) hg (.refl _ _)⟩
  | bl b =>
    cases a with
    | bl a => rw [rep_bl] at ra rb; exact .inr ⟨_, _, ra, rb, up _ _ _ _ h.2 (by rw [rep_bl]) hg (.refl _ _)⟩
    | _ => exact False.elim h
  | _ => exact False.elim h
theorem o_isnot : OpQ X (compareOp .IsNot) (zIs true) := opImp op_notN fun x y H Q hx => hx.un fun a b G R ra rb hg h up => by
  cases b with
  | non => rw [rep_non] at rb; exact ⟨rb, by rw [rep_is_non ra]; exact up _ _ _ _ h (by rw [rep_bl]; rfl) hg (.refl _ _)⟩
  | bl b =>
    cases a with
    | bl a => exact nomatch h.1
    | _ => exact False.elim h
  | _ => exact False.elim h
def zIx : R3 := fun x y G R => match x, y with
  | .ref p, .int i => ∃ ws w, G p = some (.lst ws) ∧ atI ws i = some w ∧ R w G
  | .scr _ ns, .int i => ∃ n, atI ns i = some n ∧ R (.int n) G
  | .tup ws, .int i => ∃ w, atI ws i = some w ∧ R w G
  | .str z, .int i => ∃ c, z.length ≤ sizeLine ∧ atI z.cps.toList i = some c ∧ R (.str ⟨#[c]⟩) G
  | _, _ => False
theorem atI_rep {K : PySem.W.Frag} {H : Hp} {ws : List Z} {vs : List V} {i : Int} {w : Z} (r : Reps K H ws vs) (h : atI ws i = some w) : ∃ v, atI vs i = some v ∧ Rep K H w v := by
  unfold atI at h ⊢
  rw [← r.length]
  cases e : ixN ws.length i with
  | none => rw [e] at h; cases h
  | some j =>
    rw [e] at h
    exact r.get h
theorem atI_map {α β : Type} {f : α → β} {xs : List α} {i : Int} {x : α} (h : atI xs i = some x) : atI (xs.map f) i = some (f x) := by
  unfold atI at h ⊢
  rw [List.length_map]
  cases e : ixN xs.length i with
  | none => rw [e] at h; cases h
  | some j =>
    rw [e] at h
    have h' : xs[j]? = some x := h
    show (xs.map f)[j]? = some (f x)
    rw [List.getElem?_map, h']; rfl
theorem x_ix : IxQ X zIx := ixImp ix_seq fun x y H Q hx => hx.un fun a b G R ra rb hg h up => by
  cases a <;> cases b <;> first
    | exact False.elim h
    | (rw [rep_ref] at ra
       rw [rep_int] at rb
       obtain ⟨ws, w, e, hw, h⟩ := h
       obtain ⟨vs, e', rs⟩ := hg _ _ e
       obtain ⟨v, hv, rv⟩ := atI_rep rs hw
       exact .inl ⟨_, _, _, v, ra, rb, SqL.of e', hv, up _ _ _ _ h rv hg (.refl _ _)⟩)
    | (rw [rep_scr] at ra
       rw [rep_int] at rb
       obtain ⟨n, hn, h⟩ := h
       exact .inl ⟨_, _, _, _, ra.1, rb, ra.2.sq, atI_map hn, up _ _ _ _ h (by rw [rep_int]) hg (.refl _ _)⟩)
    | (rw [rep_tup] at ra
       rw [rep_int] at rb
       obtain ⟨p, vs, e, e', rs⟩ := ra
       obtain ⟨w, hw, h⟩ := h
       obtain ⟨v, hv, rv⟩ := atI_rep rs hw
       exact .inr (.inl ⟨p, vs, _, v, e, rb, SqT.of e', hv, up _ _ _ _ h rv hg (.refl _ _)⟩))
    | (rw [rep_str] at ra
       rw [rep_int] at rb
       obtain ⟨c, hz, hc, h⟩ := h
       exact .inr (.inr ⟨_, _, c, ra, rb, hz, hc, up _ _ _ _ h (by rw [rep_str]) hg (.refl _ _)⟩))
def cutZ {α : Type} (xs : List α) (lo hi : Option Int) : List α := (xs.drop (HT.sIx xs.length 0 lo)).take (HT.sIx xs.length xs.length hi - HT.sIx xs.length 0 lo)
theorem cutV_eq (xs : List V) (lo hi : Option Int) : cutV xs lo hi = cutZ xs lo hi := rfl
theorem cutZ_length {α : Type} (xs : List α) (lo hi : Option Int) : (cutZ xs lo hi).length ≤ xs.length := by
  unfold cutZ
  rw [List.length_take, List.length_drop]
  omega
theorem Reps.cut {K : PySem.W.Frag} {H : Hp} {ws : List Z} {vs : List V} (r : Reps K H ws vs) (lo hi : Option Int) : Reps K H (cutZ ws lo hi) (cutV vs lo hi) := by
  unfold cutZ cutV
  rw [← r.length]
  exact (r.drop _).take _
theorem cutZ_map {α β : Type} (f : α → β) (xs : List α) (lo hi : Option Int) : cutZ (xs.map f) lo hi = (cutZ xs lo hi).map f := by
  unfold cutZ
  rw [List.length_map, List.map_take, List.map_drop]
def zSl : L3r := fun x lo hi G R => match x with
  | .ref p => ∃ ws, G p = some (.lst ws) ∧ ∀ t, G t = none → R (.ref t) (put G t (.lst (cutZ ws lo hi)))
  | .scr _ ns => ∀ t, G t = none → R (.ref t) (put G t (.lst ((cutZ ns lo hi).map Z.int)))
  | .tup ws => ¬ (HT.sIx ws.length 0 lo = 0 ∧ HT.sIx ws.length ws.length hi = ws.length) ∧ R (.tup (cutZ ws lo hi)) G
  | .str z => z.length ≤ sizeLine ∧ R (.str (Txt.slice z lo hi)) G
  | _ => False
theorem x_sl : SlQ X zSl := slImp (sl_list.or (sl_tup.or sl_str)) fun x lo hi H Q hx => hx.un fun a G R ra hg h up => by
  cases a with
  | ref p =>
    rw [rep_ref] at ra
    obtain ⟨ws, e, h⟩ := h
    obtain ⟨vs, e', rs⟩ := hg _ _ e
    exact .inl ⟨p, vs, ra, SqL.of e', fun t ht => up _ _ _ _ (h t (hg.out ht)) (by rw [rep_ref]) (hg.set (.new ht) (rob_lst (rs.cut lo hi) (.new ht))) (.new ht)⟩
  | scr p ns =>
    rw [rep_scr] at ra
    refine .inl ⟨p, _, ra.1, ra.2.sq, fun t ht => ?_⟩
    rw [cutV_eq, cutZ_map]
    exact up _ _ _ _ (h t (hg.out ht)) (by rw [rep_ref]) (hg.set (.new ht) (rob_lst (ints_reps _) (.new ht))) (.new ht)
  | tup ws =>
    rw [rep_tup] at ra
    obtain ⟨p, vs, e, e', rs⟩ := ra
    exact .inr (.inl ⟨p, vs, e, SqT.of e', by rw [← rs.length]; exact h.1, fun t ht => up _ _ _ _ h.2 (by rw [rep_tup]; exact ⟨t, _, rfl, upd_same, (rs.cut lo hi).mono (.new ht)⟩) (hg.hid ht) (.new ht)⟩)
  | str z =>
    rw [rep_str] at ra
    exact .inr (.inr ⟨z, ra, h.1, up _ _ _ _ h.2 (by rw [rep_str]) hg (.refl _ _)⟩)
  | _ => exact False.elim h
def zSet : Z3 := fun o i v G R => match o, i with
  | .ref p, .int k => ∃ ws j, G p = some (.lst ws) ∧ ixN ws.length k = some j ∧ R (put G p (.lst (ws.set j v)))
  | _, _ => False
theorem x_set : SetQ X zSet := setImp set_list fun o i v H Q hx => hx.un fun a b w G R ra rb rw' hg h up => by
  cases a <;> cases b <;> first
    | exact False.elim h
    | (rw [rep_ref] at ra
       rw [rep_int] at rb
       obtain ⟨ws, j, e, hj, h⟩ := h
       obtain ⟨vs, e', rs⟩ := hg _ _ e
       exact ⟨_, vs, _, j, ra, rb, e', by rw [← rs.length]; exact hj, up _ _ h (hg.set (.lst e') (rob_lst (rs.set rw' j) (.lst e'))) (.lst e')⟩)
def zLen : List Z → Hq → K3 → Prop := fun xs G R => match xs with
  | [.str z] => z.length ≤ sizeLine ∧ R (.int z.length) G
  | [.ref p] => ∃ ws, G p = some (.lst ws) ∧ R (.int ws.length) G
  | [.tup ws] => R (.int ws.length) G
  | [.scr _ ns] => R (.int ns.length) G
  | _ => False
theorem b_len : CallQ X (.builtin "len") zLen := callImp call_len fun xs H Q hx => hx.un fun ws G R rs hg h up => by
  match ws, h with
  | [.str z], h =>
    obtain ⟨v, rfl, r⟩ := rs.one
    rw [rep_str] at r
    exact ⟨v, z.length, rfl, by rw [r]; exact ⟨h.1, rfl⟩, up _ _ _ _ h.2 (by rw [rep_int]) hg (.refl _ _)⟩
  | [.ref p], h =>
    obtain ⟨v, rfl, r⟩ := rs.one
    rw [rep_ref] at r
    obtain ⟨ys, e, h⟩ := h
    obtain ⟨vs, e', rs'⟩ := hg _ _ e
    exact ⟨v, ys.length, rfl, by rw [r]; exact .inl ⟨vs, SqL.of e', rs'.length⟩, up _ _ _ _ h (by rw [rep_int]) hg (.refl _ _)⟩
  | [.tup ys], h =>
    obtain ⟨v, rfl, r⟩ := rs.one
    rw [rep_tup] at r
    obtain ⟨p, vs, e, e', rs'⟩ := r
    exact ⟨v, ys.length, rfl, by rw [e]; exact .inr ⟨vs, SqT.of e', rs'.length⟩, up _ _ _ _ h (by rw [rep_int]) hg (.refl _ _)⟩
  | [.scr p ns], h =>
    obtain ⟨v, rfl, r⟩ := rs.one
    rw [rep_scr] at r
    exact ⟨v, ns.length, rfl, by rw [r.1]; exact .inl ⟨_, r.2.sq, (List.length_map ..).symm⟩, up _ _ _ _ h (by rw [rep_int]) hg (.refl _ _)⟩
def zMM (f : Int → Int → Int) : List Z → Hq → K3 → Prop := fun xs G R => match xs with
  | [.int i, .int j] => R (.int (f i j)) G
  | _ => False
theorem bMM {id : String} {f : Int → Int → Int} (hf : CallR X (.builtin id) (fun xs H Q => ∃ i j, xs = [.int i, .int j] ∧ Q (.int (f i j)) H)) : CallQ X (.builtin id) (zMM f) := callImp hf fun xs H Q hx => hx.un fun ws G R rs hg h up => by
  match ws, h with
  | [.int i, .int j], h =>
    obtain ⟨v, v', rfl, r, r'⟩ := rs.two
    rw [rep_int] at r r'
    exact ⟨i, j, by rw [r, r'], up _ _ _ _ h (by rw [rep_int]) hg (.refl _ _)⟩
theorem b_max (hc : X.calm = true) : CallQ X (.builtin "max") (zMM fun i j => if j > i then j else i) := bMM (call_max2 hc)
theorem b_min (hc : X.calm = true) : CallQ X (.builtin "min") (zMM fun i j => if j < i then j else i) := bMM (call_min2 hc)
def zAll : List Z → Hq → K3 → Prop := fun xs G R => match xs with
  | [.ref p] => ∃ bs : List Bool, G p = some (.lst (bs.map Z.bl)) ∧ R (.bl (bs.all id)) G
  | _ => False
theorem reps_bls {K : PySem.W.Frag} {H : Hp} : ∀ {bs : List Bool} {vs : List V}, Reps K H (bs.map Z.bl) vs → vs = bs.map V.bl
  | [], vs, h => by rw [List.map_nil, reps_nil] at h; subst h; rfl
  | n :: ns, vs, h => by
    rw [List.map_cons, reps_cons] at h
    obtain ⟨v, r, rfl, h1, h2⟩ := h
    rw [rep_bl] at h1
    rw [h1, reps_bls h2]; rfl
theorem reps_strs {K : PySem.W.Frag} {H : Hp} : ∀ {bs : List Str} {vs : List V}, Reps K H (bs.map Z.str) vs → vs = bs.map V.str
  | [], vs, h => by rw [List.map_nil, reps_nil] at h; subst h; rfl
  | n :: ns, vs, h => by
    rw [List.map_cons, reps_cons] at h
    obtain ⟨v, r, rfl, h1, h2⟩ := h
    rw [rep_str] at h1
    rw [h1, reps_strs h2]; rfl
theorem b_all (hc : X.calm = true) : CallQ X (.builtin "all") zAll := callImp (call_allB hc) fun xs H Q hx => hx.un fun ws G R rs hg h up => by
  match ws, h with
  | [.ref p], h =>
    obtain ⟨v, rfl, r⟩ := rs.one
    rw [rep_ref] at r
    obtain ⟨bs, e, h⟩ := h
    obtain ⟨vs, e', rs'⟩ := hg _ _ e
    have := reps_bls rs'
    subst this
    exact ⟨p, bs, by rw [r], SqL.of e', up _ _ _ _ h (by rw [rep_bl]) hg (.refl _ _)⟩
def zList : List Z → Hq → K3 → Prop := fun xs G R => match xs with
  | [.ref p] => ∃ ws, G p = some (.lst ws) ∧ ∀ t, G t = none → R (.ref t) (put G t (.lst ws))
  | [.tup ws] => ∀ t, G t = none → R (.ref t) (put G t (.lst ws))
  | [.scr _ ns] => ∀ t, G t = none → R (.ref t) (put G t (.lst (ns.map Z.int)))
  | _ => False
theorem b_list : CallQ X (.type "list") zList := callImp call_list_of fun xs H Q hx => hx.un fun ws G R rs hg h up => by
  match ws, h with
  | [.ref p], h =>
    obtain ⟨v, rfl, r⟩ := rs.one
    rw [rep_ref] at r
    obtain ⟨ys, e, h⟩ := h
    obtain ⟨vs, e', rs'⟩ := hg _ _ e
    exact ⟨p, vs, by rw [r], .inl (SqL.of e'), fun t ht => up _ _ _ _ (h t (hg.out ht)) (by rw [rep_ref]) (hg.set (.new ht) (rob_lst rs' (.new ht))) (.new ht)⟩
  | [.tup ys], h =>
    obtain ⟨v, rfl, r⟩ := rs.one
    rw [rep_tup] at r
    obtain ⟨p, vs, e, e', rs'⟩ := r
    exact ⟨p, vs, by rw [e], .inr (SqT.of e'), fun t ht => up _ _ _ _ (h t (hg.out ht)) (by rw [rep_ref]) (hg.set (.new ht) (rob_lst rs' (.new ht))) (.new ht)⟩
  | [.scr p ns], h =>
    obtain ⟨v, rfl, r⟩ := rs.one
    rw [rep_scr] at r
    exact ⟨p, _, by rw [r.1], .inl r.2.sq, fun t ht => up _ _ _ _ (h t (hg.out ht)) (by rw [rep_ref]) (hg.set (.new ht) (rob_lst (ints_reps _) (.new ht))) (.new ht)⟩
def kit0 (n T : String) : Option Bool := if (Value.type n == Value.type T) = true then some true else if PySem.W.kitMeta T = true then (PySem.fastBuiltinMro n).map (·.contains (.type T)) else none
theorem kit_of {K : PySem.W.Frag} {n T : String} : PySem.W.kitOne K (.type n) (.type T) = kit0 n T := rfl
def tyN (G : Hq) : Z → Option String
  | .non => some "NoneType"
  | .bl _ => some "bool"
  | .int _ => some "int"
  | .str _ => some "str"
  | .tup _ => some "tuple"
  | .ref p => match G p with
    | some (.lst _) => some "list"
    | some (.dK _) => some "dict"
    | _ => none
  | _ => none
def zIsT : List Z → Hq → K3 → Prop := fun xs G R => match xs with
  | [x, .ty T] => ∃ n b, tyN G x = some n ∧ kit0 n T = some b ∧ R (.bl b) G
  | _ => False
theorem tyOf_low {K : PySem.W.Frag} {G : Hq} {H : Hp} {x : Z} {v : V} {n : String} (h : tyN G x = some n) (r : Rep K H x v) (hg : RH K G H) : TyOf K H v (.type n) := by
  cases x with
  | non => rw [rep_non] at r; subst r; cases h; exact .non
  | bl _ => rw [rep_bl] at r; subst r; cases h; exact .bl _
  | int _ => rw [rep_int] at r; subst r; cases h; exact .int _
  | str _ => rw [rep_str] at r; subst r; cases h; exact .str _
  | tup ws => rw [rep_tup] at r; obtain ⟨a, vs, rfl, e, _⟩ := r; cases h; exact .tup e
  | ref p =>
    rw [rep_ref] at r
    subst r
    cases e : G p with
    | none => simp [tyN, e] at h
    | some o =>
      cases o with
      | lst ws => simp [tyN, e] at h; subst h; obtain ⟨vs, e', _⟩ := hg _ _ e; exact .lst e'
      | dK kvs => simp [tyN, e] at h; subst h; obtain ⟨vs, e', _⟩ := hg _ _ e; exact .dK e'
      | ins C dx fs => simp [tyN, e] at h
  | ty _ => cases h
  | scr _ _ => cases h
theorem b_isT : CallQ X (.builtin "isinstance") zIsT := callImp call_isT fun xs H Q hx => hx.un fun ws G R rs hg h up => by
  match ws, h with
  | [x, .ty T], h =>
    obtain ⟨v, v', rfl, r, r'⟩ := rs.two
    rw [rep_ty] at r'
    obtain ⟨n, b, e, k, h⟩ := h
    exact ⟨v, T, .type n, b, by rw [r'], tyOf_low e r hg, by rw [kit_of]; exact k, up _ _ _ _ h (by rw [rep_bl]) hg (.refl _ _)⟩
def zAppend : Z → List Z → Hq → K3 → Prop := fun x xs G R => match x, xs with
  | .ref p, [y] => ∃ ws, G p = some (.lst ws) ∧ ws.length < sizeLine ∧ R .non (put G p (.lst (ws ++ [y])))
  | _, _ => False
theorem m_append : MtQ X "list.append" zAppend := mtImp mt_append fun x xs H Q hx => hx.un fun w ws G R rw' rs hg h up => by
  match w, ws, h with
  | .ref p, [y], h =>
    rw [rep_ref] at rw'
    obtain ⟨v, rfl, r⟩ := rs.one
    obtain ⟨ys, e, hz, h⟩ := h
    obtain ⟨vs, e', rs'⟩ := hg _ _ e
    exact ⟨p, vs, v, rw', rfl, e', by rw [← rs'.length]; exact hz, up _ _ _ _ h (by rw [rep_non]) (hg.set (.lst e') (rob_lst (rs'.append (.cons r .nil)) (.lst e'))) (.lst e')⟩
def zExtend : Z → List Z → Hq → K3 → Prop := fun x xs G R => match x, xs with
  | .ref p, [.ref q] => ∃ ws ys, G p = some (.lst ws) ∧ G q = some (.lst ys) ∧ ws.length + ys.length ≤ sizeLine ∧ R .non (put G p (.lst (ws ++ ys)))
  | _, _ => False
theorem m_extend : MtQ X "list.extend" zExtend := mtImp mt_extend fun x xs H Q hx => hx.un fun w ws G R rw' rs hg h up => by
  match w, ws, h with
  | .ref p, [.ref q], h =>
    rw [rep_ref] at rw'
    obtain ⟨v, rfl, r⟩ := rs.one
    rw [rep_ref] at r
    obtain ⟨ys, zs, e, e2, hz, h⟩ := h
    obtain ⟨vs, e', rs'⟩ := hg _ _ e
    obtain ⟨us, e2', rs2⟩ := hg _ _ e2
    exact ⟨p, q, vs, us, rw', by rw [r], e', e2', by rw [← rs'.length, ← rs2.length]; exact hz, up _ _ _ _ h (by rw [rep_non]) (hg.set (.lst e') (rob_lst (rs'.append rs2) (.lst e'))) (.lst e')⟩
def zJoin : Z → List Z → Hq → K3 → Prop := fun x xs G R => match x, xs with
  | .str z, [.ref p] => ∃ ys : List Str, G p = some (.lst (ys.map Z.str)) ∧ (ys.map (·.length)).sum + ys.length * z.length ≤ 16777216 ∧ R (.str (Txt.join z ys)) G
  | _, _ => False
theorem m_join : MtQ X "str.join" zJoin := mtImp mt_join fun x xs H Q hx => hx.un fun w ws G R rw' rs hg h up => by
  match w, ws, h with
  | .str z, [.ref p], h =>
    rw [rep_str] at rw'
    obtain ⟨v, rfl, r⟩ := rs.one
    rw [rep_ref] at r
    obtain ⟨ys, e, hz, h⟩ := h
    obtain ⟨vs, e', rs'⟩ := hg _ _ e
    have := reps_strs rs'
    subst this
    exact ⟨z, p, ys, rw', by rw [r], SqL.of e', hz, up _ _ _ _ h (by rw [rep_str]) hg (.refl _ _)⟩
def uDNew : E3 := fun _ G R => ∀ p, G p = none → R (.ref p) (put G p (.dK []))
theorem q_dnew {pos : Pos} : QE X (.Dict [] [] pos) uDNew := ⟨peImp pe_dnewK fun τ H Q ⟨σ, G, R, hs, hg, h, up⟩ p hp => up _ _ _ _ (h p (hg.out hp)) (by rw [rep_ref]) (hg.set (o := .dK []) (.new hp) ⟨[], upd_same, rfl, .nil⟩) (.new hp)⟩
def signs (x : Str) : List Z := x.cps.toList.map fun c => .str ⟨#[c]⟩
def wkS (x : Z) (G : Hq) (R : List Z → (Hq → Prop) → Hq → Prop) : Prop := match x with
  | .str z => R (signs z) (fun _ => True) G
  | _ => False
def iS (tl : E3) : I3 := fun σ G R => tl σ G fun x G1 => wkS x G1 R
theorem lowIt_str {K : PySem.W.Frag} {x : Str} {H0 : Hp} : LowIt K (signs x) (fun _ => True) (Its x) H0 := fun i G H hg t ok hi => by
  have hl : (signs x).length = x.cps.size := by unfold signs; rw [List.length_map, Array.length_toList]
  refine ⟨fun h => by rw [h, hl]; rfl, fun w hw => ?_⟩
  unfold signs at hw
  rw [List.getElem?_map] at hw
  cases hc : x.cps.toList[i]? with
  | none => rw [hc] at hw; cases hw
  | some c =>
    rw [hc] at hw
    cases hw
    have hc' : x.cps[i]? = some c := by simpa using hc
    refine ⟨(Array.getElem?_eq_some_iff.mp hc').1, ?_⟩
    rintro v H' ⟨rfl, c2, h2, rfl⟩
    rw [hc'] at h2
    cases h2
    exact ⟨by rw [rep_str], hg, .refl _ _⟩
theorem it_str {tg l : Expr} {tl : E3} (hl : QE X l tl) : QI X tg l (iS tl) := piImp (pi_str hl.p) fun τ H R2 hx => hx.un fun σ G R hs hg h up => by
  refine ⟨σ, G, _, hs, hg, h, fun w G1 v H1 h1 rv hg1 t1 => ?_⟩
  cases w with
  | str x =>
    rw [rep_str] at rv
    exact ⟨x, rv, up _ _ _ _ _ h1 lowIt_str hg1 t1⟩
  | _ => exact False.elim h1
end
end L3
namespace L3
open PySem PySem.Spec PyProof.Rows L2
section
variable {σ : S3} {G : Hq} {R : K3} {Rb : Bool → Hq → Prop} {Ra : List Z → Hq → Prop} {nx bk ct : C3} {rt : K3} {t u : X3} {te ta tb tc to ti : E3} {c d : T3} {al : A3} {r r' : R3} {w x y : Z} {i : Nat}
theorem i_var (e : σ[i]? = some (some w)) (h : R w G) : uVar i σ G R := ⟨w, e, h⟩
theorem i_c (h : R w G) : uC w σ G R := h
theorem i_op (h : ta σ G fun x G1 => tb σ G1 fun y G2 => r x y G2 R) : uOp r ta tb σ G R := h
theorem i_un {r : Z → Hq → K3 → Prop} (h : ta σ G fun x G1 => r x G1 R) : uUn r ta σ G R := h
theorem i_test (h : ta σ G fun x G1 => ∃ k, x = .bl k ∧ Rb k G1) : uTest ta σ G Rb := h
theorem i_chain (h : ta σ G fun x G1 => tb σ G1 fun y G2 => r x y G2 fun z G3 => ∃ k, z = .bl k ∧ (if k = true then tc σ G3 fun w G4 => r' y w G4 R else R (.bl false) G3)) : uChain r r' ta tb tc σ G R := h
theorem i_and (h : c σ G fun k G1 => if k = true then d σ G1 Rb else Rb false G1) : uAnd c d σ G Rb := h
theorem i_or (h : c σ G fun k G1 => if k = true then Rb true G1 else d σ G1 Rb) : uOr c d σ G Rb := h
theorem i_not (h : c σ G fun k G1 => Rb (!k) G1) : uNot c σ G Rb := h
theorem i_andV (h : ta σ G fun x G1 => ∃ c, x = .bl c ∧ if c = true then tb σ G1 R else R (.bl false) G1) : uAndV ta tb σ G R := h
theorem i_orV (h : ta σ G fun x G1 => ∃ c, x = .bl c ∧ if c = true then R (.bl true) G1 else tb σ G1 R) : uOrV ta tb σ G R := h
theorem i_notV (h : ta σ G fun x G1 => ∃ c, x = .bl c ∧ R (.bl (!c)) G1) : uNotV ta σ G R := h
theorem i_if (h : c σ G fun k G1 => if k = true then ta σ G1 R else tb σ G1 R) : uIf c ta tb σ G R := h
theorem i_tru (h : ta σ G fun x G1 => tru x G1 Rb) : uTru ta σ G Rb := h
theorem i_truL {p : Addr} {ws : List Z} (e : G p = some (.lst ws)) (h : Rb (!ws.isEmpty) G) : tru (.ref p) G Rb := .inl ⟨ws, e, h⟩
theorem i_truI {n : Int} (h : Rb (n != 0) G) : tru (.int n) G Rb := h
theorem i_truB {b : Bool} (h : Rb b G) : tru (.bl b) G Rb := h
theorem i_sl {r : L3r} {tl th : O3} (h : te σ G fun x G1 => tl σ G1 fun l G2 => th σ G2 fun u G3 => r x l u G3 R) : uSl r te tl th σ G R := h
theorem i_nopart {Ro : Option Int → Hq → Prop} (h : Ro none G) : uNoPart σ G Ro := h
theorem i_part {Ro : Option Int → Hq → Prop} (h : te σ G fun x G1 => ∃ i, x = .int i ∧ Ro (some i) G1) : uPart te σ G Ro := h
theorem i_nil (h : Ra [] G) : uNil σ G Ra := h
theorem i_cons (h : ta σ G fun x G1 => al σ G1 fun xs G2 => Ra (x :: xs) G2) : uCons ta al σ G Ra := h
theorem i_tup (h : al σ G fun xs G1 => xs.length ≤ sizeLine ∧ R (.tup xs) G1) : uTup al σ G R := h
theorem i_lst (h : al σ G fun xs G1 => xs.length ≤ sizeLine ∧ ∀ p, G1 p = none → R (.ref p) (put G1 p (.lst xs))) : uLst al σ G R := h
theorem i_cb {r : List Z → Hq → K3 → Prop} (h : al σ G fun ws G1 => r ws G1 R) : uCB r al σ G R := h
theorem i_bm0 {T : String} {r : Z → List Z → Hq → K3 → Prop} (h : to σ G fun x G1 => tyZ T x G1 ∧ r x [] G1 R) : uBM0 T r to σ G R := h
theorem i_bm {T : String} {r : Z → List Z → Hq → K3 → Prop} (h : to σ G fun x G1 => tyZ T x G1 ∧ al σ G1 fun xs G2 => r x xs G2 R) : uBM T r to al σ G R := h
theorem i_call {sp : P3} (h : al σ G fun ws G1 => sp ws G1 R) : uCall sp al σ G R := h
theorem i_next (h : nx σ G) : uNext nx rt bk ct σ G := h
theorem i_seq (h : t (u nx rt bk ct) rt bk ct σ G) : uSeq t u nx rt bk ct σ G := h
theorem i_drop (h : te σ G fun _ G1 => nx σ G1) : uDrop te nx rt bk ct σ G := h
theorem i_ret (h : te σ G rt) : uRet te nx rt bk ct σ G := h
theorem i_retN (h : rt .non G) : uRetN nx rt bk ct σ G := h
theorem i_ifS (h : c σ G fun b G1 => if b = true then t nx rt bk ct σ G1 else u nx rt bk ct σ G1) : uIfS c t u nx rt bk ct σ G := h
theorem i_asg {pt : Pt} (h : te σ G fun x G1 => ∃ σ', bindZ pt x σ = some σ' ∧ nx σ' G1) : uAsg te pt nx rt bk ct σ G := h
theorem i_put {r : Z3} (h : te σ G fun w G1 => to σ G1 fun o G2 => ti σ G2 fun i G3 => r o i w G3 fun G4 => nx σ G4) : uPut te to ti r nx rt bk ct σ G := h
theorem i_aug (e : σ[i]? = some (some x)) (h : te σ G fun y G1 => r x y G1 fun z G2 => nx (σ.set i (some z)) G2) : uAug i te r nx rt bk ct σ G := ⟨x, e, h⟩
theorem i_cut (M : C3) (h : t M rt bk ct σ G) (h' : ∀ σ' G', M σ' G' → u nx rt bk ct σ' G') : uCut t u nx rt bk ct σ G := ⟨M, h, h'⟩
theorem i_break (h : bk σ G) : uBreak nx rt bk ct σ G := h
theorem i_cont (h : ct σ G) : uCont nx rt bk ct σ G := h
theorem i_addI {a b : Int} (h : R (.int (a + b)) G) : zAdd (.int a) (.int b) G R := h
theorem i_addS {a b : Str} (z : a.length + b.length ≤ sizeLine) (h : R (.str (a ++ b)) G) : zAdd (.str a) (.str b) G R := ⟨z, h⟩
theorem i_addT {xs ys : List Z} (e : xs ≠ []) (z : xs.length + ys.length ≤ sizeLine) (h : R (.tup (xs ++ ys)) G) : zAdd (.tup xs) (.tup ys) G R := ⟨e, z, h⟩
theorem i_addL {p q : Addr} {xs ys : List Z} (e : G p = some (.lst xs)) (e' : G q = some (.lst ys)) (z : xs.length + ys.length ≤ sizeLine) (h : ∀ t, G t = none → R (.ref t) (put G t (.lst (xs ++ ys)))) : zAdd (.ref p) (.ref q) G R := ⟨xs, ys, e, e', z, h⟩
theorem i_I {C : Int → Int → Prop} {g : Int → Int → Z} {a b : Int} (k : C a b) (h : R (g a b) G) : zI C g (.int a) (.int b) G R := ⟨k, h⟩
theorem i_I0 {g : Int → Int → Z} {a b : Int} (h : R (g a b) G) : zI0 g (.int a) (.int b) G R := h
theorem i_neg {a : Int} (h : R (.int (-a)) G) : zNeg (.int a) G R := h
theorem i_CI {f : Int → Int → Bool} {g : Str → Str → Bool} {a b : Int} (h : R (.bl (f a b)) G) : zC f g (.int a) (.int b) G R := h
theorem i_CS {f : Int → Int → Bool} {g : Str → Str → Bool} {a b : Str} (h : R (.bl (g a b)) G) : zC f g (.str a) (.str b) G R := h
theorem i_isN (h : R (.bl (decide (x = .non))) G) : zIs false x .non G R := h
theorem i_isB {a b : Bool} (h : R (.bl (a == b)) G) : zIs false (.bl a) (.bl b) G R := ⟨rfl, h⟩
theorem i_notN (h : R (.bl (!decide (x = .non))) G) : zIs true x .non G R := h
theorem i_eqB {f : Bool → Bool} {a b : Bool} (h : R (.bl (f (a == b))) G) : zEq f (.bl a) (.bl b) G R := h
theorem i_eqI {f : Bool → Bool} {a b : Int} (h : R (.bl (f (decide (a = b)))) G) : zEq f (.int a) (.int b) G R := h
theorem i_eqS {f : Bool → Bool} {a b : Str} (h : R (.bl (f (decide (a = b)))) G) : zEq f (.str a) (.str b) G R := h
theorem i_eqL {f : Bool → Bool} {p q : Addr} {xs ys : List Z} (e : G p = some (.lst xs)) (e' : G q = some (.lst ys)) (f1 : xs.all (flat 8) = true) (f2 : ys.all (flat 8) = true) (h : R (.bl (f (decide (xs = ys)))) G) : zEq f (.ref p) (.ref q) G R := ⟨xs, ys, e, e', f1, f2, h⟩
theorem i_ixL {p : Addr} {ws : List Z} {k : Int} (e : G p = some (.lst ws)) (a : atI ws k = some w) (h : R w G) : zIx (.ref p) (.int k) G R := ⟨ws, w, e, a, h⟩
theorem i_ixC {p : Addr} {ns : List Int} {k n : Int} (a : atI ns k = some n) (h : R (.int n) G) : zIx (.scr p ns) (.int k) G R := ⟨n, a, h⟩
theorem i_ixT {ws : List Z} {k : Int} (a : atI ws k = some w) (h : R w G) : zIx (.tup ws) (.int k) G R := ⟨w, a, h⟩
theorem i_ixS {z : Str} {k : Int} {ch : Nat} (l : z.length ≤ sizeLine) (a : atI z.cps.toList k = some ch) (h : R (.str ⟨#[ch]⟩) G) : zIx (.str z) (.int k) G R := ⟨ch, l, a, h⟩
theorem i_slS {z : Str} {lo hi : Option Int} (l : z.length ≤ sizeLine) (h : R (.str (Txt.slice z lo hi)) G) : zSl (.str z) lo hi G R := ⟨l, h⟩
theorem i_slL {p : Addr} {ws : List Z} {lo hi : Option Int} (e : G p = some (.lst ws)) (h : ∀ t, G t = none → R (.ref t) (put G t (.lst (cutZ ws lo hi)))) : zSl (.ref p) lo hi G R := ⟨ws, e, h⟩
theorem i_slC {p : Addr} {ns : List Int} {lo hi : Option Int} (h : ∀ t, G t = none → R (.ref t) (put G t (.lst ((cutZ ns lo hi).map Z.int)))) : zSl (.scr p ns) lo hi G R := h
theorem i_slT {ws : List Z} {lo hi : Option Int} (n : ¬ (HT.sIx ws.length 0 lo = 0 ∧ HT.sIx ws.length ws.length hi = ws.length)) (h : R (.tup (cutZ ws lo hi)) G) : zSl (.tup ws) lo hi G R := ⟨n, h⟩
theorem i_set {p : Addr} {ws : List Z} {k : Int} {j : Nat} {Rg : Hq → Prop} (e : G p = some (.lst ws)) (a : ixN ws.length k = some j) (h : Rg (put G p (.lst (ws.set j w)))) : zSet (.ref p) (.int k) w G Rg := ⟨ws, j, e, a, h⟩
theorem i_dnew (h : ∀ p, G p = none → R (.ref p) (put G p (.dK []))) : uDNew σ G R := h
theorem i_lenS {z : Str} (l : z.length ≤ sizeLine) (h : R (.int z.length) G) : zLen [.str z] G R := ⟨l, h⟩
theorem i_lenL {p : Addr} {ws : List Z} (e : G p = some (.lst ws)) (h : R (.int ws.length) G) : zLen [.ref p] G R := ⟨ws, e, h⟩
theorem i_lenT {ws : List Z} (h : R (.int ws.length) G) : zLen [.tup ws] G R := h
theorem i_lenC {p : Addr} {ns : List Int} (h : R (.int ns.length) G) : zLen [.scr p ns] G R := h
theorem i_mm {f : Int → Int → Int} {a b : Int} (h : R (.int (f a b)) G) : zMM f [.int a, .int b] G R := h
theorem i_all {p : Addr} {bs : List Bool} (e : G p = some (.lst (bs.map Z.bl))) (h : R (.bl (bs.all id)) G) : zAll [.ref p] G R := ⟨bs, e, h⟩
theorem i_isT {n T : String} {b : Bool} (e : tyN G x = some n) (k : kit0 n T = some b) (h : R (.bl b) G) : zIsT [x, .ty T] G R := ⟨n, b, e, k, h⟩
theorem i_append {p : Addr} {ws : List Z} (e : G p = some (.lst ws)) (z : ws.length < sizeLine) (h : R .non (put G p (.lst (ws ++ [y])))) : zAppend (.ref p) [y] G R := ⟨ws, e, z, h⟩
theorem i_extend {p q : Addr} {ws ys : List Z} (e : G p = some (.lst ws)) (e' : G q = some (.lst ys)) (z : ws.length + ys.length ≤ sizeLine) (h : R .non (put G p (.lst (ws ++ ys)))) : zExtend (.ref p) [.ref q] G R := ⟨ws, ys, e, e', z, h⟩
theorem i_join {z : Str} {p : Addr} {ys : List Str} (e : G p = some (.lst (ys.map Z.str))) (l : (ys.map (·.length)).sum + ys.length * z.length ≤ 16777216) (h : R (.str (Txt.join z ys)) G) : zJoin (.str z) [.ref p] G R := ⟨ys, e, l, h⟩
theorem i_tyS {z : Str} {P : Prop} (h : P) : tyZ "str" (.str z) G ∧ P := ⟨rfl, h⟩
theorem i_tyL {p : Addr} {ws : List Z} {P : Prop} (e : G p = some (.lst ws)) (h : P) : tyZ "list" (.ref p) G ∧ P := ⟨.inl ⟨rfl, ws, e⟩, h⟩
theorem i_nm {j : Nat} (h : nx (σ.set j (some w)) G) : ∃ σ', bindZ (.nm j) w σ = some σ' ∧ nx σ' G := ⟨_, rfl, h⟩
theorem i_inS {f : Bool → Bool} {a b : Str} (h : R (.bl (f (!(Builtin.Str.occurrences b a 0 b.length 1).isEmpty))) G) : zIn f (.str a) (.str b) G R := h
theorem i_forE {wi : I3} {pt : Pt} {tb : X3} (h : wi σ G fun ws ok G1 => FORB ws ok pt tb nx rt σ G1) : uFor wi pt tb nx rt bk ct σ G := h
theorem i_lcE {wi : I3} {cap : List (Option Nat)} {pt : Pt} {tt : T3} (h : wi σ G fun ws ok G1 => ∀ D, G1 D = none → LCB ws ok cap pt tt te σ R D G1) : uLC wi cap pt tt te σ G R := h
variable {Ri : List Z → (Hq → Prop) → Hq → Prop}
theorem i_iL (h : te σ G fun x G1 => wkL x G1 Ri) : iL te σ G Ri := h
theorem i_iT (h : te σ G fun x G1 => wkT x G1 Ri) : iT te σ G Ri := h
theorem i_iS (h : te σ G fun x G1 => wkS x G1 Ri) : iS te σ G Ri := h
theorem i_iR1 (h : al σ G fun ws G1 => ∃ j : Int, ws = [.int j] ∧ -(2 ^ 62) ≤ j ∧ j < 2 ^ 62 ∧ Ri (rng 0 j.toNat) (fun _ => True) G1) : iR1 al σ G Ri := h
theorem i_iR2 (h : al σ G fun ws G1 => ∃ i j : Int, ws = [.int i, .int j] ∧ (-(2 ^ 62) ≤ i ∧ i < 2 ^ 62 ∧ -(2 ^ 62) ≤ j ∧ j < 2 ^ 62) ∧ Ri (rng i (j - i).toNat) (fun _ => True) G1) : iR2 al σ G Ri := h
theorem i_wkL {p : Addr} {ws : List Z} (e : G p = some (.lst ws)) (h : Ri ws (fun G => G p = some (.lst ws)) G) : wkL (.ref p) G Ri := ⟨ws, e, h⟩
theorem i_wkC {p : Addr} {ns : List Int} (h : Ri (ns.map Z.int) (fun _ => True) G) : wkL (.scr p ns) G Ri := h
theorem i_wkT {ws : List Z} (h : Ri ws (fun _ => True) G) : wkT (.tup ws) G Ri := h
theorem i_wkS {z : Str} (h : Ri (signs z) (fun _ => True) G) : wkS (.str z) G Ri := h
theorem i_tt (h : Rb true G) : uTT σ G Rb := h
end
theorem ifD {p A B : Prop} [Decidable p] (h1 : p → A) (h2 : ¬ p → B) : if decide p = true then A else B := by
  by_cases c : p
  · rw [if_pos (decide_eq_true c)]; exact h1 c
  · rw [if_neg (fun z => c (of_decide_eq_true z))]; exact h2 c
theorem ifN {p A B : Prop} [Decidable p] (h1 : ¬ p → A) (h2 : p → B) : if (!decide p) = true then A else B := by
  by_cases c : p
  · rw [if_neg (by simp [c])]; exact h2 c
  · rw [if_pos (by simp [c])]; exact h1 c
theorem ifB {b : Bool} {A B : Prop} (h1 : b = true → A) (h2 : b = false → B) : if b = true then A else B := by
  cases b with
  | true => rw [if_pos rfl]; exact h1 rfl
  | false => rw [if_neg (by decide)]; exact h2 rfl
theorem ifNB {b : Bool} {A B : Prop} (h1 : b = false → A) (h2 : b = true → B) : if (!b) = true then A else B := by
  cases b with
  | false => rw [if_pos (show (!false) = true from rfl)]; exact h1 rfl
  | true => rw [if_neg (by decide)]; exact h2 rfl
theorem ifT {A B : Prop} (h : A) : if true = true then A else B := by rw [if_pos rfl]; exact h
theorem ifF {A B : Prop} (h : B) : if false = true then A else B := by rw [if_neg (by decide)]; exact h
theorem ifNN {A B : Prop} (h : A) : if decide (Z.non = Z.non) = true then A else B := by rw [if_pos (decide_eq_true rfl)]; exact h
theorem ifNI {A B : Prop} {i : Int} (h : B) : if decide (Z.int i = Z.non) = true then A else B := by rw [if_neg (by simp)]; exact h
theorem ifNS {A B : Prop} {i : Str} (h : B) : if decide (Z.str i = Z.non) = true then A else B := by rw [if_neg (by simp)]; exact h
theorem ifNU {A B : Prop} {i : List Z} (h : B) : if decide (Z.tup i = Z.non) = true then A else B := by rw [if_neg (by simp)]; exact h
theorem ifMN {A B : Prop} (h : B) : if (!decide (Z.non = Z.non)) = true then A else B := by rw [if_neg (by simp)]; exact h
theorem ifMI {A B : Prop} {i : Int} (h : A) : if (!decide (Z.int i = Z.non)) = true then A else B := by rw [if_pos (by simp)]; exact h
theorem ifMS {A B : Prop} {i : Str} (h : A) : if (!decide (Z.str i = Z.non)) = true then A else B := by rw [if_pos (by simp)]; exact h
theorem ifMU {A B : Prop} {i : List Z} (h : A) : if (!decide (Z.tup i = Z.non)) = true then A else B := by rw [if_pos (by simp)]; exact h
theorem at0 {α : Type} {a : α} {r : List α} : atI (a :: r) 0 = some a := atI_nat (j := 0) rfl
theorem at1 {α : Type} {a b : α} {r : List α} : atI (a :: b :: r) 1 = some b := atI_nat (j := 1) rfl
theorem at2 {α : Type} {a b c : α} {r : List α} : atI (a :: b :: c :: r) 2 = some c := atI_nat (j := 2) rfl
def Sm (G G' : Hq) : Prop := ∀ b o, G b = some o → G' b = some o
theorem Sm.refl (G : Hq) : Sm G G := fun _ _ h => h
theorem Sm.trans {G G1 G2 : Hq} (a : Sm G G1) (b : Sm G1 G2) : Sm G G2 := fun c o h => b c o (a c o h)
theorem Sm.get {G G' : Hq} {b : Addr} {o : O} (s : Sm G G') (h : G b = some o) : G' b = some o := s b o h
theorem Sm.new {G : Hq} {p : Addr} {o : O} (h : G p = none) : Sm G (put G p o) := fun _ _ e => put_old e h
theorem Sm.free {G G' : Hq} (s : Sm G G') {p : Addr} (h : G' p = none) : G p = none := by
  cases e : G p with
  | none => rfl
  | some o => rw [s p o e] at h; cases h
def Kq (r : Addr) (G G' : Hq) : Prop := ∀ b o, G b = some o → b ≠ r → G' b = some o
theorem Kq.refl (r : Addr) (G : Hq) : Kq r G G := fun _ _ h _ => h
theorem Kq.trans {r : Addr} {G G1 G2 : Hq} (a : Kq r G G1) (b : Kq r G1 G2) : Kq r G G2 := fun c o h n => b c o (a c o h n) n
theorem Kq.new {r p : Addr} {G : Hq} {o : O} (h : G p = none) : Kq r G (put G p o) := fun _ _ e _ => put_old e h
theorem Kq.at {r : Addr} {G : Hq} {o : O} : Kq r G (put G r o) := fun _ _ e n => by rw [put_ne n]; exact e
theorem Sm.kq {r : Addr} {G G' : Hq} (s : Sm G G') : Kq r G G' := fun b o e _ => s b o e
theorem Sm.put {G G' : Hq} {p : Addr} {o : O} (s : Sm G G') (h : G p = none) : Sm G (put G' p o) := fun b u e => by rw [put_ne (gne_none e h)]; exact s b u e
end L3
set_option maxHeartbeats 4000000
namespace Tim
open PySem PyProof.Rows
abbrev KF := Keyed → Int
def Kk (κ : KF) (xs : Array Keyed) (i : Nat) : Int := match xs[i]? with
  | some p => κ p
  | none => 0
section
variable {κ : KF} {xs ys : Array Keyed} {i j : Nat} {p : Keyed}
theorem Kk_at (h : xs[i]? = some p) : Kk κ xs i = κ p := by unfold Kk; rw [h]
end
def LtOk (M : Model) (A : Around) (E : Value → Shared → Prop) (s : Shared) (κ : KF) (k0 : SortKind) (a₀ : Array Keyed) : Prop :=
  ∀ x y, x ∈ a₀.toList → y ∈ a₀.toList → ∀ (st : SortSt) (Q : Option Bool → SortSt → Prop), kindOf st = k0 → Q (some (decide (κ x < κ y))) st → wpS M A E s (lt' x y) Q st
structure TB (k0 : SortKind) (a₀ : Array Keyed) (st : SortSt) : Prop where
  pm : (arrOf st).Perm a₀
  kd : kindOf st = k0
  fl : failedOf st = none
theorem TB.sz {k0 : SortKind} {a₀ : Array Keyed} {st : SortSt} (h : TB k0 a₀ st) : (arrOf st).size = a₀.size := h.pm.size_eq
theorem TB.mem {k0 : SortKind} {a₀ : Array Keyed} {st : SortSt} (h : TB k0 a₀ st) {i : Nat} {p : Keyed} (e : (arrOf st)[i]? = some p) : p ∈ a₀.toList := by
  have hm : p ∈ (arrOf st).toList := by rw [Array.mem_toList_iff]; exact Array.mem_of_getElem? e
  exact (Array.perm_iff_toList_perm.mp h.pm).mem_iff.mp hm
section
variable {M : Model} {A : Around} {E : Value → Shared → Prop} {s : Shared} {κ : KF} {k0 : SortKind} {a₀ : Array Keyed} {st : SortSt}
end
section
variable {M : Model} {A : Around} {E : Value → Shared → Prop} {s : Shared} {κ : KF} {k0 : SortKind} {a₀ : Array Keyed} {st : SortSt}
end
end Tim
namespace Tim
open PySem PyProof.Rows
section
variable {κ : KF} {A B o : List Keyed} {i j : Nat} {p : Keyed}
abbrev Srt (κ : KF) (l : List Keyed) : Prop := l.Pairwise fun x y => κ x ≤ κ y
structure MW (κ : KF) (A B o : List Keyed) (i j : Nat) : Prop where
  ia : i ≤ A.length
  jb : j ≤ B.length
  pm : (o ++ (A.drop i ++ B.drop j)).Perm (A ++ B)
  so : Srt κ o
  ba : ∀ x ∈ o, ∀ y ∈ A.drop i, κ x ≤ κ y
  bb : ∀ x ∈ o, ∀ y ∈ B.drop j, κ x ≤ κ y
theorem MW.size (W : MW κ A B o i j) : o.length = i + j := by
  have := W.pm.length_eq
  have h1 := W.ia
  have h2 := W.jb
  simp only [List.length_append, List.length_drop] at this
  omega
def Mgd (κ : KF) (A B r : List Keyed) : Prop := r.Perm (A ++ B) ∧ Srt κ r
end
end Tim
namespace Tim
open PySem PyProof.Rows
abbrev SM := StateT SortSt Sem
abbrev T1 := Option (Array Keyed) × Array Keyed × Nat × Nat × Nat × Nat
abbrev T2 := Option (Array Keyed) × Array Keyed × Nat × Nat × Nat × Nat × Nat
end Tim
namespace Tim
open PySem PyProof.Rows
structure SG (st st' : SortSt) : Prop where
  kd : kindOf st' = kindOf st
  ar : arrOf st' = arrOf st
  pe : pendingOf st' = pendingOf st
  fl : failedOf st' = failedOf st
theorem SG.refl (st : SortSt) : SG st st := ⟨rfl, rfl, rfl, rfl⟩
theorem SG.trans {x y z : SortSt} (p : SG x y) (q : SG y z) : SG x z := ⟨q.kd.trans p.kd, q.ar.trans p.ar, q.pe.trans p.pe, q.fl.trans p.fl⟩
section
variable {κ : KF} {a b o : Array Keyed} {i j : Nat}
theorem kk_list (h : i < a.size) : Kk κ a i = κ a[i] := Kk_at (getElem?_pos ..)
end
structure MC (M : Model) (A : Around) (E : Value → Shared → Prop) (s : Shared) (κ : KF) (k0 : SortKind) (a₀ a b : Array Keyed) : Prop where
  L : LtOk M A E s κ k0 a₀
  ha : ∀ p ∈ a.toList, p ∈ a₀.toList
  hb : ∀ p ∈ b.toList, p ∈ a₀.toList
  sa : Srt κ a.toList
  sb : Srt κ b.toList
  h0 : 0 < a.size
  h1 : 0 < b.size
  hf : ∀ y ∈ a.toList, Kk κ b 0 ≤ κ y
  hl : ∀ z, a.toList[a.toList.length - 1]? = some z → ∀ y ∈ b.toList, κ y ≤ κ z
structure Rdy (κ : KF) (a b o : Array Keyed) (i j : Nat) : Prop where
  w : MW κ a.toList b.toList o.toList i j
  hi : i + 1 < a.size
  hj : j < b.size
section
variable {M : Model} {A : Around} {E : Value → Shared → Prop} {s : Shared} {κ : KF} {k0 : SortKind} {a₀ a b o : Array Keyed} {st : SortSt} {i j g ac bc : Nat}
theorem len_a (a : Array Keyed) : a.toList.length = a.size := by simp
structure G2 (st : SortSt) (κ : KF) (a b : Array Keyed) (n : Nat) (Q : ForInStep T2 → SortSt → Prop) : Prop where
  dn : ∀ r c st', SG st st' → Mgd κ a.toList b.toList r.toList → Q (.done (some r, c)) st'
  br : ∀ o' i' j' x y z st', SG st st' → Rdy κ a b o' i' j' → n < i' + j' → Q (.done (none, o', i', j', x, y, z)) st'
  go : ∀ o' i' j' x y z st', SG st st' → Rdy κ a b o' i' j' → n < i' + j' → Q (.yield (none, o', i', j', x, y, z)) st'
theorem kk_at {q : Nat} {z : Keyed} (h : a.toList[q]? = some z) : Kk κ a q = κ z := Kk_at (by rw [← Array.getElem?_toList]; exact h)
end
end Tim
namespace Tim
open PySem PyProof.Rows
abbrev H1 := Option (Array Keyed) × Nat × Nat × Array Keyed × Nat × Nat
abbrev H2 := Option (Array Keyed) × Nat × Nat × Array Keyed × Nat × Nat × Nat
end Tim
namespace Tim
open PySem PyProof.Rows
section
variable {κ : KF} {A B o : List Keyed} {u v : Nat} {p : Keyed}
structure MH (κ : KF) (A B o : List Keyed) (u v : Nat) : Prop where
  ia : u ≤ A.length
  jb : v ≤ B.length
  pm : (A.take u ++ B.take v ++ o.reverse).Perm (A ++ B)
  so : Srt κ o.reverse
  ba : ∀ x ∈ o, ∀ y ∈ A.take u, κ y ≤ κ x
  bb : ∀ x ∈ o, ∀ y ∈ B.take v, κ y ≤ κ x
end
section
variable {κ : KF} {a b o : Array Keyed} {u v : Nat}
end
structure RdH (κ : KF) (a b o : Array Keyed) (u v : Nat) : Prop where
  w : MH κ a.toList b.toList o.toList u v
  hu : 1 ≤ u
  hv : 2 ≤ v
section
variable {M : Model} {A : Around} {E : Value → Shared → Prop} {s : Shared} {κ : KF} {k0 : SortKind} {a₀ a b o : Array Keyed} {st : SortSt} {u v g ac bc : Nat}
theorem MC.first (C : MC M A E s κ k0 a₀ a b) : ∀ z, b.toList[0]? = some z → ∀ y ∈ a.toList, κ z ≤ κ y := fun z hz y hy => by
  have := C.hf y hy
  rwa [kk_at hz] at this
structure HG (st : SortSt) (κ : KF) (a b : Array Keyed) (n : Nat) (Q : ForInStep H2 → SortSt → Prop) : Prop where
  dn : ∀ r c st', SG st st' → Mgd κ a.toList b.toList r.toList → Q (.done (some r, c)) st'
  br : ∀ o' u' v' x y z st', SG st st' → RdH κ a b o' u' v' → u' + v' < n → Q (.done (none, u', v', o', x, y, z)) st'
  go : ∀ o' u' v' x y z st', SG st st' → RdH κ a b o' u' v' → u' + v' < n → Q (.yield (none, u', v', o', x, y, z)) st'
end
end Tim
namespace Tim
open PySem PyProof.Rows
def SR (κ : KF) (xs : Array Keyed) (lo n : Nat) : Prop := ∀ i j, i ≤ j → j < n → Kk κ xs (lo + i) ≤ Kk κ xs (lo + j)
def NR (κ : KF) (xs : Array Keyed) (lo n : Nat) : Prop := ∀ i j, i ≤ j → j < n → Kk κ xs (lo + j) ≤ Kk κ xs (lo + i)
structure Ar (st st' : SortSt) (lo : Nat) : Prop where
  pm : (arrOf st').Perm (arrOf st)
  pre : ∀ i, i < lo → (arrOf st')[i]? = (arrOf st)[i]?
  kd : kindOf st' = kindOf st
  pe : pendingOf st' = pendingOf st
  fl : failedOf st' = failedOf st
section
variable {M : Model} {A : Around} {E : Value → Shared → Prop} {s : Shared} {κ : KF} {k0 : SortKind} {a₀ : Array Keyed} {st st' : SortSt} {lo : Nat}
theorem Ar.refl (st : SortSt) (lo : Nat) : Ar st st lo := ⟨Array.Perm.refl _, fun _ _ => rfl, rfl, rfl, rfl⟩
theorem Ar.trans {x y z : SortSt} (p : Ar x y lo) (q : Ar y z lo) : Ar x z lo := ⟨q.pm.trans p.pm, fun i h => (q.pre i h).trans (p.pre i h), q.kd.trans p.kd, q.pe.trans p.pe, q.fl.trans p.fl⟩
theorem Ar.tb (q : Ar st st' lo) (B : TB k0 a₀ st) : TB k0 a₀ st' := ⟨q.pm.trans B.pm, q.kd.trans B.kd, q.fl.trans B.fl⟩
end
end Tim
namespace Tim
open PySem PyProof.Rows
abbrev U1 := Option (Option Nat) × Nat
def rise (lo p nr : Nat) : SM U1 := forIn [p:nr] ((none, p) : U1) fun _ c => do
  let x ← ltAt' (lo + c.2) (lo + c.2 - 1)
  match x with
  | some sm => if sm = true then pure (.done (none, c.2)) else pure (.yield (none, c.2 + 1))
  | _ => pure (.done (some none, c.2))
section
variable {M : Model} {A : Around} {E : Value → Shared → Prop} {s : Shared} {κ : KF} {k0 : SortKind} {a₀ : Array Keyed} {st : SortSt} {lo nr : Nat}
theorem SR.one {xs : Array Keyed} : SR κ xs lo 1 := fun i j h1 h2 => by
  have : i = j := by omega
  rw [this]; exact Int.le_refl _
theorem SR.snoc {xs : Array Keyed} {n : Nat} (h : SR κ xs lo n) (h1 : 1 ≤ n) (c : Kk κ xs (lo + n - 1) ≤ Kk κ xs (lo + n)) : SR κ xs lo (n + 1) := fun i j hij hj => by
  by_cases hjn : j < n
  · exact h i j hij hjn
  · have e : j = n := by omega
    subst e
    by_cases e2 : i = j
    · rw [e2]; exact Int.le_refl _
    · refine Int.le_trans (h i (j - 1) (by omega) (by omega)) ?_
      rw [show lo + (j - 1) = lo + j - 1 by omega]; exact c
theorem NR.snoc {xs : Array Keyed} {n : Nat} (h : NR κ xs lo n) (h1 : 1 ≤ n) (c : Kk κ xs (lo + n) ≤ Kk κ xs (lo + n - 1)) : NR κ xs lo (n + 1) := fun i j hij hj => by
  by_cases hjn : j < n
  · exact h i j hij hjn
  · have e : j = n := by omega
    subst e
    by_cases e2 : i = j
    · rw [e2]; exact Int.le_refl _
    · refine Int.le_trans ?_ (h i (j - 1) (by omega) (by omega))
      rw [show lo + (j - 1) = lo + j - 1 by omega]; exact c
theorem NR.congr {xs ys : Array Keyed} {n : Nat} (h : NR κ xs lo n) (e : ∀ k, Kk κ ys k = Kk κ xs k) : NR κ ys lo n := fun i j h1 h2 => by rw [e, e]; exact h i j h1 h2
end
end Tim
namespace Tim
open PySem PyProof.Rows
section
variable {M : Model} {A : Around} {E : Value → Shared → Prop} {s : Shared} {κ : KF} {k0 : SortKind} {a₀ : Array Keyed} {st : SortSt}
end
end Tim
namespace Tim
open PySem PyProof.Rows
def pr (p : Nat × Nat × Nat) : Nat × Nat := (p.1, p.2.1)
def offs : Nat → List (List Keyed) → List (Nat × Nat)
  | _, [] => []
  | o, R :: Rs => (o, R.length) :: offs (o + R.length) Rs
theorem offs_append : ∀ (o : Nat) (U V : List (List Keyed)), offs o (U ++ V) = offs o U ++ offs (o + U.flatten.length) V
  | o, [], V => by simp [offs]
  | o, R :: U, V => by
    rw [List.cons_append, offs, offs, offs_append, List.cons_append, List.flatten_cons, List.length_append, Nat.add_assoc]
def Runs (κ : KF) (st : SortSt) (lo : Nat) (rest : List Keyed) : Prop := ∃ Rs : List (List Keyed), (arrOf st).toList = Rs.flatten ++ rest ∧ (∀ R ∈ Rs, Srt κ R ∧ R ≠ []) ∧ Rs.flatten.length = lo ∧ (pendingOf st).toList.map pr = offs 0 Rs
section
variable {M : Model} {A : Around} {E : Value → Shared → Prop} {s : Shared} {κ : KF} {k0 : SortKind} {a₀ : Array Keyed} {st : SortSt}
theorem Runs.ar {st' : SortSt} {lo n : Nat} {rest : List Keyed} (R : Runs κ st lo rest) (q : Ar st st' lo) (hs : SR κ (arrOf st') lo n) (hn : lo + n ≤ (arrOf st').size) (h1 : 1 ≤ n) : ∃ X rest', Srt κ X ∧ X.length = n ∧ Runs κ st' lo (X ++ rest') := by
  obtain ⟨Rs, e1, e2, e3, e4⟩ := R
  have hsz : (arrOf st').size = (arrOf st).size := q.pm.size_eq
  have htake : (arrOf st').toList.take lo = Rs.flatten := by
    refine List.ext_getElem? fun i => ?_
    by_cases hi : i < lo
    · rw [List.getElem?_take, if_pos hi, Array.getElem?_toList, q.pre i hi, ← Array.getElem?_toList, e1, List.getElem?_append_left (by omega)]
    · rw [List.getElem?_eq_none (by rw [List.length_take]; omega), List.getElem?_eq_none (by omega)]
  refine ⟨((arrOf st').toList.drop lo).take n, ((arrOf st').toList.drop lo).drop n, ?_, by rw [List.length_take, List.length_drop, len_a]; omega, Rs, ?_, e2, e3, by rw [q.pe]; exact e4⟩
  · refine List.pairwise_iff_getElem.mpr fun i j hi hj hij => ?_
    rw [List.length_take, List.length_drop, len_a] at hi hj
    have := hs i j (by omega) (by omega)
    rw [kk_list (show lo + i < (arrOf st').size by omega), kk_list (show lo + j < (arrOf st').size by omega)] at this
    simpa using this
  · rw [List.take_append_drop, ← htake, List.take_append_drop]
theorem Runs.push {st' : SortSt} {lo n : Nat} {X rest : List Keyed} (R : Runs κ st lo (X ++ rest)) (sX : Srt κ X) (hX : X.length = n) (h1 : 1 ≤ n) (ha : arrOf st' = arrOf st) (hp : (pendingOf st').toList.map pr = (pendingOf st).toList.map pr ++ [(lo, n)]) : Runs κ st' (lo + n) rest := by
  obtain ⟨Rs, e1, e2, e3, e4⟩ := R
  refine ⟨Rs ++ [X], by rw [ha, e1]; simp, fun R hR => ?_, by simp [e3, hX], ?_⟩
  · rcases List.mem_append.mp hR with hR | hR
    · exact e2 R hR
    · rw [List.mem_singleton.mp hR]; exact ⟨sX, fun z => by rw [z] at hX; simp at hX; omega⟩
  · rw [hp, e4, offs_append, Nat.zero_add, e3]
    simp [offs, hX]
end
end Tim
namespace Tim
open PySem PyProof.Rows
section
variable {prog : Program} {w : World} {A : Around} {E : Value → Shared → Prop} {s : Shared} {a₀ : Array Keyed}
end
end Tim
namespace SetW
open PySem
def Up (xs : Array Nat) : Prop := xs.toList.Pairwise (· < ·)
structure TOk (led : Bool) (t : SetTable) : Prop where
  up : Up t.place
  dm : t.dummies = #[]
  ld : t.led = led
end SetW
namespace SetW
open PySem PyProof.Rows
def byT (w : World) : Bool := w.params.followText "set-order"
structure SO (prog : Program) (w : World) (h : Heap) (a : Addr) (es : Array (Int × Value)) (ep : Nat) (t : SetTable) (ms : List Int) : Prop where
  at_ : ∃ o, h.get? a = some o ∧ o.ExactSet ∧ o.data = .set es ep t
  el : ElemsOf (intKind prog w) es.toList
  nums : IntsAre (es.toList.map (·.2)) ms
  sc : es.size < scanBound
  fit : t.fits es.size = true
  ok : TOk (!byT w) t
def SI (prog : Program) (w : World) (h : Heap) (a : Addr) (ms : List Int) : Prop := ∃ es ep t, SO prog w h a es ep t ms
section
variable {prog : Program} {w : World} {A : Around} {E : Value → Shared → Prop} {s : Shared} {a : Addr} {es : Array (Int × Value)} {ep : Nat} {t : SetTable} {ms : List Int} {k : Int} {u : Tok}
theorem SO.mem (S : SO prog w s.heap a es ep t ms) : (∃ e ∈ es.toList, (intKind prog w).is k e.2 = true) ↔ k ∈ ms := by
  have hn := S.nums.nums
  constructor
  · rintro ⟨e, he, hk⟩
    rw [← hn]
    obtain ⟨n, tk, en⟩ := S.nums.all e.2 (List.mem_map_of_mem (f := (·.2)) he)
    rw [en] at hk
    have : k = n := by
      have := hk
      simp [intKind, Value.isInt] at this
      exact this.symm
    exact List.mem_map.mpr ⟨e.2, List.mem_map_of_mem (f := (·.2)) he, by rw [en, this]; rfl⟩
  · intro hk
    rw [← hn, List.map_map] at hk
    obtain ⟨e, he, e2⟩ := List.mem_map.mp hk
    obtain ⟨n, tk, en⟩ := S.nums.all e.2 (List.mem_map_of_mem (f := (·.2)) he)
    refine ⟨e, he, ?_⟩
    simp only [Function.comp] at e2
    rw [en] at e2 ⊢
    have : n = k := e2
    rw [this]
    exact intKind_is _ _ _ _
theorem SO.stored {o : Obj} {es' : Array (Int × Value)} {t' : SetTable} {ms' : List Int} {h : Heap} (ho : h.get? a = some o) (hx : o.ExactSet) (hd : o.data = .set es ep t) (hel : ElemsOf (intKind prog w) es'.toList) (hi : IntsAre (es'.toList.map (·.2)) ms') (hs : es'.size < scanBound) (hf : t'.fits es'.size = true) (hk : TOk (!byT w) t') :
    (h.update a (Obj.putSet es' t')).get? a = some { o with data := .set es' (ep + 1) t' } ∧ SO prog w (h.update a (Obj.putSet es' t')) a es' (ep + 1) t' ms' := by
  have hg : (h.update a (Obj.putSet es' t')).get? a = some { o with data := .set es' (ep + 1) t' } := by
    have q := Heap.get?_update_self (Obj.putSet es' t') ho (by rw [putSet_of es' t' hd]; rfl)
    rw [putSet_of es' t' hd] at q
    exact q
  exact ⟨hg, ⟨⟨_, hg, hx, rfl⟩, hel, hi, hs, hf, hk⟩⟩
theorem TOk.plain {led : Bool} {t : SetTable} {b : Bool} (h : TOk led t) : TOk led ({ t with plain := b } : SetTable) := ⟨h.up, h.dm, h.ld⟩
end
end SetW
namespace SetW
open PySem PyProof.Rows
theorem SI.at {prog : Program} {w : World} {h h' : Heap} {a : Addr} {ms : List Int} (S : SI prog w h a ms) (k : ∀ o, h.get? a = some o → h'.get? a = some o) : SI prog w h' a ms := by
  obtain ⟨es, ep, t, ⟨o, g, x, d⟩, h1, h2, h3, h4, h5⟩ := S
  exact ⟨es, ep, t, ⟨o, k o g, x, d⟩, h1, h2, h3, h4, h5⟩
def Met (val : Nat → Int) (i : Nat) (ms : List Int) : Prop := ms.Nodup ∧ ms.length ≤ i ∧ ∀ x, x ∈ ms ↔ ∃ j, j < i ∧ val j = x
theorem Met.step {val : Nat → Int} {i : Nat} {ms ms' : List Int} (h : Met val i ms) (p : ms'.Perm (if val i ∈ ms then ms else ms ++ [val i])) : Met val (i + 1) ms' := by
  obtain ⟨h1, h2, h3⟩ := h
  have key : ∀ x, (∃ j, j < i + 1 ∧ val j = x) ↔ (∃ j, j < i ∧ val j = x) ∨ x = val i := fun x => by
    constructor
    · rintro ⟨j, hj, e⟩
      by_cases c : j = i
      · right; rw [← e, c]
      · left; exact ⟨j, by omega, e⟩
    · rintro (⟨j, hj, e⟩ | e)
      · exact ⟨j, by omega, e⟩
      · exact ⟨i, by omega, e.symm⟩
  by_cases c : val i ∈ ms
  · rw [if_pos c] at p
    refine ⟨p.nodup_iff.mpr h1, by rw [p.length_eq]; omega, fun x => ?_⟩
    rw [p.mem_iff, key, h3]
    exact ⟨.inl, fun z => z.elim id fun e => (h3 x).mp (e ▸ c)⟩
  · rw [if_neg c] at p
    refine ⟨p.nodup_iff.mpr ?_, by rw [p.length_eq]; simp; exact h2, fun x => ?_⟩
    · rw [List.nodup_append]
      exact ⟨h1, by simp, fun x hx y hy => by rw [List.mem_singleton.mp hy]; rintro rfl; exact c hx⟩
    · rw [p.mem_iff, key, List.mem_append, h3, List.mem_singleton]
section
variable {prog : Program} {w : World} {A : Around} {R : Result → Shared → Prop} {I : Addr} {fp wr : List Addr} {G : Array GenState → Array GenState → Prop} {n : Nat} {P : Nat → Value → Prop} {St : Nat → Shared → Prop}
end
section
variable {prog : Program} {w : World} {A : Around} {E : Value → Shared → Prop} {s : Shared}
abbrev freshSet (w : World) : Obj := { cls := .type "set", dict := none, data := .set #[] 0 (.fresh 0 0 (!byT w)) }
theorem SI.fresh {h : Heap} {a : Addr} (g : h.get? a = some (freshSet w)) : SI prog w h a [] :=
  ⟨#[], 0, .fresh 0 0 (!byT w), ⟨_, g, ⟨rfl, rfl, rfl⟩, rfl⟩, fun e he => by simp at he, .nil, by decide, rfl, ⟨.nil, rfl, rfl⟩⟩
end
end SetW
namespace SetW
open PySem PyProof.Rows
def SetIt (h : Heap) (it a : Addr) (first : Value) (i n ep : Nat) : Prop := ∃ o, h.get? it = some o ∧ o.cls = .type "set_iterator" ∧ o.data = .fields #[first, .int i 0, .ref a, .int n 0, .int ep 0]
theorem SetIt.ty {s : Shared} {it a : Addr} {f : Value} {i n ep : Nat} (x : SetIt s.heap it a f i n ep) : s.TypeIs (.ref it) "set_iterator" := let ⟨o, g, c, _⟩ := x; ⟨o, g, c⟩
theorem SetIt.at {h h' : Heap} {it a : Addr} {f : Value} {i n ep : Nat} (x : SetIt h it a f i n ep) (e : ∀ o, h.get? it = some o → h'.get? it = some o) : SetIt h' it a f i n ep := let ⟨o, g, r⟩ := x; ⟨o, e _ g, r⟩
section
variable {prog : Program} {w : World} {A : Around} {E : Value → Shared → Prop} {s : Shared} {it a : Addr} {f : Value} {i n ep : Nat} {o : Obj} {es : Array (Int × Value)} {t : SetTable}
end
end SetW
namespace SetW
open PySem PyProof.Rows
section
variable {prog : Program} {w : World} {A : Around} {E : Value → Shared → Prop} {s : Shared} {it a : Addr} {f : Value} {i n ep k : Nat} {o : Obj} {es : Array (Int × Value)} {t : SetTable} {ms : List Int}
end
end SetW
namespace SetW
open PySem PyProof.Rows
theorem SO.at {prog : Program} {w : World} {h h' : Heap} {a : Addr} {es : Array (Int × Value)} {ep : Nat} {t : SetTable} {ms : List Int} (S : SO prog w h a es ep t ms) (k : ∀ o, h.get? a = some o → h'.get? a = some o) : SO prog w h' a es ep t ms := by
  obtain ⟨⟨o, g, x, d⟩, h1, h2, h3, h4, h5⟩ := S
  exact ⟨⟨o, k o g, x, d⟩, h1, h2, h3, h4, h5⟩
section
variable {prog : Program} {w : World} {A : Around} {E : Value → Shared → Prop} {s : Shared} {it a T : Addr} {f : Value} {i n ep k : Nat} {o : Obj} {es : Array (Int × Value)} {t : SetTable} {ms : List Int} {ps : List Nat}
end
end SetW
namespace SetW
open PySem PyProof.Rows
section
variable {prog : Program} {w : World} {A : Around} {E : Value → Shared → Prop} {s : Shared} {it a T : Addr} {f : Value} {i n ep k : Nat} {o : Obj} {es : Array (Int × Value)} {t : SetTable} {ms : List Int} {ps : List Nat}
def PlacesAt (h : Heap) (T : Addr) (ps : List Nat) : Prop := ∃ o c, h.get? T = some o ∧ o.data = .seq (ps.map fun (i : Nat) => rawInt i).toArray c
theorem PlacesAt.at {h h' : Heap} (x : PlacesAt h T ps) (k : ∀ o, h.get? T = some o → h'.get? T = some o) : PlacesAt h' T ps := let ⟨o, c, g, d⟩ := x; ⟨o, c, k _ g, d⟩
end
end SetW
namespace SetW
open PySem PyProof.Rows
section
variable {prog : Program} {w : World} {A : Around} {E : Value → Shared → Prop} {s : Shared} {it a T : Addr} {f : Value} {i n ep k : Nat} {o : Obj} {es : Array (Int × Value)} {t : SetTable} {ms : List Int} {ps : List Nat}
theorem SO.ty (S : SO prog w s.heap a es ep t ms) : s.TypeIs (.ref a) "set" := let ⟨o, g, x, _⟩ := S.at_; ⟨o, g, x.1⟩
theorem SO.len (S : SO prog w s.heap a es ep t ms) : es.size = ms.length := by
  have q := congrArg List.length S.nums.nums
  simpa using q
end
end SetW
namespace SetW
open PySem PyProof.Rows
section
variable {prog : Program} {w : World} {A : Around} {E : Value → Shared → Prop} {s : Shared} {a : Addr} {ms : List Int}
end
end SetW
namespace L2
open PySem PySem.Spec PyProof.Rows
section
variable {P : Program} {w : World} {A : Around} {E : Value → Shared → Prop} {s : Shared}
end
section
variable {X : Cx}
end
end L2
namespace L2
open PySem PySem.Spec PyProof.Rows
structure Zs where
  it : Addr
  tp : Bool
  l : Addr
def Zs.At (z : Zs) (k : Nat) (h : Heap) : Prop := if z.tp = true then h.IsTupleIter z.it z.l k else h.IsListIter z.it z.l k
def Zs.Has (z : Zs) (h : Heap) (xs : Array Value) : Prop := if z.tp = true then h.IsTuple z.l xs else h.IsList z.l xs
theorem Zs.At.keep {z : Zs} {k : Nat} {h h' : Heap} (a : z.At k h) (q : ∀ o, h.get? z.it = some o → h'.get? z.it = some o) : z.At k h' := by
  unfold Zs.At at a ⊢
  split
  · next e => rw [if_pos e] at a; exact a.at q
  · next e => rw [if_neg e] at a; exact a.at q
theorem Zs.Has.keep {z : Zs} {h h' : Heap} {xs : Array Value} (a : z.Has h xs) (q : ∀ o, h.get? z.l = some o → h'.get? z.l = some o) : z.Has h' xs := by
  unfold Zs.Has at a ⊢
  split
  · next e => rw [if_pos e] at a; exact let ⟨o, ho, r⟩ := a; ⟨o, q o ho, r⟩
  · next e => rw [if_neg e] at a; exact let ⟨o, ho, r⟩ := a; ⟨o, q o ho, r⟩
theorem Zs.At.obj {z : Zs} {k : Nat} {h : Heap} (a : z.At k h) : ∃ o, h.get? z.it = some o ∧ ∀ v, o.data ≠ .cell v := by
  unfold Zs.At at a
  split at a <;> (obtain ⟨o, e, _, d⟩ := a; exact ⟨o, e, fun v q => by rw [d] at q; cases q⟩)
section
variable {P : Program} {w : World} {A : Around} {E : Value → Shared → Prop} {s : Shared}
end
end L2
namespace L2
open PySem PySem.Spec PyProof.Rows
structure ZAp (z TI TO : Addr) (zs : List Zs) : Prop where
  nd : (zs.map (·.it)).Nodup
  a1 : TI ≠ z
  a2 : TO ≠ z
  a3 : TI ≠ TO
  its : ∀ y ∈ zs, y.it ≠ z ∧ y.it ≠ TI ∧ y.it ≠ TO
  ls : ∀ y ∈ zs, y.l ≠ z ∧ y.l ≠ TO ∧ ∀ x ∈ zs, y.l ≠ x.it
section
variable {P : Program} {w : World} {A : Around} {E : Value → Shared → Prop} {s : Shared}
end
end L2
namespace L2
open PySem PySem.Spec PyProof.Rows
section
variable {X : Cx} {pins : List (Addr × Obj)} {σ : St} {H : Hp} {s : Shared} {h' : Heap}
end
def SrcV (K : PySem.W.Frag) (H : Hp) (y : Zs) (xs : List V) : Prop := if y.tp = true then SqT K H y.l xs else SqL K H y.l xs
theorem SrcV.has {X : Cx} {pins : List (Addr × Obj)} {σ : St} {H : Hp} {s : Shared} {y : Zs} {xs : List V} (I : Inv X pins σ H s) (h : SrcV X.K H y xs) : ∃ its : List Value, Vals xs its ∧ y.Has s.heap its.toArray := by
  unfold SrcV at h
  unfold Zs.Has
  split at h
  · next e => obtain ⟨its, r, p, _⟩ := I.tuple h; exact ⟨its, r, by rw [if_pos e]; exact p⟩
  · next e => obtain ⟨its, r, p, _⟩ := I.list h; exact ⟨its, r, by rw [if_neg e]; exact p.isList⟩
theorem SrcV.inj {X : Cx} {pins : List (Addr × Obj)} {σ : St} {H : Hp} {s : Shared} {y : Zs} {xs xs' : List V} (I : Inv X pins σ H s) (h : SrcV X.K H y xs) (h' : SrcV X.K H y xs') : xs = xs' := by
  unfold SrcV at h h'
  split at h
  · next e => rw [if_pos e] at h'; exact I.tuple_inj h h'
  · next e => rw [if_neg e] at h'; exact I.list_inj h h'
end L2
namespace L2
open PySem PySem.Spec PyProof.Rows
def SrcP (K : PySem.W.Frag) (H : Hp) (p : Bool × Addr) (xs : List V) : Prop := if p.1 = true then SqT K H p.2 xs else SqL K H p.2 xs
theorem Turn.imp {P : Program} {w : World} {K : PySem.W.Frag} {tg : Expr} {J J' : It} {fp : List Addr} {it : Addr} {tn : Nat → Heap → Prop} (t : Turn P w K tg J fp it tn) (g : ∀ i H, J'.go i H → J.go i H) (y : ∀ i H x H', J'.go i H → J.yld i H x H' → J'.yld i H x H') (s : ∀ i H, J'.stop i H → J.stop i H) : Turn P w K tg J' fp it tn where
  mem := t.mem
  obj := t.obj
  keep := t.keep
  item := fun X h1 h2 h3 h4 i pins s σ H E I hf st hg => wpAny_mono (t.item X h1 h2 h3 h4 i pins s σ H E I hf st (g i H hg)) (fun r s1 ⟨u, e, q⟩ => ⟨u, e, wpAny_mono q (fun _ s2 ⟨x, H', a, b, c, d, e⟩ => ⟨x, H', a, b, y i H x H' hg c, d, e⟩) fun _ _ z => z⟩) fun _ _ z => z
  done := fun X h1 h2 h3 h4 i pins s' σ H E I hf st hg => t.done X h1 h2 h3 h4 i pins s' σ H E I hf st (s i H hg)
  self := t.self
end L2
namespace L2
open PySem PySem.Spec PyProof.Rows
def Itv (K : PySem.W.Frag) (a : Addr) (n : Nat) : It :=
  ⟨fun i H => i < n ∧ ∃ xs, SqL K H a xs ∧ xs.length = n, fun i H x H' => H' = H ∧ ∀ xs, SqL K H a xs → xs[n - 1 - i]? = some x, fun i _ => i = n⟩
theorem turn_rev {P : Program} {w : World} {K : PySem.W.Frag} {tg : Expr} (a it : Addr) (n : Nat) : Turn P w K tg (Itv K a n) [it] it (fun i h => i ≤ n ∧ h.IsRevIter it a ((n : Int) - 1 - (i : Nat))) where
  mem := by simp
  obj := fun i h st b hb => by
    have e : b = it := by simpa using hb
    subst e
    obtain ⟨o, e, c, d⟩ := st.2
    exact ⟨o, e, fun v z => by rw [d] at z; cases z⟩
  keep := fun i h h' st k => ⟨st.1, st.2.at fun o e => k it (by simp) o e⟩
  item := by
    intro X hP hw hK hc i pins s σ H E I hf st hg
    subst hP hw hK
    obtain ⟨hi, xs, hq, hx⟩ := hg
    obtain ⟨its, rv, p, hz⟩ := I.list hq
    have hx' := List.getElem?_eq_getElem (show n - 1 - i < xs.length by omega)
    obtain ⟨u, hu, ru⟩ := rv.get hx'
    obtain ⟨f0, f1, f2, f3, f4, f5⟩ := hf it (by simp)
    have st' := st.2
    have e1 : (n : Int) - 1 - (i : Nat) = ((n - 1 - i : Nat) : Int) := by omega
    rw [e1] at st'
    refine wpAny_pyNext_rev_item st' p.isList (x := u) (by simpa using hu) fun h' s2 sb => ?_
    have I1 : Inv X pins σ H { s with heap := h' } := I.turned (t' := s.toks) (fun b o hb e => (sb.2 b hb).trans e) f0 f1 f3 f4 f5
    obtain ⟨o, e, c, d⟩ := id s2
    refine ⟨u, rfl, go_of (s := { s with heap := h' }) e c d (by decide) ⟨xs[n - 1 - i], H, I1, ru, ⟨rfl, fun ys hy => by rw [I.list_inj hy hq]; exact hx'⟩, ⟨by omega, ?_⟩, fun b hb => (hf b hb).1⟩⟩
    have e2 : (n : Int) - 1 - ((i + 1 : Nat) : Int) = ((n - 1 - i : Nat) : Int) - 1 := by omega
    rw [e2]
    exact s2
  done := by
    intro X hP hw hK hc i pins s σ H E I hf st hg
    subst hP hw hK
    obtain ⟨f0, f1, f2, f3, f4, f5⟩ := hf it (by simp)
    have hi : i = n := hg
    have st' := st.2
    have e1 : (n : Int) - 1 - (i : Nat) = -1 := by omega
    rw [e1] at st'
    exact wpAny_pyNext_rev_end (I.ok.hd hc) st' fun h' eb => ⟨rfl, I.turned (t' := s.toks) (fun b o hb e => eb b o hb e) f0 f1 f3 f4 f5⟩
  self := fun _ _ _ _ _ st h => wpAny_pyIter_revIter st.2 h
def iRevV (K : PySem.W.Frag) (ta : TA) : TI := fun σ H R => ta σ H fun vs H1 => ∃ a xs, vs = [.ref a] ∧ SqL K H1 a xs ∧ R (Itv K a xs.length) H1
theorem pi_rev {X : Cx} {tg e : Expr} {p pos : Pos} {ta : TA} (hg : Gl X "reversed") (hm : X.mg "reversed" = none) (ha : PA X [e] ta)
    (he : starEach [e] X.env = (false, eval e X.env) :: starEach [] X.env := by rfl) : PI X tg (.Call (.Name "reversed" p) [e] [] pos) (iRevV X.K ta) := by
  intro pins s σ H R I h
  refine Call_ (ld_blt I hg hm boot_reversed (PyProof.Rows.callWith_type1 (thn (ha pos pins s σ H _ I h) fun us s1 ⟨vs, H1, I1, r1, q1⟩ => ?_) he rfl))
  obtain ⟨a, xs, rfl, hq, q⟩ := q1
  obtain ⟨u, rfl, r⟩ := vals1 r1
  cases r
  obtain ⟨its, rv, pl, hz⟩ := I1.list hq
  have hl : its.toArray.size = xs.length := by rw [List.size_toArray, rv.length]
  refine call_reversed_list pl.isList ?_
  rw [hl]
  have rit : (s1.heap.push (revObj a ((xs.length : Int) - 1))).IsRevIter s1.heap.objs.size a ((xs.length : Int) - 1 - ((0 : Nat) : Int)) := ⟨_, Heap.get?_push_size _ rfl, rfl, by simp [revObj]⟩
  refine wpAny_pyIter_revIter (s := { s1 with heap := s1.heap.push (revObj a ((xs.length : Int) - 1)) }) rit ?_
  refine ⟨s1.heap.objs.size, [s1.heap.objs.size], _, _, H1, rfl, I1.kept (t' := s1.toks) fun b o e => Heap.get?_push_of_some _ e, turn_rev a _ xs.length, ⟨Nat.zero_le _, rit⟩, fun b hb => ?_, q⟩
  have e : b = s1.heap.objs.size := by simpa using hb
  subst e
  exact I1.fpOk (Nat.le_refl _) (I1.hok.fresh (Nat.le_refl _))
def cnt3 (lo hi c : Int) : Nat := if lo < hi then ((hi - lo - 1) / c + 1).toNat else 0
end L2
namespace L2
open PySem PySem.Spec PyProof.Rows
section
variable {X : Cx}
def findS (x y : Str) : Int := match Builtin.Str.occurrences x y 0 x.length 1 with
  | i :: _ => (i : Int)
  | [] => -1
end
end L2
namespace L3
open PySem PySem.Spec PyProof.Rows L2
section
variable {X : Cx}
def zFind : Z → List Z → Hq → K3 → Prop := fun x xs G R => match x, xs with
  | .str z, [.str y] => R (.int (findS z y)) G
  | _, _ => False
theorem i_find {G : Hq} {R : K3} {z y : Str} (h : R (.int (findS z y)) G) : zFind (.str z) [.str y] G R := h
def putZ (kvs : List (Key × Z)) (k : Key) (v : Z) : List (Key × Z) :=
  if (kvs.any fun kv => decide (kv.1 = k)) = true then kvs.map (fun kv => if kv.1 = k then (kv.1, v) else kv) else kvs ++ [(k, v)]
theorem any_fst {α β : Type} {k : Key} : ∀ {kvs : List (Key × α)} {us : List (Key × β)}, us.map (·.1) = kvs.map (·.1) → (us.any fun kv => decide (kv.1 = k)) = kvs.any fun kv => decide (kv.1 = k)
  | [], [], _ => rfl
  | [], _ :: _, h => by simp at h
  | _ :: _, [], h => by simp at h
  | p :: ps, q :: qs, h => by
    rw [List.map_cons, List.map_cons] at h
    injection h with h1 h2
    rw [List.any_cons, List.any_cons, any_fst h2, h1]
theorem putZ_rep {K : PySem.W.Frag} {H : Hp} {k : Key} {w : Z} {v : V} (rv : Rep K H w v) {kvs : List (Key × Z)} {us : List (Key × V)} (hk : us.map (·.1) = kvs.map (·.1)) (hr : Reps K H (kvs.map (·.2)) (us.map (·.2))) :
    (putK us k v).map (·.1) = (putZ kvs k w).map (·.1) ∧ Reps K H ((putZ kvs k w).map (·.2)) ((putK us k v).map (·.2)) := by
  unfold putK putZ
  rw [any_fst hk]
  split
  · have go : ∀ {kvs : List (Key × Z)} {us : List (Key × V)}, us.map (·.1) = kvs.map (·.1) → Reps K H (kvs.map (·.2)) (us.map (·.2)) → ((us.map fun kv => if kv.1 = k then (kv.1, v) else kv).map (·.1) = (kvs.map fun kv => if kv.1 = k then (kv.1, w) else kv).map (·.1) ∧ Reps K H ((kvs.map fun kv => if kv.1 = k then (kv.1, w) else kv).map (·.2)) ((us.map fun kv => if kv.1 = k then (kv.1, v) else kv).map (·.2))) := by
      intro kvs
      induction kvs with
      | nil => intro us h1 h2; cases us with
        | nil => exact ⟨rfl, .nil⟩
        | cons _ _ => simp at h1
      | cons p ps ih =>
        intro us h1 h2
        cases us with
        | nil => simp at h1
        | cons q qs =>
          rw [List.map_cons, List.map_cons] at h1 h2
          injection h1 with h3 h4
          rw [reps_cons] at h2
          obtain ⟨a, b, e, r1, r2⟩ := h2
          injection e with e1 e2
          subst e1 e2
          have i := ih h4 r2
          simp only [List.map_cons]
          by_cases e : p.1 = k
          · rw [if_pos e, if_pos (h3.trans e)]
            exact ⟨by rw [i.1, h3], .cons rv i.2⟩
          · rw [if_neg e, if_neg (fun z => e (h3.symm.trans z))]
            exact ⟨by rw [i.1, h3], .cons r1 i.2⟩
    exact go hk hr
  · rw [List.map_append, List.map_append, hk, List.map_append, List.map_append]
    exact ⟨rfl, hr.append (.cons rv .nil)⟩
def keyZ : Z → Option Key
  | .int i => some (.inl i)
  | .str x => some (.inr x)
  | _ => none
theorem keyZ_rep {K : PySem.W.Frag} {H : Hp} {i : Z} {v : V} {k : Key} (h : keyZ i = some k) (r : Rep K H i v) : v = kV k := by
  cases i with
  | int j => rw [rep_int] at r; cases h; exact r
  | str j => rw [rep_str] at r; cases h; exact r
  | _ => cases h
theorem len_fst {α β : Type} {kvs : List (Key × α)} {us : List (Key × β)} (h : us.map (·.1) = kvs.map (·.1)) : us.length = kvs.length := by
  rw [← List.length_map (f := (·.1)) (as := us), h, List.length_map]
variable {tg : Expr} {t : A3}
def iRev (t : A3) : I3 := fun σ G R => t σ G fun ws G1 => ∃ a xs, ws = [.ref a] ∧ G1 a = some (.lst xs) ∧ R xs.reverse (fun G => G a = some (.lst xs)) G1
theorem lowIt_rev {K : PySem.W.Frag} {a : Addr} {ws : List Z} {H0 : Hp} : LowIt K ws.reverse (fun G => G a = some (.lst ws)) (Itv K a ws.length) H0 := fun i G H hg t ok hi => by
  obtain ⟨vs, e, rs⟩ := hg a _ ok
  rw [List.length_reverse] at hi ⊢
  refine ⟨fun h => h, fun w hw => ?_⟩
  have hlt : i < ws.length := by
    have := (List.getElem?_eq_some_iff.mp hw).1
    rwa [List.length_reverse] at this
  rw [List.getElem?_reverse hlt] at hw
  obtain ⟨v, ev, rv⟩ := rs.get hw
  refine ⟨⟨hlt, vs, SqL.of e, rs.length.symm⟩, ?_⟩
  rintro x H' ⟨rfl, y⟩
  have := y vs (SqL.of e)
  rw [ev] at this
  cases this
  exact ⟨rv, hg, .refl _ _⟩
theorem it_reversed {e : Expr} {p pos : Pos} (hg : Gl X "reversed") (hm : X.mg "reversed" = none) (ha : QA X [e] t)
    (he : starEach [e] X.env = (false, eval e X.env) :: starEach [] X.env := by rfl) : QI X tg (.Call (.Name "reversed" p) [e] [] pos) (iRev t) := piImp (pi_rev hg hm ha.p he) fun τ H R2 hx => hx.un fun σ G R hs hg h up => by
  refine ⟨σ, G, _, hs, hg, h, fun ws G1 vs H1 ⟨a, xs, e, ea, h1⟩ rv hg1 t1 => ?_⟩
  subst e
  obtain ⟨v, rfl, r⟩ := rv.one
  rw [rep_ref] at r
  subst r
  obtain ⟨us, e', rs⟩ := hg1 a _ ea
  exact ⟨a, us, rfl, SqL.of e', by rw [← rs.length]; exact up _ _ _ _ _ h1 lowIt_rev hg1 t1⟩
def rng3 (lo c : Int) (n : Nat) : List Z := (List.range n).map fun i : Nat => .int (lo + (i : Int) * c)
def iR3 (t : A3) : I3 := fun σ G R => t σ G fun ws G1 => ∃ i j c : Int, ws = [.int i, .int j, .int c] ∧ (-(2 ^ 60) ≤ i ∧ i < 2 ^ 60 ∧ -(2 ^ 60) ≤ j ∧ j < 2 ^ 60 ∧ 0 < c ∧ c < 2 ^ 60) ∧ R (rng3 i c (cnt3 i j c)) (fun _ => True) G1
def srcZ (G : Hq) : Z → Option (List Z)
  | .ref a => match G a with
    | some (.lst ws) => some ws
    | _ => none
  | .tup ws => some ws
  | _ => none
def zipZ : List (List Z) → List Z
  | [] => []
  | [xs] => xs.map fun x => .tup [x]
  | xs :: rest => List.zipWith (fun x r => match r with | .tup ws => .tup (x :: ws) | r => r) xs (zipZ rest)
def iZip (n : Nat) (t : A3) : I3 := fun σ G R => t σ G fun ws G1 => ∃ xss : List (List Z), ws.map (srcZ G1) = xss.map some ∧ xss ≠ [] ∧ ws.length = n ∧ R (zipZ xss) (fun G => ws.map (srcZ G) = xss.map some) G1
theorem SrcP.uniq {K : PySem.W.Frag} {H : Hp} {p : Bool × Addr} {xs ys : List V} (h : SrcP K H p xs) (g : (if p.1 = true then H p.2 = some (.tup ys) else H p.2 = some (.lst ys))) : SrcP K H p ys := by
  unfold SrcP
  split
  · next e => rw [if_pos e] at g; exact SqT.of g
  · next e => rw [if_neg e] at g; exact SqL.of g
theorem i_iRev {σ : S3} {G : Hq} {Ri : List Z → (Hq → Prop) → Hq → Prop} (h : t σ G fun ws G1 => ∃ a xs, ws = [.ref a] ∧ G1 a = some (.lst xs) ∧ Ri xs.reverse (fun G => G a = some (.lst xs)) G1) : iRev t σ G Ri := h
theorem i_iR3 {σ : S3} {G : Hq} {Ri : List Z → (Hq → Prop) → Hq → Prop} (h : t σ G fun ws G1 => ∃ i j c : Int, ws = [.int i, .int j, .int c] ∧ (-(2 ^ 60) ≤ i ∧ i < 2 ^ 60 ∧ -(2 ^ 60) ≤ j ∧ j < 2 ^ 60 ∧ 0 < c ∧ c < 2 ^ 60) ∧ Ri (rng3 i c (cnt3 i j c)) (fun _ => True) G1) : iR3 t σ G Ri := h
theorem i_iZip {n : Nat} {σ : S3} {G : Hq} {Ri : List Z → (Hq → Prop) → Hq → Prop} (h : t σ G fun ws G1 => ∃ xss : List (List Z), ws.map (srcZ G1) = xss.map some ∧ xss ≠ [] ∧ ws.length = n ∧ Ri (zipZ xss) (fun G => ws.map (srcZ G) = xss.map some) G1) : iZip n t σ G Ri := h
end
end L3
namespace L3
open PySem PySem.Spec PyProof.Rows L2
def putQ (f : Str) (y : Z) : List (Str × Z) → List (Str × Z)
  | [] => [(f, y)]
  | (g, x) :: r => if g = f then (g, y) :: r else (g, x) :: putQ f y r
section
variable {K : PySem.W.Frag} {H : Hp}
theorem look_rep {f : Str} : ∀ {fs : List (Str × Z)} {gs : List (Str × V)}, gs.map (·.1) = fs.map (·.1) → Reps K H (fs.map (·.2)) (gs.map (·.2)) → (fs.lookup f = none → gs.lookup f = none) ∧ ∀ z, fs.lookup f = some z → ∃ v, gs.lookup f = some v ∧ Rep K H z v
  | [], [], _, _ => ⟨fun _ => rfl, fun _ h => by cases h⟩
  | [], _ :: _, h, _ => by simp at h
  | _ :: _, [], h, _ => by simp at h
  | (k, x) :: fs, (k', v) :: gs, h, r => by
    simp only [List.map_cons, List.cons.injEq] at h
    obtain ⟨rfl, h⟩ := h
    simp only [List.map_cons] at r
    rw [reps_cons] at r
    obtain ⟨v', r', e, r1, r2⟩ := r
    obtain ⟨rfl, rfl⟩ := List.cons.inj e
    have ih := look_rep (f := f) h r2
    rw [List.lookup_cons, List.lookup_cons]
    cases c : f == k' with
    | true =>
      refine ⟨fun e => ?_, fun z e => ?_⟩
      · cases e
      · cases e; exact ⟨v, rfl, r1⟩
    | false => exact ih
theorem put_rep {f : Str} {y : Z} {u : V} (ry : Rep K H y u) : ∀ {fs : List (Str × Z)} {gs : List (Str × V)}, gs.map (·.1) = fs.map (·.1) → Reps K H (fs.map (·.2)) (gs.map (·.2)) → (putF f u gs).map (·.1) = (putQ f y fs).map (·.1) ∧ Reps K H ((putQ f y fs).map (·.2)) ((putF f u gs).map (·.2))
  | [], [], _, _ => ⟨rfl, by show Reps K H [y] [u]; rw [reps_cons]; exact ⟨u, [], rfl, ry, by rw [reps_nil]⟩⟩
  | [], _ :: _, h, _ => by simp at h
  | _ :: _, [], h, _ => by simp at h
  | (k, x) :: fs, (k', v) :: gs, h, r => by
    simp only [List.map_cons, List.cons.injEq] at h
    obtain ⟨rfl, h⟩ := h
    simp only [List.map_cons] at r
    rw [reps_cons] at r
    obtain ⟨v', r', e, r1, r2⟩ := r
    obtain ⟨rfl, rfl⟩ := List.cons.inj e
    have ih := put_rep (f := f) ry h r2
    unfold putQ putF
    by_cases c : k' = f
    · rw [if_pos c, if_pos c]
      exact ⟨by simp [h], by show Reps K H (y :: fs.map (·.2)) (u :: gs.map (·.2)); rw [reps_cons]; exact ⟨u, _, rfl, ry, r2⟩⟩
    · rw [if_neg c, if_neg c]
      exact ⟨by simp [ih.1], by show Reps K H (x :: (putQ f y fs).map (·.2)) (v :: (putF f u gs).map (·.2)); rw [reps_cons]; exact ⟨v, _, rfl, r1, ih.2⟩⟩
end
section
variable {X : Cx} {C f : Addr} {fd : FuncData} {ps : List Str} {sp : P3} {k : Nat} {a m x : Str} {p pos pos' tpos apos : Pos} {e o value : Expr} {es : List Expr} {te to : E3} {t : A3}
def uFld (C : Addr) (te : E3) (a : Str) : E3 := fun σ G R => te σ G fun x G1 => ∃ q dx fs v, x = .ref q ∧ G1 q = some (.ins C dx fs) ∧ fs.lookup a = some v ∧ R v G1
theorem q_fld (hc : Cls X.K C) (hn : NoAttr X.K C a) (he : QE X e te) (hb : attributeBase e a X.env (eval e X.env) = eval e X.env := by rfl) : QE X (.Attribute e a pos) (uFld C te a) := ⟨peImp (pe_fld he.p hb) fun τ H Q hx => hx.un fun σ G R hs hg h up =>
  ⟨σ, G, _, hs, hg, h, fun w G1 v H1 ⟨q, dx, fs, z, ew, ea, el, hq⟩ rv hg1 t1 => by
    subst ew
    rw [rep_ref] at rv
    obtain ⟨gs, e1, e2, e3⟩ := hg1 _ _ ea
    obtain ⟨v', l', r'⟩ := (look_rep e2 e3).2 _ el
    exact ⟨q, C, dx, gs, v', rv, e1, hc, hn, l', up _ _ _ _ hq r' hg1 t1⟩⟩⟩
def uFldSet (C : Addr) (to te : E3) (a : Str) : X3 := fun nx _ _ _ σ G => te σ G fun y G1 => to σ G1 fun x G2 => ∃ q dx fs, x = .ref q ∧ G2 q = some (.ins C dx fs) ∧ fs.length < 1000 ∧ nx σ (put G2 q (.ins C dx (putQ a y fs)))
theorem z_fld (hc : Cls X.K C) (hn : NoAttr X.K C a) (ho : QE X o to) (hv : QE X value te) (hs : swapsWith value (some (.Attribute o a pos')) pos.line X.env = pure false := by rfl) : QS X (.Assign [.Attribute o a pos'] value pos) (uFldSet C to te a) := ⟨psImp (ps_fld ho.p hv.p hs) fun D τ H hx => hx.un fun σ G nx rt bk ct hs hg h u1 u2 u3 u4 =>
  ⟨σ, G, _, hs, hg, h, fun y G1 u H1 h1 ry hg1 t1 => ⟨σ, G1, _, hs.mono t1, hg1, h1, fun w G2 v H2 ⟨q, dx, fs, ew, ea, hl, hq⟩ rv hg2 t2 => by
    subst ew
    rw [rep_ref] at rv
    obtain ⟨gs, e1, e2, e3⟩ := hg2 _ _ ea
    have tk : TK X.K H2 (L2.upd H2 q (.ins C dx (putF a u gs))) := .ins e1
    have pq := put_rep (f := a) (ry.mono t2) e2 e3
    exact ⟨q, C, dx, gs, rv, e1, hc, hn, by have := congrArg List.length e2; simp at this; omega, u1 _ _ _ _ hq (hs.mono ((t1.trans t2).trans tk)) (hg2.set tk ⟨_, upd_same, pq.1, pq.2.mono tk⟩) ((t1.trans t2).trans tk)⟩⟩⟩⟩
def uFldAug (C : Addr) (to te : E3) (r : R3) (a : Str) : X3 := fun nx _ _ _ σ G => to σ G fun x G1 => ∃ q dx fs v, x = .ref q ∧ G1 q = some (.ins C dx fs) ∧ fs.lookup a = some v ∧ te σ G1 fun y G2 => r v y G2 fun z G3 => ∃ dx' fs', G3 q = some (.ins C dx' fs') ∧ fs'.length < 1000 ∧ nx σ (put G3 q (.ins C dx' (putQ a z fs')))
theorem z_fldaug {op : Operator} {r : R3} (hc : Cls X.K C) (hn : NoAttr X.K C a) (ho : QE X o to) (hv : QE X value te) (hop : OpQ X (inplaceOp op) r) : QS X (.AugAssign (.Attribute o a tpos) op value pos) (uFldAug C to te r a) := ⟨psImp (ps_fldaug ho.p hv.p hop) fun D τ H hx => hx.un fun σ G nx rt bk ct hs hg h u1 u2 u3 u4 =>
  ⟨σ, G, _, hs, hg, h, fun w G1 v H1 ⟨q, dx, fs, z, ew, ea, el, hq⟩ rv hg1 t1 => by
    subst ew
    rw [rep_ref] at rv
    obtain ⟨gs, e1, e2, e3⟩ := hg1 _ _ ea
    obtain ⟨v', l', r'⟩ := (look_rep e2 e3).2 _ el
    refine ⟨q, C, dx, gs, v', rv, e1, hc, hn, l', σ, G1, _, hs.mono t1, hg1, hq, fun y G2 u H2 h2 ry hg2 t2 => ⟨z, y, G2, _, r'.mono t2, ry, hg2, h2, fun z2 G3 v3 H3 ⟨dx', fs', ea', hl, hq'⟩ rz hg3 t3 => ?_⟩⟩
    obtain ⟨gs', e1', e2', e3'⟩ := hg3 _ _ ea'
    have tk : TK X.K H3 (L2.upd H3 q (.ins C dx' (putF a v3 gs'))) := .ins e1'
    have pq := put_rep (f := a) rz e2' e3'
    have tt := ((t1.trans t2).trans t3).trans tk
    exact ⟨dx', gs', e1', by have := congrArg List.length e2'; simp at this; omega, u1 _ _ _ _ hq' (hs.mono tt) (hg3.set tk ⟨_, upd_same, pq.1, pq.2.mono tk⟩) tt⟩⟩⟩
def uMeth (C : Addr) (m : Str) (sp : P3) (to : E3) (t : A3) : E3 := fun σ G R => to σ G fun x G1 => ∃ q dx fs, x = .ref q ∧ G1 q = some (.ins C dx fs) ∧ fs.lookup m = none ∧ t σ G1 fun ws G2 => sp (.ref q :: ws) G2 R
theorem low_meth {τ : L2.St} {H : Hp} {Q : VK} {E : XK} {o' : TE} {t' : TA} (h : low X.K (uMeth C m sp to t) τ H Q) (h1 : o' = low X.K to) (h2 : t' = lowA X.K t) : tMeth C m (lowP X.K sp) [] E o' t' τ H Q := by
  subst h1 h2
  obtain ⟨σ, G, R, hs, hg, h, up⟩ := h
  refine ⟨σ, G, _, hs, hg, h, fun w G1 v H1 ⟨q, dx, fs, ew, ea, el, hq⟩ rv hg1 t1 => ?_⟩
  subst ew
  rw [rep_ref] at rv
  obtain ⟨gs, e1, e2, e3⟩ := hg1 _ _ ea
  refine ⟨q, dx, gs, rv, e1, (look_rep e2 e3).1 el, σ, G1, _, hs.mono t1, hg1, hq, fun ws G2 vs H2 h2 rs hg2 t2 => ?_⟩
  exact ⟨.ref q :: ws, G2, R, by rw [List.append_nil, reps_cons]; exact ⟨v, vs, rfl, by rw [rep_ref]; exact rv, rs⟩, hg2, h2, up.mono (t1.trans t2)⟩
theorem q_meth {pl : Sem Bool} (ho : QE X o to) (c : Cls X.K C) (hm : Meth X.K C m f) (F : FnOk X.prog X.w X.K X.mg X.base CX0 k f fd ps (lowP X.K sp)) (hr : Room k X.A) (hb : Binds X.K fd ps []) (ha : QA X (e :: es) t)
    (hst : starEach (e :: es) X.env = (false, eval e X.env) :: starEach es X.env := by rfl) (hpl : (backTo pos (starEach es X.env)).any (·.1) = false := by rfl)
    (ht : eval (.Call (.Attribute o m apos) (e :: es) [] pos) X.env = (do
      let ov ← eval o X.env
      standAt apos.atName
      let (f, first) ← holding [ov] (getMethod ov m pl)
      callWith pos f first (backTo pos (starEach (e :: es) X.env)) (backToKw pos (keywordEach [] X.env))) := by rfl) : QE X (.Call (.Attribute o m apos) (e :: es) [] pos) (uMeth C m sp to t) :=
  ⟨peImp (pe_meth ho.p c hm F hr hb .nil pass0 ha.p hst hpl ht) fun _ _ _ h => low_meth h rfl rfl⟩
theorem q_meth0 {pl : Sem Bool} (ho : QE X o to) (c : Cls X.K C) (hm : Meth X.K C m f) (F : FnOk X.prog X.w X.K X.mg X.base CX0 k f fd ps (lowP X.K sp)) (hr : Room k X.A) (hb : Binds X.K fd ps [])
    (ht : eval (.Call (.Attribute o m apos) [] [] pos) X.env = (do
      let ov ← eval o X.env
      standAt apos.atName
      let (f, first) ← holding [ov] (getMethod ov m pl)
      callWith pos f first (backTo pos (starEach [] X.env)) (backToKw pos (keywordEach [] X.env))) := by rfl) : QE X (.Call (.Attribute o m apos) [] [] pos) (uMeth C m sp to uNil) :=
  ⟨peImp (pe_meth0 ho.p c hm F hr hb .nil pass0 ht) fun τ H Q hx => hx.un fun σ G R hs hg h up => by
    refine ⟨σ, G, _, hs, hg, h, fun w G1 v H1 ⟨q, dx, fs, ew, ea, el, hq⟩ rv hg1 t1 => ?_⟩
    subst ew
    rw [rep_ref] at rv
    obtain ⟨gs, e1, e2, e3⟩ := hg1 _ _ ea
    exact ⟨q, dx, gs, rv, e1, (look_rep e2 e3).1 el, [.ref q], G1, R, by rw [List.append_nil, reps_cons]; exact ⟨v, [], rfl, by rw [rep_ref]; exact rv, by rw [reps_nil]⟩, hg1, hq, up.mono t1⟩⟩
def uMake (C : Addr) (sp : P3) (t : A3) : E3 := fun σ G R => t σ G fun ws G1 => ∀ q dx, G1 q = none → sp (.ref q :: ws) (put G1 q (.ins C dx [])) fun v G2 => v = .non ∧ R (.ref q) G2
theorem made {G1 : Hq} {H1 : Hp} {E : XK} {R : K3} {Q : VK} {ws : List Z} {vs : List V} (h1 : ∀ q dx, G1 q = none → sp (.ref q :: ws) (put G1 q (.ins C dx [])) fun v G2 => v = .non ∧ R (.ref q) G2) (rs : Reps X.K H1 ws vs) (hg1 : RH X.K G1 H1) (up : UpV X.K H1 R Q) (q dx : Addr) (n1 : H1 q = none) (n2 : H1 dx = none) (ne : dx ≠ q) :
    lowP X.K sp (.ref q :: (vs ++ [])) (L2.upd (L2.upd H1 dx (.own q)) q (.ins C dx [])) (fun v H2 => v = .non ∧ Q (.ref q) H2) E := by
  have n1' : L2.upd H1 dx (.own q) q = none := by rw [upd_ne (Ne.symm ne)]; exact n1
  have tk : TK X.K H1 (L2.upd (L2.upd H1 dx (.own q)) q (.ins C dx [])) := (TK.new n2).trans (TK.new n1')
  refine ⟨.ref q :: ws, put G1 q (.ins C dx []), _, ?_, ?_, h1 q dx (hg1.out n1), ?_⟩
  · rw [List.append_nil, reps_cons]
    exact ⟨_, vs, rfl, by rw [rep_ref], rs.mono tk⟩
  · exact (hg1.hid n2).set (TK.new n1') ⟨[], upd_same, rfl, by rw [List.map_nil, reps_nil]; rfl⟩
  · rintro w G2 v H2 ⟨ew, hq⟩ rv hg2 t2
    subst ew
    rw [rep_non] at rv
    exact ⟨rv, up _ _ _ _ hq (by rw [rep_ref]) hg2 (tk.trans t2)⟩
theorem q_make0 (M : Mk X.K C f) (F : FnOk X.prog X.w X.K X.mg X.base CX0 k f fd ps (lowP X.K sp)) (hr : Room (k + 1) X.A) (hg : Gl X x) (hm : X.mg x = some (.ref C)) (hb : Binds X.K fd ps [])
    (hdb : (x == ("__debug__" : Str)) = false := by decide) : QE X (.Call (.Name x p) [] [] pos) (uMake C sp uNil) :=
  ⟨peImp (pe_make0 M F hr hg hm hb .nil pass0 hdb) fun τ H Q ⟨σ, G, R, hs, hg, h, up⟩ q dx n1 n2 ne => made (vs := []) h (by rw [reps_nil]) hg up q dx n1 n2 ne⟩
variable {σ : S3} {G : Hq} {R : K3} {nx bk ct : C3} {rt : K3} {q dx : Addr} {fs : List (Str × Z)} {v : Z} {Ra : List Z → Hq → Prop}
theorem i_fldE (h : te σ G fun x G1 => ∃ q dx fs v, x = .ref q ∧ G1 q = some (.ins C dx fs) ∧ fs.lookup a = some v ∧ R v G1) : uFld C te a σ G R := h
theorem i_fset (h : te σ G fun y G1 => to σ G1 fun x G2 => ∃ q dx fs, x = .ref q ∧ G2 q = some (.ins C dx fs) ∧ fs.length < 1000 ∧ nx σ (put G2 q (.ins C dx (putQ a y fs)))) : uFldSet C to te a nx rt bk ct σ G := h
theorem i_methE (h : to σ G fun x G1 => ∃ q dx fs, x = .ref q ∧ G1 q = some (.ins C dx fs) ∧ fs.lookup m = none ∧ t σ G1 fun ws G2 => sp (.ref q :: ws) G2 R) : uMeth C m sp to t σ G R := h
theorem i_makeE (h : t σ G fun ws G1 => ∀ q dx, G1 q = none → sp (.ref q :: ws) (put G1 q (.ins C dx [])) fun v G2 => v = .non ∧ R (.ref q) G2) : uMake C sp t σ G R := h
theorem i_faug {r : R3} (h : to σ G fun x G1 => ∃ q dx fs v, x = .ref q ∧ G1 q = some (.ins C dx fs) ∧ fs.lookup a = some v ∧ te σ G1 fun y G2 => r v y G2 fun z G3 => ∃ dx' fs', G3 q = some (.ins C dx' fs') ∧ fs'.length < 1000 ∧ nx σ (put G3 q (.ins C dx' (putQ a z fs')))) : uFldAug C to te r a nx rt bk ct σ G := h
end
end L3
namespace L2
open PySem PySem.Spec PyProof.Rows
section
variable {X : Cx} {pins : List (Addr × Obj)} {σ : St} {H : Hp} {s : Shared} {a : Addr} {kvs : List (Key × V)} {k : Key} {d : V} {u r : Value} {A : Around} {E : Value → Shared → Prop}
theorem d_setd {Q : Value → Shared → Prop} (I : Inv X pins σ H s) (e : H a = some (.dK kvs)) (ry : RelV (kV k) u) (rd : RelV d r) (hz : kvs.length < sizeLine)
    (h1 : ∀ v w' s', valV kvs k = some v → Inv X pins σ H s' → RelV v w' → Q w' s') (h2 : valV kvs k = none → ∀ s', Inv X pins σ (upd H a (.dK (putK kvs k d))) s' → Q r s') :
    wpAny (model X.prog X.w) A (call (.builtin "dict.setdefault") [.ref a, u, r]) Q E s := by
  obtain ⟨z, hd, vs, rel, dd⟩ := dk_of I.hok e
  have hl : (putK kvs k d).length ≤ sizeLine := by have := length_putK kvs k d; omega
  refine call_meetsIn PySem.F.slot_dict_setdefault dd.typeIs PySem.F.entry_dict_setdefault (PySem.F.args_dict_setdefault_3 _ _ _) (kt_meets_setdefault (mixKind X.prog X.w) a (kV_is ry) hd r) ⟨vs, dd, by rw [← rel.length]; exact z, fun w' hw => ?_, fun hn h' dd' hs => ?_⟩
  · cases hv : valV kvs k with
    | none =>
      have := (rel.val k).isSome_eq
      rw [hv, hw] at this
      cases this
    | some v =>
      have rv := rel.val k
      rw [hv, hw] at rv
      exact h1 v w' _ hv (I.tok _) rv
  · have hn' : valV kvs k = none := by
      have := (rel.val k).isSome_eq
      rw [hn] at this
      cases hv : valV kvs k with
      | none => rfl
      | some v => rw [hv] at this; cases this
    have he : ∃ q, h'.get? a = some q := let ⟨q, _, _, hq, _⟩ := dd'; ⟨q, hq⟩
    exact h2 hn' _ (d_write I (by rw [e]; exact True.intro) hs he (dk_new hl hd (rel.put k rd) dd'))
end
section
variable {X : Cx}
theorem mt_dget (hu : X.A.units + 66 < cLine) : MtR X "dict.get" (fun x vs H Q => ∃ a y d o, x = .ref a ∧ vs = [y, d] ∧ DGet H a y o ∧ Q (o.getD d) H) := by
  intro pins s σ H x vs v us Q I rx rv ⟨a, y, d, o, ex, ev, g, q⟩
  subst ex ev
  cases rx
  obtain ⟨u, r, rfl, ru, rr⟩ := vals2 rv
  exact d_get2 (by omega) I g ru rr fun w' s' I' rw' => ⟨_, H, I', rw', q⟩
theorem mt_setd : MtR X "dict.setdefault" (fun x vs H Q => ∃ a kvs k d, x = .ref a ∧ vs = [kV k, d] ∧ H a = some (.dK kvs) ∧ kvs.length < sizeLine ∧ (∀ v, valV kvs k = some v → Q v H) ∧ (valV kvs k = none → Q d (upd H a (.dK (putK kvs k d))))) := by
  intro pins s σ H x vs v us Q I rx rv ⟨a, kvs, k, d, ex, ev, e, hz, h1, h2⟩
  subst ex ev
  cases rx
  obtain ⟨u, r, rfl, ru, rr⟩ := vals2 rv
  exact d_setd I e ru rr hz (fun v w' s' hv I' rw' => ⟨v, H, I', rw', h1 v hv⟩) fun hn s' I' => ⟨d, _, I', rr, h2 hn⟩
end
end L2
namespace L3
open PySem PySem.Spec PyProof.Rows L2
def valZ (kvs : List (Key × Z)) (k : Key) : Option Z := (kvs.find? fun kv => decide (kv.1 = k)).map (·.2)
theorem valZ_rep {K : PySem.W.Frag} {H : Hp} {k : Key} : ∀ {kvs : List (Key × Z)} {us : List (Key × V)}, us.map (·.1) = kvs.map (·.1) → Reps K H (kvs.map (·.2)) (us.map (·.2)) → (valZ kvs k = none → valV us k = none) ∧ ∀ z, valZ kvs k = some z → ∃ v, valV us k = some v ∧ Rep K H z v
  | [], [], _, _ => ⟨fun _ => rfl, fun _ h => by cases h⟩
  | [], _ :: _, h, _ => by simp at h
  | _ :: _, [], h, _ => by simp at h
  | (c, x) :: fs, (c', v) :: gs, h, r => by
    simp only [List.map_cons, List.cons.injEq] at h
    obtain ⟨rfl, h⟩ := h
    simp only [List.map_cons] at r
    rw [reps_cons] at r
    obtain ⟨v', r', e, r1, r2⟩ := r
    obtain ⟨rfl, rfl⟩ := List.cons.inj e
    have ih := valZ_rep (k := k) h r2
    unfold valZ valV
    rw [List.find?_cons, List.find?_cons]
    cases q : decide (c' = k) with
    | true =>
      refine ⟨fun e => ?_, fun z e => ?_⟩
      · cases e
      · cases e; exact ⟨v, rfl, r1⟩
    | false => exact ih
section
variable {X : Cx}
def zDGet : Z → List Z → Hq → K3 → Prop := fun x xs G R => match x, xs with
  | .ref p, [y, d] => ∃ kvs k, G p = some (.dK kvs) ∧ keyZ y = some k ∧ R ((valZ kvs k).getD d) G
  | _, _ => False
theorem m_dget (hu : X.A.units + 66 < cLine) : MtQ X "dict.get" zDGet := mtImp (mt_dget hu) fun x xs H Q hx => hx.un fun w ws G R rw' rs hg h up => by
  match w, ws, h with
  | .ref p, [y, d], h =>
    rw [rep_ref] at rw'
    obtain ⟨v, v', rfl, r1, r2⟩ := rs.two
    obtain ⟨kvs, k, e, hk, h⟩ := h
    obtain ⟨us, e', hn, rr⟩ := hg _ _ e
    refine ⟨p, v, v', valV us k, rw', rfl, by rw [keyZ_rep hk r1]; exact DGet.k e', ?_⟩
    cases hz : valZ kvs k with
    | none =>
      rw [hz] at h
      rw [(valZ_rep hn rr).1 hz]
      exact up _ _ _ _ h r2 hg (.refl _ _)
    | some z =>
      rw [hz] at h
      obtain ⟨u, e1, e2⟩ := (valZ_rep hn rr).2 z hz
      rw [e1]
      exact up _ _ _ _ h e2 hg (.refl _ _)
def zSetd : Z → List Z → Hq → K3 → Prop := fun x xs G R => match x, xs with
  | .ref p, [y, d] => ∃ kvs k, G p = some (.dK kvs) ∧ keyZ y = some k ∧ kvs.length < sizeLine ∧ (∀ z, valZ kvs k = some z → R z G) ∧ (valZ kvs k = none → R d (put G p (.dK (putZ kvs k d))))
  | _, _ => False
theorem m_setdefault : MtQ X "dict.setdefault" zSetd := mtImp mt_setd fun x xs H Q hx => hx.un fun w ws G R rw' rs hg h up => by
  match w, ws, h with
  | .ref p, [y, d], h =>
    rw [rep_ref] at rw'
    obtain ⟨v, v', rfl, r1, r2⟩ := rs.two
    obtain ⟨kvs, k, e, hk, hz, h1, h2⟩ := h
    obtain ⟨us, e', hn, rr⟩ := hg _ _ e
    refine ⟨p, us, k, v', rw', by rw [keyZ_rep hk r1], e', by rw [len_fst hn]; exact hz, fun u hu => ?_, fun hu => ?_⟩
    · cases hq : valZ kvs k with
      | none => rw [(valZ_rep hn rr).1 hq] at hu; cases hu
      | some z =>
        obtain ⟨u', e1, e2⟩ := (valZ_rep hn rr).2 z hq
        rw [e1] at hu
        cases hu
        exact up _ _ _ _ (h1 z hq) e2 hg (.refl _ _)
    · cases hq : valZ kvs k with
      | some z =>
        obtain ⟨u', e1, e2⟩ := (valZ_rep hn rr).2 z hq
        rw [e1] at hu
        cases hu
      | none =>
        have hp := putZ_rep (k := k) r2 hn rr
        exact up _ _ _ _ (h2 hq) (r2.mono (.dK e')) (hg.set (o := .dK (putZ kvs k d)) (.dK e') ⟨_, upd_same, hp.1, hp.2.mono (.dK e')⟩) (.dK e')
theorem i_dget {p : Addr} {kvs : List (Key × Z)} {k : Key} {y d : Z} {G : Hq} {R : K3} (e : G p = some (.dK kvs)) (a : keyZ y = some k) (h : R ((valZ kvs k).getD d) G) : zDGet (.ref p) [y, d] G R := ⟨kvs, k, e, a, h⟩
theorem i_setd {p : Addr} {kvs : List (Key × Z)} {k : Key} {y d : Z} {G : Hq} {R : K3} (e : G p = some (.dK kvs)) (a : keyZ y = some k) (z : kvs.length < sizeLine) (h1 : ∀ z, valZ kvs k = some z → R z G) (h2 : valZ kvs k = none → R d (put G p (.dK (putZ kvs k d)))) : zSetd (.ref p) [y, d] G R := ⟨kvs, k, e, a, z, h1, h2⟩
theorem i_tyD {p : Addr} {kvs : List (Key × Z)} {G : Hq} {P : Prop} (e : G p = some (.dK kvs)) (h : P) : tyZ "dict" (.ref p) G ∧ P := ⟨.inr ⟨rfl, kvs, e⟩, h⟩
end
end L3
namespace L3
open PySem PySem.Spec PyProof.Rows L2
def uPairs : List (E3 × E3) → S3 → Hq → (List (Z × Z) → Hq → Prop) → Prop
  | [], _, G, R => R [] G
  | (tk, tv) :: r, σ, G, R => tk σ G fun x G1 => tv σ G1 fun y G2 => uPairs r σ G2 fun ps G3 => R ((x, y) :: ps) G3
def keysOf : List (Z × Z) → Option (List (Key × Z))
  | [] => some []
  | (x, y) :: r => match keyZ x, keysOf r with
    | some k, some kvs => some ((k, y) :: kvs)
    | _, _ => none
def mergeZ (kvs more : List (Key × Z)) : List (Key × Z) := more.foldl (fun acc kv => putZ acc kv.1 kv.2) kvs
def PReps (K : PySem.W.Frag) (H : Hp) : List (Z × Z) → List (V × V) → Prop := Paired fun p q => Rep K H p.1 q.1 ∧ Rep K H p.2 q.2
theorem PReps.mono {K : PySem.W.Frag} {H H' : Hp} (t : TK K H H') : ∀ {ps : List (Z × Z)} {vs : List (V × V)}, PReps K H ps vs → PReps K H' ps vs
  | _, _, .nil => .nil
  | _, _, .cons r s => .cons ⟨r.1.mono t, r.2.mono t⟩ (PReps.mono t s)
section
variable {X : Cx}
def uDisp (trs : List (E3 × E3)) : E3 := fun σ G R => ∀ p, G p = none → uPairs trs σ (put G p (.dK [])) fun ps G2 => G2 p = some (.dK []) ∧ ∃ kvs, keysOf ps = some kvs ∧ kvs.length ≤ 15 ∧ R (.ref p) (put G2 p (.dK (mergeZ [] kvs)))
theorem i_disp {trs : List (E3 × E3)} {σ : S3} {G : Hq} {R : K3} (h : ∀ p, G p = none → uPairs trs σ (put G p (.dK [])) fun ps G2 => G2 p = some (.dK []) ∧ ∃ kvs, keysOf ps = some kvs ∧ kvs.length ≤ 15 ∧ R (.ref p) (put G2 p (.dK (mergeZ [] kvs)))) : uDisp trs σ G R := h
theorem i_pnil {σ : S3} {G : Hq} {R : List (Z × Z) → Hq → Prop} (h : R [] G) : uPairs [] σ G R := h
theorem i_pcons {tk tv : E3} {r : List (E3 × E3)} {σ : S3} {G : Hq} {R : List (Z × Z) → Hq → Prop} (h : tk σ G fun x G1 => tv σ G1 fun y G2 => uPairs r σ G2 fun ps G3 => R ((x, y) :: ps) G3) : uPairs ((tk, tv) :: r) σ G R := h
theorem reps_rep {K : PySem.W.Frag} {H : Hp} {ws : List Z} {vs : List V} (r : Reps K H ws vs) : ∀ k : Nat, Reps K H (List.replicate k ws).flatten (List.replicate k vs).flatten
  | 0 => by rw [List.replicate_zero, List.flatten_nil, reps_nil]; rfl
  | k + 1 => by rw [List.replicate_succ, List.flatten_cons, List.replicate_succ, List.flatten_cons]; exact r.append (reps_rep r k)
def zRep : R3 := fun x y G R => match x, y with
  | .ref l, .int k => ∃ ws, G l = some (.lst ws) ∧ 0 ≤ k ∧ k < 1000 ∧ ws.length * k.toNat ≤ sizeLine ∧ ∀ p, G p = none → R (.ref p) (put G p (.lst (List.replicate k.toNat ws).flatten))
  | _, _ => False
theorem o_rep : OpQ X (binaryOp .Mult) zRep := opImp op_rep fun x y H Q hx => hx.un fun a b G R ra rb hg h up => by
  match a, b, h with
  | .ref l, .int k, h =>
    rw [rep_ref] at ra
    rw [rep_int] at rb
    obtain ⟨ws, e, h0, h1, hz, h⟩ := h
    obtain ⟨vs, e', rs⟩ := hg _ _ e
    refine ⟨l, k, vs, ra, rb, e', by omega, by omega, by rw [← rs.length]; exact hz, fun p hp => ?_⟩
    have tk : TK X.K H (L2.upd H p (.lst (List.replicate k.toNat vs).flatten)) := .new hp
    exact up _ _ _ _ (h p (hg.out hp)) (by rw [rep_ref]) (hg.set tk ⟨_, upd_same, (reps_rep rs _).mono tk⟩) tk
theorem i_rep {l : Addr} {k : Int} {ws : List Z} {G : Hq} {R : K3} (e : G l = some (.lst ws)) (h0 : 0 ≤ k) (h1 : k < 1000) (hz : ws.length * k.toNat ≤ sizeLine) (h : ∀ p, G p = none → R (.ref p) (put G p (.lst (List.replicate k.toNat ws).flatten))) : zRep (.ref l) (.int k) G R := ⟨ws, e, h0, h1, hz, h⟩
end
end L3
namespace L3
theorem ln0 {α : Type} {C : List α → Prop} (h : C []) : ∀ us : List α, us.length = 0 → C us
  | [], _ => h
theorem lnS {α : Type} {C : List α → Prop} {n : Nat} (h : ∀ a, ∀ us : List α, us.length = n → C (a :: us)) : ∀ us : List α, us.length = n + 1 → C us
  | a :: us, e => h a us (Nat.succ.inj e)
end L3
namespace L2
open PySem PySem.Spec PyProof.Rows
section
variable {X : Cx}
end
end L2
namespace L3
open PySem PySem.Spec PyProof.Rows L2
section
variable {X : Cx} {e : Expr} {es : List Expr} {t : A3} {x y : Str} {p p2 pos pos2 : Pos}
def uSS (t : A3) : E3 := fun σ G R => t σ G fun ws G1 => ∃ (p : Addr) (ns : List Int), ws = [.ref p] ∧ G1 p = some (.lst (ns.map Z.int)) ∧ ns.length ≤ 1000 ∧
  ∀ (t : Addr) (ks : List Int), G1 t = none → ks.Pairwise (· < ·) → (∀ x, x ∈ ks ↔ x ∈ ns) → ks.length ≤ ns.length → R (.ref t) (put G1 t (.lst (ks.map Z.int)))
end
end L3
namespace L3
open PySem PySem.Spec PyProof.Rows L2
inductive Refs (G : Hq) : List Z → List (List Z) → Prop
  | nil : Refs G [] []
  | cons {a : Addr} {ws : List Z} {xs : List Z} {xss : List (List Z)} : G a = some (.lst xs) → xs.all (flat 8) = true → Refs G ws xss → Refs G (.ref a :: ws) (xs :: xss)
section
variable {X : Cx}
end
end L3
namespace L2
open PySem PySem.Spec PyProof.Rows
section
variable {X : Cx}
theorem call_strOf : CallR X (.type "str") (fun xs H Q => (∃ i : Int, xs = [.int i] ∧ i.natAbs.log2 < 1920 ∧ Q (.str (Str.ofString (toString i))) H) ∨ ∃ x, xs = [.str x] ∧ Q (.str x) H) := by
  intro pins s σ H xs us Q I r h
  rcases h with ⟨i, rfl, hi, q⟩ | ⟨x, rfl, q⟩
  · obtain ⟨u, rfl, rx⟩ := vals1 r
    obtain ⟨t, rfl⟩ := rx
    exact PySem.P.str_of_int hi ⟨.str _, H, I.tok _, ⟨_, rfl⟩, q⟩
  · obtain ⟨u, rfl, rx⟩ := vals1 r
    obtain ⟨t, rfl⟩ := rx
    exact PySem.P.str_of_str ⟨.str _, H, I, ⟨_, rfl⟩, q⟩
theorem call_intOf : CallR X (.type "int") (fun xs H Q => ∃ (x : Str) (n : Int), xs = [.str x] ∧ intText? x = some n ∧ x.length ≤ 640 ∧ Q (.int n) H) := by
  intro pins s σ H xs us Q I r h
  obtain ⟨x, n, rfl, hn, hl, q⟩ := h
  obtain ⟨u, rfl, rx⟩ := vals1 r
  obtain ⟨t, rfl⟩ := rx
  exact PySem.W.KIN.call_text hn hl ⟨.int n, H, I.tok _, ⟨_, rfl⟩, q⟩
def KD (X : Cx) (a : Addr) (kvs : List (Key × V)) : Prop := kvs.length ≤ sizeLine ∧ (a == sysModules) = false ∧ ∃ vs, KV kvs vs ∧ ∀ h : Heap, X.K.In h → h.DictOf (mixKind X.prog X.w) a vs
end
end L2
namespace L3
open PySem PySem.Spec PyProof.Rows L2
section
variable {X : Cx}
theorem q_gref {a : Addr} {e : Expr} (h : PE X e (tC (.ref a))) : QE X e (uC (.ref a)) := q_con h fun _ => by rw [rep_ref]
theorem pe_globR {x : Str} {a : Addr} {pos : Pos} (hg : Gl X x) (hm : X.mg x = some (.ref a)) (hd : (x == ("__debug__" : Str)) = false := by decide) : PE X (.Name x pos) (tC (.ref a)) := pe_glob hg hm rfl hd
def zStr : List Z → Hq → K3 → Prop := fun xs G R => match xs with
  | [.int i] => i.natAbs.log2 < 1920 ∧ R (.str (Str.ofString (toString i))) G
  | [.str x] => R (.str x) G
  | _ => False
theorem b_str : CallQ X (.type "str") zStr := callImp call_strOf fun xs H Q hx => hx.un fun ws G R rs hg h up => by
  match ws, h with
  | [.int i], h =>
    obtain ⟨v, rfl, r⟩ := rs.one
    rw [rep_int] at r
    exact .inl ⟨i, by rw [r], h.1, up _ _ _ _ h.2 (by rw [rep_str]) hg (.refl _ _)⟩
  | [.str x], h =>
    obtain ⟨v, rfl, r⟩ := rs.one
    rw [rep_str] at r
    exact .inr ⟨x, by rw [r], up _ _ _ _ h (by rw [rep_str]) hg (.refl _ _)⟩
def zIntT : List Z → Hq → K3 → Prop := fun xs G R => match xs with
  | [.str x] => ∃ n, intText? x = some n ∧ x.length ≤ 640 ∧ R (.int n) G
  | _ => False
theorem b_int : CallQ X (.type "int") zIntT := callImp call_intOf fun xs H Q hx => hx.un fun ws G R rs hg h up => by
  match ws, h with
  | [.str x], h =>
    obtain ⟨v, rfl, r⟩ := rs.one
    rw [rep_str] at r
    obtain ⟨n, h1, h2, h⟩ := h
    exact ⟨x, n, by rw [r], h1, h2, up _ _ _ _ h (by rw [rep_int]) hg (.refl _ _)⟩
def zTuple : List Z → Hq → K3 → Prop := fun xs G R => match xs with
  | [.ref p] => ∃ ws, G p = some (.lst ws) ∧ R (.tup ws) G
  | _ => False
theorem b_tuple : CallQ X (.type "tuple") zTuple := callImp call_tuple_of fun xs H Q hx => hx.un fun ws G R rs hg h up => by
  match ws, h with
  | [.ref p], h =>
    obtain ⟨v, rfl, r⟩ := rs.one
    rw [rep_ref] at r
    obtain ⟨ys, e, h⟩ := h
    obtain ⟨vs, e', rs'⟩ := hg _ _ e
    exact ⟨p, vs, by rw [r], .inl ⟨SqL.of e', fun t ht => up _ _ _ _ h (by rw [rep_tup]; exact ⟨t, vs, rfl, upd_same, rs'.mono (.new ht)⟩) (hg.hid ht) (.new ht)⟩⟩
def zV : Z → V
  | .str x => .str x
  | .ref a => .ref a
  | .int i => .int i
  | _ => .non
def simpZ : Z → Bool
  | .str _ => true
  | .ref _ => true
  | .int _ => true
  | _ => false
def KDZ (X : Cx) (a : Addr) (kvs : List (Key × Z)) : Prop := (∀ kv ∈ kvs, simpZ kv.2 = true) ∧ KD X a (kvs.map fun kv => (kv.1, zV kv.2))
def KTup (K : PySem.W.Frag) (a : Addr) (ss : List Str) : Prop := ∃ (o : Obj) (its : Array Value) (n : Nat), K.lookup a = some o ∧ o.cls = .type "tuple" ∧ o.data = .seq its n ∧ its.size ≤ sizeLine ∧ Vals (ss.map V.str) its.toList
theorem KTup.sq {K : PySem.W.Frag} {H : Hp} {a : Addr} {ss : List Str} (h : KTup K a ss) : SqT K H a (ss.map V.str) := .inr h
variable {t : A3}
end
end L3
namespace L3
open PySem PySem.Spec PyProof.Rows L2
def KDk (w : World) (K : PySem.W.Frag) (a : Addr) (kvs : List (Key × Z)) : Prop := (∀ kv ∈ kvs, simpZ kv.2 = true) ∧ kvs.length ≤ sizeLine ∧ (a == sysModules) = false ∧ ∃ vs : List (Key × Value), KV (kvs.map fun kv => (kv.1, zV kv.2)) vs ∧ ∀ (P : Program) (h : Heap), K.In h → h.DictOf (mixKind P w) a vs
theorem KDk.at {X : Cx} {a : Addr} {kvs : List (Key × Z)} (h : KDk X.w X.K a kvs) : KDZ X a kvs := ⟨h.1, by rw [List.length_map]; exact h.2.1, h.2.2.1, let ⟨vs, r, q⟩ := h.2.2.2; ⟨vs, r, q X.prog⟩⟩
inductive KTs (K : PySem.W.Frag) : List (Addr × List Str) → Prop
  | nil : KTs K []
  | cons {a : Addr} {ss : List Str} {tt : List (Addr × List Str)} : KTup K a ss → KTs K tt → KTs K ((a, ss) :: tt)
end L3
namespace L2
open PySem PySem.W
theorem exk_mk {K : Frag} {D : Addr} (ea : hasDictIn K D = true) (eb : findIn K (.ref D) "__getattribute__" = some (some (.builtin "BaseException.__getattribute__"))) (ec : findIn K (.ref D) "__getattr__" = some none) (ed : findIn K (.ref D) "__class__" = some (some (.builtin "object.__class__")))
    (ee : specialIn K (.builtin "object.__class__") "__get__" = some (some (.builtin "getset_descriptor.__get__"))) (ef : takesIn K (.builtin "object.__class__") = some true) (eg : mroIn K D (.type "object") = some true) (eh : mroIn K D (.type "BaseException") = some true) : ExK K D :=
  ⟨by obtain ⟨cd, hc, _⟩ := any_some ea; rw [hc]; rfl, eb, ec, ed, ee, ef, eg, eh⟩
theorem exm_mk {K : Frag} {C D : Addr} (xb : subIn K (.ref D) (.type "BaseException") = some true) (xt : typeIn K (.ref D) = some (.type "type")) (xs : subIn K (.ref C) (.ref D) = some true) (xh : hasDictIn K D = true) : exmOne K (.ref C) (.ref D) = some true := by
  obtain ⟨cd, hc, _⟩ := any_some xh
  unfold exmOne
  rw [if_pos (by rw [xb]; rfl)]
  show (if ((clsIn K D).isSome && typeIn K (.ref D) == some (.type "type")) = true then subIn K (.ref C) (.ref D) else none) = some true
  rw [if_pos (by rw [hc, xt]; rfl)]
  exact xs
end L2
namespace L2
open PySem PySem.Spec PyProof.Rows
section
variable {X : Cx} {e : Addr} {oe : Obj} {C : Addr}
def rIsX (K : PySem.W.Frag) (C e : Addr) : List V → Hp → VK → Prop := fun xs H Q => ∃ y b, xs = [.ref e, y] ∧ ((∃ D, y = .ref D ∧ PySem.W.kitOne K (.ref C) (.ref D) = some b) ∨ (∃ T, y = .ty T ∧ PySem.W.kitOne K (.ref C) (.type T) = some b) ∨
  ∃ (p : Addr) (ds : List Addr), y = .ref p ∧ SqT K H p (ds.map V.ref) ∧ PySem.W.kitAny K (.ref C) (ds.map Value.ref) = some b) ∧ Q (.bl b) H
theorem refs_of : ∀ {ds : List Addr} {us : List Value}, Vals (ds.map V.ref) us → us = ds.map Value.ref
  | [], us, r => by rw [List.map_nil] at r; cases r; rfl
  | T :: Ts, us, r => by
    rw [List.map_cons] at r
    cases r with
    | cons r1 r2 => rw [refs_of r2, show _ = Value.ref T from r1]; rfl
theorem call_isX (hc : oe.cls = .ref C) (hd : oe.dict = none) (hn : PySem.W.notCls oe = true) (k : ExK X.K C) : CallR (X.hnd e oe) (.builtin "isinstance") (rIsX X.K C e) := by
  intro pins s σ H xs us Q I r h
  obtain ⟨y, b, rfl, hy, q⟩ := h
  obtain ⟨u, w', rfl, r1, r2⟩ := vals2 r
  cases (show u = Value.ref e from r1)
  have J : PySem.W.InstAt s.heap e oe C none := ⟨(I.pin (e, oe) (.head _)).1, hc, hn, by rw [hd]; exact True.intro⟩
  rcases hy with ⟨D, rfl, e1⟩ | ⟨T, rfl, e1⟩ | ⟨p, ds, rfl, hq, e1⟩
  · cases (show w' = Value.ref D from r2)
    exact PySem.W.kia_one (kitx_exc k) I.kIn J e1 (fun z => nomatch z) fun tk => ⟨.bl b, H, I.tok tk, rfl, q⟩
  · cases (show w' = Value.type T from r2)
    exact PySem.W.kia_one (kitx_exc k) I.kIn J e1 (fun z => nomatch z) fun tk => ⟨.bl b, H, I.tok tk, rfl, q⟩
  · cases (show w' = Value.ref p from r2)
    obtain ⟨its, rv, pl, _⟩ := I.tuple hq
    have ei := refs_of rv
    subst ei
    obtain ⟨⟨cl, dd, dt, sl⟩, ho, hc', n, hd'⟩ := pl
    cases hc'
    cases hd'
    exact PySem.W.kia_tup (kitx_exc k) I.kIn J ho e1 (fun z => nomatch z) fun tk => ⟨.bl b, H, I.tok tk, rfl, q⟩
end
end L2
namespace L3
open PySem PySem.Spec PyProof.Rows L2
abbrev PX3 := List Z → Hq → K3 → (Addr → Hq → Prop) → Prop
def UpX (K : PySem.W.Frag) (H : Hp) (EE : Addr → Hq → Prop) (E : XK) : Prop := ∀ C G H', EE C G → RH K G H' → TK K H H' → E (.ref C) none H'
def lowPx (K : PySem.W.Frag) (sp : PX3) : Sp := fun vs H Q E => ∃ ws G R EE, Reps K H ws vs ∧ RH K G H ∧ sp ws G R EE ∧ UpV K H R Q ∧ UpX K H EE E
theorem tk_of {K : PySem.W.Frag} {H H' : Hp} (t : TKs H H') : TK K H H' := ⟨t.tup, fun a xs h => by
  rcases h with ⟨o, h⟩ | h
  · exact .inl ⟨o, t.frz _ _ _ h⟩
  · exact .inr h⟩
def UpN (K : PySem.W.Frag) (EE : Addr → Hq → Prop) (E : XK) : Prop := ∀ C G H', EE C G → RH K G H' → E (.ref C) none H'
theorem UpX.since {K : PySem.W.Frag} {H : Hp} {EE : Addr → Hq → Prop} {E : XK} (h : UpX K H EE E) : UpN K EE (since H E) := fun C G H' q r t => h C G H' q r (tk_of t)
abbrev EE0 : Addr → Hq → Prop := fun _ _ => False
theorem up0 {K : PySem.W.Frag} : UpN K EE0 E0 := fun _ _ _ z _ => z.elim
theorem pass_none {X : Cx} : Passes (CXx X.prog X.w) X E0 := by
  rintro pins σ H s ev s' _ ⟨_, _, _, _, _, _, _, _, _, q⟩
  exact q.elim
section
variable {X : Cx} {E : XK} {EE : Addr → Hq → Prop} {e e0 : Expr} {es : List Expr} {x n : Str} {p pos np cpos hpos tpos : Pos} {t : A3} {te : E3} {k : Nat} {f C D : Addr} {fd : FuncData} {ps : List Str} {sp : PX3}
def uCallX (sp : PX3) (EE : Addr → Hq → Prop) (t : A3) : E3 := fun σ G R => t σ G fun ws G1 => sp ws G1 R EE
theorem q_callX (hp : Passes (CXx X.prog X.w) X E) (hU : UpN X.K EE E) (F : FnOk X.prog X.w X.K X.mg X.base (CXx X.prog X.w) k f fd ps (lowPx X.K sp)) (hr : Room k X.A) (hg : Gl X x) (hm : X.mg x = some (.ref f)) (hk : PySem.W.keepIn X.K (.ref f) = true) (hb : Binds X.K fd ps []) (ha : QA X (e :: es) t)
    (hdb : (x == ("__debug__" : Str)) = false := by decide) (he : starEach (e :: es) X.env = (false, eval e X.env) :: starEach es X.env := by rfl) (hpl : (backTo pos (starEach es X.env)).any (·.1) = false := by rfl) :
    QE X (.Call (.Name x p) (e :: es) [] pos) (uCallX sp EE t) := ⟨peImp (pe_call F hr hg hm hk hb .nil hp ha.p hdb he hpl) fun τ H Q hx => hx.un fun σ G R hs hg h up => ⟨σ, G, _, hs, hg, h, fun ws G1 vs H1 h1 rs hg1 t1 => ⟨ws, G1, R, EE, by rw [List.append_nil]; exact rs, hg1, h1, up.mono t1, fun C G H' z r _ => hU C G H' z r⟩⟩⟩
def uRaise (EE : Addr → Hq → Prop) (C : Addr) (te : E3) : X3 := fun _ _ _ _ σ G => te σ G fun _ G1 => EE C G1
theorem z_raise (O : Outs X E) (hU : UpX X.K X.H₀ EE E) (hc : X.calm = true) (hg : Gl X x) (hm : X.mg x = some (.ref C)) (hq : PySem.W.excIn X.K C veM "ValueError.__new__" = true) (he : QE X e0 te)
    (hs : starEach [e0] X.env = (false, eval e0 X.env) :: starEach [] X.env := by rfl) (hp : (backTo cpos (starEach [] X.env)).any (·.1) = false := by rfl) (hd : (x == ("__debug__" : Str)) = false := by decide) :
    QS X (.Raise (some (.Call (.Name x np) [e0] [] cpos)) none pos) (uRaise EE C te) := ⟨psImp (ps_raise O hc hg hm hq he.p hs hp hd) fun D τ H hx => hx.un fun σ G nx rt bk ct hs hg h u1 u2 u3 u4 => ⟨σ, G, _, hs, hg, h, fun w G1 v H1 h1 rv hg1 t1 => fun t => hU _ _ _ h1 hg1 (tk_of t)⟩⟩
theorem RSt.unset {K : PySem.W.Frag} {H : Hp} : ∀ {σ : S3} {τ : L2.St}, RSt K H σ τ → ∀ i : Nat, RSt K H (σ.set i none) (τ.set i none)
  | _, _, .nil, _ => by rw [List.set_nil, List.set_nil]; exact .nil
  | _, _, .cons r h, 0 => .cons (fun _ z => nomatch z) h
  | _, _, .cons r h, i + 1 => .cons r (RSt.unset h i)
variable {o : Expr} {m : Str} {apos : Pos} {to : E3} {PC : Addr → Prop}
def uMethX (C : Addr) (m : Str) (sp : PX3) (EE : Addr → Hq → Prop) (to : E3) (t : A3) : E3 := fun σ G R => to σ G fun x G1 => ∃ q dx fs, x = .ref q ∧ G1 q = some (.ins C dx fs) ∧ fs.lookup m = none ∧ t σ G1 fun ws G2 => sp (.ref q :: ws) G2 R EE
theorem q_methX {pl : Sem Bool} (hp : Passes (CXx X.prog X.w) X E) (hU : UpN X.K EE E) (ho : QE X o to) (c : Cls X.K C) (hm : Meth X.K C m f) (F : FnOk X.prog X.w X.K X.mg X.base (CXx X.prog X.w) k f fd ps (lowPx X.K sp)) (hr : Room k X.A) (hb : Binds X.K fd ps []) (ha : QA X (e :: es) t)
    (hst : starEach (e :: es) X.env = (false, eval e X.env) :: starEach es X.env := by rfl) (hpl : (backTo pos (starEach es X.env)).any (·.1) = false := by rfl)
    (ht : eval (.Call (.Attribute o m apos) (e :: es) [] pos) X.env = (do
      let ov ← eval o X.env
      standAt apos.atName
      let (f, first) ← holding [ov] (getMethod ov m pl)
      callWith pos f first (backTo pos (starEach (e :: es) X.env)) (backToKw pos (keywordEach [] X.env))) := by rfl) : QE X (.Call (.Attribute o m apos) (e :: es) [] pos) (uMethX C m sp EE to t) :=
  ⟨peImp (pe_meth ho.p c hm F hr hb .nil hp ha.p hst hpl ht) fun τ H Q hx => hx.un fun σ G R hs hg h up => by
    refine ⟨σ, G, _, hs, hg, h, fun w G1 v H1 ⟨q, dx, fs, ew, ea, el, hq⟩ rv hg1 t1 => ?_⟩
    subst ew
    rw [rep_ref] at rv
    obtain ⟨gs, e1, e2, e3⟩ := hg1 _ _ ea
    refine ⟨q, dx, gs, rv, e1, (look_rep e2 e3).1 el, σ, G1, _, hs.mono t1, hg1, hq, fun ws G2 vs H2 h2 rs hg2 t2 => ?_⟩
    exact ⟨.ref q :: ws, G2, R, EE, by rw [List.append_nil, reps_cons]; exact ⟨v, vs, rfl, by rw [rep_ref]; exact rv, rs⟩, hg2, h2, up.mono (t1.trans t2), fun C G H' z r _ => hU C G H' z r⟩⟩
def uTryM (PC : Addr → Prop) (i : Nat) (C : Addr) (m : Str) (sp : PX3) (to : E3) (t : A3) (th : Addr → Addr → X3) : X3 := fun nx rt bk ct σ G => to σ G fun x G1 => ∃ q dx fs, x = .ref q ∧ G1 q = some (.ins C dx fs) ∧ fs.lookup m = none ∧ t σ G1 fun ws G2 =>
  sp (.ref q :: ws) G2 (fun _ G3 => nx σ G3) fun C' G3 => PC C' ∧ ∀ e, th C' e (fun σ' G' => nx (σ'.set i none) G') rt (fun σ' G' => bk (σ'.set i none) G') (fun σ' G' => ct (σ'.set i none) G') (σ.set i (some (.ref e))) G3
theorem z_tryM {b₀ : Stmt} {suite : List Stmt} {i : Nat} {th : Addr → Addr → X3} {cp : Pos} {pl : Sem Bool} (PC : Addr → Prop) (hst : X.stack = X.env :: X.outer) (hex : X.ex = []) (hfm : X.env.frame = some X.env.locals)
    (ho : QE X.nox o to) (c : Cls X.K C) (hmt : Meth X.K C m f) (F : FnOk X.prog X.w X.K X.mg X.base (CXx X.prog X.w) k f fd ps (lowPx X.K sp)) (hr : Room k X.A) (hb : Binds X.K fd ps []) (ha : QA X.nox (e :: es) t)
    (hg : Gl X x) (hm : X.mg x = some (.ref D)) (hD : ∀ C, PC C → PySem.W.exmOne X.K (.ref C) (.ref D) = some true) (hN : X.N.Nodup) (hi : X.N[i]? = some n) (hl : X.env.scope.names.lookup n = some .local)
    (hh : ∀ C e oe, PC C → oe.cls = .ref C → oe.dict = none → PySem.W.notCls oe = true → QSs (X.hnd e oe) (b₀ :: suite) (th C e))
    (he : starEach (e :: es) X.env = (false, eval e X.env) :: starEach es X.env := by rfl) (hpl : (backTo cp (starEach es X.env)).any (·.1) = false := by rfl)
    (ht : eval (.Call (.Attribute o m apos) (e :: es) [] cp) X.env = (do
      let ov ← eval o X.env
      standAt apos.atName
      let (f, first) ← holding [ov] (getMethod ov m pl)
      callWith cp f first (backTo cp (starEach (e :: es) X.env)) (backToKw cp (keywordEach [] X.env))) := by rfl)
    (hs : swapsWith (.Call (.Attribute o m apos) (e :: es) [] cp) none pos.line X.env = pure false := by rfl) (hd : (x == ("__debug__" : Str)) = false := by decide) :
    QS X (.Try [.Expr (.Call (.Attribute o m apos) (e :: es) [] cp) pos] [.ExceptHandler (some (.Name x np)) (some n) (b₀ :: suite) hpos] [] [] tpos) (uTryM PC i C m sp to t th) :=
  ⟨psImp (ps_try (PC := PC) (th := fun C e => lowS X.K (th C e)) (tpos := tpos) (np := np) (hpos := hpos) hst hex hfm (px_meth ho.p c hmt F hr hb ha.p he hpl ht) hg hm hD hN hi hl (fun C e oe z h1 h2 h3 => (hh C e oe z h1 h2 h3).p) hs hd) fun D τ H hx => hx.un fun σ G nx rt bk ct hs hg h u1 u2 u3 u4 => by
    refine ⟨fun c _ H' => ∃ C' G', c = .ref C' ∧ (PC C' ∧ ∀ e, th C' e (fun σ' G' => nx (σ'.set i none) G') rt (fun σ' G' => bk (σ'.set i none) G') (fun σ' G' => ct (σ'.set i none) G') (σ.set i (some (.ref e))) G') ∧ RH X.K G' H' ∧ TK X.K H H', ?_, ?_⟩
    · refine ⟨σ, G, _, hs, hg, h, fun w G1 v H1 ⟨q, dx, fs, ew, ea, el, hq⟩ rv hg1 t1 => ?_⟩
      subst ew
      rw [rep_ref] at rv
      obtain ⟨gs, e1, e2, e3⟩ := hg1 _ _ ea
      refine ⟨q, dx, gs, rv, e1, (look_rep e2 e3).1 el, σ, G1, _, hs.mono t1, hg1, hq, fun ws G2 vs H2 h2 rs hg2 t2 => ?_⟩
      exact ⟨.ref q :: ws, G2, _, _, by rw [List.append_nil, reps_cons]; exact ⟨v, vs, rfl, by rw [rep_ref]; exact rv, rs⟩, hg2, h2, fun w G3 v H3 h3 _ hg3 t3 => u1 _ _ _ _ h3 (hs.mono ((t1.trans t2).trans t3)) hg3 ((t1.trans t2).trans t3), fun C' G3 H3 h3 r3 t3 => ⟨C', G3, rfl, h3, r3, (t1.trans t2).trans t3⟩⟩
    · rintro c H' ⟨C', G', rfl, ⟨hC', hth⟩, hg', t'⟩
      refine ⟨C', rfl, hC', fun e _ => ⟨σ.set i (some (.ref e)), G', _, _, _, _, (hs.mono t').set (by rw [rep_ref]) i, hg', hth e, ?_, u2.mono t', ?_, ?_⟩⟩
      · exact fun σ2 G2 τ2 H2 h2 hs2 hg2 t2 => u1 _ _ _ _ h2 (RSt.unset hs2 i) hg2 (t'.trans t2)
      · exact fun σ2 G2 τ2 H2 h2 hs2 hg2 t2 => u3 _ _ _ _ h2 (RSt.unset hs2 i) hg2 (t'.trans t2)
      · exact fun σ2 G2 τ2 H2 h2 hs2 hg2 t2 => u4 _ _ _ _ h2 (RSt.unset hs2 i) hg2 (t'.trans t2)⟩
def zIsX (K : PySem.W.Frag) (C e : Addr) : List Z → Hq → K3 → Prop := fun xs G R => ∃ y b, xs = [.ref e, y] ∧ ((∃ D, y = .ref D ∧ PySem.W.kitOne K (.ref C) (.ref D) = some b) ∨ (∃ T, y = .ty T ∧ PySem.W.kitOne K (.ref C) (.type T) = some b) ∨
  ∃ ds : List Addr, y = .tup (ds.map Z.ref) ∧ PySem.W.kitAny K (.ref C) (ds.map Value.ref) = some b) ∧ R (.bl b) G
theorem reps_refs {K : PySem.W.Frag} {H : Hp} : ∀ {bs : List Addr} {vs : List V}, Reps K H (bs.map Z.ref) vs → vs = bs.map V.ref
  | [], vs, h => by rw [List.map_nil, reps_nil] at h; subst h; rfl
  | n :: ns, vs, h => by
    rw [List.map_cons, reps_cons] at h
    obtain ⟨v, r, rfl, h1, h2⟩ := h
    rw [rep_ref] at h1
    rw [h1, reps_refs h2]; rfl
theorem b_isX {e : Addr} {oe : Obj} (hc : oe.cls = .ref C) (hd : oe.dict = none) (hn : PySem.W.notCls oe = true) (k : ExK X.K C) : CallQ (X.hnd e oe) (.builtin "isinstance") (zIsX X.K C e) := callImp (call_isX hc hd hn k) fun xs H Q hx => hx.un fun ws G R rs hg h up => by
  obtain ⟨y, b, rfl, hy, q⟩ := h
  obtain ⟨v, v', rfl, r, r'⟩ := rs.two
  rw [rep_ref] at r
  subst r
  refine ⟨v', b, rfl, ?_, up _ _ _ _ q (by rw [rep_bl]) hg (.refl _ _)⟩
  rcases hy with ⟨D, rfl, e1⟩ | ⟨T, rfl, e1⟩ | ⟨ds, rfl, e1⟩
  · rw [rep_ref] at r'; exact .inl ⟨D, r', e1⟩
  · rw [rep_ty] at r'; exact .inr (.inl ⟨T, r', e1⟩)
  · rw [rep_tup] at r'
    obtain ⟨p, vs, rfl, e', rs'⟩ := r'
    have := reps_refs rs'
    subst this
    exact .inr (.inr ⟨p, ds, rfl, SqT.of e', e1⟩)
end
section
variable {X : Cx} {EW : XK} {N' : List Str} {sc : Scope} {cap : List (Option Nat)} {tg iter elt : Expr} {ifs : List Expr} {wi : I3} {pt : Pt} {tt : T3} {te : E3} {pos : Pos}
end
section
variable {P : Program} {w : World} {K : PySem.W.Frag} {mg : Str → Option Value} {base : Heap}
theorem fn3x {x qual : Str} {st : Stmt} {f : Addr} {fd : FuncData} {N ps : List Str} {k : Nat} {sp : PX3} (F : Fun K x qual st f fd) (S : FnScope N ps (defScope st)) (len : ∀ ws G R EE, sp ws G R EE → ws.length = ps.length)
    (hbody : ∀ (cdv : Value) (A : Around) (outer : List Env) (s : Shared) (H : Hp) (E : XK) (ws : List Z) (G : Hq) (R : K3) (EE : Addr → Hq → Prop), Room k (A.deeper (envOfC qual (defScope st) s.heap.objs.size f cdv)) → sp ws G R EE → UpX K H EE E →
      ∃ t, QSs (cxOf (CXx P w) P w K mg base N qual (defScope st) f cdv A outer s H E) (defBody st) t ∧ t (fun _ G' => R .non G') R (fun _ _ => False) (fun _ _ => False) (start3 N ws) G) : FnOk P w K mg base (CXx P w) (k + 1) f fd ps (lowPx K sp) := by
  obtain ⟨oc, od, kV, doc, pm, an, cdv, ct, osl, rfl, lk, hcd⟩ := F.ex
  refine fn_of lk hcd S (fun vs H Q E ⟨ws, G, R, EE, rs, hg, h, up, ux⟩ => by rw [← rs.length]; exact len _ _ _ _ h) ?_
  rintro A outer s H vs Q E hr ⟨ws, G, R, EE, rs, hg, h, up, ux⟩
  obtain ⟨t, ht, hq⟩ := hbody cdv A outer s H E ws G R EE hr h ux
  exact ⟨_, ht.p, start3 N ws, G, _, R, _, _, .start rs, hg, hq, fun σ' G' τ' H' h' hs' hg' t' => up _ _ _ _ h' (by rw [rep_non]) hg' t', up, fun _ _ _ _ h _ _ _ => h.elim, fun _ _ _ _ h _ _ _ => h.elim⟩
end
end L3
namespace L3
open PySem PySem.Spec PyProof.Rows L2
mutual
def DZ (G : Hq) : PyData → Z → Prop
  | .none, x => x = .non
  | .bool b, x => x = .bl b
  | .int i, x => x = .int i
  | .str s, x => x = .str s
  | .list ds, x => ∃ p ws, x = .ref p ∧ G p = some (.lst ws) ∧ DZs G ds ws
  | .tuple ds, x => ∃ ws, x = .tup ws ∧ DZs G ds ws
  | .dict _, _ => False
def DZs (G : Hq) : List PyData → List Z → Prop
  | [], ws => ws = []
  | d :: ds, ws => ∃ w r, ws = w :: r ∧ DZ G d w ∧ DZs G ds r
end
mutual
theorem DZ.dv {K : PySem.W.Frag} {G : Hq} {H : Hp} (hg : RH K G H) : ∀ {d : PyData} {w : Z} {v : V}, DZ G d w → Rep K H w v → DV H d v
  | .none, w, v, q, r => by unfold DZ at q; subst q; rw [rep_non] at r; unfold DV; exact r
  | .bool b, w, v, q, r => by unfold DZ at q; subst q; rw [rep_bl] at r; unfold DV; exact r
  | .int i, w, v, q, r => by unfold DZ at q; subst q; rw [rep_int] at r; unfold DV; exact r
  | .str s, w, v, q, r => by unfold DZ at q; subst q; rw [rep_str] at r; unfold DV; exact r
  | .list ds, w, v, q, r => by
    unfold DZ at q
    obtain ⟨p, ws, e, hp, q⟩ := q
    subst e
    rw [rep_ref] at r
    obtain ⟨vs, e', rs⟩ := hg _ _ hp
    unfold DV
    exact ⟨p, vs, r, e', DZs.dv hg q rs⟩
  | .tuple ds, w, v, q, r => by
    unfold DZ at q
    obtain ⟨ws, e, q⟩ := q
    subst e
    rw [rep_tup] at r
    obtain ⟨p, vs, e1, e2, rs⟩ := r
    unfold DV
    exact ⟨p, vs, e1, e2, DZs.dv hg q rs⟩
  | .dict _, w, v, q, r => by unfold DZ at q; exact q.elim
theorem DZs.dv {K : PySem.W.Frag} {G : Hq} {H : Hp} (hg : RH K G H) : ∀ {ds : List PyData} {ws : List Z} {vs : List V}, DZs G ds ws → Reps K H ws vs → DVs H ds vs
  | [], ws, vs, q, r => by unfold DZs at q; subst q; rw [reps_nil] at r; unfold DVs; exact r
  | d :: ds, ws, vs, q, r => by
    unfold DZs at q
    obtain ⟨w, ws', e, q1, q2⟩ := q
    subst e
    rw [reps_cons] at r
    obtain ⟨v, vs', e, r1, r2⟩ := r
    unfold DVs
    exact ⟨v, vs', e, DZ.dv hg q1 r1, DZs.dv hg q2 r2⟩
end
mutual
theorem DZ.sm {G G' : Hq} (s : Sm G G') : ∀ {d : PyData} {w : Z}, DZ G d w → DZ G' d w
  | .none, w, q => by unfold DZ at q ⊢; exact q
  | .bool b, w, q => by unfold DZ at q ⊢; exact q
  | .int i, w, q => by unfold DZ at q ⊢; exact q
  | .str _, w, q => by unfold DZ at q ⊢; exact q
  | .list ds, w, q => by
    unfold DZ at q ⊢
    obtain ⟨p, ws, e, hp, q⟩ := q
    exact ⟨p, ws, e, s _ _ hp, DZs.sm s q⟩
  | .tuple ds, w, q => by
    unfold DZ at q ⊢
    obtain ⟨ws, e, q⟩ := q
    exact ⟨ws, e, DZs.sm s q⟩
  | .dict _, w, q => by unfold DZ at q; exact q.elim
theorem DZs.sm {G G' : Hq} (s : Sm G G') : ∀ {ds : List PyData} {ws : List Z}, DZs G ds ws → DZs G' ds ws
  | [], ws, q => by unfold DZs at q ⊢; exact q
  | d :: ds, ws, q => by
    unfold DZs at q ⊢
    obtain ⟨w, r, e, q1, q2⟩ := q
    exact ⟨w, r, e, DZ.sm s q1, DZs.sm s q2⟩
end
theorem dz_list {G : Hq} {ds : List PyData} {p : Addr} {ws : List Z} (e : G p = some (.lst ws)) (h : DZs G ds ws) : DZ G (.list ds) (.ref p) := by unfold DZ; exact ⟨p, ws, rfl, e, h⟩
theorem dz_tup {G : Hq} {ds : List PyData} {ws : List Z} (h : DZs G ds ws) : DZ G (.tuple ds) (.tup ws) := by unfold DZ; exact ⟨ws, rfl, h⟩
theorem dz_int {G : Hq} {i : Int} : DZ G (.int i) (.int i) := by unfold DZ; rfl
theorem dz_bl {G : Hq} {b : Bool} : DZ G (.bool b) (.bl b) := by unfold DZ; rfl
theorem dzs_nil {G : Hq} : DZs G [] [] := by unfold DZs; rfl
theorem dzs_cons {G : Hq} {d : PyData} {ds : List PyData} {w : Z} {ws : List Z} (h : DZ G d w) (hs : DZs G ds ws) : DZs G (d :: ds) (w :: ws) := by unfold DZs; exact ⟨w, ws, rfl, h, hs⟩
theorem dz_flat {G : Hq} : ∀ (n : Nat) (w : Z), flat n w = true → DZ G (dZ w) w := by
  have all : ∀ (n : Nat), (∀ w, flat n w = true → DZ G (dZ w) w) → ∀ ws : List Z, (∀ d ∈ ws, flat n d = true) → DZs G (dZs ws) ws := by
    intro n ih ws
    induction ws with
    | nil => exact fun _ => by unfold dZs; exact dzs_nil
    | cons w ws ihs => exact fun h => by unfold dZs; exact dzs_cons (ih w (h w (.head _))) (ihs fun d hd => h d (.tail _ hd))
  intro n
  induction n with
  | zero => intro w h; cases w <;> first | (simp [flat] at h; done) | (unfold dZ DZ; rfl)
  | succ n ih =>
    intro w h
    cases w <;> first | (simp [flat] at h; done) | (unfold dZ DZ; rfl) | skip
    rename_i ws
    unfold dZ
    exact dz_tup (all n ih ws (by simpa [flat] using h))
theorem dzs_flat {G : Hq} (n : Nat) : ∀ (ws : List Z), ws.all (flat n) = true → DZs G (dZs ws) ws
  | [], _ => by unfold dZs; exact dzs_nil
  | w :: ws, h => by
    rw [List.all_cons, Bool.and_eq_true] at h
    unfold dZs
    exact dzs_cons (dz_flat n w h.1) (dzs_flat n ws h.2)
def zEqN (f : Bool → Bool) : R3 := fun x y G R => ∃ d e, DZ G d x ∧ DZ G e y ∧ SeqAt.shaped d = true ∧ SeqAt.shaped e = true ∧ R (.bl (f (PyData.eqv d e))) G
section
variable {X : Cx}
theorem low_eqN {f : Bool → Bool} {K : PySem.W.Frag} {x y : V} {H : Hp} {Q : VK} (h : low2 K (zEqN f) x y H Q) : ∃ d e, DV H d x ∧ DV H e y ∧ SeqAt.shaped d = true ∧ SeqAt.shaped e = true ∧ Q (.bl (f (PyData.eqv d e))) H := by
  obtain ⟨a, b, G, R, ra, rb, hg, ⟨d, e, h1, h2, s1, s2, h⟩, up⟩ := h
  exact ⟨d, e, h1.dv hg ra, h2.dv hg rb, s1, s2, up _ _ _ _ h (by rw [rep_bl]) hg (.refl _ _)⟩
theorem o_eqN (hu : X.A.units + 66 < cLine) : OpQ X (compareOp .Eq) (zEqN id) := opImp (op_eqD hu) fun x y H Q h => low_eqN h
theorem o_neN (hu : X.A.units + 66 < cLine) : OpQ X (compareOp .NotEq) (zEqN not) := opImp (op_neD hu) fun x y H Q h => low_eqN h
end
theorem i_eqN {f : Bool → Bool} {G : Hq} {R : K3} {d e : PyData} {x y : Z} (h1 : DZ G d x) (h2 : DZ G e y) (s1 : SeqAt.shaped d = true) (s2 : SeqAt.shaped e = true) (h : R (.bl (f (PyData.eqv d e))) G) : zEqN f x y G R := ⟨d, e, h1, h2, s1, s2, h⟩
end L3
namespace L2
open PySem PySem.Spec PyProof.Rows
end L2
namespace L3
open PySem PySem.Spec PyProof.Rows L2
section
variable {X : Cx} {E : XK} {e : Expr} {es : List Expr} {x n : Str} {p pos np hpos tpos : Pos} {t : A3} {k : Nat} {f D : Addr} {fd : FuncData} {ps : List Str} {sp : PX3}
end
end L3
set_option maxHeartbeats 4000000
namespace L3
set_option genInjectivity false in
inductive Ex4 {α0 α1 α2 α3 : Type} (p : α0 → α1 → α2 → α3 → Prop) : Prop
  | mk (a0 : α0) (a1 : α1) (a2 : α2) (a3 : α3) (h : p a0 a1 a2 a3) : Ex4 p
set_option genInjectivity false in
inductive Ex5 {α0 α1 α2 α3 α4 : Type} (p : α0 → α1 → α2 → α3 → α4 → Prop) : Prop
  | mk (a0 : α0) (a1 : α1) (a2 : α2) (a3 : α3) (a4 : α4) (h : p a0 a1 a2 a3 a4) : Ex5 p
set_option genInjectivity false in
inductive Ex6 {α0 α1 α2 α3 α4 α5 : Type} (p : α0 → α1 → α2 → α3 → α4 → α5 → Prop) : Prop
  | mk (a0 : α0) (a1 : α1) (a2 : α2) (a3 : α3) (a4 : α4) (a5 : α5) (h : p a0 a1 a2 a3 a4 a5) : Ex6 p
set_option genInjectivity false in
inductive Ex9 {α0 α1 α2 α3 α4 α5 α6 α7 α8 : Type} (p : α0 → α1 → α2 → α3 → α4 → α5 → α6 → α7 → α8 → Prop) : Prop
  | mk (a0 : α0) (a1 : α1) (a2 : α2) (a3 : α3) (a4 : α4) (a5 : α5) (a6 : α6) (a7 : α7) (a8 : α8) (h : p a0 a1 a2 a3 a4 a5 a6 a7 a8) : Ex9 p
end L3
namespace Lw
open PySem L2 L3
def top (i : Nat) : Stmt := PySem.Challenge.pw_twotimes_k11_told_and_refused.main.body.getD i (.Pass ⟨0, 0, 0, 0⟩)
abbrev s_p_is_name : Stmt := top 15
abbrev s_p_is_moment : Stmt := top 16
abbrev s_p_is_stretch : Stmt := top 17
abbrev s_p_earlier_end : Stmt := top 18
abbrev s_p_check_name : Stmt := top 20
abbrev s_p_check_stretch : Stmt := top 21
abbrev s_p_check_in_reach : Stmt := top 22
abbrev s_p_ahead_of : Stmt := top 25
abbrev s_p_with_alike_joined : Stmt := top 27
abbrev s_p_from_on : Stmt := top 26
abbrev s_p_put_on : Stmt := top 24
abbrev s_p_check_telling : Stmt := top 29
abbrev s_p_line_behind : Stmt := top 30
abbrev s_cell_at : Stmt := top 33
abbrev s_mix : Stmt := top 34
abbrev s_parts : Stmt := top 35
abbrev s_names : Stmt := top 36
abbrev s_telling : Stmt := top 37
abbrev s_bad_name : Stmt := top 38
abbrev s_bad_stretch : Stmt := top 39
abbrev s_bad : Stmt := top 40
abbrev s_Sheet_keep_line : Stmt := inClass (top 31) 8
abbrev s_Sheet_known_line : Stmt := inClass (top 31) 9
abbrev s_Sheet_tell : Stmt := inClass (top 31) 1
abbrev s_refused : Stmt := top 41
abbrev s_Sheet_knowings : Stmt := inClass (top 31) 2
abbrev s_Sheet_first : Stmt := inClass (top 31) 3
abbrev s_Sheet_check_knowing : Stmt := inClass (top 31) 7
abbrev s_Sheet_line_at : Stmt := inClass (top 31) 5
abbrev s_look : Stmt := top 42
abbrev s_Sheet___init__ : Stmt := inClass (top 31) 0
abbrev s_law : Stmt := top 43
theorem sc_p_is_name : FnScope ["thing"] ["thing"] (defScope s_p_is_name) := ⟨rfl, rfl, rfl, by decide +kernel, rfl, by decide +kernel, by decide +kernel⟩
theorem sc_p_is_moment : FnScope ["thing"] ["thing"] (defScope s_p_is_moment) := ⟨rfl, rfl, rfl, by decide +kernel, rfl, by decide +kernel, by decide +kernel⟩
theorem sc_p_is_stretch : FnScope ["begin", "end"] ["begin", "end"] (defScope s_p_is_stretch) := ⟨rfl, rfl, rfl, by decide +kernel, rfl, by decide +kernel, by decide +kernel⟩
theorem sc_p_earlier_end : FnScope ["end", "other"] ["end", "other"] (defScope s_p_earlier_end) := ⟨rfl, rfl, rfl, by decide +kernel, rfl, by decide +kernel, by decide +kernel⟩
theorem sc_p_check_name : FnScope ["thing"] ["thing"] (defScope s_p_check_name) := ⟨rfl, rfl, rfl, by decide +kernel, rfl, by decide +kernel, by decide +kernel⟩
theorem sc_p_check_stretch : FnScope ["begin", "end"] ["begin", "end"] (defScope s_p_check_stretch) := ⟨rfl, rfl, rfl, by decide +kernel, rfl, by decide +kernel, by decide +kernel⟩
theorem sc_p_check_in_reach : FnScope ["knowing", "last"] ["knowing", "last"] (defScope s_p_check_in_reach) := ⟨rfl, rfl, rfl, by decide +kernel, rfl, by decide +kernel, by decide +kernel⟩
theorem sc_p_ahead_of : FnScope ["line", "moment"] ["line", "moment"] (defScope s_p_ahead_of) := ⟨rfl, rfl, rfl, by decide +kernel, rfl, by decide +kernel, by decide +kernel⟩
theorem sc_p_with_alike_joined : FnScope ["pieces", "told", "piece"] ["pieces"] (defScope s_p_with_alike_joined) := ⟨rfl, rfl, rfl, by decide +kernel, rfl, by decide +kernel, by decide +kernel⟩
theorem sc_p_from_on : FnScope ["line", "moment"] ["line", "moment"] (defScope s_p_from_on) := ⟨rfl, rfl, rfl, by decide +kernel, rfl, by decide +kernel, by decide +kernel⟩
theorem sc_p_put_on : FnScope ["line", "begin", "end", "worth", "pieces"] ["line", "begin", "end", "worth"] (defScope s_p_put_on) := ⟨rfl, rfl, rfl, by decide +kernel, rfl, by decide +kernel, by decide +kernel⟩
theorem sc_p_check_telling : FnScope ["telling", "name"] ["telling"] (defScope s_p_check_telling) := ⟨rfl, rfl, rfl, by decide +kernel, rfl, by decide +kernel, by decide +kernel⟩
theorem sc_p_line_behind : FnScope ["line", "telling", "worth"] ["line", "telling"] (defScope s_p_line_behind) := ⟨rfl, rfl, rfl, by decide +kernel, rfl, by decide +kernel, by decide +kernel⟩
theorem sc_cell_at : FnScope ["script", "k"] ["script", "k"] (defScope s_cell_at) := ⟨rfl, rfl, rfl, by decide +kernel, rfl, by decide +kernel, by decide +kernel⟩
theorem sc_mix : FnScope ["cell", "k", "one"] ["cell", "k"] (defScope s_mix) := ⟨rfl, rfl, rfl, by decide +kernel, rfl, by decide +kernel, by decide +kernel⟩
theorem sc_parts : FnScope ["cell", "way", "bounds", "found", "k"] ["cell", "way", "bounds"] (defScope s_parts) := ⟨rfl, rfl, rfl, by decide +kernel, rfl, by decide +kernel, by decide +kernel⟩
theorem sc_names : FnScope ["cell", "way", "many", "letters", "xs", "stem", "at", "found"] ["cell", "way", "many"] (defScope s_names) := ⟨rfl, rfl, rfl, by decide +kernel, rfl, by decide +kernel, by decide +kernel⟩
theorem sc_telling : FnScope ["cell", "way", "keys", "worths", "xs", "begin", "end"] ["cell", "way", "keys", "worths"] (defScope s_telling) := ⟨rfl, rfl, rfl, by decide +kernel, rfl, by decide +kernel, by decide +kernel⟩
theorem sc_bad_name : FnScope ["cell", "name", "at", "sign", "long"] ["cell", "name"] (defScope s_bad_name) := ⟨rfl, rfl, rfl, by decide +kernel, rfl, by decide +kernel, by decide +kernel⟩
theorem sc_bad_stretch : FnScope ["cell", "begin", "far", "some"] ["cell", "begin"] (defScope s_bad_stretch) := ⟨rfl, rfl, rfl, by decide +kernel, rfl, by decide +kernel, by decide +kernel⟩
theorem sc_bad : FnScope ["cell", "telling", "way", "found", "at"] ["cell", "telling"] (defScope s_bad) := ⟨rfl, rfl, rfl, by decide +kernel, rfl, by decide +kernel, by decide +kernel⟩
theorem sc_Sheet_keep_line : FnScope ["self", "key", "line"] ["self", "key", "line"] (defScope s_Sheet_keep_line) := ⟨rfl, rfl, rfl, by decide +kernel, rfl, by decide +kernel, by decide +kernel⟩
theorem sc_Sheet_known_line : FnScope ["self", "key", "knowing", "since", "line"] ["self", "key", "knowing"] (defScope s_Sheet_known_line) := ⟨rfl, rfl, rfl, by decide +kernel, rfl, by decide +kernel, by decide +kernel⟩
theorem sc_Sheet_tell : FnScope ["self", "telling", "key", "line"] ["self", "telling"] (defScope s_Sheet_tell) := ⟨rfl, rfl, rfl, by decide +kernel, rfl, by decide +kernel, by decide +kernel⟩
theorem sc_refused : FnScope ["sheet", "telling", "named", "kinds", "other", "e"] ["sheet", "telling", "named"] (defScope s_refused) := ⟨rfl, rfl, rfl, by decide +kernel, rfl, by decide +kernel, by decide +kernel⟩
theorem sc_Sheet_knowings : FnScope ["self"] ["self"] (defScope s_Sheet_knowings) := ⟨rfl, rfl, rfl, by decide +kernel, rfl, by decide +kernel, by decide +kernel⟩
theorem sc_Sheet_first : FnScope ["self"] ["self"] (defScope s_Sheet_first) := ⟨rfl, rfl, rfl, by decide +kernel, rfl, by decide +kernel, by decide +kernel⟩
theorem sc_Sheet_check_knowing : FnScope ["self", "knowing"] ["self", "knowing"] (defScope s_Sheet_check_knowing) := ⟨rfl, rfl, rfl, by decide +kernel, rfl, by decide +kernel, by decide +kernel⟩
theorem sc_Sheet_line_at : FnScope ["self", "key", "knowing"] ["self", "key", "knowing"] (defScope s_Sheet_line_at) := ⟨rfl, rfl, rfl, by decide +kernel, rfl, by decide +kernel, by decide +kernel⟩
theorem sc_look : FnScope ["sheet", "keys"] ["sheet", "keys"] (defScope s_look) := ⟨rfl, rfl, rfl, by decide +kernel, rfl, by decide +kernel, by decide +kernel⟩
theorem sc_Sheet___init__ : FnScope ["self"] ["self"] (defScope s_Sheet___init__) := ⟨rfl, rfl, rfl, by decide +kernel, rfl, by decide +kernel, by decide +kernel⟩
theorem sc_law : FnScope ["script", "way", "keys", "worths", "sheets", "many", "cell", "which", "telling", "ahead", "bad", "named", "found"] ["script"] (defScope s_law) := ⟨rfl, rfl, rfl, by decide +kernel, rfl, by decide +kernel, by decide +kernel⟩
set_option genInjectivity false in
structure Ad where
  f_p_is_name : Addr
  d_p_is_name : FuncData
  f_p_is_moment : Addr
  d_p_is_moment : FuncData
  f_p_is_stretch : Addr
  d_p_is_stretch : FuncData
  f_p_earlier_end : Addr
  d_p_earlier_end : FuncData
  f_p_check_name : Addr
  d_p_check_name : FuncData
  f_p_check_stretch : Addr
  d_p_check_stretch : FuncData
  f_p_check_in_reach : Addr
  d_p_check_in_reach : FuncData
  f_p_ahead_of : Addr
  d_p_ahead_of : FuncData
  f_p_with_alike_joined : Addr
  d_p_with_alike_joined : FuncData
  f_p_from_on : Addr
  d_p_from_on : FuncData
  f_p_put_on : Addr
  d_p_put_on : FuncData
  f_p_check_telling : Addr
  d_p_check_telling : FuncData
  f_p_line_behind : Addr
  d_p_line_behind : FuncData
  f_cell_at : Addr
  d_cell_at : FuncData
  f_mix : Addr
  d_mix : FuncData
  f_parts : Addr
  d_parts : FuncData
  f_names : Addr
  d_names : FuncData
  f_telling : Addr
  d_telling : FuncData
  f_bad_name : Addr
  d_bad_name : FuncData
  f_bad_stretch : Addr
  d_bad_stretch : FuncData
  f_bad : Addr
  d_bad : FuncData
  f_Sheet_keep_line : Addr
  d_Sheet_keep_line : FuncData
  f_Sheet_known_line : Addr
  d_Sheet_known_line : FuncData
  f_Sheet_tell : Addr
  d_Sheet_tell : FuncData
  f_refused : Addr
  d_refused : FuncData
  f_Sheet_knowings : Addr
  d_Sheet_knowings : FuncData
  f_Sheet_first : Addr
  d_Sheet_first : FuncData
  f_Sheet_check_knowing : Addr
  d_Sheet_check_knowing : FuncData
  f_Sheet_line_at : Addr
  d_Sheet_line_at : FuncData
  f_look : Addr
  d_look : FuncData
  f_Sheet___init__ : Addr
  d_Sheet___init__ : FuncData
  f_law : Addr
  d_law : FuncData
  c_Sheet : Addr
  x_NoName : Addr
  x_NoStretch : Addr
  x_TimesError : Addr
  x_Broken : Addr
  x_Forgotten : Addr
  x_NoFit : Addr
  x_NoKnowing : Addr
  x_NoLog : Addr
  x_NoRow : Addr
  x_NoSheet : Addr
structure Fns (K : PySem.W.Frag) (a : Ad) : Prop where
  p_is_name : Fun K "is_name" "is_name" s_p_is_name a.f_p_is_name a.d_p_is_name
  p_is_moment : Fun K "is_moment" "is_moment" s_p_is_moment a.f_p_is_moment a.d_p_is_moment
  p_is_stretch : Fun K "is_stretch" "is_stretch" s_p_is_stretch a.f_p_is_stretch a.d_p_is_stretch
  p_earlier_end : Fun K "earlier_end" "earlier_end" s_p_earlier_end a.f_p_earlier_end a.d_p_earlier_end
  p_check_name : Fun K "check_name" "check_name" s_p_check_name a.f_p_check_name a.d_p_check_name
  p_check_stretch : Fun K "check_stretch" "check_stretch" s_p_check_stretch a.f_p_check_stretch a.d_p_check_stretch
  p_check_in_reach : Fun K "check_in_reach" "check_in_reach" s_p_check_in_reach a.f_p_check_in_reach a.d_p_check_in_reach
  p_ahead_of : Fun K "ahead_of" "ahead_of" s_p_ahead_of a.f_p_ahead_of a.d_p_ahead_of
  p_with_alike_joined : Fun K "with_alike_joined" "with_alike_joined" s_p_with_alike_joined a.f_p_with_alike_joined a.d_p_with_alike_joined
  p_from_on : Fun K "from_on" "from_on" s_p_from_on a.f_p_from_on a.d_p_from_on
  p_put_on : Fun K "put_on" "put_on" s_p_put_on a.f_p_put_on a.d_p_put_on
  p_check_telling : Fun K "check_telling" "check_telling" s_p_check_telling a.f_p_check_telling a.d_p_check_telling
  p_line_behind : Fun K "line_behind" "line_behind" s_p_line_behind a.f_p_line_behind a.d_p_line_behind
  cell_at : Fun K "_law_cell_at" "_law_cell_at" s_cell_at a.f_cell_at a.d_cell_at
  mix : Fun K "_law_mix" "_law_mix" s_mix a.f_mix a.d_mix
  parts : Fun K "_law_parts" "_law_parts" s_parts a.f_parts a.d_parts
  names : Fun K "_law_names" "_law_names" s_names a.f_names a.d_names
  telling : Fun K "_law_telling" "_law_telling" s_telling a.f_telling a.d_telling
  bad_name : Fun K "_law_bad_name" "_law_bad_name" s_bad_name a.f_bad_name a.d_bad_name
  bad_stretch : Fun K "_law_bad_stretch" "_law_bad_stretch" s_bad_stretch a.f_bad_stretch a.d_bad_stretch
  bad : Fun K "_law_bad" "_law_bad" s_bad a.f_bad a.d_bad
  Sheet_keep_line : Fun K "keep_line" "Sheet.keep_line" s_Sheet_keep_line a.f_Sheet_keep_line a.d_Sheet_keep_line
  Sheet_known_line : Fun K "known_line" "Sheet.known_line" s_Sheet_known_line a.f_Sheet_known_line a.d_Sheet_known_line
  Sheet_tell : Fun K "tell" "Sheet.tell" s_Sheet_tell a.f_Sheet_tell a.d_Sheet_tell
  refused : Fun K "_law_refused" "_law_refused" s_refused a.f_refused a.d_refused
  Sheet_knowings : Fun K "knowings" "Sheet.knowings" s_Sheet_knowings a.f_Sheet_knowings a.d_Sheet_knowings
  Sheet_first : Fun K "first" "Sheet.first" s_Sheet_first a.f_Sheet_first a.d_Sheet_first
  Sheet_check_knowing : Fun K "check_knowing" "Sheet.check_knowing" s_Sheet_check_knowing a.f_Sheet_check_knowing a.d_Sheet_check_knowing
  Sheet_line_at : Fun K "line_at" "Sheet.line_at" s_Sheet_line_at a.f_Sheet_line_at a.d_Sheet_line_at
  look : Fun K "_law_look" "_law_look" s_look a.f_look a.d_look
  Sheet___init__ : Fun K "__init__" "Sheet.__init__" s_Sheet___init__ a.f_Sheet___init__ a.d_Sheet___init__
  law : Fun K "law" "law" s_law a.f_law a.d_law
theorem b_p_is_name {K : PySem.W.Frag} {a : Ad} (F : Fns K a) : Binds K a.d_p_is_name ["thing"] [] := F.p_is_name.binds (ps := ["thing"]) fun _ _ _ _ _ _ => lnS fun _ => ln0 rfl
theorem b_p_is_moment {K : PySem.W.Frag} {a : Ad} (F : Fns K a) : Binds K a.d_p_is_moment ["thing"] [] := F.p_is_moment.binds (ps := ["thing"]) fun _ _ _ _ _ _ => lnS fun _ => ln0 rfl
theorem b_p_is_stretch {K : PySem.W.Frag} {a : Ad} (F : Fns K a) : Binds K a.d_p_is_stretch ["begin", "end"] [] := F.p_is_stretch.binds (ps := ["begin", "end"]) fun _ _ _ _ _ _ => lnS fun _ => lnS fun _ => ln0 rfl
theorem b_p_earlier_end {K : PySem.W.Frag} {a : Ad} (F : Fns K a) : Binds K a.d_p_earlier_end ["end", "other"] [] := F.p_earlier_end.binds (ps := ["end", "other"]) fun _ _ _ _ _ _ => lnS fun _ => lnS fun _ => ln0 rfl
theorem b_p_check_name {K : PySem.W.Frag} {a : Ad} (F : Fns K a) : Binds K a.d_p_check_name ["thing"] [] := F.p_check_name.binds (ps := ["thing"]) fun _ _ _ _ _ _ => lnS fun _ => ln0 rfl
theorem b_p_check_stretch {K : PySem.W.Frag} {a : Ad} (F : Fns K a) : Binds K a.d_p_check_stretch ["begin", "end"] [] := F.p_check_stretch.binds (ps := ["begin", "end"]) fun _ _ _ _ _ _ => lnS fun _ => lnS fun _ => ln0 rfl
theorem b_p_check_in_reach {K : PySem.W.Frag} {a : Ad} (F : Fns K a) : Binds K a.d_p_check_in_reach ["knowing", "last"] [] := F.p_check_in_reach.binds (ps := ["knowing", "last"]) fun _ _ _ _ _ _ => lnS fun _ => lnS fun _ => ln0 rfl
theorem b_p_ahead_of {K : PySem.W.Frag} {a : Ad} (F : Fns K a) : Binds K a.d_p_ahead_of ["line", "moment"] [] := F.p_ahead_of.binds (ps := ["line", "moment"]) fun _ _ _ _ _ _ => lnS fun _ => lnS fun _ => ln0 rfl
theorem b_p_with_alike_joined {K : PySem.W.Frag} {a : Ad} (F : Fns K a) : Binds K a.d_p_with_alike_joined ["pieces"] [] := F.p_with_alike_joined.binds (ps := ["pieces"]) fun _ _ _ _ _ _ => lnS fun _ => ln0 rfl
theorem b_p_from_on {K : PySem.W.Frag} {a : Ad} (F : Fns K a) : Binds K a.d_p_from_on ["line", "moment"] [] := F.p_from_on.binds (ps := ["line", "moment"]) fun _ _ _ _ _ _ => lnS fun _ => lnS fun _ => ln0 rfl
theorem b_p_put_on {K : PySem.W.Frag} {a : Ad} (F : Fns K a) : Binds K a.d_p_put_on ["line", "begin", "end", "worth"] [] := F.p_put_on.binds (ps := ["line", "begin", "end", "worth"]) fun _ _ _ _ _ _ => lnS fun _ => lnS fun _ => lnS fun _ => lnS fun _ => ln0 rfl
theorem b_p_check_telling {K : PySem.W.Frag} {a : Ad} (F : Fns K a) : Binds K a.d_p_check_telling ["telling"] [] := F.p_check_telling.binds (ps := ["telling"]) fun _ _ _ _ _ _ => lnS fun _ => ln0 rfl
theorem b_p_line_behind {K : PySem.W.Frag} {a : Ad} (F : Fns K a) : Binds K a.d_p_line_behind ["line", "telling"] [] := F.p_line_behind.binds (ps := ["line", "telling"]) fun _ _ _ _ _ _ => lnS fun _ => lnS fun _ => ln0 rfl
theorem b_cell_at {K : PySem.W.Frag} {a : Ad} (F : Fns K a) : Binds K a.d_cell_at ["script", "k"] [] := F.cell_at.binds (ps := ["script", "k"]) fun _ _ _ _ _ _ => lnS fun _ => lnS fun _ => ln0 rfl
theorem b_mix {K : PySem.W.Frag} {a : Ad} (F : Fns K a) : Binds K a.d_mix ["cell", "k"] [] := F.mix.binds (ps := ["cell", "k"]) fun _ _ _ _ _ _ => lnS fun _ => lnS fun _ => ln0 rfl
theorem b_parts {K : PySem.W.Frag} {a : Ad} (F : Fns K a) : Binds K a.d_parts ["cell", "way", "bounds"] [] := F.parts.binds (ps := ["cell", "way", "bounds"]) fun _ _ _ _ _ _ => lnS fun _ => lnS fun _ => lnS fun _ => ln0 rfl
theorem b_names {K : PySem.W.Frag} {a : Ad} (F : Fns K a) : Binds K a.d_names ["cell", "way", "many"] [] := F.names.binds (ps := ["cell", "way", "many"]) fun _ _ _ _ _ _ => lnS fun _ => lnS fun _ => lnS fun _ => ln0 rfl
theorem b_telling {K : PySem.W.Frag} {a : Ad} (F : Fns K a) : Binds K a.d_telling ["cell", "way", "keys", "worths"] [] := F.telling.binds (ps := ["cell", "way", "keys", "worths"]) fun _ _ _ _ _ _ => lnS fun _ => lnS fun _ => lnS fun _ => lnS fun _ => ln0 rfl
theorem b_bad_name {K : PySem.W.Frag} {a : Ad} (F : Fns K a) : Binds K a.d_bad_name ["cell", "name"] [] := F.bad_name.binds (ps := ["cell", "name"]) fun _ _ _ _ _ _ => lnS fun _ => lnS fun _ => ln0 rfl
theorem b_bad_stretch {K : PySem.W.Frag} {a : Ad} (F : Fns K a) : Binds K a.d_bad_stretch ["cell", "begin"] [] := F.bad_stretch.binds (ps := ["cell", "begin"]) fun _ _ _ _ _ _ => lnS fun _ => lnS fun _ => ln0 rfl
theorem b_bad {K : PySem.W.Frag} {a : Ad} (F : Fns K a) : Binds K a.d_bad ["cell", "telling"] [] := F.bad.binds (ps := ["cell", "telling"]) fun _ _ _ _ _ _ => lnS fun _ => lnS fun _ => ln0 rfl
theorem b_Sheet_keep_line {K : PySem.W.Frag} {a : Ad} (F : Fns K a) : Binds K a.d_Sheet_keep_line ["self", "key", "line"] [] := F.Sheet_keep_line.binds (ps := ["self", "key", "line"]) fun _ _ _ _ _ _ => lnS fun _ => lnS fun _ => lnS fun _ => ln0 rfl
theorem b_Sheet_known_line {K : PySem.W.Frag} {a : Ad} (F : Fns K a) : Binds K a.d_Sheet_known_line ["self", "key", "knowing"] [] := F.Sheet_known_line.binds (ps := ["self", "key", "knowing"]) fun _ _ _ _ _ _ => lnS fun _ => lnS fun _ => lnS fun _ => ln0 rfl
theorem b_Sheet_tell {K : PySem.W.Frag} {a : Ad} (F : Fns K a) : Binds K a.d_Sheet_tell ["self", "telling"] [] := F.Sheet_tell.binds (ps := ["self", "telling"]) fun _ _ _ _ _ _ => lnS fun _ => lnS fun _ => ln0 rfl
theorem b_refused {K : PySem.W.Frag} {a : Ad} (F : Fns K a) : Binds K a.d_refused ["sheet", "telling", "named"] [] := F.refused.binds (ps := ["sheet", "telling", "named"]) fun _ _ _ _ _ _ => lnS fun _ => lnS fun _ => lnS fun _ => ln0 rfl
theorem b_Sheet_knowings {K : PySem.W.Frag} {a : Ad} (F : Fns K a) : Binds K a.d_Sheet_knowings ["self"] [] := F.Sheet_knowings.binds (ps := ["self"]) fun _ _ _ _ _ _ => lnS fun _ => ln0 rfl
theorem b_Sheet_first {K : PySem.W.Frag} {a : Ad} (F : Fns K a) : Binds K a.d_Sheet_first ["self"] [] := F.Sheet_first.binds (ps := ["self"]) fun _ _ _ _ _ _ => lnS fun _ => ln0 rfl
theorem b_Sheet_check_knowing {K : PySem.W.Frag} {a : Ad} (F : Fns K a) : Binds K a.d_Sheet_check_knowing ["self", "knowing"] [] := F.Sheet_check_knowing.binds (ps := ["self", "knowing"]) fun _ _ _ _ _ _ => lnS fun _ => lnS fun _ => ln0 rfl
theorem b_Sheet_line_at {K : PySem.W.Frag} {a : Ad} (F : Fns K a) : Binds K a.d_Sheet_line_at ["self", "key", "knowing"] [] := F.Sheet_line_at.binds (ps := ["self", "key", "knowing"]) fun _ _ _ _ _ _ => lnS fun _ => lnS fun _ => lnS fun _ => ln0 rfl
theorem b_look {K : PySem.W.Frag} {a : Ad} (F : Fns K a) : Binds K a.d_look ["sheet", "keys"] [] := F.look.binds (ps := ["sheet", "keys"]) fun _ _ _ _ _ _ => lnS fun _ => lnS fun _ => ln0 rfl
theorem b_Sheet___init__ {K : PySem.W.Frag} {a : Ad} (F : Fns K a) : Binds K a.d_Sheet___init__ ["self"] [] := F.Sheet___init__.binds (ps := ["self"]) fun _ _ _ _ _ _ => lnS fun _ => ln0 rfl
structure Txt (K : PySem.W.Frag) (mg : Str → Option Value) (a : Ad) : Prop where
  m_p_is_name : mg "is_name" = some (.ref a.f_p_is_name)
  k_p_is_name : PySem.W.keepIn K (.ref a.f_p_is_name) = true
  m_p_is_moment : mg "is_moment" = some (.ref a.f_p_is_moment)
  k_p_is_moment : PySem.W.keepIn K (.ref a.f_p_is_moment) = true
  m_p_is_stretch : mg "is_stretch" = some (.ref a.f_p_is_stretch)
  k_p_is_stretch : PySem.W.keepIn K (.ref a.f_p_is_stretch) = true
  m_p_earlier_end : mg "earlier_end" = some (.ref a.f_p_earlier_end)
  k_p_earlier_end : PySem.W.keepIn K (.ref a.f_p_earlier_end) = true
  m_p_check_name : mg "check_name" = some (.ref a.f_p_check_name)
  k_p_check_name : PySem.W.keepIn K (.ref a.f_p_check_name) = true
  m_p_check_stretch : mg "check_stretch" = some (.ref a.f_p_check_stretch)
  k_p_check_stretch : PySem.W.keepIn K (.ref a.f_p_check_stretch) = true
  m_p_check_in_reach : mg "check_in_reach" = some (.ref a.f_p_check_in_reach)
  k_p_check_in_reach : PySem.W.keepIn K (.ref a.f_p_check_in_reach) = true
  m_p_ahead_of : mg "ahead_of" = some (.ref a.f_p_ahead_of)
  k_p_ahead_of : PySem.W.keepIn K (.ref a.f_p_ahead_of) = true
  m_p_with_alike_joined : mg "with_alike_joined" = some (.ref a.f_p_with_alike_joined)
  k_p_with_alike_joined : PySem.W.keepIn K (.ref a.f_p_with_alike_joined) = true
  m_p_from_on : mg "from_on" = some (.ref a.f_p_from_on)
  k_p_from_on : PySem.W.keepIn K (.ref a.f_p_from_on) = true
  m_p_put_on : mg "put_on" = some (.ref a.f_p_put_on)
  k_p_put_on : PySem.W.keepIn K (.ref a.f_p_put_on) = true
  m_p_check_telling : mg "check_telling" = some (.ref a.f_p_check_telling)
  k_p_check_telling : PySem.W.keepIn K (.ref a.f_p_check_telling) = true
  m_p_line_behind : mg "line_behind" = some (.ref a.f_p_line_behind)
  k_p_line_behind : PySem.W.keepIn K (.ref a.f_p_line_behind) = true
  m_cell_at : mg "_law_cell_at" = some (.ref a.f_cell_at)
  k_cell_at : PySem.W.keepIn K (.ref a.f_cell_at) = true
  m_mix : mg "_law_mix" = some (.ref a.f_mix)
  k_mix : PySem.W.keepIn K (.ref a.f_mix) = true
  m_parts : mg "_law_parts" = some (.ref a.f_parts)
  k_parts : PySem.W.keepIn K (.ref a.f_parts) = true
  m_names : mg "_law_names" = some (.ref a.f_names)
  k_names : PySem.W.keepIn K (.ref a.f_names) = true
  m_telling : mg "_law_telling" = some (.ref a.f_telling)
  k_telling : PySem.W.keepIn K (.ref a.f_telling) = true
  m_bad_name : mg "_law_bad_name" = some (.ref a.f_bad_name)
  k_bad_name : PySem.W.keepIn K (.ref a.f_bad_name) = true
  m_bad_stretch : mg "_law_bad_stretch" = some (.ref a.f_bad_stretch)
  k_bad_stretch : PySem.W.keepIn K (.ref a.f_bad_stretch) = true
  m_bad : mg "_law_bad" = some (.ref a.f_bad)
  k_bad : PySem.W.keepIn K (.ref a.f_bad) = true
  mt_Sheet_keep_line : Meth K a.c_Sheet "keep_line" a.f_Sheet_keep_line
  k_Sheet_keep_line : PySem.W.keepIn K (.ref a.f_Sheet_keep_line) = true
  mt_Sheet_known_line : Meth K a.c_Sheet "known_line" a.f_Sheet_known_line
  k_Sheet_known_line : PySem.W.keepIn K (.ref a.f_Sheet_known_line) = true
  mt_Sheet_tell : Meth K a.c_Sheet "tell" a.f_Sheet_tell
  k_Sheet_tell : PySem.W.keepIn K (.ref a.f_Sheet_tell) = true
  m_refused : mg "_law_refused" = some (.ref a.f_refused)
  k_refused : PySem.W.keepIn K (.ref a.f_refused) = true
  mt_Sheet_knowings : Meth K a.c_Sheet "knowings" a.f_Sheet_knowings
  k_Sheet_knowings : PySem.W.keepIn K (.ref a.f_Sheet_knowings) = true
  mt_Sheet_first : Meth K a.c_Sheet "first" a.f_Sheet_first
  k_Sheet_first : PySem.W.keepIn K (.ref a.f_Sheet_first) = true
  mt_Sheet_check_knowing : Meth K a.c_Sheet "check_knowing" a.f_Sheet_check_knowing
  k_Sheet_check_knowing : PySem.W.keepIn K (.ref a.f_Sheet_check_knowing) = true
  mt_Sheet_line_at : Meth K a.c_Sheet "line_at" a.f_Sheet_line_at
  k_Sheet_line_at : PySem.W.keepIn K (.ref a.f_Sheet_line_at) = true
  m_look : mg "_law_look" = some (.ref a.f_look)
  k_look : PySem.W.keepIn K (.ref a.f_look) = true
  mt_Sheet___init__ : Meth K a.c_Sheet "__init__" a.f_Sheet___init__
  k_Sheet___init__ : PySem.W.keepIn K (.ref a.f_Sheet___init__) = true
  m_law : mg "law" = some (.ref a.f_law)
  k_law : PySem.W.keepIn K (.ref a.f_law) = true
  b_all : mg "all" = none
  b_isinstance : mg "isinstance" = none
  b_str : mg "str" = none
  b_len : mg "len" = none
  b_bool : mg "bool" = none
  b_int : mg "int" = none
  b_min : mg "min" = none
  b_max : mg "max" = none
  b_range : mg "range" = none
  b_list : mg "list" = none
  b_tuple : mg "tuple" = none
  b_reversed : mg "reversed" = none
  b_ValueError : mg "ValueError" = none
  cl_Sheet : Cls K a.c_Sheet
  mg_Sheet : mg "Sheet" = some (.ref a.c_Sheet)
  mk_Sheet : Mk K a.c_Sheet a.f_Sheet___init__
  na_last : NoAttr K a.c_Sheet "last"
  na_kept : NoAttr K a.c_Sheet "kept"
  x_NoName : mg "NoName" = some (.ref a.x_NoName)
  x_NoStretch : mg "NoStretch" = some (.ref a.x_NoStretch)
  x_TimesError : mg "TimesError" = some (.ref a.x_TimesError)
  x_Broken : mg "Broken" = some (.ref a.x_Broken)
  x_Forgotten : mg "Forgotten" = some (.ref a.x_Forgotten)
  x_NoFit : mg "NoFit" = some (.ref a.x_NoFit)
  x_NoKnowing : mg "NoKnowing" = some (.ref a.x_NoKnowing)
  x_NoLog : mg "NoLog" = some (.ref a.x_NoLog)
  x_NoRow : mg "NoRow" = some (.ref a.x_NoRow)
  x_NoSheet : mg "NoSheet" = some (.ref a.x_NoSheet)
  xi_NoName : PySem.W.excIn K a.x_NoName veM "ValueError.__new__" = true
  xi_NoStretch : PySem.W.excIn K a.x_NoStretch veM "ValueError.__new__" = true
  xm_NoName_TimesError : PySem.W.exmOne K (.ref a.x_NoName) (.ref a.x_TimesError) = some true
  xm_NoStretch_TimesError : PySem.W.exmOne K (.ref a.x_NoStretch) (.ref a.x_TimesError) = some true
  xk_NoName : ExK K a.x_NoName
  xk_NoStretch : ExK K a.x_NoStretch
  kt_NoStretch_NoName : PySem.W.kitOne K (.ref a.x_NoStretch) (.ref a.x_NoName) = some false
  kt_NoName_NoStretch : PySem.W.kitOne K (.ref a.x_NoName) (.ref a.x_NoStretch) = some false
  kt_NoName_ValueError : PySem.W.kitOne K (.ref a.x_NoName) (.type "ValueError") = some true
  kt_NoStretch_ValueError : PySem.W.kitOne K (.ref a.x_NoStretch) (.type "ValueError") = some true
  ka_NoName_0 : PySem.W.kitAny K (.ref a.x_NoName) [.ref a.x_Broken, .ref a.x_Forgotten, .ref a.x_NoFit, .ref a.x_NoKnowing, .ref a.x_NoLog, .ref a.x_NoRow, .ref a.x_NoSheet] = some false
  ka_NoStretch_1 : PySem.W.kitAny K (.ref a.x_NoStretch) [.ref a.x_Broken, .ref a.x_Forgotten, .ref a.x_NoFit, .ref a.x_NoKnowing, .ref a.x_NoLog, .ref a.x_NoRow, .ref a.x_NoSheet] = some false
  c_LONGEST_NAME : ∃ t, mg "LONGEST_NAME" = some (.int 8 t)
  c_LAST_MOMENT : ∃ t, mg "LAST_MOMENT" = some (.int 1000000000000 t)
theorem pe_globI {X : Cx} {x : Str} {i : Int} {pos : Pos} (hg : Gl X x) (hm : ∃ t, X.mg x = some (.int i t)) (hd : (x == ("__debug__" : Str)) = false := by decide) : PE X (.Name x pos) (tC (.int i)) := by
  obtain ⟨t, h⟩ := hm
  exact pe_glob hg h ⟨t, rfl⟩ hd
theorem i_uss {t : A3} {σ : S3} {G : Hq} {R : K3} (h : t σ G fun ws G1 => ∃ (p : Addr) (ns : List Int), ws = [.ref p] ∧ G1 p = some (.lst (ns.map Z.int)) ∧ ns.length ≤ 1000 ∧
    ∀ (t : Addr) (ks : List Int), G1 t = none → ks.Pairwise (· < ·) → (∀ x, x ∈ ks ↔ x ∈ ns) → ks.length ≤ ns.length → R (.ref t) (put G1 t (.lst (ks.map Z.int)))) : uSS t σ G R := h
def sp_law : P3 := fun ws G R => ∃ a ns, ws = [.scr a ns] ∧ ns.length ≤ 63 ∧ ∀ G', R (.bl true) G'
theorem law_start {K : PySem.W.Frag} {H : Hp} {E : XK} (a : Addr) (ns : List Int) (hl : ns.length ≤ 63) (f : Fz K H a (ns.map V.int)) : lowP K sp_law [.ref a] H (fun v _ => v = .bl true) E :=
  ⟨[.scr a ns], fun _ => none, fun w _ => w = .bl true, .cons (by rw [rep_scr]; exact ⟨rfl, f⟩) .nil, fun _ _ e => (nomatch e), ⟨a, ns, rfl, hl, fun _ => rfl⟩, fun w G v H' e r _ _ => by subst e; rw [rep_bl] at r; exact r⟩
theorem lenK {n : Nat} (h : Nat.ble n 1000 = true) : n ≤ sizeLine := Nat.le_of_lt (small1000 (Nat.le_of_ble_eq_true h))
theorem sm1000 {n : Nat} (h : n ≤ 1000) : n ≤ sizeLine := Nat.le_of_lt (small1000 h)
def RowOk (x w : Int) : Prop := w = 0 ∨ (w = 1 ∧ 0 ≤ x ∧ x < 536870909)
abbrev RowO (x w : Int) : O := .lst [.int x, .int w]
def RowAt (G : Hq) (r : Addr) : Prop := ∃ x w, G r = some (RowO x w) ∧ RowOk x w
local macro_rules | `(tactic| walk_at "sd") => `(tactic| first | assumption | (exact sm1000 (by first | decide | omega | (simp; done) | (simp; omega))) | (exact small1000 (by first | decide | omega | (simp; done) | (simp; omega))) | decide | omega)
local macro_rules | `(tactic| walk_at "hp") => `(tactic| first | assumption | exact put_same | (refine put_old ?_ (by assumption); walk_at "hp") | (refine Sm.get (by assumption) ?_; walk_at "hp"))
local macro_rules | `(tactic| walk_at "go1") => `(tactic| with_reducible (first
  | refine i_seq ?_ | refine i_var (by with_unfolding_all rfl) ?_ | refine i_c ?_ | refine i_op ?_ | refine i_un ?_ | refine i_test ?_ | refine i_chain ?_ | refine i_and ?_ | refine i_or ?_ | refine i_not ?_ | refine i_andV ?_ | refine i_orV ?_ | refine i_notV ?_ | refine i_if ?_
  | refine i_tru ?_ | refine i_truI ?_ | refine i_truB ?_ | refine i_sl ?_ | refine i_nopart ?_ | refine i_part ?_ | refine i_nil ?_ | refine i_cons ?_ | refine i_tup ?_ | refine i_lst ?_ | refine i_cb ?_ | refine i_uss ?_ | refine i_bm0 ?_ | refine i_bm ?_ | refine i_call ?_
  | refine i_next ?_ | refine i_drop ?_ | refine i_ret ?_ | refine i_retN ?_ | refine i_ifS ?_ | refine i_asg ?_ | refine i_put ?_ | refine i_aug (by with_unfolding_all rfl) ?_ | refine i_break ?_ | refine i_cont ?_ | refine i_forE ?_ | refine i_lcE ?_ | refine i_iL ?_ | refine i_iT ?_ | refine i_iS ?_ | refine i_iR1 ?_ | refine i_iR2 ?_ | refine i_wkC ?_ | refine i_wkT ?_ | refine i_wkS ?_ | refine i_tt ?_
  | refine i_addI ?_ | refine i_I0 ?_ | refine i_neg ?_ | refine i_CI ?_ | refine i_CS ?_ | refine i_isN ?_ | refine i_isB ?_ | refine i_notN ?_ | refine i_eqB ?_ | refine i_eqI ?_ | refine i_eqS ?_ | refine i_inS ?_ | refine i_dnew ?_ | refine i_nm ?_ | refine i_ixT (by with_unfolding_all rfl) ?_ | refine i_lenT ?_ | refine i_lenC ?_ | refine i_mm ?_ | refine i_tyS ?_
  | refine ifT ?_ | refine ifF ?_ | refine ifNN ?_ | refine ifNI ?_ | refine ifNS ?_ | refine ifNU ?_ | refine ifMN ?_ | refine ifMI ?_ | refine ifMS ?_ | refine ifMU ?_ | refine i_ixT at0 ?_ | refine i_ixT at1 ?_ | refine i_ixT at2 ?_ | refine i_find ?_ | refine i_iRev ?_ | refine i_iR3 ?_ | refine i_iZip ?_ | refine i_fldE ?_ | refine i_methE ?_ | refine i_makeE ?_ | refine i_fset ?_ | refine i_faug ?_ | refine i_disp ?_ | refine i_pcons ?_ | refine i_pnil ?_ | refine ⟨_, rfl, ?_⟩))
local macro_rules | `(tactic| walk_at "go") => `(tactic| repeat walk_at "go1")
def sp_cell_at : P3 := fun ws G R => ∃ p ns k, ws = [.scr p ns, .int k] ∧ 0 ≤ k ∧ ∀ i, R (.int i) G
theorem len_cell_at {ws : List Z} {G : Hq} {R : K3} (h : sp_cell_at ws G R) : ws.length = 2 := by obtain ⟨_, _, _, rfl, _⟩ := h; rfl
theorem ok_cell_at {P : Program} {w : World} {K : PySem.W.Frag} {mg : Str → Option Value} {base : Heap} {a : Ad} (F : Fns K a) (T : Txt K mg a) : FnOk P w K mg base CX0 1 a.f_cell_at a.d_cell_at ["script", "k"] (lowP K sp_cell_at) := by
  refine fn3 F.cell_at sc_cell_at (fun ws G R h => (by exact len_cell_at h)) (fun cdv A outer s H E ws G R hr h => ?_)
  have hu : (A.deeper (PyProof.Rows.envOfC "_law_cell_at" (defScope s_cell_at) s.heap.objs.size a.f_cell_at cdv)).units + 66 < cLine := by have := hr.un; omega
  refine ⟨_, (z_cons (z_if (q_cmpT o_lt (q_var (pv 1)) (q_callB b_len rfl T.b_len PySem.boot_len (q_cons (q_var (pv 0)) q_nil se_Name) (he := se_Name) (hpl := hp_nil)) (nomark _))
    (z_one (z_ret (q_ix x_ix (q_var (pv 0)) (q_var (pv 1)) (fun _ _ => rfl))))
    z_nil)
    (z_one (z_ret q_int))), ?_⟩
  obtain ⟨p, ns, k, rfl, hk, q⟩ := h
  walk_at "go"
  refine ifD (fun c => ?_) fun _ => ?_
  · obtain ⟨j, rfl⟩ := Int.eq_ofNat_of_zero_le hk
    have hj : j < ns.length := by omega
    walk_at "go"
    exact i_ixC (atI_nat (List.getElem?_eq_getElem hj)) (q _)
  · walk_at "go"
    exact q _
theorem RowAt.new {G : Hq} {r p : Addr} {o : O} (h : RowAt G r) (n : G p = none) : RowAt (put G p o) r := by
  obtain ⟨x, w, e, k⟩ := h
  exact ⟨x, w, put_old e n, k⟩
theorem RowAt.at {G : Hq} {r : Addr} {x w : Int} (k : RowOk x w) : RowAt (put G r (RowO x w)) r := ⟨x, w, put_same, k⟩
structure Rw where
  b : Int
  e : Option Int
  w : List Z
@[reducible] def oz : Option Int → Z
  | none => .non
  | some i => .int i
def Rw.z (r : Rw) : Z := .tup (.int r.b :: oz r.e :: r.w)
def bef (t : Int) : Option Int → Bool
  | none => true
  | some e => decide (t < e)
def Rw.has (r : Rw) (t : Int) : Bool := decide (r.b ≤ t) && bef t r.e
def Rw.good (r : Rw) : Prop := bef r.b r.e = true
def val (l : List Rw) (t : Int) : Option (List Z) := (l.find? (·.has t)).map (·.w)
theorem val_nil {t : Int} : val [] t = none := rfl
theorem val_cons {r : Rw} {l : List Rw} {t : Int} : val (r :: l) t = if r.has t = true then some r.w else val l t := by
  unfold val
  rw [List.find?_cons]
  cases h : r.has t <;> simp
theorem val_append {l m : List Rw} {t : Int} : val (l ++ m) t = (val l t).or (val m t) := by
  unfold val
  rw [List.find?_append]
  cases h : l.find? (·.has t) <;> simp
def Lt (r s : Rw) : Prop := ∃ e, r.e = some e ∧ e ≤ s.b
def Lt2 (r s : Rw) : Prop := ∃ e, r.e = some e ∧ e ≤ s.b ∧ (e = s.b → r.w ≠ s.w)
def Rise (l : List Rw) : Prop := (∀ r ∈ l, r.good) ∧ l.Pairwise Lt
def Can (l : List Rw) : Prop := (∀ r ∈ l, r.good) ∧ l.Pairwise Lt2
theorem Lt2.lt {r s : Rw} (h : Lt2 r s) : Lt r s := let ⟨e, a, b, _⟩ := h; ⟨e, a, b⟩
theorem Can.rise {l : List Rw} (h : Can l) : Rise l := ⟨h.1, h.2.imp Lt2.lt⟩
theorem Can.nil : Can [] := ⟨fun _ h => by simp at h, .nil⟩
theorem Rise.nil : Rise [] := Can.nil.rise
theorem Can.tail {r : Rw} {l : List Rw} (h : Can (r :: l)) : Can l := ⟨fun s hs => h.1 s (.tail _ hs), (List.pairwise_cons.mp h.2).2⟩
theorem Rise.tail {r : Rw} {l : List Rw} (h : Rise (r :: l)) : Rise l := ⟨fun s hs => h.1 s (.tail _ hs), (List.pairwise_cons.mp h.2).2⟩
theorem has_b {r : Rw} (h : r.good) : r.has r.b = true := by
  unfold Rw.has
  rw [show bef r.b r.e = true from h]
  simp
theorem Lt.has {r s : Rw} {t : Int} (h : Lt r s) (a : r.has t = true) : s.has t = false := by
  obtain ⟨e, h1, h2⟩ := h
  unfold Rw.has at a ⊢
  rw [h1] at a
  simp only [bef, Bool.and_eq_true, decide_eq_true_eq] at a
  have : decide (s.b ≤ t) = false := decide_eq_false (by omega)
  rw [this, Bool.false_and]
theorem Lt.b {r s : Rw} (g : r.good) (h : Lt r s) : r.b < s.b := by
  obtain ⟨e, h1, h2⟩ := h
  have : bef r.b r.e = true := g
  rw [h1] at this
  simp only [bef, decide_eq_true_eq] at this
  omega
theorem val_none {l : List Rw} {t : Int} (h : ∀ r ∈ l, r.has t = false) : val l t = none := by
  induction l with
  | nil => rfl
  | cons r l ih =>
    rw [val_cons, h r (.head _), if_neg (by decide)]
    exact ih fun s hs => h s (.tail _ hs)
theorem val_some {l : List Rw} {t : Int} {w : List Z} (h : val l t = some w) : ∃ r ∈ l, r.has t = true ∧ r.w = w := by
  induction l with
  | nil => cases h
  | cons r l ih =>
    rw [val_cons] at h
    split at h
    · next e => cases h; exact ⟨r, .head _, e, rfl⟩
    · obtain ⟨s, h1, h2⟩ := ih h; exact ⟨s, .tail _ h1, h2⟩
theorem has_lt {r : Rw} {t : Int} (h : t < r.b) : r.has t = false := by
  unfold Rw.has
  rw [decide_eq_false (by omega), Bool.false_and]
theorem can_b {r s : Rw} {l m : List Rw} (h : Can (r :: l)) (h' : Can (s :: m)) (q : ∀ t, val (r :: l) t = val (s :: m) t) : ¬ r.b < s.b := fun hlt => by
  have h1 := q r.b
  rw [val_cons, has_b (h.1 r (.head _)), if_pos rfl, val_none] at h1
  · cases h1
  · intro x hx
    refine has_lt ?_
    rcases List.mem_cons.mp hx with rfl | hx
    · exact hlt
    · have := (((List.pairwise_cons.mp h'.2).1 x hx).lt).b (h'.1 s (.head _))
      omega
theorem can_e {r s : Rw} {l m : List Rw} (h : Can (r :: l)) (hb : r.b = s.b) (hw : r.w = s.w) (q : ∀ t, val (r :: l) t = val (s :: m) t) {e : Int} (he : r.e = some e) : bef e s.e = false := by
  cases hc : bef e s.e with
  | false => rfl
  | true =>
    exfalso
    have h0 : bef r.b r.e = true := h.1 r (.head _)
    rw [he] at h0
    simp only [bef, decide_eq_true_eq] at h0
    have h1 := q e
    have hs : s.has e = true := by unfold Rw.has; rw [hc, decide_eq_true (show s.b ≤ e by omega)]; rfl
    have hr : r.has e = false := by unfold Rw.has; rw [he]; simp [bef]
    rw [val_cons, val_cons, hs, hr, if_pos rfl, if_neg (by decide)] at h1
    obtain ⟨x, hx, hx1, hx2⟩ := val_some h1
    obtain ⟨e', a1, a2, a3⟩ := (List.pairwise_cons.mp h.2).1 x hx
    rw [he] at a1
    cases a1
    have hxb : x.b ≤ e := by unfold Rw.has at hx1; simp only [Bool.and_eq_true, decide_eq_true_eq] at hx1; exact hx1.1
    exact a3 (by omega) (by rw [hw, hx2])
theorem can_eq : ∀ {l m : List Rw}, Can l → Can m → (∀ t, val l t = val m t) → l = m
  | [], [], _, _, _ => rfl
  | [], s :: m, _, h', q => by
    have := q s.b
    rw [val_nil, val_cons, has_b (h'.1 s (.head _)), if_pos rfl] at this
    cases this
  | r :: l, [], h, _, q => by
    have := q r.b
    rw [val_nil, val_cons, has_b (h.1 r (.head _)), if_pos rfl] at this
    cases this
  | r :: l, s :: m, h, h', q => by
    have hb : r.b = s.b := by
      have h1 := can_b h h' q
      have h2 := can_b h' h fun t => (q t).symm
      omega
    have hw : r.w = s.w := by
      have h1 := q r.b
      have h2 : s.has r.b = true := by rw [hb]; exact has_b (h'.1 s (.head _))
      rw [val_cons, val_cons, has_b (h.1 r (.head _)), h2, if_pos rfl, if_pos rfl] at h1
      exact Option.some.inj h1
    have he : r.e = s.e := by
      cases e1 : r.e with
      | none =>
        cases e2 : s.e with
        | none => rfl
        | some e =>
          have := can_e h' hb.symm hw.symm (fun t => (q t).symm) e2
          rw [e1] at this
          cases this
      | some e =>
        have := can_e h hb hw q e1
        cases e2 : s.e with
        | none => rw [e2] at this; cases this
        | some e' =>
          have h3 := can_e h' hb.symm hw.symm (fun t => (q t).symm) e2
          rw [e1] at h3
          rw [e2] at this
          simp only [bef, decide_eq_false_iff_not] at this h3
          congr 1
          omega
    have hrs : r = s := by
      obtain ⟨_, _, _⟩ := r
      obtain ⟨_, _, _⟩ := s
      simp only at hb hw he
      rw [hb, hw, he]
    subst hrs
    congr 1
    refine can_eq h.tail h'.tail fun t => ?_
    cases ht : r.has t with
    | true =>
      rw [val_none fun x hx => ((List.pairwise_cons.mp h.2).1 x hx).lt.has ht, val_none fun x hx => ((List.pairwise_cons.mp h'.2).1 x hx).lt.has ht]
    | false =>
      have := q t
      rw [val_cons, val_cons, ht, if_neg (by decide), if_neg (by decide)] at this
      exact this
def jn (told : List Rw) (p : Rw) : List Rw := match told.getLast? with
  | some l => if l.e = some p.b ∧ l.w = p.w then told.dropLast ++ [⟨l.b, p.e, p.w⟩] else told ++ [p]
  | none => told ++ [p]
def join (ps : List Rw) : List Rw := ps.foldl jn []
theorem getLast_split {α : Type} {l : List α} {x : α} (h : l.getLast? = some x) : l = l.dropLast ++ [x] := by
  obtain ⟨ys, rfl⟩ := List.getLast?_eq_some_iff.mp h
  simp
theorem jn_ok {told : List Rw} {p : Rw} (h : Can told) (g : p.good) (hlt : ∀ r ∈ told, Lt r p) : Can (jn told p) ∧ (∀ t, val (jn told p) t = (val told t).or (val [p] t)) ∧ (∀ x, (∀ r ∈ told, Lt r x) → Lt p x → ∀ r ∈ jn told p, Lt r x) ∧ (jn told p).length ≤ told.length + 1 ∧ ∀ r ∈ jn told p, r.w = p.w ∨ ∃ r' ∈ told, r.w = r'.w := by
  unfold jn
  cases hl : told.getLast? with
  | none =>
    have : told = [] := List.getLast?_eq_none_iff.mp hl
    subst this
    exact ⟨⟨fun r hr => by simp at hr; rw [hr]; exact g, by simp⟩, fun t => by simp [val_nil], fun x _ hp r hr => by simp at hr; rw [hr]; exact hp, by simp, fun r hr => by simp at hr; rw [hr]; exact .inl rfl⟩
  | some l =>
    have hs := getLast_split hl
    generalize told.dropLast = init at hs
    subst hs
    have hlm : l ∈ init ++ [l] := by simp
    have pw := List.pairwise_append.mp h.2
    dsimp only
    split
    · next hc =>
      obtain ⟨h1, h2⟩ := hc
      have gl : l.b < p.b := by
        have : bef l.b l.e = true := h.1 l hlm
        rw [h1] at this
        simpa [bef] using this
      have gn : (⟨l.b, p.e, p.w⟩ : Rw).good := by
        show bef l.b p.e = true
        have : bef p.b p.e = true := g
        cases hpe : p.e with
        | none => rfl
        | some e =>
          rw [hpe] at this
          simp only [bef, decide_eq_true_eq] at this ⊢
          omega
      refine ⟨⟨fun r hr => ?_, ?_⟩, fun t => ?_, fun x hx hp r hr => ?_, by simp, fun r hr => ?_⟩
      · rcases List.mem_append.mp hr with hr | hr
        · exact h.1 r (by simp [hr])
        · rw [List.mem_singleton.mp hr]; exact gn
      · refine List.pairwise_append.mpr ⟨pw.1, by simp, fun r hr s hs => ?_⟩
        rw [List.mem_singleton.mp hs]
        obtain ⟨e, a1, a2, a3⟩ := pw.2.2 r hr l (by simp)
        exact ⟨e, a1, a2, fun z => by rw [← h2]; exact a3 z⟩
      · rw [val_append, val_append]
        cases val init t with
        | some w => rfl
        | none =>
          have e1 : (⟨l.b, p.e, p.w⟩ : Rw).has t = (l.has t || p.has t) := by
            unfold Rw.has
            rw [h1]
            have : bef p.b p.e = true := g
            cases hpe : p.e with
            | none =>
              simp only [bef, Bool.and_true]
              by_cases c1 : l.b ≤ t <;> by_cases c2 : t < p.b <;> by_cases c3 : p.b ≤ t <;> simp [c1, c2, c3] <;> omega
            | some e =>
              rw [hpe] at this
              simp only [bef, decide_eq_true_eq] at this ⊢
              by_cases c1 : l.b ≤ t <;> by_cases c2 : t < p.b <;> by_cases c3 : p.b ≤ t <;> by_cases c4 : t < e <;> simp [c1, c2, c3, c4] <;> omega
          simp only [val_cons, val_nil, e1, h2, Option.none_or]
          cases l.has t <;> cases p.has t <;> simp
      · rcases List.mem_append.mp hr with hr | hr
        · exact hx r (by simp [hr])
        · rw [List.mem_singleton.mp hr]
          obtain ⟨e, a1, a2⟩ := hp
          exact ⟨e, a1, a2⟩
      · rcases List.mem_append.mp hr with hr | hr
        · exact .inr ⟨r, by simp [hr], rfl⟩
        · rw [List.mem_singleton.mp hr]; exact .inl rfl
    · next hc =>
      refine ⟨⟨fun r hr => ?_, ?_⟩, fun t => val_append, fun x hx hp r hr => ?_, by simp, fun r hr => ?_⟩
      · rcases List.mem_append.mp hr with hr | hr
        · exact h.1 r hr
        · rw [List.mem_singleton.mp hr]; exact g
      · refine List.pairwise_append.mpr ⟨h.2, by simp, fun r hr s hs => ?_⟩
        rw [List.mem_singleton.mp hs]
        obtain ⟨e, a1, a2⟩ := hlt r hr
        refine ⟨e, a1, a2, fun z hw => ?_⟩
        rcases List.mem_append.mp hr with hr' | hr'
        · obtain ⟨e', b1, b2, _⟩ := pw.2.2 r hr' l (by simp)
          rw [a1] at b1
          cases b1
          have := (hlt l hlm).b (h.1 l hlm)
          omega
        · rw [List.mem_singleton.mp hr'] at a1 hw
          exact hc ⟨by rw [a1, z], hw⟩
      · rcases List.mem_append.mp hr with hr | hr
        · exact hx r hr
        · rw [List.mem_singleton.mp hr]; exact hp
      · rcases List.mem_append.mp hr with hr | hr
        · exact .inr ⟨r, hr, rfl⟩
        · rw [List.mem_singleton.mp hr]; exact .inl rfl
theorem fold_ok : ∀ (ps told : List Rw), Can told → Rise ps → (∀ r ∈ told, ∀ p ∈ ps, Lt r p) → Can (ps.foldl jn told) ∧ (∀ t, val (ps.foldl jn told) t = (val told t).or (val ps t)) ∧ (ps.foldl jn told).length ≤ told.length + ps.length ∧ ∀ r ∈ ps.foldl jn told, ∃ r' ∈ told ++ ps, r.w = r'.w
  | [], told, h, _, _ => ⟨h, fun t => by simp [val_nil], by simp, fun r hr => ⟨r, by simpa using hr, rfl⟩⟩
  | p :: ps, told, h, hr, hlt => by
    have pc := List.pairwise_cons.mp hr.2
    have a := jn_ok h (hr.1 p (.head _)) fun r q => hlt r q p (.head _)
    have b := fold_ok ps (jn told p) a.1 hr.tail fun r q x hx => a.2.2.1 x (fun r' q' => hlt r' q' x (.tail _ hx)) (pc.1 x hx) r q
    refine ⟨b.1, fun t => ?_, ?_, fun r hr' => ?_⟩
    · show val (ps.foldl jn (jn told p)) t = _
      rw [b.2.1 t, a.2.1 t, show p :: ps = [p] ++ ps from rfl, val_append, Option.or_assoc]
    · have h1 := b.2.2.1
      have h2 := a.2.2.2.1
      show (ps.foldl jn (jn told p)).length ≤ _
      rw [List.length_cons]
      omega
    · obtain ⟨r', hr1, hr2⟩ := b.2.2.2 r hr'
      rcases List.mem_append.mp hr1 with hr1 | hr1
      · rcases a.2.2.2.2 r' hr1 with e | ⟨r2, e1, e2⟩
        · exact ⟨p, by simp, hr2.trans e⟩
        · exact ⟨r2, by simp [e1], hr2.trans e2⟩
      · exact ⟨r', by simp [hr1], hr2⟩
theorem join_ok {ps : List Rw} (h : Rise ps) : Can (join ps) ∧ (∀ t, val (join ps) t = val ps t) ∧ (join ps).length ≤ ps.length ∧ ∀ r ∈ join ps, ∃ r' ∈ ps, r.w = r'.w := by
  have := fold_ok ps [] .nil h fun r hr => by simp at hr
  unfold join
  exact ⟨this.1, fun t => by rw [this.2.1 t]; rfl, by simpa using this.2.2.1, by simpa using this.2.2.2⟩
def emin : Option Int → Option Int → Option Int
  | none, o => o
  | some e, none => some e
  | some e, some o => some (if o < e then o else e)
def aheadR (m : Option Int) (r : Rw) : Option Rw := if bef r.b m = true then some ⟨r.b, emin r.e m, r.w⟩ else none
def ahead (m : Option Int) (l : List Rw) : List Rw := l.filterMap (aheadR m)
def fromR (m : Int) (r : Rw) : Option Rw := if bef m r.e = true then some ⟨if m > r.b then m else r.b, r.e, r.w⟩ else none
def fromOn (m : Int) (l : List Rw) : List Rw := l.filterMap (fromR m)
theorem val_fm {f : Rw → Option Rw} {t : Int} {c : Bool} (h1 : ∀ r r', f r = some r' → r'.has t = (r.has t && c) ∧ r'.w = r.w) (h2 : ∀ r, f r = none → (r.has t && c) = false) : ∀ l : List Rw, val (l.filterMap f) t = if c = true then val l t else none
  | [] => by simp [val_nil]
  | r :: l => by
    have ih := val_fm h1 h2 l
    rw [List.filterMap_cons]
    cases hf : f r with
    | none =>
      have := h2 r hf
      rw [ih, val_cons]
      cases c with
      | true => rw [Bool.and_true] at this; rw [this]; rfl
      | false => rfl
    | some r' =>
      obtain ⟨a1, a2⟩ := h1 r r' hf
      rw [val_cons, ih, a1, a2, val_cons]
      cases c <;> cases r.has t <;> rfl
theorem bef_emin {t : Int} {x y : Option Int} : bef t (emin x y) = (bef t x && bef t y) := by
  cases x with
  | none => cases y <;> simp [bef, emin]
  | some a =>
    cases y with
    | none => simp [bef, emin]
    | some b =>
      simp only [bef, emin]
      rw [← Bool.decide_and]
      apply decide_congr
      rw [eq_iff_iff]
      split <;> omega
theorem val_ahead (m : Option Int) (l : List Rw) (t : Int) : val (ahead m l) t = if bef t m = true then val l t else none := by
  refine val_fm (fun r r' h => ?_) (fun r h => ?_) l
  · unfold aheadR at h
    split at h
    · cases h
      refine ⟨?_, rfl⟩
      unfold Rw.has
      simp only [bef_emin, Bool.and_assoc]
    · cases h
  · unfold aheadR at h
    split at h
    · cases h
    · next hc =>
      unfold Rw.has
      cases m with
      | none => exact absurd rfl hc
      | some m =>
        simp only [bef, decide_eq_true_eq] at hc ⊢
        by_cases c1 : r.b ≤ t
        · rw [decide_eq_false (show ¬ t < m by omega), Bool.and_false]
        · rw [decide_eq_false c1]; rfl
theorem val_from (m : Int) (l : List Rw) (t : Int) : val (fromOn m l) t = if m ≤ t then val l t else none := by
  have : (if m ≤ t then val l t else none) = if decide (m ≤ t) = true then val l t else none := by simp
  rw [this]
  refine val_fm (fun r r' h => ?_) (fun r h => ?_) l
  · unfold fromR at h
    split at h
    · cases h
      refine ⟨?_, rfl⟩
      unfold Rw.has
      simp only
      have : decide ((if m > r.b then m else r.b) ≤ t) = (decide (r.b ≤ t) && decide (m ≤ t)) := by
        rw [← Bool.decide_and]
        apply decide_congr
        rw [eq_iff_iff]
        split <;> omega
      rw [this]
      cases decide (r.b ≤ t) <;> cases decide (m ≤ t) <;> simp
    · cases h
  · unfold fromR at h
    split at h
    · cases h
    · next hc =>
      unfold Rw.has
      cases he : r.e with
      | none => rw [he] at hc; exact absurd rfl hc
      | some e =>
        rw [he] at hc
        simp only [bef, decide_eq_true_eq] at hc ⊢
        by_cases c1 : m ≤ t
        · rw [decide_eq_false (show ¬ t < e by omega), Bool.and_false]; rfl
        · rw [decide_eq_false c1, Bool.and_false]
theorem mem_ahead {m : Option Int} {l : List Rw} {x : Rw} (h : x ∈ ahead m l) : ∃ r ∈ l, bef r.b m = true ∧ x = ⟨r.b, emin r.e m, r.w⟩ := by
  obtain ⟨r, h1, h2⟩ := List.mem_filterMap.mp h
  unfold aheadR at h2
  split at h2
  · next c => cases h2; exact ⟨r, h1, c, rfl⟩
  · cases h2
theorem mem_from {m : Int} {l : List Rw} {x : Rw} (h : x ∈ fromOn m l) : ∃ r ∈ l, bef m r.e = true ∧ x = ⟨if m > r.b then m else r.b, r.e, r.w⟩ := by
  obtain ⟨r, h1, h2⟩ := List.mem_filterMap.mp h
  unfold fromR at h2
  split at h2
  · next c => cases h2; exact ⟨r, h1, c, rfl⟩
  · cases h2
theorem pw_fm {R : Rw → Rw → Prop} {f : Rw → Option Rw} (hf : ∀ r s r' s', R r s → f r = some r' → f s = some s' → R r' s') : ∀ {l : List Rw}, l.Pairwise R → (l.filterMap f).Pairwise R
  | [], _ => by simp
  | r :: l, h => by
    have pc := List.pairwise_cons.mp h
    have ih := pw_fm hf pc.2
    rw [List.filterMap_cons]
    cases e : f r with
    | none => exact ih
    | some r' =>
      refine List.pairwise_cons.mpr ⟨fun s hs => ?_, ih⟩
      obtain ⟨s0, h1, h2⟩ := List.mem_filterMap.mp hs
      exact hf r s0 r' s (pc.1 s0 h1) e h2
theorem emin_le {x : Int} {m : Option Int} : ∃ e, emin (some x) m = some e ∧ e ≤ x := by
  cases m with
  | none => exact ⟨x, rfl, Int.le_refl _⟩
  | some o =>
    refine ⟨_, rfl, ?_⟩
    split <;> omega
theorem rise_ahead (m : Option Int) {l : List Rw} (h : Rise l) : Rise (ahead m l) := by
  refine ⟨fun x hx => ?_, pw_fm (fun r s r' s' hlt hr hs => ?_) h.2⟩
  · obtain ⟨r, h1, h2, rfl⟩ := mem_ahead hx
    show bef r.b (emin r.e m) = true
    rw [bef_emin, h2, Bool.and_true]
    exact h.1 r h1
  · unfold aheadR at hr hs
    split at hr
    · split at hs
      · cases hr
        cases hs
        obtain ⟨e, a1, a2⟩ := hlt
        obtain ⟨e', b1, b2⟩ := @emin_le e m
        exact ⟨e', by rw [← b1, ← a1], by show e' ≤ s.b; omega⟩
      · cases hs
    · cases hr
theorem rise_from (m : Int) {l : List Rw} (h : Rise l) : Rise (fromOn m l) := by
  refine ⟨fun x hx => ?_, pw_fm (fun r s r' s' hlt hr hs => ?_) h.2⟩
  · obtain ⟨r, h1, h2, rfl⟩ := mem_from hx
    show bef (if m > r.b then m else r.b) r.e = true
    split
    · exact h2
    · exact h.1 r h1
  · unfold fromR at hr hs
    split at hr
    · split at hs
      · cases hr
        cases hs
        obtain ⟨e, a1, a2⟩ := hlt
        exact ⟨e, a1, by show e ≤ (if m > s.b then m else s.b); split <;> omega⟩
      · cases hs
    · cases hr
theorem len_ahead (m : Option Int) (l : List Rw) : (ahead m l).length ≤ l.length := List.length_filterMap_le _ _
theorem len_from (m : Int) (l : List Rw) : (fromOn m l).length ≤ l.length := List.length_filterMap_le _ _
theorem len_both {b e : Int} (hbe : b ≤ e) : ∀ {l : List Rw}, Rise l → (ahead (some b) l).length + (fromOn e l).length ≤ l.length + 1
  | [], _ => by simp [ahead, fromOn]
  | r :: l, h => by
    have ih := len_both hbe h.tail
    have pc := (List.pairwise_cons.mp h.2).1
    have la : (ahead (some b) (r :: l)).length = (if bef r.b (some b) = true then 1 else 0) + (ahead (some b) l).length := by
      unfold ahead
      rw [List.filterMap_cons]
      unfold aheadR
      split
      · next q => split at q
                  · cases q
                  · next hc => rw [if_neg hc]; simp
      · next q => split at q
                  · next hc => rw [if_pos hc, List.length_cons]; omega
                  · cases q
    have lf : (fromOn e (r :: l)).length = (if bef e r.e = true then 1 else 0) + (fromOn e l).length := by
      unfold fromOn
      rw [List.filterMap_cons]
      unfold fromR
      split
      · next q => split at q
                  · cases q
                  · next hc => rw [if_neg hc]; simp
      · next q => split at q
                  · next hc => rw [if_pos hc, List.length_cons]; omega
                  · cases q
    rw [la, lf, List.length_cons]
    by_cases c1 : bef r.b (some b) = true
    · by_cases c2 : bef e r.e = true
      · have : ahead (some b) l = [] := by
          unfold ahead
          rw [List.filterMap_eq_nil_iff]
          intro s hs
          unfold aheadR
          obtain ⟨e', a1, a2⟩ := pc s hs
          rw [a1] at c2
          simp only [bef, decide_eq_true_eq] at c1 c2 ⊢
          rw [if_neg (by omega)]
        have := len_from e l
        rw [if_pos c1, if_pos c2]
        simp_all
        omega
      · rw [if_pos c1, if_neg c2]; omega
    · rw [if_neg c1]; split <;> omega
def pieces (l : List Rw) (b : Int) (e : Option Int) (w : Option (List Z)) : List Rw :=
  ahead (some b) l ++ (match w with | some w => [⟨b, e, w⟩] | none => []) ++ (match e with | some e => fromOn e l | none => [])
theorem pieces_ok {l : List Rw} {b : Int} {e : Option Int} {w : Option (List Z)} (h : Rise l) (g : bef b e = true) : Rise (pieces l b e w) ∧ (∀ t, val (pieces l b e w) t = if (decide (b ≤ t) && bef t e) = true then w else val l t) ∧ (pieces l b e w).length ≤ l.length + 2 := by
  have hA := rise_ahead (some b) h
  have eA : ∀ r ∈ ahead (some b) l, ∃ x, r.e = some x ∧ x ≤ b := fun r hr => by
    obtain ⟨r0, _, _, rfl⟩ := mem_ahead hr
    show ∃ x, emin r0.e (some b) = some x ∧ x ≤ b
    cases r0.e with
    | none => exact ⟨b, rfl, Int.le_refl _⟩
    | some x => refine ⟨_, rfl, ?_⟩; split <;> omega
  have hM : Rise (match w with | some w => [(⟨b, e, w⟩ : Rw)] | none => []) := by
    cases w with
    | none => exact .nil
    | some w => exact ⟨fun r hr => by rw [List.mem_singleton.mp hr]; exact g, by simp⟩
  have mM : ∀ r ∈ (match w with | some w => [(⟨b, e, w⟩ : Rw)] | none => []), r.b = b ∧ r.e = e := fun r hr => by
    cases w with
    | none => simp at hr
    | some w => rw [List.mem_singleton.mp hr]; exact ⟨rfl, rfl⟩
  have vM : ∀ t, val (match w with | some w => [(⟨b, e, w⟩ : Rw)] | none => []) t = if (decide (b ≤ t) && bef t e) = true then w else none := fun t => by
    cases w with
    | none => simp [val_nil]
    | some w => rw [val_cons, val_nil]; rfl
  have app : ∀ {A B : List Rw}, Rise A → Rise B → (∀ r ∈ A, ∀ s ∈ B, Lt r s) → Rise (A ++ B) := fun ha hb hab => ⟨fun r hr => (List.mem_append.mp hr).elim (ha.1 r) (hb.1 r), List.pairwise_append.mpr ⟨ha.2, hb.2, hab⟩⟩
  unfold pieces
  cases e with
  | none =>
    dsimp only
    rw [List.append_nil]
    refine ⟨app hA hM fun r hr s hs => ?_, fun t => ?_, ?_⟩
    · obtain ⟨x, a1, a2⟩ := eA r hr
      exact ⟨x, a1, by rw [(mM s hs).1]; exact a2⟩
    · rw [val_append, val_ahead, vM]
      simp only [bef, Bool.and_true, decide_eq_true_eq]
      by_cases c : b ≤ t
      · rw [if_neg (by omega), if_pos c, if_pos c]; rfl
      · rw [if_pos (by omega), if_neg c, if_neg c]; simp
    · rw [List.length_append]
      have := len_ahead (some b) l
      cases w <;> simp <;> omega
  | some e =>
    have hbe : b < e := by simpa [bef] using g
    have hF := rise_from e h
    have bF : ∀ s ∈ fromOn e l, e ≤ s.b := fun s hs => by
      obtain ⟨r0, _, _, rfl⟩ := mem_from hs
      show e ≤ (if e > r0.b then e else r0.b)
      split <;> omega
    dsimp only
    refine ⟨app (app hA hM fun r hr s hs => ?_) hF fun r hr s hs => ?_, fun t => ?_, ?_⟩
    · obtain ⟨x, a1, a2⟩ := eA r hr
      exact ⟨x, a1, by rw [(mM s hs).1]; exact a2⟩
    · have hs' := bF s hs
      rcases List.mem_append.mp hr with hr | hr
      · obtain ⟨x, a1, a2⟩ := eA r hr
        exact ⟨x, a1, by omega⟩
      · exact ⟨e, (mM r hr).2, hs'⟩
    · rw [val_append, val_append, val_ahead, vM, val_from]
      simp only [bef, Bool.and_eq_true, decide_eq_true_eq]
      by_cases c1 : b ≤ t
      · by_cases c2 : t < e
        · rw [if_neg (by omega), if_pos ⟨c1, c2⟩, if_neg (by omega), if_pos ⟨c1, c2⟩]; simp
        · rw [if_neg (by omega), if_neg (by omega), if_pos (by omega), if_neg (by omega)]; rfl
      · rw [if_pos (by omega), if_neg (by omega), if_neg (by omega), if_neg (by omega)]; simp
    · rw [List.length_append, List.length_append]
      have := len_both (b := b) (e := e) (by omega) h
      cases w <;> simp <;> omega
def lastAt (puts : List Rw) (t : Int) : Z := match puts.reverse.find? (·.has t) with
  | some r => r.w.headD .non
  | none => .non
def optW (z : Z) : Option (List Z) := if z = .non then none else some [z]
theorem lastAt_snoc (puts : List Rw) (p : Rw) (t : Int) : lastAt (puts ++ [p]) t = if p.has t = true then p.w.headD .non else lastAt puts t := by
  unfold lastAt
  rw [List.reverse_append, List.reverse_cons, List.reverse_nil, List.nil_append, List.singleton_append, List.find?_cons]
  cases p.has t <;> rfl
def putOn (l : List Rw) (b : Int) (e : Option Int) (w : Option (List Z)) : List Rw := join (pieces l b e w)
theorem putOn_ok {l : List Rw} {b : Int} {e : Option Int} {w : Option (List Z)} (h : Rise l) (g : bef b e = true) : Can (putOn l b e w) ∧ (∀ t, val (putOn l b e w) t = if (decide (b ≤ t) && bef t e) = true then w else val l t) ∧ (putOn l b e w).length ≤ l.length + 2 := by
  have a := pieces_ok (w := w) h g
  have j := join_ok a.1
  exact ⟨j.1, fun t => by rw [← a.2.1 t]; exact j.2.1 t, Nat.le_trans j.2.2.1 a.2.2⟩
def okW (w : List Z) : Prop := w ≠ [] ∧ w.length ≤ 4 ∧ w.all (flat 4) = true
def OkR (l : List Rw) : Prop := ∀ r ∈ l, okW r.w
theorem flat_mono : ∀ {n m : Nat} {z : Z}, n ≤ m → flat n z = true → flat m z = true := by
  intro n
  induction n with
  | zero => intro m z _ h; cases z <;> first | (simp [flat] at h; done) | (cases m <;> simp_all [flat])
  | succ n ih =>
    intro m z hm h
    cases m with
    | zero => omega
    | succ m =>
      cases z with
      | tup ws =>
        simp only [flat, List.all_eq_true] at h ⊢
        exact fun x hx => ih (by omega) (h x hx)
      | _ => first | (simp [flat]; done) | (simp [flat] at h; done) | (simp only [flat] at h ⊢; exact h)
theorem all_mono {n m : Nat} {ws : List Z} (hm : n ≤ m) (h : ws.all (flat n) = true) : ws.all (flat m) = true := by
  rw [List.all_eq_true] at h ⊢
  exact fun x hx => flat_mono hm (h x hx)
theorem flat_int {n : Nat} {i : Int} : flat n (.int i) = true := by cases n <;> rfl
theorem flat_non {n : Nat} : flat n .non = true := by cases n <;> rfl
theorem i_eqOI {G : Hq} {R : K3} {e : Option Int} {b : Int} (h : R (.bl (decide (e = some b))) G) : zEq id (oz e) (.int b) G R := by
  cases e with
  | none =>
    refine (show flat 8 (Z.non) = true ∧ flat 8 (Z.int b) = true ∧ R (.bl (id (decide (Z.non = Z.int b)))) G from ⟨flat_non, flat_int, ?_⟩)
    have : decide (Z.non = Z.int b) = decide (none = some b) := by simp
    rw [this]; exact h
  | some e =>
    refine i_eqI ?_
    have : decide (e = b) = decide (some e = some b) := decide_congr (by simp)
    rw [this]; exact h
theorem i_eqT {f : Bool → Bool} {G : Hq} {R : K3} {xs ys : List Z} (h1 : flat 8 (.tup xs) = true) (h2 : flat 8 (.tup ys) = true) (h : R (.bl (f (decide (xs = ys)))) G) : zEq f (.tup xs) (.tup ys) G R := by
  refine (show flat 8 (.tup xs) = true ∧ flat 8 (.tup ys) = true ∧ R (.bl (f (decide (Z.tup xs = Z.tup ys)))) G from ⟨h1, h2, ?_⟩)
  rw [decide_congr (Z.tup.injEq _ _)]; exact h
def sp_p_earlier_end : P3 := fun ws G R => ∃ x y, ws = [oz x, oz y] ∧ R (oz (emin x y)) G
theorem len_p_earlier_end {ws : List Z} {G : Hq} {R : K3} (h : sp_p_earlier_end ws G R) : ws.length = 2 := by obtain ⟨_, _, rfl, _⟩ := h; rfl
theorem ok_p_earlier_end {P : Program} {w : World} {K : PySem.W.Frag} {mg : Str → Option Value} {base : Heap} {a : Ad} (F : Fns K a) (T : Txt K mg a) : FnOk P w K mg base CX0 1 a.f_p_earlier_end a.d_p_earlier_end ["end", "other"] (lowP K sp_p_earlier_end) := by
  refine fn3 F.p_earlier_end sc_p_earlier_end (fun ws G R h => (by exact len_p_earlier_end h)) (fun cdv A outer s H E ws G R hr h => ?_)
  have hu : (A.deeper (PyProof.Rows.envOfC "earlier_end" (defScope s_p_earlier_end) s.heap.objs.size a.f_p_earlier_end cdv)).units + 66 < cLine := by have := hr.un; omega
  refine ⟨_, (z_cons (z_if (q_cmpT o_is (q_var (pv 0)) q_non (nomark _))
    (z_one (z_ret (q_var (pv 1))))
    z_nil)
    (z_cons (z_if (q_cmpT o_is (q_var (pv 1)) q_non (nomark _))
    (z_one (z_ret (q_var (pv 0))))
    z_nil)
    (z_one (z_ret (q_callB (b_min rfl) rfl T.b_min rfl (q_cons (q_var (pv 0)) (q_cons (q_var (pv 1)) q_nil se_Name) se_Name) (he := se_Name) (hpl := (hp_cons se_Name hp_nil))))))), ?_⟩
  obtain ⟨x, y, rfl, q⟩ := h
  cases x with
  | none =>
    walk_at "go"
    cases y <;> exact q
  | some x =>
    cases y with
    | none =>
      walk_at "go"
      exact q
    | some y =>
      walk_at "go"
      exact q
theorem lc_rows {α β : Type} {l : List α} {g : α → Z} {g' : β → Z} {ok : Hq → Prop} {cap : List (Option Nat)} {pt : Pt} {tt : T3} {te : E3} {σ : S3} {R : K3} {D : Addr} {G1 : Hq} (f : α → Option β) (hok : ∀ ys, ok (put G1 D (.lst ys))) (hz : l.length ≤ 1000)
    (turn : ∀ x, x ∈ l → ∀ (ys : List Z) (K1 : K3) (K2 : Hq → Prop), (∀ y, f x = some y → K1 (g' y) (put G1 D (.lst ys))) → (f x = none → K2 (put G1 D (.lst ys))) → ∃ σ', bindZ pt (g x) (cap3 cap σ) = some σ' ∧ tt σ' (put G1 D (.lst ys)) fun b G4 => if b = true then te σ' G4 K1 else K2 G4)
    (fin : R (.ref D) (put G1 D (.lst ((l.filterMap f).map g')))) : LCB (l.map g) ok cap pt tt te σ R D G1 := by
  refine lc_by (fun i ys G => ys = ((l.take i).filterMap f).map g' ∧ G = put G1 D (.lst ys)) ⟨by simp, rfl⟩ ?_ ?_ ?_
  · rintro i ys G _ ⟨_, rfl⟩; exact hok ys
  · rintro i x ys G hx ⟨e, rfl⟩
    rw [List.getElem?_map] at hx
    cases hx' : l[i]? with
    | none => rw [hx'] at hx; cases hx
    | some a =>
      rw [hx'] at hx
      cases hx
      refine turn a (List.mem_of_getElem? hx') ys _ _ (fun y hy => ⟨put_same, ?_, ?_, ?_⟩) fun hn => ⟨?_, rfl⟩
      · rw [e, List.length_map]
        exact Nat.lt_of_le_of_lt (Nat.le_trans (List.length_filterMap_le _ _) (by rw [List.length_take]; omega)) (small1000 (Nat.le_refl 1000))
      · rw [take_succ_fm hx', hy, e, List.map_append]; rfl
      · rw [put_put]
      · rw [take_succ_fm hx', hn, e]; simp
  · rintro ys G ⟨e, rfl⟩
    rw [List.length_map, List.take_length] at e
    rw [e]; exact fin
def One (l : List Rw) : Prop := ∀ r ∈ l, ∃ x, r.w = [x]
def sp_p_ahead_of : P3 := fun ws G R => ∃ p l m, ws = [.ref p, oz m] ∧ G p = some (.lst (l.map Rw.z)) ∧ One l ∧ l.length ≤ 1000 ∧ ∀ t, G t = none → R (.ref t) (put G t (.lst ((ahead m l).map Rw.z)))
theorem len_p_ahead_of {ws : List Z} {G : Hq} {R : K3} (h : sp_p_ahead_of ws G R) : ws.length = 2 := by obtain ⟨_, _, _, rfl, _⟩ := h; rfl
theorem ok_p_ahead_of {P : Program} {w : World} {K : PySem.W.Frag} {mg : Str → Option Value} {base : Heap} {a : Ad} (F : Fns K a) (T : Txt K mg a) : FnOk P w K mg base CX0 2 a.f_p_ahead_of a.d_p_ahead_of ["line", "moment"] (lowP K sp_p_ahead_of) := by
  have G_p_earlier_end : FnOk P w K mg base CX0 1 a.f_p_earlier_end a.d_p_earlier_end ["end", "other"] (lowP K sp_p_earlier_end) := ok_p_earlier_end F T
  refine fn3 F.p_ahead_of sc_p_ahead_of (fun ws G R h => (by exact len_p_ahead_of h)) (fun cdv A outer s H E ws G R hr h => ?_)
  have hu : (A.deeper (PyProof.Rows.envOfC "ahead_of" (defScope s_p_ahead_of) s.heap.objs.size a.f_p_ahead_of cdv)).units + 66 < cLine := by have := hr.un; omega
  refine ⟨_, (z_one (z_ret (q_lc (N₀ := ["line", "moment"]) (so := defScope s_p_ahead_of) (N' := ["begin", "end", "worth", "moment"]) (cap := [none, none, none, some 1]) (pt := (.tp [0, 1, 2])) rfl rfl rfl (by decide +kernel) rfl (it_list (q_var (pv 0))) (fun _ _ _ _ => (show QP _ _ (.tp [0, 1, 2]) from (pg_tup rfl (pgs_cons (pg_name (i := 0) (show List.Nodup (α := Str) ["begin", "end", "worth", "moment"] from by decide +kernel) rfl (Or.inl rfl)) (pgs_cons (pg_name (i := 1) (show List.Nodup (α := Str) ["begin", "end", "worth", "moment"] from by decide +kernel) rfl (Or.inl rfl)) (pgs_cons (pg_name (i := 2) (show List.Nodup (α := Str) ["begin", "end", "worth", "moment"] from by decide +kernel) rfl (Or.inl rfl)) pgs_nil)))))) (fun _ _ _ _ => (ifs_one (QW.qt (q_or (q_cmpT o_is (q_var (pv 3)) q_non (nomark _)) (q_or1 (q_cmpT o_lt (q_var (pv 0)) (q_var (pv 3)) (nomark _))))))) (fun _ _ _ _ => (q_tup (q_cons (q_var (pv 0)) (q_cons (q_call G_p_earlier_end (hr.mono (by decide)) rfl T.m_p_earlier_end T.k_p_earlier_end (b_p_earlier_end F) (q_cons (q_var (pv 1)) (q_cons (q_var (pv 3)) q_nil se_Name) se_Name) (he := se_Name) (hpl := (hp_cons se_Name hp_nil))) (q_cons (q_var (pv 2)) q_nil se_Name) se_Call) se_Name)))))), ?_⟩
  obtain ⟨p, l, m, rfl, hp, h1, hz, q⟩ := h
  walk_at "go"
  refine i_wkL hp ?_
  intro D hD
  refine lc_rows (aheadR m) (fun ys => put_old hp hD) hz ?_ (q D hD)
  intro r hr ys K1 K2 k1 k2
  obtain ⟨x, hx⟩ := h1 r hr
  obtain ⟨b, e, w⟩ := r
  cases hx
  refine ⟨_, rfl, ?_⟩
  cases m with
  | none =>
    walk_at "go"
    refine ⟨e, none, rfl, ?_⟩
    walk_at "go"
    refine ⟨lenK rfl, ?_⟩
    exact k1 _ rfl
  | some m =>
    walk_at "go"
    refine ifD (fun c => ?_) fun c => ?_
    · walk_at "go"
      refine ⟨e, some m, rfl, ?_⟩
      walk_at "go"
      refine ⟨lenK rfl, ?_⟩
      refine k1 ⟨b, emin e (some m), [x]⟩ ?_
      unfold aheadR
      rw [if_pos (by simpa [bef] using c)]
    · refine k2 ?_
      unfold aheadR
      rw [if_neg (by simpa [bef] using c)]
def sp_p_from_on : P3 := fun ws G R => ∃ p l m, ws = [.ref p, .int m] ∧ G p = some (.lst (l.map Rw.z)) ∧ One l ∧ l.length ≤ 1000 ∧ ∀ t, G t = none → R (.ref t) (put G t (.lst ((fromOn m l).map Rw.z)))
theorem len_p_from_on {ws : List Z} {G : Hq} {R : K3} (h : sp_p_from_on ws G R) : ws.length = 2 := by obtain ⟨_, _, _, rfl, _⟩ := h; rfl
theorem ok_p_from_on {P : Program} {w : World} {K : PySem.W.Frag} {mg : Str → Option Value} {base : Heap} {a : Ad} (F : Fns K a) (T : Txt K mg a) : FnOk P w K mg base CX0 1 a.f_p_from_on a.d_p_from_on ["line", "moment"] (lowP K sp_p_from_on) := by
  refine fn3 F.p_from_on sc_p_from_on (fun ws G R h => (by exact len_p_from_on h)) (fun cdv A outer s H E ws G R hr h => ?_)
  have hu : (A.deeper (PyProof.Rows.envOfC "from_on" (defScope s_p_from_on) s.heap.objs.size a.f_p_from_on cdv)).units + 66 < cLine := by have := hr.un; omega
  refine ⟨_, (z_one (z_ret (q_lc (N₀ := ["line", "moment"]) (so := defScope s_p_from_on) (N' := ["begin", "end", "worth", "moment"]) (cap := [none, none, none, some 1]) (pt := (.tp [0, 1, 2])) rfl rfl rfl (by decide +kernel) rfl (it_list (q_var (pv 0))) (fun _ _ _ _ => (show QP _ _ (.tp [0, 1, 2]) from (pg_tup rfl (pgs_cons (pg_name (i := 0) (show List.Nodup (α := Str) ["begin", "end", "worth", "moment"] from by decide +kernel) rfl (Or.inl rfl)) (pgs_cons (pg_name (i := 1) (show List.Nodup (α := Str) ["begin", "end", "worth", "moment"] from by decide +kernel) rfl (Or.inl rfl)) (pgs_cons (pg_name (i := 2) (show List.Nodup (α := Str) ["begin", "end", "worth", "moment"] from by decide +kernel) rfl (Or.inl rfl)) pgs_nil)))))) (fun _ _ _ _ => (ifs_one (QW.qt (q_or (q_cmpT o_is (q_var (pv 1)) q_non (nomark _)) (q_or1 (q_cmpT o_lt (q_var (pv 3)) (q_var (pv 1)) (nomark _))))))) (fun _ _ _ _ => (q_tup (q_cons (q_callB (b_max rfl) rfl T.b_max rfl (q_cons (q_var (pv 0)) (q_cons (q_var (pv 3)) q_nil se_Name) se_Name) (he := se_Name) (hpl := (hp_cons se_Name hp_nil))) (q_cons (q_var (pv 1)) (q_cons (q_var (pv 2)) q_nil se_Name) se_Name) se_Call)))))), ?_⟩
  obtain ⟨p, l, m, rfl, hp, h1, hz, q⟩ := h
  walk_at "go"
  refine i_wkL hp ?_
  intro D hD
  refine lc_rows (fromR m) (fun ys => put_old hp hD) hz ?_ (q D hD)
  intro r hr ys K1 K2 k1 k2
  obtain ⟨x, hx⟩ := h1 r hr
  obtain ⟨b, e, w⟩ := r
  cases hx
  refine ⟨_, rfl, ?_⟩
  cases e with
  | none =>
    walk_at "go"
    refine ⟨lenK rfl, ?_⟩
    exact k1 ⟨if m > b then m else b, none, [x]⟩ rfl
  | some e =>
    walk_at "go"
    refine ifD (fun c => ?_) fun c => ?_
    · walk_at "go"
      refine ⟨lenK rfl, ?_⟩
      refine k1 ⟨if m > b then m else b, some e, [x]⟩ ?_
      unfold fromR
      rw [if_pos (by simpa [bef] using c)]
    · refine k2 ?_
      unfold fromR
      rw [if_neg (by simpa [bef] using c)]
theorem ix_last {n : Nat} (h : 0 < n) : ixN n (-1) = some (n - 1) := by
  unfold ixN
  rw [if_neg (by decide), if_pos (by omega)]
  congr 1
  omega
theorem at_last {α : Type} {l : List α} {x : α} (h : l.getLast? = some x) : atI l (-1) = some x := by
  have hne : l ≠ [] := fun z => by subst z; simp at h
  unfold atI
  rw [ix_last (List.length_pos_iff.mpr hne)]
  show l[l.length - 1]? = some x
  rw [← List.getLast?_eq_getElem?]
  exact h
theorem set_last {α : Type} {l : List α} {x y : α} (h : l.getLast? = some x) : l.set (l.length - 1) y = l.dropLast ++ [y] := by
  have hs := getLast_split h
  generalize l.dropLast = i at hs
  subst hs
  simp
theorem sIx2 {a b : Z} {w : List Z} : HT.sIx (a :: b :: w).length 0 (some 2) = 2 := by
  have := HT.sIx_nat (a :: b :: w).length 0 2
  rw [show ((2 : Nat) : Int) = 2 from rfl] at this
  rw [this]
  simp
theorem cut2 {a b : Z} {w : List Z} : cutZ (a :: b :: w) (some 2) none = w := by
  unfold cutZ
  rw [sIx2, HT.sIx_none]
  simp
theorem not_whole {a b : Z} {w : List Z} : ¬ (HT.sIx (a :: b :: w).length 0 (some 2) = 0 ∧ HT.sIx (a :: b :: w).length (a :: b :: w).length none = (a :: b :: w).length) := by
  rw [sIx2]
  intro h
  exact absurd h.1 (by decide)
def sp_p_with_alike_joined : P3 := fun ws G R => ∃ p ps, ws = [.ref p] ∧ G p = some (.lst (ps.map Rw.z)) ∧ OkR ps ∧ ps.length ≤ 1000 ∧ ∀ t, G t = none → R (.ref t) (put G t (.lst ((join ps).map Rw.z)))
theorem len_p_with_alike_joined {ws : List Z} {G : Hq} {R : K3} (h : sp_p_with_alike_joined ws G R) : ws.length = 1 := by obtain ⟨_, _, rfl, _⟩ := h; rfl
theorem i_sl2 {G : Hq} {R : K3} {a b : Z} {w : List Z} (h : R (.tup w) G) : zSl (.tup (a :: b :: w)) (some 2) none G R := i_slT not_whole (by rw [cut2]; exact h)
theorem flat_tw {w : List Z} (h : okW w) : flat 8 (.tup w) = true := all_mono (n := 4) (m := 7) (by decide) h.2.2
theorem fold_okR : ∀ (ps told : List Rw), OkR told → OkR ps → OkR (ps.foldl jn told)
  | [], _, h, _ => h
  | p :: ps, told, h, h' => by
    refine fold_okR ps (jn told p) (fun r hr => ?_) fun r hr => h' r (.tail _ hr)
    unfold jn at hr
    split at hr
    · next l hl =>
      split at hr
      · rcases List.mem_append.mp hr with hr | hr
        · exact h r (List.dropLast_subset _ hr)
        · rw [List.mem_singleton.mp hr]; exact h' p (.head _)
      · rcases List.mem_append.mp hr with hr | hr
        · exact h r hr
        · rw [List.mem_singleton.mp hr]; exact h' p (.head _)
    · rcases List.mem_append.mp hr with hr | hr
      · exact h r hr
      · rw [List.mem_singleton.mp hr]; exact h' p (.head _)
theorem len_jn (told : List Rw) (p : Rw) : (jn told p).length ≤ told.length + 1 := by
  unfold jn
  split
  · split <;> simp
  · simp
theorem len_fold : ∀ (ps told : List Rw), (ps.foldl jn told).length ≤ told.length + ps.length
  | [], told => by simp
  | p :: ps, told => by
    have h1 := len_fold ps (jn told p)
    have h2 := len_jn told p
    show (ps.foldl jn (jn told p)).length ≤ _
    rw [List.length_cons]
    omega
theorem fold_snoc {ps : List Rw} {i : Nat} {p : Rw} (h : ps[i]? = some p) : (ps.take (i + 1)).foldl jn [] = jn ((ps.take i).foldl jn []) p := by
  rw [List.take_add_one, h]
  simp [List.foldl_append]
theorem ok_p_with_alike_joined {P : Program} {w : World} {K : PySem.W.Frag} {mg : Str → Option Value} {base : Heap} {a : Ad} (F : Fns K a) (T : Txt K mg a) : FnOk P w K mg base CX0 1 a.f_p_with_alike_joined a.d_p_with_alike_joined ["pieces"] (lowP K sp_p_with_alike_joined) := by
  refine fn3 F.p_with_alike_joined sc_p_with_alike_joined (fun ws G R h => (by exact len_p_with_alike_joined h)) (fun cdv A outer s H E ws G R hr h => ?_)
  have hu : (A.deeper (PyProof.Rows.envOfC "with_alike_joined" (defScope s_p_with_alike_joined) s.heap.objs.size a.f_p_with_alike_joined cdv)).units + 66 < cLine := by have := hr.un; omega
  refine ⟨_, (z_cons (z_set (i := 1) sc_p_with_alike_joined.nd rfl (Or.inl rfl) (q_lst q_nil))
    (z_cons (z_for (pt := (.nm 2)) PassesOwn.never rfl (it_list (q_var (pv 0))) (show QP _ _ (.nm 2) from (pg_name (i := 2) sc_p_with_alike_joined.nd rfl (Or.inl rfl)))
    (z_one (z_if (QW.qt (q_and (q_tru (q_var (pv 1)) (fun _ => rfl)) (q_and (q_cmpT (o_eq hu) (q_ix x_ix (q_ix x_ix (q_var (pv 1)) (q_un o_neg q_int) (fun _ _ => rfl)) q_int (fun _ _ => rfl)) (q_ix x_ix (q_var (pv 2)) q_int (fun _ _ => rfl)) (nomark _)) (q_and1 (q_cmpT (o_eq hu) (q_slice x_sl (q_ix x_ix (q_var (pv 1)) (q_un o_neg q_int) (fun _ _ => rfl)) (q_part q_int) q_nopart) (q_slice x_sl (q_var (pv 2)) (q_part q_int) q_nopart) (nomark _))))))
    (z_one (z_putA (q_op o_add (q_tup (q_cons (q_ix x_ix (q_ix x_ix (q_var (pv 1)) (q_un o_neg q_int) (fun _ _ => rfl)) q_int (fun _ _ => rfl)) (q_cons (q_ix x_ix (q_var (pv 2)) q_int (fun _ _ => rfl)) q_nil se_Subscript) se_Subscript)) (q_slice x_sl (q_var (pv 2)) (q_part q_int) q_nopart)) (q_var (pv 1)) (q_un o_neg q_int) x_set))
    (z_one (z_expr (q_bm PySem.F.plainAttrs_list PySem.F.slot_list_append PySem.F.type_list_append m_append (q_var (pv 1)) (q_cons (q_var (pv 2)) q_nil se_Name)))))))
    (z_one (z_ret (q_var (pv 1)))))), ?_⟩
  obtain ⟨p, ps, rfl, hp, hok, hz, q⟩ := h
  walk_at "go"
  refine ⟨lenK rfl, fun t ht => ?_⟩
  walk_at "go"
  refine i_wkL (put_old hp ht) ?_
  refine for_by (fun i σ G' => ∃ v, σ = [some (.ref p), some (.ref t), v] ∧ G' = put G t (.lst (((ps.take i).foldl jn []).map Rw.z))) ⟨_, rfl, by simp⟩ (by rintro i σ G' _ ⟨v, _, e⟩; exact by rw [e]; exact put_old hp ht) ?_ ?_
  · rintro i x σ G' hx ⟨v, rfl, rfl⟩
    rw [List.getElem?_map] at hx
    cases hx' : ps[i]? with
    | none => rw [hx'] at hx; cases hx
    | some r =>
      rw [hx'] at hx
      cases hx
      have hr := hok r (List.mem_of_getElem? hx')
      have hot : OkR ((ps.take i).foldl jn []) := fold_okR _ _ (fun r hr => by simp at hr) fun r hr => hok r (List.mem_of_mem_take hr)
      have hlt := len_fold (ps.take i) []
      rw [List.length_take] at hlt
      have hi := (List.getElem?_eq_some_iff.mp hx').1
      rw [fold_snoc hx']
      generalize (ps.take i).foldl jn [] = told at hot hlt ⊢
      simp only [List.length_nil] at hlt
      refine ⟨_, rfl, ?_⟩
      have app : ∀ G', G' = put G t (.lst (told.map Rw.z)) → jn told r = told ++ [r] → zAppend (.ref t) [r.z] G' (fun _ G1 => ∃ v, ([some (.ref p), some (.ref t), some r.z] : S3) = [some (.ref p), some (.ref t), v] ∧ G1 = put G t (.lst ((jn told r).map Rw.z))) := by
        rintro _ rfl e
        refine i_append put_same (by rw [List.length_map]; exact small1000 (by omega)) ⟨_, rfl, ?_⟩
        rw [put_put, e, List.map_append]
        rfl
      walk_at "go"
      refine i_truL put_same ?_
      cases hl : told.getLast? with
      | none =>
        have e0 : told = [] := List.getLast?_eq_none_iff.mp hl
        subst e0
        refine ifF ?_
        walk_at "go"
        refine i_tyL put_same ?_
        walk_at "go"
        exact app _ rfl (by unfold jn; rw [hl])
      | some k =>
        have hne : told ≠ [] := fun z => by subst z; simp at hl
        have hlm : (told.map Rw.z).getLast? = some k.z := by rw [List.getLast?_map, hl]; rfl
        have he : (told.map Rw.z).isEmpty = false := by cases told with | nil => exact absurd rfl hne | cons _ _ => rfl
        have hk := hot k (List.mem_of_getLast? hl)
        rw [he]
        refine ifT ?_
        walk_at "go"
        refine i_ixL put_same (at_last hlm) ?_
        walk_at "go"
        refine i_ixT at1 ?_
        walk_at "go"
        refine i_ixT at0 ?_
        refine i_eqOI ?_
        walk_at "go"
        refine ifD (fun c1 => ?_) fun c1 => ?_
        · walk_at "go"
          refine i_ixL put_same (at_last hlm) ?_
          walk_at "go"
          refine i_sl2 ?_
          walk_at "go"
          refine i_sl2 ?_
          refine i_eqT (flat_tw hk) (flat_tw hr) ?_
          walk_at "go"
          refine ifD (fun c2 => ?_) fun c2 => ?_
          · walk_at "go"
            refine i_ixL put_same (at_last hlm) ?_
            walk_at "go"
            refine i_ixT at0 ?_
            walk_at "go"
            refine i_ixT at1 ?_
            walk_at "go"
            refine ⟨lenK rfl, ?_⟩
            walk_at "go"
            refine i_sl2 ?_
            refine i_addT (by simp) (sm1000 (by have := hr.2.1; simp; omega)) ?_
            walk_at "go"
            refine i_set put_same (ix_last (by rw [List.length_map]; exact List.length_pos_iff.mpr hne)) ?_
            refine ⟨_, rfl, ?_⟩
            rw [put_put, set_last hlm]
            congr 1
            unfold jn
            rw [hl]
            dsimp only
            rw [if_pos ⟨c1, c2⟩, List.map_append, List.map_dropLast]
            rfl
          · walk_at "go"
            refine i_tyL put_same ?_
            walk_at "go"
            exact app _ rfl (by unfold jn; rw [hl]; dsimp only; rw [if_neg fun z => c2 z.2])
        · refine ifF ?_
          walk_at "go"
          refine i_tyL put_same ?_
          walk_at "go"
          exact app _ rfl (by unfold jn; rw [hl]; dsimp only; rw [if_neg fun z => c1 z.1])
  · rintro σ G' ⟨v, rfl, rfl⟩
    walk_at "go"
    rw [List.length_map, List.take_length]
    exact q t ht
theorem Rise.drop {l : List Rw} (h : Rise l) (k : Nat) : Rise (l.drop k) := ⟨fun r hr => h.1 r (List.mem_of_mem_drop hr), h.2.sublist (List.drop_sublist _ _)⟩
theorem okR_ahead {m : Option Int} {l : List Rw} (h : OkR l) : OkR (ahead m l) := fun x hx => by
  obtain ⟨r, h1, _, rfl⟩ := mem_ahead hx
  exact h r h1
theorem okR_from {m : Int} {l : List Rw} (h : OkR l) : OkR (fromOn m l) := fun x hx => by
  obtain ⟨r, h1, _, rfl⟩ := mem_from hx
  exact h r h1
def okV (z : Z) : Prop := flat 4 z = true
theorem okV_w {z : Z} (h : okV z) : okW [z] := ⟨by simp, by simp, by rw [List.all_cons, show flat 4 z = true from h]; rfl⟩
theorem okR_pieces {l : List Rw} {b : Int} {e : Option Int} {z : Z} (h : OkR l) (hz : okV z) : OkR (pieces l b e (optW z)) := by
  intro r hr
  unfold pieces at hr
  rcases List.mem_append.mp hr with hr | hr
  · rcases List.mem_append.mp hr with hr | hr
    · exact okR_ahead h r hr
    · unfold optW at hr
      split at hr
      · next w e => split at e
                    · cases e
                    · cases e; rw [List.mem_singleton.mp hr]; exact okV_w hz
      · simp at hr
  · cases e with
    | none => simp at hr
    | some e => exact okR_from h r hr
def sp_p_put_on : P3 := fun ws G R => Ex5 fun p l b e z => ws = [.ref p, .int b, oz e, z] ∧ G p = some (.lst (l.map Rw.z)) ∧ Rise l ∧ OkR l ∧ One l ∧ l.length ≤ 900 ∧ bef b e = true ∧ okV z ∧
  ∀ t G', G t = none → Sm G G' → G' t = some (.lst ((putOn l b e (optW z)).map Rw.z)) → R (.ref t) G'
theorem len_p_put_on {ws : List Z} {G : Hq} {R : K3} (h : sp_p_put_on ws G R) : ws.length = 4 := by obtain ⟨_, _, _, _, _, rfl, _⟩ := h; rfl
theorem ok_p_put_on {P : Program} {w : World} {K : PySem.W.Frag} {mg : Str → Option Value} {base : Heap} {a : Ad} (F : Fns K a) (T : Txt K mg a) : FnOk P w K mg base CX0 3 a.f_p_put_on a.d_p_put_on ["line", "begin", "end", "worth"] (lowP K sp_p_put_on) := by
  have G_p_ahead_of : FnOk P w K mg base CX0 2 a.f_p_ahead_of a.d_p_ahead_of ["line", "moment"] (lowP K sp_p_ahead_of) := ok_p_ahead_of F T
  have G_p_with_alike_joined : FnOk P w K mg base CX0 1 a.f_p_with_alike_joined a.d_p_with_alike_joined ["pieces"] (lowP K sp_p_with_alike_joined) := ok_p_with_alike_joined F T
  have G_p_from_on : FnOk P w K mg base CX0 1 a.f_p_from_on a.d_p_from_on ["line", "moment"] (lowP K sp_p_from_on) := ok_p_from_on F T
  refine fn3 F.p_put_on sc_p_put_on (fun ws G R h => (by exact len_p_put_on h)) (fun cdv A outer s H E ws G R hr h => ?_)
  have hu : (A.deeper (PyProof.Rows.envOfC "put_on" (defScope s_p_put_on) s.heap.objs.size a.f_p_put_on cdv)).units + 66 < cLine := by have := hr.un; omega
  refine ⟨_, (z_cons (z_set (i := 4) sc_p_put_on.nd rfl (Or.inl rfl) (q_call G_p_ahead_of (hr.mono (by decide)) rfl T.m_p_ahead_of T.k_p_ahead_of (b_p_ahead_of F) (q_cons (q_var (pv 0)) (q_cons (q_var (pv 1)) q_nil se_Name) se_Name) (he := se_Name) (hpl := (hp_cons se_Name hp_nil))))
    (z_cut (z_if (q_cmpT o_isnot (q_var (pv 3)) q_non (nomark _))
    (z_one (z_expr (q_bm PySem.F.plainAttrs_list PySem.F.slot_list_append PySem.F.type_list_append m_append (q_var (pv 4)) (q_cons (q_tup (q_cons (q_var (pv 1)) (q_cons (q_var (pv 2)) (q_cons (q_var (pv 3)) q_nil se_Name) se_Name) se_Name)) q_nil se_Tuple))))
    z_nil)
    (z_cut (z_if (q_cmpT o_isnot (q_var (pv 2)) q_non (nomark _))
    (z_one (z_expr (q_bm PySem.F.plainAttrs_list PySem.F.slot_list_extend PySem.F.type_list_extend m_extend (q_var (pv 4)) (q_cons (q_call G_p_from_on (hr.mono (by decide)) rfl T.m_p_from_on T.k_p_from_on (b_p_from_on F) (q_cons (q_var (pv 0)) (q_cons (q_var (pv 2)) q_nil se_Name) se_Name) (he := se_Name) (hpl := (hp_cons se_Name hp_nil))) q_nil se_Call))))
    z_nil)
    (z_one (z_ret (q_call G_p_with_alike_joined (hr.mono (by decide)) rfl T.m_p_with_alike_joined T.k_p_with_alike_joined (b_p_with_alike_joined F) (q_cons (q_var (pv 4)) q_nil se_Name) (he := se_Name) (hpl := hp_nil))))))), ?_⟩
  obtain ⟨p, l, b, e, z, rfl, hp, hr, hok, h1, hz, g, hv, q⟩ := h
  have hpc := (pieces_ok (w := optW z) hr g).2.2
  walk_at "go"
  refine ⟨p, l, some b, rfl, hp, h1, by omega, fun t ht => ?_⟩
  walk_at "go"
  have la := len_ahead (some b) l
  refine i_cut (fun σ' G' => σ' = [some (.ref p), some (.int b), some (oz e), some z, some (.ref t)] ∧ G' = put G t (.lst ((ahead (some b) l ++ (match optW z with | some w => [(⟨b, e, w⟩ : Rw)] | none => [])).map Rw.z))) ?_ ?_
  · walk_at "go"
    refine ifN (fun c => ?_) fun c => ?_
    · walk_at "go"
      refine i_tyL put_same ?_
      walk_at "go"
      refine ⟨lenK rfl, ?_⟩
      walk_at "go"
      refine i_append put_same (by rw [List.length_map]; exact small1000 (by omega)) ⟨rfl, ?_⟩
      rw [put_put, optW, if_neg c, List.map_append]; rfl
    · walk_at "go"
      refine ⟨rfl, ?_⟩
      rw [optW, if_pos c]; simp
  · rintro σ' G' ⟨rfl, rfl⟩
    have hp1 : ∀ o, put G t o p = some (.lst (l.map Rw.z)) := fun o => put_old hp ht
    have fin : ∀ G' , Sm G G' → G' t = some (.lst ((pieces l b e (optW z)).map Rw.z)) → sp_p_with_alike_joined [.ref t] G' R := fun G' s ht' => by
      refine ⟨t, _, rfl, ht', okR_pieces hok hv, by omega, fun u hu => ?_⟩
      exact q u _ (s.free hu) (s.trans (Sm.new hu)) put_same
    refine i_cut (fun σ' G' => σ' = [some (.ref p), some (.int b), some (oz e), some z, some (.ref t)] ∧ Sm G G' ∧ G' t = some (.lst ((pieces l b e (optW z)).map Rw.z))) ?_ ?_
    · cases e with
      | none =>
        walk_at "go"
        refine ⟨rfl, Sm.new ht, ?_⟩
        unfold pieces
        rw [List.append_nil]
        exact put_same
      | some e =>
        walk_at "go"
        refine i_tyL put_same ?_
        walk_at "go"
        refine ⟨p, l, e, rfl, hp1 _, h1, by omega, fun u hu => ?_⟩
        have hut : t ≠ u := fun z => by subst z; rw [put_same] at hu; cases hu
        have hpl : (pieces l b (some e) (optW z)).length = (ahead (some b) l ++ (match optW z with | some w => [(⟨b, some e, w⟩ : Rw)] | none => [])).length + (fromOn e l).length := by
          unfold pieces
          exact List.length_append
        generalize hA : (ahead (some b) l ++ (match optW z with | some w => [(⟨b, some e, w⟩ : Rw)] | none => [])) = A at hu hpl ⊢
        have e1 : put (put G t (.lst (A.map Rw.z))) u (.lst ((fromOn e l).map Rw.z)) t = some (.lst (A.map Rw.z)) := by rw [put_ne hut]; exact put_same
        walk_at "go"
        refine i_extend e1 put_same (by rw [List.length_map, List.length_map]; exact sm1000 (by omega)) ?_
        refine ⟨rfl, ?_, ?_⟩
        · exact ((Sm.new ht).trans (Sm.new hu)).put ht
        · rw [put_same, ← List.map_append, ← hA]
          rfl
    · rintro σ' G' ⟨rfl, s, ht'⟩
      walk_at "go"
      exact fin G' s ht'
def okS (s : Str) : Prop := s.length ≤ 1000 ∧ PyData.strOk s = true
def Th (G : Hq) : Z → Prop
  | .non => True
  | .bl _ => True
  | .int _ => True
  | .str s => okS s
  | .tup _ => True
  | .ref p => (∃ ws, G p = some (.lst ws)) ∨ ∃ kvs, G p = some (.dK kvs)
  | _ => False
theorem Th.sm {G G' : Hq} (s : Sm G G') {x : Z} (h : Th G x) : Th G' x := by
  cases x with
  | ref p =>
    rcases h with ⟨ws, e⟩ | ⟨ws, e⟩
    · exact .inl ⟨ws, s _ _ e⟩
    · exact .inr ⟨ws, s _ _ e⟩
  | _ => exact h
structure Kd (G : Hq) (x : Z) (n : String) : Prop where
  ty : tyN G x = some n
  is : n = "NoneType" ∨ n = "bool" ∨ n = "int" ∨ n = "str" ∨ n = "tuple" ∨ n = "list" ∨ n = "dict"
theorem Th.kd {G : Hq} {x : Z} (h : Th G x) : ∃ n, Kd G x n := by
  cases x with
  | non => exact ⟨_, rfl, .inl rfl⟩
  | bl _ => exact ⟨_, rfl, .inr (.inl rfl)⟩
  | int _ => exact ⟨_, rfl, .inr (.inr (.inl rfl))⟩
  | str _ => exact ⟨_, rfl, .inr (.inr (.inr (.inl rfl)))⟩
  | tup _ => exact ⟨_, rfl, .inr (.inr (.inr (.inr (.inl rfl))))⟩
  | ref p =>
    rcases h with ⟨ws, e⟩ | ⟨ws, e⟩
    · exact ⟨"list", by simp [tyN, e], .inr (.inr (.inr (.inr (.inr (.inl rfl)))))⟩
    · exact ⟨"dict", by simp [tyN, e], .inr (.inr (.inr (.inr (.inr (.inr rfl)))))⟩
  | _ => exact False.elim h
theorem kit_str {n : String} (h : n = "NoneType" ∨ n = "bool" ∨ n = "int" ∨ n = "str" ∨ n = "tuple" ∨ n = "list" ∨ n = "dict") : kit0 n "str" = some (decide (n = "str")) := by
  rcases h with rfl | rfl | rfl | rfl | rfl | rfl | rfl <;> decide +kernel
theorem kit_bool {n : String} (h : n = "NoneType" ∨ n = "bool" ∨ n = "int" ∨ n = "str" ∨ n = "tuple" ∨ n = "list" ∨ n = "dict") : kit0 n "bool" = some (decide (n = "bool")) := by
  rcases h with rfl | rfl | rfl | rfl | rfl | rfl | rfl <;> decide +kernel
theorem kit_int {n : String} (h : n = "NoneType" ∨ n = "bool" ∨ n = "int" ∨ n = "str" ∨ n = "tuple" ∨ n = "list" ∨ n = "dict") : kit0 n "int" = some (decide (n = "int") || decide (n = "bool")) := by
  rcases h with rfl | rfl | rfl | rfl | rfl | rfl | rfl <;> decide +kernel
def isS : Z → Bool
  | .str _ => true
  | _ => false
def isB : Z → Bool
  | .bl _ => true
  | _ => false
def isI : Z → Bool
  | .int _ => true
  | .bl _ => true
  | _ => false
theorem i_isS {G : Hq} {R : K3} {x : Z} (h : Th G x) (q : R (.bl (isS x)) G) : zIsT [x, .ty "str"] G R := by
  obtain ⟨n, k⟩ := h.kd
  refine ⟨n, _, k.ty, kit_str k.is, ?_⟩
  have e : decide (n = "str") = isS x := by
    have := k.ty
    cases x with
    | ref p => rcases h with ⟨ws, e⟩ | ⟨ws, e⟩ <;> (simp [tyN, e] at this; subst this; show _ = false; decide)
    | _ => first | (cases this; show _ = false; decide; done) | (cases this; show _ = true; decide; done) | exact False.elim h
  rw [e]; exact q
theorem i_isBo {G : Hq} {R : K3} {x : Z} (h : Th G x) (q : R (.bl (isB x)) G) : zIsT [x, .ty "bool"] G R := by
  obtain ⟨n, k⟩ := h.kd
  refine ⟨n, _, k.ty, kit_bool k.is, ?_⟩
  have e : decide (n = "bool") = isB x := by
    have := k.ty
    cases x with
    | ref p => rcases h with ⟨ws, e⟩ | ⟨ws, e⟩ <;> (simp [tyN, e] at this; subst this; show _ = false; decide)
    | _ => first | (cases this; show _ = false; decide; done) | (cases this; show _ = true; decide; done) | exact False.elim h
  rw [e]; exact q
theorem i_isIn {G : Hq} {R : K3} {x : Z} (h : Th G x) (q : R (.bl (isI x)) G) : zIsT [x, .ty "int"] G R := by
  obtain ⟨n, k⟩ := h.kd
  refine ⟨n, _, k.ty, kit_int k.is, ?_⟩
  have e : (decide (n = "int") || decide (n = "bool")) = isI x := by
    have := k.ty
    cases x with
    | ref p => rcases h with ⟨ws, e⟩ | ⟨ws, e⟩ <;> (simp [tyN, e] at this; subst this; show _ = false; decide)
    | _ => first | (cases this; show _ = false; decide; done) | (cases this; show _ = true; decide; done) | exact False.elim h
  rw [e]; exact q
def okC (c : Nat) : Bool := decide (97 ≤ c) && decide (c ≤ 122)
def nameB : Z → Bool
  | .str s => decide (1 ≤ s.length) && decide (s.length ≤ 8) && s.cps.toList.all okC
  | _ => false
def momB : Z → Bool
  | .int i => decide (0 ≤ i) && decide (i ≤ 1000000000000)
  | _ => false
theorem mom_int {i : Int} : momB (.int i) = (decide (0 ≤ i) && decide (i ≤ 1000000000000)) := rfl
def strB (x y : Z) : Bool := momB x && match y with
  | .non => true
  | .int j => momB (.int j) && match x with | .int i => decide (i < j) | _ => false
  | _ => false
def spB1 (f : Z → Bool) : P3 := fun ws G R => ∃ x, ws = [x] ∧ Th G x ∧ ∀ G', Sm G G' → R (.bl (f x)) G'
theorem lenB1 {f : Z → Bool} {ws : List Z} {G : Hq} {R : K3} (h : spB1 f ws G R) : ws.length = 1 := by obtain ⟨_, rfl, _⟩ := h; rfl
def spB2 (f : Z → Z → Bool) : P3 := fun ws G R => ∃ x y, ws = [x, y] ∧ Th G x ∧ Th G y ∧ ∀ G', Sm G G' → R (.bl (f x y)) G'
theorem lenB2 {f : Z → Z → Bool} {ws : List Z} {G : Hq} {R : K3} (h : spB2 f ws G R) : ws.length = 2 := by obtain ⟨_, _, rfl, _⟩ := h; rfl
abbrev sp_p_is_name : P3 := spB1 nameB
abbrev sp_p_is_moment : P3 := spB1 momB
abbrev sp_p_is_stretch : P3 := spB2 strB
theorem ltS_one (a b : Nat) : ltS ⟨#[a]⟩ ⟨#[b]⟩ = decide (a < b) := by
  show decide ([a] < [b]) = decide (a < b)
  by_cases h : a < b
  · rw [decide_eq_true h]; exact decide_eq_true (List.cons_lt_cons_iff.mpr (.inl h))
  · rw [decide_eq_false h]
    refine decide_eq_false fun q => ?_
    rcases List.cons_lt_cons_iff.mp q with q | q
    · exact h q
    · exact absurd q.2 (List.not_lt_nil _)
theorem strA : (Str.ofString "a") = ⟨#[97]⟩ := by decide +kernel
theorem strZ : (Str.ofString "z") = ⟨#[122]⟩ := by decide +kernel
theorem fm_signs (x : Str) (g : Nat → Option Z) (f : Z → Option Z) (h : ∀ c, f (.str ⟨#[c]⟩) = g c) : (signs x).filterMap f = x.cps.toList.filterMap g := by
  unfold signs
  rw [List.filterMap_map]
  congr 1
  funext c
  exact h c
theorem signs_len {x : Str} (h : x.length ≤ 1000) : (signs x).length ≤ 1000 := by unfold signs; rw [List.length_map, Array.length_toList]; exact h
theorem fm_all (l : List Nat) : (l.filterMap fun c => some (Z.bl (okC c))) = (l.map okC).map Z.bl := by
  induction l with
  | nil => rfl
  | cons c l ih => simp [List.filterMap_cons, ih]
theorem all_map (l : List Nat) : (l.map okC).all id = l.all okC := by
  induction l with
  | nil => rfl
  | cons c l ih => simp [List.all_cons, ih]
theorem name_str {s : Str} : nameB (.str s) = (decide (1 ≤ s.length) && decide (s.length ≤ 8) && s.cps.toList.all okC) := rfl
theorem ok_p_is_name {P : Program} {w : World} {K : PySem.W.Frag} {mg : Str → Option Value} {base : Heap} {a : Ad} (F : Fns K a) (T : Txt K mg a) : FnOk P w K mg base CX0 1 a.f_p_is_name a.d_p_is_name ["thing"] (lowP K sp_p_is_name) := by
  refine fn3 F.p_is_name sc_p_is_name (fun ws G R h => (by exact lenB1 h)) (fun cdv A outer s H E ws G R hr h => ?_)
  have hu : (A.deeper (PyProof.Rows.envOfC "is_name" (defScope s_p_is_name) s.heap.objs.size a.f_p_is_name cdv)).units + 66 < cLine := by have := hr.un; omega
  refine ⟨_, (z_cons (z_if (q_notT (q_val (q_callB b_isT rfl T.b_isinstance rfl (q_cons (q_var (pv 0)) (q_cons (q_ty (pe_bltn (v := .ty "str") rfl T.b_str rfl rfl)) q_nil se_Name) se_Name) (he := se_Name) (hpl := (hp_cons se_Name hp_nil)))))
    (z_one (z_ret q_bl))
    z_nil)
    (z_cons (z_if (QW.qt (q_or (q_cmpT o_lt (q_callB b_len rfl T.b_len PySem.boot_len (q_cons (q_var (pv 0)) q_nil se_Name) (he := se_Name) (hpl := hp_nil)) q_int (nomark _)) (q_or1 (q_cmpT o_gt (q_callB b_len rfl T.b_len PySem.boot_len (q_cons (q_var (pv 0)) q_nil se_Name) (he := se_Name) (hpl := hp_nil)) (q_gint (pe_globI rfl T.c_LONGEST_NAME)) (nomark _)))))
    (z_one (z_ret q_bl))
    z_nil)
    (z_one (z_ret (q_callB (b_all rfl) rfl T.b_all rfl (q_cons (q_lc (N₀ := ["thing"]) (so := defScope s_p_is_name) (N' := ["sign"]) (cap := [none]) (pt := (.nm 0)) rfl rfl rfl (by decide +kernel) rfl (it_str (q_var (pv 0))) (fun _ _ _ _ => (show QP _ _ (.nm 0) from (pg_name (i := 0) (show List.Nodup (α := Str) ["sign"] from by decide +kernel) rfl (Or.inl rfl)))) (fun _ _ _ _ => ifs_nil) (fun _ _ _ _ => (q_chain o_le o_le q_str (q_var (pv 0)) q_str))) q_nil se_ListComp) (he := se_ListComp) (hpl := hp_nil)))))), ?_⟩
  obtain ⟨x, rfl, hx, q⟩ := h
  walk_at "go"
  refine i_isS hx ?_
  walk_at "go"
  refine ifNB (fun c => ?_) fun c => ?_
  · walk_at "go"
    have e : nameB x = false := by cases x <;> first | rfl | cases c
    have := q G (Sm.refl G)
    rw [e] at this
    exact this
  · obtain ⟨s, rfl⟩ : ∃ s, x = .str s := by cases x <;> first | exact ⟨_, rfl⟩ | cases c
    have hs : okS s := hx
    walk_at "go"
    refine i_lenS (sm1000 hs.1) ?_
    walk_at "go"
    have no : nameB (.str s) = false → R (.bl false) G := fun e => by have := q G (Sm.refl G); rw [e] at this; exact this
    refine ifD (fun c1 => ?_) fun c1 => ?_
    · walk_at "go"
      exact no (by rw [name_str, decide_eq_false (show ¬ 1 ≤ s.length by omega)]; rfl)
    · walk_at "go"
      refine i_lenS (sm1000 hs.1) ?_
      walk_at "go"
      refine ifD (fun c2 => ?_) fun c2 => ?_
      · walk_at "go"
        exact no (by rw [name_str, decide_eq_false (show ¬ s.length ≤ 8 by omega), Bool.and_false]; rfl)
      · walk_at "go"
        intro D hD
        refine lc_pure (fun x => match x with | .str z => some (.bl (!ltS z (Str.ofString "a") && !ltS (Str.ofString "z") z)) | _ => none) (fun _ => True.intro) (signs_len hs.1) ?_ ?_
        · intro x hm ys K1 K2 k1 k2
          unfold signs at hm
          obtain ⟨c, _, rfl⟩ := List.mem_map.mp hm
          refine ⟨_, rfl, ?_⟩
          walk_at "go"
          refine ifB (fun z => ?_) fun z => ?_
          · walk_at "go"
            refine k1 _ ?_
            dsimp only
            rw [z]; rfl
          · refine k1 _ ?_
            dsimp only
            rw [z]; rfl
        · have e : (signs s).filterMap (fun x => match x with | .str z => some (.bl (!ltS z (Str.ofString "a") && !ltS (Str.ofString "z") z)) | _ => none) = (s.cps.toList.map okC).map Z.bl := by
            rw [fm_signs s (fun c => some (.bl (okC c))) _ fun c => ?_, fm_all]
            dsimp only
            rw [strA, strZ, ltS_one, ltS_one]
            unfold okC
            congr 2
            by_cases h1 : c < 97 <;> by_cases h2 : 122 < c <;> simp [h1, h2] <;> omega
          have e2 : nameB (.str s) = s.cps.toList.all okC := by rw [name_str, decide_eq_true (show 1 ≤ s.length by omega), decide_eq_true (show s.length ≤ 8 by omega), Bool.true_and, Bool.true_and]
          refine i_all (by rw [e]; exact put_same) ?_
          rw [all_map, ← e2]
          exact q _ (Sm.new hD)
theorem ok_p_is_moment {P : Program} {w : World} {K : PySem.W.Frag} {mg : Str → Option Value} {base : Heap} {a : Ad} (F : Fns K a) (T : Txt K mg a) : FnOk P w K mg base CX0 1 a.f_p_is_moment a.d_p_is_moment ["thing"] (lowP K sp_p_is_moment) := by
  refine fn3 F.p_is_moment sc_p_is_moment (fun ws G R h => (by exact lenB1 h)) (fun cdv A outer s H E ws G R hr h => ?_)
  have hu : (A.deeper (PyProof.Rows.envOfC "is_moment" (defScope s_p_is_moment) s.heap.objs.size a.f_p_is_moment cdv)).units + 66 < cLine := by have := hr.un; omega
  refine ⟨_, (z_cons (z_if (QW.qt (q_or (q_val (q_callB b_isT rfl T.b_isinstance rfl (q_cons (q_var (pv 0)) (q_cons (q_ty (pe_bltn (v := .ty "bool") rfl T.b_bool rfl rfl)) q_nil se_Name) se_Name) (he := se_Name) (hpl := (hp_cons se_Name hp_nil)))) (q_or1 (q_notT (q_val (q_callB b_isT rfl T.b_isinstance rfl (q_cons (q_var (pv 0)) (q_cons (q_ty (pe_bltn (v := .ty "int") rfl T.b_int rfl rfl)) q_nil se_Name) se_Name) (he := se_Name) (hpl := (hp_cons se_Name hp_nil))))))))
    (z_one (z_ret q_bl))
    z_nil)
    (z_one (z_ret (q_chain o_le o_le q_int (q_var (pv 0)) (q_gint (pe_globI rfl T.c_LAST_MOMENT)))))), ?_⟩
  obtain ⟨x, rfl, hx, q⟩ := h
  have no : momB x = false → R (.bl false) G := fun e => by have := q G (Sm.refl G); rw [e] at this; exact this
  walk_at "go"
  refine i_isBo hx ?_
  walk_at "go"
  refine ifB (fun c => ?_) fun c => ?_
  · walk_at "go"
    exact no (by cases x <;> first | rfl | cases c)
  · walk_at "go"
    refine i_isIn hx ?_
    walk_at "go"
    refine ifNB (fun c2 => ?_) fun c2 => ?_
    · walk_at "go"
      exact no (by cases x <;> first | rfl | cases c2)
    · obtain ⟨i, rfl⟩ : ∃ i, x = .int i := by cases x <;> first | exact ⟨_, rfl⟩ | (cases c; done) | (cases c2; done)
      walk_at "go"
      refine ifD (fun z => ?_) fun z => ?_
      · walk_at "go"
        have := q G (Sm.refl G)
        rw [mom_int, decide_eq_true z, Bool.true_and] at this
        exact this
      · exact no (by rw [mom_int, decide_eq_false z]; rfl)
theorem ok_p_is_stretch {P : Program} {w : World} {K : PySem.W.Frag} {mg : Str → Option Value} {base : Heap} {a : Ad} (F : Fns K a) (T : Txt K mg a) : FnOk P w K mg base CX0 2 a.f_p_is_stretch a.d_p_is_stretch ["begin", "end"] (lowP K sp_p_is_stretch) := by
  have G_p_is_moment : FnOk P w K mg base CX0 1 a.f_p_is_moment a.d_p_is_moment ["thing"] (lowP K sp_p_is_moment) := ok_p_is_moment F T
  refine fn3 F.p_is_stretch sc_p_is_stretch (fun ws G R h => (by exact lenB2 h)) (fun cdv A outer s H E ws G R hr h => ?_)
  have hu : (A.deeper (PyProof.Rows.envOfC "is_stretch" (defScope s_p_is_stretch) s.heap.objs.size a.f_p_is_stretch cdv)).units + 66 < cLine := by have := hr.un; omega
  refine ⟨_, (z_cons (z_if (q_notT (q_val (q_call G_p_is_moment (hr.mono (by decide)) rfl T.m_p_is_moment T.k_p_is_moment (b_p_is_moment F) (q_cons (q_var (pv 0)) q_nil se_Name) (he := se_Name) (hpl := hp_nil))))
    (z_one (z_ret q_bl))
    z_nil)
    (z_cons (z_if (q_cmpT o_is (q_var (pv 1)) q_non (nomark _))
    (z_one (z_ret q_bl))
    z_nil)
    (z_one (z_ret (q_andV (q_call G_p_is_moment (hr.mono (by decide)) rfl T.m_p_is_moment T.k_p_is_moment (b_p_is_moment F) (q_cons (q_var (pv 1)) q_nil se_Name) (he := se_Name) (hpl := hp_nil)) (q_one (q_cmp o_lt (q_var (pv 0)) (q_var (pv 1)) (nomark _)))))))), ?_⟩
  obtain ⟨x, y, rfl, hx, hy, q⟩ := h
  walk_at "go"
  refine ⟨x, rfl, hx, fun G1 s1 => ?_⟩
  have no : ∀ G', Sm G G' → strB x y = false → R (.bl false) G' := fun G' s e => by have := q G' s; rw [e] at this; exact this
  walk_at "go"
  refine ifNB (fun c => ?_) fun c => ?_
  · walk_at "go"
    exact no _ s1 (by unfold strB; rw [c]; rfl)
  · walk_at "go"
    refine ifD (fun z => ?_) fun z => ?_
    · walk_at "go"
      have := q _ s1
      unfold strB at this
      rw [c, z] at this
      exact this
    · walk_at "go"
      refine ⟨y, rfl, hy.sm s1, fun G2 s2 => ?_⟩
      have s12 := s1.trans s2
      walk_at "go"
      refine ifB (fun c2 => ?_) fun c2 => ?_
      · obtain ⟨i, rfl⟩ : ∃ i, x = .int i := by cases x <;> first | exact ⟨_, rfl⟩ | cases c
        obtain ⟨j, rfl⟩ : ∃ j, y = .int j := by cases y <;> first | exact ⟨_, rfl⟩ | cases c2
        walk_at "go"
        have := q _ s12
        unfold strB at this
        rw [c] at this
        dsimp only at this
        rw [c2, Bool.true_and, Bool.true_and] at this
        exact this
      · refine no _ s12 ?_
        unfold strB
        rw [c, Bool.true_and]
        cases y <;> first | rfl | exact absurd rfl z | (dsimp only; rw [c2]; rfl)
def isL (c : Nat) : Prop := 97 ≤ c ∧ c ≤ 122
def nmOk (s : Str) : Prop := 1 ≤ s.cps.toList.length ∧ s.cps.toList.length ≤ 8 ∧ ∀ c ∈ s.cps.toList, isL c
theorem len_s (s : Str) : s.length = s.cps.toList.length := by rw [Array.length_toList]; rfl
theorem strOk_of {s : Str} (h : ∀ c ∈ s.cps.toList, isL c) : PyData.strOk s = true := by
  unfold PyData.strOk
  rw [Array.all_eq_true_iff_forall_mem]
  intro c hc
  have := (h c (by simpa using hc)).2
  exact decide_eq_true (by omega)
theorem nm_flat {s : Str} (h : nmOk s) {n : Nat} : flat n (.str s) = true := by
  have := strOk_of h.2.2
  cases n <;> exact this
theorem nm_th {G : Hq} {s : Str} (h : nmOk s) : Th G (.str s) := ⟨by rw [len_s]; have := h.2.1; omega, strOk_of h.2.2⟩
theorem nm_b {s : Str} (h : nmOk s) : nameB (.str s) = true := by
  rw [name_str, decide_eq_true (by rw [len_s]; exact h.1), decide_eq_true (by rw [len_s]; exact h.2.1)]
  rw [Bool.true_and, Bool.true_and, List.all_eq_true]
  intro c hc
  obtain ⟨h1, h2⟩ := h.2.2 c hc
  unfold okC
  rw [decide_eq_true h1, decide_eq_true h2]; rfl
def T12 : Int := 1000000000000
def stOk (b : Int) (e : Option Int) : Prop := 0 ≤ b ∧ b ≤ T12 ∧ ∀ x, e = some x → b < x ∧ x ≤ T12
theorem stOk.bef {b : Int} {e : Option Int} (h : stOk b e) : bef b e = true := by
  cases e with
  | none => rfl
  | some x => simp only [Lw.bef, decide_eq_true_eq]; exact (h.2.2 x rfl).1
theorem st_b {b : Int} {e : Option Int} (h : stOk b e) : strB (.int b) (oz e) = true := by
  obtain ⟨h1, h2, h3⟩ := h
  unfold T12 at *
  unfold strB
  rw [mom_int, decide_eq_true h1, decide_eq_true h2]
  cases e with
  | none => rfl
  | some x =>
    obtain ⟨h4, h5⟩ := h3 x rfl
    show (true && (momB (.int x) && decide (b < x))) = true
    rw [mom_int, decide_eq_true (show 0 ≤ x by omega), decide_eq_true h5, decide_eq_true h4]; rfl
def Plain (l : List Rw) : Prop := ∀ r ∈ l, ∃ x, r.w = [x] ∧ flat 0 x = true
theorem Plain.one {l : List Rw} (h : Plain l) : One l := fun r hr => let ⟨x, e, _⟩ := h r hr; ⟨x, e⟩
theorem Plain.okR {l : List Rw} (h : Plain l) : OkR l := fun r hr => by
  obtain ⟨x, e, f⟩ := h r hr
  rw [e]
  exact okV_w (flat_mono (by decide) f)
theorem Plain.nil : Plain [] := fun r hr => by simp at hr
theorem plain_put {L : List Rw} {b : Int} {e : Option Int} {z : Z} (h : Plain L) (f : flat 0 z = true) : Plain (putOn L b e (optW z)) := fun r hr => by
  unfold putOn at hr
  have hp : Plain (pieces L b e (optW z)) := fun r hr => by
    unfold pieces at hr
    rcases List.mem_append.mp hr with hr | hr
    · rcases List.mem_append.mp hr with hr | hr
      · obtain ⟨r0, h1, _, rfl⟩ := mem_ahead hr
        exact h r0 h1
      · unfold optW at hr
        split at hr
        · next w e => split at e
                      · cases e
                      · cases e; rw [List.mem_singleton.mp hr]; exact ⟨z, rfl, f⟩
        · simp at hr
    · cases e with
      | none => simp at hr
      | some e =>
        obtain ⟨r0, h1, _, rfl⟩ := mem_from hr
        exact h r0 h1
  have key : ∀ (ps told : List Rw), Plain told → Plain ps → Plain (ps.foldl jn told) := by
    intro ps
    induction ps with
    | nil => exact fun _ h _ => h
    | cons p ps ih =>
      intro told ht hps
      refine ih (jn told p) (fun r hr => ?_) fun r hr => hps r (.tail _ hr)
      have := hps p (.head _)
      unfold jn at hr
      split at hr
      · split at hr
        · rcases List.mem_append.mp hr with hr | hr
          · exact ht r (List.dropLast_subset _ hr)
          · rw [List.mem_singleton.mp hr]; exact this
        · rcases List.mem_append.mp hr with hr | hr
          · exact ht r hr
          · rw [List.mem_singleton.mp hr]; exact this
      · rcases List.mem_append.mp hr with hr | hr
        · exact ht r hr
        · rw [List.mem_singleton.mp hr]; exact this
  exact key _ [] Plain.nil hp r hr
structure Tl where
  key : Str
  w : Option Str
  b : Int
  e : Option Int
abbrev sPut : Str := Str.ofString "put"
abbrev sClear : Str := Str.ofString "clear"
def Tl.z (τ : Tl) : Z := match τ.w with
  | some w => .tup [.str sPut, .str τ.key, .str w, .int τ.b, oz τ.e]
  | none => .tup [.str sClear, .str τ.key, .int τ.b, oz τ.e]
def Tl.v (τ : Tl) : Z := match τ.w with
  | some w => .str w
  | none => .non
structure Tl.Ok (τ : Tl) : Prop where
  k : nmOk τ.key
  w : ∀ s, τ.w = some s → nmOk s
  st : stOk τ.b τ.e
theorem Tl.Ok.v {τ : Tl} (h : τ.Ok) : flat 0 τ.v = true := by
  unfold Tl.v
  cases e : τ.w with
  | none => rfl
  | some w => exact nm_flat (h.w w e)
def Tl.rw (τ : Tl) : Rw := ⟨τ.b, τ.e, [τ.v]⟩
def putsK (T : List Tl) (k : Str) : List Rw := (T.filter fun τ => decide (τ.key = k)).map Tl.rw
theorem putsK_snoc {T : List Tl} {τ : Tl} {k : Str} : putsK (T ++ [τ]) k = putsK T k ++ (if τ.key = k then [τ.rw] else []) := by
  unfold putsK
  rw [List.filter_append, List.map_append]
  congr 1
  by_cases c : τ.key = k <;> simp [c]
structure IsLine (T : List Tl) (k : Str) (L : List Rw) : Prop where
  can : Can L
  pl : Plain L
  len : L.length ≤ 2 * T.length
  v : ∀ t, val L t = optW (lastAt (putsK T k) t)
theorem IsLine.nil {T : List Tl} {k : Str} (h : putsK T k = []) : IsLine T k [] := ⟨Can.nil, Plain.nil, by simp, fun t => by rw [h]; rfl⟩
theorem IsLine.snoc {T : List Tl} {τ : Tl} {L : List Rw} (h : IsLine T τ.key L) (o : τ.Ok) : IsLine (T ++ [τ]) τ.key (putOn L τ.b τ.e (optW τ.v)) := by
  have po := putOn_ok (w := optW τ.v) h.can.rise o.st.bef
  refine ⟨po.1, plain_put h.pl o.v, by have := po.2.2; have := h.len; simp; omega, fun t => ?_⟩
  rw [putsK_snoc, if_pos rfl, lastAt_snoc, po.2.1 t, h.v t]
  unfold Rw.has
  show _ = optW (if (decide (τ.b ≤ t) && bef t τ.e) = true then τ.v else lastAt (putsK T τ.key) t)
  split <;> rfl
def ixF (k : Str) : Nat → List Tl → List Int
  | _, [] => []
  | n, τ :: T => (if τ.key = k then [(n : Int) + 1] else []) ++ ixF k (n + 1) T
def ix (T : List Tl) (k : Str) : List Int := ixF k 0 T
theorem ixF_snoc {k : Str} {τ : Tl} : ∀ (n : Nat) (T : List Tl), ixF k n (T ++ [τ]) = ixF k n T ++ (if τ.key = k then [(n + T.length : Int) + 1] else [])
  | n, [] => by simp [ixF]
  | n, σ :: T => by
    rw [List.cons_append, ixF, ixF_snoc, ixF, List.append_assoc]
    congr 2
    split
    · congr 1; rw [List.length_cons]; omega
    · rfl
theorem ix_snoc {k : Str} {τ : Tl} {T : List Tl} : ix (T ++ [τ]) k = ix T k ++ (if τ.key = k then [(T.length : Int) + 1] else []) := by
  unfold ix
  rw [ixF_snoc]
  simp
theorem ixF_ge {k : Str} : ∀ {n : Nat} {T : List Tl} {i : Int}, i ∈ ixF k n T → (n : Int) + 1 ≤ i ∧ i ≤ n + T.length
  | _, [], i, h => by simp [ixF] at h
  | n, τ :: T, i, h => by
    rw [ixF] at h
    rw [List.length_cons]
    rcases List.mem_append.mp h with h | h
    · split at h
      · rw [List.mem_singleton.mp h]; omega
      · simp at h
    · have := ixF_ge h; omega
theorem ix_ge {k : Str} {T : List Tl} {i : Int} (h : i ∈ ix T k) : 1 ≤ i ∧ i ≤ T.length := by
  have := ixF_ge h
  simpa using this
theorem len_ixF {k : Str} : ∀ (n : Nat) (T : List Tl), (ixF k n T).length ≤ T.length
  | _, [] => by simp [ixF]
  | n, τ :: T => by
    have := len_ixF (k := k) (n + 1) T
    rw [ixF, List.length_append, List.length_cons]
    split <;> simp <;> omega
theorem len_ix (T : List Tl) (k : Str) : (ix T k).length ≤ T.length := len_ixF 0 T
theorem ixF_sorted {k : Str} : ∀ (n : Nat) (T : List Tl), (ixF k n T).Pairwise (· < ·)
  | _, [] => .nil
  | n, τ :: T => by
    rw [ixF]
    refine List.pairwise_append.mpr ⟨by split <;> simp, ixF_sorted (n + 1) T, fun x hx y hy => ?_⟩
    have := ixF_ge hy
    split at hx
    · rw [List.mem_singleton.mp hx]; omega
    · simp at hx
theorem ix_sorted (T : List Tl) (k : Str) : (ix T k).Pairwise (· < ·) := ixF_sorted 0 T
theorem puts_cut {k : Str} : ∀ (n : Nat) (T : List Tl) (s q : Nat), s ≤ q → (∀ i ∈ ixF k n T, (i : Int) ≤ n + s ∨ (n + q : Int) < i) → putsK (T.take q) k = putsK (T.take s) k
  | n, [], s, q, _, _ => by simp
  | n, τ :: T, s, 0, hs, _ => by
    have : s = 0 := by omega
    subst this; rfl
  | n, τ :: T, 0, q + 1, hs, h => by
    have hk : ¬ τ.key = k := fun e => by
      have := h ((n : Int) + 1) (by rw [ixF, if_pos e]; simp)
      omega
    have ih := puts_cut (k := k) (n + 1) T 0 q (by omega) fun i hi => by
      rcases h i (by rw [ixF]; simp [hi]) with c | c
      · have := ixF_ge hi; omega
      · right; omega
    rw [List.take_succ_cons]
    unfold putsK at ih ⊢
    rw [List.filter_cons, if_neg (by simpa using hk), ih]
    simp
  | n, τ :: T, s + 1, q + 1, hs, h => by
    have ih := puts_cut (k := k) (n + 1) T s q (by omega) fun i hi => by
      rcases h i (by rw [ixF]; simp [hi]) with c | c
      · left; omega
      · right; omega
    rw [List.take_succ_cons, List.take_succ_cons]
    unfold putsK at ih ⊢
    rw [List.filter_cons, List.filter_cons]
    split
    · rw [List.map_cons, List.map_cons, ih]
    · exact ih
theorem IsLine.cut {T : List Tl} {k : Str} {L : List Rw} {s q : Nat} (h : IsLine (T.take s) k L) (hs : s ≤ q) (hi : ∀ i ∈ ix T k, i ≤ (s : Int) ∨ (q : Int) < i) : IsLine (T.take q) k L := by
  have e := puts_cut (k := k) 0 T s q hs fun i h => by have := hi i h; simpa using this
  exact ⟨h.can, h.pl, by have := h.len; rw [List.length_take] at this ⊢; omega, fun t => by rw [e]; exact h.v t⟩
abbrev sLast : Str := Str.ofString "last"
abbrev sKept : Str := Str.ofString "kept"
def shF (n : Int) (d : Addr) : List (Str × Z) := [(sLast, .int n), (sKept, .ref d)]
theorem ne_lk : ¬ (sLast = sKept) := by decide +kernel
theorem pq_kept {n : Int} {d : Addr} : putQ sKept (.ref d) [(sLast, .int n)] = shF n d := by
  unfold putQ
  rw [if_neg ne_lk]; rfl
theorem pq_last {n m : Int} {d : Addr} : putQ sLast (.int m) (shF n d) = shF m d := by
  unfold shF putQ
  rw [if_pos rfl]
theorem lk_last {n : Int} {d : Addr} : (shF n d).lookup sLast = some (.int n) := by
  unfold shF
  rw [List.lookup_cons, beq_self_eq_true]
theorem lk_kept {n : Int} {d : Addr} : (shF n d).lookup sKept = some (.ref d) := by
  unfold shF
  rw [List.lookup_cons, show (sKept == sLast) = false by decide +kernel, List.lookup_cons, beq_self_eq_true]
theorem lk_no {n : Int} {d : Addr} {m : Str} (h1 : (m == sLast) = false) (h2 : (m == sKept) = false) : (shF n d).lookup m = none := by
  unfold shF
  rw [List.lookup_cons, h1, List.lookup_cons, h2]; rfl
abbrev enZ (e : Int × Addr) : Z := .tup [.int e.1, .ref e.2]
structure Hist (G : Hq) (S : Addr → Prop) (T : List Tl) (k : Str) (h : Addr) (es : List (Int × Addr)) : Prop where
  s : S h
  at_ : G h = some (.lst (es.map enZ))
  ix : es.map (·.1) = ix T k
  ne : es ≠ []
  ln : ∀ e ∈ es, S e.2 ∧ ∃ L, G e.2 = some (.lst (L.map Rw.z)) ∧ IsLine (T.take e.1.toNat) k L
structure ShM (C : Addr) (G : Hq) (p : Addr) (S : Addr → Prop) (T : List Tl) (n : Int) (dx d : Addr) (kvs : List (Key × Z)) : Prop where
  ob : G p = some (.ins C dx (shF n d))
  sp : S p
  sd : S d
  dc : G d = some (.dK kvs)
  len : kvs.length ≤ T.length
  no : ∀ k, valZ kvs (.inr k) = none → ix T k = []
  hs : ∀ k z, valZ kvs (.inr k) = some z → ∃ h es, z = .ref h ∧ Hist G S T k h es
  inj : ∀ k k' z, valZ kvs (.inr k) = some z → valZ kvs (.inr k') = some z → k = k'
  al : ∀ b, S b → ∃ o, G b = some o
def Sheet (C : Addr) (G : Hq) (p : Addr) (S : Addr → Prop) (T : List Tl) : Prop := ∃ dx d kvs, ShM C G p S T T.length dx d kvs
def KS (S : Addr → Prop) (G G' : Hq) : Prop := ∀ b o, S b → G b = some o → G' b = some o
def KN (S : Addr → Prop) (G G' : Hq) : Prop := ∀ b o, ¬ S b → G b = some o → G' b = some o
theorem Sm.ks {S : Addr → Prop} {G G' : Hq} (s : Sm G G') : KS S G G' := fun b o _ e => s b o e
theorem Sm.kn {S : Addr → Prop} {G G' : Hq} (s : Sm G G') : KN S G G' := fun b o _ e => s b o e
theorem KN.trans {S : Addr → Prop} {G G1 G2 : Hq} (a : KN S G G1) (b : KN S G1 G2) : KN S G G2 := fun c o n e => b c o n (a c o n e)
theorem Hist.keep {G G' : Hq} {S : Addr → Prop} {T : List Tl} {k : Str} {h : Addr} {es : List (Int × Addr)} (H : Hist G S T k h es) (q : KS S G G') : Hist G' S T k h es :=
  ⟨H.s, q _ _ H.s H.at_, H.ix, H.ne, fun e he => let ⟨s, L, a, b⟩ := H.ln e he; ⟨s, L, q _ _ s a, b⟩⟩
theorem ShM.keep {C : Addr} {G G' : Hq} {p : Addr} {S : Addr → Prop} {T : List Tl} {n : Int} {dx d : Addr} {kvs : List (Key × Z)} (H : ShM C G p S T n dx d kvs) (q : KS S G G') : ShM C G' p S T n dx d kvs :=
  ⟨q _ _ H.sp H.ob, H.sp, H.sd, q _ _ H.sd H.dc, H.len, H.no, fun k z e => let ⟨h, es, a, b⟩ := H.hs k z e; ⟨h, es, a, b.keep q⟩, H.inj, fun b hb => let ⟨o, e⟩ := H.al b hb; ⟨o, q b o hb e⟩⟩
theorem Sheet.keep {C : Addr} {G G' : Hq} {p : Addr} {S : Addr → Prop} {T : List Tl} (H : Sheet C G p S T) (q : KS S G G') : Sheet C G' p S T := let ⟨dx, d, kvs, h⟩ := H; ⟨dx, d, kvs, h.keep q⟩
theorem i_callX {sp : PX3} {EE : Addr → Hq → Prop} {t : A3} {σ : S3} {G : Hq} {R : K3} (h : t σ G fun ws G1 => sp ws G1 R EE) : uCallX sp EE t σ G R := h
theorem i_raise {EE : Addr → Hq → Prop} {C : Addr} {te : E3} {nx : C3} {rt : K3} {bk ct : C3} {σ : S3} {G : Hq} (h : te σ G fun _ G1 => EE C G1) : uRaise EE C te nx rt bk ct σ G := h
theorem i_methX {C : Addr} {m : Str} {sp : PX3} {EE : Addr → Hq → Prop} {to : E3} {t : A3} {σ : S3} {G : Hq} {R : K3} (h : to σ G fun x G1 => ∃ q dx fs, x = .ref q ∧ G1 q = some (.ins C dx fs) ∧ fs.lookup m = none ∧ t σ G1 fun ws G2 => sp (.ref q :: ws) G2 R EE) : uMethX C m sp EE to t σ G R := h
theorem i_tryM {PC : Addr → Prop} {i : Nat} {C : Addr} {m : Str} {sp : PX3} {to : E3} {t : A3} {th : Addr → Addr → X3} {nx : C3} {rt : K3} {bk ct : C3} {σ : S3} {G : Hq} (h : to σ G fun x G1 => ∃ q dx fs, x = .ref q ∧ G1 q = some (.ins C dx fs) ∧ fs.lookup m = none ∧ t σ G1 fun ws G2 =>
  sp (.ref q :: ws) G2 (fun _ G3 => nx σ G3) fun C' G3 => PC C' ∧ ∀ e, th C' e (fun σ' G' => nx (σ'.set i none) G') rt (fun σ' G' => bk (σ'.set i none) G') (fun σ' G' => ct (σ'.set i none) G') (σ.set i (some (.ref e))) G3) : uTryM PC i C m sp to t th nx rt bk ct σ G := h
local macro_rules | `(tactic| walk_at "go1") => `(tactic| with_reducible (first | refine i_callX ?_ | refine i_raise ?_ | refine i_methX ?_ | refine i_tryM ?_))
def sp_p_check_name (a : Ad) : PX3 := fun ws G R EE => ∃ x, ws = [x] ∧ Th G x ∧ ∀ G', Sm G G' → if nameB x = true then R .non G' else EE a.x_NoName G'
theorem len_p_check_name {a : Ad} {ws : List Z} {G : Hq} {R : K3} {EE : Addr → Hq → Prop} (h : sp_p_check_name a ws G R EE) : ws.length = 1 := by obtain ⟨_, rfl, _⟩ := h; rfl
theorem ok_p_check_name {P : Program} {w : World} {K : PySem.W.Frag} {mg : Str → Option Value} {base : Heap} {a : Ad} (F : Fns K a) (T : Txt K mg a) : FnOk P w K mg base (CXx P w) 2 a.f_p_check_name a.d_p_check_name ["thing"] (lowPx K (sp_p_check_name a)) := by
  have G_p_is_name : FnOk P w K mg base CX0 1 a.f_p_is_name a.d_p_is_name ["thing"] (lowP K sp_p_is_name) := ok_p_is_name F T
  refine fn3x F.p_check_name sc_p_check_name (fun ws G R EE h => (by exact len_p_check_name h)) (fun cdv A outer s H E ws G R EE hr h ux => ?_)
  have hu : (A.deeper (PyProof.Rows.envOfC "check_name" (defScope s_p_check_name) s.heap.objs.size a.f_p_check_name cdv)).units + 66 < cLine := by have := hr.un; omega
  refine ⟨_, (z_one (z_if (q_notT (q_val (q_call G_p_is_name (hr.mono (by decide)) rfl T.m_p_is_name T.k_p_is_name (b_p_is_name F) (q_cons (q_var (pv 0)) q_nil se_Name) (he := se_Name) (hpl := hp_nil))))
    (z_one (z_raise Outs.of ux rfl rfl T.x_NoName T.xi_NoName q_str se_Constant hp_nil))
    z_nil)), ?_⟩
  obtain ⟨x, rfl, hx, q⟩ := h
  walk_at "go"
  refine ⟨_, rfl, hx, fun G' s1 => ?_⟩
  have q' := q G' s1
  walk_at "go"
  refine ifNB (fun c => ?_) fun c => ?_
  · rw [c] at q'
    walk_at "go"
    exact q'
  · rw [c] at q'
    walk_at "go"
    exact q'
def sp_p_check_stretch (a : Ad) : PX3 := fun ws G R EE => ∃ x y, ws = [x, y] ∧ Th G x ∧ Th G y ∧ ∀ G', Sm G G' → if strB x y = true then R .non G' else EE a.x_NoStretch G'
theorem len_p_check_stretch {a : Ad} {ws : List Z} {G : Hq} {R : K3} {EE : Addr → Hq → Prop} (h : sp_p_check_stretch a ws G R EE) : ws.length = 2 := by obtain ⟨_, _, rfl, _⟩ := h; rfl
theorem ok_p_check_stretch {P : Program} {w : World} {K : PySem.W.Frag} {mg : Str → Option Value} {base : Heap} {a : Ad} (F : Fns K a) (T : Txt K mg a) : FnOk P w K mg base (CXx P w) 3 a.f_p_check_stretch a.d_p_check_stretch ["begin", "end"] (lowPx K (sp_p_check_stretch a)) := by
  have G_p_is_stretch : FnOk P w K mg base CX0 2 a.f_p_is_stretch a.d_p_is_stretch ["begin", "end"] (lowP K sp_p_is_stretch) := ok_p_is_stretch F T
  refine fn3x F.p_check_stretch sc_p_check_stretch (fun ws G R EE h => (by exact len_p_check_stretch h)) (fun cdv A outer s H E ws G R EE hr h ux => ?_)
  have hu : (A.deeper (PyProof.Rows.envOfC "check_stretch" (defScope s_p_check_stretch) s.heap.objs.size a.f_p_check_stretch cdv)).units + 66 < cLine := by have := hr.un; omega
  refine ⟨_, (z_one (z_if (q_notT (q_val (q_call G_p_is_stretch (hr.mono (by decide)) rfl T.m_p_is_stretch T.k_p_is_stretch (b_p_is_stretch F) (q_cons (q_var (pv 0)) (q_cons (q_var (pv 1)) q_nil se_Name) se_Name) (he := se_Name) (hpl := (hp_cons se_Name hp_nil)))))
    (z_one (z_raise Outs.of ux rfl rfl T.x_NoStretch T.xi_NoStretch q_str se_Constant hp_nil))
    z_nil)), ?_⟩
  obtain ⟨x, y, rfl, hx, hy, q⟩ := h
  walk_at "go"
  refine ⟨_, _, rfl, hx, hy, fun G' s1 => ?_⟩
  have q' := q G' s1
  walk_at "go"
  refine ifNB (fun c => ?_) fun c => ?_
  · rw [c] at q'
    walk_at "go"
    exact q'
  · rw [c] at q'
    walk_at "go"
    exact q'
structure Tel (G : Hq) (z : Z) (h : Z) (nm : List Z) (x y : Z) : Prop where
  e : z = .tup (h :: (nm ++ [x, y]))
  l : (∃ k, nm = [k]) ∨ ∃ k w, nm = [k, w]
  n : ∀ z ∈ nm, Th G z
  x : Th G x
  y : Th G y
theorem Tel.sm {G G' : Hq} {z h : Z} {nm : List Z} {x y : Z} (T : Tel G z h nm x y) (s : Sm G G') : Tel G' z h nm x y := ⟨T.e, T.l, fun z hz => (T.n z hz).sm s, T.x.sm s, T.y.sm s⟩
def sp_p_check_telling (a : Ad) : PX3 := fun ws G R EE => Ex5 fun (z h : Z) (nm : List Z) (x y : Z) => ws = [z] ∧ Tel G z h nm x y ∧ ∀ G', Sm G G' → if nm.all nameB = true then (if strB x y = true then R .non G' else EE a.x_NoStretch G') else EE a.x_NoName G'
theorem len_p_check_telling {a : Ad} {ws : List Z} {G : Hq} {R : K3} {EE : Addr → Hq → Prop} (h : sp_p_check_telling a ws G R EE) : ws.length = 1 := by obtain ⟨_, _, _, _, _, rfl, _⟩ := h; rfl
theorem cut_1 {h k x y : Z} : cutZ [h, k, x, y] (some 1) (some (-2)) = [k] := rfl
theorem cut_2 {h k w x y : Z} : cutZ [h, k, w, x, y] (some 1) (some (-2)) = [k, w] := rfl
theorem all_false {l : List Z} {f : Z → Bool} {x : Z} (h : x ∈ l) (c : f x = false) : l.all f = false := List.all_eq_false.mpr ⟨x, h, by rw [c]; decide⟩
theorem all_take {l : List Z} {f : Z → Bool} {i : Nat} {x : Z} (h : (l.take i).all f = true) (e : l[i]? = some x) (c : f x = true) : (l.take (i + 1)).all f = true := by
  rw [List.take_add_one, List.all_append, h, e]
  show (true && ([x].all f)) = true
  rw [List.all_cons, c]; rfl
theorem ok_p_check_telling {P : Program} {w : World} {K : PySem.W.Frag} {mg : Str → Option Value} {base : Heap} {a : Ad} (F : Fns K a) (T : Txt K mg a) : FnOk P w K mg base (CXx P w) 4 a.f_p_check_telling a.d_p_check_telling ["telling"] (lowPx K (sp_p_check_telling a)) := by
  have G_p_check_stretch : FnOk P w K mg base (CXx P w) 3 a.f_p_check_stretch a.d_p_check_stretch ["begin", "end"] (lowPx K (sp_p_check_stretch a)) := ok_p_check_stretch F T
  have G_p_check_name : FnOk P w K mg base (CXx P w) 2 a.f_p_check_name a.d_p_check_name ["thing"] (lowPx K (sp_p_check_name a)) := ok_p_check_name F T
  refine fn3x F.p_check_telling sc_p_check_telling (fun ws G R EE h => (by exact len_p_check_telling h)) (fun cdv A outer s H E ws G R EE hr h ux => ?_)
  have hu : (A.deeper (PyProof.Rows.envOfC "check_telling" (defScope s_p_check_telling) s.heap.objs.size a.f_p_check_telling cdv)).units + 66 < cLine := by have := hr.un; omega
  refine ⟨_, (z_cons (z_for (pt := (.nm 1)) PassesOwn.leaving rfl (it_tup (q_slice x_sl (q_var (pv 0)) (q_part q_int) (q_part (q_un o_neg q_int)))) (show QP _ _ (.nm 1) from (pg_name (i := 1) sc_p_check_telling.nd rfl (Or.inl rfl)))
    (z_one (z_expr (q_callX (passes_x Outs.of) ux.since G_p_check_name (hr.mono (by decide)) rfl T.m_p_check_name T.k_p_check_name (b_p_check_name F) (q_cons (q_var (pv 1)) q_nil se_Name) (he := se_Name) (hpl := hp_nil)))))
    (z_one (z_expr (q_callX (passes_x Outs.of) ux.since G_p_check_stretch (hr.mono (by decide)) rfl T.m_p_check_stretch T.k_p_check_stretch (b_p_check_stretch F) (q_cons (q_ix x_ix (q_var (pv 0)) (q_un o_neg q_int) (fun _ _ => rfl)) (q_cons (q_ix x_ix (q_var (pv 0)) (q_un o_neg q_int) (fun _ _ => rfl)) q_nil se_Subscript) se_Subscript) (he := se_Subscript) (hpl := (hp_cons se_Subscript hp_nil)))))), ?_⟩
  obtain ⟨z, h, nm, x, y, rfl, ⟨rfl, hl, hn, hx, hy⟩, q⟩ := h
  rcases hl with ⟨k, rfl⟩ | ⟨k, w, rfl⟩
  · show uSeq _ _ _ _ _ _ (start3 _ [.tup [h, k, x, y]]) _
    walk_at "go"
    refine i_slT (show ¬ (HT.sIx 4 0 (some 1) = 0 ∧ HT.sIx 4 4 (some (-2)) = 4) by decide) ?_
    rw [cut_1]
    walk_at "go"
    refine for_by (fun i σ G' => ∃ v : Option Z, Sm G G' ∧ (([k] : List Z).take i).all nameB = true ∧ σ = [some (.tup [h, k, x, y]), v]) ⟨_, Sm.refl _, rfl, rfl⟩ (fun _ _ _ _ _ => True.intro) ?_ ?_
    · rintro i u σ G' hu ⟨v, s, ha, rfl⟩
      have hm := List.mem_of_getElem? hu
      refine ⟨_, rfl, ?_⟩
      walk_at "go"
      refine ⟨u, rfl, (hn u hm).sm s, fun G1 s1 => ?_⟩
      have q' := q G1 (s.trans s1)
      refine ifB (fun c => ?_) fun c => ?_
      · walk_at "go"
        exact ⟨_, s.trans s1, all_take ha hu c, rfl⟩
      · rw [all_false hm c] at q'
        exact q'
    · rintro σ G' ⟨v, s, ha, rfl⟩
      have ha : ([k] : List Z).all nameB = true := ha
      walk_at "go"
      refine ⟨x, y, rfl, hx.sm s, hy.sm s, fun G1 s1 => ?_⟩
      have q' := q G1 (s.trans s1)
      rw [ha] at q'
      refine ifB (fun c => ?_) fun c => ?_
      · rw [c] at q'
        walk_at "go"
        exact q'
      · rw [c] at q'
        exact q'
  · show uSeq _ _ _ _ _ _ (start3 _ [.tup [h, k, w, x, y]]) _
    walk_at "go"
    refine i_slT (show ¬ (HT.sIx 5 0 (some 1) = 0 ∧ HT.sIx 5 5 (some (-2)) = 5) by decide) ?_
    rw [cut_2]
    walk_at "go"
    refine for_by (fun i σ G' => ∃ v : Option Z, Sm G G' ∧ (([k, w] : List Z).take i).all nameB = true ∧ σ = [some (.tup [h, k, w, x, y]), v]) ⟨_, Sm.refl _, rfl, rfl⟩ (fun _ _ _ _ _ => True.intro) ?_ ?_
    · rintro i u σ G' hu ⟨v, s, ha, rfl⟩
      have hm := List.mem_of_getElem? hu
      refine ⟨_, rfl, ?_⟩
      walk_at "go"
      refine ⟨u, rfl, (hn u hm).sm s, fun G1 s1 => ?_⟩
      have q' := q G1 (s.trans s1)
      refine ifB (fun c => ?_) fun c => ?_
      · walk_at "go"
        exact ⟨_, s.trans s1, all_take ha hu c, rfl⟩
      · rw [all_false hm c] at q'
        exact q'
    · rintro σ G' ⟨v, s, ha, rfl⟩
      have ha : ([k, w] : List Z).all nameB = true := ha
      walk_at "go"
      refine ⟨x, y, rfl, hx.sm s, hy.sm s, fun G1 s1 => ?_⟩
      have q' := q G1 (s.trans s1)
      rw [ha] at q'
      refine ifB (fun c => ?_) fun c => ?_
      · rw [c] at q'
        walk_at "go"
        exact q'
      · rw [c] at q'
        exact q'
def sp_p_check_in_reach : P3 := fun ws G R => ∃ q n : Int, ws = [.int q, .int n] ∧ 0 ≤ q ∧ q ≤ n ∧ R .non G
theorem len_p_check_in_reach {ws : List Z} {G : Hq} {R : K3} (h : sp_p_check_in_reach ws G R) : ws.length = 2 := by obtain ⟨_, _, rfl, _⟩ := h; rfl
theorem ok_p_check_in_reach {P : Program} {w : World} {K : PySem.W.Frag} {mg : Str → Option Value} {base : Heap} {a : Ad} (F : Fns K a) (T : Txt K mg a) : FnOk P w K mg base CX0 1 a.f_p_check_in_reach a.d_p_check_in_reach ["knowing", "last"] (lowP K sp_p_check_in_reach) := by
  refine fn3 F.p_check_in_reach sc_p_check_in_reach (fun ws G R h => (by exact len_p_check_in_reach h)) (fun cdv A outer s H E ws G R hr h => ?_)
  have hu : (A.deeper (PyProof.Rows.envOfC "check_in_reach" (defScope s_p_check_in_reach) s.heap.objs.size a.f_p_check_in_reach cdv)).units + 66 < cLine := by have := hr.un; omega
  refine ⟨_, (z_one (z_if (QW.qt (q_or (q_cmpT o_lt (q_var (pv 0)) q_int (nomark _)) (q_or1 (q_cmpT o_gt (q_var (pv 0)) (q_var (pv 1)) (nomark _)))))
    (z_one z_never)
    z_nil)), ?_⟩
  obtain ⟨q, n, rfl, h0, h1, k⟩ := h
  walk_at "go"
  refine ifD (fun c => by omega) fun c => ?_
  walk_at "go"
  refine ifD (fun c => by omega) fun c => ?_
  walk_at "go"
  exact k
def sp_p_line_behind : P3 := fun ws G R => ∃ (l : Addr) (L : List Rw) (τ : Tl), ws = [.ref l, τ.z] ∧ G l = some (.lst (L.map Rw.z)) ∧ Rise L ∧ Plain L ∧ L.length ≤ 400 ∧ τ.Ok ∧
  ∀ t G', G t = none → Sm G G' → G' t = some (.lst ((putOn L τ.b τ.e (optW τ.v)).map Rw.z)) → R (.ref t) G'
theorem len_p_line_behind {ws : List Z} {G : Hq} {R : K3} (h : sp_p_line_behind ws G R) : ws.length = 2 := by obtain ⟨_, _, _, rfl, _⟩ := h; rfl
theorem ne_cp : ¬ (sClear = sPut) := by decide +kernel
theorem ok_p_line_behind {P : Program} {w : World} {K : PySem.W.Frag} {mg : Str → Option Value} {base : Heap} {a : Ad} (F : Fns K a) (T : Txt K mg a) : FnOk P w K mg base CX0 4 a.f_p_line_behind a.d_p_line_behind ["line", "telling"] (lowP K sp_p_line_behind) := by
  have G_p_put_on : FnOk P w K mg base CX0 3 a.f_p_put_on a.d_p_put_on ["line", "begin", "end", "worth"] (lowP K sp_p_put_on) := ok_p_put_on F T
  refine fn3 F.p_line_behind sc_p_line_behind (fun ws G R h => (by exact len_p_line_behind h)) (fun cdv A outer s H E ws G R hr h => ?_)
  have hu : (A.deeper (PyProof.Rows.envOfC "line_behind" (defScope s_p_line_behind) s.heap.objs.size a.f_p_line_behind cdv)).units + 66 < cLine := by have := hr.un; omega
  refine ⟨_, (z_cons (z_set (i := 2) sc_p_line_behind.nd rfl (Or.inl rfl) (q_if (q_cmpT (o_eq hu) (q_ix x_ix (q_var (pv 1)) q_int (fun _ _ => rfl)) q_str (nomark _)) (q_ix x_ix (q_var (pv 1)) q_int (fun _ _ => rfl)) q_non))
    (z_one (z_ret (q_call G_p_put_on (hr.mono (by decide)) rfl T.m_p_put_on T.k_p_put_on (b_p_put_on F) (q_cons (q_var (pv 0)) (q_cons (q_ix x_ix (q_var (pv 1)) (q_un o_neg q_int) (fun _ _ => rfl)) (q_cons (q_ix x_ix (q_var (pv 1)) (q_un o_neg q_int) (fun _ _ => rfl)) (q_cons (q_var (pv 2)) q_nil se_Name) se_Subscript) se_Subscript) se_Name) (he := se_Name) (hpl := (hp_cons se_Subscript (hp_cons se_Subscript (hp_cons se_Name hp_nil)))))))), ?_⟩
  obtain ⟨l, L, ⟨key, w, b, e⟩, rfl, hl, hr, hp, hz, ok, q⟩ := h
  have hb := ok.st.bef
  have hv := ok.v
  cases w with
  | none =>
    unfold Tl.z
    walk_at "go"
    refine ifD (fun c => absurd c ne_cp) fun _ => ?_
    walk_at "go"
    exact ⟨l, L, b, e, .non, rfl, hl, hr, hp.okR, hp.one, by omega, hb, rfl, q⟩
  | some w =>
    unfold Tl.z
    walk_at "go"
    refine ifD (fun _ => ?_) fun c => absurd rfl c
    walk_at "go"
    exact ⟨l, L, b, e, .str w, rfl, hl, hr, hp.okR, hp.one, by omega, hb, flat_mono (by decide) hv, q⟩
def sp_Sheet___init__ (a : Ad) : P3 := fun ws G R => ∃ p dx, ws = [.ref p] ∧ G p = some (.ins a.c_Sheet dx []) ∧ ∀ d G', G d = none → (∀ b o, G b = some o → b ≠ p → G' b = some o) → Sheet a.c_Sheet G' p (fun x => x = p ∨ x = d) [] → R .non G'
theorem len_Sheet___init__ {a : Ad} {ws : List Z} {G : Hq} {R : K3} (h : sp_Sheet___init__ a ws G R) : ws.length = 1 := by obtain ⟨_, _, rfl, _⟩ := h; rfl
theorem ok_Sheet___init__ {P : Program} {w : World} {K : PySem.W.Frag} {mg : Str → Option Value} {base : Heap} {a : Ad} (F : Fns K a) (T : Txt K mg a) : FnOk P w K mg base CX0 1 a.f_Sheet___init__ a.d_Sheet___init__ ["self"] (lowP K (sp_Sheet___init__ a)) := by
  refine fn3 F.Sheet___init__ sc_Sheet___init__ (fun ws G R h => (by exact len_Sheet___init__ h)) (fun cdv A outer s H E ws G R hr h => ?_)
  have hu : (A.deeper (PyProof.Rows.envOfC "Sheet.__init__" (defScope s_Sheet___init__) s.heap.objs.size a.f_Sheet___init__ cdv)).units + 66 < cLine := by have := hr.un; omega
  refine ⟨_, (z_cons (z_fld T.cl_Sheet T.na_last (q_var (pv 0)) q_int)
    (z_one (z_fld T.cl_Sheet T.na_kept (q_var (pv 0)) q_dnew))), ?_⟩
  obtain ⟨p, dx, rfl, hp, q⟩ := h
  walk_at "go"
  refine ⟨p, dx, [], rfl, hp, by decide, ?_⟩
  walk_at "go"
  intro d hd
  have hpd : p ≠ d := gne_none put_same hd
  walk_at "go"
  refine ⟨p, dx, [(sLast, .int 0)], rfl, by rw [put_ne hpd]; exact put_same, by decide, ?_⟩
  rw [pq_kept]
  walk_at "go"
  have hd0 : G d = none := by rw [put_ne (Ne.symm hpd)] at hd; exact hd
  refine q d _ hd0 (fun b o e nb => ?_) ⟨dx, d, [], ⟨put_same, .inl rfl, .inr rfl, ?_, by simp, fun k _ => rfl, (fun k z e => by cases e), (fun k k' z e => by cases e), ?_⟩⟩
  · rw [put_ne nb, put_ne (gne_none e hd0), put_ne nb]; exact e
  · rw [put_ne (Ne.symm hpd)]; exact put_same
  · rintro b (rfl | rfl)
    · exact ⟨_, put_same⟩
    · exact ⟨_, by rw [put_ne (Ne.symm hpd)]; exact put_same⟩
def sp_Sheet_check_knowing (a : Ad) : P3 := fun ws G R => Ex4 fun (p : Addr) (S : Addr → Prop) (T : List Tl) (q : Int) => ws = [.ref p, .int q] ∧ Sheet a.c_Sheet G p S T ∧ 0 ≤ q ∧ q ≤ T.length ∧ R .non G
theorem len_Sheet_check_knowing {a : Ad} {ws : List Z} {G : Hq} {R : K3} (h : sp_Sheet_check_knowing a ws G R) : ws.length = 2 := by obtain ⟨_, _, _, _, rfl, _⟩ := h; rfl
theorem ok_Sheet_check_knowing {P : Program} {w : World} {K : PySem.W.Frag} {mg : Str → Option Value} {base : Heap} {a : Ad} (F : Fns K a) (T : Txt K mg a) : FnOk P w K mg base CX0 2 a.f_Sheet_check_knowing a.d_Sheet_check_knowing ["self", "knowing"] (lowP K (sp_Sheet_check_knowing a)) := by
  have G_p_check_in_reach : FnOk P w K mg base CX0 1 a.f_p_check_in_reach a.d_p_check_in_reach ["knowing", "last"] (lowP K sp_p_check_in_reach) := ok_p_check_in_reach F T
  refine fn3 F.Sheet_check_knowing sc_Sheet_check_knowing (fun ws G R h => (by exact len_Sheet_check_knowing h)) (fun cdv A outer s H E ws G R hr h => ?_)
  have hu : (A.deeper (PyProof.Rows.envOfC "Sheet.check_knowing" (defScope s_Sheet_check_knowing) s.heap.objs.size a.f_Sheet_check_knowing cdv)).units + 66 < cLine := by have := hr.un; omega
  refine ⟨_, (z_one (z_expr (q_call G_p_check_in_reach (hr.mono (by decide)) rfl T.m_p_check_in_reach T.k_p_check_in_reach (b_p_check_in_reach F) (q_cons (q_var (pv 1)) (q_cons (q_fld T.cl_Sheet T.na_last (q_var (pv 0))) q_nil se_Attribute) se_Name) (he := se_Name) (hpl := (hp_cons se_Attribute hp_nil))))), ?_⟩
  obtain ⟨p, S, T, q, rfl, ⟨dx, d, kvs, sh⟩, h0, h1, k⟩ := h
  walk_at "go"
  refine ⟨p, dx, _, _, rfl, sh.ob, lk_last, ?_⟩
  walk_at "go"
  refine ⟨q, _, rfl, h0, h1, ?_⟩
  walk_at "go"
  exact k
def sp_Sheet_known_line (a : Ad) : P3 := fun ws G R => Ex9 fun (p : Addr) (S : Addr → Prop) (T : List Tl) (k : Str) (q : Int) (n : Int) (dx d : Addr) (kvs : List (Key × Z)) => ws = [.ref p, .str k, .int q] ∧ ShM a.c_Sheet G p S T n dx d kvs ∧ 0 ≤ q ∧ q ≤ T.length ∧ T.length ≤ 200 ∧
  ∀ t L G', G t = none → Sm G G' → G' t = some (.lst (L.map Rw.z)) → IsLine (T.take q.toNat) k L → R (.ref t) G'
theorem len_Sheet_known_line {a : Ad} {ws : List Z} {G : Hq} {R : K3} (h : sp_Sheet_known_line a ws G R) : ws.length = 3 := by obtain ⟨_, _, _, _, _, _, _, _, _, rfl, _⟩ := h; rfl
theorem puts_none {T : List Tl} {k : Str} {q : Nat} (h : ∀ i ∈ ix T k, (q : Int) < i) : putsK (T.take q) k = [] := by
  have := puts_cut (k := k) 0 T 0 q (Nat.zero_le _) fun i hi => by right; have := h i hi; simpa using this
  rw [this]; rfl
theorem rows_id (l : List Rw) : l.filterMap (fun r => some r) = l := by
  induction l with
  | nil => rfl
  | cons r l ih => rw [List.filterMap_cons, ih]
theorem ok_Sheet_known_line {P : Program} {w : World} {K : PySem.W.Frag} {mg : Str → Option Value} {base : Heap} {a : Ad} (F : Fns K a) (T : Txt K mg a) : FnOk P w K mg base CX0 1 a.f_Sheet_known_line a.d_Sheet_known_line ["self", "key", "knowing"] (lowP K (sp_Sheet_known_line a)) := by
  refine fn3 F.Sheet_known_line sc_Sheet_known_line (fun ws G R h => (by exact len_Sheet_known_line h)) (fun cdv A outer s H E ws G R hr h => ?_)
  have hu : (A.deeper (PyProof.Rows.envOfC "Sheet.known_line" (defScope s_Sheet_known_line) s.heap.objs.size a.f_Sheet_known_line cdv)).units + 66 < cLine := by have := hr.un; omega
  refine ⟨_, (z_cons (z_for (pt := (.tp [3, 4])) PassesOwn.never rfl (it_reversed rfl T.b_reversed (q_cons (q_bm PySem.F.plainAttrs_dict PySem.F.slot_dict_get PySem.F.type_dict_get (m_dget hu) (q_fld T.cl_Sheet T.na_kept (q_var (pv 0))) (q_cons (q_var (pv 1)) (q_cons (q_lst q_nil) q_nil se_List) se_Name)) q_nil se_Call)) (show QP _ _ (.tp [3, 4]) from (pg_tup rfl (pgs_cons (pg_name (i := 3) sc_Sheet_known_line.nd rfl (Or.inl rfl)) (pgs_cons (pg_name (i := 4) sc_Sheet_known_line.nd rfl (Or.inl rfl)) pgs_nil))))
    (z_one (z_if (q_cmpT o_le (q_var (pv 3)) (q_var (pv 2)) (nomark _))
    (z_one (z_ret (q_lc (N₀ := ["self", "key", "knowing", "since", "line"]) (so := defScope s_Sheet_known_line) (N' := ["begin", "end", "worth"]) (cap := [none, none, none]) (pt := (.tp [0, 1, 2])) rfl rfl rfl (by decide +kernel) rfl (it_list (q_var (pv 4))) (fun _ _ _ _ => (show QP _ _ (.tp [0, 1, 2]) from (pg_tup rfl (pgs_cons (pg_name (i := 0) (show List.Nodup (α := Str) ["begin", "end", "worth"] from by decide +kernel) rfl (Or.inl rfl)) (pgs_cons (pg_name (i := 1) (show List.Nodup (α := Str) ["begin", "end", "worth"] from by decide +kernel) rfl (Or.inl rfl)) (pgs_cons (pg_name (i := 2) (show List.Nodup (α := Str) ["begin", "end", "worth"] from by decide +kernel) rfl (Or.inl rfl)) pgs_nil)))))) (fun _ _ _ _ => ifs_nil) (fun _ _ _ _ => (q_tup (q_cons (q_var (pv 0)) (q_cons (q_var (pv 1)) (q_cons (q_var (pv 2)) q_nil se_Name) se_Name) se_Name))))))
    z_nil)))
    (z_one (z_ret (q_lst q_nil)))), ?_⟩
  obtain ⟨p, S, T, k, q, n, dx, d, kvs, rfl, sh, h0, h1, hT, fin⟩ := h
  obtain ⟨q, rfl⟩ := Int.eq_ofNat_of_zero_le h0
  walk_at "go"
  refine ⟨p, dx, _, _, rfl, sh.ob, lk_kept, ?_⟩
  refine i_tyD sh.dc ?_
  walk_at "go"
  refine ⟨lenK rfl, fun t0 ht0 => ?_⟩
  walk_at "go"
  refine i_dget (put_old sh.dc ht0) rfl ?_
  have s0 : Sm G (put G t0 (.lst [])) := Sm.new ht0
  have none_ : (∀ i ∈ ix T k, (q : Int) < i) → ∀ (v1 v2 : Option Z) (G1 : Hq), Sm G G1 → ∀ t, G1 t = none → R (.ref t) (put G1 t (.lst [])) := fun hi _ _ G1 s1 t ht =>
    fin t [] _ (s1.free ht) (s1.trans (Sm.new ht)) put_same (by
      have e : ((q : Int)).toNat = q := by omega
      rw [e]; exact IsLine.nil (puts_none hi))
  cases hv : valZ kvs (.inr k) with
  | none =>
    walk_at "go"
    refine ⟨t0, [], rfl, put_same, ?_⟩
    refine for_by (fun i σ G' => ∃ v1 v2 : Option Z, σ = [some (.ref p), some (.str k), some (.int q), v1, v2] ∧ G' = put G t0 (.lst [])) ⟨_, _, rfl, rfl⟩ (fun i σ G' _ ⟨_, _, _, e⟩ => by rw [e]; exact put_same) ?_ ?_
    · rintro i x σ G' hx _
      simp at hx
    · rintro σ G' ⟨v1, v2, rfl, rfl⟩
      walk_at "go"
      refine ⟨lenK rfl, fun t ht => ?_⟩
      exact none_ (fun i hi => by rw [sh.no k hv] at hi; simp at hi) v1 v2 _ s0 t ht
  | some z =>
    obtain ⟨h, es, rfl, H⟩ := sh.hs k z hv
    walk_at "go"
    refine ⟨h, _, rfl, put_old H.at_ ht0, ?_⟩
    rw [← List.map_reverse]
    refine for_by (fun i σ G' => ∃ v1 v2 : Option Z, (∀ (j : Nat) e, j < i → es.reverse[j]? = some e → (q : Int) < e.1) ∧ σ = [some (.ref p), some (.str k), some (.int q), v1, v2] ∧ G' = put G t0 (.lst [])) ⟨_, _, fun j e hj => by omega, rfl, rfl⟩ (fun i σ G' _ ⟨_, _, _, _, e⟩ => by rw [e]; exact put_old H.at_ ht0) ?_ ?_
    · rintro i x σ G' hx ⟨v1, v2, hall, rfl, rfl⟩
      rw [List.getElem?_map] at hx
      cases hx' : es.reverse[i]? with
      | none => rw [hx'] at hx; cases hx
      | some e =>
      rw [hx'] at hx
      cases hx
      obtain ⟨s, l⟩ := e
      have hmem : (s, l) ∈ es := by have := List.mem_of_getElem? hx'; simpa using this
      have hix : s ∈ ix T k := by rw [← H.ix]; exact List.mem_map_of_mem (f := (·.1)) hmem
      obtain ⟨hs1, hs2⟩ := ix_ge hix
      obtain ⟨_, L, gl, il⟩ := H.ln _ hmem
      refine ⟨_, rfl, ?_⟩
      walk_at "go"
      refine ifD (fun c => ?_) fun c => ?_
      · walk_at "go"
        refine i_wkL (put_old gl ht0) ?_
        intro D hD
        have hone := il.pl.one
        have hll : L.length ≤ 1000 := by have := il.len; rw [List.length_take] at this; omega
        refine lc_rows (g' := Rw.z) (fun r => some r) (fun ys => put_old (put_old gl ht0) hD) hll ?_ ?_
        · intro r hr ys K1 K2 k1 k2
          obtain ⟨x, hx⟩ := hone r hr
          obtain ⟨b, e, w⟩ := r
          cases hx
          refine ⟨_, rfl, ?_⟩
          walk_at "go"
          refine ⟨lenK rfl, ?_⟩
          exact k1 ⟨b, e, [x]⟩ rfl
        · rw [rows_id]
          refine fin D L _ (s0.free hD) (s0.trans (Sm.new hD)) put_same ?_
          have e1 : ((q : Int)).toNat = q := by omega
          rw [e1]
          have il' : IsLine (T.take s.toNat) k L := il
          refine il'.cut (by omega) fun j hj => ?_
          rw [← H.ix] at hj
          obtain ⟨e2, he2, rfl⟩ := List.mem_map.mp hj
          by_cases c2 : e2.1 ≤ s
          · left; omega
          · right
            have he3 : e2 ∈ es.reverse := by simpa using he2
            obtain ⟨m, hm⟩ := List.getElem?_of_mem he3
            by_cases hmi : m < i
            · exact hall m e2 hmi hm
            · exfalso
              have hst : (ix T k).Pairwise (· < ·) := ix_sorted T k
              rw [← H.ix] at hst
              have hst2 : es.reverse.Pairwise (fun x y => y.1 < x.1) := by
                rw [List.pairwise_reverse]
                exact List.pairwise_map.mp hst
              by_cases hmi2 : m = i
              · subst hmi2
                rw [hx'] at hm
                cases hm
                omega
              · obtain ⟨l1, e5⟩ := List.getElem?_eq_some_iff.mp hx'
                obtain ⟨l2, e6⟩ := List.getElem?_eq_some_iff.mp hm
                have := List.pairwise_iff_getElem.mp hst2 i m l1 l2 (by omega)
                rw [e5, e6] at this
                simp only at this
                omega
      · walk_at "go"
        refine ⟨_, _, fun j e hj he => ?_, rfl, rfl⟩
        by_cases hji : j < i
        · exact hall j e hji he
        · have : j = i := by omega
          subst this
          rw [hx'] at he
          cases he
          simp only
          omega
    · rintro σ G' ⟨v1, v2, hall, rfl, rfl⟩
      walk_at "go"
      refine ⟨lenK rfl, fun t ht => ?_⟩
      refine none_ (fun j hj => ?_) v1 v2 _ s0 t ht
      rw [← H.ix] at hj
      obtain ⟨e2, he2, rfl⟩ := List.mem_map.mp hj
      have he3 : e2 ∈ es.reverse := by simpa using he2
      obtain ⟨m, hm⟩ := List.getElem?_of_mem he3
      exact hall m e2 (by rw [List.length_map]; exact (List.getElem?_eq_some_iff.mp hm).1) hm
theorem valZ_put {kvs : List (Key × Z)} {k j : Key} {v : Z} : valZ (putZ kvs k v) j = if j = k then some v else valZ kvs j := by
  unfold putZ
  split
  · next hc =>
    have go : ∀ kvs : List (Key × Z), valZ (kvs.map fun kv => if kv.1 = k then (kv.1, v) else kv) j = (valZ kvs j).map fun x => if j = k then v else x := by
      intro kvs
      induction kvs with
      | nil => rfl
      | cons p r ih =>
        unfold valZ at ih ⊢
        rw [List.map_cons, List.find?_cons, List.find?_cons]
        have e1 : (if p.1 = k then (p.1, v) else p).1 = p.1 := by split <;> rfl
        rw [e1]
        cases c : decide (p.1 = j) with
        | false => exact ih
        | true =>
          have cj := of_decide_eq_true c
          simp only [Option.map_some]
          by_cases ck : p.1 = k
          · rw [if_pos ck, if_pos (cj.symm.trans ck)]
          · rw [if_neg ck, if_neg (fun z => ck (cj.trans z))]
    rw [go]
    by_cases c : j = k
    · subst c
      rw [if_pos rfl]
      obtain ⟨p, h1, h2⟩ := List.any_eq_true.mp hc
      have : (kvs.find? fun kv => decide (kv.1 = j)).isSome = true := List.find?_isSome.mpr ⟨p, h1, h2⟩
      unfold valZ
      cases e : kvs.find? fun kv => decide (kv.1 = j) with
      | none => rw [e] at this; cases this
      | some q => simp
    · rw [if_neg c]
      cases valZ kvs j with
      | none => rfl
      | some x => simp [c]
  · next hc =>
    unfold valZ
    rw [List.find?_append]
    by_cases c : j = k
    · subst c
      rw [if_pos rfl]
      have : kvs.find? (fun kv => decide (kv.1 = j)) = none := by
        rw [List.find?_eq_none]
        intro p hp hq
        exact hc (List.any_eq_true.mpr ⟨p, hp, hq⟩)
      rw [this]
      simp
    · rw [if_neg c]
      have : [(k, v)].find? (fun kv => decide (kv.1 = j)) = none := by simp; exact fun z => c z.symm
      rw [this, Option.or_none]
theorem len_putZ {kvs : List (Key × Z)} {k : Key} {v : Z} : (putZ kvs k v).length ≤ kvs.length + 1 := by
  unfold putZ
  split <;> simp
theorem Hist.ne_row {G : Hq} {S : Addr → Prop} {T : List Tl} {k : Str} {h x : Addr} {es : List (Int × Addr)} {L : List Rw} (H : Hist G S T k h es) (e : G x = some (.lst (L.map Rw.z))) : x ≠ h := fun z => by
  subst z
  have := e.symm.trans H.at_
  have h2 : L.map Rw.z = es.map enZ := by simpa using this
  cases es with
  | nil => exact H.ne rfl
  | cons a es =>
    cases L with
    | nil => simp at h2
    | cons r L =>
      rw [List.map_cons, List.map_cons] at h2
      have h3 := (List.cons.inj h2).1
      simp only [Rw.z, enZ, Z.tup.injEq, List.cons.injEq] at h3
      obtain ⟨rb, re, rw0⟩ := r
      have h4 := h3.2.1
      cases re <;> cases h4
def sp_Sheet_keep_line (a : Ad) : P3 := fun ws G R => Ex9 fun (p : Addr) (S : Addr → Prop) (T : List Tl) (τ : Tl) (l : Addr) (L : List Rw) (dx d : Addr) (kvs : List (Key × Z)) => ws = [.ref p, .str τ.key, .ref l] ∧ ShM a.c_Sheet G p S T ((T.length : Int) + 1) dx d kvs ∧ G l = some (.lst (L.map Rw.z)) ∧ ¬ S l ∧ IsLine (T ++ [τ]) τ.key L ∧ T.length ≤ 200 ∧
  ∀ (S' : Addr → Prop) G', (∀ b, S b → S' b) → (∀ b, S' b → S b ∨ b = l ∨ G b = none) → KN S G G' → Sheet a.c_Sheet G' p S' (T ++ [τ]) → R .non G'
theorem len_Sheet_keep_line {a : Ad} {ws : List Z} {G : Hq} {R : K3} (h : sp_Sheet_keep_line a ws G R) : ws.length = 3 := by obtain ⟨_, _, _, _, _, _, _, _, _, rfl, _⟩ := h; rfl
theorem take_old {T : List Tl} {τ : Tl} {k : Str} {s : Int} (h : s ∈ ix T k) : (T ++ [τ]).take s.toNat = T.take s.toNat := by
  have := ix_ge h
  rw [List.take_append_of_le_length (by omega)]
theorem take_all {T : List Tl} {τ : Tl} : (T ++ [τ]).take ((T.length : Int) + 1).toNat = T ++ [τ] := by
  rw [List.take_of_length_le]
  rw [List.length_append, List.length_singleton]
  omega
theorem ok_Sheet_keep_line {P : Program} {w : World} {K : PySem.W.Frag} {mg : Str → Option Value} {base : Heap} {a : Ad} (F : Fns K a) (T : Txt K mg a) : FnOk P w K mg base CX0 1 a.f_Sheet_keep_line a.d_Sheet_keep_line ["self", "key", "line"] (lowP K (sp_Sheet_keep_line a)) := by
  refine fn3 F.Sheet_keep_line sc_Sheet_keep_line (fun ws G R h => (by exact len_Sheet_keep_line h)) (fun cdv A outer s H E ws G R hr h => ?_)
  have hu : (A.deeper (PyProof.Rows.envOfC "Sheet.keep_line" (defScope s_Sheet_keep_line) s.heap.objs.size a.f_Sheet_keep_line cdv)).units + 66 < cLine := by have := hr.un; omega
  refine ⟨_, (z_one (z_expr (q_bm PySem.F.plainAttrs_list PySem.F.slot_list_append PySem.F.type_list_append m_append (q_bm PySem.F.plainAttrs_dict PySem.F.slot_dict_setdefault PySem.F.type_dict_setdefault m_setdefault (q_fld T.cl_Sheet T.na_kept (q_var (pv 0))) (q_cons (q_var (pv 1)) (q_cons (q_lst q_nil) q_nil se_List) se_Name)) (q_cons (q_tup (q_cons (q_fld T.cl_Sheet T.na_last (q_var (pv 0))) (q_cons (q_var (pv 2)) q_nil se_Name) se_Attribute)) q_nil se_Tuple)))), ?_⟩
  obtain ⟨p, S, T, τ, l, L, dx, d, kvs, rfl, sh, gl, nl, il, hT, q⟩ := h
  walk_at "go"
  refine ⟨p, dx, _, _, rfl, sh.ob, lk_kept, ?_⟩
  refine i_tyD sh.dc ?_
  walk_at "go"
  refine ⟨lenK rfl, fun t0 ht0 => ?_⟩
  walk_at "go"
  have npd : p ≠ d := fun z => by have e := sh.ob; rw [z, sh.dc] at e; cases e
  have hlen : ((T ++ [τ]).length : Int) = (T.length : Int) + 1 := by simp
  refine i_setd (put_old sh.dc ht0) rfl (small1000 (by have := sh.len; omega)) (fun z hz => ?_) fun hz => ?_
  · obtain ⟨h, es, rfl, H⟩ := sh.hs _ z hz
    have hpe : p ≠ h := fun z => by have e := sh.ob; rw [z, H.at_] at e; cases e
    have hde : d ≠ h := fun z => by have e := sh.dc; rw [z, H.at_] at e; cases e
    have hle : l ≠ h := fun z => nl (z ▸ H.s)
    refine i_tyL (put_old H.at_ ht0) ?_
    walk_at "go"
    refine ⟨p, dx, _, _, rfl, put_old sh.ob ht0, lk_last, ?_⟩
    walk_at "go"
    refine ⟨lenK rfl, ?_⟩
    walk_at "go"
    have hel : es.length ≤ T.length := by
      have e1 := congrArg List.length H.ix
      rw [List.length_map] at e1
      rw [e1]
      exact len_ix T τ.key
    refine i_append (put_old H.at_ ht0) (by rw [List.length_map]; exact small1000 (by omega)) ?_
    have keep : ∀ b o, b ≠ h → G b = some o → put (put G t0 (.lst [])) h (.lst (es.map enZ ++ [.tup [.int ((T.length : Int) + 1), .ref l]])) b = some o := fun b o nb e => by rw [put_ne nb]; exact put_old e ht0
    refine q (fun b => S b ∨ b = l) _ (fun b hb => .inl hb) (fun b hb => hb.elim .inl fun z => .inr (.inl z)) (fun b o nb e => keep b o (fun z => nb (z ▸ H.s)) e) ⟨dx, d, kvs, ?_⟩
    refine ⟨by rw [hlen]; exact keep _ _ hpe sh.ob, .inl sh.sp, .inl sh.sd, keep _ _ hde sh.dc, by have := sh.len; simp; omega, fun k hk => ?_, fun k z e => ?_, sh.inj, fun b hb => ?_⟩
    · rw [ix_snoc, sh.no k hk, if_neg]
      · rfl
      · rintro rfl
        rw [hz] at hk
        cases hk
    · by_cases ck : k = τ.key
      · subst ck
        rw [hz] at e
        cases e
        refine ⟨h, es ++ [((T.length : Int) + 1, l)], rfl, .inl H.s, by rw [put_same, List.map_append]; rfl, by rw [List.map_append, H.ix, ix_snoc, if_pos rfl]; rfl, by simp, fun e he => ?_⟩
        rcases List.mem_append.mp he with he | he
        · obtain ⟨s1, L1, g1, i1⟩ := H.ln e he
          refine ⟨.inl s1, L1, keep _ _ (H.ne_row g1) g1, ?_⟩
          rw [take_old (k := τ.key) (by rw [← H.ix]; exact List.mem_map_of_mem (f := (·.1)) he)]
          exact i1
        · rw [List.mem_singleton.mp he]
          refine ⟨.inr rfl, L, keep _ _ hle gl, ?_⟩
          rw [take_all]
          exact il
      · obtain ⟨h', es', ez, H'⟩ := sh.hs k z e
        have hh : h' ≠ h := fun w => ck (sh.inj k τ.key z e (by rw [hz, ez, w]))
        refine ⟨h', es', ez, .inl H'.s, keep _ _ hh H'.at_, by rw [H'.ix, ix_snoc, if_neg (Ne.symm ck), List.append_nil], H'.ne, fun e he => ?_⟩
        obtain ⟨s1, L1, g1, i1⟩ := H'.ln e he
        refine ⟨.inl s1, L1, keep _ _ (H.ne_row g1) g1, ?_⟩
        rw [take_old (k := k) (by rw [← H'.ix]; exact List.mem_map_of_mem (f := (·.1)) he)]
        exact i1
    · by_cases c : b = h
      · rw [c]; exact ⟨_, put_same⟩
      · rcases hb with hb | hb
        · obtain ⟨o, e⟩ := sh.al b hb
          exact ⟨o, keep b o c e⟩
        · rw [hb] at c ⊢; exact ⟨_, keep l _ c gl⟩
  · have hdt : d ≠ t0 := gne_none sh.dc ht0
    have hpt : p ≠ t0 := gne_none sh.ob ht0
    have hlt : l ≠ t0 := gne_none gl ht0
    have gt1 : put (put G t0 (.lst [])) d (.dK (putZ kvs (.inr τ.key) (.ref t0))) t0 = some (.lst []) := by rw [put_ne (Ne.symm hdt)]; exact put_same
    refine i_tyL gt1 ?_
    walk_at "go"
    refine ⟨p, dx, _, _, rfl, by rw [put_ne npd]; exact put_old sh.ob ht0, lk_last, ?_⟩
    walk_at "go"
    refine ⟨lenK rfl, ?_⟩
    walk_at "go"
    refine i_append gt1 (small1000 (by decide)) ?_
    have keep : ∀ b o, b ≠ d → G b = some o → put (put (put G t0 (.lst [])) d (.dK (putZ kvs (.inr τ.key) (.ref t0)))) t0 (.lst ([] ++ [.tup [.int ((T.length : Int) + 1), .ref l]])) b = some o := fun b o nb e => by
      rw [put_ne (gne_none e ht0), put_ne nb]; exact put_old e ht0
    have nS : ∀ h', S h' → ∀ o, G h' = some o → h' ≠ t0 := fun h' _ o e => gne_none e ht0
    refine q (fun b => S b ∨ b = l ∨ b = t0) _ (fun b hb => .inl hb) (fun b hb => hb.elim .inl fun z => z.elim (fun z => .inr (.inl z)) fun z => .inr (.inr (by rw [z]; exact ht0))) (fun b o nb e => keep b o (fun z => nb (z ▸ sh.sd)) e) ⟨dx, d, putZ kvs (.inr τ.key) (.ref t0), ?_⟩
    refine ⟨by rw [hlen]; exact keep _ _ npd sh.ob, .inl sh.sp, .inl sh.sd, by rw [put_ne hdt]; exact put_same, by have h1 := sh.len; have h2 := @len_putZ kvs (.inr τ.key) (.ref t0); simp; omega, fun k hk => ?_, fun k z e => ?_, fun k k' z e e' => ?_, fun b hb => ?_⟩
    · rw [valZ_put] at hk
      split at hk
      · cases hk
      · next c =>
        rw [ix_snoc, sh.no k hk, if_neg fun z => c (by rw [z])]
        rfl
    · rw [valZ_put] at e
      split at e
      · next c =>
        cases e
        have ck : k = τ.key := by simpa using c
        subst ck
        refine ⟨t0, [((T.length : Int) + 1, l)], rfl, .inr (.inr rfl), by rw [put_same]; rfl, by rw [ix_snoc, sh.no _ hz, if_pos rfl]; rfl, by simp, fun e he => ?_⟩
        rw [List.mem_singleton.mp he]
        refine ⟨.inr (.inl rfl), L, keep _ _ (fun z => by have z' : l = d := z; rw [z', sh.dc] at gl; cases gl) gl, ?_⟩
        rw [take_all]
        exact il
      · next c =>
        obtain ⟨h', es', ez, H'⟩ := sh.hs k z e
        have hd' : h' ≠ d := fun w => by have e := H'.at_; rw [w, sh.dc] at e; cases e
        refine ⟨h', es', ez, .inl H'.s, keep _ _ hd' H'.at_, by rw [H'.ix, ix_snoc, if_neg fun z => c (by rw [z]), List.append_nil], H'.ne, fun e he => ?_⟩
        obtain ⟨s1, L1, g1, i1⟩ := H'.ln e he
        refine ⟨.inl s1, L1, keep _ _ (fun w => by rw [w, sh.dc] at g1; cases g1) g1, ?_⟩
        rw [take_old (k := k) (by rw [← H'.ix]; exact List.mem_map_of_mem (f := (·.1)) he)]
        exact i1
    · rw [valZ_put] at e e'
      split at e
      · next c =>
        split at e'
        · next c' => simpa using c.trans c'.symm
        · cases e
          obtain ⟨h', es', ez, H'⟩ := sh.hs k' _ e'
          cases ez
          exact absurd rfl (nS _ H'.s _ H'.at_)
      · split at e'
        · cases e'
          obtain ⟨h', es', ez, H'⟩ := sh.hs k _ e
          cases ez
          exact absurd rfl (nS _ H'.s _ H'.at_)
        · exact sh.inj k k' z e e'
    · by_cases c : b = t0
      · rw [c]; exact ⟨_, put_same⟩
      · by_cases c2 : b = d
        · rw [c2]; exact ⟨_, by rw [put_ne hdt]; exact put_same⟩
        · rcases hb with hb | hb | hb
          · obtain ⟨o, e⟩ := sh.al b hb
            exact ⟨o, keep b o c2 e⟩
          · rw [hb] at c2 ⊢; exact ⟨_, keep l _ c2 gl⟩
          · exact absurd hb c
def BadT (a : Ad) (G : Hq) (z : Z) (c : Addr) : Prop := Ex4 fun (h : Z) (nm : List Z) (x y : Z) => Tel G z h nm x y ∧ ((nm.all nameB = false ∧ c = a.x_NoName) ∨ (nm.all nameB = true ∧ strB x y = false ∧ c = a.x_NoStretch))
def sp_Sheet_tell (a : Ad) : PX3 := fun ws G R EE => ∃ (p : Addr) (S : Addr → Prop) (T : List Tl), Sheet a.c_Sheet G p S T ∧ ((∃ τ : Tl, ws = [.ref p, τ.z] ∧ τ.Ok ∧ T.length ≤ 150 ∧
  ∀ (S' : Addr → Prop) G', (∀ b, S b → S' b) → (∀ b, S' b → S b ∨ G b = none) → KN S G G' → Sheet a.c_Sheet G' p S' (T ++ [τ]) → R (.int ((T.length : Int) + 1)) G') ∨
  ∃ (z : Z) (c : Addr), ws = [.ref p, z] ∧ BadT a G z c ∧ ∀ G', Sm G G' → EE c G')
theorem len_Sheet_tell {a : Ad} {ws : List Z} {G : Hq} {R : K3} {EE : Addr → Hq → Prop} (h : sp_Sheet_tell a ws G R EE) : ws.length = 2 := by obtain ⟨_, _, _, _, ⟨_, rfl, _⟩ | ⟨_, _, rfl, _⟩⟩ := h <;> rfl
theorem key_at {τ : Tl} : ∃ ws, τ.z = .tup ws ∧ atI ws 1 = some (.str τ.key) := by
  obtain ⟨k, w, b, e⟩ := τ
  cases w <;> exact ⟨_, rfl, at1⟩
theorem th_oz {G : Hq} {e : Option Int} : Th G (oz e) := by cases e <;> exact True.intro
theorem Tl.Ok.tel {G : Hq} {τ : Tl} (ok : τ.Ok) : ∃ (h : Z) (nm : List Z), Tel G τ.z h nm (.int τ.b) (oz τ.e) ∧ nm.all nameB = true ∧ strB (.int τ.b) (oz τ.e) = true := by
  obtain ⟨k, w, b, e⟩ := τ
  have hk := ok.k
  have hw := ok.w
  have hs := st_b ok.st
  cases w with
  | none => exact ⟨_, [.str k], ⟨rfl, .inl ⟨_, rfl⟩, fun z hz => by rw [List.mem_singleton.mp hz]; exact nm_th hk, True.intro, th_oz⟩, by rw [List.all_cons, nm_b hk]; rfl, hs⟩
  | some w =>
    have hw := hw w rfl
    refine ⟨_, [.str k, .str w], ⟨rfl, .inr ⟨_, _, rfl⟩, fun z hz => ?_, True.intro, th_oz⟩, by rw [List.all_cons, nm_b hk, List.all_cons, nm_b hw]; rfl, hs⟩
    simp only [List.mem_cons, List.not_mem_nil, or_false] at hz
    rcases hz with rfl | rfl
    · exact nm_th hk
    · exact nm_th hw
theorem ok_Sheet_tell {P : Program} {w : World} {K : PySem.W.Frag} {mg : Str → Option Value} {base : Heap} {a : Ad} (F : Fns K a) (T : Txt K mg a) : FnOk P w K mg base (CXx P w) 5 a.f_Sheet_tell a.d_Sheet_tell ["self", "telling"] (lowPx K (sp_Sheet_tell a)) := by
  have G_p_check_telling : FnOk P w K mg base (CXx P w) 4 a.f_p_check_telling a.d_p_check_telling ["telling"] (lowPx K (sp_p_check_telling a)) := ok_p_check_telling F T
  have G_p_line_behind : FnOk P w K mg base CX0 4 a.f_p_line_behind a.d_p_line_behind ["line", "telling"] (lowP K sp_p_line_behind) := ok_p_line_behind F T
  have G_Sheet_keep_line : FnOk P w K mg base CX0 1 a.f_Sheet_keep_line a.d_Sheet_keep_line ["self", "key", "line"] (lowP K (sp_Sheet_keep_line a)) := ok_Sheet_keep_line F T
  have G_Sheet_known_line : FnOk P w K mg base CX0 1 a.f_Sheet_known_line a.d_Sheet_known_line ["self", "key", "knowing"] (lowP K (sp_Sheet_known_line a)) := ok_Sheet_known_line F T
  refine fn3x F.Sheet_tell sc_Sheet_tell (fun ws G R EE h => (by exact len_Sheet_tell h)) (fun cdv A outer s H E ws G R EE hr h ux => ?_)
  have hu : (A.deeper (PyProof.Rows.envOfC "Sheet.tell" (defScope s_Sheet_tell) s.heap.objs.size a.f_Sheet_tell cdv)).units + 66 < cLine := by have := hr.un; omega
  refine ⟨_, (z_cons (z_expr (q_callX (passes_x Outs.of) ux.since G_p_check_telling (hr.mono (by decide)) rfl T.m_p_check_telling T.k_p_check_telling (b_p_check_telling F) (q_cons (q_var (pv 1)) q_nil se_Name) (he := se_Name) (hpl := hp_nil)))
    (z_cons (z_set (i := 2) sc_Sheet_tell.nd rfl (Or.inl rfl) (q_ix x_ix (q_var (pv 1)) q_int (fun _ _ => rfl)))
    (z_cons (z_set (i := 3) sc_Sheet_tell.nd rfl (Or.inl rfl) (q_call G_p_line_behind (hr.mono (by decide)) rfl T.m_p_line_behind T.k_p_line_behind (b_p_line_behind F) (q_cons (q_meth (q_var (pv 0)) T.cl_Sheet T.mt_Sheet_known_line G_Sheet_known_line (hr.mono (by decide)) (b_Sheet_known_line F) (q_cons (q_var (pv 2)) (q_cons (q_fld T.cl_Sheet T.na_last (q_var (pv 0))) q_nil se_Attribute) se_Name) (hst := se_Name) (hpl := (hp_cons se_Attribute hp_nil))) (q_cons (q_var (pv 1)) q_nil se_Name) se_Call) (he := se_Call) (hpl := (hp_cons se_Name hp_nil))))
    (z_cons (z_fldaug T.cl_Sheet T.na_last (q_var (pv 0)) q_int o_iadd)
    (z_cons (z_expr (q_meth (q_var (pv 0)) T.cl_Sheet T.mt_Sheet_keep_line G_Sheet_keep_line (hr.mono (by decide)) (b_Sheet_keep_line F) (q_cons (q_var (pv 2)) (q_cons (q_var (pv 3)) q_nil se_Name) se_Name) (hst := se_Name) (hpl := (hp_cons se_Name hp_nil))))
    (z_one (z_ret (q_fld T.cl_Sheet T.na_last (q_var (pv 0)))))))))), ?_⟩
  obtain ⟨p, S, T, ⟨dx, d, kvs, sh⟩, ⟨τ, rfl, ok, hT, q⟩ | ⟨z, c, rfl, ⟨h, nm, x, y, tel, hb⟩, q⟩⟩ := h
  rotate_left
  · walk_at "go"
    refine ⟨z, h, nm, x, y, rfl, tel, fun G1 s1 => ?_⟩
    have q' := q G1 s1
    rcases hb with ⟨e1, rfl⟩ | ⟨e1, e2, rfl⟩
    · rw [e1]
      exact ifF q'
    · rw [e1, e2]
      exact ifT (ifF q')
  walk_at "go"
  obtain ⟨th, tn, tel, ta, ts⟩ := ok.tel (G := G)
  refine ⟨_, _, _, _, _, rfl, tel, fun G1 s1 => ?_⟩
  rw [ta, ts]
  refine ifT (ifT ?_)
  have sh1 := sh.keep (Sm.ks s1)
  obtain ⟨ws, ez, ek⟩ := @key_at τ
  walk_at "go"
  rw [ez]
  refine i_ixT ek ?_
  rw [← ez]
  walk_at "go"
  refine ⟨p, dx, _, rfl, sh1.ob, lk_no (by decide +kernel) (by decide +kernel), ?_⟩
  walk_at "go"
  refine ⟨p, dx, _, _, rfl, sh1.ob, lk_last, ?_⟩
  walk_at "go"
  refine ⟨p, S, T, τ.key, _, _, dx, d, kvs, rfl, sh1, by omega, by omega, by omega, fun t L G2 ht s2 gt il => ?_⟩
  rw [show ((T.length : Int)).toNat = T.length by omega, List.take_length] at il
  have sh2 := sh1.keep (Sm.ks s2)
  walk_at "go"
  have hll := il.len
  refine ⟨t, L, τ, rfl, gt, il.can.rise, il.pl, by omega, ok, fun u G3 hu s3 gu => ?_⟩
  have sh3 := sh2.keep (Sm.ks s3)
  have S13 := (s1.trans s2).trans s3
  have hu0 : G u = none := (s1.trans s2).free hu
  have nu : ¬ S u := fun z => by obtain ⟨o, e⟩ := sh.al u z; rw [hu0] at e; cases e
  walk_at "go"
  refine ⟨p, dx, _, _, rfl, sh3.ob, lk_last, ?_⟩
  walk_at "go"
  refine ⟨dx, _, sh3.ob, by show 2 < 1000; decide, ?_⟩
  rw [pq_last]
  have hup : u ≠ p := fun z => nu (z ▸ sh.sp)
  have sh4 : ShM a.c_Sheet (put G3 p (.ins a.c_Sheet dx (shF ((T.length : Int) + 1) d))) p S T ((T.length : Int) + 1) dx d kvs := by
    have kp : ∀ b o, b ≠ p → G3 b = some o → put G3 p (.ins a.c_Sheet dx (shF ((T.length : Int) + 1) d)) b = some o := fun b o nb e => by rw [put_ne nb]; exact e
    refine ⟨put_same, sh3.sp, sh3.sd, kp _ _ (fun z => by have e := sh3.dc; rw [z, sh3.ob] at e; cases e) sh3.dc, sh3.len, sh3.no, fun k z e => ?_, sh3.inj, fun b hb => ?_⟩
    · obtain ⟨h, es, ez, H⟩ := sh3.hs k z e
      refine ⟨h, es, ez, H.s, kp _ _ (fun z => by have e := H.at_; rw [z, sh3.ob] at e; cases e) H.at_, H.ix, H.ne, fun e he => ?_⟩
      obtain ⟨s1, L1, g1, i1⟩ := H.ln e he
      exact ⟨s1, L1, kp _ _ (fun z => by rw [z, sh3.ob] at g1; cases g1) g1, i1⟩
    · by_cases c : b = p
      · rw [c]; exact ⟨_, put_same⟩
      · obtain ⟨o, e⟩ := sh3.al b hb
        exact ⟨o, kp b o c e⟩
  have gu4 : put G3 p (.ins a.c_Sheet dx (shF ((T.length : Int) + 1) d)) u = some (.lst ((putOn L τ.b τ.e (optW τ.v)).map Rw.z)) := by rw [put_ne hup]; exact gu
  have kn4 : KN S G (put G3 p (.ins a.c_Sheet dx (shF ((T.length : Int) + 1) d))) := fun b o nb e => by rw [put_ne (show b ≠ p from fun z => nb (by rw [z]; exact sh.sp))]; exact S13 _ _ e
  have nn4 : ∀ b, put G3 p (.ins a.c_Sheet dx (shF ((T.length : Int) + 1) d)) b = none → G b = none := fun b e => by
    by_cases c : b = p
    · rw [c, put_same] at e; cases e
    · rw [put_ne c] at e; exact S13.free e
  generalize put G3 p (.ins a.c_Sheet dx (shF ((T.length : Int) + 1) d)) = G4 at sh4 gu4 kn4 nn4 ⊢
  walk_at "go"
  refine ⟨p, dx, _, rfl, sh4.ob, lk_no (by decide +kernel) (by decide +kernel), ?_⟩
  walk_at "go"
  refine ⟨p, S, T, τ, u, _, dx, d, kvs, rfl, sh4, gu4, nu, il.snoc ok, by omega, fun S' G5 i1 i2 kn5 sh5 => ?_⟩
  have sh5' := sh5
  obtain ⟨dx5, d5, kvs5, m5⟩ := sh5'
  walk_at "go"
  refine ⟨p, dx5, _, _, rfl, m5.ob, lk_last, ?_⟩
  have e : (((T ++ [τ]).length : Nat) : Int) = (T.length : Int) + 1 := by simp
  rw [e]
  refine q S' G5 i1 (fun b hb => ?_) (kn4.trans kn5) sh5
  rcases i2 b hb with h | h | h
  · exact .inl h
  · rw [h]; exact .inr hu0
  · exact .inr (nn4 b h)
def sp_mix : P3 := fun ws G R => ∃ c k : Int, ws = [.int c, .int k] ∧ 0 ≤ k ∧ k ≤ 1000 ∧ ∀ i : Int, 0 ≤ i → i < 268435449 → R (.int i) G
theorem len_mix {ws : List Z} {G : Hq} {R : K3} (h : sp_mix ws G R) : ws.length = 2 := by obtain ⟨_, _, rfl, _⟩ := h; rfl
theorem ok_mix {P : Program} {w : World} {K : PySem.W.Frag} {mg : Str → Option Value} {base : Heap} {a : Ad} (F : Fns K a) (T : Txt K mg a) : FnOk P w K mg base CX0 1 a.f_mix a.d_mix ["cell", "k"] (lowP K sp_mix) := by
  refine fn3 F.mix sc_mix (fun ws G R h => (by exact len_mix h)) (fun cdv A outer s H E ws G R hr h => ?_)
  have hu : (A.deeper (PyProof.Rows.envOfC "_law_mix" (defScope s_mix) s.heap.objs.size a.f_mix cdv)).units + 66 < cLine := by have := hr.un; omega
  refine ⟨_, (z_cons (z_set (i := 2) sc_mix.nd rfl (Or.inl rfl) (q_op o_mod (q_op o_add (q_var (pv 0)) (q_op o_mul q_int (q_op o_add (q_var (pv 1)) q_int))) q_int))
    (z_cons (z_set (i := 2) sc_mix.nd rfl (Or.inl rfl) (q_op o_mod (q_op o_mul (q_var (pv 2)) (q_var (pv 2))) q_int))
    (z_one (z_ret (q_op o_fdiv (q_op o_mod (q_op o_mul (q_var (pv 2)) (q_op o_add (q_op o_add (q_var (pv 2)) q_int) (q_var (pv 1)))) q_int) q_int))))), ?_⟩
  obtain ⟨c, k, rfl, k0, k1, q⟩ := h
  walk_at "go"
  refine i_I (.inl ⟨by decide, by decide⟩) ?_
  walk_at "go"
  refine i_I (show (0 : Int) < 2147483647 by decide) ?_
  walk_at "go"
  generalize ho : (c + 104729 * (k + 1)) % 2147483647 = o
  have o0 : 0 ≤ o ∧ o < 2147483647 := by rw [← ho]; exact ⟨Int.emod_nonneg _ (by decide), Int.emod_lt_of_pos _ (by decide)⟩
  refine i_I (.inl ⟨by omega, by omega⟩) ?_
  walk_at "go"
  refine i_I (show (0 : Int) < 2147483629 by decide) ?_
  walk_at "go"
  generalize ho2 : o * o % 2147483629 = o2
  have o20 : 0 ≤ o2 ∧ o2 < 2147483629 := by rw [← ho2]; exact ⟨Int.emod_nonneg _ (by decide), Int.emod_lt_of_pos _ (by decide)⟩
  refine i_I (.inl ⟨by omega, by omega⟩) ?_
  walk_at "go"
  refine i_I (show (0 : Int) < 2147483587 by decide) ?_
  walk_at "go"
  refine i_I ⟨by decide, by decide⟩ ?_
  have e : ∀ x : Int, 0 ≤ x % 2147483587 ∧ x % 2147483587 < 2147483587 := fun x => ⟨Int.emod_nonneg _ (by decide), Int.emod_lt_of_pos _ (by decide)⟩
  have := e (o2 * (o2 + 7919 + k))
  exact q _ (by omega) (by omega)
def Bnd (xs bs : List Int) : Prop := xs.length = bs.length ∧ ∀ (i : Nat) x b, xs[i]? = some x → bs[i]? = some b → 0 ≤ x ∧ x < b
theorem Bnd.at {xs bs : List Int} (h : Bnd xs bs) {i : Nat} {b : Int} (e : bs[i]? = some b) : ∃ x, xs[i]? = some x ∧ 0 ≤ x ∧ x < b := by
  have hi := (List.getElem?_eq_some_iff.mp e).1
  have hx : i < xs.length := by rw [h.1]; exact hi
  exact ⟨xs[i], List.getElem?_eq_getElem hx, h.2 i _ b (List.getElem?_eq_getElem hx) e⟩
theorem atI_int {xs : List Int} {i : Nat} {x : Int} (e : xs[i]? = some x) : atI (xs.map Z.int) (i : Int) = some (.int x) := atI_nat (by rw [List.getElem?_map, e]; rfl)
def sp_parts : P3 := fun ws G R => Ex4 fun (c w : Int) (p : Addr) (bs : List Int) => ws = [.int c, .int w, .ref p] ∧ G p = some (.lst (bs.map Z.int)) ∧ bs.length ≤ 20 ∧ (∀ b ∈ bs, 0 < b ∧ b < 2 ^ 60) ∧
  ∀ t xs, G t = none → Bnd xs bs → R (.ref t) (put G t (.lst (xs.map Z.int)))
theorem len_parts {ws : List Z} {G : Hq} {R : K3} (h : sp_parts ws G R) : ws.length = 3 := by obtain ⟨_, _, _, _, rfl, _⟩ := h; rfl
theorem ok_parts {P : Program} {w : World} {K : PySem.W.Frag} {mg : Str → Option Value} {base : Heap} {a : Ad} (F : Fns K a) (T : Txt K mg a) : FnOk P w K mg base CX0 2 a.f_parts a.d_parts ["cell", "way", "bounds"] (lowP K sp_parts) := by
  have G_mix : FnOk P w K mg base CX0 1 a.f_mix a.d_mix ["cell", "k"] (lowP K sp_mix) := ok_mix F T
  refine fn3 F.parts sc_parts (fun ws G R h => (by exact len_parts h)) (fun cdv A outer s H E ws G R hr h => ?_)
  have hu : (A.deeper (PyProof.Rows.envOfC "_law_parts" (defScope s_parts) s.heap.objs.size a.f_parts cdv)).units + 66 < cLine := by have := hr.un; omega
  refine ⟨_, (z_cons (z_set (i := 3) sc_parts.nd rfl (Or.inl rfl) (q_lst q_nil))
    (z_cons (z_for (pt := (.nm 4)) PassesOwn.never rfl (it_rangeA1 rfl T.b_range (q_cons (q_callB b_len rfl T.b_len PySem.boot_len (q_cons (q_var (pv 2)) q_nil se_Name) (he := se_Name) (hpl := hp_nil)) q_nil se_Call)) (show QP _ _ (.nm 4) from (pg_name (i := 4) sc_parts.nd rfl (Or.inl rfl)))
    (z_one (z_if (q_cmpT (o_eq hu) (q_var (pv 1)) q_int (nomark _))
    (z_cons (z_expr (q_bm PySem.F.plainAttrs_list PySem.F.slot_list_append PySem.F.type_list_append m_append (q_var (pv 3)) (q_cons (q_op o_mod (q_var (pv 0)) (q_ix x_ix (q_var (pv 2)) (q_var (pv 4)) (fun _ _ => rfl))) q_nil se_BinOp)))
    (z_one (z_set (i := 0) sc_parts.nd rfl (Or.inl rfl) (q_op o_fdiv (q_var (pv 0)) (q_ix x_ix (q_var (pv 2)) (q_var (pv 4)) (fun _ _ => rfl))))))
    (z_one (z_expr (q_bm PySem.F.plainAttrs_list PySem.F.slot_list_append PySem.F.type_list_append m_append (q_var (pv 3)) (q_cons (q_op o_mod (q_op o_mul (q_call G_mix (hr.mono (by decide)) rfl T.m_mix T.k_mix (b_mix F) (q_cons (q_var (pv 0)) (q_cons (q_var (pv 4)) q_nil se_Name) se_Name) (he := se_Name) (hpl := (hp_cons se_Name hp_nil))) q_int) (q_ix x_ix (q_var (pv 2)) (q_var (pv 4)) (fun _ _ => rfl))) q_nil se_BinOp)))))))
    (z_one (z_ret (q_var (pv 3)))))), ?_⟩
  obtain ⟨c, w, p, bs, rfl, hp, hl, hb, q⟩ := h
  walk_at "go"
  refine ⟨lenK rfl, fun t ht => ?_⟩
  walk_at "go"
  refine i_lenL (put_old hp ht) ?_
  walk_at "go"
  rw [List.length_map]
  refine ⟨by omega, by omega, ?_⟩
  rw [show ((bs.length : Int)).toNat = bs.length by omega]
  refine for_by (fun i σ G' => ∃ (c : Int) (xs : List Int) (v : Option Z), xs.length = i ∧ (∀ (j : Nat) x b, xs[j]? = some x → bs[j]? = some b → 0 ≤ x ∧ x < b) ∧ σ = [some (.int c), some (.int w), some (.ref p), some (.ref t), v] ∧ G' = put G t (.lst (xs.map Z.int))) ⟨c, [], _, rfl, fun j x b h => by simp at h, rfl, rfl⟩ (fun _ _ _ _ _ => True.intro) ?_ ?_
  · rintro i x σ G' hx ⟨c, xs, v, hxs, hall, rfl, rfl⟩
    obtain ⟨hi, rfl⟩ := rng_get hx
    rw [Int.zero_add]
    have hbi : bs[i]? = some bs[i] := List.getElem?_eq_getElem hi
    have hbb := hb _ (List.getElem_mem hi)
    generalize bs[i] = b at hbi hbb
    have hbm := atI_int hbi
    have hp' := put_old (o := .lst (xs.map Z.int)) hp ht
    have fin : ∀ (c' x : Int) (w' : Option Z), 0 ≤ x → x < b → ∃ (c : Int) (xs' : List Int) (v : Option Z), xs'.length = i + 1 ∧ (∀ (j : Nat) x b, xs'[j]? = some x → bs[j]? = some b → 0 ≤ x ∧ x < b) ∧ ([some (.int c'), some (.int w), some (.ref p), some (.ref t), w'] : S3) = [some (.int c), some (.int w), some (.ref p), some (.ref t), v] ∧ put (put G t (.lst (xs.map Z.int))) t (.lst (xs.map Z.int ++ [.int x])) = put G t (.lst (xs'.map Z.int)) := fun c' x w' x0 x1 => by
      refine ⟨c', xs ++ [x], w', by simp; exact hxs, fun j y b' e1 e2 => ?_, rfl, by rw [put_put, List.map_append]; rfl⟩
      by_cases hj : j < xs.length
      · rw [List.getElem?_append_left hj] at e1
        exact hall j y b' e1 e2
      · have hjl := (List.getElem?_eq_some_iff.mp e1).1
        have : j = xs.length := by simp at hjl; omega
        subst this
        rw [List.getElem?_append_right (Nat.le_refl _), Nat.sub_self] at e1
        cases e1
        rw [hxs, hbi] at e2
        cases e2
        exact ⟨x0, x1⟩
    refine ⟨_, rfl, ?_⟩
    walk_at "go"
    refine ifD (fun _ => ?_) fun _ => ?_
    · walk_at "go"
      refine i_tyL put_same ?_
      walk_at "go"
      refine i_ixL hp' hbm ?_
      walk_at "go"
      refine i_I hbb.1 ?_
      walk_at "go"
      refine i_append put_same (by rw [List.length_map]; exact small1000 (by omega)) ?_
      have hne : p ≠ t := gne_none hp ht
      walk_at "go"
      refine i_ixL (by rw [put_ne hne, put_ne hne]; exact hp) hbm ?_
      walk_at "go"
      refine i_I ⟨hbb.1, by omega⟩ ?_
      walk_at "go"
      exact fin _ _ _ (Int.emod_nonneg _ (by omega)) (Int.emod_lt_of_pos _ hbb.1)
    · walk_at "go"
      refine i_tyL put_same ?_
      walk_at "go"
      refine ⟨c, (i : Int), rfl, by omega, by omega, fun m m0 m1 => ?_⟩
      walk_at "go"
      refine i_I (.inl ⟨by omega, by omega⟩) ?_
      walk_at "go"
      refine i_ixL hp' hbm ?_
      walk_at "go"
      refine i_I hbb.1 ?_
      walk_at "go"
      refine i_append put_same (by rw [List.length_map]; exact small1000 (by omega)) ?_
      exact fin _ _ _ (Int.emod_nonneg _ (by omega)) (Int.emod_lt_of_pos _ hbb.1)
  · rintro σ G' ⟨c, xs, v, hxs, hall, rfl, rfl⟩
    rw [rng_length] at hxs
    walk_at "go"
    exact q t xs ht ⟨hxs, hall⟩
abbrev LET : Str := Str.ofString "etaoinshrdlucmfwypvbgkjqxz"
theorem let_list : LET.cps.toList = [101, 116, 97, 111, 105, 110, 115, 104, 114, 100, 108, 117, 99, 109, 102, 119, 121, 112, 118, 98, 103, 107, 106, 113, 120, 122] := by decide +kernel
theorem let_at {k : Int} (h0 : 0 ≤ k) (h1 : k < 26) : ∃ c, atI LET.cps.toList k = some c ∧ isL c := by
  obtain ⟨j, rfl⟩ := Int.eq_ofNat_of_zero_le h0
  have hj : j < 26 := by omega
  have : ∀ j : Fin 26, ∃ c, ([101, 116, 97, 111, 105, 110, 115, 104, 114, 100, 108, 117, 99, 109, 102, 119, 121, 112, 118, 98, 103, 107, 106, 113, 120, 122] : List Nat)[j.1]? = some c ∧ 97 ≤ c ∧ c ≤ 122 := by decide
  obtain ⟨c, e, h⟩ := this ⟨j, hj⟩
  exact ⟨c, atI_nat (by rw [let_list]; exact e), h⟩
theorem app_list (a b : Str) : (a ++ b).cps.toList = a.cps.toList ++ b.cps.toList := by
  show (a.cps ++ b.cps).toList = _
  rw [Array.toList_append]
theorem sl_to {s : Str} {p : Nat} (h : p ≤ s.cps.toList.length) : (Txt.slice s none (some (p : Int))).cps.toList = s.cps.toList.take p := by
  have := eq_of_beq (PyProof.Rows.slice_closes_to (x := s) (j := (p : Int)) ⟨by omega, by omega⟩)
  rw [this]
  simp
theorem sl_from {s : Str} {p : Nat} (h : p ≤ s.cps.toList.length) : (Txt.slice s (some (p : Int)) none).cps.toList = s.cps.toList.drop p := by
  have := PyProof.Rows.slice_from_eq (x := s) (i := (p : Int)) (b := (s.length : Int)) (by omega) (by rw [len_s]; omega) rfl
  rw [this, len_s, List.take_of_length_le (by rw [List.length_drop]; omega)]
  simp
def letN (s : Str) (n : Nat) : Prop := s.cps.toList.length = n ∧ ∀ c ∈ s.cps.toList, isL c
theorem letN.nm {s : Str} {n : Nat} (h : letN s n) (h1 : 1 ≤ n) (h8 : n ≤ 8) : nmOk s := ⟨by rw [h.1]; exact h1, by rw [h.1]; exact h8, h.2⟩
theorem letN.sz {s : Str} {n : Nat} (h : letN s n) (h8 : n ≤ 100) : s.length ≤ sizeLine := sm1000 (by rw [len_s, h.1]; omega)
theorem letN.one {c : Nat} (h : isL c) : letN ⟨#[c]⟩ 1 := ⟨rfl, fun x hx => by
  have : x = c := by simpa using hx
  rw [this]; exact h⟩
theorem letN.add {a b : Str} {n m : Nat} (h : letN a n) (g : letN b m) : letN (a ++ b) (n + m) := ⟨by rw [app_list, List.length_append, h.1, g.1], fun c hc => by
  rw [app_list] at hc
  rcases List.mem_append.mp hc with hc | hc
  · exact h.2 c hc
  · exact g.2 c hc⟩
theorem letN.to {s : Str} {n p : Nat} (h : letN s n) (hp : p ≤ n) : letN (Txt.slice s none (some (p : Int))) p := ⟨by rw [sl_to (by rw [h.1]; exact hp), List.length_take, h.1]; omega, fun c hc => by
  rw [sl_to (by rw [h.1]; exact hp)] at hc
  exact h.2 c (List.mem_of_mem_take hc)⟩
theorem letN.from {s : Str} {n p : Nat} (h : letN s n) (hp : p ≤ n) : letN (Txt.slice s (some (p : Int)) none) (n - p) := ⟨by rw [sl_from (by rw [h.1]; exact hp), List.length_drop, h.1], fun c hc => by
  rw [sl_from (by rw [h.1]; exact hp)] at hc
  exact h.2 c (List.mem_of_mem_drop hc)⟩
theorem join_ones' : ∀ (ys : List Str), (∀ s ∈ ys, letN s 1) → letN (Str.join (Str.ofString "") ys) ys.length
  | [], _ => ⟨by decide +kernel, fun c hc => by rw [show (Str.join (Str.ofString "") []).cps.toList = [] by decide +kernel] at hc; simp at hc⟩
  | [s], h => h s (.head _)
  | s :: t :: r, h => by
    have ih := join_ones' (t :: r) fun u hu => h u (.tail _ hu)
    have h0 : letN (Str.ofString "") 0 := ⟨by decide +kernel, fun c hc => by rw [show (Str.ofString "").cps.toList = [] by decide +kernel] at hc; simp at hc⟩
    have := ((h s (.head _)).add h0).add ih
    rw [show 1 + 0 + (t :: r).length = (s :: t :: r).length by simp; omega] at this
    exact this
theorem join_ones (ys : List Str) (h : ∀ s ∈ ys, letN s 1) : letN (Txt.join (Str.ofString "") ys) ys.length := by
  have e : Txt.join (Str.ofString "") ys = Str.join (Str.ofString "") ys := StrLaws.glued_eq_join _ _
  rw [e]
  exact join_ones' ys h
theorem sum_ones : ∀ (ys : List Str), (∀ s ∈ ys, letN s 1) → (ys.map (·.length)).sum = ys.length
  | [], _ => rfl
  | s :: r, h => by
    rw [List.map_cons, List.sum_cons, sum_ones r fun u hu => h u (.tail _ hu), List.length_cons, len_s, (h s (.head _)).1]
    omega
theorem b12_at : ∀ i : Nat, i < 8 → ([8, 8, 26, 26, 26, 26, 26, 26, 26, 26, 26, 2] : List Int)[3 + i]? = some 26 := by decide
theorem snoc_all {α : Type} {P : α → Prop} {l : List α} {x : α} (h : ∀ s ∈ l, P s) (hx : P x) : ∀ s ∈ l ++ [x], P s := fun s hs => by
  rcases List.mem_append.mp hs with hs | hs
  · exact h s hs
  · rw [List.mem_singleton.mp hs]; exact hx
def sp_names : P3 := fun ws G R => ∃ (c w n : Int), ws = [.int c, .int w, .int n] ∧ 1 ≤ n ∧ n ≤ 20 ∧ ∀ (t : Addr) (ns : List Str) (G' : Hq), G t = none → G' t = some (.lst (ns.map Z.str)) → (ns.length : Int) = n → (∀ s ∈ ns, nmOk s) → Sm G G' → R (.ref t) G'
theorem len_names {ws : List Z} {G : Hq} {R : K3} (h : sp_names ws G R) : ws.length = 3 := by obtain ⟨_, _, _, rfl, _⟩ := h; rfl
abbrev B12 : List Int := [8, 8, 26, 26, 26, 26, 26, 26, 26, 26, 26, 2]
theorem ok_names {P : Program} {w : World} {K : PySem.W.Frag} {mg : Str → Option Value} {base : Heap} {a : Ad} (F : Fns K a) (T : Txt K mg a) : FnOk P w K mg base CX0 3 a.f_names a.d_names ["cell", "way", "many"] (lowP K sp_names) := by
  have G_parts : FnOk P w K mg base CX0 2 a.f_parts a.d_parts ["cell", "way", "bounds"] (lowP K sp_parts) := ok_parts F T
  refine fn3 F.names sc_names (fun ws G R h => (by exact len_names h)) (fun cdv A outer s H E ws G R hr h => ?_)
  have hu : (A.deeper (PyProof.Rows.envOfC "_law_names" (defScope s_names) s.heap.objs.size a.f_names cdv)).units + 66 < cLine := by have := hr.un; omega
  refine ⟨_, (z_cons (z_set (i := 3) sc_names.nd rfl (Or.inr rfl) q_str)
    (z_cons (z_set (i := 4) sc_names.nd rfl (Or.inr rfl) (q_call G_parts (hr.mono (by decide)) rfl T.m_parts T.k_parts (b_parts F) (q_cons (q_var (pv 0)) (q_cons (q_var (pv 1)) (q_cons (q_op o_add (q_op o_add (q_lst (q_cons q_int (q_cons q_int (q_cons q_int q_nil se_Constant) se_Constant) se_Constant)) (q_op o_rep (q_lst (q_cons q_int q_nil se_Constant)) q_int)) (q_lst (q_cons q_int q_nil se_Constant))) q_nil se_BinOp) se_Name) se_Name) (he := se_Name) (hpl := (hp_cons se_Name (hp_cons se_BinOp hp_nil)))))
    (z_cons (z_set (i := 5) sc_names.nd rfl (Or.inr rfl) (q_bm PySem.F.plainAttrs_str PySem.F.slot_str_join PySem.F.type_str_join m_join q_str (q_cons (q_lc (N₀ := ["cell", "way", "many", "letters", "xs", "stem", "at", "found"]) (so := defScope s_names) (N' := ["k", "letters", "xs"]) (cap := [none, some 3, some 4]) (pt := (.nm 0)) rfl rfl rfl (by decide +kernel) rfl (it_rangeA1 rfl T.b_range (q_cons (q_op o_add q_int (q_ix x_ix (q_var (pv 4)) q_int (fun _ _ => rfl))) q_nil se_BinOp)) (fun _ _ _ _ => (show QP _ _ (.nm 0) from (pg_name (i := 0) (show List.Nodup (α := Str) ["k", "letters", "xs"] from by decide +kernel) rfl (Or.inl rfl)))) (fun _ _ _ _ => ifs_nil) (fun _ _ _ _ => (q_ix x_ix (q_var (pv 1)) (q_ix x_ix (q_var (pv 2)) (q_op o_add q_int (q_var (pv 0))) (fun _ _ => rfl)) (fun _ _ => rfl)))) q_nil se_ListComp)))
    (z_cons (z_set (i := 6) sc_names.nd rfl (Or.inr rfl) (q_op o_mod (q_ix x_ix (q_var (pv 4)) q_int (fun _ _ => rfl)) (q_callB b_len rfl T.b_len PySem.boot_len (q_cons (q_var (pv 5)) q_nil se_Name) (he := se_Name) (hpl := hp_nil))))
    (z_cons (z_setLC (i := 7) sc_names.nd rfl rfl (N₀ := ["cell", "way", "many", "letters", "xs", "stem", "at", "found"]) (so := defScope s_names) (N' := ["k", "stem", "letters", "at", "xs"]) (cap := [none, some 5, some 3, some 6, some 4]) (pt := (.nm 0)) rfl rfl rfl (by decide +kernel) rfl (it_rangeA1 rfl T.b_range (q_cons (q_var (pv 2)) q_nil se_Name)) (fun _ _ _ _ => (show QP _ _ (.nm 0) from (pg_name (i := 0) (show List.Nodup (α := Str) ["k", "stem", "letters", "at", "xs"] from by decide +kernel) rfl (Or.inl rfl)))) (fun _ _ _ _ => ifs_nil) (fun _ _ _ _ => (q_op o_add (q_op o_add (q_slice x_sl (q_var (pv 1)) q_nopart (q_part (q_var (pv 3)))) (q_ix x_ix (q_var (pv 2)) (q_op o_mod (q_op o_add (q_ix x_ix (q_var (pv 4)) q_int (fun _ _ => rfl)) (q_var (pv 0))) q_int) (fun _ _ => rfl))) (q_slice x_sl (q_var (pv 1)) (q_part (q_op o_add (q_var (pv 3)) q_int)) q_nopart))))
    (z_cut (z_if (QW.qt (q_and (q_cmpT (o_eq hu) (q_ix x_ix (q_var (pv 4)) q_int (fun _ _ => rfl)) q_int (nomark _)) (q_and1 (q_cmpT o_lt (q_callB b_len rfl T.b_len PySem.boot_len (q_cons (q_var (pv 5)) q_nil se_Name) (he := se_Name) (hpl := hp_nil)) q_int (nomark _)))))
    (z_one (z_putA (q_op o_add (q_ix x_ix (q_var (pv 7)) q_int (fun _ _ => rfl)) (q_ix x_ix (q_ix x_ix (q_var (pv 7)) q_int (fun _ _ => rfl)) q_int (fun _ _ => rfl))) (q_var (pv 7)) (q_un o_neg q_int) x_set))
    (z_one (z_if (q_cmpT (o_eq hu) (q_ix x_ix (q_var (pv 4)) q_int (fun _ _ => rfl)) q_int (nomark _))
    (z_one (z_putA (q_slice x_sl (q_ix x_ix (q_var (pv 7)) q_int (fun _ _ => rfl)) (q_part q_int) q_nopart) (q_var (pv 7)) (q_un o_neg q_int) x_set))
    z_nil)))
    (z_one (z_ret (q_var (pv 7)))))))))), ?_⟩
  obtain ⟨c, w, n, rfl, n1, n2, q⟩ := h
  walk_at "go"
  refine ⟨lenK rfl, fun a1 h1 => ?_⟩
  walk_at "go"
  refine ⟨lenK rfl, fun a2 h2 => ?_⟩
  walk_at "go"
  refine i_rep put_same (by decide) (by decide) (lenK rfl) fun a3 h3 => ?_
  walk_at "go"
  refine i_addL (put_old (put_old put_same h2) h3) put_same (lenK rfl) fun a4 h4 => ?_
  walk_at "go"
  refine ⟨lenK rfl, fun a5 h5 => ?_⟩
  walk_at "go"
  refine i_addL (put_old put_same h5) put_same (lenK rfl) fun a6 h6 => ?_
  have s6 := (((((Sm.new (o := .lst [.int 8, .int 8, .int 26]) h1).trans (Sm.new (o := .lst [.int 26]) h2)).trans (Sm.new (o := .lst (List.replicate (8 : Int).toNat [Z.int 26]).flatten) h3)).trans (Sm.new (o := .lst ([.int 8, .int 8, .int 26] ++ (List.replicate (8 : Int).toNat [Z.int 26]).flatten)) h4)).trans (Sm.new (o := .lst [.int 2]) h5)).trans (Sm.new (o := .lst ([.int 8, .int 8, .int 26] ++ (List.replicate (8 : Int).toNat [Z.int 26]).flatten ++ [.int 2])) h6)
  walk_at "go"
  refine ⟨c, w, a6, B12, rfl, put_same, by decide, by decide, fun t xs ht hB => ?_⟩
  have s7 := s6.trans (Sm.new (o := .lst (xs.map Z.int)) ht)
  have gx : put (put (put (put (put (put (put G a1 (.lst [.int 8, .int 8, .int 26])) a2 (.lst [.int 26])) a3 (.lst (List.replicate (8 : Int).toNat [Z.int 26]).flatten)) a4 (.lst ([.int 8, .int 8, .int 26] ++ (List.replicate (8 : Int).toNat [Z.int 26]).flatten))) a5 (.lst [.int 2])) a6 (.lst ([.int 8, .int 8, .int 26] ++ (List.replicate (8 : Int).toNat [Z.int 26]).flatten ++ [.int 2]))) t (.lst (xs.map Z.int)) t = some (.lst (xs.map Z.int)) := put_same
  generalize put (put (put (put (put (put (put G a1 (.lst [.int 8, .int 8, .int 26])) a2 (.lst [.int 26])) a3 (.lst (List.replicate (8 : Int).toNat [Z.int 26]).flatten)) a4 (.lst ([.int 8, .int 8, .int 26] ++ (List.replicate (8 : Int).toNat [Z.int 26]).flatten))) a5 (.lst [.int 2])) a6 (.lst ([.int 8, .int 8, .int 26] ++ (List.replicate (8 : Int).toNat [Z.int 26]).flatten ++ [.int 2]))) t (.lst (xs.map Z.int)) = G7 at s7 gx ⊢
  clear s6 ht h6 h5 h4 h3 h2 h1
  obtain ⟨x0, e0, x00, x01⟩ := hB.at (i := 0) (b := 8) rfl
  obtain ⟨x1, e1, x10, x11⟩ := hB.at (i := 1) (b := 8) rfl
  obtain ⟨x2, e2, x20, x21⟩ := hB.at (i := 2) (b := 26) rfl
  obtain ⟨x9, e9, x90, x91⟩ := hB.at (i := 11) (b := 2) rfl
  walk_at "go"
  refine i_ixL gx (atI_int e0) ?_
  walk_at "go"
  refine ⟨by omega, by omega, ?_⟩
  intro D hD
  obtain ⟨m, hm⟩ : ∃ m : Nat, (1 + x0).toNat = m := ⟨_, rfl⟩
  have hm1 : 1 ≤ m := by omega
  have hm8 : m ≤ 8 := by omega
  rw [hm]
  refine lc_by (fun i ys G' => ∃ ss : List Str, ys = ss.map Z.str ∧ ss.length = i ∧ (∀ s ∈ ss, letN s 1) ∧ G' = put G7 D (.lst (ss.map Z.str))) ⟨[], rfl, rfl, fun s h => by simp at h, rfl⟩ (fun _ _ _ _ _ => True.intro) ?_ ?_
  · rintro i x ys G' hx ⟨ss, rfl, hl, hall, rfl⟩
    obtain ⟨hi, rfl⟩ := rng_get hx
    obtain ⟨y, ey, y0, y1⟩ := hB.at (b12_at i (by omega))
    obtain ⟨ch, ech, hch⟩ := let_at y0 y1
    refine ⟨_, rfl, ?_⟩
    walk_at "go"
    refine i_ixL (put_old gx hD) (by rw [show (3 : Int) + (0 + (i : Int)) = ((3 + i : Nat) : Int) by omega]; exact atI_int ey) ?_
    walk_at "go"
    refine i_ixS (lenK rfl) ech ?_
    refine ⟨put_same, by rw [List.length_map]; exact small1000 (by omega), ss ++ [⟨#[ch]⟩], by rw [List.map_append]; rfl, by simp; exact hl, snoc_all hall (letN.one hch), ?_⟩
    rw [put_put, List.map_append]; rfl
  · rintro ys G' ⟨ss, rfl, hl, hall, rfl⟩
    rw [rng_length] at hl
    have hstem := join_ones ss hall
    rw [hl] at hstem
    walk_at "go"
    refine i_join put_same (by rw [sum_ones ss hall, hl, show (Str.ofString "").length = 0 by decide +kernel]; omega) ?_
    have gx8 := put_old (o := .lst (ss.map Z.str)) gx hD
    have s8 := s7.trans (Sm.new (o := .lst (ss.map Z.str)) hD)
    generalize put G7 D (.lst (ss.map Z.str)) = G8 at gx8 s8 ⊢
    generalize Txt.join (Str.ofString "") ss = stem at hstem ⊢
    have hls : stem.length = m := by rw [len_s, hstem.1]
    walk_at "go"
    refine i_ixL gx8 (atI_int e1) ?_
    walk_at "go"
    refine i_lenS (hstem.sz (by omega)) ?_
    walk_at "go"
    rw [hls]
    refine i_I (show (0 : Int) < (m : Int) by omega) ?_
    walk_at "go"
    have hat : 0 ≤ x1 % (m : Int) ∧ x1 % (m : Int) < m := ⟨Int.emod_nonneg _ (by omega), Int.emod_lt_of_pos _ (by omega)⟩
    obtain ⟨p, hp⟩ : ∃ p : Nat, x1 % (m : Int) = (p : Int) := ⟨(x1 % (m : Int)).toNat, by omega⟩
    rw [hp] at hat ⊢
    refine ⟨by omega, by omega, ?_⟩
    intro F hF
    refine lc_by (fun i ys G' => ∃ ns : List Str, ys = ns.map Z.str ∧ ns.length = i ∧ (∀ s ∈ ns, letN s m) ∧ G' = put G8 F (.lst (ns.map Z.str))) ⟨[], rfl, rfl, fun s h => by simp at h, rfl⟩ (fun _ _ _ _ _ => True.intro) ?_ ?_
    · rintro i x ys G' hx ⟨ns, rfl, hnl, hnall, rfl⟩
      obtain ⟨hi, rfl⟩ := rng_get hx
      refine ⟨_, rfl, ?_⟩
      walk_at "go"
      refine i_slS (hstem.sz (by omega)) ?_
      have l1 := hstem.to (p := p) (by omega)
      walk_at "go"
      refine i_ixL (put_old gx8 hF) (atI_int e2) ?_
      walk_at "go"
      refine i_I (show (0 : Int) < 26 by decide) ?_
      walk_at "go"
      obtain ⟨ch, ech, hch⟩ := let_at (Int.emod_nonneg (x2 + (0 + (i : Int))) (by decide : (26 : Int) ≠ 0)) (Int.emod_lt_of_pos _ (by decide))
      refine i_ixS (lenK rfl) ech ?_
      have l2 := l1.add (letN.one hch)
      refine i_addS (sm1000 (by rw [len_s, l1.1]; show p + 1 ≤ 1000; omega)) ?_
      walk_at "go"
      refine i_slS (hstem.sz (by omega)) ?_
      have l3 := hstem.from (p := p + 1) (by omega)
      have l4 := l2.add l3
      rw [show p + 1 + (m - (p + 1)) = m by omega] at l4
      rw [show ((p : Int) + 1) = ((p + 1 : Nat) : Int) by omega]
      refine i_addS (sm1000 (by rw [len_s, len_s, l2.1, l3.1]; omega)) ?_
      refine ⟨put_same, by rw [List.length_map]; exact small1000 (by omega), _, by rw [List.map_append]; rfl, by simp; exact hnl, snoc_all hnall l4, ?_⟩
      rw [put_put, List.map_append]; rfl
    · rintro ys G' ⟨ns, rfl, hnl, hnall, rfl⟩
      rw [rng_length] at hnl
      have s9 := s8.trans (Sm.new (o := .lst (ns.map Z.str)) hF)
      have gx9 := put_old (o := .lst (ns.map Z.str)) gx8 hF
      have gF : put G8 F (.lst (ns.map Z.str)) F = some (.lst (ns.map Z.str)) := put_same
      have hFG : G F = none := s8.free hF
      generalize put G8 F (.lst (ns.map Z.str)) = G9 at s9 gx9 gF ⊢
      have hnn : ∀ s ∈ ns, nmOk s := fun s hs => (hnall s hs).nm hm1 hm8
      obtain ⟨a, as, ea⟩ : ∃ a as, ns = a :: as := by cases ns with | nil => simp at hnl; omega | cons a as => exact ⟨a, as, rfl⟩
      have ha := hnall a (by rw [ea]; simp)
      have hla : a.length = m := by rw [len_s, ha.1]
      have at0a : atI (ns.map Z.str) 0 = some (.str a) := by rw [ea]; exact at0
      obtain ⟨c0, cr, ec⟩ : ∃ c0 cr, a.cps.toList = c0 :: cr := by
        have := ha.1
        cases h : a.cps.toList with
        | nil => rw [h] at this; simp at this; omega
        | cons c cr => exact ⟨c, cr, rfl⟩
      have hc0 : isL c0 := ha.2 c0 (by rw [ec]; simp)
      have hix : ixN (ns.map Z.str).length (-1) = some ((ns.map Z.str).length - 1) := ix_last (by rw [List.length_map, ea]; simp)
      have setok : ∀ s, nmOk s → ∃ ns' : List Str, (ns.map Z.str).set ((ns.map Z.str).length - 1) (.str s) = ns'.map Z.str ∧ ns'.length = ns.length ∧ ∀ u ∈ ns', nmOk u := fun s hs => by
        refine ⟨ns.set (ns.length - 1) s, by rw [List.length_map, List.map_set], by simp, fun u hu => ?_⟩
        rcases List.mem_or_eq_of_mem_set hu with hu | hu
        · exact hnn u hu
        · rw [hu]; exact hs
      walk_at "go"
      refine i_cut (fun σ' G' => ∃ ns' : List Str, ns'.length = ns.length ∧ (∀ s ∈ ns', nmOk s) ∧ Sm G G' ∧ G' F = some (.lst (ns'.map Z.str)) ∧ σ' = [some (.int c), some (.int w), some (.int n), some (.str LET), some (.ref t), some (.str stem), some (.int p), some (.ref F)]) ?_ ?_
      · walk_at "go"
        refine i_ixL gx9 (atI_int e9) ?_
        walk_at "go"
        refine ifD (fun c1 => ?_) fun c1 => ?_
        · walk_at "go"
          refine i_lenS (hstem.sz (by omega)) ?_
          walk_at "go"
          rw [hls]
          refine ifD (fun c2 => ?_) fun c2 => ?_
          · walk_at "go"
            refine i_ixL gF at0a ?_
            walk_at "go"
            refine i_ixL gF at0a ?_
            walk_at "go"
            refine i_ixS (ha.sz (by omega)) (by rw [ec]; exact at0) ?_
            refine i_addS (sm1000 (by rw [hla]; show m + 1 ≤ 1000; omega)) ?_
            walk_at "go"
            refine i_set gF hix ?_
            obtain ⟨ns', en, hl', hok'⟩ := setok _ ((ha.add (letN.one hc0)).nm (by omega) (by omega))
            exact ⟨ns', hl', hok', s9.put hFG, by rw [put_same, en], rfl⟩
          · walk_at "go"
            refine i_ixL gx9 (atI_int e9) ?_
            walk_at "go"
            refine ifD (fun _ => ?_) fun z => absurd c1 z
            walk_at "go"
            refine i_ixL gF at0a ?_
            walk_at "go"
            refine i_slS (ha.sz (by omega)) ?_
            walk_at "go"
            refine i_set gF hix ?_
            obtain ⟨ns', en, hl', hok'⟩ := setok _ ((ha.from (p := 1) (by omega)).nm (by omega) (by omega))
            exact ⟨ns', hl', hok', s9.put hFG, by rw [put_same]; exact congrArg _ (congrArg _ en), rfl⟩
        · walk_at "go"
          refine i_ixL gx9 (atI_int e9) ?_
          walk_at "go"
          refine ifD (fun z => absurd z c1) fun _ => ?_
          walk_at "go"
          exact ⟨hnn, s9, gF, rfl⟩
      · rintro σ' G' ⟨ns', hl', hok', s10, gF', rfl⟩
        walk_at "go"
        exact q F ns' G' hFG gF' (by rw [hl', hnl]; omega) hok' s10
theorem pow12 : (10 : Int) ^ (12 : Int).toNat = 1000000000000 := by decide
theorem at_nms {ns : List Str} {k : Int} (h : ∀ s ∈ ns, nmOk s) (h0 : 0 ≤ k) (h1 : k < (ns.length : Int)) : ∃ s, atI (ns.map Z.str) k = some (.str s) ∧ s ∈ ns ∧ nmOk s := by
  obtain ⟨j, rfl⟩ := Int.eq_ofNat_of_zero_le h0
  have hj : j < ns.length := by omega
  exact ⟨ns[j], atI_nat (by rw [List.getElem?_map, List.getElem?_eq_getElem hj]; rfl), List.getElem_mem hj, h _ (List.getElem_mem hj)⟩
theorem at_3 {a b c : Int} {k : Int} (h0 : 0 ≤ k) (h1 : k < 3) {P : Int → Prop} (pa : P a) (pb : P b) (pc : P c) : ∃ n, atI [Z.int a, .int b, .int c] k = some (.int n) ∧ P n := by
  have : k = 0 ∨ k = 1 ∨ k = 2 := by omega
  rcases this with rfl | rfl | rfl
  · exact ⟨_, rfl, pa⟩
  · exact ⟨_, rfl, pb⟩
  · exact ⟨_, rfl, pc⟩
theorem at_4 {a b c d : Int} {k : Int} (h0 : 0 ≤ k) (h1 : k < 4) {P : Int → Prop} (pa : P a) (pb : P b) (pc : P c) (pd : P d) : ∃ n, atI [Z.int a, .int b, .int c, .int d] k = some (.int n) ∧ P n := by
  have : k = 0 ∨ k = 1 ∨ k = 2 ∨ k = 3 := by omega
  rcases this with rfl | rfl | rfl | rfl
  · exact ⟨_, rfl, pa⟩
  · exact ⟨_, rfl, pb⟩
  · exact ⟨_, rfl, pc⟩
  · exact ⟨_, rfl, pd⟩
def sp_telling : P3 := fun ws G R => Ex6 fun (c w : Int) (ks wsA : Addr) (kn wn : List Str) => ws = [.int c, .int w, .ref ks, .ref wsA] ∧ G ks = some (.lst (kn.map Z.str)) ∧ G wsA = some (.lst (wn.map Z.str)) ∧ 1 ≤ kn.length ∧ kn.length ≤ 20 ∧ 1 ≤ wn.length ∧ wn.length ≤ 20 ∧ (∀ s ∈ kn, nmOk s) ∧ (∀ s ∈ wn, nmOk s) ∧
  ∀ τ G', Sm G G' → Tl.Ok τ → R τ.z G'
theorem len_telling {ws : List Z} {G : Hq} {R : K3} (h : sp_telling ws G R) : ws.length = 4 := by obtain ⟨_, _, _, _, _, _, rfl, _⟩ := h; rfl
theorem ok_telling {P : Program} {w : World} {K : PySem.W.Frag} {mg : Str → Option Value} {base : Heap} {a : Ad} (F : Fns K a) (T : Txt K mg a) : FnOk P w K mg base CX0 3 a.f_telling a.d_telling ["cell", "way", "keys", "worths"] (lowP K sp_telling) := by
  have G_parts : FnOk P w K mg base CX0 2 a.f_parts a.d_parts ["cell", "way", "bounds"] (lowP K sp_parts) := ok_parts F T
  refine fn3 F.telling sc_telling (fun ws G R h => (by exact len_telling h)) (fun cdv A outer s H E ws G R hr h => ?_)
  have hu : (A.deeper (PyProof.Rows.envOfC "_law_telling" (defScope s_telling) s.heap.objs.size a.f_telling cdv)).units + 66 < cLine := by have := hr.un; omega
  refine ⟨_, (z_cons (z_set (i := 4) sc_telling.nd rfl (Or.inl rfl) (q_call G_parts (hr.mono (by decide)) rfl T.m_parts T.k_parts (b_parts F) (q_cons (q_var (pv 0)) (q_cons (q_var (pv 1)) (q_cons (q_lst (q_cons q_int (q_cons (q_callB b_len rfl T.b_len PySem.boot_len (q_cons (q_var (pv 2)) q_nil se_Name) (he := se_Name) (hpl := hp_nil)) (q_cons (q_callB b_len rfl T.b_len PySem.boot_len (q_cons (q_var (pv 3)) q_nil se_Name) (he := se_Name) (hpl := hp_nil)) (q_cons q_int (q_cons q_int (q_cons q_int (q_cons q_int (q_cons (q_op o_add (q_op o_pow q_int q_int) q_int) (q_cons (q_op o_pow q_int q_int) q_nil se_BinOp) se_BinOp) se_Constant) se_Constant) se_Constant) se_Constant) se_Call) se_Call) se_Constant)) q_nil se_List) se_Name) se_Name) (he := se_Name) (hpl := (hp_cons se_Name (hp_cons se_List hp_nil)))))
    (z_cons (z_set (i := 5) sc_telling.nd rfl (Or.inl rfl) (q_ix x_ix (q_lst (q_cons (q_ix x_ix (q_var (pv 4)) q_int (fun _ _ => rfl)) (q_cons (q_op o_sub (q_op o_pow q_int q_int) (q_op o_mod (q_ix x_ix (q_var (pv 4)) q_int (fun _ _ => rfl)) q_int)) (q_cons (q_ix x_ix (q_var (pv 4)) q_int (fun _ _ => rfl)) q_nil se_Subscript) se_BinOp) se_Subscript)) (q_callB (b_min rfl) rfl T.b_min rfl (q_cons q_int (q_cons (q_ix x_ix (q_var (pv 4)) q_int (fun _ _ => rfl)) q_nil se_Subscript) se_Constant) (he := se_Constant) (hpl := (hp_cons se_Subscript hp_nil))) (fun _ _ => rfl)))
    (z_cons (z_set (i := 6) sc_telling.nd rfl (Or.inl rfl) q_non)
    (z_cut (z_if (QW.qt (q_and (q_cmpT o_gt (q_ix x_ix (q_var (pv 4)) q_int (fun _ _ => rfl)) q_int (nomark _)) (q_and1 (q_cmpT o_lt (q_var (pv 5)) (q_op o_pow q_int q_int) (nomark _)))))
    (z_one (z_set (i := 6) sc_telling.nd rfl (Or.inl rfl) (q_callB (b_min rfl) rfl T.b_min rfl (q_cons (q_op o_pow q_int q_int) (q_cons (q_op o_add (q_op o_add (q_var (pv 5)) q_int) (q_ix x_ix (q_lst (q_cons (q_op o_mod (q_ix x_ix (q_var (pv 4)) q_int (fun _ _ => rfl)) q_int) (q_cons (q_ix x_ix (q_var (pv 4)) q_int (fun _ _ => rfl)) (q_cons (q_ix x_ix (q_var (pv 4)) q_int (fun _ _ => rfl)) (q_cons (q_ix x_ix (q_var (pv 4)) q_int (fun _ _ => rfl)) q_nil se_Subscript) se_Subscript) se_Subscript) se_BinOp)) (q_op o_sub (q_ix x_ix (q_var (pv 4)) q_int (fun _ _ => rfl)) q_int) (fun _ _ => rfl))) q_nil se_BinOp) se_BinOp) (he := se_BinOp) (hpl := (hp_cons se_BinOp hp_nil)))))
    z_nil)
    (z_cons (z_if (q_cmpT (o_eq hu) (q_ix x_ix (q_var (pv 4)) q_int (fun _ _ => rfl)) q_int (nomark _))
    (z_one (z_ret (q_tup (q_cons q_str (q_cons (q_ix x_ix (q_var (pv 2)) (q_ix x_ix (q_var (pv 4)) q_int (fun _ _ => rfl)) (fun _ _ => rfl)) (q_cons (q_var (pv 5)) (q_cons (q_var (pv 6)) q_nil se_Name) se_Name) se_Subscript) se_Constant))))
    z_nil)
    (z_one (z_ret (q_tup (q_cons q_str (q_cons (q_ix x_ix (q_var (pv 2)) (q_ix x_ix (q_var (pv 4)) q_int (fun _ _ => rfl)) (fun _ _ => rfl)) (q_cons (q_ix x_ix (q_var (pv 3)) (q_ix x_ix (q_var (pv 4)) q_int (fun _ _ => rfl)) (fun _ _ => rfl)) (q_cons (q_var (pv 5)) (q_cons (q_var (pv 6)) q_nil se_Name) se_Name) se_Subscript) se_Subscript) se_Constant))))))))), ?_⟩
  obtain ⟨c, w, ks, wsA, kn, wn, rfl, hk, hw, kn1, kn2, wn1, wn2, hkn, hwn, q⟩ := h
  walk_at "go"
  refine i_lenL hk ?_
  walk_at "go"
  refine i_lenL hw ?_
  walk_at "go"
  refine i_I ⟨by decide, by decide, by decide⟩ ?_
  rw [pow12]
  walk_at "go"
  refine i_I ⟨by decide, by decide, by decide⟩ ?_
  rw [pow12]
  walk_at "go"
  refine ⟨lenK rfl, fun a1 h1 => ?_⟩
  walk_at "go"
  rw [List.length_map, List.length_map]
  refine ⟨c, w, a1, [4, (kn.length : Int), (wn.length : Int), 24, 5, 40, 8, 1000000000000 + 1, 1000000000000], rfl, put_same, by show 9 ≤ 20; decide, fun b hb => ?_, fun t xs ht hB => ?_⟩
  · simp only [List.mem_cons, List.not_mem_nil, or_false] at hb
    rcases hb with rfl | rfl | rfl | rfl | rfl | rfl | rfl | rfl | rfl <;> omega
  have s2 := (Sm.new (o := .lst [.int 4, .int (kn.length : Int), .int (wn.length : Int), .int 24, .int 5, .int 40, .int 8, .int (1000000000000 + 1), .int 1000000000000]) h1).trans (Sm.new (o := .lst (xs.map Z.int)) ht)
  have gx : put (put G a1 (.lst [.int 4, .int (kn.length : Int), .int (wn.length : Int), .int 24, .int 5, .int 40, .int 8, .int (1000000000000 + 1), .int 1000000000000])) t (.lst (xs.map Z.int)) t = some (.lst (xs.map Z.int)) := put_same
  generalize put (put G a1 (.lst [.int 4, .int (kn.length : Int), .int (wn.length : Int), .int 24, .int 5, .int 40, .int 8, .int (1000000000000 + 1), .int 1000000000000])) t (.lst (xs.map Z.int)) = G2 at s2 gx ⊢
  obtain ⟨x0, e0, x00, x01⟩ := hB.at (i := 0) rfl
  obtain ⟨x1, e1, x10, x11⟩ := hB.at (i := 1) rfl
  obtain ⟨x2, e2, x20, x21⟩ := hB.at (i := 2) rfl
  obtain ⟨x3, e3, x30, x31⟩ := hB.at (i := 3) rfl
  obtain ⟨x4, e4, x40, x41⟩ := hB.at (i := 4) rfl
  obtain ⟨x5, e5, x50, x51⟩ := hB.at (i := 5) rfl
  obtain ⟨x6, e6, x60, x61⟩ := hB.at (i := 6) rfl
  obtain ⟨x7, e7, x70, x71⟩ := hB.at (i := 7) rfl
  obtain ⟨x8, e8, x80, x81⟩ := hB.at (i := 8) rfl
  walk_at "go"
  refine i_ixL gx (atI_int e7) ?_
  walk_at "go"
  refine i_I ⟨by decide, by decide, by decide⟩ ?_
  rw [pow12]
  walk_at "go"
  refine i_ixL gx (atI_int e3) ?_
  walk_at "go"
  refine i_I (show (0 : Int) < 3 by decide) ?_
  walk_at "go"
  refine i_ixL gx (atI_int e3) ?_
  walk_at "go"
  refine ⟨lenK rfl, fun a3 h3 => ?_⟩
  walk_at "go"
  refine i_ixL (put_old gx h3) (atI_int e6) ?_
  walk_at "go"
  obtain ⟨b, eb, b0, b1⟩ := at_3 (a := x7) (b := 1000000000000 - x3 % 3) (c := x3) (k := if x6 < 2 then x6 else 2) (by split <;> omega) (by split <;> omega) (P := fun n => 0 ≤ n ∧ n ≤ 1000000000000) ⟨x70, by omega⟩ ⟨by omega, by omega⟩ ⟨x30, by omega⟩
  refine i_ixL put_same eb ?_
  have s3 := s2.trans (Sm.new (o := .lst [.int x7, .int (1000000000000 - x3 % 3), .int x3]) h3)
  have gx3 := put_old (o := .lst [.int x7, .int (1000000000000 - x3 % 3), .int x3]) gx h3
  generalize put G2 a3 (.lst [.int x7, .int (1000000000000 - x3 % 3), .int x3]) = G3 at s3 gx3 ⊢
  walk_at "go"
  refine i_cut (fun σ' G' => ∃ e : Option Int, stOk b e ∧ Sm G3 G' ∧ σ' = [some (.int c), some (.int w), some (.ref ks), some (.ref wsA), some (.ref t), some (.int b), some (oz e)]) ?_ ?_
  · walk_at "go"
    refine i_ixL gx3 (atI_int e4) ?_
    walk_at "go"
    refine ifD (fun c1 => ?_) fun c1 => ?_
    · walk_at "go"
      refine i_I ⟨by decide, by decide, by decide⟩ ?_
      rw [pow12]
      walk_at "go"
      refine ifD (fun c2 => ?_) fun c2 => ?_
      · walk_at "go"
        refine i_I ⟨by decide, by decide, by decide⟩ ?_
        rw [pow12]
        walk_at "go"
        refine i_ixL gx3 (atI_int e5) ?_
        walk_at "go"
        refine i_I (show (0 : Int) < 4 by decide) ?_
        walk_at "go"
        refine i_ixL gx3 (atI_int e5) ?_
        walk_at "go"
        refine i_ixL gx3 (atI_int e5) ?_
        walk_at "go"
        refine i_ixL gx3 (atI_int e8) ?_
        walk_at "go"
        refine ⟨lenK rfl, fun a4 h4 => ?_⟩
        walk_at "go"
        refine i_ixL (put_old gx3 h4) (atI_int e4) ?_
        walk_at "go"
        obtain ⟨n, en, n0⟩ := at_4 (a := x5 % 4) (b := x5) (c := x5) (d := x8) (k := x4 - 1) (by omega) (by omega) (P := fun n => 0 ≤ n) (Int.emod_nonneg _ (by decide)) x50 x50 x80
        refine i_ixL put_same en ?_
        walk_at "go"
        refine ⟨some (if b + 1 + n < 1000000000000 then b + 1 + n else 1000000000000), ⟨b0, b1, fun x hx => ?_⟩, Sm.new h4, rfl⟩
        cases hx
        unfold T12
        split <;> omega
      · walk_at "go"
        exact ⟨none, ⟨b0, b1, fun x hx => nomatch hx⟩, Sm.refl _, rfl⟩
    · walk_at "go"
      exact ⟨none, ⟨b0, b1, fun x hx => nomatch hx⟩, Sm.refl _, rfl⟩
  · rintro σ' G' ⟨e, hst, s4, rfl⟩
    have gx4 := s4 _ _ gx3
    have S4 := s3.trans s4
    obtain ⟨kk, ekk, _, hkk⟩ := at_nms hkn x10 x11
    obtain ⟨ww, eww, _, hww⟩ := at_nms hwn x20 x21
    walk_at "go"
    refine i_ixL gx4 (atI_int e0) ?_
    walk_at "go"
    refine ifD (fun c1 => ?_) fun c1 => ?_
    · walk_at "go"
      refine i_ixL gx4 (atI_int e1) ?_
      walk_at "go"
      refine i_ixL (S4 _ _ hk) ekk ?_
      walk_at "go"
      refine ⟨lenK rfl, ?_⟩
      exact q ⟨kk, none, b, e⟩ G' S4 ⟨hkk, (fun s h => nomatch h), hst⟩
    · walk_at "go"
      refine i_ixL gx4 (atI_int e1) ?_
      walk_at "go"
      refine i_ixL (S4 _ _ hk) ekk ?_
      walk_at "go"
      refine i_ixL gx4 (atI_int e2) ?_
      walk_at "go"
      refine i_ixL (S4 _ _ hw) eww ?_
      walk_at "go"
      refine ⟨lenK rfl, ?_⟩
      exact q ⟨kk, some ww, b, e⟩ G' S4 ⟨hkk, (fun s h => by cases h; exact hww), hst⟩
def sp_Sheet_knowings (a : Ad) : P3 := fun ws G R => ∃ (p : Addr) (S : Addr → Prop) (T : List Tl), ws = [.ref p] ∧ Sheet a.c_Sheet G p S T ∧ R (.int T.length) G
theorem len_Sheet_knowings {a : Ad} {ws : List Z} {G : Hq} {R : K3} (h : sp_Sheet_knowings a ws G R) : ws.length = 1 := by obtain ⟨_, _, _, rfl, _⟩ := h; rfl
theorem ok_Sheet_knowings {P : Program} {w : World} {K : PySem.W.Frag} {mg : Str → Option Value} {base : Heap} {a : Ad} (F : Fns K a) (T : Txt K mg a) : FnOk P w K mg base CX0 1 a.f_Sheet_knowings a.d_Sheet_knowings ["self"] (lowP K (sp_Sheet_knowings a)) := by
  refine fn3 F.Sheet_knowings sc_Sheet_knowings (fun ws G R h => (by exact len_Sheet_knowings h)) (fun cdv A outer s H E ws G R hr h => ?_)
  have hu : (A.deeper (PyProof.Rows.envOfC "Sheet.knowings" (defScope s_Sheet_knowings) s.heap.objs.size a.f_Sheet_knowings cdv)).units + 66 < cLine := by have := hr.un; omega
  refine ⟨_, (z_one (z_ret (q_fld T.cl_Sheet T.na_last (q_var (pv 0))))), ?_⟩
  obtain ⟨p, S, T, rfl, ⟨dx, d, kvs, sh⟩, q⟩ := h
  walk_at "go"
  exact ⟨p, dx, _, _, rfl, sh.ob, lk_last, q⟩
def sp_Sheet_first : P3 := fun ws G R => ∃ p : Addr, ws = [.ref p] ∧ R (.int 0) G
theorem len_Sheet_first {ws : List Z} {G : Hq} {R : K3} (h : sp_Sheet_first ws G R) : ws.length = 1 := by obtain ⟨_, rfl, _⟩ := h; rfl
theorem ok_Sheet_first {P : Program} {w : World} {K : PySem.W.Frag} {mg : Str → Option Value} {base : Heap} {a : Ad} (F : Fns K a) (T : Txt K mg a) : FnOk P w K mg base CX0 1 a.f_Sheet_first a.d_Sheet_first ["self"] (lowP K sp_Sheet_first) := by
  refine fn3 F.Sheet_first sc_Sheet_first (fun ws G R h => (by exact len_Sheet_first h)) (fun cdv A outer s H E ws G R hr h => ?_)
  have hu : (A.deeper (PyProof.Rows.envOfC "Sheet.first" (defScope s_Sheet_first) s.heap.objs.size a.f_Sheet_first cdv)).units + 66 < cLine := by have := hr.un; omega
  refine ⟨_, (z_one (z_ret q_int)), ?_⟩
  obtain ⟨p, rfl, q⟩ := h
  walk_at "go"
  exact q
def sp_Sheet_line_at (a : Ad) : P3 := fun ws G R => Ex5 fun (p : Addr) (S : Addr → Prop) (T : List Tl) (k : Str) (q : Int) => ws = [.ref p, .str k, .int q] ∧ Sheet a.c_Sheet G p S T ∧ nmOk k ∧ 0 ≤ q ∧ q ≤ T.length ∧ T.length ≤ 200 ∧
  ∀ t L G', G t = none → Sm G G' → G' t = some (.lst (L.map Rw.z)) → IsLine (T.take q.toNat) k L → R (.ref t) G'
theorem len_Sheet_line_at {a : Ad} {ws : List Z} {G : Hq} {R : K3} (h : sp_Sheet_line_at a ws G R) : ws.length = 3 := by obtain ⟨_, _, _, _, _, rfl, _⟩ := h; rfl
theorem ok_Sheet_line_at {P : Program} {w : World} {K : PySem.W.Frag} {mg : Str → Option Value} {base : Heap} {a : Ad} (F : Fns K a) (T : Txt K mg a) : FnOk P w K mg base CX0 3 a.f_Sheet_line_at a.d_Sheet_line_at ["self", "key", "knowing"] (lowP K (sp_Sheet_line_at a)) := by
  have G_Sheet_check_knowing : FnOk P w K mg base CX0 2 a.f_Sheet_check_knowing a.d_Sheet_check_knowing ["self", "knowing"] (lowP K (sp_Sheet_check_knowing a)) := ok_Sheet_check_knowing F T
  have G_p_check_name : FnOk P w K mg base (CXx P w) 2 a.f_p_check_name a.d_p_check_name ["thing"] (lowPx K (sp_p_check_name a)) := ok_p_check_name F T
  have G_Sheet_known_line : FnOk P w K mg base CX0 1 a.f_Sheet_known_line a.d_Sheet_known_line ["self", "key", "knowing"] (lowP K (sp_Sheet_known_line a)) := ok_Sheet_known_line F T
  refine fn3 F.Sheet_line_at sc_Sheet_line_at (fun ws G R h => (by exact len_Sheet_line_at h)) (fun cdv A outer s H E ws G R hr h => ?_)
  have hu : (A.deeper (PyProof.Rows.envOfC "Sheet.line_at" (defScope s_Sheet_line_at) s.heap.objs.size a.f_Sheet_line_at cdv)).units + 66 < cLine := by have := hr.un; omega
  refine ⟨_, (z_cons (z_expr (q_meth (q_var (pv 0)) T.cl_Sheet T.mt_Sheet_check_knowing G_Sheet_check_knowing (hr.mono (by decide)) (b_Sheet_check_knowing F) (q_cons (q_var (pv 2)) q_nil se_Name) (hst := se_Name) (hpl := hp_nil)))
    (z_cons (z_expr (q_callX pass_none up0 G_p_check_name (hr.mono (by decide)) rfl T.m_p_check_name T.k_p_check_name (b_p_check_name F) (q_cons (q_var (pv 1)) q_nil se_Name) (he := se_Name) (hpl := hp_nil)))
    (z_one (z_ret (q_meth (q_var (pv 0)) T.cl_Sheet T.mt_Sheet_known_line G_Sheet_known_line (hr.mono (by decide)) (b_Sheet_known_line F) (q_cons (q_var (pv 1)) (q_cons (q_var (pv 2)) q_nil se_Name) se_Name) (hst := se_Name) (hpl := (hp_cons se_Name hp_nil))))))), ?_⟩
  obtain ⟨p, S, T, k, q, rfl, sh, hk, h0, h1, hT, fin⟩ := h
  have sh' := sh
  obtain ⟨dx, d, kvs, sm⟩ := sh'
  walk_at "go"
  refine ⟨p, dx, _, rfl, sm.ob, lk_no (by decide +kernel) (by decide +kernel), ?_⟩
  walk_at "go"
  refine ⟨p, S, T, q, rfl, sh, h0, h1, ?_⟩
  walk_at "go"
  refine ⟨_, rfl, nm_th hk, fun G1 s1 => ?_⟩
  rw [nm_b hk]
  refine ifT ?_
  have sm1 := sm.keep (Sm.ks s1)
  walk_at "go"
  refine ⟨p, dx, _, rfl, sm1.ob, lk_no (by decide +kernel) (by decide +kernel), ?_⟩
  walk_at "go"
  exact ⟨p, S, T, k, q, _, dx, d, kvs, rfl, sm1, h0, h1, hT, fun t L G2 ht s2 gt il => fin t L G2 (s1.free ht) (s1.trans s2) gt il⟩
theorem strOk_app {a b : Str} (ha : PyData.strOk a = true) (hb : PyData.strOk b = true) : PyData.strOk (a ++ b) = true := by
  unfold PyData.strOk at *
  show (a.cps ++ b.cps).all _ = true
  rw [Array.all_append, ha, hb]; rfl
theorem strOk_slice {a : Str} (ha : PyData.strOk a = true) (lo hi : Option Int) : PyData.strOk (Txt.slice a lo hi) = true := by
  unfold Txt.slice
  split
  · exact ha
  · unfold PyData.strOk at *
    rw [Array.all_eq_true_iff_forall_mem] at *
    intro c hc
    obtain ⟨j, _, hj⟩ := List.mem_filterMap.mp (by simpa using hc)
    exact ha c (Array.mem_of_getElem? hj)
theorem app_len (a b : Str) : (a ++ b).length = a.length + b.length := Array.size_append
theorem bad_mid {x y s : Str} {c : Nat} (hc : s.cps.toList = [c]) (hn : okC c = false) : nameB (.str (x ++ s ++ y)) = false := by
  rw [name_str, app_list, app_list, hc, List.all_append, List.all_append, List.all_cons, hn]
  simp
def badSigns : List Str := ["A", "0", " ", "-", "_"]
theorem bad_signs : ∀ s ∈ badSigns, s.length = 1 ∧ PyData.strOk s = true ∧ ∃ c, s.cps.toList = [c] ∧ okC c = false := by
  intro s hs
  unfold badSigns at hs
  simp only [List.mem_cons, List.not_mem_nil, or_false] at hs
  rcases hs with rfl | rfl | rfl | rfl | rfl
  · exact ⟨by decide +kernel, by decide +kernel, 65, by decide +kernel, by decide +kernel⟩
  · exact ⟨by decide +kernel, by decide +kernel, 48, by decide +kernel, by decide +kernel⟩
  · exact ⟨by decide +kernel, by decide +kernel, 32, by decide +kernel, by decide +kernel⟩
  · exact ⟨by decide +kernel, by decide +kernel, 45, by decide +kernel, by decide +kernel⟩
  · exact ⟨by decide +kernel, by decide +kernel, 95, by decide +kernel, by decide +kernel⟩
theorem at_strs {ns : List Str} {k : Int} (h0 : 0 ≤ k) (h1 : k < ns.length) : ∃ s, atI (ns.map Z.str) k = some (.str s) ∧ s ∈ ns := by
  obtain ⟨j, rfl⟩ := Int.eq_ofNat_of_zero_le h0
  have hj : j < ns.length := by omega
  exact ⟨ns[j], atI_nat (by rw [List.getElem?_map, List.getElem?_eq_getElem hj]; rfl), List.getElem_mem hj⟩
theorem at_any {zs : List Z} {k : Int} (h0 : 0 ≤ k) (h1 : k < zs.length) : ∃ z, atI zs k = some z ∧ z ∈ zs := by
  obtain ⟨j, rfl⟩ := Int.eq_ofNat_of_zero_le h0
  have hj : j < zs.length := by omega
  exact ⟨zs[j], atI_nat (List.getElem?_eq_getElem hj), List.getElem_mem hj⟩
def sp_bad_name : P3 := fun ws G R => ∃ (c : Int) (s : Str), ws = [.int c, .str s] ∧ nmOk s ∧ ∀ z G', Sm G G' → (∀ G'', Th G'' z) → nameB z = false → R z G'
theorem len_bad_name {ws : List Z} {G : Hq} {R : K3} (h : sp_bad_name ws G R) : ws.length = 2 := by obtain ⟨_, _, rfl, _⟩ := h; rfl
theorem ok_bad_name {P : Program} {w : World} {K : PySem.W.Frag} {mg : Str → Option Value} {base : Heap} {a : Ad} (F : Fns K a) (T : Txt K mg a) : FnOk P w K mg base CX0 2 a.f_bad_name a.d_bad_name ["cell", "name"] (lowP K sp_bad_name) := by
  have G_mix : FnOk P w K mg base CX0 1 a.f_mix a.d_mix ["cell", "k"] (lowP K sp_mix) := ok_mix F T
  refine fn3 F.bad_name sc_bad_name (fun ws G R h => (by exact len_bad_name h)) (fun cdv A outer s H E ws G R hr h => ?_)
  have hu : (A.deeper (PyProof.Rows.envOfC "_law_bad_name" (defScope s_bad_name) s.heap.objs.size a.f_bad_name cdv)).units + 66 < cLine := by have := hr.un; omega
  refine ⟨_, (z_cons (z_set (i := 2) sc_bad_name.nd rfl (Or.inl rfl) (q_op o_mod (q_call G_mix (hr.mono (by decide)) rfl T.m_mix T.k_mix (b_mix F) (q_cons (q_var (pv 0)) (q_cons q_int q_nil se_Constant) se_Name) (he := se_Name) (hpl := (hp_cons se_Constant hp_nil))) (q_op o_add (q_callB b_len rfl T.b_len PySem.boot_len (q_cons (q_var (pv 1)) q_nil se_Name) (he := se_Name) (hpl := hp_nil)) q_int)))
    (z_cons (z_set (i := 3) sc_bad_name.nd rfl (Or.inl rfl) (q_ix x_ix (q_lst (q_cons q_str (q_cons q_str (q_cons q_str (q_cons q_str (q_cons q_str q_nil se_Constant) se_Constant) se_Constant) se_Constant) se_Constant)) (q_op o_mod (q_call G_mix (hr.mono (by decide)) rfl T.m_mix T.k_mix (b_mix F) (q_cons (q_var (pv 0)) (q_cons q_int q_nil se_Constant) se_Name) (he := se_Name) (hpl := (hp_cons se_Constant hp_nil))) q_int) (fun _ _ => rfl)))
    (z_cons (z_set (i := 4) sc_bad_name.nd rfl (Or.inl rfl) q_str)
    (z_one (z_ret (q_ix x_ix (q_lst (q_cons q_str (q_cons (q_var (pv 4)) (q_cons (q_op o_add (q_op o_add (q_slice x_sl (q_slice x_sl (q_var (pv 1)) q_nopart (q_part (q_var (pv 2)))) q_nopart (q_part q_int)) (q_var (pv 3))) (q_slice x_sl (q_slice x_sl (q_var (pv 1)) (q_part (q_var (pv 2))) q_nopart) q_nopart (q_part (q_op o_sub q_int (q_var (pv 2)))))) (q_cons q_non (q_cons q_int (q_cons q_bl (q_cons (q_tup (q_cons q_str q_nil se_Constant)) q_nil se_Tuple) se_Constant) se_Constant) se_Constant) se_BinOp) se_Name) se_Constant)) (q_op o_mod (q_call G_mix (hr.mono (by decide)) rfl T.m_mix T.k_mix (b_mix F) (q_cons (q_var (pv 0)) (q_cons q_int q_nil se_Constant) se_Name) (he := se_Name) (hpl := (hp_cons se_Constant hp_nil))) q_int) (fun _ _ => rfl))))))), ?_⟩
  obtain ⟨c, s, rfl, hs, q⟩ := h
  have hsl : s.length ≤ 8 := by rw [len_s]; exact hs.2.1
  have hok := strOk_of hs.2.2
  walk_at "go"
  refine ⟨c, 20, rfl, by decide, by decide, fun r r0 r1 => ?_⟩
  walk_at "go"
  refine i_lenS (sm1000 (by omega)) ?_
  walk_at "go"
  refine i_I (show (0 : Int) < (s.length : Int) + 1 by omega) ?_
  walk_at "go"
  generalize r % ((s.length : Int) + 1) = at_
  refine ⟨lenK rfl, fun u hu => ?_⟩
  walk_at "go"
  refine ⟨c, 21, rfl, by decide, by decide, fun r2 r20 r21 => ?_⟩
  walk_at "go"
  refine i_I (show (0 : Int) < 5 by decide) ?_
  obtain ⟨sg, a1, hsg⟩ := at_strs (ns := badSigns) (k := r2 % 5) (by omega) (by show r2 % 5 < 5; omega)
  obtain ⟨sl, so, ch, sc, sn⟩ := bad_signs sg hsg
  refine i_ixL put_same a1 ?_
  walk_at "go"
  refine i_slS (sm1000 (by omega)) ?_
  have l1 := PyProof.Txt.length_slice_le s none (some at_)
  have o1 := strOk_slice hok none (some at_)
  generalize Txt.slice s none (some at_) = x1 at l1 o1 ⊢
  walk_at "go"
  refine i_slS (sm1000 (by omega)) ?_
  have l2 := PyProof.Txt.length_slice_le x1 none (some 7)
  have o2 := strOk_slice o1 none (some 7)
  generalize Txt.slice x1 none (some 7) = x2 at l2 o2 ⊢
  walk_at "go"
  refine i_addS (sm1000 (by omega)) ?_
  walk_at "go"
  refine i_slS (sm1000 (by omega)) ?_
  have l3 := PyProof.Txt.length_slice_le s (some at_) none
  have o3 := strOk_slice hok (some at_) none
  generalize Txt.slice s (some at_) none = x3 at l3 o3 ⊢
  walk_at "go"
  refine i_slS (sm1000 (by omega)) ?_
  have l4 := PyProof.Txt.length_slice_le x3 none (some (7 - at_))
  have o4 := strOk_slice o3 none (some (7 - at_))
  generalize Txt.slice x3 none (some (7 - at_)) = x4 at l4 o4 ⊢
  walk_at "go"
  refine i_addS (sm1000 (by rw [app_len]; omega)) ?_
  walk_at "go"
  refine ⟨lenK rfl, ?_⟩
  walk_at "go"
  refine ⟨lenK rfl, fun v hv => ?_⟩
  walk_at "go"
  refine ⟨c, 22, rfl, by decide, by decide, fun r3 r30 r31 => ?_⟩
  walk_at "go"
  refine i_I (show (0 : Int) < 7 by decide) ?_
  obtain ⟨z, a2, hz⟩ := at_any (zs := [.str (Str.ofString ""), .str (Str.ofString "abcdefghi"), .str (x2 ++ sg ++ x4), .non, .int 7, .bl true, .tup [.str (Str.ofString "a")]]) (k := r3 % 7) (by omega) (by show r3 % 7 < 7; omega)
  refine i_ixL put_same a2 ?_
  have ok : (∀ G'', Th G'' z) ∧ nameB z = false := by
    simp only [List.mem_cons, List.not_mem_nil, or_false] at hz
    rcases hz with rfl | rfl | rfl | rfl | rfl | rfl | rfl
    · exact ⟨fun _ => ⟨by decide +kernel, by decide +kernel⟩, by decide +kernel⟩
    · exact ⟨fun _ => ⟨by decide +kernel, by decide +kernel⟩, by decide +kernel⟩
    · exact ⟨fun _ => ⟨by rw [app_len, app_len]; omega, strOk_app (strOk_app o2 so) o4⟩, bad_mid sc sn⟩
    · exact ⟨fun _ => True.intro, rfl⟩
    · exact ⟨fun _ => True.intro, rfl⟩
    · exact ⟨fun _ => True.intro, rfl⟩
    · exact ⟨fun _ => True.intro, rfl⟩
  exact q z _ ((Sm.new hu).trans (Sm.new hv)) ok.1 ok.2
def sp_bad_stretch : P3 := fun ws G R => ∃ c b : Int, ws = [.int c, .int b] ∧ 0 ≤ b ∧ b ≤ T12 ∧ ∀ x y G', Sm G G' → (∀ G'', Th G'' x ∧ Th G'' y) → strB x y = false → R (.tup [x, y]) G'
theorem len_bad_stretch {ws : List Z} {G : Hq} {R : K3} (h : sp_bad_stretch ws G R) : ws.length = 2 := by obtain ⟨_, _, rfl, _⟩ := h; rfl
def NoSt (z : Z) : Prop := ∃ x y, z = .tup [x, y] ∧ (∀ G'', Th G'' x ∧ Th G'' y) ∧ strB x y = false
theorem mom_no {i : Int} (h : i < 0 ∨ T12 < i) : momB (.int i) = false := by
  unfold T12 at h
  rw [mom_int]
  rcases h with h | h
  · rw [decide_eq_false (show ¬ 0 ≤ i by omega)]; rfl
  · rw [decide_eq_false (show ¬ i ≤ 1000000000000 by omega), Bool.and_false]
theorem nost_b {x y : Z} (hx : ∀ G'', Th G'' x) (hy : ∀ G'', Th G'' y) (h : momB x = false) : NoSt (.tup [x, y]) := ⟨x, y, rfl, fun G'' => ⟨hx G'', hy G''⟩, by unfold strB; rw [h]; rfl⟩
theorem nost_e {i j : Int} (h : j < 0 ∨ T12 < j ∨ j ≤ i) : NoSt (.tup [.int i, .int j]) := ⟨_, _, rfl, fun G'' => ⟨True.intro, True.intro⟩, by
  show (momB (.int i) && (momB (.int j) && decide (i < j))) = false
  rcases h with h | h | h
  · rw [mom_no (.inl h)]; cases momB (.int i) <;> rfl
  · rw [mom_no (.inr h)]; cases momB (.int i) <;> rfl
  · rw [decide_eq_false (show ¬ i < j by omega), Bool.and_false, Bool.and_false]⟩
theorem nost_k {i : Int} {y : Z} (hy : ∀ G'', Th G'' y) (h : strB (.int i) y = false) : NoSt (.tup [.int i, y]) := ⟨_, _, rfl, fun G'' => ⟨True.intro, hy G''⟩, h⟩
theorem noSts {b far : Int} (hf : 1 ≤ far) (hb0 : 0 ≤ b) : ∀ z ∈ ([.tup [.int (-1), .non], .tup [.int (0 - far), .int b], .tup [.int (1000000000000 + far), .non], .tup [.int b, .int b], .tup [.int b, .int (b - 1)], .tup [.bl true, .non]] ++ [.tup [.int b, .int (1000000000000 + far)], .tup [.int b, .bl true], .tup [.int b, .str (Str.ofString "a")], .tup [.non, .non], .tup [.str (Str.ofString "0"), .non], .tup [.int b, .int (-1)]] ++ [.tup [.int 0, .bl false], .tup [.int 1000000000000, .int (1000000000000 + 1)]] : List Z), NoSt z := by
  intro z hz
  have ts : ∀ s : Str, okS s → ∀ G'', Th G'' (.str s) := fun s h _ => h
  simp only [List.cons_append, List.nil_append, List.mem_cons, List.not_mem_nil, or_false] at hz
  rcases hz with rfl | rfl | rfl | rfl | rfl | rfl | rfl | rfl | rfl | rfl | rfl | rfl | rfl | rfl
  · exact nost_b (fun _ => True.intro) (fun _ => True.intro) (by decide)
  · exact nost_b (fun _ => True.intro) (fun _ => True.intro) (mom_no (.inl (by omega)))
  · exact nost_b (fun _ => True.intro) (fun _ => True.intro) (mom_no (.inr (by unfold T12; omega)))
  · exact nost_e (.inr (.inr (by omega)))
  · exact nost_e (.inr (.inr (by omega)))
  · exact nost_b (fun _ => True.intro) (fun _ => True.intro) rfl
  · exact nost_e (.inr (.inl (by unfold T12; omega)))
  · exact nost_k (fun _ => True.intro) (by unfold strB; exact Bool.and_false _)
  · exact nost_k (ts _ ⟨by decide +kernel, by decide +kernel⟩) (by unfold strB; exact Bool.and_false _)
  · exact nost_b (fun _ => True.intro) (fun _ => True.intro) rfl
  · exact nost_b (ts _ ⟨by decide +kernel, by decide +kernel⟩) (fun _ => True.intro) rfl
  · exact nost_e (.inl (by decide))
  · exact nost_k (fun _ => True.intro) (by unfold strB; exact Bool.and_false _)
  · exact nost_e (.inr (.inl (by decide)))
theorem ok_bad_stretch {P : Program} {w : World} {K : PySem.W.Frag} {mg : Str → Option Value} {base : Heap} {a : Ad} (F : Fns K a) (T : Txt K mg a) : FnOk P w K mg base CX0 2 a.f_bad_stretch a.d_bad_stretch ["cell", "begin"] (lowP K sp_bad_stretch) := by
  have G_mix : FnOk P w K mg base CX0 1 a.f_mix a.d_mix ["cell", "k"] (lowP K sp_mix) := ok_mix F T
  refine fn3 F.bad_stretch sc_bad_stretch (fun ws G R h => (by exact len_bad_stretch h)) (fun cdv A outer s H E ws G R hr h => ?_)
  have hu : (A.deeper (PyProof.Rows.envOfC "_law_bad_stretch" (defScope s_bad_stretch) s.heap.objs.size a.f_bad_stretch cdv)).units + 66 < cLine := by have := hr.un; omega
  refine ⟨_, (z_cons (z_set (i := 2) sc_bad_stretch.nd rfl (Or.inl rfl) (q_op o_add q_int (q_call G_mix (hr.mono (by decide)) rfl T.m_mix T.k_mix (b_mix F) (q_cons (q_var (pv 0)) (q_cons q_int q_nil se_Constant) se_Name) (he := se_Name) (hpl := (hp_cons se_Constant hp_nil)))))
    (z_cons (z_set (i := 3) sc_bad_stretch.nd rfl (Or.inl rfl) (q_lst (q_cons (q_tup (q_cons (q_un o_neg q_int) (q_cons q_non q_nil se_Constant) se_UnaryOp)) (q_cons (q_tup (q_cons (q_op o_sub q_int (q_var (pv 2))) (q_cons (q_var (pv 1)) q_nil se_Name) se_BinOp)) (q_cons (q_tup (q_cons (q_op o_add (q_op o_pow q_int q_int) (q_var (pv 2))) (q_cons q_non q_nil se_Constant) se_BinOp)) (q_cons (q_tup (q_cons (q_var (pv 1)) (q_cons (q_var (pv 1)) q_nil se_Name) se_Name)) (q_cons (q_tup (q_cons (q_var (pv 1)) (q_cons (q_op o_sub (q_var (pv 1)) q_int) q_nil se_BinOp) se_Name)) (q_cons (q_tup (q_cons q_bl (q_cons q_non q_nil se_Constant) se_Constant)) q_nil se_Tuple) se_Tuple) se_Tuple) se_Tuple) se_Tuple) se_Tuple)))
    (z_cons (z_set (i := 3) sc_bad_stretch.nd rfl (Or.inl rfl) (q_op o_add (q_var (pv 3)) (q_lst (q_cons (q_tup (q_cons (q_var (pv 1)) (q_cons (q_op o_add (q_op o_pow q_int q_int) (q_var (pv 2))) q_nil se_BinOp) se_Name)) (q_cons (q_tup (q_cons (q_var (pv 1)) (q_cons q_bl q_nil se_Constant) se_Name)) (q_cons (q_tup (q_cons (q_var (pv 1)) (q_cons q_str q_nil se_Constant) se_Name)) (q_cons (q_tup (q_cons q_non (q_cons q_non q_nil se_Constant) se_Constant)) (q_cons (q_tup (q_cons q_str (q_cons q_non q_nil se_Constant) se_Constant)) (q_cons (q_tup (q_cons (q_var (pv 1)) (q_cons (q_un o_neg q_int) q_nil se_UnaryOp) se_Name)) q_nil se_Tuple) se_Tuple) se_Tuple) se_Tuple) se_Tuple) se_Tuple))))
    (z_cons (z_set (i := 3) sc_bad_stretch.nd rfl (Or.inl rfl) (q_op o_add (q_var (pv 3)) (q_lst (q_cons (q_tup (q_cons q_int (q_cons q_bl q_nil se_Constant) se_Constant)) (q_cons (q_tup (q_cons (q_op o_pow q_int q_int) (q_cons (q_op o_add (q_op o_pow q_int q_int) q_int) q_nil se_BinOp) se_BinOp)) q_nil se_Tuple) se_Tuple))))
    (z_one (z_ret (q_ix x_ix (q_var (pv 3)) (q_op o_mod (q_call G_mix (hr.mono (by decide)) rfl T.m_mix T.k_mix (b_mix F) (q_cons (q_var (pv 0)) (q_cons q_int q_nil se_Constant) se_Name) (he := se_Name) (hpl := (hp_cons se_Constant hp_nil))) (q_callB b_len rfl T.b_len PySem.boot_len (q_cons (q_var (pv 3)) q_nil se_Name) (he := se_Name) (hpl := hp_nil))) (fun _ _ => rfl)))))))), ?_⟩
  obtain ⟨c, b, rfl, b0, b1, q⟩ := h
  walk_at "go"
  refine ⟨c, 23, rfl, by decide, by decide, fun r r0 r1 => ?_⟩
  walk_at "go"
  have hf : 1 ≤ 1 + r := by omega
  generalize 1 + r = far at hf ⊢
  repeat (walk_at "go"; first | refine ⟨lenK rfl, ?_⟩ | (refine i_I ⟨by decide, by decide, by decide⟩ ?_; rw [pow12]))
  intro u hu
  repeat (walk_at "go"; first | refine ⟨lenK rfl, ?_⟩ | (refine i_I ⟨by decide, by decide, by decide⟩ ?_; rw [pow12]))
  intro v hv
  walk_at "go"
  refine i_addL (put_old put_same hv) put_same (lenK rfl) fun w hw => ?_
  repeat (walk_at "go"; first | refine ⟨lenK rfl, ?_⟩ | (refine i_I ⟨by decide, by decide, by decide⟩ ?_; rw [pow12]))
  intro x hx
  walk_at "go"
  refine i_addL (put_old put_same hx) put_same (lenK rfl) fun y hy => ?_
  walk_at "go"
  refine ⟨c, 24, rfl, by decide, by decide, fun r2 r20 r21 => ?_⟩
  walk_at "go"
  refine i_lenL put_same ?_
  walk_at "go"
  refine i_I (show (0 : Int) < 14 by decide) ?_
  obtain ⟨z, a1, hz⟩ := at_any (zs := ([.tup [.int (-1), .non], .tup [.int (0 - far), .int b], .tup [.int (1000000000000 + far), .non], .tup [.int b, .int b], .tup [.int b, .int (b - 1)], .tup [.bl true, .non]] ++ [.tup [.int b, .int (1000000000000 + far)], .tup [.int b, .bl true], .tup [.int b, .str (Str.ofString "a")], .tup [.non, .non], .tup [.str (Str.ofString "0"), .non], .tup [.int b, .int (-1)]] ++ [.tup [.int 0, .bl false], .tup [.int 1000000000000, .int (1000000000000 + 1)]] : List Z)) (k := r2 % 14) (by omega) (by show r2 % 14 < 14; omega)
  refine i_ixL put_same a1 ?_
  obtain ⟨zx, zy, rfl, h1, h2⟩ := noSts hf b0 z hz
  exact q zx zy _ (((((Sm.new hu).trans (Sm.new hv)).trans (Sm.new hw)).trans (Sm.new hx)).trans (Sm.new hy)) h1 h2
def BadN (z : Z) (named : Bool) : Prop := Ex4 fun (h : Z) (nm : List Z) (x y : Z) => (∀ G'', Tel G'' z h nm x y) ∧ nm.all nameB = !named ∧ (named = false → strB x y = false)
def sp_bad : P3 := fun ws G R => ∃ (c : Int) (τ : Tl), ws = [.int c, τ.z] ∧ τ.Ok ∧ ∀ z named G', Sm G G' → BadN z named → R (.tup [z, .bl named]) G'
theorem len_bad {ws : List Z} {G : Hq} {R : K3} (h : sp_bad ws G R) : ws.length = 2 := by obtain ⟨_, _, rfl, _⟩ := h; rfl
theorem cut_m2 {h x y : Z} {nm : List Z} (l : (∃ k, nm = [k]) ∨ ∃ k w, nm = [k, w]) : cutZ (h :: (nm ++ [x, y])) none (some (-2)) = h :: nm := by
  rcases l with ⟨k, rfl⟩ | ⟨k, w, rfl⟩ <;> rfl
theorem at_m2 {h x y : Z} {nm : List Z} (l : (∃ k, nm = [k]) ∨ ∃ k w, nm = [k, w]) : atI (h :: (nm ++ [x, y])) (-2) = some x := by
  rcases l with ⟨k, rfl⟩ | ⟨k, w, rfl⟩ <;> rfl
theorem ixN_nat {n j : Nat} (h : j < n) : ixN n (j : Int) = some j := by
  unfold ixN
  rw [if_pos (by omega), if_pos (by omega)]
  simp
theorem nm_len {nm : List Z} (l : (∃ k, nm = [k]) ∨ ∃ k w, nm = [k, w]) : 1 ≤ nm.length ∧ nm.length ≤ 2 := by
  rcases l with ⟨k, rfl⟩ | ⟨k, w, rfl⟩ <;> exact ⟨by simp, by simp⟩
theorem ok_bad {P : Program} {w : World} {K : PySem.W.Frag} {mg : Str → Option Value} {base : Heap} {a : Ad} (F : Fns K a) (T : Txt K mg a) : FnOk P w K mg base CX0 3 a.f_bad a.d_bad ["cell", "telling"] (lowP K sp_bad) := by
  have G_mix : FnOk P w K mg base CX0 1 a.f_mix a.d_mix ["cell", "k"] (lowP K sp_mix) := ok_mix F T
  have G_bad_name : FnOk P w K mg base CX0 2 a.f_bad_name a.d_bad_name ["cell", "name"] (lowP K sp_bad_name) := ok_bad_name F T
  have G_bad_stretch : FnOk P w K mg base CX0 2 a.f_bad_stretch a.d_bad_stretch ["cell", "begin"] (lowP K sp_bad_stretch) := ok_bad_stretch F T
  refine fn3 F.bad sc_bad (fun ws G R h => (by exact len_bad h)) (fun cdv A outer s H E ws G R hr h => ?_)
  have hu : (A.deeper (PyProof.Rows.envOfC "_law_bad" (defScope s_bad) s.heap.objs.size a.f_bad cdv)).units + 66 < cLine := by have := hr.un; omega
  refine ⟨_, (z_cons (z_set (i := 2) sc_bad.nd rfl (Or.inl rfl) (q_op o_mod (q_call G_mix (hr.mono (by decide)) rfl T.m_mix T.k_mix (b_mix F) (q_cons (q_var (pv 0)) (q_cons q_int q_nil se_Constant) se_Name) (he := se_Name) (hpl := (hp_cons se_Constant hp_nil))) q_int))
    (z_cons (z_set (i := 3) sc_bad.nd rfl (Or.inl rfl) (q_callTy b_list rfl T.b_list rfl (q_cons (q_var (pv 1)) q_nil se_Name) (he := se_Name) (hpl := hp_nil)))
    (z_cut (z_if (q_cmpT o_lt (q_var (pv 2)) q_int (nomark _))
    (z_cons (z_set (i := 4) sc_bad.nd rfl (Or.inl rfl) (q_op o_add q_int (q_op o_mod (q_call G_mix (hr.mono (by decide)) rfl T.m_mix T.k_mix (b_mix F) (q_cons (q_var (pv 0)) (q_cons q_int q_nil se_Constant) se_Name) (he := se_Name) (hpl := (hp_cons se_Constant hp_nil))) (q_op o_sub (q_callB b_len rfl T.b_len PySem.boot_len (q_cons (q_var (pv 3)) q_nil se_Name) (he := se_Name) (hpl := hp_nil)) q_int))))
    (z_one (z_putA (q_call G_bad_name (hr.mono (by decide)) rfl T.m_bad_name T.k_bad_name (b_bad_name F) (q_cons (q_var (pv 0)) (q_cons (q_ix x_ix (q_var (pv 3)) (q_var (pv 4)) (fun _ _ => rfl)) q_nil se_Subscript) se_Name) (he := se_Name) (hpl := (hp_cons se_Subscript hp_nil))) (q_var (pv 3)) (q_var (pv 4)) x_set)))
    z_nil)
    (z_cut (z_if (q_cmpT o_gt (q_var (pv 2)) q_int (nomark _))
    (z_one (z_set (i := 3) sc_bad.nd rfl (Or.inl rfl) (q_op o_add (q_slice x_sl (q_var (pv 3)) q_nopart (q_part (q_un o_neg q_int))) (q_callTy b_list rfl T.b_list rfl (q_cons (q_call G_bad_stretch (hr.mono (by decide)) rfl T.m_bad_stretch T.k_bad_stretch (b_bad_stretch F) (q_cons (q_var (pv 0)) (q_cons (q_ix x_ix (q_var (pv 3)) (q_un o_neg q_int) (fun _ _ => rfl)) q_nil se_Subscript) se_Name) (he := se_Name) (hpl := (hp_cons se_Subscript hp_nil))) q_nil se_Call) (he := se_Call) (hpl := hp_nil)))))
    z_nil)
    (z_one (z_ret (q_tup (q_cons (q_callTy b_tuple rfl T.b_tuple rfl (q_cons (q_var (pv 3)) q_nil se_Name) (he := se_Name) (hpl := hp_nil)) (q_cons (q_cmp o_lt (q_var (pv 2)) q_int (nomark _)) q_nil se_Compare) se_Call)))))))), ?_⟩
  obtain ⟨c, τ, rfl, ok, q⟩ := h
  obtain ⟨th, nm, tel, ta, ts⟩ := ok.tel (G := G)
  obtain ⟨ez, hl, hn, hx, hy⟩ := tel
  have b0 := ok.st.1
  have b1 := ok.st.2.1
  have hnm : ∀ z ∈ nm, ∃ s, z = .str s ∧ nmOk s := fun z hz => by
    have := List.all_eq_true.mp ta z hz
    have t := hn z hz
    cases z <;> first | (simp [nameB] at this; done) | skip
    rename_i s
    refine ⟨s, rfl, ?_⟩
    rw [name_str, Bool.and_eq_true, Bool.and_eq_true, decide_eq_true_eq, decide_eq_true_eq, List.all_eq_true] at this
    rw [len_s] at this
    refine ⟨this.1.1, this.1.2, fun c hc => ?_⟩
    have := this.2 c hc
    unfold okC at this
    rw [Bool.and_eq_true, decide_eq_true_eq, decide_eq_true_eq] at this
    exact this
  obtain ⟨n1, n2⟩ := nm_len hl
  generalize τ.z = tz at ez ⊢
  subst ez
  walk_at "go"
  refine ⟨c, 25, rfl, by decide, by decide, fun r r0 r1 => ?_⟩
  walk_at "go"
  refine i_I (show (0 : Int) < 3 by decide) ?_
  have hw : 0 ≤ r % 3 ∧ r % 3 < 3 := by omega
  generalize r % 3 = way at hw ⊢
  walk_at "go"
  intro f hf
  walk_at "go"
  refine i_cut (fun σ' G' => ∃ (nm' : List Z) (v : Option Z), ((∃ k, nm' = [k]) ∨ ∃ k w, nm' = [k, w]) ∧ (∀ G'', ∀ z ∈ nm', Th G'' z) ∧ (nm'.all nameB = !decide (way < 2)) ∧ Sm G G' ∧ G' f = some (.lst (th :: (nm' ++ [.int τ.b, oz τ.e]))) ∧ σ' = [some (.int c), some (.tup (th :: (nm ++ [.int τ.b, oz τ.e]))), some (.int way), some (.ref f), v]) ?_ ?_
  · walk_at "go"
    refine ifD (fun c1 => ?_) fun c1 => ?_
    · walk_at "go"
      refine ⟨c, 26, rfl, by decide, by decide, fun r2 r20 r21 => ?_⟩
      walk_at "go"
      refine i_lenL put_same ?_
      walk_at "go"
      have el : ((th :: (nm ++ [.int τ.b, oz τ.e])).length : Int) - 3 = nm.length := by simp; omega
      rw [el]
      refine i_I (show (0 : Int) < (nm.length : Int) by omega) ?_
      walk_at "go"
      have hm : 0 ≤ r2 % (nm.length : Int) ∧ r2 % (nm.length : Int) < nm.length := ⟨Int.emod_nonneg _ (by omega), Int.emod_lt_of_pos _ (by omega)⟩
      generalize r2 % (nm.length : Int) = j' at hm ⊢
      obtain ⟨j, rfl⟩ := Int.eq_ofNat_of_zero_le hm.1
      have hj : j < nm.length := by omega
      obtain ⟨s, es, hs⟩ := hnm _ (List.getElem_mem hj)
      have ej : (th :: (nm ++ [.int τ.b, oz τ.e]))[j + 1]? = some (.str s) := by
        rw [List.getElem?_cons_succ, List.getElem?_append_left hj, List.getElem?_eq_getElem hj, es]
      have e1 : (1 : Int) + (j : Int) = ((j + 1 : Nat) : Int) := by omega
      rw [e1]
      refine i_ixL put_same (atI_nat ej) ?_
      walk_at "go"
      refine ⟨c, s, rfl, hs, fun z G1 s1 tz nz => ?_⟩
      have gf := s1 _ _ (put_same (a := f) (G := G) (o := .lst (th :: (nm ++ [.int τ.b, oz τ.e]))))
      walk_at "go"
      refine i_set gf (j := j + 1) (ixN_nat (by simp; omega)) ?_
      refine ⟨nm.set j z, _, ?_, ?_, ?_, ((Sm.new hf).trans s1).put hf, ?_, rfl⟩
      · rcases hl with ⟨k, rfl⟩ | ⟨k, w, rfl⟩
        · have : j = 0 := by simp at hj; omega
          subst this
          exact .inl ⟨_, rfl⟩
        · have : j = 0 ∨ j = 1 := by simp at hj; omega
          rcases this with rfl | rfl
          · exact .inr ⟨_, _, rfl⟩
          · exact .inr ⟨_, _, rfl⟩
      · intro G'' u hu
        rcases List.mem_or_eq_of_mem_set hu with hu | rfl
        · obtain ⟨s', rfl, hs'⟩ := hnm u hu
          exact nm_th hs'
        · exact tz G''
      · rw [decide_eq_true c1]
        exact all_false (List.mem_set hj z) nz
      · rw [put_same, List.set_cons_succ, List.set_append_left _ _ hj]
    · walk_at "go"
      refine ⟨nm, _, hl, fun G'' u hu => ?_, ?_, Sm.new hf, put_same, rfl⟩
      · obtain ⟨s', rfl, hs'⟩ := hnm u hu
        exact nm_th hs'
      · rw [decide_eq_false c1]; exact ta
  · rintro σ' G1 ⟨nm', v, hl', hn', ha', s1, gf, rfl⟩
    walk_at "go"
    refine i_cut (fun σ' G' => ∃ (f' : Addr) (x y : Z), (∀ G'', Th G'' x ∧ Th G'' y) ∧ (way > 0 → strB x y = false) ∧ Sm G G' ∧ G' f' = some (.lst (th :: (nm' ++ [x, y]))) ∧ σ' = [some (.int c), some (.tup (th :: (nm ++ [.int τ.b, oz τ.e]))), some (.int way), some (.ref f'), v]) ?_ ?_
    · walk_at "go"
      refine ifD (fun c2 => ?_) fun c2 => ?_
      · walk_at "go"
        refine i_slL gf fun u hu => ?_
        rw [cut_m2 hl']
        walk_at "go"
        refine i_ixL (put_old gf hu) (at_m2 hl') ?_
        walk_at "go"
        refine ⟨c, τ.b, rfl, b0, b1, fun x y G2 s2 hxy hst => ?_⟩
        have gu := s2 _ _ (put_same (a := u) (G := G1) (o := .lst (th :: nm')))
        walk_at "go"
        intro v' hv'
        walk_at "go"
        refine i_addL (put_old gu hv') put_same (sm1000 (by obtain ⟨_, l2⟩ := nm_len hl'; simp; omega)) fun w hw' => ?_
        walk_at "go"
        exact ⟨w, x, y, hxy, fun _ => hst, (((s1.trans (Sm.new hu)).trans s2).trans (Sm.new hv')).trans (Sm.new hw'), by rw [put_same]; rfl, rfl⟩
      · walk_at "go"
        exact ⟨f, .int τ.b, oz τ.e, fun G'' => ⟨True.intro, th_oz⟩, fun z => absurd z c2, s1, gf, rfl⟩
    · rintro σ' G2 ⟨f', x, y, hxy, hst, s2, gf', rfl⟩
      walk_at "go"
      refine ⟨_, gf', ?_⟩
      walk_at "go"
      refine ⟨lenK rfl, ?_⟩
      refine q _ (decide (way < 2)) _ s2 ⟨th, nm', x, y, fun G'' => ⟨rfl, hl', hn' G'', (hxy G'').1, (hxy G'').2⟩, ha', fun z => hst ?_⟩
      have := of_decide_eq_false z
      omega
def sp_refused (a : Ad) : P3 := fun ws G R => Ex5 fun (p : Addr) (S : Addr → Prop) (T : List Tl) (z : Z) (named : Bool) => ws = [.ref p, z, .bl named] ∧ Sheet a.c_Sheet G p S T ∧ BadN z named ∧ ∀ G', Sm G G' → R (.bl true) G'
theorem len_refused {a : Ad} {ws : List Z} {G : Hq} {R : K3} (h : sp_refused a ws G R) : ws.length = 3 := by obtain ⟨_, _, _, _, _, rfl, _⟩ := h; rfl
theorem kit_self {K : PySem.W.Frag} {C : Addr} : PySem.W.kitOne K (.ref C) (.ref C) = some true := by
  unfold PySem.W.kitOne
  rw [if_pos (by simp)]
theorem bools_eq {G : Hq} {p q : Addr} {x y z : Bool} {f : Bool → Bool} {R : K3} (e1 : G p = some (.lst [.bl x, .bl y, .bl z])) (e2 : G q = some (.lst [.bl x, .bl y, .bl z])) (h : R (.bl (f true)) G) : zEqN f (.ref p) (.ref q) G R := by
  refine i_eqN (d := .list [.bool x, .bool y, .bool z]) (e := .list [.bool x, .bool y, .bool z]) (dz_list e1 (dzs_cons dz_bl (dzs_cons dz_bl (dzs_cons dz_bl dzs_nil)))) (dz_list e2 (dzs_cons dz_bl (dzs_cons dz_bl (dzs_cons dz_bl dzs_nil)))) rfl rfl ?_
  rw [PySem.SeqAt.eqv_refl _ rfl]
  exact h
theorem ok_refused {P : Program} {w : World} {K : PySem.W.Frag} {mg : Str → Option Value} {base : Heap} {a : Ad} (F : Fns K a) (T : Txt K mg a) : FnOk P w K mg base CX0 6 a.f_refused a.d_refused ["sheet", "telling", "named"] (lowP K (sp_refused a)) := by
  have G_Sheet_tell : FnOk P w K mg base (CXx P w) 5 a.f_Sheet_tell a.d_Sheet_tell ["self", "telling"] (lowPx K (sp_Sheet_tell a)) := ok_Sheet_tell F T
  refine fn3 F.refused sc_refused (fun ws G R h => (by exact len_refused h)) (fun cdv A outer s H E ws G R hr h => ?_)
  have hu : (A.deeper (PyProof.Rows.envOfC "_law_refused" (defScope s_refused) s.heap.objs.size a.f_refused cdv)).units + 66 < cLine := by have := hr.un; omega
  refine ⟨_, (z_cons (z_set (i := 3) sc_refused.nd rfl (Or.inl rfl) (q_lst q_nil))
    (z_cons (z_set (i := 4) sc_refused.nd rfl (Or.inl rfl) q_bl)
    (z_cons (z_tryM (i := 5) (fun C => C = a.x_NoName ∨ C = a.x_NoStretch) rfl rfl rfl (q_var (pv 0)) T.cl_Sheet T.mt_Sheet_tell G_Sheet_tell (hr.mono (by decide)) (b_Sheet_tell F) (q_cons (q_var (pv 1)) q_nil se_Name) rfl T.x_TimesError (fun C hC => (by rcases hC with rfl | rfl; exact T.xm_NoName_TimesError; exact T.xm_NoStretch_TimesError)) sc_refused.nd rfl rfl (fun C ex oe hC hx1 hx2 hx3 => (z_cons (z_set (i := 3) sc_refused.nd rfl (Or.inl rfl) (q_lst (q_cons (q_callB (b_isX hx1 hx2 hx3 (by rcases hC with rfl | rfl; exact T.xk_NoName; exact T.xk_NoStretch)) rfl T.b_isinstance rfl (q_cons (q_var (pv 5)) (q_cons (q_gref (pe_globR rfl T.x_NoName)) q_nil se_Name) se_Name) (he := se_Name) (hpl := (hp_cons se_Name hp_nil))) (q_cons (q_callB (b_isX hx1 hx2 hx3 (by rcases hC with rfl | rfl; exact T.xk_NoName; exact T.xk_NoStretch)) rfl T.b_isinstance rfl (q_cons (q_var (pv 5)) (q_cons (q_gref (pe_globR rfl T.x_NoStretch)) q_nil se_Name) se_Name) (he := se_Name) (hpl := (hp_cons se_Name hp_nil))) (q_cons (q_callB (b_isX hx1 hx2 hx3 (by rcases hC with rfl | rfl; exact T.xk_NoName; exact T.xk_NoStretch)) rfl T.b_isinstance rfl (q_cons (q_var (pv 5)) (q_cons (q_ty (pe_bltn (v := .ty "ValueError") rfl T.b_ValueError rfl rfl)) q_nil se_Name) se_Name) (he := se_Name) (hpl := (hp_cons se_Name hp_nil))) q_nil se_Call) se_Call) se_Call)))
    (z_one (z_set (i := 4) sc_refused.nd rfl (Or.inl rfl) (q_callB (b_isX hx1 hx2 hx3 (by rcases hC with rfl | rfl; exact T.xk_NoName; exact T.xk_NoStretch)) rfl T.b_isinstance rfl (q_cons (q_var (pv 5)) (q_cons (q_tup (q_cons (q_gref (pe_globR rfl T.x_Broken)) (q_cons (q_gref (pe_globR rfl T.x_Forgotten)) (q_cons (q_gref (pe_globR rfl T.x_NoFit)) (q_cons (q_gref (pe_globR rfl T.x_NoKnowing)) (q_cons (q_gref (pe_globR rfl T.x_NoLog)) (q_cons (q_gref (pe_globR rfl T.x_NoRow)) (q_cons (q_gref (pe_globR rfl T.x_NoSheet)) q_nil se_Name) se_Name) se_Name) se_Name) se_Name) se_Name) se_Name)) q_nil se_Tuple) se_Name) (he := se_Name) (hpl := (hp_cons se_Tuple hp_nil))))))) (he := se_Name) (hpl := hp_nil))
    (z_one (z_ret (q_andV (q_cmp (o_eqN hu) (q_var (pv 3)) (q_lst (q_cons (q_var (pv 2)) (q_cons (q_not (q_var (pv 2))) (q_cons q_bl q_nil se_Constant) se_UnaryOp) se_Name)) (nomark _)) (q_one (q_not (q_var (pv 4)))))))))), ?_⟩
  obtain ⟨p, S, T', z, named, rfl, sh, ⟨h, nm, x, y, tel, ha, hs⟩, q⟩ := h
  have sh' := sh
  obtain ⟨dx, d, kvs, sm⟩ := sh'
  walk_at "go"
  refine ⟨lenK rfl, fun k0 hk0 => ?_⟩
  walk_at "go"
  refine ⟨p, dx, _, rfl, put_old sm.ob hk0, lk_no (by decide +kernel) (by decide +kernel), ?_⟩
  walk_at "go"
  have sh1 := sh.keep (Sm.ks (Sm.new (o := .lst []) hk0))
  cases named with
  | true =>
    refine ⟨p, S, T', sh1, .inr ⟨z, a.x_NoName, rfl, ⟨h, nm, x, y, tel _, .inl ⟨ha, rfl⟩⟩, fun G1 s1 => ⟨.inl rfl, fun e => ?_⟩⟩⟩
    walk_at "go"
    refine ⟨_, true, rfl, .inl ⟨_, rfl, kit_self⟩, ?_⟩
    walk_at "go"
    refine ⟨_, false, rfl, .inl ⟨_, rfl, T.kt_NoName_NoStretch⟩, ?_⟩
    walk_at "go"
    refine ⟨_, true, rfl, .inr (.inl ⟨_, rfl, T.kt_NoName_ValueError⟩), ?_⟩
    walk_at "go"
    refine ⟨lenK rfl, fun k1 hk1 => ?_⟩
    walk_at "go"
    refine ⟨lenK rfl, ?_⟩
    refine ⟨_, false, rfl, .inr (.inr ⟨[a.x_Broken, a.x_Forgotten, a.x_NoFit, a.x_NoKnowing, a.x_NoLog, a.x_NoRow, a.x_NoSheet], rfl, T.ka_NoName_0⟩), ?_⟩
    walk_at "go"
    refine ⟨lenK rfl, fun k2 hk2 => ?_⟩
    walk_at "go"
    refine bools_eq (put_old put_same hk2) put_same ?_
    walk_at "go"
    refine ifT ?_
    walk_at "go"
    exact q _ (((Sm.new hk0).trans s1).trans ((Sm.new hk1).trans (Sm.new hk2)))
  | false =>
    refine ⟨p, S, T', sh1, .inr ⟨z, a.x_NoStretch, rfl, ⟨h, nm, x, y, tel _, .inr ⟨ha, hs rfl, rfl⟩⟩, fun G1 s1 => ⟨.inr rfl, fun e => ?_⟩⟩⟩
    walk_at "go"
    refine ⟨_, false, rfl, .inl ⟨_, rfl, T.kt_NoStretch_NoName⟩, ?_⟩
    walk_at "go"
    refine ⟨_, true, rfl, .inl ⟨_, rfl, kit_self⟩, ?_⟩
    walk_at "go"
    refine ⟨_, true, rfl, .inr (.inl ⟨_, rfl, T.kt_NoStretch_ValueError⟩), ?_⟩
    walk_at "go"
    refine ⟨lenK rfl, fun k1 hk1 => ?_⟩
    walk_at "go"
    refine ⟨lenK rfl, ?_⟩
    refine ⟨_, false, rfl, .inr (.inr ⟨[a.x_Broken, a.x_Forgotten, a.x_NoFit, a.x_NoKnowing, a.x_NoLog, a.x_NoRow, a.x_NoSheet], rfl, T.ka_NoStretch_1⟩), ?_⟩
    walk_at "go"
    refine ⟨lenK rfl, fun k2 hk2 => ?_⟩
    walk_at "go"
    refine bools_eq (put_old put_same hk2) put_same ?_
    walk_at "go"
    refine ifT ?_
    walk_at "go"
    exact q _ (((Sm.new hk0).trans s1).trans ((Sm.new hk1).trans (Sm.new hk2)))
def newH (G G' : Hq) : Hq := fun b => if (G b).isSome = true then none else G' b
theorem newH_at {G G' : Hq} {b : Addr} {o : O} (h : G b = none) (e : G' b = some o) : newH G G' b = some o := by unfold newH; rw [h]; exact e
theorem newH_sm {G G' : Hq} : Sm (newH G G') G' := fun b o e => by
  unfold newH at e
  split at e
  · cases e
  · exact e
theorem newH_free {G G' : Hq} {b : Addr} {o : O} (e : newH G G' b = some o) : G b = none := by
  unfold newH at e
  split at e
  · cases e
  · next h => cases h' : G b with
              | none => rfl
              | some _ => rw [h'] at h; simp at h
def Lines (T : List Tl) (ks : List Str) (Ls : List (List Rw)) : Prop := Ls.length = ks.length ∧ ∀ (j : Nat) k L, ks[j]? = some k → Ls[j]? = some L → IsLine T k L
theorem IsLine.uniq {T : List Tl} {k : Str} {L M : List Rw} (h : IsLine T k L) (g : IsLine T k M) : L = M := can_eq h.can g.can fun t => by rw [h.v, g.v]
theorem Lines.uniq {T : List Tl} {ks : List Str} {Ls Ms : List (List Rw)} (h : Lines T ks Ls) (g : Lines T ks Ms) : Ls = Ms := by
  refine List.ext_getElem (by rw [h.1, g.1]) fun j h1 h2 => ?_
  have hj : j < ks.length := by rw [← h.1]; exact h1
  exact (h.2 j _ _ (List.getElem?_eq_getElem hj) (List.getElem?_eq_getElem h1)).uniq (g.2 j _ _ (List.getElem?_eq_getElem hj) (List.getElem?_eq_getElem h2))
def lineD (L : List Rw) : PyData := .list (dZs (L.map Rw.z))
def lookD (n : Nat) (Ls : List (List Rw)) : PyData := .tuple [.int (n : Int), .int 0, .list (Ls.map lineD)]
def OkL (Ls : List (List Rw)) : Prop := ∀ L ∈ Ls, (L.map Rw.z).all (flat 8) = true
def sp_look (a : Ad) : P3 := fun ws G R => Ex5 fun (p : Addr) (S : Addr → Prop) (T : List Tl) (ks : Addr) (kn : List Str) => ws = [.ref p, .ref ks] ∧ Sheet a.c_Sheet G p S T ∧ G ks = some (.lst (kn.map Z.str)) ∧ (∀ s ∈ kn, nmOk s) ∧ kn.length ≤ 20 ∧ T.length ≤ 200 ∧
  ∀ z Ls G', Sm G G' → DZ (newH G G') (lookD T.length Ls) z → Lines T kn Ls → OkL Ls → R z G'
theorem len_look {a : Ad} {ws : List Z} {G : Hq} {R : K3} (h : sp_look a ws G R) : ws.length = 2 := by obtain ⟨_, _, _, _, _, rfl, _⟩ := h; rfl
theorem plain_flat {L : List Rw} (h : Plain L) : (L.map Rw.z).all (flat 8) = true := by
  rw [List.all_eq_true]
  intro z hz
  obtain ⟨r, hr, rfl⟩ := List.mem_map.mp hz
  obtain ⟨x, ex, fx⟩ := h r hr
  unfold Rw.z
  rw [ex]
  show ([.int r.b, oz r.e, x].all (flat 7)) = true
  rw [List.all_cons, List.all_cons, List.all_cons, flat_mono (by decide) fx]
  cases r.e <;> rfl
theorem Lines.snoc {T : List Tl} {ks : List Str} {Ls : List (List Rw)} {k : Str} {L : List Rw} (h : Lines T ks Ls) (il : IsLine T k L) : Lines T (ks ++ [k]) (Ls ++ [L]) := by
  refine ⟨by rw [List.length_append, List.length_append, h.1]; rfl, fun j k' L' e1 e2 => ?_⟩
  by_cases hj : j < ks.length
  · rw [List.getElem?_append_left hj] at e1
    rw [List.getElem?_append_left (by rw [h.1]; exact hj)] at e2
    exact h.2 j _ _ e1 e2
  · rw [List.getElem?_append_right (by omega)] at e1
    rw [List.getElem?_append_right (by rw [h.1]; omega), h.1] at e2
    cases hm : j - ks.length with
    | zero =>
      rw [hm] at e1 e2
      cases e1
      cases e2
      exact il
    | succ m => rw [hm] at e1; simp at e1
theorem dz_lines {F : Hq} : ∀ (ps : List (Addr × List Rw)), (∀ e ∈ ps, F e.1 = some (.lst (e.2.map Rw.z)) ∧ (e.2.map Rw.z).all (flat 8) = true) → DZs F ((ps.map (·.2)).map lineD) (ps.map fun e => Z.ref e.1)
  | [], _ => dzs_nil
  | e :: ps, h => by
    obtain ⟨h1, h2⟩ := h e (.head _)
    exact dzs_cons (dz_list h1 (dzs_flat 8 _ h2)) (dz_lines ps fun e he => h e (.tail _ he))
theorem ok_look {P : Program} {w : World} {K : PySem.W.Frag} {mg : Str → Option Value} {base : Heap} {a : Ad} (F : Fns K a) (T : Txt K mg a) : FnOk P w K mg base CX0 4 a.f_look a.d_look ["sheet", "keys"] (lowP K (sp_look a)) := by
  have G_Sheet_knowings : FnOk P w K mg base CX0 1 a.f_Sheet_knowings a.d_Sheet_knowings ["self"] (lowP K (sp_Sheet_knowings a)) := ok_Sheet_knowings F T
  have G_Sheet_first : FnOk P w K mg base CX0 1 a.f_Sheet_first a.d_Sheet_first ["self"] (lowP K sp_Sheet_first) := ok_Sheet_first F T
  have G_Sheet_line_at : FnOk P w K mg base CX0 3 a.f_Sheet_line_at a.d_Sheet_line_at ["self", "key", "knowing"] (lowP K (sp_Sheet_line_at a)) := ok_Sheet_line_at F T
  refine fn3 F.look sc_look (fun ws G R h => (by exact len_look h)) (fun cdv A outer s H E ws G R hr h => ?_)
  have hu : (A.deeper (PyProof.Rows.envOfC "_law_look" (defScope s_look) s.heap.objs.size a.f_look cdv)).units + 66 < cLine := by have := hr.un; omega
  refine ⟨_, (z_one (z_ret (q_tup (q_cons (q_meth0 (q_var (pv 0)) T.cl_Sheet T.mt_Sheet_knowings G_Sheet_knowings (hr.mono (by decide)) (b_Sheet_knowings F)) (q_cons (q_meth0 (q_var (pv 0)) T.cl_Sheet T.mt_Sheet_first G_Sheet_first (hr.mono (by decide)) (b_Sheet_first F)) (q_cons (q_lc (N₀ := ["sheet", "keys"]) (so := defScope s_look) (N' := ["key", "sheet"]) (cap := [none, some 0]) (pt := (.nm 0)) rfl rfl rfl (by decide +kernel) rfl (it_list (q_var (pv 1))) (fun _ _ _ _ => (show QP _ _ (.nm 0) from (pg_name (i := 0) (show List.Nodup (α := Str) ["key", "sheet"] from by decide +kernel) rfl (Or.inl rfl)))) (fun _ _ _ _ => ifs_nil) (fun _ _ _ _ => (q_meth (q_var (pv 1)) T.cl_Sheet T.mt_Sheet_line_at G_Sheet_line_at (hr.mono (by decide)) (b_Sheet_line_at F) (q_cons (q_var (pv 0)) (q_cons (q_meth0 (q_var (pv 1)) T.cl_Sheet T.mt_Sheet_knowings G_Sheet_knowings (hr.mono (by decide)) (b_Sheet_knowings F)) q_nil se_Call) se_Name) (hst := se_Name) (hpl := (hp_cons se_Call hp_nil))))) q_nil se_ListComp) se_Call) se_Call)))), ?_⟩
  obtain ⟨p, S, T', ks, kn, rfl, sh, gk, hkn, kl, hT, q⟩ := h
  have sh' := sh
  obtain ⟨dx, d, kvs, sm⟩ := sh'
  walk_at "go"
  refine ⟨p, dx, _, rfl, sm.ob, lk_no (by decide +kernel) (by decide +kernel), ?_⟩
  walk_at "go"
  refine ⟨p, S, T', rfl, sh, ?_⟩
  walk_at "go"
  refine ⟨p, dx, _, rfl, sm.ob, lk_no (by decide +kernel) (by decide +kernel), ?_⟩
  walk_at "go"
  refine ⟨p, rfl, ?_⟩
  walk_at "go"
  refine i_wkL gk ?_
  intro D hD
  refine lc_by (fun i ys G' => ∃ ps : List (Addr × List Rw), ys = ps.map (fun e => Z.ref e.1) ∧ Lines T' (kn.take i) (ps.map (·.2)) ∧ (∀ e ∈ ps, G e.1 = none ∧ e.1 ≠ D ∧ G' e.1 = some (.lst (e.2.map Rw.z)) ∧ (e.2.map Rw.z).all (flat 8) = true) ∧ Sm G G' ∧ G' D = some (.lst ys)) ⟨[], rfl, ⟨rfl, fun j k L e => by simp at e⟩, (fun e he => by simp at he), Sm.new hD, put_same⟩ (by rintro i ys G' _ ⟨_, _, _, _, s, _⟩; exact s _ _ gk) ?_ ?_
  · rintro i x ys G' hx ⟨ps, rfl, hL, hp, s, gD⟩
    rw [List.getElem?_map] at hx
    cases hx' : kn[i]? with
    | none => rw [hx'] at hx; cases hx
    | some k =>
    rw [hx'] at hx
    cases hx
    have hi := (List.getElem?_eq_some_iff.mp hx').1
    have hk := hkn k (List.mem_of_getElem? hx')
    have sh1 := sh.keep (Sm.ks s)
    have sm1 := sm.keep (Sm.ks s)
    have hpl : ps.length ≤ 20 := by have := hL.1; rw [List.length_map, List.length_take] at this; omega
    refine ⟨_, rfl, ?_⟩
    walk_at "go"
    refine ⟨p, dx, _, rfl, sm1.ob, lk_no (by decide +kernel) (by decide +kernel), ?_⟩
    walk_at "go"
    refine ⟨p, dx, _, rfl, sm1.ob, lk_no (by decide +kernel) (by decide +kernel), ?_⟩
    walk_at "go"
    refine ⟨p, S, T', rfl, sh1, ?_⟩
    walk_at "go"
    refine ⟨p, S, T', k, _, rfl, sh1, hk, by omega, by omega, hT, fun t L G1 ht s1 gt il => ?_⟩
    rw [show ((T'.length : Int)).toNat = T'.length by omega, List.take_length] at il
    have ntD : t ≠ D := Ne.symm (gne_none gD ht)
    refine ⟨s1 _ _ gD, by rw [List.length_map]; exact small1000 (by omega), ps ++ [(t, L)], by rw [List.map_append]; rfl, ?_, fun e he => ?_, (s.trans s1).put hD, put_same⟩
    · rw [List.map_append, List.take_add_one, hx']
      exact hL.snoc il
    · rcases List.mem_append.mp he with he | he
      · obtain ⟨a1, a2, a3, a4⟩ := hp e he
        exact ⟨a1, a2, by rw [put_ne a2]; exact s1 _ _ a3, a4⟩
      · rw [List.mem_singleton.mp he]
        exact ⟨s.free ht, ntD, by rw [put_ne ntD]; exact gt, plain_flat il.pl⟩
  · rintro ys G' ⟨ps, rfl, hL, hp, s, gD⟩
    rw [List.length_map, List.take_length] at hL
    walk_at "go"
    refine ⟨lenK rfl, ?_⟩
    refine q _ (ps.map (·.2)) G' s (dz_tup (dzs_cons dz_int (dzs_cons dz_int (dzs_cons (dz_list (newH_at hD gD) (dz_lines ps fun e he => ?_)) dzs_nil)))) hL fun L hL' => ?_
    · obtain ⟨a1, _, a3, a4⟩ := hp e he
      exact ⟨newH_at a1 a3, a4⟩
    · obtain ⟨e, he, rfl⟩ := List.mem_map.mp hL'
      exact (hp e he).2.2.2
theorem lineD_lay {L : List Rw} (h : (L.map Rw.z).all (flat 8) = true) : (lineD L).canLay0 = true ∧ (lineD L).depth ≤ 10 := by
  have q := dZs_lay 8 _ h
  unfold lineD
  simp only [PyData.canLay0, PyData.depth]
  exact ⟨q.1, by omega⟩
theorem lines_lay : ∀ {Ls : List (List Rw)}, OkL Ls → PyData.canLayAll0 (Ls.map lineD) = true ∧ PyData.depthAll (Ls.map lineD) ≤ 10
  | [], _ => ⟨rfl, by show 0 ≤ 10; decide⟩
  | L :: Ls, h => by
    have h1 := lineD_lay (h L (.head _))
    have h2 := lines_lay (Ls := Ls) fun M hM => h M (.tail _ hM)
    rw [List.map_cons]
    simp only [PyData.canLayAll0, PyData.depthAll, h1.1, h2.1]
    exact ⟨rfl, by omega⟩
theorem lookD_lay {n : Nat} {Ls : List (List Rw)} (h : OkL Ls) : (lookD n Ls).canLay0 = true ∧ (lookD n Ls).depth ≤ 20 := by
  have q := lines_lay h
  unfold lookD
  simp only [PyData.canLay0, PyData.canLayAll0, PyData.depth, PyData.depthAll, q.1]
  exact ⟨rfl, by omega⟩
theorem lookD_shaped {n : Nat} {Ls : List (List Rw)} (h : OkL Ls) : PySem.SeqAt.shaped (lookD n Ls) = true := by
  have q := lookD_lay (n := n) h
  unfold PySem.SeqAt.shaped
  rw [q.1, decide_eq_true (show (lookD n Ls).depth ≤ 64 by omega)]; rfl
theorem looks_shaped {n m : Nat} {Ls Ms : List (List Rw)} (h : OkL Ls) (g : OkL Ms) : PySem.SeqAt.shaped (.list [lookD n Ls, lookD m Ms]) = true := by
  have q := lookD_lay (n := n) h
  have r := lookD_lay (n := m) g
  unfold PySem.SeqAt.shaped
  simp only [PyData.canLay0, PyData.canLayAll0, PyData.depth, PyData.depthAll, q.1, r.1, Bool.true_and]
  exact decide_eq_true (by omega)
def bi (b : Bool) : Int := if b then 1 else 0
theorem bi_at {α : Type} {f : Bool → α} {b : Bool} : atI [f false, f true] (bi b) = some (f b) := by cases b <;> rfl
theorem bi_not {α : Type} {f : Bool → α} {b : Bool} : atI [f false, f true] (1 - bi b) = some (f !b) := by cases b <;> rfl
theorem bi_ix {b : Bool} : ixN 2 (bi b) = some (if b then 1 else 0) := by cases b <;> rfl
theorem bi_of {r : Int} : ∃ b, r % 2 = bi b := by
  have : r % 2 = 0 ∨ r % 2 = 1 := by omega
  rcases this with h | h
  · exact ⟨false, h⟩
  · exact ⟨true, h⟩
theorem len_law {ws : List Z} {G : Hq} {R : K3} (h : sp_law ws G R) : ws.length = 1 := by obtain ⟨_, _, rfl, _⟩ := h; rfl
theorem look_ne {G : Hq} {R : K3} {n : Nat} {Ls : List (List Rw)} {x y : Z} (h1 : DZ G (lookD n Ls) x) (h2 : DZ G (lookD n Ls) y) (ok : OkL Ls) (h : R (.bl false) G) : zEqN not x y G R := by
  refine i_eqN h1 h2 (lookD_shaped ok) (lookD_shaped ok) ?_
  rw [PySem.SeqAt.eqv_refl _ (lookD_lay ok).1]
  exact h
theorem looks_ne {G : Hq} {R : K3} {n m : Nat} {Ls Ms : List (List Rw)} {p q : Addr} {x y x' y' : Z} (e1 : G p = some (.lst [x, y])) (e2 : G q = some (.lst [x', y'])) (h1 : DZ G (lookD n Ls) x) (h2 : DZ G (lookD m Ms) y) (h3 : DZ G (lookD n Ls) x') (h4 : DZ G (lookD m Ms) y') (o1 : OkL Ls) (o2 : OkL Ms) (h : R (.bl false) G) : zEqN not (.ref p) (.ref q) G R := by
  refine i_eqN (dz_list e1 (dzs_cons h1 (dzs_cons h2 dzs_nil))) (dz_list e2 (dzs_cons h3 (dzs_cons h4 dzs_nil))) (looks_shaped o1 o2) (looks_shaped o1 o2) ?_
  rw [PySem.SeqAt.eqv_refl _ (PySem.SeqAt.canLay_of_shaped (looks_shaped o1 o2))]
  exact h
structure Two (a : Ad) (G : Hq) (p : Bool → Addr) (S : Bool → Addr → Prop) (T : Bool → List Tl) : Prop where
  sh : ∀ b, Sheet a.c_Sheet G (p b) (S b) (T b)
  ap : ∀ x, S false x → S true x → False
theorem Two.sm {a : Ad} {G G' : Hq} {p : Bool → Addr} {S : Bool → Addr → Prop} {T : Bool → List Tl} (h : Two a G p S T) (s : Sm G G') : Two a G' p S T := ⟨fun b => (h.sh b).keep (Sm.ks s), h.ap⟩
theorem Two.kq {a : Ad} {G G' : Hq} {p : Bool → Addr} {S : Bool → Addr → Prop} {T : Bool → List Tl} {r : Addr} (h : Two a G p S T) (k : Kq r G G') (n : ∀ b, ¬ S b r) : Two a G' p S T := ⟨fun b => (h.sh b).keep fun x o hx e => k x o e fun z => n b (z ▸ hx), h.ap⟩
theorem Two.alive {a : Ad} {G : Hq} {p : Bool → Addr} {S : Bool → Addr → Prop} {T : Bool → List Tl} (h : Two a G p S T) {b : Bool} {x : Addr} (hx : S b x) : ∃ o, G x = some o := by
  obtain ⟨_, _, _, m⟩ := h.sh b
  exact m.al x hx
theorem Two.apart {a : Ad} {G : Hq} {p : Bool → Addr} {S : Bool → Addr → Prop} {T : Bool → List Tl} (h : Two a G p S T) {b : Bool} {x : Addr} (h1 : S b x) (h2 : S (!b) x) : False := by
  cases b
  · exact h.ap x h1 h2
  · exact h.ap x h2 h1
theorem Two.tell {a : Ad} {G G' : Hq} {p : Bool → Addr} {S : Bool → Addr → Prop} {T : Bool → List Tl} {b : Bool} {S' : Addr → Prop} {τ : Tl} (h : Two a G p S T) (i2 : ∀ x, S' x → S b x ∨ G x = none) (kn : KN (S b) G G') (sh : Sheet a.c_Sheet G' (p b) S' (T b ++ [τ])) :
    Two a G' p (fun c => if c = b then S' else S c) (fun c => if c = b then T b ++ [τ] else T c) := by
  refine ⟨fun c => ?_, fun x h1 h2 => ?_⟩
  · by_cases hc : c = b
    · subst hc
      rw [if_pos rfl, if_pos rfl]
      exact sh
    · rw [if_neg hc, if_neg hc]
      have : c = !b := by cases b <;> cases c <;> simp_all
      subst this
      exact (h.sh _).keep fun x o hx e => kn x o (fun z => h.apart z hx) e
  · have key : ∀ c, (if c = b then S' else S c) x → S c x ∨ (c = b ∧ G x = none) := fun c hx => by
      by_cases hc : c = b
      · rw [if_pos hc] at hx
        rcases i2 x hx with z | z
        · exact .inl (hc ▸ z)
        · exact .inr ⟨hc, z⟩
      · rw [if_neg hc] at hx; exact .inl hx
    rcases key _ h1 with z1 | ⟨z1, z2⟩
    · rcases key _ h2 with w1 | ⟨w1, w2⟩
      · exact h.ap x z1 w1
      · obtain ⟨o, e⟩ := h.alive z1; rw [w2] at e; cases e
    · rcases key _ h2 with w1 | ⟨w1, w2⟩
      · obtain ⟨o, e⟩ := h.alive w1; rw [z2] at e; cases e
      · rw [← z1] at w1; cases w1
theorem ok_law {P : Program} {w : World} {K : PySem.W.Frag} {mg : Str → Option Value} {base : Heap} {a : Ad} (F : Fns K a) (T : Txt K mg a) : FnOk P w K mg base CX0 7 a.f_law a.d_law ["script"] (lowP K sp_law) := by
  have G_names : FnOk P w K mg base CX0 3 a.f_names a.d_names ["cell", "way", "many"] (lowP K sp_names) := ok_names F T
  have G_cell_at : FnOk P w K mg base CX0 1 a.f_cell_at a.d_cell_at ["script", "k"] (lowP K sp_cell_at) := ok_cell_at F T
  have G_Sheet___init__ : FnOk P w K mg base CX0 1 a.f_Sheet___init__ a.d_Sheet___init__ ["self"] (lowP K (sp_Sheet___init__ a)) := ok_Sheet___init__ F T
  have G_telling : FnOk P w K mg base CX0 3 a.f_telling a.d_telling ["cell", "way", "keys", "worths"] (lowP K sp_telling) := ok_telling F T
  have G_Sheet_tell : FnOk P w K mg base (CXx P w) 5 a.f_Sheet_tell a.d_Sheet_tell ["self", "telling"] (lowPx K (sp_Sheet_tell a)) := ok_Sheet_tell F T
  have G_mix : FnOk P w K mg base CX0 1 a.f_mix a.d_mix ["cell", "k"] (lowP K sp_mix) := ok_mix F T
  have G_look : FnOk P w K mg base CX0 4 a.f_look a.d_look ["sheet", "keys"] (lowP K (sp_look a)) := ok_look F T
  have G_bad : FnOk P w K mg base CX0 3 a.f_bad a.d_bad ["cell", "telling"] (lowP K sp_bad) := ok_bad F T
  have G_Sheet_first : FnOk P w K mg base CX0 1 a.f_Sheet_first a.d_Sheet_first ["self"] (lowP K sp_Sheet_first) := ok_Sheet_first F T
  have G_refused : FnOk P w K mg base CX0 6 a.f_refused a.d_refused ["sheet", "telling", "named"] (lowP K (sp_refused a)) := ok_refused F T
  have G_Sheet_knowings : FnOk P w K mg base CX0 1 a.f_Sheet_knowings a.d_Sheet_knowings ["self"] (lowP K (sp_Sheet_knowings a)) := ok_Sheet_knowings F T
  refine fn3 F.law sc_law (fun ws G R h => (by exact len_law h)) (fun cdv A outer s H E ws G R hr h => ?_)
  have hu : (A.deeper (PyProof.Rows.envOfC "law" (defScope s_law) s.heap.objs.size a.f_law cdv)).units + 66 < cLine := by have := hr.un; omega
  refine ⟨_, (z_cons (z_set (i := 1) sc_law.nd rfl (Or.inl rfl) (q_op o_mod (q_call G_cell_at (hr.mono (by decide)) rfl T.m_cell_at T.k_cell_at (b_cell_at F) (q_cons (q_var (pv 0)) (q_cons q_int q_nil se_Constant) se_Name) (he := se_Name) (hpl := (hp_cons se_Constant hp_nil))) q_int))
    (z_cons (z_set (i := 2) sc_law.nd rfl (Or.inl rfl) (q_call G_names (hr.mono (by decide)) rfl T.m_names T.k_names (b_names F) (q_cons (q_op o_fdiv (q_call G_cell_at (hr.mono (by decide)) rfl T.m_cell_at T.k_cell_at (b_cell_at F) (q_cons (q_var (pv 0)) (q_cons q_int q_nil se_Constant) se_Name) (he := se_Name) (hpl := (hp_cons se_Constant hp_nil))) q_int) (q_cons (q_var (pv 1)) (q_cons q_int q_nil se_Constant) se_Name) se_BinOp) (he := se_BinOp) (hpl := (hp_cons se_Name (hp_cons se_Constant hp_nil)))))
    (z_cons (z_set (i := 3) sc_law.nd rfl (Or.inl rfl) (q_call G_names (hr.mono (by decide)) rfl T.m_names T.k_names (b_names F) (q_cons (q_call G_cell_at (hr.mono (by decide)) rfl T.m_cell_at T.k_cell_at (b_cell_at F) (q_cons (q_var (pv 0)) (q_cons q_int q_nil se_Constant) se_Name) (he := se_Name) (hpl := (hp_cons se_Constant hp_nil))) (q_cons (q_var (pv 1)) (q_cons q_int q_nil se_Constant) se_Name) se_Call) (he := se_Call) (hpl := (hp_cons se_Name (hp_cons se_Constant hp_nil)))))
    (z_cons (z_set (i := 4) sc_law.nd rfl (Or.inl rfl) (q_lst (q_cons (q_make0 T.mk_Sheet G_Sheet___init__ (hr.mono (by decide)) rfl T.mg_Sheet (b_Sheet___init__ F)) (q_cons (q_make0 T.mk_Sheet G_Sheet___init__ (hr.mono (by decide)) rfl T.mg_Sheet (b_Sheet___init__ F)) q_nil se_Call) se_Call)))
    (z_cons (z_set (i := 5) sc_law.nd rfl (Or.inl rfl) (q_lst (q_cons q_int (q_cons q_int q_nil se_Constant) se_Constant)))
    (z_cons (z_for (pt := (.nm 6)) PassesOwn.never rfl (it_list (q_slice x_sl (q_var (pv 0)) (q_part q_int) (q_part q_int))) (show QP _ _ (.nm 6) from (pg_name (i := 6) sc_law.nd rfl (Or.inl rfl)))
    (z_cons (z_set (i := 7) sc_law.nd rfl (Or.inl rfl) (q_op o_mod (q_call G_mix (hr.mono (by decide)) rfl T.m_mix T.k_mix (b_mix F) (q_cons (q_var (pv 6)) (q_cons q_int q_nil se_Constant) se_Name) (he := se_Name) (hpl := (hp_cons se_Constant hp_nil))) q_int))
    (z_cons (z_set (i := 8) sc_law.nd rfl (Or.inl rfl) (q_call G_telling (hr.mono (by decide)) rfl T.m_telling T.k_telling (b_telling F) (q_cons (q_var (pv 6)) (q_cons (q_var (pv 1)) (q_cons (q_var (pv 2)) (q_cons (q_var (pv 3)) q_nil se_Name) se_Name) se_Name) se_Name) (he := se_Name) (hpl := (hp_cons se_Name (hp_cons se_Name (hp_cons se_Name hp_nil))))))
    (z_cons (z_set (i := 9) sc_law.nd rfl (Or.inl rfl) (q_lst (q_cons (q_call G_look (hr.mono (by decide)) rfl T.m_look T.k_look (b_look F) (q_cons (q_ix x_ix (q_var (pv 4)) q_int (fun _ _ => rfl)) (q_cons (q_var (pv 2)) q_nil se_Name) se_Subscript) (he := se_Subscript) (hpl := (hp_cons se_Name hp_nil))) (q_cons (q_call G_look (hr.mono (by decide)) rfl T.m_look T.k_look (b_look F) (q_cons (q_ix x_ix (q_var (pv 4)) q_int (fun _ _ => rfl)) (q_cons (q_var (pv 2)) q_nil se_Name) se_Subscript) (he := se_Subscript) (hpl := (hp_cons se_Name hp_nil))) q_nil se_Call) se_Call)))
    (z_cut (z_if (q_cmpT (o_eq hu) (q_op o_mod (q_call G_mix (hr.mono (by decide)) rfl T.m_mix T.k_mix (b_mix F) (q_cons (q_var (pv 6)) (q_cons q_int q_nil se_Constant) se_Name) (he := se_Name) (hpl := (hp_cons se_Constant hp_nil))) q_int) q_int (nomark _))
    (z_cons (z_asgP (pt := (.tp [10, 11])) (q_call G_bad (hr.mono (by decide)) rfl T.m_bad T.k_bad (b_bad F) (q_cons (q_var (pv 6)) (q_cons (q_var (pv 8)) q_nil se_Name) se_Name) (he := se_Name) (hpl := (hp_cons se_Name hp_nil))) (show QP _ _ (.tp [10, 11]) from (pg_tup rfl (pgs_cons (pg_name (i := 10) sc_law.nd rfl (Or.inl rfl)) (pgs_cons (pg_name (i := 11) sc_law.nd rfl (Or.inl rfl)) pgs_nil)))))
    (z_cons (z_if (q_notT (q_val (q_call G_refused (hr.mono (by decide)) rfl T.m_refused T.k_refused (b_refused F) (q_cons (q_ix x_ix (q_var (pv 4)) (q_var (pv 7)) (fun _ _ => rfl)) (q_cons (q_var (pv 10)) (q_cons (q_var (pv 11)) q_nil se_Name) se_Name) se_Subscript) (he := se_Subscript) (hpl := (hp_cons se_Name (hp_cons se_Name hp_nil))))))
    (z_one (z_ret q_bl))
    z_nil)
    (z_one (z_if (q_cmpT (o_neN hu) (q_lst (q_cons (q_call G_look (hr.mono (by decide)) rfl T.m_look T.k_look (b_look F) (q_cons (q_ix x_ix (q_var (pv 4)) q_int (fun _ _ => rfl)) (q_cons (q_var (pv 2)) q_nil se_Name) se_Subscript) (he := se_Subscript) (hpl := (hp_cons se_Name hp_nil))) (q_cons (q_call G_look (hr.mono (by decide)) rfl T.m_look T.k_look (b_look F) (q_cons (q_ix x_ix (q_var (pv 4)) q_int (fun _ _ => rfl)) (q_cons (q_var (pv 2)) q_nil se_Name) se_Subscript) (he := se_Subscript) (hpl := (hp_cons se_Name hp_nil))) q_nil se_Call) se_Call)) (q_var (pv 9)) (nomark _))
    (z_one (z_ret q_bl))
    z_nil))))
    z_nil)
    (z_cons (z_set (i := 12) sc_law.nd rfl (Or.inl rfl) (q_methX pass_none up0 (q_ix x_ix (q_var (pv 4)) (q_var (pv 7)) (fun _ _ => rfl)) T.cl_Sheet T.mt_Sheet_tell G_Sheet_tell (hr.mono (by decide)) (b_Sheet_tell F) (q_cons (q_var (pv 8)) q_nil se_Name) (hst := se_Name) (hpl := hp_nil)))
    (z_cons (z_putA (q_op o_add (q_ix x_ix (q_var (pv 5)) (q_var (pv 7)) (fun _ _ => rfl)) q_int) (q_var (pv 5)) (q_var (pv 7)) x_set)
    (z_cons (z_if (QW.qt (q_or (q_notT (q_val (q_callB b_isT rfl T.b_isinstance rfl (q_cons (q_var (pv 12)) (q_cons (q_ty (pe_bltn (v := .ty "int") rfl T.b_int rfl rfl)) q_nil se_Name) se_Name) (he := se_Name) (hpl := (hp_cons se_Name hp_nil))))) (q_or (q_val (q_callB b_isT rfl T.b_isinstance rfl (q_cons (q_var (pv 12)) (q_cons (q_ty (pe_bltn (v := .ty "bool") rfl T.b_bool rfl rfl)) q_nil se_Name) se_Name) (he := se_Name) (hpl := (hp_cons se_Name hp_nil)))) (q_or1 (q_cmpT (o_ne hu) (q_var (pv 12)) (q_ix x_ix (q_var (pv 5)) (q_var (pv 7)) (fun _ _ => rfl)) (nomark _))))))
    (z_one (z_ret q_bl))
    z_nil)
    (z_one (z_if (QW.qt (q_or (q_cmpT (o_ne hu) (q_meth0 (q_ix x_ix (q_var (pv 4)) (q_var (pv 7)) (fun _ _ => rfl)) T.cl_Sheet T.mt_Sheet_knowings G_Sheet_knowings (hr.mono (by decide)) (b_Sheet_knowings F)) (q_ix x_ix (q_var (pv 5)) (q_var (pv 7)) (fun _ _ => rfl)) (nomark _)) (q_or1 (q_cmpT (o_neN hu) (q_call G_look (hr.mono (by decide)) rfl T.m_look T.k_look (b_look F) (q_cons (q_ix x_ix (q_var (pv 4)) (q_op o_sub q_int (q_var (pv 7))) (fun _ _ => rfl)) (q_cons (q_var (pv 2)) q_nil se_Name) se_Subscript) (he := se_Subscript) (hpl := (hp_cons se_Name hp_nil))) (q_ix x_ix (q_var (pv 9)) (q_op o_sub q_int (q_var (pv 7))) (fun _ _ => rfl)) (nomark _)))))
    (z_one (z_ret q_bl))
    z_nil))))))))))
    (z_one (z_ret (q_andV (q_cmp (o_eq hu) (q_lst (q_cons (q_meth0 (q_ix x_ix (q_var (pv 4)) q_int (fun _ _ => rfl)) T.cl_Sheet T.mt_Sheet_knowings G_Sheet_knowings (hr.mono (by decide)) (b_Sheet_knowings F)) (q_cons (q_meth0 (q_ix x_ix (q_var (pv 4)) q_int (fun _ _ => rfl)) T.cl_Sheet T.mt_Sheet_knowings G_Sheet_knowings (hr.mono (by decide)) (b_Sheet_knowings F)) q_nil se_Call) se_Call)) (q_var (pv 5)) (nomark _)) (q_one (q_cmp (o_eq hu) (q_meth0 (q_ix x_ix (q_var (pv 4)) q_int (fun _ _ => rfl)) T.cl_Sheet T.mt_Sheet_first G_Sheet_first (hr.mono (by decide)) (b_Sheet_first F)) q_int (nomark _)))))))))))), ?_⟩
  obtain ⟨sa, ns, rfl, hl, q⟩ := h
  walk_at "go"
  refine ⟨sa, ns, 0, rfl, by decide, fun c0 => ?_⟩
  walk_at "go"
  refine i_I (show (0 : Int) < 2 by decide) ?_
  walk_at "go"
  refine ⟨sa, ns, 0, rfl, by decide, fun c1 => ?_⟩
  walk_at "go"
  refine i_I ⟨by decide, by decide⟩ ?_
  walk_at "go"
  generalize c0 % 2 = way
  refine ⟨_, _, 4, rfl, by decide, by decide, fun ks kn G1 hks gks hkn hkno s1 => ?_⟩
  walk_at "go"
  refine ⟨sa, ns, 1, rfl, by decide, fun c2 => ?_⟩
  walk_at "go"
  refine ⟨_, _, 3, rfl, by decide, by decide, fun wsA wn G2 hws gws hwn hwno s2 => ?_⟩
  have gks2 := s2 _ _ gks
  walk_at "go"
  intro p0 dx0 hp0
  refine ⟨p0, dx0, rfl, put_same, fun d0 G3 hd0 k3 sh0 => ⟨rfl, ?_⟩⟩
  walk_at "go"
  intro p1 dx1 hp1
  refine ⟨p1, dx1, rfl, put_same, fun d1 G4 hd1 k4 sh1 => ⟨rfl, ?_⟩⟩
  walk_at "go"
  refine ⟨lenK rfl, fun sl hsl => ?_⟩
  walk_at "go"
  refine ⟨lenK rfl, fun mn hmn => ?_⟩
  walk_at "go"
  refine i_slC fun c hc => ?_
  have hcl : (cutZ ns (some 2) (some 122)).length ≤ 63 := Nat.le_trans (cutZ_length ..) hl
  generalize cutZ ns (some 2) (some 122) = cs at hcl ⊢
  obtain ⟨p, hp⟩ : ∃ p : Bool → Addr, p false = p0 ∧ p true = p1 := ⟨fun b => if b then p1 else p0, rfl, rfl⟩
  obtain ⟨S0, hS0⟩ : ∃ S0 : Bool → Addr → Prop, S0 false = (fun x => x = p0 ∨ x = d0) ∧ S0 true = (fun x => x = p1 ∨ x = d1) := ⟨fun b => if b then (fun x => x = p1 ∨ x = d1) else (fun x => x = p0 ∨ x = d0), rfl, rfl⟩
  have two4 : Two a G4 p S0 (fun _ => []) := by
    have k34 : ∀ b o, G3 b = some o → G4 b = some o := fun b o e => k4 b o (put_old e hp1) (gne_none e hp1)
    refine ⟨fun b => ?_, fun x h1 h2 => ?_⟩
    · cases b
      · rw [hp.1, hS0.1]
        exact sh0.keep fun x o _ e => k34 x o e
      · rw [hp.2, hS0.2]
        exact sh1
    · rw [hS0.1] at h1
      rw [hS0.2] at h2
      obtain ⟨_, _, _, m⟩ := sh0
      obtain ⟨o, e⟩ := m.al x h1
      rcases h2 with rfl | rfl
      · rw [hp1] at e; cases e
      · rw [put_ne (gne_none e hp1)] at hd1
        rw [hd1] at e; cases e
  have fr0 : ∀ b x, S0 b x → G2 x = none := fun b x hx => by
    cases b
    · rw [hS0.1] at hx
      rcases hx with rfl | rfl
      · exact hp0
      · exact (Sm.new hp0).free hd0
    · have h23 : ∀ y, G3 y = none → G2 y = none := fun y hy => by
        cases e : G2 y with
        | none => rfl
        | some o => rw [k3 y o (put_old e hp0) (gne_none e hp0)] at hy; cases hy
      rw [hS0.2] at hx
      rcases hx with rfl | rfl
      · exact h23 _ hp1
      · exact h23 _ ((Sm.new hp1).free hd1)
  have gks4 : G4 ks = some (.lst (kn.map Z.str)) := k4 _ _ (put_old (k3 _ _ (put_old gks2 hp0) (gne_none gks2 hp0)) hp1) (gne_none (k3 _ _ (put_old gks2 hp0) (gne_none gks2 hp0)) hp1)
  have gws4 : G4 wsA = some (.lst (wn.map Z.str)) := k4 _ _ (put_old (k3 _ _ (put_old gws hp0) (gne_none gws hp0)) hp1) (gne_none (k3 _ _ (put_old gws hp0) (gne_none gws hp0)) hp1)
  have nSk : ∀ b, ¬ S0 b ks := fun b z => by have := fr0 b _ z; rw [gks2] at this; cases this
  have nSw : ∀ b, ¬ S0 b wsA := fun b z => by have := fr0 b _ z; rw [gws] at this; cases this
  have hnS : ∀ x, G4 x = none → ∀ b, ¬ S0 b x := fun x e b z => by obtain ⟨o, e'⟩ := two4.alive z; rw [e] at e'; cases e'
  have s6 := ((Sm.new (o := .lst [.ref p0, .ref p1]) hsl).trans (Sm.new (o := .lst [.int 0, .int 0]) hmn)).trans (Sm.new (o := .lst (cs.map Z.int)) hc)
  have gsl6 : put (put (put G4 sl (.lst [.ref p0, .ref p1])) mn (.lst [.int 0, .int 0])) c (.lst (cs.map Z.int)) sl = some (.lst [.ref (p false), .ref (p true)]) := by rw [hp.1, hp.2]; exact put_old (put_old put_same hmn) hc
  have gmn6 : put (put (put G4 sl (.lst [.ref p0, .ref p1])) mn (.lst [.int 0, .int 0])) c (.lst (cs.map Z.int)) mn = some (.lst [.int 0, .int 0]) := put_old put_same hc
  have gc6 : put (put (put G4 sl (.lst [.ref p0, .ref p1])) mn (.lst [.int 0, .int 0])) c (.lst (cs.map Z.int)) c = some (.lst (cs.map Z.int)) := put_same
  have nSs := hnS sl hsl
  have nSm := hnS mn ((Sm.new hsl).free hmn)
  have nSc := hnS c (((Sm.new (o := .lst [.ref p0, .ref p1]) hsl).trans (Sm.new (o := .lst [.int 0, .int 0]) hmn)).free hc)
  have nsm : sl ≠ mn := gne_none put_same hmn
  have nmc : mn ≠ c := gne_none put_same hc
  have nkm : ks ≠ mn := gne_none (put_old gks4 hsl) hmn
  have nwm : wsA ≠ mn := gne_none (put_old gws4 hsl) hmn
  have two6 := two4.sm s6
  have gks6 := s6 _ _ gks4
  have gws6 := s6 _ _ gws4
  generalize put (put (put G4 sl (.lst [.ref p0, .ref p1])) mn (.lst [.int 0, .int 0])) c (.lst (cs.map Z.int)) = G6 at s6 gsl6 gmn6 gc6 two6 gks6 gws6 ⊢
  clear s6 two4 k3 k4 sh0 sh1 hp
  walk_at "go"
  refine i_wkL gc6 ?_
  refine for_by (fun i σ G' => Ex9 fun (S : Bool → Addr → Prop) (T : Bool → List Tl) (v1 v2 v3 v4 v5 v6 v7 : Option Z) => (T false).length + (T true).length = i ∧ Two a G' p S T ∧ (∀ b x, S b x → (∃ b', S0 b' x) ∨ G6 x = none) ∧ (∀ x o, G6 x = some o → (∀ b, ¬ S0 b x) → x ≠ mn → G' x = some o) ∧ G' mn = some (.lst [.int (T false).length, .int (T true).length]) ∧ σ = [some (.scr sa ns), some (.int way), some (.ref ks), some (.ref wsA), some (.ref sl), some (.ref mn), v1, v2, v3, v4, v5, v6, v7])
    ⟨S0, fun _ => [], _, _, _, _, _, _, _, rfl, two6, fun b x hx => .inl ⟨b, hx⟩, fun x o e _ _ => e, gmn6, rfl⟩ (fun i σ G' _ ⟨_, _, _, _, _, _, _, _, _, _, _, _, k, _⟩ => k _ _ gc6 nSc (Ne.symm nmc)) ?_ ?_
  · rintro i x σ G' hx ⟨S, T', v1, v2, v3, v4, v5, v6, v7, hTl, two, hSf, hkp, gmn, rfl⟩
    rw [List.getElem?_map] at hx
    cases hx' : cs[i]? with
    | none => rw [hx'] at hx; cases hx
    | some cl =>
    rw [hx'] at hx
    cases hx
    have hi := (List.getElem?_eq_some_iff.mp hx').1
    have hlen : ∀ b, (T' b).length ≤ 63 := fun b => by cases b <;> omega
    have nS : ∀ x o, G6 x = some o → (∀ b, ¬ S0 b x) → ∀ b, ¬ S b x := fun x o e n b z => by
      rcases hSf b x z with ⟨b', w⟩ | w
      · exact n b' w
      · rw [w] at e; cases e
    have nM := nS _ _ gmn6 nSm
    have nL := nS _ _ gsl6 nSs
    have gk := hkp _ _ gks6 nSk nkm
    have gw := hkp _ _ gws6 nSw nwm
    have gsl := hkp _ _ gsl6 nSs nsm
    refine ⟨_, rfl, ?_⟩
    walk_at "go"
    refine ⟨_, 27, rfl, by decide, by decide, fun r r0 r1 => ?_⟩
    walk_at "go"
    refine i_I (show (0 : Int) < 2 by decide) ?_
    obtain ⟨b, hb⟩ := @bi_of r
    rw [hb]
    walk_at "go"
    refine ⟨_, _, ks, wsA, kn, wn, rfl, gk, gw, by omega, by omega, by omega, by omega, hkno, hwno, fun τ Ga sA ok => ?_⟩
    have twoA := two.sm sA
    walk_at "go"
    refine i_ixL (sA _ _ gsl) at0 ?_
    walk_at "go"
    refine ⟨p false, S false, T' false, ks, kn, rfl, twoA.sh false, sA _ _ gk, hkno, by omega, by have := hlen false; omega, fun z0 L0 Gb sB dz0 ln0 ok0 => ?_⟩
    have sAB := sA.trans sB
    have twoB := twoA.sm sB
    walk_at "go"
    refine i_ixL (sAB _ _ gsl) at1 ?_
    walk_at "go"
    refine ⟨p true, S true, T' true, ks, kn, rfl, twoB.sh true, sAB _ _ gk, hkno, by omega, by have := hlen true; omega, fun z1 L1 Gc sC dz1 ln1 ok1 => ?_⟩
    have sAC := sAB.trans sC
    walk_at "go"
    refine ⟨lenK rfl, fun ah hah => ?_⟩
    have sD : Sm Gc (put Gc ah (.lst [z0, z1])) := Sm.new hah
    have gah : put Gc ah (.lst [z0, z1]) ah = some (.lst [z0, z1]) := put_same
    have sAD := sAC.trans sD
    have f0 : Sm (newH Ga Gb) (put Gc ah (.lst [z0, z1])) := (newH_sm.trans sC).trans sD
    have f1 : Sm (newH Gb Gc) (put Gc ah (.lst [z0, z1])) := newH_sm.trans sD
    generalize put Gc ah (.lst [z0, z1]) = Gd at sD gah sAD f0 f1 ⊢
    walk_at "go"
    refine i_cut (fun σ' G'' => ∃ w1 w2 : Option Z, Sm Gd G'' ∧ σ' = [some (.scr sa ns), some (.int way), some (.ref ks), some (.ref wsA), some (.ref sl), some (.ref mn), some (.int cl), some (.int (bi b)), some τ.z, some (.ref ah), w1, w2, v7]) ?_ ?_
    · walk_at "go"
      refine ⟨_, 28, rfl, by decide, by decide, fun r2 r20 r21 => ?_⟩
      walk_at "go"
      refine i_I (show (0 : Int) < 3 by decide) ?_
      walk_at "go"
      refine ifD (fun _ => ?_) fun _ => ?_
      · walk_at "go"
        refine ⟨_, τ, rfl, ok, fun z nmd Ge sE bad => ?_⟩
        have sDE := sD.trans sE
        have sAE := sAD.trans sE
        walk_at "go"
        refine i_ixL (sAE _ _ gsl) (bi_at (f := fun b => Z.ref (p b))) ?_
        walk_at "go"
        refine ⟨p b, S b, T' b, z, nmd, rfl, (two.sm sAE).sh b, bad, fun Gf sF => ?_⟩
        have sAF := sAE.trans sF
        walk_at "go"
        refine ifF ?_
        walk_at "go"
        refine i_ixL (sAF _ _ gsl) at0 ?_
        walk_at "go"
        refine ⟨p false, S false, T' false, ks, kn, rfl, (two.sm sAF).sh false, sAF _ _ gk, hkno, by omega, by have := hlen false; omega, fun z0' L0' Gg sG dz0' ln0' ok0' => ?_⟩
        have sAG := sAF.trans sG
        walk_at "go"
        refine i_ixL (sAG _ _ gsl) at1 ?_
        walk_at "go"
        refine ⟨p true, S true, T' true, ks, kn, rfl, (two.sm sAG).sh true, sAG _ _ gk, hkno, by omega, by have := hlen true; omega, fun z1' L1' Gh sH dz1' ln1' ok1' => ?_⟩
        obtain rfl := ln0'.uniq ln0
        obtain rfl := ln1'.uniq ln1
        walk_at "go"
        refine ⟨lenK rfl, fun u hu => ?_⟩
        have sU : Sm Gh (put Gh u (.lst [z0', z1'])) := Sm.new hu
        have sDU := (((sE.trans sF).trans sG).trans sH).trans sU
        walk_at "go"
        refine looks_ne put_same (sDU _ _ gah) (dz0'.sm ((newH_sm.trans sH).trans sU)) (dz1'.sm (newH_sm.trans sU)) (dz0.sm (f0.trans sDU)) (dz1.sm (f1.trans sDU)) ok0' ok1' ?_
        walk_at "go"
        exact ⟨_, _, sDU, rfl⟩
      · walk_at "go"
        exact ⟨_, _, Sm.refl _, rfl⟩
    · rintro σ' Gi ⟨w1, w2, sI, rfl⟩
      have sAI := sAD.trans sI
      have twoI := two.sm sAI
      have shb := twoI.sh b
      have shb' := shb
      obtain ⟨dxb, db, kvsb, mb⟩ := shb'
      walk_at "go"
      refine i_ixL (sAI _ _ gsl) (bi_at (f := fun b => Z.ref (p b))) ?_
      walk_at "go"
      refine ⟨p b, dxb, _, rfl, mb.ob, lk_no (by decide +kernel) (by decide +kernel), ?_⟩
      walk_at "go"
      refine ⟨p b, S b, T' b, shb, .inl ⟨τ, rfl, ok, by have := hlen b; omega, fun S' Gj i1 i2 knj shJ => ?_⟩⟩
      have twoJ := twoI.tell i2 knj shJ
      have f0J : Sm (newH Ga Gb) Gj := fun x o e => knj x o (fun z => by
        obtain ⟨o', e'⟩ := twoA.alive z
        rw [newH_free e] at e'; cases e') (sI _ _ (f0 _ _ e))
      have f1J : Sm (newH Gb Gc) Gj := fun x o e => knj x o (fun z => by
        obtain ⟨o', e'⟩ := twoB.alive z
        rw [newH_free e] at e'; cases e') (sI _ _ (f1 _ _ e))
      have gslJ := knj _ _ (nL b) (sAI _ _ gsl)
      have gmnJ := knj _ _ (nM b) (sAI _ _ gmn)
      have gkJ := knj _ _ (nS _ _ gks6 nSk b) (sAI _ _ gk)
      have nah : ¬ S b ah := fun z => by
        obtain ⟨o', e'⟩ := (two.sm sAC).alive z
        rw [hah] at e'; cases e'
      have gahJ := knj _ _ nah (sI _ _ gah)
      have kpJ : ∀ x o, G6 x = some o → (∀ b, ¬ S0 b x) → x ≠ mn → Gj x = some o := fun x o e n n1 => knj _ _ (nS x o e n b) (sAI _ _ (hkp x o e n n1))
      have nMJ : ∀ c, ¬ (if c = b then S' else S c) mn := fun c z => by
        by_cases hc : c = b
        · rw [if_pos hc] at z
          rcases i2 mn z with w | w
          · exact nM b w
          · rw [sAI _ _ gmn] at w; cases w
        · rw [if_neg hc] at z; exact nM c z
      walk_at "go"
      refine i_ixL gmnJ (bi_at (f := fun b => Z.int (T' b).length)) ?_
      walk_at "go"
      refine i_set gmnJ (j := if b then 1 else 0) bi_ix ?_
      have em : ([.int (T' false).length, .int (T' true).length] : List Z).set (if b then 1 else 0) (.int ((T' b).length + 1)) = [.int ((if false = b then T' b ++ [τ] else T' false).length : Nat), .int ((if true = b then T' b ++ [τ] else T' true).length : Nat)] := by
        cases b <;> simp
      rw [em]
      have kqK : Kq mn Gj (put Gj mn (.lst [.int ((if false = b then T' b ++ [τ] else T' false).length : Nat), .int ((if true = b then T' b ++ [τ] else T' true).length : Nat)])) := Kq.at
      have gmnK : put Gj mn (.lst [.int ((if false = b then T' b ++ [τ] else T' false).length : Nat), .int ((if true = b then T' b ++ [τ] else T' true).length : Nat)]) mn = some (.lst [.int ((if false = b then T' b ++ [τ] else T' false).length : Nat), .int ((if true = b then T' b ++ [τ] else T' true).length : Nat)]) := put_same
      generalize put Gj mn (.lst [.int ((if false = b then T' b ++ [τ] else T' false).length : Nat), .int ((if true = b then T' b ++ [τ] else T' true).length : Nat)]) = Gk at kqK gmnK ⊢
      have twoK := twoJ.kq kqK nMJ
      have gslK := kqK _ _ gslJ nsm
      have gkK := kqK _ _ gkJ nkm
      have nam : ah ≠ mn := Ne.symm (gne_none (sAC _ _ gmn) hah)
      have gahK := kqK _ _ gahJ nam
      have kpK : ∀ x o, G6 x = some o → (∀ b, ¬ S0 b x) → x ≠ mn → Gk x = some o := fun x o e n n1 => kqK _ _ (kpJ x o e n n1) n1
      have fm : ∀ {F : Hq}, Sm F Gj → F mn = none → Sm F Gk := fun {F} s n x o e => kqK _ _ (s _ _ e) fun z => by rw [z, n] at e; cases e
      have f0K := fm f0J (by unfold newH; rw [sA _ _ gmn]; rfl)
      have f1K := fm f1J (by unfold newH; rw [sAB _ _ gmn]; rfl)
      have atK : atI ([.int ((if false = b then T' b ++ [τ] else T' false).length : Nat), .int ((if true = b then T' b ++ [τ] else T' true).length : Nat)] : List Z) (bi b) = some (.int ((T' b).length + 1)) := by
        refine (bi_at (f := fun c => Z.int ((if c = b then T' b ++ [τ] else T' c).length : Nat))).trans ?_
        simp
      walk_at "go"
      refine i_isT (n := "int") (b := true) rfl rfl ?_
      walk_at "go"
      refine ifF ?_
      walk_at "go"
      refine i_isT (n := "int") (b := false) rfl rfl ?_
      walk_at "go"
      refine i_ixL gmnK atK ?_
      walk_at "go"
      refine ifN (fun z => absurd rfl z) fun _ => ?_
      walk_at "go"
      refine i_ixL gslK (bi_at (f := fun b => Z.ref (p b))) ?_
      walk_at "go"
      have shK := twoK.sh b
      rw [if_pos rfl, if_pos rfl] at shK
      have shK' := shK
      obtain ⟨dxk, dk, kvsk, mk⟩ := shK'
      refine ⟨p b, dxk, _, rfl, mk.ob, lk_no (by decide +kernel) (by decide +kernel), ?_⟩
      walk_at "go"
      refine ⟨p b, S', T' b ++ [τ], rfl, shK, ?_⟩
      walk_at "go"
      refine i_ixL gmnK atK ?_
      walk_at "go"
      refine ifN (fun z => absurd (by rw [List.length_append]; simp) z) fun _ => ?_
      walk_at "go"
      refine i_ixL gslK (bi_not (f := fun b => Z.ref (p b))) ?_
      have hnb : ¬ ((!b) = b) := by cases b <;> decide
      have shN := twoK.sh (!b)
      rw [if_neg hnb, if_neg hnb] at shN
      walk_at "go"
      refine ⟨p (!b), S (!b), T' (!b), ks, kn, rfl, shN, gkK, hkno, by omega, by have := hlen (!b); omega, fun z2 L2 Gl sL dz2 ln2 ok2 => ?_⟩
      walk_at "go"
      refine i_ixL (sL _ _ gahK) (bi_not (f := fun b => if b then z1 else z0)) ?_
      have dzo : ∃ Ls, DZ Gl (lookD (T' (!b)).length Ls) (if (!b) = true then z1 else z0) ∧ Lines (T' (!b)) kn Ls := by
        cases b with
        | true => exact ⟨L0, dz0.sm (f0K.trans sL), ln0⟩
        | false => exact ⟨L1, dz1.sm (f1K.trans sL), ln1⟩
      obtain ⟨L3, dz3, ln3⟩ := dzo
      obtain rfl := ln2.uniq ln3
      walk_at "go"
      refine look_ne (dz2.sm newH_sm) dz3 ok2 ?_
      walk_at "go"
      refine ⟨(fun c => if c = b then S' else S c), (fun c => if c = b then T' b ++ [τ] else T' c), _, _, _, _, _, _, _, ?_, twoK.sm sL, fun c x hx => ?_, fun x o e n n1 => sL _ _ (kpK x o e n n1), sL _ _ gmnK, rfl⟩
      · cases b <;> simp <;> omega
      · have hx : (if c = b then S' else S c) x := hx
        by_cases hc : c = b
        · rw [if_pos hc] at hx
          rcases i2 x hx with w | w
          · exact hSf b x w
          · by_cases n : ∃ b', S0 b' x
            · exact .inl n
            · right
              cases e : G6 x with
              | none => rfl
              | some o =>
                by_cases n1 : x = mn
                · rw [n1, sAI _ _ gmn] at w; cases w
                · have := sAI _ _ (hkp x o e (fun b' z => n ⟨b', z⟩) n1)
                  rw [w] at this; cases this
        · rw [if_neg hc] at hx; exact hSf c x hx
  · rintro σ G' ⟨S, T', v1, v2, v3, v4, v5, v6, v7, hTl, two, hSf, hkp, gmn, rfl⟩
    have gsl := hkp _ _ gsl6 nSs nsm
    obtain ⟨dx0, dd0, kvs0, m0⟩ := two.sh false
    obtain ⟨dx1, dd1, kvs1, m1⟩ := two.sh true
    walk_at "go"
    refine i_ixL gsl at0 ?_
    walk_at "go"
    refine ⟨p false, dx0, _, rfl, m0.ob, lk_no (by decide +kernel) (by decide +kernel), ?_⟩
    walk_at "go"
    refine ⟨p false, S false, T' false, rfl, two.sh false, ?_⟩
    walk_at "go"
    refine i_ixL gsl at1 ?_
    walk_at "go"
    refine ⟨p true, dx1, _, rfl, m1.ob, lk_no (by decide +kernel) (by decide +kernel), ?_⟩
    walk_at "go"
    refine ⟨p true, S true, T' true, rfl, two.sh true, ?_⟩
    walk_at "go"
    refine ⟨lenK rfl, fun u hu => ?_⟩
    walk_at "go"
    refine i_eqL put_same (put_old gmn hu) rfl rfl ?_
    walk_at "go"
    refine ifD (fun _ => ?_) fun z => absurd rfl z
    walk_at "go"
    refine i_ixL (put_old gsl hu) at0 ?_
    walk_at "go"
    refine ⟨p false, dx0, _, rfl, put_old m0.ob hu, lk_no (by decide +kernel) (by decide +kernel), ?_⟩
    walk_at "go"
    refine ⟨p false, rfl, ?_⟩
    walk_at "go"
    exact q _
theorem all_mk {l : PySem.W.OpenLaw} {w : World} {K : PySem.W.Frag} {h : Heap} {mg : Str → Option Value} {fa : Addr} (X : K.In h) (G : h.Ns mainGlobals mg) (hfa : mg "law" = some (.ref fa))
    {f_p_is_name : Addr} {od_p_is_name an_p_is_name : Option Addr} {sl_p_is_name : Array (Option Value)} {oc_p_is_name kV_p_is_name dc_p_is_name pm_p_is_name cd_p_is_name ct_p_is_name : Value}
    {f_p_is_moment : Addr} {od_p_is_moment an_p_is_moment : Option Addr} {sl_p_is_moment : Array (Option Value)} {oc_p_is_moment kV_p_is_moment dc_p_is_moment pm_p_is_moment cd_p_is_moment ct_p_is_moment : Value}
    {f_p_is_stretch : Addr} {od_p_is_stretch an_p_is_stretch : Option Addr} {sl_p_is_stretch : Array (Option Value)} {oc_p_is_stretch kV_p_is_stretch dc_p_is_stretch pm_p_is_stretch cd_p_is_stretch ct_p_is_stretch : Value}
    {f_p_earlier_end : Addr} {od_p_earlier_end an_p_earlier_end : Option Addr} {sl_p_earlier_end : Array (Option Value)} {oc_p_earlier_end kV_p_earlier_end dc_p_earlier_end pm_p_earlier_end cd_p_earlier_end ct_p_earlier_end : Value}
    {f_p_check_name : Addr} {od_p_check_name an_p_check_name : Option Addr} {sl_p_check_name : Array (Option Value)} {oc_p_check_name kV_p_check_name dc_p_check_name pm_p_check_name cd_p_check_name ct_p_check_name : Value}
    {f_p_check_stretch : Addr} {od_p_check_stretch an_p_check_stretch : Option Addr} {sl_p_check_stretch : Array (Option Value)} {oc_p_check_stretch kV_p_check_stretch dc_p_check_stretch pm_p_check_stretch cd_p_check_stretch ct_p_check_stretch : Value}
    {f_p_check_in_reach : Addr} {od_p_check_in_reach an_p_check_in_reach : Option Addr} {sl_p_check_in_reach : Array (Option Value)} {oc_p_check_in_reach kV_p_check_in_reach dc_p_check_in_reach pm_p_check_in_reach cd_p_check_in_reach ct_p_check_in_reach : Value}
    {f_p_ahead_of : Addr} {od_p_ahead_of an_p_ahead_of : Option Addr} {sl_p_ahead_of : Array (Option Value)} {oc_p_ahead_of kV_p_ahead_of dc_p_ahead_of pm_p_ahead_of cd_p_ahead_of ct_p_ahead_of : Value}
    {f_p_with_alike_joined : Addr} {od_p_with_alike_joined an_p_with_alike_joined : Option Addr} {sl_p_with_alike_joined : Array (Option Value)} {oc_p_with_alike_joined kV_p_with_alike_joined dc_p_with_alike_joined pm_p_with_alike_joined cd_p_with_alike_joined ct_p_with_alike_joined : Value}
    {f_p_from_on : Addr} {od_p_from_on an_p_from_on : Option Addr} {sl_p_from_on : Array (Option Value)} {oc_p_from_on kV_p_from_on dc_p_from_on pm_p_from_on cd_p_from_on ct_p_from_on : Value}
    {f_p_put_on : Addr} {od_p_put_on an_p_put_on : Option Addr} {sl_p_put_on : Array (Option Value)} {oc_p_put_on kV_p_put_on dc_p_put_on pm_p_put_on cd_p_put_on ct_p_put_on : Value}
    {f_p_check_telling : Addr} {od_p_check_telling an_p_check_telling : Option Addr} {sl_p_check_telling : Array (Option Value)} {oc_p_check_telling kV_p_check_telling dc_p_check_telling pm_p_check_telling cd_p_check_telling ct_p_check_telling : Value}
    {f_p_line_behind : Addr} {od_p_line_behind an_p_line_behind : Option Addr} {sl_p_line_behind : Array (Option Value)} {oc_p_line_behind kV_p_line_behind dc_p_line_behind pm_p_line_behind cd_p_line_behind ct_p_line_behind : Value}
    {f_cell_at : Addr} {od_cell_at an_cell_at : Option Addr} {sl_cell_at : Array (Option Value)} {oc_cell_at kV_cell_at dc_cell_at pm_cell_at cd_cell_at ct_cell_at : Value}
    {f_mix : Addr} {od_mix an_mix : Option Addr} {sl_mix : Array (Option Value)} {oc_mix kV_mix dc_mix pm_mix cd_mix ct_mix : Value}
    {f_parts : Addr} {od_parts an_parts : Option Addr} {sl_parts : Array (Option Value)} {oc_parts kV_parts dc_parts pm_parts cd_parts ct_parts : Value}
    {f_names : Addr} {od_names an_names : Option Addr} {sl_names : Array (Option Value)} {oc_names kV_names dc_names pm_names cd_names ct_names : Value}
    {f_telling : Addr} {od_telling an_telling : Option Addr} {sl_telling : Array (Option Value)} {oc_telling kV_telling dc_telling pm_telling cd_telling ct_telling : Value}
    {f_bad_name : Addr} {od_bad_name an_bad_name : Option Addr} {sl_bad_name : Array (Option Value)} {oc_bad_name kV_bad_name dc_bad_name pm_bad_name cd_bad_name ct_bad_name : Value}
    {f_bad_stretch : Addr} {od_bad_stretch an_bad_stretch : Option Addr} {sl_bad_stretch : Array (Option Value)} {oc_bad_stretch kV_bad_stretch dc_bad_stretch pm_bad_stretch cd_bad_stretch ct_bad_stretch : Value}
    {f_bad : Addr} {od_bad an_bad : Option Addr} {sl_bad : Array (Option Value)} {oc_bad kV_bad dc_bad pm_bad cd_bad ct_bad : Value}
    {f_Sheet_keep_line : Addr} {od_Sheet_keep_line an_Sheet_keep_line : Option Addr} {sl_Sheet_keep_line : Array (Option Value)} {oc_Sheet_keep_line kV_Sheet_keep_line dc_Sheet_keep_line pm_Sheet_keep_line cd_Sheet_keep_line ct_Sheet_keep_line : Value}
    {f_Sheet_known_line : Addr} {od_Sheet_known_line an_Sheet_known_line : Option Addr} {sl_Sheet_known_line : Array (Option Value)} {oc_Sheet_known_line kV_Sheet_known_line dc_Sheet_known_line pm_Sheet_known_line cd_Sheet_known_line ct_Sheet_known_line : Value}
    {f_Sheet_tell : Addr} {od_Sheet_tell an_Sheet_tell : Option Addr} {sl_Sheet_tell : Array (Option Value)} {oc_Sheet_tell kV_Sheet_tell dc_Sheet_tell pm_Sheet_tell cd_Sheet_tell ct_Sheet_tell : Value}
    {f_refused : Addr} {od_refused an_refused : Option Addr} {sl_refused : Array (Option Value)} {oc_refused kV_refused dc_refused pm_refused cd_refused ct_refused : Value}
    {f_Sheet_knowings : Addr} {od_Sheet_knowings an_Sheet_knowings : Option Addr} {sl_Sheet_knowings : Array (Option Value)} {oc_Sheet_knowings kV_Sheet_knowings dc_Sheet_knowings pm_Sheet_knowings cd_Sheet_knowings ct_Sheet_knowings : Value}
    {f_Sheet_first : Addr} {od_Sheet_first an_Sheet_first : Option Addr} {sl_Sheet_first : Array (Option Value)} {oc_Sheet_first kV_Sheet_first dc_Sheet_first pm_Sheet_first cd_Sheet_first ct_Sheet_first : Value}
    {f_Sheet_check_knowing : Addr} {od_Sheet_check_knowing an_Sheet_check_knowing : Option Addr} {sl_Sheet_check_knowing : Array (Option Value)} {oc_Sheet_check_knowing kV_Sheet_check_knowing dc_Sheet_check_knowing pm_Sheet_check_knowing cd_Sheet_check_knowing ct_Sheet_check_knowing : Value}
    {f_Sheet_line_at : Addr} {od_Sheet_line_at an_Sheet_line_at : Option Addr} {sl_Sheet_line_at : Array (Option Value)} {oc_Sheet_line_at kV_Sheet_line_at dc_Sheet_line_at pm_Sheet_line_at cd_Sheet_line_at ct_Sheet_line_at : Value}
    {f_look : Addr} {od_look an_look : Option Addr} {sl_look : Array (Option Value)} {oc_look kV_look dc_look pm_look cd_look ct_look : Value}
    {f_Sheet___init__ : Addr} {od_Sheet___init__ an_Sheet___init__ : Option Addr} {sl_Sheet___init__ : Array (Option Value)} {oc_Sheet___init__ kV_Sheet___init__ dc_Sheet___init__ pm_Sheet___init__ cd_Sheet___init__ ct_Sheet___init__ : Value}
    {f_law : Addr} {od_law an_law : Option Addr} {sl_law : Array (Option Value)} {oc_law kV_law dc_law pm_law cd_law ct_law : Value}
    {t_LONGEST_NAME : Tok}
    {t_LAST_MOMENT : Tok}
    {c_Sheet : Addr}
    (aC_Sheet : PySem.W.nsIn K mainGlobals "Sheet" = some (some (.ref c_Sheet))) (pg_Sheet : PySem.W.plainGet K c_Sheet Str.empty = true) (hd_Sheet : PySem.W.hasDictIn K c_Sheet = true) (po_Sheet : PySem.W.plainOver K c_Sheet = true) (sa_Sheet : PySem.W.findIn K (.ref c_Sheet) "__setattr__" = some (some (.builtin "object.__setattr__")))
    (mk_Sheet : PySem.W.makesIn K c_Sheet = true) (kc_Sheet : PySem.W.keepIn K (.ref c_Sheet) = true)
    (na_last : PySem.W.findIn K (.ref c_Sheet) "last" = some none)
    (na_kept : PySem.W.findIn K (.ref c_Sheet) "kept" = some none)
    {x_NoName : Addr}
    {x_NoStretch : Addr}
    {x_TimesError : Addr}
    {x_Broken : Addr}
    {x_Forgotten : Addr}
    {x_NoFit : Addr}
    {x_NoKnowing : Addr}
    {x_NoLog : Addr}
    {x_NoRow : Addr}
    {x_NoSheet : Addr}
    (ax_NoName : PySem.W.nsIn K mainGlobals "NoName" = some (some (.ref x_NoName)))
    (ax_NoStretch : PySem.W.nsIn K mainGlobals "NoStretch" = some (some (.ref x_NoStretch)))
    (ax_TimesError : PySem.W.nsIn K mainGlobals "TimesError" = some (some (.ref x_TimesError)))
    (ax_Broken : PySem.W.nsIn K mainGlobals "Broken" = some (some (.ref x_Broken)))
    (ax_Forgotten : PySem.W.nsIn K mainGlobals "Forgotten" = some (some (.ref x_Forgotten)))
    (ax_NoFit : PySem.W.nsIn K mainGlobals "NoFit" = some (some (.ref x_NoFit)))
    (ax_NoKnowing : PySem.W.nsIn K mainGlobals "NoKnowing" = some (some (.ref x_NoKnowing)))
    (ax_NoLog : PySem.W.nsIn K mainGlobals "NoLog" = some (some (.ref x_NoLog)))
    (ax_NoRow : PySem.W.nsIn K mainGlobals "NoRow" = some (some (.ref x_NoRow)))
    (ax_NoSheet : PySem.W.nsIn K mainGlobals "NoSheet" = some (some (.ref x_NoSheet)))
    (xi_NoName : PySem.W.excIn K x_NoName veM "ValueError.__new__" = true)
    (xi_NoStretch : PySem.W.excIn K x_NoStretch veM "ValueError.__new__" = true)
    (xb_NoName_TimesError : PySem.W.subIn K (.ref x_TimesError) (.type "BaseException") = some true)
    (xt_NoName_TimesError : PySem.W.typeIn K (.ref x_TimesError) = some (.type "type"))
    (xs_NoName_TimesError : PySem.W.subIn K (.ref x_NoName) (.ref x_TimesError) = some true)
    (xh_NoName_TimesError : PySem.W.hasDictIn K x_TimesError = true)
    (xb_NoStretch_TimesError : PySem.W.subIn K (.ref x_TimesError) (.type "BaseException") = some true)
    (xt_NoStretch_TimesError : PySem.W.typeIn K (.ref x_TimesError) = some (.type "type"))
    (xs_NoStretch_TimesError : PySem.W.subIn K (.ref x_NoStretch) (.ref x_TimesError) = some true)
    (xh_NoStretch_TimesError : PySem.W.hasDictIn K x_TimesError = true)
    (ea_NoName : PySem.W.hasDictIn K x_NoName = true)
    (eb_NoName : PySem.W.findIn K (.ref x_NoName) "__getattribute__" = some (some (.builtin "BaseException.__getattribute__")))
    (ec_NoName : PySem.W.findIn K (.ref x_NoName) "__getattr__" = some none)
    (ed_NoName : PySem.W.findIn K (.ref x_NoName) "__class__" = some (some (.builtin "object.__class__")))
    (ee_NoName : PySem.W.specialIn K (.builtin "object.__class__") "__get__" = some (some (.builtin "getset_descriptor.__get__")))
    (ef_NoName : PySem.W.takesIn K (.builtin "object.__class__") = some true)
    (eg_NoName : PySem.W.mroIn K x_NoName (.type "object") = some true)
    (eh_NoName : PySem.W.mroIn K x_NoName (.type "BaseException") = some true)
    (ea_NoStretch : PySem.W.hasDictIn K x_NoStretch = true)
    (eb_NoStretch : PySem.W.findIn K (.ref x_NoStretch) "__getattribute__" = some (some (.builtin "BaseException.__getattribute__")))
    (ec_NoStretch : PySem.W.findIn K (.ref x_NoStretch) "__getattr__" = some none)
    (ed_NoStretch : PySem.W.findIn K (.ref x_NoStretch) "__class__" = some (some (.builtin "object.__class__")))
    (ee_NoStretch : PySem.W.specialIn K (.builtin "object.__class__") "__get__" = some (some (.builtin "getset_descriptor.__get__")))
    (ef_NoStretch : PySem.W.takesIn K (.builtin "object.__class__") = some true)
    (eg_NoStretch : PySem.W.mroIn K x_NoStretch (.type "object") = some true)
    (eh_NoStretch : PySem.W.mroIn K x_NoStretch (.type "BaseException") = some true)
    (kt_NoStretch_NoName : PySem.W.kitOne K (.ref x_NoStretch) (.ref x_NoName) = some false)
    (kt_NoName_NoStretch : PySem.W.kitOne K (.ref x_NoName) (.ref x_NoStretch) = some false)
    (kt_NoName_ValueError : PySem.W.kitOne K (.ref x_NoName) (.type "ValueError") = some true)
    (kt_NoStretch_ValueError : PySem.W.kitOne K (.ref x_NoStretch) (.type "ValueError") = some true)
    (ka_NoName_0 : PySem.W.kitAny K (.ref x_NoName) [.ref x_Broken, .ref x_Forgotten, .ref x_NoFit, .ref x_NoKnowing, .ref x_NoLog, .ref x_NoRow, .ref x_NoSheet] = some false)
    (ka_NoStretch_1 : PySem.W.kitAny K (.ref x_NoStretch) [.ref x_Broken, .ref x_Forgotten, .ref x_NoFit, .ref x_NoKnowing, .ref x_NoLog, .ref x_NoRow, .ref x_NoSheet] = some false)
    (a_p_is_name : PySem.W.nsIn K mainGlobals "is_name" = some (some (.ref f_p_is_name))) (l_p_is_name : K.lookup f_p_is_name = some ⟨oc_p_is_name, od_p_is_name, .func (PySem.W.fnOf "is_name" "is_name" (defArgs s_p_is_name) (defBody s_p_is_name) (defScope s_p_is_name) .none kV_p_is_name dc_p_is_name pm_p_is_name an_p_is_name cd_p_is_name ct_p_is_name), sl_p_is_name⟩) (c_p_is_name : PySem.W.codeIn K cd_p_is_name "is_name" = true) (k_p_is_name : PySem.W.keepIn K (.ref f_p_is_name) = true)
    (a_p_is_moment : PySem.W.nsIn K mainGlobals "is_moment" = some (some (.ref f_p_is_moment))) (l_p_is_moment : K.lookup f_p_is_moment = some ⟨oc_p_is_moment, od_p_is_moment, .func (PySem.W.fnOf "is_moment" "is_moment" (defArgs s_p_is_moment) (defBody s_p_is_moment) (defScope s_p_is_moment) .none kV_p_is_moment dc_p_is_moment pm_p_is_moment an_p_is_moment cd_p_is_moment ct_p_is_moment), sl_p_is_moment⟩) (c_p_is_moment : PySem.W.codeIn K cd_p_is_moment "is_moment" = true) (k_p_is_moment : PySem.W.keepIn K (.ref f_p_is_moment) = true)
    (a_p_is_stretch : PySem.W.nsIn K mainGlobals "is_stretch" = some (some (.ref f_p_is_stretch))) (l_p_is_stretch : K.lookup f_p_is_stretch = some ⟨oc_p_is_stretch, od_p_is_stretch, .func (PySem.W.fnOf "is_stretch" "is_stretch" (defArgs s_p_is_stretch) (defBody s_p_is_stretch) (defScope s_p_is_stretch) .none kV_p_is_stretch dc_p_is_stretch pm_p_is_stretch an_p_is_stretch cd_p_is_stretch ct_p_is_stretch), sl_p_is_stretch⟩) (c_p_is_stretch : PySem.W.codeIn K cd_p_is_stretch "is_stretch" = true) (k_p_is_stretch : PySem.W.keepIn K (.ref f_p_is_stretch) = true)
    (a_p_earlier_end : PySem.W.nsIn K mainGlobals "earlier_end" = some (some (.ref f_p_earlier_end))) (l_p_earlier_end : K.lookup f_p_earlier_end = some ⟨oc_p_earlier_end, od_p_earlier_end, .func (PySem.W.fnOf "earlier_end" "earlier_end" (defArgs s_p_earlier_end) (defBody s_p_earlier_end) (defScope s_p_earlier_end) .none kV_p_earlier_end dc_p_earlier_end pm_p_earlier_end an_p_earlier_end cd_p_earlier_end ct_p_earlier_end), sl_p_earlier_end⟩) (c_p_earlier_end : PySem.W.codeIn K cd_p_earlier_end "earlier_end" = true) (k_p_earlier_end : PySem.W.keepIn K (.ref f_p_earlier_end) = true)
    (a_p_check_name : PySem.W.nsIn K mainGlobals "check_name" = some (some (.ref f_p_check_name))) (l_p_check_name : K.lookup f_p_check_name = some ⟨oc_p_check_name, od_p_check_name, .func (PySem.W.fnOf "check_name" "check_name" (defArgs s_p_check_name) (defBody s_p_check_name) (defScope s_p_check_name) .none kV_p_check_name dc_p_check_name pm_p_check_name an_p_check_name cd_p_check_name ct_p_check_name), sl_p_check_name⟩) (c_p_check_name : PySem.W.codeIn K cd_p_check_name "check_name" = true) (k_p_check_name : PySem.W.keepIn K (.ref f_p_check_name) = true)
    (a_p_check_stretch : PySem.W.nsIn K mainGlobals "check_stretch" = some (some (.ref f_p_check_stretch))) (l_p_check_stretch : K.lookup f_p_check_stretch = some ⟨oc_p_check_stretch, od_p_check_stretch, .func (PySem.W.fnOf "check_stretch" "check_stretch" (defArgs s_p_check_stretch) (defBody s_p_check_stretch) (defScope s_p_check_stretch) .none kV_p_check_stretch dc_p_check_stretch pm_p_check_stretch an_p_check_stretch cd_p_check_stretch ct_p_check_stretch), sl_p_check_stretch⟩) (c_p_check_stretch : PySem.W.codeIn K cd_p_check_stretch "check_stretch" = true) (k_p_check_stretch : PySem.W.keepIn K (.ref f_p_check_stretch) = true)
    (a_p_check_in_reach : PySem.W.nsIn K mainGlobals "check_in_reach" = some (some (.ref f_p_check_in_reach))) (l_p_check_in_reach : K.lookup f_p_check_in_reach = some ⟨oc_p_check_in_reach, od_p_check_in_reach, .func (PySem.W.fnOf "check_in_reach" "check_in_reach" (defArgs s_p_check_in_reach) (defBody s_p_check_in_reach) (defScope s_p_check_in_reach) .none kV_p_check_in_reach dc_p_check_in_reach pm_p_check_in_reach an_p_check_in_reach cd_p_check_in_reach ct_p_check_in_reach), sl_p_check_in_reach⟩) (c_p_check_in_reach : PySem.W.codeIn K cd_p_check_in_reach "check_in_reach" = true) (k_p_check_in_reach : PySem.W.keepIn K (.ref f_p_check_in_reach) = true)
    (a_p_ahead_of : PySem.W.nsIn K mainGlobals "ahead_of" = some (some (.ref f_p_ahead_of))) (l_p_ahead_of : K.lookup f_p_ahead_of = some ⟨oc_p_ahead_of, od_p_ahead_of, .func (PySem.W.fnOf "ahead_of" "ahead_of" (defArgs s_p_ahead_of) (defBody s_p_ahead_of) (defScope s_p_ahead_of) .none kV_p_ahead_of dc_p_ahead_of pm_p_ahead_of an_p_ahead_of cd_p_ahead_of ct_p_ahead_of), sl_p_ahead_of⟩) (c_p_ahead_of : PySem.W.codeIn K cd_p_ahead_of "ahead_of" = true) (k_p_ahead_of : PySem.W.keepIn K (.ref f_p_ahead_of) = true)
    (a_p_with_alike_joined : PySem.W.nsIn K mainGlobals "with_alike_joined" = some (some (.ref f_p_with_alike_joined))) (l_p_with_alike_joined : K.lookup f_p_with_alike_joined = some ⟨oc_p_with_alike_joined, od_p_with_alike_joined, .func (PySem.W.fnOf "with_alike_joined" "with_alike_joined" (defArgs s_p_with_alike_joined) (defBody s_p_with_alike_joined) (defScope s_p_with_alike_joined) .none kV_p_with_alike_joined dc_p_with_alike_joined pm_p_with_alike_joined an_p_with_alike_joined cd_p_with_alike_joined ct_p_with_alike_joined), sl_p_with_alike_joined⟩) (c_p_with_alike_joined : PySem.W.codeIn K cd_p_with_alike_joined "with_alike_joined" = true) (k_p_with_alike_joined : PySem.W.keepIn K (.ref f_p_with_alike_joined) = true)
    (a_p_from_on : PySem.W.nsIn K mainGlobals "from_on" = some (some (.ref f_p_from_on))) (l_p_from_on : K.lookup f_p_from_on = some ⟨oc_p_from_on, od_p_from_on, .func (PySem.W.fnOf "from_on" "from_on" (defArgs s_p_from_on) (defBody s_p_from_on) (defScope s_p_from_on) .none kV_p_from_on dc_p_from_on pm_p_from_on an_p_from_on cd_p_from_on ct_p_from_on), sl_p_from_on⟩) (c_p_from_on : PySem.W.codeIn K cd_p_from_on "from_on" = true) (k_p_from_on : PySem.W.keepIn K (.ref f_p_from_on) = true)
    (a_p_put_on : PySem.W.nsIn K mainGlobals "put_on" = some (some (.ref f_p_put_on))) (l_p_put_on : K.lookup f_p_put_on = some ⟨oc_p_put_on, od_p_put_on, .func (PySem.W.fnOf "put_on" "put_on" (defArgs s_p_put_on) (defBody s_p_put_on) (defScope s_p_put_on) .none kV_p_put_on dc_p_put_on pm_p_put_on an_p_put_on cd_p_put_on ct_p_put_on), sl_p_put_on⟩) (c_p_put_on : PySem.W.codeIn K cd_p_put_on "put_on" = true) (k_p_put_on : PySem.W.keepIn K (.ref f_p_put_on) = true)
    (a_p_check_telling : PySem.W.nsIn K mainGlobals "check_telling" = some (some (.ref f_p_check_telling))) (l_p_check_telling : K.lookup f_p_check_telling = some ⟨oc_p_check_telling, od_p_check_telling, .func (PySem.W.fnOf "check_telling" "check_telling" (defArgs s_p_check_telling) (defBody s_p_check_telling) (defScope s_p_check_telling) .none kV_p_check_telling dc_p_check_telling pm_p_check_telling an_p_check_telling cd_p_check_telling ct_p_check_telling), sl_p_check_telling⟩) (c_p_check_telling : PySem.W.codeIn K cd_p_check_telling "check_telling" = true) (k_p_check_telling : PySem.W.keepIn K (.ref f_p_check_telling) = true)
    (a_p_line_behind : PySem.W.nsIn K mainGlobals "line_behind" = some (some (.ref f_p_line_behind))) (l_p_line_behind : K.lookup f_p_line_behind = some ⟨oc_p_line_behind, od_p_line_behind, .func (PySem.W.fnOf "line_behind" "line_behind" (defArgs s_p_line_behind) (defBody s_p_line_behind) (defScope s_p_line_behind) .none kV_p_line_behind dc_p_line_behind pm_p_line_behind an_p_line_behind cd_p_line_behind ct_p_line_behind), sl_p_line_behind⟩) (c_p_line_behind : PySem.W.codeIn K cd_p_line_behind "line_behind" = true) (k_p_line_behind : PySem.W.keepIn K (.ref f_p_line_behind) = true)
    (a_cell_at : PySem.W.nsIn K mainGlobals "_law_cell_at" = some (some (.ref f_cell_at))) (l_cell_at : K.lookup f_cell_at = some ⟨oc_cell_at, od_cell_at, .func (PySem.W.fnOf "_law_cell_at" "_law_cell_at" (defArgs s_cell_at) (defBody s_cell_at) (defScope s_cell_at) .none kV_cell_at dc_cell_at pm_cell_at an_cell_at cd_cell_at ct_cell_at), sl_cell_at⟩) (c_cell_at : PySem.W.codeIn K cd_cell_at "_law_cell_at" = true) (k_cell_at : PySem.W.keepIn K (.ref f_cell_at) = true)
    (a_mix : PySem.W.nsIn K mainGlobals "_law_mix" = some (some (.ref f_mix))) (l_mix : K.lookup f_mix = some ⟨oc_mix, od_mix, .func (PySem.W.fnOf "_law_mix" "_law_mix" (defArgs s_mix) (defBody s_mix) (defScope s_mix) .none kV_mix dc_mix pm_mix an_mix cd_mix ct_mix), sl_mix⟩) (c_mix : PySem.W.codeIn K cd_mix "_law_mix" = true) (k_mix : PySem.W.keepIn K (.ref f_mix) = true)
    (a_parts : PySem.W.nsIn K mainGlobals "_law_parts" = some (some (.ref f_parts))) (l_parts : K.lookup f_parts = some ⟨oc_parts, od_parts, .func (PySem.W.fnOf "_law_parts" "_law_parts" (defArgs s_parts) (defBody s_parts) (defScope s_parts) .none kV_parts dc_parts pm_parts an_parts cd_parts ct_parts), sl_parts⟩) (c_parts : PySem.W.codeIn K cd_parts "_law_parts" = true) (k_parts : PySem.W.keepIn K (.ref f_parts) = true)
    (a_names : PySem.W.nsIn K mainGlobals "_law_names" = some (some (.ref f_names))) (l_names : K.lookup f_names = some ⟨oc_names, od_names, .func (PySem.W.fnOf "_law_names" "_law_names" (defArgs s_names) (defBody s_names) (defScope s_names) .none kV_names dc_names pm_names an_names cd_names ct_names), sl_names⟩) (c_names : PySem.W.codeIn K cd_names "_law_names" = true) (k_names : PySem.W.keepIn K (.ref f_names) = true)
    (a_telling : PySem.W.nsIn K mainGlobals "_law_telling" = some (some (.ref f_telling))) (l_telling : K.lookup f_telling = some ⟨oc_telling, od_telling, .func (PySem.W.fnOf "_law_telling" "_law_telling" (defArgs s_telling) (defBody s_telling) (defScope s_telling) .none kV_telling dc_telling pm_telling an_telling cd_telling ct_telling), sl_telling⟩) (c_telling : PySem.W.codeIn K cd_telling "_law_telling" = true) (k_telling : PySem.W.keepIn K (.ref f_telling) = true)
    (a_bad_name : PySem.W.nsIn K mainGlobals "_law_bad_name" = some (some (.ref f_bad_name))) (l_bad_name : K.lookup f_bad_name = some ⟨oc_bad_name, od_bad_name, .func (PySem.W.fnOf "_law_bad_name" "_law_bad_name" (defArgs s_bad_name) (defBody s_bad_name) (defScope s_bad_name) .none kV_bad_name dc_bad_name pm_bad_name an_bad_name cd_bad_name ct_bad_name), sl_bad_name⟩) (c_bad_name : PySem.W.codeIn K cd_bad_name "_law_bad_name" = true) (k_bad_name : PySem.W.keepIn K (.ref f_bad_name) = true)
    (a_bad_stretch : PySem.W.nsIn K mainGlobals "_law_bad_stretch" = some (some (.ref f_bad_stretch))) (l_bad_stretch : K.lookup f_bad_stretch = some ⟨oc_bad_stretch, od_bad_stretch, .func (PySem.W.fnOf "_law_bad_stretch" "_law_bad_stretch" (defArgs s_bad_stretch) (defBody s_bad_stretch) (defScope s_bad_stretch) .none kV_bad_stretch dc_bad_stretch pm_bad_stretch an_bad_stretch cd_bad_stretch ct_bad_stretch), sl_bad_stretch⟩) (c_bad_stretch : PySem.W.codeIn K cd_bad_stretch "_law_bad_stretch" = true) (k_bad_stretch : PySem.W.keepIn K (.ref f_bad_stretch) = true)
    (a_bad : PySem.W.nsIn K mainGlobals "_law_bad" = some (some (.ref f_bad))) (l_bad : K.lookup f_bad = some ⟨oc_bad, od_bad, .func (PySem.W.fnOf "_law_bad" "_law_bad" (defArgs s_bad) (defBody s_bad) (defScope s_bad) .none kV_bad dc_bad pm_bad an_bad cd_bad ct_bad), sl_bad⟩) (c_bad : PySem.W.codeIn K cd_bad "_law_bad" = true) (k_bad : PySem.W.keepIn K (.ref f_bad) = true)
    (a_Sheet_keep_line : PySem.W.findIn K (.ref c_Sheet) "keep_line" = some (some (.ref f_Sheet_keep_line))) (i_Sheet_keep_line : PySem.W.isFn K (.ref f_Sheet_keep_line) = true) (l_Sheet_keep_line : K.lookup f_Sheet_keep_line = some ⟨oc_Sheet_keep_line, od_Sheet_keep_line, .func (PySem.W.fnOf "keep_line" "Sheet.keep_line" (defArgs s_Sheet_keep_line) (defBody s_Sheet_keep_line) (defScope s_Sheet_keep_line) .none kV_Sheet_keep_line dc_Sheet_keep_line pm_Sheet_keep_line an_Sheet_keep_line cd_Sheet_keep_line ct_Sheet_keep_line), sl_Sheet_keep_line⟩) (c_Sheet_keep_line : PySem.W.codeIn K cd_Sheet_keep_line "Sheet.keep_line" = true) (k_Sheet_keep_line : PySem.W.keepIn K (.ref f_Sheet_keep_line) = true)
    (a_Sheet_known_line : PySem.W.findIn K (.ref c_Sheet) "known_line" = some (some (.ref f_Sheet_known_line))) (i_Sheet_known_line : PySem.W.isFn K (.ref f_Sheet_known_line) = true) (l_Sheet_known_line : K.lookup f_Sheet_known_line = some ⟨oc_Sheet_known_line, od_Sheet_known_line, .func (PySem.W.fnOf "known_line" "Sheet.known_line" (defArgs s_Sheet_known_line) (defBody s_Sheet_known_line) (defScope s_Sheet_known_line) .none kV_Sheet_known_line dc_Sheet_known_line pm_Sheet_known_line an_Sheet_known_line cd_Sheet_known_line ct_Sheet_known_line), sl_Sheet_known_line⟩) (c_Sheet_known_line : PySem.W.codeIn K cd_Sheet_known_line "Sheet.known_line" = true) (k_Sheet_known_line : PySem.W.keepIn K (.ref f_Sheet_known_line) = true)
    (a_Sheet_tell : PySem.W.findIn K (.ref c_Sheet) "tell" = some (some (.ref f_Sheet_tell))) (i_Sheet_tell : PySem.W.isFn K (.ref f_Sheet_tell) = true) (l_Sheet_tell : K.lookup f_Sheet_tell = some ⟨oc_Sheet_tell, od_Sheet_tell, .func (PySem.W.fnOf "tell" "Sheet.tell" (defArgs s_Sheet_tell) (defBody s_Sheet_tell) (defScope s_Sheet_tell) .none kV_Sheet_tell dc_Sheet_tell pm_Sheet_tell an_Sheet_tell cd_Sheet_tell ct_Sheet_tell), sl_Sheet_tell⟩) (c_Sheet_tell : PySem.W.codeIn K cd_Sheet_tell "Sheet.tell" = true) (k_Sheet_tell : PySem.W.keepIn K (.ref f_Sheet_tell) = true)
    (a_refused : PySem.W.nsIn K mainGlobals "_law_refused" = some (some (.ref f_refused))) (l_refused : K.lookup f_refused = some ⟨oc_refused, od_refused, .func (PySem.W.fnOf "_law_refused" "_law_refused" (defArgs s_refused) (defBody s_refused) (defScope s_refused) .none kV_refused dc_refused pm_refused an_refused cd_refused ct_refused), sl_refused⟩) (c_refused : PySem.W.codeIn K cd_refused "_law_refused" = true) (k_refused : PySem.W.keepIn K (.ref f_refused) = true)
    (a_Sheet_knowings : PySem.W.findIn K (.ref c_Sheet) "knowings" = some (some (.ref f_Sheet_knowings))) (i_Sheet_knowings : PySem.W.isFn K (.ref f_Sheet_knowings) = true) (l_Sheet_knowings : K.lookup f_Sheet_knowings = some ⟨oc_Sheet_knowings, od_Sheet_knowings, .func (PySem.W.fnOf "knowings" "Sheet.knowings" (defArgs s_Sheet_knowings) (defBody s_Sheet_knowings) (defScope s_Sheet_knowings) .none kV_Sheet_knowings dc_Sheet_knowings pm_Sheet_knowings an_Sheet_knowings cd_Sheet_knowings ct_Sheet_knowings), sl_Sheet_knowings⟩) (c_Sheet_knowings : PySem.W.codeIn K cd_Sheet_knowings "Sheet.knowings" = true) (k_Sheet_knowings : PySem.W.keepIn K (.ref f_Sheet_knowings) = true)
    (a_Sheet_first : PySem.W.findIn K (.ref c_Sheet) "first" = some (some (.ref f_Sheet_first))) (i_Sheet_first : PySem.W.isFn K (.ref f_Sheet_first) = true) (l_Sheet_first : K.lookup f_Sheet_first = some ⟨oc_Sheet_first, od_Sheet_first, .func (PySem.W.fnOf "first" "Sheet.first" (defArgs s_Sheet_first) (defBody s_Sheet_first) (defScope s_Sheet_first) .none kV_Sheet_first dc_Sheet_first pm_Sheet_first an_Sheet_first cd_Sheet_first ct_Sheet_first), sl_Sheet_first⟩) (c_Sheet_first : PySem.W.codeIn K cd_Sheet_first "Sheet.first" = true) (k_Sheet_first : PySem.W.keepIn K (.ref f_Sheet_first) = true)
    (a_Sheet_check_knowing : PySem.W.findIn K (.ref c_Sheet) "check_knowing" = some (some (.ref f_Sheet_check_knowing))) (i_Sheet_check_knowing : PySem.W.isFn K (.ref f_Sheet_check_knowing) = true) (l_Sheet_check_knowing : K.lookup f_Sheet_check_knowing = some ⟨oc_Sheet_check_knowing, od_Sheet_check_knowing, .func (PySem.W.fnOf "check_knowing" "Sheet.check_knowing" (defArgs s_Sheet_check_knowing) (defBody s_Sheet_check_knowing) (defScope s_Sheet_check_knowing) .none kV_Sheet_check_knowing dc_Sheet_check_knowing pm_Sheet_check_knowing an_Sheet_check_knowing cd_Sheet_check_knowing ct_Sheet_check_knowing), sl_Sheet_check_knowing⟩) (c_Sheet_check_knowing : PySem.W.codeIn K cd_Sheet_check_knowing "Sheet.check_knowing" = true) (k_Sheet_check_knowing : PySem.W.keepIn K (.ref f_Sheet_check_knowing) = true)
    (a_Sheet_line_at : PySem.W.findIn K (.ref c_Sheet) "line_at" = some (some (.ref f_Sheet_line_at))) (i_Sheet_line_at : PySem.W.isFn K (.ref f_Sheet_line_at) = true) (l_Sheet_line_at : K.lookup f_Sheet_line_at = some ⟨oc_Sheet_line_at, od_Sheet_line_at, .func (PySem.W.fnOf "line_at" "Sheet.line_at" (defArgs s_Sheet_line_at) (defBody s_Sheet_line_at) (defScope s_Sheet_line_at) .none kV_Sheet_line_at dc_Sheet_line_at pm_Sheet_line_at an_Sheet_line_at cd_Sheet_line_at ct_Sheet_line_at), sl_Sheet_line_at⟩) (c_Sheet_line_at : PySem.W.codeIn K cd_Sheet_line_at "Sheet.line_at" = true) (k_Sheet_line_at : PySem.W.keepIn K (.ref f_Sheet_line_at) = true)
    (a_look : PySem.W.nsIn K mainGlobals "_law_look" = some (some (.ref f_look))) (l_look : K.lookup f_look = some ⟨oc_look, od_look, .func (PySem.W.fnOf "_law_look" "_law_look" (defArgs s_look) (defBody s_look) (defScope s_look) .none kV_look dc_look pm_look an_look cd_look ct_look), sl_look⟩) (c_look : PySem.W.codeIn K cd_look "_law_look" = true) (k_look : PySem.W.keepIn K (.ref f_look) = true)
    (a_Sheet___init__ : PySem.W.findIn K (.ref c_Sheet) "__init__" = some (some (.ref f_Sheet___init__))) (i_Sheet___init__ : PySem.W.isFn K (.ref f_Sheet___init__) = true) (l_Sheet___init__ : K.lookup f_Sheet___init__ = some ⟨oc_Sheet___init__, od_Sheet___init__, .func (PySem.W.fnOf "__init__" "Sheet.__init__" (defArgs s_Sheet___init__) (defBody s_Sheet___init__) (defScope s_Sheet___init__) .none kV_Sheet___init__ dc_Sheet___init__ pm_Sheet___init__ an_Sheet___init__ cd_Sheet___init__ ct_Sheet___init__), sl_Sheet___init__⟩) (c_Sheet___init__ : PySem.W.codeIn K cd_Sheet___init__ "Sheet.__init__" = true) (k_Sheet___init__ : PySem.W.keepIn K (.ref f_Sheet___init__) = true)
    (a_law : PySem.W.nsIn K mainGlobals "law" = some (some (.ref f_law))) (l_law : K.lookup f_law = some ⟨oc_law, od_law, .func (PySem.W.fnOf "law" "law" (defArgs s_law) (defBody s_law) (defScope s_law) .none kV_law dc_law pm_law an_law cd_law ct_law), sl_law⟩) (c_law : PySem.W.codeIn K cd_law "law" = true) (k_law : PySem.W.keepIn K (.ref f_law) = true)
    (z_all : PySem.W.nsIn K mainGlobals "all" = some none)
    (z_isinstance : PySem.W.nsIn K mainGlobals "isinstance" = some none)
    (z_str : PySem.W.nsIn K mainGlobals "str" = some none)
    (z_len : PySem.W.nsIn K mainGlobals "len" = some none)
    (z_bool : PySem.W.nsIn K mainGlobals "bool" = some none)
    (z_int : PySem.W.nsIn K mainGlobals "int" = some none)
    (z_min : PySem.W.nsIn K mainGlobals "min" = some none)
    (z_max : PySem.W.nsIn K mainGlobals "max" = some none)
    (z_range : PySem.W.nsIn K mainGlobals "range" = some none)
    (z_list : PySem.W.nsIn K mainGlobals "list" = some none)
    (z_tuple : PySem.W.nsIn K mainGlobals "tuple" = some none)
    (z_reversed : PySem.W.nsIn K mainGlobals "reversed" = some none)
    (z_ValueError : PySem.W.nsIn K mainGlobals "ValueError" = some none)
    (v_LONGEST_NAME : PySem.W.nsIn K mainGlobals "LONGEST_NAME" = some (some (.int 8 t_LONGEST_NAME)))
    (v_LAST_MOMENT : PySem.W.nsIn K mainGlobals "LAST_MOMENT" = some (some (.int 1000000000000 t_LAST_MOMENT))) :
    ∃ fd : FuncData, (∀ (s : Shared) (v : Value), BindsTo s fd ⟨[v], []⟩ [("script", v)]) ∧ ∀ base : Heap, K.In base → base.Ns mainGlobals mg → FnOk l.prog w K mg base CX0 7 fa fd ["script"] (lowP K sp_law) := by
  have e := hfa.symm.trans (PySem.W.mg_of X G a_law)
  cases e
  let a : Ad := ⟨f_p_is_name, (PySem.W.fnOf "is_name" "is_name" (defArgs s_p_is_name) (defBody s_p_is_name) (defScope s_p_is_name) .none kV_p_is_name dc_p_is_name pm_p_is_name an_p_is_name cd_p_is_name ct_p_is_name), f_p_is_moment, (PySem.W.fnOf "is_moment" "is_moment" (defArgs s_p_is_moment) (defBody s_p_is_moment) (defScope s_p_is_moment) .none kV_p_is_moment dc_p_is_moment pm_p_is_moment an_p_is_moment cd_p_is_moment ct_p_is_moment), f_p_is_stretch, (PySem.W.fnOf "is_stretch" "is_stretch" (defArgs s_p_is_stretch) (defBody s_p_is_stretch) (defScope s_p_is_stretch) .none kV_p_is_stretch dc_p_is_stretch pm_p_is_stretch an_p_is_stretch cd_p_is_stretch ct_p_is_stretch), f_p_earlier_end, (PySem.W.fnOf "earlier_end" "earlier_end" (defArgs s_p_earlier_end) (defBody s_p_earlier_end) (defScope s_p_earlier_end) .none kV_p_earlier_end dc_p_earlier_end pm_p_earlier_end an_p_earlier_end cd_p_earlier_end ct_p_earlier_end), f_p_check_name, (PySem.W.fnOf "check_name" "check_name" (defArgs s_p_check_name) (defBody s_p_check_name) (defScope s_p_check_name) .none kV_p_check_name dc_p_check_name pm_p_check_name an_p_check_name cd_p_check_name ct_p_check_name), f_p_check_stretch, (PySem.W.fnOf "check_stretch" "check_stretch" (defArgs s_p_check_stretch) (defBody s_p_check_stretch) (defScope s_p_check_stretch) .none kV_p_check_stretch dc_p_check_stretch pm_p_check_stretch an_p_check_stretch cd_p_check_stretch ct_p_check_stretch), f_p_check_in_reach, (PySem.W.fnOf "check_in_reach" "check_in_reach" (defArgs s_p_check_in_reach) (defBody s_p_check_in_reach) (defScope s_p_check_in_reach) .none kV_p_check_in_reach dc_p_check_in_reach pm_p_check_in_reach an_p_check_in_reach cd_p_check_in_reach ct_p_check_in_reach), f_p_ahead_of, (PySem.W.fnOf "ahead_of" "ahead_of" (defArgs s_p_ahead_of) (defBody s_p_ahead_of) (defScope s_p_ahead_of) .none kV_p_ahead_of dc_p_ahead_of pm_p_ahead_of an_p_ahead_of cd_p_ahead_of ct_p_ahead_of), f_p_with_alike_joined, (PySem.W.fnOf "with_alike_joined" "with_alike_joined" (defArgs s_p_with_alike_joined) (defBody s_p_with_alike_joined) (defScope s_p_with_alike_joined) .none kV_p_with_alike_joined dc_p_with_alike_joined pm_p_with_alike_joined an_p_with_alike_joined cd_p_with_alike_joined ct_p_with_alike_joined), f_p_from_on, (PySem.W.fnOf "from_on" "from_on" (defArgs s_p_from_on) (defBody s_p_from_on) (defScope s_p_from_on) .none kV_p_from_on dc_p_from_on pm_p_from_on an_p_from_on cd_p_from_on ct_p_from_on), f_p_put_on, (PySem.W.fnOf "put_on" "put_on" (defArgs s_p_put_on) (defBody s_p_put_on) (defScope s_p_put_on) .none kV_p_put_on dc_p_put_on pm_p_put_on an_p_put_on cd_p_put_on ct_p_put_on), f_p_check_telling, (PySem.W.fnOf "check_telling" "check_telling" (defArgs s_p_check_telling) (defBody s_p_check_telling) (defScope s_p_check_telling) .none kV_p_check_telling dc_p_check_telling pm_p_check_telling an_p_check_telling cd_p_check_telling ct_p_check_telling), f_p_line_behind, (PySem.W.fnOf "line_behind" "line_behind" (defArgs s_p_line_behind) (defBody s_p_line_behind) (defScope s_p_line_behind) .none kV_p_line_behind dc_p_line_behind pm_p_line_behind an_p_line_behind cd_p_line_behind ct_p_line_behind), f_cell_at, (PySem.W.fnOf "_law_cell_at" "_law_cell_at" (defArgs s_cell_at) (defBody s_cell_at) (defScope s_cell_at) .none kV_cell_at dc_cell_at pm_cell_at an_cell_at cd_cell_at ct_cell_at), f_mix, (PySem.W.fnOf "_law_mix" "_law_mix" (defArgs s_mix) (defBody s_mix) (defScope s_mix) .none kV_mix dc_mix pm_mix an_mix cd_mix ct_mix), f_parts, (PySem.W.fnOf "_law_parts" "_law_parts" (defArgs s_parts) (defBody s_parts) (defScope s_parts) .none kV_parts dc_parts pm_parts an_parts cd_parts ct_parts), f_names, (PySem.W.fnOf "_law_names" "_law_names" (defArgs s_names) (defBody s_names) (defScope s_names) .none kV_names dc_names pm_names an_names cd_names ct_names), f_telling, (PySem.W.fnOf "_law_telling" "_law_telling" (defArgs s_telling) (defBody s_telling) (defScope s_telling) .none kV_telling dc_telling pm_telling an_telling cd_telling ct_telling), f_bad_name, (PySem.W.fnOf "_law_bad_name" "_law_bad_name" (defArgs s_bad_name) (defBody s_bad_name) (defScope s_bad_name) .none kV_bad_name dc_bad_name pm_bad_name an_bad_name cd_bad_name ct_bad_name), f_bad_stretch, (PySem.W.fnOf "_law_bad_stretch" "_law_bad_stretch" (defArgs s_bad_stretch) (defBody s_bad_stretch) (defScope s_bad_stretch) .none kV_bad_stretch dc_bad_stretch pm_bad_stretch an_bad_stretch cd_bad_stretch ct_bad_stretch), f_bad, (PySem.W.fnOf "_law_bad" "_law_bad" (defArgs s_bad) (defBody s_bad) (defScope s_bad) .none kV_bad dc_bad pm_bad an_bad cd_bad ct_bad), f_Sheet_keep_line, (PySem.W.fnOf "keep_line" "Sheet.keep_line" (defArgs s_Sheet_keep_line) (defBody s_Sheet_keep_line) (defScope s_Sheet_keep_line) .none kV_Sheet_keep_line dc_Sheet_keep_line pm_Sheet_keep_line an_Sheet_keep_line cd_Sheet_keep_line ct_Sheet_keep_line), f_Sheet_known_line, (PySem.W.fnOf "known_line" "Sheet.known_line" (defArgs s_Sheet_known_line) (defBody s_Sheet_known_line) (defScope s_Sheet_known_line) .none kV_Sheet_known_line dc_Sheet_known_line pm_Sheet_known_line an_Sheet_known_line cd_Sheet_known_line ct_Sheet_known_line), f_Sheet_tell, (PySem.W.fnOf "tell" "Sheet.tell" (defArgs s_Sheet_tell) (defBody s_Sheet_tell) (defScope s_Sheet_tell) .none kV_Sheet_tell dc_Sheet_tell pm_Sheet_tell an_Sheet_tell cd_Sheet_tell ct_Sheet_tell), f_refused, (PySem.W.fnOf "_law_refused" "_law_refused" (defArgs s_refused) (defBody s_refused) (defScope s_refused) .none kV_refused dc_refused pm_refused an_refused cd_refused ct_refused), f_Sheet_knowings, (PySem.W.fnOf "knowings" "Sheet.knowings" (defArgs s_Sheet_knowings) (defBody s_Sheet_knowings) (defScope s_Sheet_knowings) .none kV_Sheet_knowings dc_Sheet_knowings pm_Sheet_knowings an_Sheet_knowings cd_Sheet_knowings ct_Sheet_knowings), f_Sheet_first, (PySem.W.fnOf "first" "Sheet.first" (defArgs s_Sheet_first) (defBody s_Sheet_first) (defScope s_Sheet_first) .none kV_Sheet_first dc_Sheet_first pm_Sheet_first an_Sheet_first cd_Sheet_first ct_Sheet_first), f_Sheet_check_knowing, (PySem.W.fnOf "check_knowing" "Sheet.check_knowing" (defArgs s_Sheet_check_knowing) (defBody s_Sheet_check_knowing) (defScope s_Sheet_check_knowing) .none kV_Sheet_check_knowing dc_Sheet_check_knowing pm_Sheet_check_knowing an_Sheet_check_knowing cd_Sheet_check_knowing ct_Sheet_check_knowing), f_Sheet_line_at, (PySem.W.fnOf "line_at" "Sheet.line_at" (defArgs s_Sheet_line_at) (defBody s_Sheet_line_at) (defScope s_Sheet_line_at) .none kV_Sheet_line_at dc_Sheet_line_at pm_Sheet_line_at an_Sheet_line_at cd_Sheet_line_at ct_Sheet_line_at), f_look, (PySem.W.fnOf "_law_look" "_law_look" (defArgs s_look) (defBody s_look) (defScope s_look) .none kV_look dc_look pm_look an_look cd_look ct_look), f_Sheet___init__, (PySem.W.fnOf "__init__" "Sheet.__init__" (defArgs s_Sheet___init__) (defBody s_Sheet___init__) (defScope s_Sheet___init__) .none kV_Sheet___init__ dc_Sheet___init__ pm_Sheet___init__ an_Sheet___init__ cd_Sheet___init__ ct_Sheet___init__), fa, (PySem.W.fnOf "law" "law" (defArgs s_law) (defBody s_law) (defScope s_law) .none kV_law dc_law pm_law an_law cd_law ct_law), c_Sheet, x_NoName, x_NoStretch, x_TimesError, x_Broken, x_Forgotten, x_NoFit, x_NoKnowing, x_NoLog, x_NoRow, x_NoSheet⟩
  have F : Fns K a := ⟨fun_mk (st := s_p_is_name) l_p_is_name c_p_is_name k_p_is_name, fun_mk (st := s_p_is_moment) l_p_is_moment c_p_is_moment k_p_is_moment, fun_mk (st := s_p_is_stretch) l_p_is_stretch c_p_is_stretch k_p_is_stretch, fun_mk (st := s_p_earlier_end) l_p_earlier_end c_p_earlier_end k_p_earlier_end, fun_mk (st := s_p_check_name) l_p_check_name c_p_check_name k_p_check_name, fun_mk (st := s_p_check_stretch) l_p_check_stretch c_p_check_stretch k_p_check_stretch, fun_mk (st := s_p_check_in_reach) l_p_check_in_reach c_p_check_in_reach k_p_check_in_reach, fun_mk (st := s_p_ahead_of) l_p_ahead_of c_p_ahead_of k_p_ahead_of, fun_mk (st := s_p_with_alike_joined) l_p_with_alike_joined c_p_with_alike_joined k_p_with_alike_joined, fun_mk (st := s_p_from_on) l_p_from_on c_p_from_on k_p_from_on, fun_mk (st := s_p_put_on) l_p_put_on c_p_put_on k_p_put_on, fun_mk (st := s_p_check_telling) l_p_check_telling c_p_check_telling k_p_check_telling, fun_mk (st := s_p_line_behind) l_p_line_behind c_p_line_behind k_p_line_behind, fun_mk (st := s_cell_at) l_cell_at c_cell_at k_cell_at, fun_mk (st := s_mix) l_mix c_mix k_mix, fun_mk (st := s_parts) l_parts c_parts k_parts, fun_mk (st := s_names) l_names c_names k_names, fun_mk (st := s_telling) l_telling c_telling k_telling, fun_mk (st := s_bad_name) l_bad_name c_bad_name k_bad_name, fun_mk (st := s_bad_stretch) l_bad_stretch c_bad_stretch k_bad_stretch, fun_mk (st := s_bad) l_bad c_bad k_bad, fun_mk (st := s_Sheet_keep_line) l_Sheet_keep_line c_Sheet_keep_line k_Sheet_keep_line, fun_mk (st := s_Sheet_known_line) l_Sheet_known_line c_Sheet_known_line k_Sheet_known_line, fun_mk (st := s_Sheet_tell) l_Sheet_tell c_Sheet_tell k_Sheet_tell, fun_mk (st := s_refused) l_refused c_refused k_refused, fun_mk (st := s_Sheet_knowings) l_Sheet_knowings c_Sheet_knowings k_Sheet_knowings, fun_mk (st := s_Sheet_first) l_Sheet_first c_Sheet_first k_Sheet_first, fun_mk (st := s_Sheet_check_knowing) l_Sheet_check_knowing c_Sheet_check_knowing k_Sheet_check_knowing, fun_mk (st := s_Sheet_line_at) l_Sheet_line_at c_Sheet_line_at k_Sheet_line_at, fun_mk (st := s_look) l_look c_look k_look, fun_mk (st := s_Sheet___init__) l_Sheet___init__ c_Sheet___init__ k_Sheet___init__, fun_mk (st := s_law) l_law c_law k_law⟩
  have T : Txt K mg a := ⟨PySem.W.mg_of X G a_p_is_name, k_p_is_name, PySem.W.mg_of X G a_p_is_moment, k_p_is_moment, PySem.W.mg_of X G a_p_is_stretch, k_p_is_stretch, PySem.W.mg_of X G a_p_earlier_end, k_p_earlier_end, PySem.W.mg_of X G a_p_check_name, k_p_check_name, PySem.W.mg_of X G a_p_check_stretch, k_p_check_stretch, PySem.W.mg_of X G a_p_check_in_reach, k_p_check_in_reach, PySem.W.mg_of X G a_p_ahead_of, k_p_ahead_of, PySem.W.mg_of X G a_p_with_alike_joined, k_p_with_alike_joined, PySem.W.mg_of X G a_p_from_on, k_p_from_on, PySem.W.mg_of X G a_p_put_on, k_p_put_on, PySem.W.mg_of X G a_p_check_telling, k_p_check_telling, PySem.W.mg_of X G a_p_line_behind, k_p_line_behind, PySem.W.mg_of X G a_cell_at, k_cell_at, PySem.W.mg_of X G a_mix, k_mix, PySem.W.mg_of X G a_parts, k_parts, PySem.W.mg_of X G a_names, k_names, PySem.W.mg_of X G a_telling, k_telling, PySem.W.mg_of X G a_bad_name, k_bad_name, PySem.W.mg_of X G a_bad_stretch, k_bad_stretch, PySem.W.mg_of X G a_bad, k_bad, ⟨a_Sheet_keep_line, i_Sheet_keep_line, k_Sheet_keep_line⟩, k_Sheet_keep_line, ⟨a_Sheet_known_line, i_Sheet_known_line, k_Sheet_known_line⟩, k_Sheet_known_line, ⟨a_Sheet_tell, i_Sheet_tell, k_Sheet_tell⟩, k_Sheet_tell, PySem.W.mg_of X G a_refused, k_refused, ⟨a_Sheet_knowings, i_Sheet_knowings, k_Sheet_knowings⟩, k_Sheet_knowings, ⟨a_Sheet_first, i_Sheet_first, k_Sheet_first⟩, k_Sheet_first, ⟨a_Sheet_check_knowing, i_Sheet_check_knowing, k_Sheet_check_knowing⟩, k_Sheet_check_knowing, ⟨a_Sheet_line_at, i_Sheet_line_at, k_Sheet_line_at⟩, k_Sheet_line_at, PySem.W.mg_of X G a_look, k_look, ⟨a_Sheet___init__, i_Sheet___init__, k_Sheet___init__⟩, k_Sheet___init__, PySem.W.mg_of X G a_law, k_law, PySem.W.mg_none_of X G z_all, PySem.W.mg_none_of X G z_isinstance, PySem.W.mg_none_of X G z_str, PySem.W.mg_none_of X G z_len, PySem.W.mg_none_of X G z_bool, PySem.W.mg_none_of X G z_int, PySem.W.mg_none_of X G z_min, PySem.W.mg_none_of X G z_max, PySem.W.mg_none_of X G z_range, PySem.W.mg_none_of X G z_list, PySem.W.mg_none_of X G z_tuple, PySem.W.mg_none_of X G z_reversed, PySem.W.mg_none_of X G z_ValueError, ⟨pg_Sheet, hd_Sheet, po_Sheet, sa_Sheet⟩, PySem.W.mg_of X G aC_Sheet, ⟨mk_Sheet, a_Sheet___init__, i_Sheet___init__, kc_Sheet⟩, na_last, na_kept, PySem.W.mg_of X G ax_NoName, PySem.W.mg_of X G ax_NoStretch, PySem.W.mg_of X G ax_TimesError, PySem.W.mg_of X G ax_Broken, PySem.W.mg_of X G ax_Forgotten, PySem.W.mg_of X G ax_NoFit, PySem.W.mg_of X G ax_NoKnowing, PySem.W.mg_of X G ax_NoLog, PySem.W.mg_of X G ax_NoRow, PySem.W.mg_of X G ax_NoSheet, xi_NoName, xi_NoStretch, exm_mk xb_NoName_TimesError xt_NoName_TimesError xs_NoName_TimesError xh_NoName_TimesError, exm_mk xb_NoStretch_TimesError xt_NoStretch_TimesError xs_NoStretch_TimesError xh_NoStretch_TimesError, exk_mk ea_NoName eb_NoName ec_NoName ed_NoName ee_NoName ef_NoName eg_NoName eh_NoName, exk_mk ea_NoStretch eb_NoStretch ec_NoStretch ed_NoStretch ee_NoStretch ef_NoStretch eg_NoStretch eh_NoStretch, kt_NoStretch_NoName, kt_NoName_NoStretch, kt_NoName_ValueError, kt_NoStretch_ValueError, ka_NoName_0, ka_NoStretch_1, ⟨t_LONGEST_NAME, PySem.W.mg_of X G v_LONGEST_NAME⟩, ⟨t_LAST_MOMENT, PySem.W.mg_of X G v_LAST_MOMENT⟩⟩
  exact ⟨a.d_law, fun s v => .of_eq rfl, fun base _ _ => ok_law F T⟩
theorem walk {l : PySem.W.OpenLaw} {q : Program} {loose : List Str} {XP : (Str → Option Value) → Heap → Prop} {YP : World → Heap → Prop} {d : DefRec} {K : Params → PySem.W.Frag} (hn : l.most = some 63) (hdf : d.params.defaults = [])
    (hY : ∀ (w : World) (h : Heap), YP w h → (K w.params).In h)
    (F : ∀ (w : World) (mg : Str → Option Value) (fa : Addr) (h : Heap), (K w.params).In h → h.Ns mainGlobals mg → mg d.name = some (.ref fa) →
      ∃ fd : FuncData, (∀ (s : Shared) (u : Value), BindsTo s fd ⟨[u], []⟩ [("script", u)]) ∧ ∀ base : Heap, (K w.params).In base → base.Ns mainGlobals mg → FnOk l.prog w (K w.params) mg base CX0 7 fa fd ["script"] (lowP (K w.params) sp_law)) :
    PySem.W.WalkO q loose XP YP l.row.toRowW d [] (fun f vs => PySem.call f vs) :=
  L2.walk_of (n := 63) (k := 7) (x := "script") (CX := fun _ => CX0) (sp := fun w => lowP (K w.params) sp_law) hn (by decide) hdf ⟨rfl, by decide, by decide⟩ hY F (fun _ _ a ns hl hO hS => law_start a ns hl (Fz.of hO hS)) fun _ _ _ _ _ z => z
end Lw
open PySem PySem.W PyProof.Rows
set_option maxRecDepth 100000 in
set_option maxHeartbeats 0 in
theorem PySem.Challenge.cw_twotimes_k11_told_and_refused_holds : PySem.Challenge.rw_twotimes_k11_told_and_refused.Holds := by
  w_on; o_law; k_head; (case hw => w_witness2)
  k_fill
  refine Lw.walk (l := PySem.Challenge.rw_twotimes_k11_told_and_refused) rfl rfl (fun w h Y => PySem.W.kIn_of Y) ?F
  case F =>
    intro w mg fa h KX G hmg
    refine' Lw.all_mk KX G hmg ?aC_Sheet ?pg_Sheet ?hd_Sheet ?po_Sheet ?sa_Sheet ?mk_Sheet ?kc_Sheet ?na_last ?na_kept ?ax_NoName ?ax_NoStretch ?ax_TimesError ?ax_Broken ?ax_Forgotten ?ax_NoFit ?ax_NoKnowing ?ax_NoLog ?ax_NoRow ?ax_NoSheet ?xi_NoName ?xi_NoStretch ?xb_NoName_TimesError ?xt_NoName_TimesError ?xs_NoName_TimesError ?xh_NoName_TimesError ?xb_NoStretch_TimesError ?xt_NoStretch_TimesError ?xs_NoStretch_TimesError ?xh_NoStretch_TimesError ?ea_NoName ?eb_NoName ?ec_NoName ?ed_NoName ?ee_NoName ?ef_NoName ?eg_NoName ?eh_NoName ?ea_NoStretch ?eb_NoStretch ?ec_NoStretch ?ed_NoStretch ?ee_NoStretch ?ef_NoStretch ?eg_NoStretch ?eh_NoStretch ?kt_NoStretch_NoName ?kt_NoName_NoStretch ?kt_NoName_ValueError ?kt_NoStretch_ValueError ?ka_NoName_0 ?ka_NoStretch_1 ?a_p_is_name ?l_p_is_name ?c_p_is_name ?k_p_is_name ?a_p_is_moment ?l_p_is_moment ?c_p_is_moment ?k_p_is_moment ?a_p_is_stretch ?l_p_is_stretch ?c_p_is_stretch ?k_p_is_stretch ?a_p_earlier_end ?l_p_earlier_end ?c_p_earlier_end ?k_p_earlier_end ?a_p_check_name ?l_p_check_name ?c_p_check_name ?k_p_check_name ?a_p_check_stretch ?l_p_check_stretch ?c_p_check_stretch ?k_p_check_stretch ?a_p_check_in_reach ?l_p_check_in_reach ?c_p_check_in_reach ?k_p_check_in_reach ?a_p_ahead_of ?l_p_ahead_of ?c_p_ahead_of ?k_p_ahead_of ?a_p_with_alike_joined ?l_p_with_alike_joined ?c_p_with_alike_joined ?k_p_with_alike_joined ?a_p_from_on ?l_p_from_on ?c_p_from_on ?k_p_from_on ?a_p_put_on ?l_p_put_on ?c_p_put_on ?k_p_put_on ?a_p_check_telling ?l_p_check_telling ?c_p_check_telling ?k_p_check_telling ?a_p_line_behind ?l_p_line_behind ?c_p_line_behind ?k_p_line_behind ?a_cell_at ?l_cell_at ?c_cell_at ?k_cell_at ?a_mix ?l_mix ?c_mix ?k_mix ?a_parts ?l_parts ?c_parts ?k_parts ?a_names ?l_names ?c_names ?k_names ?a_telling ?l_telling ?c_telling ?k_telling ?a_bad_name ?l_bad_name ?c_bad_name ?k_bad_name ?a_bad_stretch ?l_bad_stretch ?c_bad_stretch ?k_bad_stretch ?a_bad ?l_bad ?c_bad ?k_bad ?a_Sheet_keep_line ?i_Sheet_keep_line ?l_Sheet_keep_line ?c_Sheet_keep_line ?k_Sheet_keep_line ?a_Sheet_known_line ?i_Sheet_known_line ?l_Sheet_known_line ?c_Sheet_known_line ?k_Sheet_known_line ?a_Sheet_tell ?i_Sheet_tell ?l_Sheet_tell ?c_Sheet_tell ?k_Sheet_tell ?a_refused ?l_refused ?c_refused ?k_refused ?a_Sheet_knowings ?i_Sheet_knowings ?l_Sheet_knowings ?c_Sheet_knowings ?k_Sheet_knowings ?a_Sheet_first ?i_Sheet_first ?l_Sheet_first ?c_Sheet_first ?k_Sheet_first ?a_Sheet_check_knowing ?i_Sheet_check_knowing ?l_Sheet_check_knowing ?c_Sheet_check_knowing ?k_Sheet_check_knowing ?a_Sheet_line_at ?i_Sheet_line_at ?l_Sheet_line_at ?c_Sheet_line_at ?k_Sheet_line_at ?a_look ?l_look ?c_look ?k_look ?a_Sheet___init__ ?i_Sheet___init__ ?l_Sheet___init__ ?c_Sheet___init__ ?k_Sheet___init__ ?a_law ?l_law ?c_law ?k_law ?z_all ?z_isinstance ?z_str ?z_len ?z_bool ?z_int ?z_min ?z_max ?z_range ?z_list ?z_tuple ?z_reversed ?z_ValueError ?v_LONGEST_NAME ?v_LAST_MOMENT
    (case aC_Sheet => k_is)
    (case pg_Sheet => k_is)
    (case hd_Sheet => k_is)
    (case po_Sheet => k_is)
    (case sa_Sheet => k_is)
    (case mk_Sheet => k_is)
    (case kc_Sheet => k_is)
    (case na_last => k_is)
    (case na_kept => k_is)
    (case ax_NoName => k_is)
    (case ax_NoStretch => k_is)
    (case ax_TimesError => k_is)
    (case ax_Broken => k_is)
    (case ax_Forgotten => k_is)
    (case ax_NoFit => k_is)
    (case ax_NoKnowing => k_is)
    (case ax_NoLog => k_is)
    (case ax_NoRow => k_is)
    (case ax_NoSheet => k_is)
    (case xi_NoName => k_exc)
    (case xi_NoStretch => k_exc)
    (case xb_NoName_TimesError => k_is)
    (case xt_NoName_TimesError => k_is)
    (case xs_NoName_TimesError => k_is)
    (case xh_NoName_TimesError => k_is)
    (case xb_NoStretch_TimesError => k_is)
    (case xt_NoStretch_TimesError => k_is)
    (case xs_NoStretch_TimesError => k_is)
    (case xh_NoStretch_TimesError => k_is)
    (case ea_NoName => k_is)
    (case eb_NoName => k_is)
    (case ec_NoName => k_is)
    (case ed_NoName => k_is)
    (case ee_NoName => k_is)
    (case ef_NoName => k_is)
    (case eg_NoName => k_is)
    (case eh_NoName => k_is)
    (case ea_NoStretch => k_is)
    (case eb_NoStretch => k_is)
    (case ec_NoStretch => k_is)
    (case ed_NoStretch => k_is)
    (case ee_NoStretch => k_is)
    (case ef_NoStretch => k_is)
    (case eg_NoStretch => k_is)
    (case eh_NoStretch => k_is)
    (case kt_NoStretch_NoName => kit_is)
    (case kt_NoName_NoStretch => kit_is)
    (case kt_NoName_ValueError => kit_is)
    (case kt_NoStretch_ValueError => kit_is)
    (case ka_NoName_0 => kit_is)
    (case ka_NoStretch_1 => kit_is)
    (case a_p_is_name => k_is)
    (case l_p_is_name => k_is)
    (case c_p_is_name => k_is)
    (case k_p_is_name => k_is)
    (case a_p_is_moment => k_is)
    (case l_p_is_moment => k_is)
    (case c_p_is_moment => k_is)
    (case k_p_is_moment => k_is)
    (case a_p_is_stretch => k_is)
    (case l_p_is_stretch => k_is)
    (case c_p_is_stretch => k_is)
    (case k_p_is_stretch => k_is)
    (case a_p_earlier_end => k_is)
    (case l_p_earlier_end => k_is)
    (case c_p_earlier_end => k_is)
    (case k_p_earlier_end => k_is)
    (case a_p_check_name => k_is)
    (case l_p_check_name => k_is)
    (case c_p_check_name => k_is)
    (case k_p_check_name => k_is)
    (case a_p_check_stretch => k_is)
    (case l_p_check_stretch => k_is)
    (case c_p_check_stretch => k_is)
    (case k_p_check_stretch => k_is)
    (case a_p_check_in_reach => k_is)
    (case l_p_check_in_reach => k_is)
    (case c_p_check_in_reach => k_is)
    (case k_p_check_in_reach => k_is)
    (case a_p_ahead_of => k_is)
    (case l_p_ahead_of => k_is)
    (case c_p_ahead_of => k_is)
    (case k_p_ahead_of => k_is)
    (case a_p_with_alike_joined => k_is)
    (case l_p_with_alike_joined => k_is)
    (case c_p_with_alike_joined => k_is)
    (case k_p_with_alike_joined => k_is)
    (case a_p_from_on => k_is)
    (case l_p_from_on => k_is)
    (case c_p_from_on => k_is)
    (case k_p_from_on => k_is)
    (case a_p_put_on => k_is)
    (case l_p_put_on => k_is)
    (case c_p_put_on => k_is)
    (case k_p_put_on => k_is)
    (case a_p_check_telling => k_is)
    (case l_p_check_telling => k_is)
    (case c_p_check_telling => k_is)
    (case k_p_check_telling => k_is)
    (case a_p_line_behind => k_is)
    (case l_p_line_behind => k_is)
    (case c_p_line_behind => k_is)
    (case k_p_line_behind => k_is)
    (case a_cell_at => k_is)
    (case l_cell_at => k_is)
    (case c_cell_at => k_is)
    (case k_cell_at => k_is)
    (case a_mix => k_is)
    (case l_mix => k_is)
    (case c_mix => k_is)
    (case k_mix => k_is)
    (case a_parts => k_is)
    (case l_parts => k_is)
    (case c_parts => k_is)
    (case k_parts => k_is)
    (case a_names => k_is)
    (case l_names => k_is)
    (case c_names => k_is)
    (case k_names => k_is)
    (case a_telling => k_is)
    (case l_telling => k_is)
    (case c_telling => k_is)
    (case k_telling => k_is)
    (case a_bad_name => k_is)
    (case l_bad_name => k_is)
    (case c_bad_name => k_is)
    (case k_bad_name => k_is)
    (case a_bad_stretch => k_is)
    (case l_bad_stretch => k_is)
    (case c_bad_stretch => k_is)
    (case k_bad_stretch => k_is)
    (case a_bad => k_is)
    (case l_bad => k_is)
    (case c_bad => k_is)
    (case k_bad => k_is)
    (case a_Sheet_keep_line => k_is)
    (case i_Sheet_keep_line => k_is)
    (case l_Sheet_keep_line => k_is)
    (case c_Sheet_keep_line => k_is)
    (case k_Sheet_keep_line => k_is)
    (case a_Sheet_known_line => k_is)
    (case i_Sheet_known_line => k_is)
    (case l_Sheet_known_line => k_is)
    (case c_Sheet_known_line => k_is)
    (case k_Sheet_known_line => k_is)
    (case a_Sheet_tell => k_is)
    (case i_Sheet_tell => k_is)
    (case l_Sheet_tell => k_is)
    (case c_Sheet_tell => k_is)
    (case k_Sheet_tell => k_is)
    (case a_refused => k_is)
    (case l_refused => k_is)
    (case c_refused => k_is)
    (case k_refused => k_is)
    (case a_Sheet_knowings => k_is)
    (case i_Sheet_knowings => k_is)
    (case l_Sheet_knowings => k_is)
    (case c_Sheet_knowings => k_is)
    (case k_Sheet_knowings => k_is)
    (case a_Sheet_first => k_is)
    (case i_Sheet_first => k_is)
    (case l_Sheet_first => k_is)
    (case c_Sheet_first => k_is)
    (case k_Sheet_first => k_is)
    (case a_Sheet_check_knowing => k_is)
    (case i_Sheet_check_knowing => k_is)
    (case l_Sheet_check_knowing => k_is)
    (case c_Sheet_check_knowing => k_is)
    (case k_Sheet_check_knowing => k_is)
    (case a_Sheet_line_at => k_is)
    (case i_Sheet_line_at => k_is)
    (case l_Sheet_line_at => k_is)
    (case c_Sheet_line_at => k_is)
    (case k_Sheet_line_at => k_is)
    (case a_look => k_is)
    (case l_look => k_is)
    (case c_look => k_is)
    (case k_look => k_is)
    (case a_Sheet___init__ => k_is)
    (case i_Sheet___init__ => k_is)
    (case l_Sheet___init__ => k_is)
    (case c_Sheet___init__ => k_is)
    (case k_Sheet___init__ => k_is)
    (case a_law => k_is)
    (case l_law => k_is)
    (case c_law => k_is)
    (case k_law => k_is)
    (case z_all => k_is)
    (case z_isinstance => k_is)
    (case z_str => k_is)
    (case z_len => k_is)
    (case z_bool => k_is)
    (case z_int => k_is)
    (case z_min => k_is)
    (case z_max => k_is)
    (case z_range => k_is)
    (case z_list => k_is)
    (case z_tuple => k_is)
    (case z_reversed => k_is)
    (case z_ValueError => k_is)
    (case v_LONGEST_NAME => k_is)
    (case v_LAST_MOMENT => k_is)
